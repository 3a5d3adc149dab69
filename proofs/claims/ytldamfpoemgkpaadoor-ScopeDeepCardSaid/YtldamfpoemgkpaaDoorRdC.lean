/-
  READING A TEXT PLACE BY PLACE (own work): a mark, then a number; the same as reading by a pattern.
-/
import Derived.Test.YtldamfpoemgkpaaDoorIdsC
namespace Go.Proofs.YtldamfpoemgkpaaDoor

/-- the number that a text begins with, and what stands behind it -/
def firstM (t : List Int) : Option (Int × List Int) :=
  if t.takeWhile isD = [48] ∨ (t.takeWhile isD ≠ [] ∧ (t.takeWhile isD).getD 0 0 ≠ 48) then some (numC (t.takeWhile isD), t.drop (t.takeWhile isD).length) else none
/-- behind a mark: the text without it -/
def cutM (c : Int) : List Int → Option (List Int)
  | [] => none
  | x :: r => if x = c then some r else none
/-- a text's numbers, a mark ahead of each; and what is left -/
def rdM : List Int → List Int → Option (List Int × List Int)
  | [], s => some ([], s)
  | c :: cs, s => match cutM c s with
    | none => none
    | some r => match firstM r with
      | none => none
      | some q => (rdM cs q.2).map fun x => (q.1 :: x.1, x.2)
/-- the pattern of marks -/
def patM (cs : List Int) : List Int := cs.flatMap fun c => [c, 35]

theorem first_sign {l : List Int} : l = [48] ∨ (l ≠ [] ∧ l.getD 0 0 ≠ 48) ↔ ¬ (l.length = 0 ∨ (1 < l.length ∧ l.getD 0 0 = 48)) := by
  match l with
  | [] => simp
  | [x] =>
    simp only [List.cons.injEq, and_true, List.length_cons, List.length_nil]
    by_cases h : x = 48
    · simp [h]
    · simp [h]
  | x :: y :: r =>
    simp

theorem takeWhile_head {S : List Int} {a : Nat} (h : 0 < ((S.drop a).takeWhile isD).length) : ((S.drop a).takeWhile isD).getD 0 0 = S.getD a 0 := by
  have e : S.getD a 0 = (S.drop a).getD 0 0 := by simp [List.getD, List.getElem?_drop]
  rw [e]
  cases hd : S.drop a with
  | nil => rw [hd] at h; simp at h
  | cons x r =>
    rw [hd] at h
    by_cases hx : isD x = true
    · simp [hx]
    · simp [hx] at h
theorem takeWhile_take (p : Int → Bool) : ∀ l : List Int, l.takeWhile p = l.take (l.takeWhile p).length
  | [] => rfl
  | x :: l => by
    by_cases hx : p x = true
    · simp only [List.takeWhile_cons, hx, if_true, List.length_cons, List.take_succ_cons]
      rw [← takeWhile_take p l]
    · simp [hx]
theorem takeWhile_le (p : Int → Bool) (l : List Int) : (l.takeWhile p).length ≤ l.length := by
  have := congrArg List.length (takeWhile_take p l)
  rw [List.length_take] at this
  omega

theorem rdM_read {S : List Int} : ∀ (cs : List Int) (_ : ∀ c ∈ cs, c ≠ 35) (a : Nat) (out : List Int) (_ : a ≤ S.length),
    readM S (patM cs) a out = (rdM cs (S.drop a)).map fun x => (out ++ x.1, S.length - x.2.length)
  | [], _, a, out, ha => by
    simp only [patM, List.flatMap_nil, readM, rdM, Option.map_some, List.append_nil, List.length_drop]
    congr 2
    omega
  | c :: cs, hc, a, out, ha => by
    have e : patM (c :: cs) = c :: 35 :: patM cs := rfl
    rw [e, readM, if_neg (hc c (by simp)), rdM]
    by_cases hl : a < S.length
    · have hd : S.drop a = S.getD a 0 :: S.drop (a + 1) := by
        rw [List.drop_eq_getElem_cons hl]
        simp [List.getD, hl]
      rw [hd]
      by_cases hm : S.getD a 0 = c
      · rw [if_pos ⟨hl, hm⟩, readM, if_pos rfl]
        simp only [cutM, hm, if_true]
        unfold firstM
        have hrd : ((S.drop (a + 1)).takeWhile isD).length = runD S (a + 1) := rfl
        by_cases hq : (S.drop (a + 1)).takeWhile isD = [48] ∨ ((S.drop (a + 1)).takeWhile isD ≠ [] ∧ ((S.drop (a + 1)).takeWhile isD).getD 0 0 ≠ 48)
        · rw [if_pos hq]
          have hq2 := first_sign.1 hq
          have hpos : 0 < ((S.drop (a + 1)).takeWhile isD).length := by
            rcases Nat.eq_zero_or_pos ((S.drop (a + 1)).takeWhile isD).length with q | q
            · exact absurd (.inl q) hq2
            · exact q
          rw [takeWhile_head hpos, hrd] at hq2
          rw [if_neg hq2]
          have hle := takeWhile_le isD (S.drop (a + 1))
          rw [hrd, List.length_drop] at hle
          have hle2 : a + 1 + runD S (a + 1) ≤ S.length := by rw [hrd] at hpos; omega
          rw [rdM_read cs (fun x hx => hc x (List.mem_cons_of_mem _ hx)) (a + 1 + runD S (a + 1)) _ hle2]
          have e2 : (S.drop (a + 1)).drop (runD S (a + 1)) = S.drop (a + 1 + runD S (a + 1)) := by rw [List.drop_drop]
          have e3 : (S.drop (a + 1)).take (runD S (a + 1)) = (S.drop (a + 1)).takeWhile isD := (takeWhile_take isD (S.drop (a + 1))).symm
          simp only [hrd, e2, e3]
          cases rdM cs (S.drop (a + 1 + runD S (a + 1))) with
          | none => rfl
          | some x => simp
        · rw [if_neg hq]
          have hq2 : ((S.drop (a + 1)).takeWhile isD).length = 0 ∨ (1 < ((S.drop (a + 1)).takeWhile isD).length ∧ ((S.drop (a + 1)).takeWhile isD).getD 0 0 = 48) := by
            refine Classical.byContradiction fun g => hq (first_sign.2 g)
          have hq3 : runD S (a + 1) = 0 ∨ (1 < runD S (a + 1) ∧ S.getD (a + 1) 0 = 48) := by
            rcases hq2 with g | ⟨g1, g2⟩
            · exact .inl g
            · rw [takeWhile_head (by omega)] at g2
              exact .inr ⟨g1, g2⟩
          rw [if_pos hq3]
          rfl
      · rw [if_neg (fun g => hm g.2)]
        simp only [cutM, if_neg hm]
        rfl
    · rw [if_neg (fun g => hl g.1), List.drop_of_length_le (by omega)]
      rfl
theorem rdM_len : ∀ (cs s : List Int) {l z : List Int}, rdM cs s = some (l, z) → l.length = cs.length ∧ z.length ≤ s.length
  | [], s, l, z, h => by
    simp only [rdM, Option.some.injEq, Prod.mk.injEq] at h
    rw [← h.1, ← h.2]; simp
  | c :: cs, s, l, z, h => by
    rw [rdM] at h
    cases hc : cutM c s with
    | none => rw [hc] at h; cases h
    | some r =>
      rw [hc] at h
      dsimp only at h
      have hr : r.length ≤ s.length := by
        cases s with
        | nil => cases hc
        | cons x t =>
          simp only [cutM] at hc
          split at hc
          · injection hc with hc; rw [← hc]; simp
          · cases hc
      cases hf : firstM r with
      | none => rw [hf] at h; cases h
      | some q =>
        rw [hf] at h
        dsimp only at h
        have hq : q.2.length ≤ r.length := by
          unfold firstM at hf
          split at hf
          · injection hf with hf; rw [← hf]; simp
          · cases hf
        cases hx : rdM cs q.2 with
        | none => rw [hx] at h; cases h
        | some x =>
          obtain ⟨xl, xz⟩ := x
          rw [hx] at h
          simp only [Option.map_some, Option.some.injEq, Prod.mk.injEq] at h
          have := rdM_len cs q.2 hx
          rw [← h.1, ← h.2]
          simp only [List.length_cons]
          omega
/-- NUMBERS of a text, place by place. -/
theorem numM_rd (S : List Int) (cs lims : List Int) (hc : ∀ c ∈ cs, c ≠ 35) :
    numM S (patM cs) lims = match rdM cs S with
      | none => ([], 4)
      | some (l, z) => if z = [] then (if allL l lims = true then (l, 0) else ([], 1)) else ([], 4) := by
  unfold numM
  rw [rdM_read cs hc 0 [] (Nat.zero_le _), List.drop_zero]
  cases h : rdM cs S with
  | none => rfl
  | some x =>
    obtain ⟨l, z⟩ := x
    have := (rdM_len cs S h).2
    simp only [Option.map_some, List.nil_append]
    by_cases hz : z = []
    · subst hz
      simp
    · have : 0 < z.length := List.length_pos_iff.2 hz
      rw [if_neg (by omega), if_neg hz]
end Go.Proofs.YtldamfpoemgkpaaDoor
