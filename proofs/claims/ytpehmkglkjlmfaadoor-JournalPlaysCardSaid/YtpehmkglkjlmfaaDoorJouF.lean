/-
  A JOURNAL's BYTES (own work): a row's frame, all rows' frames, the rows at the beginning of bytes.
-/
import Derived.Test.YtpehmkglkjlmfaaDoorCrc
namespace Go.Proofs.YtpehmkglkjlmfaaDoor
open Go.RowKit

/-- it is a row -/
def okR (r : List Int) : Prop := 1 ≤ r.length ∧ r.length ≤ 200
instance (r : List Int) : Decidable (okR r) := by unfold okR; infer_instance
/-- all are rows -/
def okRs (rs : List (List Int)) : Prop := ∀ r ∈ rs, okR r
instance (rs : List (List Int)) : Decidable (okRs rs) := by unfold okRs; infer_instance
def hd2 (n : Nat) : List Int := [((n / 256 : Nat) : Int), ((n % 256 : Nat) : Int)]
/-- a row's frame -/
def frm (r : List Int) : List Int := hd2 r.length ++ (r ++ four (crc r))
/-- all rows' frames -/
def allF : List (List Int) → List Int
  | [] => []
  | r :: rs => frm r ++ allF rs
def cnt (b : List Int) : Nat := (b.getD 0 0).toNat * 256 + (b.getD 1 0).toNat
def headC (b : List Int) : Prop := 7 ≤ b.length ∧ 1 ≤ cnt b ∧ cnt b ≤ 200 ∧ cnt b + 6 ≤ b.length ∧ b.take (cnt b + 6) = frm ((b.drop 2).take (cnt b))
instance (b : List Int) : Decidable (headC b) := by unfold headC; infer_instance
/-- the row whose frame stands first -/
def headF (b : List Int) : Option (List Int) := if headC b then some ((b.drop 2).take (cnt b)) else none
def readF : Nat → List Int → List (List Int)
  | 0, _ => []
  | k + 1, b => match headF b with
    | none => []
    | some r => r :: readF k (b.drop (r.length + 6))
/-- the rows at the beginning of bytes -/
def rdR (b : List Int) : List (List Int) := readF b.length b

theorem frm_len (r : List Int) : (frm r).length = r.length + 6 := by simp only [frm, hd2, four, List.length_append, List.length_cons, List.length_nil]; omega
theorem allF_app : ∀ rs ss, allF (rs ++ ss) = allF rs ++ allF ss
  | [], _ => rfl
  | r :: rs, ss => by simp [allF, allF_app rs ss]
theorem allF_one (r : List Int) : allF [r] = frm r := by simp [allF]
theorem allF_nil : allF [] = [] := rfl
theorem hd2_in {n : Nat} (h : n ≤ 200) : InB (hd2 n) := by
  intro x hx
  simp only [hd2, List.mem_cons, List.not_mem_nil, or_false] at hx
  omega
theorem frm_in {r : List Int} (h : InB r) (ho : r.length ≤ 200) : InB (frm r) := by
  intro x hx
  unfold frm at hx
  rcases List.mem_append.1 hx with q | q
  · exact hd2_in ho x q
  · rcases List.mem_append.1 q with q | q
    · exact h x q
    · exact four_in _ x q
theorem allF_in : ∀ {rs : List (List Int)}, (∀ r ∈ rs, InB r) → okRs rs → InB (allF rs)
  | [], _, _ => fun x hx => by cases hx
  | r :: rs, h, ho => fun x hx => by
    rcases List.mem_append.1 hx with q | q
    · exact frm_in (h r (by simp)) (ho r (by simp)).2 x q
    · exact allF_in (fun s hs => h s (by simp [hs])) (fun s hs => ho s (by simp [hs])) x q
theorem allF_le : ∀ {rs : List (List Int)}, okRs rs → (allF rs).length ≤ 206 * rs.length
  | [], _ => by simp [allF]
  | r :: rs, ho => by
    have h1 := (ho r (by simp)).2
    have h2 := allF_le (rs := rs) (fun s hs => ho s (by simp [hs]))
    simp [allF, frm_len]
    omega
theorem allF_ge : ∀ {rs : List (List Int)}, okRs rs → 7 * rs.length ≤ (allF rs).length
  | [], _ => by simp [allF]
  | r :: rs, ho => by
    have h1 := (ho r (by simp)).1
    have h2 := allF_ge (rs := rs) (fun s hs => ho s (by simp [hs]))
    simp [allF, frm_len]
    omega
theorem cnt_frm (r : List Int) (ho : okR r) (rest : List Int) : cnt (frm r ++ rest) = r.length := by
  obtain ⟨h1, h2⟩ := ho
  simp [cnt, frm, hd2]
  omega
theorem cnt_take (b : List Int) (k : Nat) (hk : 2 ≤ k) (hl : 2 ≤ b.length) : cnt (b.take k) = cnt b := by
  match b, hl with
  | x :: y :: t, _ =>
    match k, hk with
    | k + 2, _ => simp [cnt]
theorem headF_frm {r : List Int} (ho : okR r) (rest : List Int) : headF (frm r ++ rest) = some r := by
  have hc := cnt_frm r ho rest
  have hd : ((frm r ++ rest).drop 2).take r.length = r := by simp [frm, hd2, List.append_assoc]
  unfold headF
  rw [if_pos, hc, hd]
  refine ⟨?_, ?_, ?_, ?_, ?_⟩
  · rw [List.length_append, frm_len]; have := ho.1; omega
  · rw [hc]; exact ho.1
  · rw [hc]; exact ho.2
  · rw [hc, List.length_append, frm_len]; omega
  · rw [hc, hd, ← frm_len r]; simp
theorem headF_nil : headF [] = none := by unfold headF; rw [if_neg]; intro h; have := h.1; simp at this
/-- a frame that is cut short is none -/
theorem headF_cut {r : List Int} (ho : okR r) {k : Nat} (hk : k < r.length + 6) : headF ((frm r).take k) = none := by
  unfold headF
  rw [if_neg]
  rintro ⟨h1, -, -, h4, -⟩
  rw [List.length_take, frm_len] at h1 h4
  have e : cnt ((frm r).take k) = r.length := by
    rw [cnt_take _ _ (by omega) (by rw [frm_len]; omega)]
    have := cnt_frm r ho []
    rwa [List.append_nil] at this
  rw [e] at h4
  omega
theorem headF_some {b r : List Int} (h : headF b = some r) : okR r ∧ b = frm r ++ b.drop (r.length + 6) ∧ r.length + 6 ≤ b.length ∧ r = (b.drop 2).take (cnt b) ∧ cnt b = r.length := by
  unfold headF at h
  split at h
  · rename_i hc
    injection h with h
    obtain ⟨h1, h2, h3, h4, h5⟩ := hc
    have hl : r.length = cnt b := by rw [← h, List.length_take, List.length_drop]; omega
    rw [h] at h5
    refine ⟨⟨by omega, by omega⟩, ?_, by omega, h.symm, hl.symm⟩
    rw [← h5, hl, List.take_append_drop]
  · cases h
theorem readF_enough : ∀ (k k2 : Nat) (b : List Int), b.length ≤ k → b.length ≤ k2 → readF k b = readF k2 b
  | 0, k2, b, h, _ => by
    have e : b = [] := List.length_eq_zero_iff.1 (by omega)
    subst e
    cases k2 with
    | zero => rfl
    | succ k2 => simp [readF, headF_nil]
  | k + 1, 0, b, _, h => by
    have e : b = [] := List.length_eq_zero_iff.1 (by omega)
    subst e
    simp [readF, headF_nil]
  | k + 1, k2 + 1, b, h, h2 => by
    simp only [readF]
    cases hh : headF b with
    | none => rfl
    | some r =>
      have := (headF_some hh).2.2.1
      dsimp only
      rw [readF_enough k k2 _ (by rw [List.length_drop]; omega) (by rw [List.length_drop]; omega)]
theorem rd_none {b : List Int} (h : headF b = none) : rdR b = [] := by
  unfold rdR
  cases hb : b.length with
  | zero => rfl
  | succ n => simp only [readF, h]
theorem rd_some {b r : List Int} (h : headF b = some r) : rdR b = r :: rdR (b.drop (r.length + 6)) := by
  have hl := (headF_some h).2.2.1
  unfold rdR
  cases hb : b.length with
  | zero => omega
  | succ n =>
    simp only [readF, h]
    rw [readF_enough n _ _ (by rw [List.length_drop]; omega) (Nat.le_refl _)]
theorem rd_frm {r : List Int} (ho : okR r) (rest : List Int) : rdR (frm r ++ rest) = r :: rdR rest := by
  rw [rd_some (headF_frm ho rest), ← frm_len r, List.drop_left]
theorem rd_all : ∀ {rs : List (List Int)}, okRs rs → ∀ rest, rdR (allF rs ++ rest) = rs ++ rdR rest
  | [], _, _ => rfl
  | r :: rs, ho, rest => by
    show rdR ((frm r ++ allF rs) ++ rest) = _
    rw [List.append_assoc, rd_frm (ho r (by simp)), rd_all (fun s hs => ho s (by simp [hs]))]
    rfl
theorem rd_nil : rdR [] = [] := rfl
theorem rd_self {rs : List (List Int)} (ho : okRs rs) : rdR (allF rs) = rs := by
  have := rd_all ho []
  rwa [List.append_nil, rd_nil, List.append_nil] at this
/-- of frames that are cut short a beginning is there -/
theorem rd_cut : ∀ {rs : List (List Int)}, okRs rs → ∀ k, ∃ j, j ≤ rs.length ∧ rdR ((allF rs).take k) = rs.take j
  | [], _, k => ⟨0, Nat.le_refl _, by simp [allF, rd_nil]⟩
  | r :: rs, ho, k => by
    have ho1 := ho r (by simp)
    by_cases hk : k < r.length + 6
    · refine ⟨0, Nat.zero_le _, ?_⟩
      rw [List.take_zero]
      apply rd_none
      show headF ((frm r ++ allF rs).take k) = none
      rw [List.take_append_of_le_length (by rw [frm_len]; omega)]
      exact headF_cut ho1 hk
    · obtain ⟨j, hj, e⟩ := rd_cut (rs := rs) (fun s hs => ho s (by simp [hs])) (k - (r.length + 6))
      refine ⟨j + 1, by simp; omega, ?_⟩
      show rdR ((frm r ++ allF rs).take k) = _
      rw [List.take_append, List.take_of_length_le (by rw [frm_len]; omega), frm_len, rd_frm ho1, e]
      rfl
theorem rd_ok : ∀ (n : Nat) (b : List Int), b.length ≤ n → okRs (rdR b) ∧ b = allF (rdR b) ++ b.drop (allF (rdR b)).length ∧ headF (b.drop (allF (rdR b)).length) = none
  | 0, b, h => by
    have e : b = [] := List.length_eq_zero_iff.1 (by omega)
    subst e
    exact ⟨fun r hr => (by cases hr), rfl, headF_nil⟩
  | n + 1, b, h => by
    cases hh : headF b with
    | none =>
      rw [rd_none hh]
      exact ⟨fun r hr => (by cases hr), rfl, hh⟩
    | some r =>
      obtain ⟨h1, h2, h3, -⟩ := headF_some hh
      obtain ⟨k1, k2, k3⟩ := rd_ok n (b.drop (r.length + 6)) (by rw [List.length_drop]; omega)
      rw [rd_some hh]
      have hl : (allF (r :: rdR (b.drop (r.length + 6)))).length = r.length + 6 + (allF (rdR (b.drop (r.length + 6)))).length := by
        show (frm r ++ _).length = _
        rw [List.length_append, frm_len]
      have hd : ∀ N, b.drop (r.length + 6 + N) = (b.drop (r.length + 6)).drop N := fun N => by rw [List.drop_drop]
      refine ⟨?_, ?_, ?_⟩
      · intro s hs
        rcases List.mem_cons.1 hs with rfl | hs
        · exact h1
        · exact k1 s hs
      · rw [hl, hd]
        show b = (frm r ++ allF (rdR (b.drop (r.length + 6)))) ++ _
        rw [List.append_assoc, ← k2]
        exact h2
      · rw [hl, hd]
        exact k3
theorem rd_okRs (b : List Int) : okRs (rdR b) := (rd_ok b.length b (Nat.le_refl _)).1
theorem rd_split (b : List Int) : b = allF (rdR b) ++ b.drop (allF (rdR b)).length := (rd_ok b.length b (Nat.le_refl _)).2.1
theorem rd_take (b : List Int) : b.take (allF (rdR b)).length = allF (rdR b) := by
  have h := rd_split b
  have : (allF (rdR b) ++ b.drop (allF (rdR b)).length).take (allF (rdR b)).length = allF (rdR b) := List.take_left
  rwa [← h] at this
theorem rd_le (b : List Int) : (allF (rdR b)).length ≤ b.length := by
  have h := congrArg List.length (rd_take b)
  rw [List.length_take] at h
  omega
theorem rd_in {b : List Int} (hb : InB b) : ∀ r ∈ rdR b, InB r := by
  have key : ∀ (n : Nat) (c : List Int), c.length ≤ n → InB c → ∀ r ∈ rdR c, InB r := by
    intro n
    induction n with
    | zero =>
      intro c h hc r hr
      have e : c = [] := List.length_eq_zero_iff.1 (by omega)
      subst e
      cases hr
    | succ n ih =>
      intro c h hc r hr
      cases hh : headF c with
      | none => rw [rd_none hh] at hr; cases hr
      | some s =>
        obtain ⟨h1, h2, h3, h4, -⟩ := headF_some hh
        rw [rd_some hh] at hr
        rcases List.mem_cons.1 hr with rfl | hr
        · rw [h4]
          exact fun x hx => hc x (List.mem_of_mem_drop (List.mem_of_mem_take hx))
        · exact ih _ (by rw [List.length_drop]; omega) (fun x hx => hc x (List.mem_of_mem_drop hx)) r hr
  exact key b.length b (Nat.le_refl _) hb
end Go.Proofs.YtpehmkglkjlmfaaDoor
