/-
  READING A TEXT BY A PATTERN (own work): liaisonref05.Read, Numbers.
-/
import Derived.Test.YtldamfpoemgkpaaDoorTxtR
import Derived.BigQuiet
import Derived.WalkSmall
namespace Go.Proofs.YtldamfpoemgkpaaDoor
open Go.RowKit Go.ChangeShapes Go.WideShapes

/-- a text's bytes -/
def strB (s : ByteArray) : List Int := s.data.toList.map fun b => (b.toNat : Int)
theorem strB_len (s : ByteArray) : (strB s).length = s.size := by simp [strB]
theorem strB_in (s : ByteArray) : InB (strB s) := by
  intro x hx
  obtain ⟨b, _, rfl⟩ := List.mem_map.1 hx
  have := b.toNat_lt
  omega
theorem idx_str (s : ByteArray) (i : Nat) (hi : i < s.size) (ii : Int) (hii : (i : Int) = ii) (w : World) :
    (Instr.index 9 (.string s) (.int .i64 ii)).run Tryd.prog w = .ok (.int .u8 ((strB s).getD i 0)) w := by
  rw [run_index_string w 9 s .i64 ii Tryd.underlying9, dif_pos ⟨by omega, by omega⟩]
  congr 2
  have e : ii.toNat = i := by omega
  have hl : i < s.data.toList.length := by simpa using hi
  rw [List.getD_eq_getElem?_getD, strB, List.getElem?_map, List.getElem?_eq_getElem hl]
  simp only [e, Option.map_some, Option.getD_some]
  rfl

def isD (c : Int) : Bool := decide (48 ≤ c ∧ c ≤ 57)
def stepC (n d : Int) : Int := if 10 * n + d - 48 > 1000000 then 1000000 else 10 * n + d - 48
/-- a run of digits' number; a great one is 1000000 -/
def numC (ds : List Int) : Int := ds.foldl stepC 0
theorem numC_next {S : List Int} {f j : Nat} (h : f + j < S.length) : numC ((S.drop f).take (j + 1)) = stepC (numC ((S.drop f).take j)) (S.getD (f + j) 0) := by
  have hj : j < (S.drop f).length := by simp; omega
  rw [List.take_succ_eq_append_getElem hj]
  unfold numC
  rw [List.foldl_append]
  simp [List.getD, h]
theorem numC_range {S : List Int} (f : Nat) : ∀ j, (∀ i, i < j → isD (S.getD (f + i) 0) = true) → f + j ≤ S.length → 0 ≤ numC ((S.drop f).take j) ∧ numC ((S.drop f).take j) ≤ 1000000
  | 0, _, _ => by simp [numC]
  | j + 1, hd, hl => by
    have h := numC_range f j (fun i hi => hd i (by omega)) (by omega)
    rw [numC_next (by omega)]
    have hc := hd j (by omega)
    simp only [isD, decide_eq_true_eq] at hc
    unfold stepC
    split <;> omega
/-- how many digits stand at a place -/
def runD (S : List Int) (f : Nat) : Nat := ((S.drop f).takeWhile isD).length
theorem takeWhile_len {p : Int → Bool} : ∀ (l : List Int) (j : Nat), (∀ i, i < j → p (l.getD i 0) = true) → j ≤ l.length → (j = l.length ∨ p (l.getD j 0) = false) → (l.takeWhile p).length = j
  | [], j, _, h, _ => by simp at h; simp [h]
  | x :: l, 0, _, _, h2 => by
    rcases h2 with h2 | h2
    · simp at h2
    · have : p x = false := h2
      simp [this]
  | x :: l, j + 1, h0, h1, h2 => by
    have hx : p x = true := h0 0 (by omega)
    rw [List.takeWhile_cons, hx]
    simp only [if_true, List.length_cons]
    rw [takeWhile_len l j (fun i hi => h0 (i + 1) (by omega)) (by simpa using h1) (by rcases h2 with h2 | h2; exact .inl (by simpa using h2); exact .inr h2)]
theorem runD_eq {S : List Int} {f j : Nat} (h0 : ∀ i, i < j → isD (S.getD (f + i) 0) = true) (h1 : f + j ≤ S.length) (h2 : f + j = S.length ∨ isD (S.getD (f + j) 0) = false) : runD S f = j := by
  have e : ∀ i, (S.drop f).getD i 0 = S.getD (f + i) 0 := fun i => by simp [List.getD, List.getElem?_drop]
  refine takeWhile_len _ j (fun i hi => by rw [e]; exact h0 i hi) (by simp; omega) ?_
  rcases h2 with h2 | h2
  · exact .inl (by simp; omega)
  · exact .inr (by rw [e]; exact h2)

/-- READING by a pattern: '#' (35) stands for a number. -/
def readM (S : List Int) : List Int → Nat → List Int → Option (List Int × Nat)
  | [], a, out => some (out, a)
  | p :: ps, a, out =>
    if p = 35 then if runD S a = 0 ∨ (1 < runD S a ∧ S.getD a 0 = 48) then none else readM S ps (a + runD S a) (out ++ [numC ((S.drop a).take (runD S a))])
    else if a < S.length ∧ S.getD a 0 = p then readM S ps (a + 1) out else none
theorem readM_len {S : List Int} : ∀ (P : List Int) (a : Nat) (out : List Int) {l : List Int} {b : Nat}, readM S P a out = some (l, b) → l.length = out.length + P.count 35
  | [], a, out, l, b, h => by
    simp only [readM, Option.some.injEq, Prod.mk.injEq] at h
    rw [← h.1]; simp
  | p :: ps, a, out, l, b, h => by
    rw [readM] at h
    by_cases hp : p = 35
    · rw [if_pos hp] at h
      split at h
      · cases h
      · rw [readM_len ps _ _ h, hp]; simp; omega
    · rw [if_neg hp] at h
      split at h
      · rw [readM_len ps _ _ h]
        simp [hp]
      · cases h

theorem info_int : (Tryd.prog.info? 3).map (fun i => (i.zero, i.size, i.bytes)) = some (some (.int .i64 0), 1, 8) := by kernel_rfl
theorem ints_one (ls : List Int) : ∀ u ∈ ls.map (Value.int .i64), u.oneCell' = true := by
  intro u hu
  obtain ⟨x, _, rfl⟩ := List.mem_map.1 hu
  rfl
/-- one more number onto a row of the call's own -/
theorem wpList_append_int (w : World) {ops : Array Oper} {rest : List Oper} {o : Oper} {a : Act} {Q : Exit → Act → World → Prop} (hgd : o.guard = none) (s x : Operand)
    (ho : o.op = .call { callee := .builtin .append, args := #[s, x], argTypes := #[92, 92] })
    (base : Nat) (v : Value) (n : Nat) (xs : List Value) (hs : a.eval s = v) (hown : w.ownsRow base 3 1 v n xs)
    (g : Nat) (y : Int) (hx : a.eval x = .slice (some ⟨g, 0, none⟩) 1 1) (hc : w.cell? ⟨g, 0, none⟩ = some (.int .i64 y)) (h63 : n ≤ 1000000) (hbase : base ≤ w.heap.size)
    (h : ∀ v' w', w'.ownsRow base 3 1 v' (n + 1) (xs ++ [Value.int .i64 y]) → w.grownBy w' v.ownBlock → wpList Tryd.prog ops Q rest (a.put o.dst v') w') : wpList Tryd.prog ops Q (o :: rest) a w := by
  obtain ⟨i0, hi, hz0, hz1, hz2⟩ := info_parts info_int
  refine wpList_append_own w hgd s x 92 ho base 3 i0 (.int .i64 0) 1 8 Tryd.underlying92 hi hz0 hz1 hz2 rfl (by decide) v n xs hs hown ⟨g, 0, none⟩ 1 1 [Value.int .i64 y] hx rfl (fun j u hj => ?_) (ints_one [y]) (by unfold maxLen; omega) (by omega) hbase (fun v' w' h1 h2 _ => h v' w' h1 h2)
  match j, hj with
  | 0, hj =>
    obtain rfl : Value.int .i64 y = u := by simpa using hj
    rw [add_plain, Nat.add_zero]
    exact hc
  | j + 1, hj => simp at hj
end Go.Proofs.YtldamfpoemgkpaaDoor
