/-
  A FLIGHT's ROWS (own work): kinds on their way, two cells each; append of them.
-/
import Derived.Test.YtghjnhdepeiloaaDoorMovC
import Derived.Laws.OwnMore
import Derived.Laws.AppendOwnNone
import Derived.OwnWalk
namespace Go.Proofs.YtghjnhdepeiloaaDoor
open Go.RowKit

def flyB (f : List (Int × Int)) : List Value := f.flatMap fun q => [.int .i64 q.1, .int .i64 q.2]
theorem flyB_len (f : List (Int × Int)) : (flyB f).length = f.length * 2 := by
  unfold flyB
  induction f with
  | nil => rfl
  | cons g gs ih => rw [List.flatMap_cons, List.length_append, ih]; simp; omega
theorem flyB_app (f g : List (Int × Int)) : flyB (f ++ g) = flyB f ++ flyB g := by unfold flyB; rw [List.flatMap_append]
theorem flyB_at : ∀ (f : List (Int × Int)) (j : Nat) (hj : j < f.length), (flyB f)[2 * j]? = some (.int .i64 f[j].1) ∧ (flyB f)[2 * j + 1]? = some (.int .i64 f[j].2)
  | g :: gs, 0, _ => by simp [flyB]
  | g :: gs, j + 1, hj => by
    have h := flyB_at gs j (by simpa using hj)
    have e : 2 * (j + 1) = 2 * j + 2 := by omega
    have e2 : 2 * (j + 1) + 1 = 2 * j + 1 + 2 := by omega
    rw [e2, e]
    simpa [flyB] using h
theorem flyB_one (f : List (Int × Int)) : ∀ u ∈ flyB f, u.oneCell' = true := by
  intro u hu
  obtain ⟨q, _, h⟩ := List.mem_flatMap.1 hu
  rcases List.mem_cons.1 h with rfl | h
  · rfl
  · rw [List.mem_singleton.1 h]; rfl
theorem flyB_drop (f : List (Int × Int)) (i : Nat) : flyB (f.drop i) = (flyB f).drop (i * 2) := by
  by_cases h : i ≤ f.length
  · have e : flyB f = flyB (f.take i) ++ flyB (f.drop i) := by rw [← flyB_app, List.take_append_drop]
    have hl : (flyB (f.take i)).length = i * 2 := by rw [flyB_len, List.length_take]; omega
    have e2 := congrArg (List.drop (i * 2)) e
    rw [List.drop_append_of_le_length (by omega), List.drop_of_length_le (l := flyB (f.take i)) (by omega), List.nil_append] at e2
    exact e2.symm
  · rw [List.drop_of_length_le (by omega), List.drop_of_length_le (by rw [flyB_len]; omega)]
    rfl
theorem flyB_take (f : List (Int × Int)) (i : Nat) : flyB (f.take i) = (flyB f).take (i * 2) := by
  by_cases h : i ≤ f.length
  · have e : flyB f = flyB (f.take i) ++ flyB (f.drop i) := by rw [← flyB_app, List.take_append_drop]
    have hl : (flyB (f.take i)).length = i * 2 := by rw [flyB_len, List.length_take]; omega
    have e2 := congrArg (List.take (i * 2)) e
    rw [List.take_append_of_le_length (by omega), List.take_of_length_le (l := flyB (f.take i)) (by omega)] at e2
    exact e2.symm
  · rw [List.take_of_length_le (by omega), List.take_of_length_le (by rw [flyB_len]; omega)]
/-- a slice whose cells are a flight's -/
def PartF (v : Value) (f : List (Int × Int)) (w : World) : Prop :=
  ∃ a cap, v = .slice a f.length cap ∧ (a = none → f.length = 0 ∧ cap = 0) ∧ ∀ ad, a = some ad → ∀ j u, (flyB f)[j]? = some u → w.cell? (ad.add j) = some u
theorem PartF.kp {v : Value} {f : List (Int × Int)} {w w' : World} (h : PartF v f w) (hk : Kp w w') : PartF v f w' := by
  obtain ⟨a, cap, h1, h2, h3⟩ := h
  exact ⟨a, cap, h1, h2, fun ad e j u hj => kp_cell hk (h3 ad e j u hj)⟩
/-- A ROW OF THE CALL's OWN as such -/
theorem own_part {w : World} {base n : Nat} {e : TypeId} {v : Value} {f : List (Int × Int)} (h : w.ownsRow base e 2 v n (flyB f)) : PartF v f w := by
  have hn : f.length = n := by have := h.1; rw [flyB_len] at this; omega
  rcases h.2 with ⟨rfl, h0⟩ | ⟨g, cap, cur, rfl, hg, hh, hc, hm, hs, ht⟩
  · exact ⟨none, 0, by rw [hn, h0], fun _ => ⟨by omega, rfl⟩, fun ad q => by cases q⟩
  · refine ⟨some ⟨g, 0, none⟩, cap, by rw [hn], fun q => (by cases q), fun ad q j u hj => ?_⟩
    injection q with q
    subst q
    exact h.cells rfl j u hj
theorem own_slf {w : World} {base n : Nat} {e : TypeId} {v : Value} {f : List (Int × Int)} (h : w.ownsRow base e 2 v n (flyB f)) : SlF v f w := by
  have hn : f.length = n := by have := h.1; rw [flyB_len] at this; omega
  rcases h.2 with ⟨rfl, h0⟩ | ⟨g, cap, cur, rfl, hg, hh, hc, hm, hs, ht⟩
  · exact ⟨none, 0, by rw [hn, h0], fun j hj => absurd hj (by omega)⟩
  · refine ⟨some ⟨g, 0, none⟩, cap, by rw [hn], fun j hj => ⟨g, 0, rfl, ?_, ?_⟩⟩
    · have := h.cells rfl (2 * j) _ (flyB_at f j hj).1
      rw [Addr.add_lit] at this
      simpa [Nat.mul_comm] using this
    · have := h.cells rfl (2 * j + 1) _ (flyB_at f j hj).2
      rw [Addr.add_lit] at this
      simpa [Nat.mul_comm, Nat.add_assoc] using this
/-- its beginning, its end -/
theorem own_takeF {w : World} {base n g cap i : Nat} {e : TypeId} {f : List (Int × Int)} (h : w.ownsRow base e 2 (.slice (some ⟨g, 0, none⟩) n cap) n (flyB f)) (hi : i ≤ n) : PartF (.slice (some ⟨g, 0, none⟩) i cap) (f.take i) w := by
  have hn : f.length = n := by have := h.1; rw [flyB_len] at this; omega
  refine ⟨some ⟨g, 0, none⟩, cap, by rw [List.length_take, Nat.min_eq_left (by omega)], fun q => (by cases q), fun ad q j u hj => ?_⟩
  injection q with q
  subst q
  refine h.cells rfl j u ?_
  rw [flyB_take, List.getElem?_take] at hj
  split at hj
  · exact hj
  · cases hj
theorem own_dropF {w : World} {base n g cap i : Nat} {e : TypeId} {f : List (Int × Int)} (h : w.ownsRow base e 2 (.slice (some ⟨g, 0, none⟩) n cap) n (flyB f)) (hi : i ≤ n) (ad : Addr) (had : i < n → ad = ⟨g, i * 2, none⟩) (c : Nat) : PartF (.slice (some ad) (n - i) c) (f.drop i) w := by
  have hn : f.length = n := by have := h.1; rw [flyB_len] at this; omega
  refine ⟨some ad, c, by rw [List.length_drop, hn], fun q => (by cases q), fun a2 q j u hj => ?_⟩
  injection q with q
  subst q
  have hlt : i < n := by
    rcases Nat.lt_or_ge i n with q | q
    · exact q
    · rw [List.drop_of_length_le (by omega)] at hj; simp [flyB] at hj
  rw [had hlt]
  rw [flyB_drop, List.getElem?_drop] at hj
  have := h.cells rfl (i * 2 + j) u hj
  rw [Addr.add_lit] at this ⊢
  simpa using this
theorem info_flyT0 : (Tryd.prog.info? 58).map (fun i => (i.zero, i.size, i.bytes)) = some (some (.agg #[.int .i64 0, .int .i64 0]), 2, 16) := by kernel_rfl
theorem info_flyT : ∃ i0, Tryd.prog.info? 58 = some i0 ∧ i0.zero = some (.agg #[.int .i64 0, .int .i64 0]) ∧ i0.size = 2 ∧ i0.bytes = 16 := by
  have h := info_flyT0
  cases g : Tryd.prog.info? 58 with
  | none => rw [g] at h; cases h
  | some i0 =>
    rw [g] at h
    simp only [Option.map_some, Option.some.injEq, Prod.mk.injEq] at h
    exact ⟨i0, rfl, h.1, h.2.1, h.2.2⟩
set_option maxRecDepth 20000 in
theorem wpList_append_fly (w : World) {ops : Array Oper} {rest : List Oper} {o : Oper} {a : Act} {Q : Exit → Act → World → Prop} (hgd : o.guard = none) (s x : Operand)
    (ho : o.op = .call { callee := .builtin .append, args := #[s, x], argTypes := #[54, 54] })
    (base : Nat) (v : Value) (n : Nat) (xs : List Value) (hs : a.eval s = v) (hown : w.ownsRow base 58 2 v n xs)
    (u : Value) (f : List (Int × Int)) (hx : a.eval x = u) (hb : PartF u f w) (h63 : n + f.length ≤ 1000000) (hbase : base ≤ w.heap.size)
    (h : ∀ v' w', w'.ownsRow base 58 2 v' (n + f.length) (xs ++ flyB f) → w.grownBy w' v.ownBlock → wpList Tryd.prog ops Q rest (a.put o.dst v') w') : wpList Tryd.prog ops Q (o :: rest) a w := by
  obtain ⟨i0, hi, hz0, hz1, hz2⟩ := info_flyT
  obtain ⟨ao, cap, rfl, hno, hc⟩ := hb
  cases ao with
  | none =>
    obtain ⟨h1, rfl⟩ := hno rfl
    have hf : f = [] := List.length_eq_zero_iff.1 h1
    subst hf
    exact wpList_append_own_none hgd s x 54 ho base 58 i0 2 Tryd.underlying54 hi v n xs hs hown hx (h v w (by simpa [flyB] using hown) ⟨rfl, rfl, rfl, Nat.le_refl _, fun _ _ _ => rfl⟩)
  | some ad =>
    refine wpList_append_own w hgd s x 54 ho base 58 i0 (.agg #[.int .i64 0, .int .i64 0]) 2 16 Tryd.underlying54 hi hz0 hz1 hz2 rfl (by decide) v n xs hs hown ad f.length cap (flyB f) hx (flyB_len f) (hc ad rfl) (flyB_one f) (by unfold maxLen; omega) (by omega) hbase ?_
    intro v' w' h1 h2 _
    exact h v' w' h1 h2
end Go.Proofs.YtghjnhdepeiloaaDoor
