/-
  WHAT PACKAGE scope MUST ANSWER (own work), a field a function; the law's alive.
-/
import Derived.Test.YtldamfpoemgkpaaDoorRefN9
import Derived.Test.YtldamfpoemgkpaaDoorErrI
import Derived.Test.YtldamfpoemgkpaaDoorFo
namespace Go.Proofs.YtldamfpoemgkpaaDoor
open Go.RowKit Go.ChangeShapes Go.WideShapes

structure ScoC (ads : List Addr) (w : World) : Prop where
  right : ∀ w1, Kp w w1 → ∀ c : CX, c.wf → Calls Tryd.prog 12 #[.agg c.cells] w1 fun e w' => e = .returned (.bool (rightX c)) ∧ Kp w1 w'
  new : ∀ w1, Kp w w1 → ∀ (an aw oc : Int) (t l : Nat), t < 18446744073709551616 → l < 18446744073709551616 → Calls Tryd.prog 8 #[.agg #[.int .i64 an, .int .i64 aw], .int .i64 oc, .float .f64 t, .float .f64 l] w1 fun e w' => e = .returned (.tuple #[.agg (newX an aw oc t l).2.cells, errI ads (newX an aw oc t l).1]) ∧ Kp w1 w'
  child : ∀ w1, Kp w w1 → ∀ (c : CX) (an aw oc : Int), c.wf → Calls Tryd.prog 13 #[.agg c.cells, .agg #[.int .i64 an, .int .i64 aw], .int .i64 oc] w1 fun e w' => e = .returned (.tuple #[.agg (childX c an aw oc).2.cells, errI ads (childX c an aw oc).1]) ∧ Kp w1 w'
  opn : ∀ w1, Kp w w1 → ∀ (c : CX) (t : Nat), c.wf → t < 18446744073709551616 → Calls Tryd.prog 16 #[.agg c.cells, .float .f64 t] w1 fun e w' => e = .returned (.bool (openX c t)) ∧ Kp w1 w'
  same : ∀ w1, Kp w w1 → ∀ a b : CX, a.wf → b.wf → Calls Tryd.prog 18 #[.agg a.cells, .agg b.cells] w1 fun e w' => e = .returned (.bool (sameX a b)) ∧ Kp w1 w'
theorem ScoC.kp {ads : List Addr} {w w' : World} (C : ScoC ads w) (hk : Kp w w') : ScoC ads w' where
  right := fun w1 h => C.right w1 (Kp.trans hk h)
  new := fun w1 h => C.new w1 (Kp.trans hk h)
  child := fun w1 h => C.child w1 (Kp.trans hk h)
  opn := fun w1 h => C.opn w1 (Kp.trans hk h)
  same := fun w1 h => C.same w1 (Kp.trans hk h)

theorem errI_some9 (ads : List Addr) (k : Int) (h : k ≠ 0) : ∃ q, errI ads k = .iface 115 (.pointer q) := ⟨_, if_neg h⟩
theorem same_refl9 (c : CX) : sameX c c = true := by unfold sameX; simp
theorem new_wf9 (n s o : Int) (t l : Nat) : (newX n s o t l).2.wf := by
  unfold newX
  split
  · exact noX_wf
  split
  · exact noX_wf
  · rename_i h
    have h4 : Fl.dl t = true := by cases q : Fl.dl t with | true => rfl | false => exact absurd (.inr (.inl q)) h
    have h5 : Fl.dl l = true := by cases q : Fl.dl l with | true => rfl | false => exact absurd (.inr (.inr q)) h
    obtain ⟨rr, hr, hd⟩ := add_plain9 h4 h5
    rw [hr]
    exact Fl.dl_lt hd
theorem child_wf9 {c : CX} (hc : c.wf) (n s o : Int) : (childX c n s o).2.wf := by
  unfold childX
  split
  · exact noX_wf
  split
  · exact noX_wf
  split
  · exact noX_wf
  split
  · exact noX_wf
  · exact hc
theorem new_num9 (n s o : Int) (t l : Nat) : 0 ≤ (newX n s o t l).1 ∧ (newX n s o t l).1 ≤ 14 := by
  unfold newX
  split
  · exact ⟨by decide, by decide⟩
  split
  · exact ⟨by decide, by decide⟩
  · exact ⟨by simp, by simp⟩
theorem child_num9 (c : CX) (n s o : Int) : 0 ≤ (childX c n s o).1 ∧ (childX c n s o).1 ≤ 14 := by
  unfold childX
  split
  · exact ⟨by decide, by decide⟩
  split
  · exact ⟨by decide, by decide⟩
  split
  · exact ⟨by decide, by decide⟩
  split
  · exact ⟨by decide, by decide⟩
  · exact ⟨by simp, by simp⟩
theorem add_le9 {a b : Nat} (ha : a ≤ 9218868437227405312) (hb : b ≤ 9218868437227405312) : ∃ r, Ieee.double.add a b = some r ∧ r ≤ 9218868437227405312 := by
  rcases Nat.lt_or_eq_of_le ha with ga | rfl
  · rcases Nat.lt_or_eq_of_le hb with gb | rfl
    · obtain ⟨N, p, h1, _⟩ := Fl.sum_fin ga gb
      exact ⟨_, h1, Fl.nearest_le_inf _ _⟩
    · refine ⟨9218868437227405312, ?_, Nat.le_refl _⟩
      unfold Ieee.Format.add
      rw [Fl.read_pos_fin ga, Fl.read_inf]; kernel_rfl
  · refine ⟨9218868437227405312, ?_, Nat.le_refl _⟩
    unfold Ieee.Format.add
    rcases Nat.lt_or_eq_of_le hb with gb | rfl
    · rw [Fl.read_pos_fin gb, Fl.read_inf]; kernel_rfl
    · rw [Fl.read_inf]; kernel_rfl
/-- a sum of plain delays is a plain delay -/
theorem add_tm9 {t l : Nat} (h4 : Fl.dl t = true) (h5 : Fl.dl l = true) : ∃ r, Ieee.double.add (Fl.plain t) (Fl.plain l) = some r ∧ tmX r = true := by
  obtain ⟨r, h1, h2⟩ := add_le9 (Fl.dl_plain h4).1 (Fl.dl_plain h5).1
  exact ⟨r, h1, tmX_of h2⟩
theorem new_right9 {n s o : Int} {t l : Nat} (h : (newX n s o t l).1 = 0) : rightX (newX n s o t l).2 = true := by
  unfold newX at h ⊢
  split at h
  · cases h
  split at h
  · cases h
  rename_i g1 g2
  rw [if_neg g1, if_neg g2]
  have ho : outX o = true := by cases q : outX o with | true => rfl | false => exact absurd (.inl q) g2
  have h4 : Fl.dl t = true := by cases q : Fl.dl t with | true => rfl | false => exact absurd (.inr (.inl q)) g2
  have h5 : Fl.dl l = true := by cases q : Fl.dl l with | true => rfl | false => exact absurd (.inr (.inr q)) g2
  have ha : rightA n s = true := by cases q : rightA n s with | true => rfl | false => exact absurd q g1
  obtain ⟨r, hr, ht⟩ := add_tm9 h4 h5
  unfold rightX
  dsimp only
  rw [hr, Option.getD_some, ha, ho, ht]
  rfl
end Go.Proofs.YtldamfpoemgkpaaDoor
