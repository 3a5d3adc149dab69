/-
  check.Next (own work): one byte more; the table's cells.
-/
import Derived.Test.YtpehmkglkjlmfaaDoorCrc
import Derived.Test.YtpehmkglkjlmfaaDoorAppB
import Derived.Laws.BitsAllLaws
import Derived.Laws.Bits64
import Derived.Lib.LaidTab
import Derived.Lib.SliceRun
namespace Go.Proofs.YtpehmkglkjlmfaaDoor
open Go.RowKit

/-- THE TABLE STANDS. -/
def Tb (w : World) : Prop := ∀ i, i < 16 → w.cell? ⟨14, i, none⟩ = some (.int .u32 (tab i))
theorem Tb.kp {w w' : World} (h : Tb w) (hk : Kp w w') : Tb w' := fun i hi => kp_cell hk (h i hi)

theorem not32 {s : Nat} (hs : s < 4294967296) : bits .xor .u32 IntKind.u32.max (s : Int) = ((4294967295 ^^^ s : Nat) : Int) := u32_xor_nat 4294967295 s (by decide) hs
theorem and32_1 (a : Nat) (ha : a < 4294967296) : bits .and .u32 (a : Int) 1 = ((a % 2 : Nat) : Int) := by
  have h := u32_and_nat a 1 ha (by decide)
  rw [Nat.and_one_is_mod] at h
  exact h

/-- half a byte -/
theorem half_step {w : World} (ht : Tb w) (r : Nat) (hr : r < 4294967296) (z : Int) (hz : (r : Int) = z) :
    ∃ t z', w.cell? ⟨14, (z % 16).toNat, none⟩ = some (.int .u32 t) ∧ bits .xor .u32 (z / 16) t = z' ∧ ((Tn 4 r : Nat) : Int) = z' ∧ 0 ≤ z' := by
  subst hz
  have e1 : ((r : Int) % 16).toNat = r % 16 := by omega
  have e2 : (r : Int) / 16 = ((r / 16 : Nat) : Int) := by omega
  have hm : r % 16 < 16 := Nat.mod_lt _ (by decide)
  refine ⟨(tab (r % 16) : Nat), (Tn 4 r : Nat), ?_, ?_, rfl, by omega⟩
  · rw [e1]; exact ht _ hm
  · rw [e2, u32_xor_nat _ _ (by omega) (tab_lt _ hm), half]

set_option maxRecDepth 100000 in
theorem next_any (s b : Nat) (hs : s < 4294967296) (hb : b < 256) (w : World) (ht : Tb w) :
    Calls Tryd.prog 75 #[.int .u32 s, .int .u8 b] w fun e w' => e = .returned (.int .u32 (nxt s b)) ∧ w = w' := by
  obtain ⟨x1, hx1⟩ : ∃ x1, 4294967295 ^^^ s = x1 := ⟨_, rfl⟩
  have l1 : x1 < 4294967296 := by rw [← hx1]; exact Nat.xor_lt_two_pow (n := 32) (by decide) (by omega)
  obtain ⟨r0, hr0⟩ : ∃ r0, x1 ^^^ b = r0 := ⟨_, rfl⟩
  have l0 : r0 < 4294967296 := by rw [← hr0]; exact Nat.xor_lt_two_pow (n := 32) (by omega) (by omega)
  have l2 := Tn_lt 4 l0
  have l3 := Tn_lt 4 l2
  have q1 := not32 hs
  rw [hx1] at q1
  have q0 := u32_xor_nat x1 b l1 (by omega)
  rw [hr0] at q0
  obtain ⟨z0, hz0⟩ : ∃ y : Int, (r0 : Int) = y := ⟨_, rfl⟩
  obtain ⟨t1, z1, c1, q2, hz1, n1⟩ := half_step ht r0 l0 z0 hz0
  obtain ⟨t2, z2, c2, q3, hz2, n2⟩ := half_step ht (Tn 4 r0) l2 z1 hz1
  have q4 := not32 l3
  have hfin : 4294967295 ^^^ Tn 4 (Tn 4 r0) = nxt s b := by
    unfold nxt
    rw [hx1, hr0, show (8 : Nat) = 4 + 4 from rfl, Tn_add]
  rw [hfin, hz2] at q4
  have hsg : IntKind.u32.signed = false := rfl
  obtain ⟨ss, hss⟩ : ∃ ss : Int, (s : Int) = ss := ⟨_, rfl⟩
  obtain ⟨bb, hbb⟩ : ∃ bb : Int, (b : Int) = bb := ⟨_, rfl⟩
  obtain ⟨y1, hy1⟩ : ∃ y : Int, (x1 : Int) = y := ⟨_, rfl⟩
  rw [hss, hy1] at q1
  rw [hbb, hy1, hz0] at q0
  rw [hss, hbb]
  have n0 : 0 ≤ z0 := by omega
  have b0 : 0 ≤ bb := by omega
  have b1 : bb < 256 := by omega
  obtain ⟨rr, hrr⟩ : ∃ rr : Int, ((nxt s b : Nat) : Int) = rr := ⟨_, rfl⟩
  rw [hrr] at q4 ⊢
  clear hss hbb hy1 hrr hz0 hz1 hz2 hfin l1 l0 l2 l3 hs hb hx1 hr0 ht
  go_enter Tryd.func75, Tryd.ntmps75
  go_wp2
  refine wp_loop_rounds 3 ?_
  rw [rounds_succ]
  go_wp2
  rw [rounds_succ]
  go_wp2
  rw [rounds_succ]
  go_wp2
  go_ret
  exact ⟨rfl, rfl⟩
end Go.Proofs.YtpehmkglkjlmfaaDoor
