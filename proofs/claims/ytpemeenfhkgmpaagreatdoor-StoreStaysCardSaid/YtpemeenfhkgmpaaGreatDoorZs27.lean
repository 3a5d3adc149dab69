/-
  PARTS OF THIS PROOF (own work): LsN.
-/
import Derived.Test.YtpemeenfhkgmpaaGreatDoorZs26
namespace Go.Proofs.YtpemeenfhkgmpaaGreatDoor
open Go.RowKit Go.ChangeShapes Go.WideShapes

def fcE : EncG FX where
  enc f := f.cells.toList
  k := 14
  len := fun _ => rfl
  one := by
    intro x u hu
    simp only [FX.cells, List.mem_cons, List.not_mem_nil, or_false] at hu
    rcases hu with rfl | rfl | rfl | rfl | rfl | rfl | rfl | rfl | rfl | rfl | rfl | rfl | rfl | rfl <;> rfl
theorem info_fcL0 : (Tryz.prog.info? 39).map (fun i => (i.zero, i.size, i.bytes)) = some (some (.agg #[.int .i64 0, .int .i64 0, .int .i64 0, .int .i64 0, .int .i64 0, .int .i64 0, .int .i64 0, .int .i64 0, .int .i64 0, .int .i64 0, .int .i64 0, .int .i64 0, .int .i64 0, .float .f64 0]), 14, 112) := by kernel_rfl
theorem info_fcL : ∃ i0, Tryz.prog.info? 39 = some i0 ∧ i0.zero = some (.agg #[.int .i64 0, .int .i64 0, .int .i64 0, .int .i64 0, .int .i64 0, .int .i64 0, .int .i64 0, .int .i64 0, .int .i64 0, .int .i64 0, .int .i64 0, .int .i64 0, .int .i64 0, .float .f64 0]) ∧ i0.size = 14 ∧ i0.bytes = 112 := by
  have h := info_fcL0
  cases g : Tryz.prog.info? 39 with
  | none => rw [g] at h; cases h
  | some i0 =>
    rw [g] at h
    simp only [Option.map_some, Option.some.injEq, Prod.mk.injEq] at h
    exact ⟨i0, rfl, h.1, h.2.1, h.2.2⟩
theorem ty_fcL : TyG Tryz.prog 22 39 14 (.agg #[.int .i64 0, .int .i64 0, .int .i64 0, .int .i64 0, .int .i64 0, .int .i64 0, .int .i64 0, .int .i64 0, .int .i64 0, .int .i64 0, .int .i64 0, .int .i64 0, .int .i64 0, .float .f64 0]) 112 := ⟨Tryz.underlying22, info_fcL, rfl, by decide⟩
theorem own_oneF {w : World} {t : TypeId} {B : Nat} (f : FX) (hb : B ≤ w.heap.size) : (w.alloc (.cells f.cells t)).ownsRow B t 14 (.slice (some ⟨w.heap.size, 0, none⟩) 1 1) 1 (fcE.row [f]) := by
  have := World.ownsRow_lit (base := B) (e := t) (size := 14) w f.cells 1 hb (by decide) rfl
  rw [show fcE.row [f] = f.cells.toList by unfold EncG.row; simp [fcE]]
  exact this
/-- what makes the participant of a number -/
def pFacts (i : Int) (x : PaM) : List FX := ⟨6, x.n, x.s, 0, 0, i, x.z.p, 0, 0, 0, 0, 0, 0, 0⟩ :: ((if 0 ≤ x.reg then [⟨7, 0, 0, x.reg, 0, i, 0, 0, 0, 0, 0, 0, 0, 0⟩] else []) ++ (if x.z.s ≠ 1 then [⟨8, 0, 0, 0, 0, i, 0, 0, 0, 0, x.z.s, x.z.h, 0, 0⟩] else []))
theorem pFacts_len (i : Int) (x : PaM) : (pFacts i x).length ≤ 3 := by unfold pFacts; split <;> split <;> simp
theorem factsP_app : ∀ (i : Nat) (A B : List PaM), factsP i (A ++ B) = factsP i A ++ factsP (i + A.length) B
  | i, [], B => rfl
  | i, x :: A, B => by
    have ih := factsP_app (i + 1) A B
    simp only [List.cons_append, factsP, ih, List.append_assoc, List.length_cons]
    rw [show i + 1 + A.length = i + (A.length + 1) by omega]
theorem factsP_one (i : Nat) (x : PaM) : factsP i [x] = pFacts i x := by
  unfold pFacts
  simp only [factsP, fxJoined, List.append_nil]
variable {w0 w w' W w3 : World} {B q : Nat} {m : StM} {gs : List AcG} {va vp : Value}

set_option maxRecDepth 100000 in
set_option maxHeartbeats 4000000 in
theorem lsPFacts (yn ys yr y1 y2 y3 y4 i : Int) (hr : -1 ≤ yr) : Calls Tryz.prog 39 #[.agg #[.int .i64 yn, .int .i64 ys, .int .i64 yr, .int .i64 y1, .int .i64 y2, .int .i64 y3, .int .i64 y4], .int .i64 i] w fun r w' => ∃ v, r = .returned v ∧ w'.ownsRow w.heap.size 39 14 v (pFacts i ⟨yn, ys, yr, ⟨y1, y2, y3, y4⟩⟩).length (fcE.row (pFacts i ⟨yn, ys, yr, ⟨y1, y2, y3, y4⟩⟩)) ∧ Kp w w' := by
  have k1 : Kp w ((w.alloc (.cells #[.int .i64 yn, .int .i64 ys, .int .i64 yr, .int .i64 y1, .int .i64 y2, .int .i64 y3, .int .i64 y4] 75)).alloc (.cells #[.int .i64 6, .int .i64 yn, .int .i64 ys, .int .i64 0, .int .i64 0, .int .i64 i, .int .i64 y1, .int .i64 0, .int .i64 0, .int .i64 0, .int .i64 0, .int .i64 0, .int .i64 0, .float .f64 0] 39)) := Kp.trans (kp_alloc _ _) (kp_alloc _ _)
  have rp := new14_0 w (.cells #[.int .i64 yn, .int .i64 ys, .int .i64 yr, .int .i64 y1, .int .i64 y2, .int .i64 y3, .int .i64 y4] 75) (.cells #[.int .i64 6, .int .i64 yn, .int .i64 ys, .int .i64 0, .int .i64 0, .int .i64 i, .int .i64 y1, .int .i64 0, .int .i64 0, .int .i64 0, .int .i64 0, .int .i64 0, .int .i64 0, .float .f64 0] 39)
  obtain ⟨x0, x1, x2, x3, x4, x5, x6⟩ := cells_7 (MapKept.heap_alloc w (.cells #[.int .i64 yn, .int .i64 ys, .int .i64 yr, .int .i64 y1, .int .i64 y2, .int .i64 y3, .int .i64 y4] 75)).1
  have ow := own_oneF (w := w.alloc (.cells #[.int .i64 yn, .int .i64 ys, .int .i64 yr, .int .i64 y1, .int .i64 y2, .int .i64 y3, .int .i64 y4] 75)) (t := 39) (B := w.heap.size) (⟨6, yn, ys, 0, 0, i, y1, 0, 0, 0, 0, 0, 0, 0⟩ : FX) (kp_size (kp_alloc _ _))
  dsimp only [FX.cells] at ow
  rw [show (w.alloc (.cells #[.int .i64 yn, .int .i64 ys, .int .i64 yr, .int .i64 y1, .int .i64 y2, .int .i64 y3, .int .i64 y4] 75)).heap.size = w.heap.size + 1 by simp] at ow
  obtain ⟨W, hW⟩ : ∃ W, ((w.alloc (.cells #[.int .i64 yn, .int .i64 ys, .int .i64 yr, .int .i64 y1, .int .i64 y2, .int .i64 y3, .int .i64 y4] 75)).alloc (.cells #[.int .i64 6, .int .i64 yn, .int .i64 ys, .int .i64 0, .int .i64 0, .int .i64 i, .int .i64 y1, .int .i64 0, .int .i64 0, .int .i64 0, .int .i64 0, .int .i64 0, .int .i64 0, .float .f64 0] 39)) = W := ⟨_, rfl⟩
  rw [hW] at k1 rp ow
  obtain ⟨s0, s1, s2, s3, s4, s5, s6⟩ := cells_7 rp
  have K1 := Lib.hid k1
  have RP := Lib.hid rp
  have O := Lib.hid ow
  have hsf := store_fl
  clear k1 rp ow
  by_cases h7 : yr = -1
  · have g7 : (yr == -1) = true := beq_iff_eq.2 h7
    have g7' : (yr != -1) = false := by simp [h7]
    have e7 : ¬ (0 : Int) ≤ yr := by omega
    by_cases h8 : y3 = 1
    · rw [show pFacts i ⟨yn, ys, yr, ⟨y1, y2, y3, y4⟩⟩ = [(⟨6, yn, ys, 0, 0, i, y1, 0, 0, 0, 0, 0, 0, 0⟩ : FX)] by unfold pFacts; simp [e7, h8]]
      have g8 : (y3 == 1) = true := beq_iff_eq.2 h8
      have g8' : (y3 != 1) = false := by simp [h8]
      clear h7 h8 e7 hr
      go_enter Tryz.func39, Tryz.ntmps39
      go_wp2
      go_ret
      exact ⟨_, rfl, O.out, K1.out⟩
    · rw [show pFacts i ⟨yn, ys, yr, ⟨y1, y2, y3, y4⟩⟩ = [(⟨6, yn, ys, 0, 0, i, y1, 0, 0, 0, 0, 0, 0, 0⟩ : FX)] ++ [(⟨8, 0, 0, 0, 0, i, 0, 0, 0, 0, y3, y4, 0, 0⟩ : FX)] by unfold pFacts; simp [e7, h8]]
      have g8 : (y3 == 1) = false := by simpa using h8
      have g8' : (y3 != 1) = true := by simp [h8]
      clear h7 h8 e7 hr
      go_enter Tryz.func39, Tryz.ntmps39
      go_wp2_with (at_builtin; refine wpList_append_rwG (E := fcE) ty_fcL (by decide) _ rfl _ _ rfl w.heap.size _ 1 [(⟨6, yn, ys, 0, 0, i, y1, 0, 0, 0, 0, 0, 0, 0⟩ : FX)] rfl (own_kp O.out (kp_alloc W (.cells #[.int .i64 8, .int .i64 0, .int .i64 0, .int .i64 0, .int .i64 0, .int .i64 i, .int .i64 0, .int .i64 0, .int .i64 0, .int .i64 0, .int .i64 y3, .int .i64 y4, .int .i64 0, .float .f64 0] 39))) _ [(⟨8, 0, 0, 0, 0, i, 0, 0, 0, 0, y3, y4, 0, 0⟩ : FX)] rfl (part_oneG (MapKept.heap_alloc W (.cells #[.int .i64 8, .int .i64 0, .int .i64 0, .int .i64 0, .int .i64 0, .int .i64 i, .int .i64 0, .int .i64 0, .int .i64 0, .int .i64 0, .int .i64 y3, .int .i64 y4, .int .i64 0, .float .f64 0] 39)).1 rfl) (Nat.le_of_ble_eq_true rfl) (kp_size (Kp.trans K1.out (kp_alloc W (.cells #[.int .i64 8, .int .i64 0, .int .i64 0, .int .i64 0, .int .i64 0, .int .i64 i, .int .i64 0, .int .i64 0, .int .i64 0, .int .i64 0, .int .i64 y3, .int .i64 y4, .int .i64 0, .float .f64 0] 39)))) ?_)
      rintro v1 u1 o1 hg1 hb1
      have OX1 := own_kp O.out (kp_alloc W (.cells #[.int .i64 8, .int .i64 0, .int .i64 0, .int .i64 0, .int .i64 0, .int .i64 i, .int .i64 0, .int .i64 0, .int .i64 0, .int .i64 0, .int .i64 y3, .int .i64 y4, .int .i64 0, .float .f64 0] 39))
      have K2 := Lib.hid (show Kp w u1 from Below.grown (Kp.trans K1.out (kp_alloc W (.cells #[.int .i64 8, .int .i64 0, .int .i64 0, .int .i64 0, .int .i64 0, .int .i64 i, .int .i64 0, .int .i64 0, .int .i64 0, .int .i64 0, .int .i64 y3, .int .i64 y4, .int .i64 0, .float .f64 0] 39))) hg1 (Below.size (Kp.trans K1.out (kp_alloc W (.cells #[.int .i64 8, .int .i64 0, .int .i64 0, .int .i64 0, .int .i64 0, .int .i64 i, .int .i64 0, .int .i64 0, .int .i64 0, .int .i64 0, .int .i64 y3, .int .i64 y4, .int .i64 0, .float .f64 0] 39)))) (fun b hk => (OX1.lt b hk).1))
      have R1 := Lib.hid (show u1.heap[w.heap.size]? = some (.cells #[.int .i64 yn, .int .i64 ys, .int .i64 yr, .int .i64 y1, .int .i64 y2, .int .i64 y3, .int .i64 y4] 75) from (hg1.block _ (old_of_row (kp_row (kp_alloc W (.cells #[.int .i64 8, .int .i64 0, .int .i64 0, .int .i64 0, .int .i64 0, .int .i64 i, .int .i64 0, .int .i64 0, .int .i64 0, .int .i64 0, .int .i64 y3, .int .i64 y4, .int .i64 0, .float .f64 0] 39)) RP.out)) (own_neQ OX1 (kp_row (kp_alloc W (.cells #[.int .i64 8, .int .i64 0, .int .i64 0, .int .i64 0, .int .i64 0, .int .i64 i, .int .i64 0, .int .i64 0, .int .i64 0, .int .i64 0, .int .i64 y3, .int .i64 y4, .int .i64 0, .float .f64 0] 39)) RP.out) (by decide))).trans (kp_row (kp_alloc W (.cells #[.int .i64 8, .int .i64 0, .int .i64 0, .int .i64 0, .int .i64 0, .int .i64 i, .int .i64 0, .int .i64 0, .int .i64 0, .int .i64 0, .int .i64 y3, .int .i64 y4, .int .i64 0, .float .f64 0] 39)) RP.out))
      obtain ⟨z10, z11, z12, z13, z14, z15, z16⟩ := cells_7 R1.out
      have O1 := Lib.hid o1
      clear o1 hg1 hb1 OX1
      go_wp2
      go_ret
      exact ⟨_, rfl, O1.out, K2.out⟩
  · have g7 : (yr == -1) = false := by simpa using h7
    have g7' : (yr != -1) = true := by simp [h7]
    have e7 : (0 : Int) ≤ yr := by omega
    by_cases h8 : y3 = 1
    · rw [show pFacts i ⟨yn, ys, yr, ⟨y1, y2, y3, y4⟩⟩ = [(⟨6, yn, ys, 0, 0, i, y1, 0, 0, 0, 0, 0, 0, 0⟩ : FX)] ++ [(⟨7, 0, 0, yr, 0, i, 0, 0, 0, 0, 0, 0, 0, 0⟩ : FX)] by unfold pFacts; simp [e7, h8]]
      have g8 : (y3 == 1) = true := beq_iff_eq.2 h8
      have g8' : (y3 != 1) = false := by simp [h8]
      clear h7 h8 e7 hr
      go_enter Tryz.func39, Tryz.ntmps39
      go_wp2_with (at_builtin; refine wpList_append_rwG (E := fcE) ty_fcL (by decide) _ rfl _ _ rfl w.heap.size _ 1 [(⟨6, yn, ys, 0, 0, i, y1, 0, 0, 0, 0, 0, 0, 0⟩ : FX)] rfl (own_kp O.out (kp_alloc W (.cells #[.int .i64 7, .int .i64 0, .int .i64 0, .int .i64 yr, .int .i64 0, .int .i64 i, .int .i64 0, .int .i64 0, .int .i64 0, .int .i64 0, .int .i64 0, .int .i64 0, .int .i64 0, .float .f64 0] 39))) _ [(⟨7, 0, 0, yr, 0, i, 0, 0, 0, 0, 0, 0, 0, 0⟩ : FX)] rfl (part_oneG (MapKept.heap_alloc W (.cells #[.int .i64 7, .int .i64 0, .int .i64 0, .int .i64 yr, .int .i64 0, .int .i64 i, .int .i64 0, .int .i64 0, .int .i64 0, .int .i64 0, .int .i64 0, .int .i64 0, .int .i64 0, .float .f64 0] 39)).1 rfl) (Nat.le_of_ble_eq_true rfl) (kp_size (Kp.trans K1.out (kp_alloc W (.cells #[.int .i64 7, .int .i64 0, .int .i64 0, .int .i64 yr, .int .i64 0, .int .i64 i, .int .i64 0, .int .i64 0, .int .i64 0, .int .i64 0, .int .i64 0, .int .i64 0, .int .i64 0, .float .f64 0] 39)))) ?_)
      rintro v1 u1 o1 hg1 hb1
      have OX1 := own_kp O.out (kp_alloc W (.cells #[.int .i64 7, .int .i64 0, .int .i64 0, .int .i64 yr, .int .i64 0, .int .i64 i, .int .i64 0, .int .i64 0, .int .i64 0, .int .i64 0, .int .i64 0, .int .i64 0, .int .i64 0, .float .f64 0] 39))
      have K2 := Lib.hid (show Kp w u1 from Below.grown (Kp.trans K1.out (kp_alloc W (.cells #[.int .i64 7, .int .i64 0, .int .i64 0, .int .i64 yr, .int .i64 0, .int .i64 i, .int .i64 0, .int .i64 0, .int .i64 0, .int .i64 0, .int .i64 0, .int .i64 0, .int .i64 0, .float .f64 0] 39))) hg1 (Below.size (Kp.trans K1.out (kp_alloc W (.cells #[.int .i64 7, .int .i64 0, .int .i64 0, .int .i64 yr, .int .i64 0, .int .i64 i, .int .i64 0, .int .i64 0, .int .i64 0, .int .i64 0, .int .i64 0, .int .i64 0, .int .i64 0, .float .f64 0] 39)))) (fun b hk => (OX1.lt b hk).1))
      have R1 := Lib.hid (show u1.heap[w.heap.size]? = some (.cells #[.int .i64 yn, .int .i64 ys, .int .i64 yr, .int .i64 y1, .int .i64 y2, .int .i64 y3, .int .i64 y4] 75) from (hg1.block _ (old_of_row (kp_row (kp_alloc W (.cells #[.int .i64 7, .int .i64 0, .int .i64 0, .int .i64 yr, .int .i64 0, .int .i64 i, .int .i64 0, .int .i64 0, .int .i64 0, .int .i64 0, .int .i64 0, .int .i64 0, .int .i64 0, .float .f64 0] 39)) RP.out)) (own_neQ OX1 (kp_row (kp_alloc W (.cells #[.int .i64 7, .int .i64 0, .int .i64 0, .int .i64 yr, .int .i64 0, .int .i64 i, .int .i64 0, .int .i64 0, .int .i64 0, .int .i64 0, .int .i64 0, .int .i64 0, .int .i64 0, .float .f64 0] 39)) RP.out) (by decide))).trans (kp_row (kp_alloc W (.cells #[.int .i64 7, .int .i64 0, .int .i64 0, .int .i64 yr, .int .i64 0, .int .i64 i, .int .i64 0, .int .i64 0, .int .i64 0, .int .i64 0, .int .i64 0, .int .i64 0, .int .i64 0, .float .f64 0] 39)) RP.out))
      obtain ⟨z10, z11, z12, z13, z14, z15, z16⟩ := cells_7 R1.out
      have O1 := Lib.hid o1
      clear o1 hg1 hb1 OX1
      go_wp2
      go_ret
      exact ⟨_, rfl, O1.out, K2.out⟩
    · rw [show pFacts i ⟨yn, ys, yr, ⟨y1, y2, y3, y4⟩⟩ = ([(⟨6, yn, ys, 0, 0, i, y1, 0, 0, 0, 0, 0, 0, 0⟩ : FX)] ++ [(⟨7, 0, 0, yr, 0, i, 0, 0, 0, 0, 0, 0, 0, 0⟩ : FX)]) ++ [(⟨8, 0, 0, 0, 0, i, 0, 0, 0, 0, y3, y4, 0, 0⟩ : FX)] by unfold pFacts; simp [h8, e7]]
      have g8 : (y3 == 1) = false := by simpa using h8
      have g8' : (y3 != 1) = true := by simp [h8]
      clear h7 h8 e7 hr
      go_enter Tryz.func39, Tryz.ntmps39
      go_wp2_with (at_builtin; refine wpList_append_rwG (E := fcE) ty_fcL (by decide) _ rfl _ _ rfl w.heap.size _ 1 [(⟨6, yn, ys, 0, 0, i, y1, 0, 0, 0, 0, 0, 0, 0⟩ : FX)] rfl (own_kp O.out (kp_alloc W (.cells #[.int .i64 7, .int .i64 0, .int .i64 0, .int .i64 yr, .int .i64 0, .int .i64 i, .int .i64 0, .int .i64 0, .int .i64 0, .int .i64 0, .int .i64 0, .int .i64 0, .int .i64 0, .float .f64 0] 39))) _ [(⟨7, 0, 0, yr, 0, i, 0, 0, 0, 0, 0, 0, 0, 0⟩ : FX)] rfl (part_oneG (MapKept.heap_alloc W (.cells #[.int .i64 7, .int .i64 0, .int .i64 0, .int .i64 yr, .int .i64 0, .int .i64 i, .int .i64 0, .int .i64 0, .int .i64 0, .int .i64 0, .int .i64 0, .int .i64 0, .int .i64 0, .float .f64 0] 39)).1 rfl) (Nat.le_of_ble_eq_true rfl) (kp_size (Kp.trans K1.out (kp_alloc W (.cells #[.int .i64 7, .int .i64 0, .int .i64 0, .int .i64 yr, .int .i64 0, .int .i64 i, .int .i64 0, .int .i64 0, .int .i64 0, .int .i64 0, .int .i64 0, .int .i64 0, .int .i64 0, .float .f64 0] 39)))) ?_)
      rintro v1 u1 o1 hg1 hb1
      have OX1 := own_kp O.out (kp_alloc W (.cells #[.int .i64 7, .int .i64 0, .int .i64 0, .int .i64 yr, .int .i64 0, .int .i64 i, .int .i64 0, .int .i64 0, .int .i64 0, .int .i64 0, .int .i64 0, .int .i64 0, .int .i64 0, .float .f64 0] 39))
      have K2 := Lib.hid (show Kp w u1 from Below.grown (Kp.trans K1.out (kp_alloc W (.cells #[.int .i64 7, .int .i64 0, .int .i64 0, .int .i64 yr, .int .i64 0, .int .i64 i, .int .i64 0, .int .i64 0, .int .i64 0, .int .i64 0, .int .i64 0, .int .i64 0, .int .i64 0, .float .f64 0] 39))) hg1 (Below.size (Kp.trans K1.out (kp_alloc W (.cells #[.int .i64 7, .int .i64 0, .int .i64 0, .int .i64 yr, .int .i64 0, .int .i64 i, .int .i64 0, .int .i64 0, .int .i64 0, .int .i64 0, .int .i64 0, .int .i64 0, .int .i64 0, .float .f64 0] 39)))) (fun b hk => (OX1.lt b hk).1))
      have R1 := Lib.hid (show u1.heap[w.heap.size]? = some (.cells #[.int .i64 yn, .int .i64 ys, .int .i64 yr, .int .i64 y1, .int .i64 y2, .int .i64 y3, .int .i64 y4] 75) from (hg1.block _ (old_of_row (kp_row (kp_alloc W (.cells #[.int .i64 7, .int .i64 0, .int .i64 0, .int .i64 yr, .int .i64 0, .int .i64 i, .int .i64 0, .int .i64 0, .int .i64 0, .int .i64 0, .int .i64 0, .int .i64 0, .int .i64 0, .float .f64 0] 39)) RP.out)) (own_neQ OX1 (kp_row (kp_alloc W (.cells #[.int .i64 7, .int .i64 0, .int .i64 0, .int .i64 yr, .int .i64 0, .int .i64 i, .int .i64 0, .int .i64 0, .int .i64 0, .int .i64 0, .int .i64 0, .int .i64 0, .int .i64 0, .float .f64 0] 39)) RP.out) (by decide))).trans (kp_row (kp_alloc W (.cells #[.int .i64 7, .int .i64 0, .int .i64 0, .int .i64 yr, .int .i64 0, .int .i64 i, .int .i64 0, .int .i64 0, .int .i64 0, .int .i64 0, .int .i64 0, .int .i64 0, .int .i64 0, .float .f64 0] 39)) RP.out))
      obtain ⟨z10, z11, z12, z13, z14, z15, z16⟩ := cells_7 R1.out
      have O1 := Lib.hid o1
      clear o1 hg1 hb1 OX1
      go_wp2_with (at_builtin; refine wpList_append_rwG (E := fcE) ty_fcL (by decide) _ rfl _ _ rfl w.heap.size _ 2 ([(⟨6, yn, ys, 0, 0, i, y1, 0, 0, 0, 0, 0, 0, 0⟩ : FX)] ++ [(⟨7, 0, 0, yr, 0, i, 0, 0, 0, 0, 0, 0, 0, 0⟩ : FX)]) rfl (own_kp O1.out (kp_alloc u1 (.cells #[.int .i64 8, .int .i64 0, .int .i64 0, .int .i64 0, .int .i64 0, .int .i64 i, .int .i64 0, .int .i64 0, .int .i64 0, .int .i64 0, .int .i64 y3, .int .i64 y4, .int .i64 0, .float .f64 0] 39))) _ [(⟨8, 0, 0, 0, 0, i, 0, 0, 0, 0, y3, y4, 0, 0⟩ : FX)] rfl (part_oneG (MapKept.heap_alloc u1 (.cells #[.int .i64 8, .int .i64 0, .int .i64 0, .int .i64 0, .int .i64 0, .int .i64 i, .int .i64 0, .int .i64 0, .int .i64 0, .int .i64 0, .int .i64 y3, .int .i64 y4, .int .i64 0, .float .f64 0] 39)).1 rfl) (Nat.le_of_ble_eq_true rfl) (kp_size (Kp.trans K2.out (kp_alloc u1 (.cells #[.int .i64 8, .int .i64 0, .int .i64 0, .int .i64 0, .int .i64 0, .int .i64 i, .int .i64 0, .int .i64 0, .int .i64 0, .int .i64 0, .int .i64 y3, .int .i64 y4, .int .i64 0, .float .f64 0] 39)))) ?_)
      rintro v2 u2 o2 hg2 hb2
      have OX2 := own_kp O1.out (kp_alloc u1 (.cells #[.int .i64 8, .int .i64 0, .int .i64 0, .int .i64 0, .int .i64 0, .int .i64 i, .int .i64 0, .int .i64 0, .int .i64 0, .int .i64 0, .int .i64 y3, .int .i64 y4, .int .i64 0, .float .f64 0] 39))
      have K3 := Lib.hid (show Kp w u2 from Below.grown (Kp.trans K2.out (kp_alloc u1 (.cells #[.int .i64 8, .int .i64 0, .int .i64 0, .int .i64 0, .int .i64 0, .int .i64 i, .int .i64 0, .int .i64 0, .int .i64 0, .int .i64 0, .int .i64 y3, .int .i64 y4, .int .i64 0, .float .f64 0] 39))) hg2 (Below.size (Kp.trans K2.out (kp_alloc u1 (.cells #[.int .i64 8, .int .i64 0, .int .i64 0, .int .i64 0, .int .i64 0, .int .i64 i, .int .i64 0, .int .i64 0, .int .i64 0, .int .i64 0, .int .i64 y3, .int .i64 y4, .int .i64 0, .float .f64 0] 39)))) (fun b hk => (OX2.lt b hk).1))
      have R2 := Lib.hid (show u2.heap[w.heap.size]? = some (.cells #[.int .i64 yn, .int .i64 ys, .int .i64 yr, .int .i64 y1, .int .i64 y2, .int .i64 y3, .int .i64 y4] 75) from (hg2.block _ (old_of_row (kp_row (kp_alloc u1 (.cells #[.int .i64 8, .int .i64 0, .int .i64 0, .int .i64 0, .int .i64 0, .int .i64 i, .int .i64 0, .int .i64 0, .int .i64 0, .int .i64 0, .int .i64 y3, .int .i64 y4, .int .i64 0, .float .f64 0] 39)) R1.out)) (own_neQ OX2 (kp_row (kp_alloc u1 (.cells #[.int .i64 8, .int .i64 0, .int .i64 0, .int .i64 0, .int .i64 0, .int .i64 i, .int .i64 0, .int .i64 0, .int .i64 0, .int .i64 0, .int .i64 y3, .int .i64 y4, .int .i64 0, .float .f64 0] 39)) R1.out) (by decide))).trans (kp_row (kp_alloc u1 (.cells #[.int .i64 8, .int .i64 0, .int .i64 0, .int .i64 0, .int .i64 0, .int .i64 i, .int .i64 0, .int .i64 0, .int .i64 0, .int .i64 0, .int .i64 y3, .int .i64 y4, .int .i64 0, .float .f64 0] 39)) R1.out))
      obtain ⟨z20, z21, z22, z23, z24, z25, z26⟩ := cells_7 R2.out
      have O2 := Lib.hid o2
      clear o2 hg2 hb2 OX2
      go_wp2
      go_ret
      exact ⟨_, rfl, O2.out, K3.out⟩
end Go.Proofs.YtpemeenfhkgmpaaGreatDoor
