/- Parts of this proof (own work). -/
import Derived.Test.YtpemeenfhkgmpaaGreatDoorZf32
set_option maxRecDepth 100000
set_option maxHeartbeats 40000000
namespace Go.Proofs.YtpemeenfhkgmpaaGreatDoor
open Go.RowKit Go.ChangeShapes Go.WideShapes
def fcE : EncG FX where
 enc f := f.cells.toList
 k := 14
 len := fun _ => rfl
 one := by
  intro x u hu; simp only [FX.cells, List.mem_cons, List.not_mem_nil, or_false] at hu
  rcases hu with rfl | rfl | rfl | rfl | rfl | rfl | rfl | rfl | rfl | rfl | rfl | rfl | rfl | rfl <;> rfl
theorem info_fcL0 : (Tryz.prog.info? 39).map (fun i => (i.zero, i.size, i.bytes)) = some (some (.agg #[(0:Int), (0:Int), (0:Int), (0:Int), (0:Int), (0:Int), (0:Int), (0:Int), (0:Int), (0:Int), (0:Int), (0:Int), (0:Int), .float .f64 0]), 14, 112) := by kernel_rfl
theorem info_fcL : ∃ i0, Tryz.prog.info? 39 = some i0 ∧ i0.zero = some (.agg #[(0:Int), (0:Int), (0:Int), (0:Int), (0:Int), (0:Int), (0:Int), (0:Int), (0:Int), (0:Int), (0:Int), (0:Int), (0:Int), .float .f64 0]) ∧ i0.size = 14 ∧ i0.bytes = 112 := by
 have h := info_fcL0
 cases g : Tryz.prog.info? 39 with
 | none => rw [g] at h; cases h
 | some i0 =>
  rw [g] at h; simp only [Option.map_some, Option.some.injEq, Prod.mk.injEq] at h
  exact ⟨i0, rfl, h.1, h.2.1, h.2.2⟩
theorem ty_fcL : TyG Tryz.prog 22 39 14 (.agg #[(0:Int), (0:Int), (0:Int), (0:Int), (0:Int), (0:Int), (0:Int), (0:Int), (0:Int), (0:Int), (0:Int), (0:Int), (0:Int), .float .f64 0]) 112 := ⟨Tryz.underlying22, info_fcL, rfl, by decide⟩
theorem info_fcD0 : (Tryz.prog.info? 42).map (fun i => (i.zero, i.size, i.bytes)) = some (some (.agg #[(0:Int), (0:Int), (0:Int), (0:Int), (0:Int), (0:Int), (0:Int), (0:Int), (0:Int), (0:Int), (0:Int), (0:Int), (0:Int), .float .f64 0]), 14, 112) := by kernel_rfl
theorem info_fcD : ∃ i0, Tryz.prog.info? 42 = some i0 ∧ i0.zero = some (.agg #[(0:Int), (0:Int), (0:Int), (0:Int), (0:Int), (0:Int), (0:Int), (0:Int), (0:Int), (0:Int), (0:Int), (0:Int), (0:Int), .float .f64 0]) ∧ i0.size = 14 ∧ i0.bytes = 112 := by
 have h := info_fcD0
 cases g : Tryz.prog.info? 42 with
 | none => rw [g] at h; cases h
 | some i0 =>
  rw [g] at h; simp only [Option.map_some, Option.some.injEq, Prod.mk.injEq] at h
  exact ⟨i0, rfl, h.1, h.2.1, h.2.2⟩
theorem ty_fcD : TyG Tryz.prog 46 42 14 (.agg #[(0:Int), (0:Int), (0:Int), (0:Int), (0:Int), (0:Int), (0:Int), (0:Int), (0:Int), (0:Int), (0:Int), (0:Int), (0:Int), .float .f64 0]) 112 := ⟨Tryz.underlying46, info_fcD, rfl, by decide⟩
theorem own_oneF {w : World} {t : TypeId} {B : Nat} (f : FX) (hb : B ≤ w.heap.size) : (w.alloc (.cells f.cells t)).ownsRow B t 14 (.slice (some ⟨w.heap.size, 0, none⟩) 1 1) 1 (fcE.row [f]) := by
 have := World.ownsRow_lit (base := B) (e := t) (size := 14) w f.cells 1 hb (by decide) rfl; rw [show fcE.row [f] = f.cells.toList by unfold EncG.row; simp [fcE]]; exact this
def pFacts (i : Int) (x : PaM) : List FX := ⟨6, x.n, x.s, 0, 0, i, x.z.p, 0, 0, 0, 0, 0, 0, 0⟩ :: ((if 0 ≤ x.reg then [⟨7, 0, 0, x.reg, 0, i, 0, 0, 0, 0, 0, 0, 0, 0⟩] else []) ++ (if x.z.s ≠ 1 then [⟨8, 0, 0, 0, 0, i, 0, 0, 0, 0, x.z.s, x.z.h, 0, 0⟩] else []))
theorem pFacts_len (i : Int) (x : PaM) : (pFacts i x).length ≤ 3 := by unfold pFacts; split <;> split <;> simp
theorem factsP_app : ∀ (i : Nat) (A B : List PaM), factsP i (A ++ B) = factsP i A ++ factsP (i + A.length) B
 | i, [], B => rfl
 | i, x :: A, B => by
  have ih := factsP_app (i + 1) A B; simp only [List.cons_append, factsP, ih, List.append_assoc, List.length_cons]
  rw [show i + 1 + A.length = i + (A.length + 1) by omega]
theorem factsP_one (i : Nat) (x : PaM) : factsP i [x] = pFacts i x := by
 unfold pFacts; simp only [factsP, fxJoined, List.append_nil]
variable {w0 w w' W w3 : World} {B q : Nat} {m : StM} {gs : List AcG} {va vp : Value}
theorem lsPFacts (yn ys yr y1 y2 y3 y4 i : Int) (hr : -1 ≤ yr) : Calls Tryz.prog 39 #[.agg #[yn, ys, yr, y1, y2, y3, y4], .int .i64 i] w fun r w' => ∃ v, r = .returned v ∧ w'.ownsRow w.heap.size 39 14 v (pFacts i ⟨yn, ys, yr, ⟨y1, y2, y3, y4⟩⟩).length (fcE.row (pFacts i ⟨yn, ys, yr, ⟨y1, y2, y3, y4⟩⟩)) ∧ Kp w w' := by
 have k1 : Kp w ((w.alloc (.cells #[yn, ys, yr, y1, y2, y3, y4] 75)).alloc (.cells #[(6:Int), yn, ys, (0:Int), (0:Int), i, y1, (0:Int), (0:Int), (0:Int), (0:Int), (0:Int), (0:Int), .float .f64 0] 39)) := kT (kA _ _) (kA _ _); have rp := nX0 w (.cells #[yn, ys, yr, y1, y2, y3, y4] 75) (.cells #[(6:Int), yn, ys, (0:Int), (0:Int), i, y1, (0:Int), (0:Int), (0:Int), (0:Int), (0:Int), (0:Int), .float .f64 0] 39); obtain ⟨x0, x1, x2, x3, x4, x5, x6⟩ := c7X (mH w (.cells #[yn, ys, yr, y1, y2, y3, y4] 75)); have ow := own_oneF (w := w.alloc (.cells #[yn, ys, yr, y1, y2, y3, y4] 75)) (t := 39) (B := w.heap.size) (⟨6, yn, ys, 0, 0, i, y1, 0, 0, 0, 0, 0, 0, 0⟩ : FX) (kS (kA _ _)); dsimp only [FX.cells] at ow; rw [show (w.alloc (.cells #[yn, ys, yr, y1, y2, y3, y4] 75)).heap.size = w.heap.size + 1 by simp] at ow; obtain ⟨W, hW⟩ : ∃ W, ((w.alloc (.cells #[yn, ys, yr, y1, y2, y3, y4] 75)).alloc (.cells #[(6:Int), yn, ys, (0:Int), (0:Int), i, y1, (0:Int), (0:Int), (0:Int), (0:Int), (0:Int), (0:Int), .float .f64 0] 39)) = W := ⟨_, rfl⟩
 rw [hW] at k1 rp ow; obtain ⟨s0, s1, s2, s3, s4, s5, s6⟩ := c7X rp; obtain ⟨K1, RP, O⟩ := hD3 k1 rp ow; have hsf := sF; clear k1 rp ow
 by_cases h7 : yr = -1
 ·have g7 : (yr == -1) = true := beq_iff_eq.2 h7; have g7' : (yr != -1) = false := by simp [h7]
  have e7 : ¬ (0 : Int) ≤ yr := by omega
  by_cases h8 : y3 = 1
  ·rw [show pFacts i ⟨yn, ys, yr, ⟨y1, y2, y3, y4⟩⟩ = [(⟨6, yn, ys, 0, 0, i, y1, 0, 0, 0, 0, 0, 0, 0⟩ : FX)] by unfold pFacts; simp [e7, h8]]; have g8 : (y3 == 1) = true := beq_iff_eq.2 h8; have g8' : (y3 != 1) = false := by simp [h8]
   clear h7 h8 e7 hr; go_enter Tryz.func39, Tryz.ntmps39; go_wp2; go_ret; exact ⟨_, rfl, O.out, K1.out⟩
  ·rw [show pFacts i ⟨yn, ys, yr, ⟨y1, y2, y3, y4⟩⟩ = [(⟨6, yn, ys, 0, 0, i, y1, 0, 0, 0, 0, 0, 0, 0⟩ : FX)] ++ [(⟨8, 0, 0, 0, 0, i, 0, 0, 0, 0, y3, y4, 0, 0⟩ : FX)] by unfold pFacts; simp [e7, h8]]; have g8 : (y3 == 1) = false := by simpa using h8
   have g8' : (y3 != 1) = true := by simp [h8]
   clear h7 h8 e7 hr; go_enter Tryz.func39, Tryz.ntmps39; go_wp2_with (at_builtin; refine aG (E := fcE) ty_fcL (by decide) _ rfl _ _ rfl w.heap.size _ 1 [(⟨6, yn, ys, 0, 0, i, y1, 0, 0, 0, 0, 0, 0, 0⟩ : FX)] rfl (oK O.out (kA W (.cells #[(8:Int), (0:Int), (0:Int), (0:Int), (0:Int), i, (0:Int), (0:Int), (0:Int), (0:Int), y3, y4, (0:Int), .float .f64 0] 39))) _ [(⟨8, 0, 0, 0, 0, i, 0, 0, 0, 0, y3, y4, 0, 0⟩ : FX)] rfl (pG (mH W (.cells #[(8:Int), (0:Int), (0:Int), (0:Int), (0:Int), i, (0:Int), (0:Int), (0:Int), (0:Int), y3, y4, (0:Int), .float .f64 0] 39)) rfl) (Nat.le_of_ble_eq_true rfl) (kS (kT K1.out (kA W (.cells #[(8:Int), (0:Int), (0:Int), (0:Int), (0:Int), i, (0:Int), (0:Int), (0:Int), (0:Int), y3, y4, (0:Int), .float .f64 0] 39)))) ?_)
   rintro v1 u1 o1 hg1 hb1; have OX1 := oK O.out (kA W (.cells #[(8:Int), (0:Int), (0:Int), (0:Int), (0:Int), i, (0:Int), (0:Int), (0:Int), (0:Int), y3, y4, (0:Int), .float .f64 0] 39)); have K2 := hD (show Kp w u1 from Below.grown (kT K1.out (kA W (.cells #[(8:Int), (0:Int), (0:Int), (0:Int), (0:Int), i, (0:Int), (0:Int), (0:Int), (0:Int), y3, y4, (0:Int), .float .f64 0] 39))) hg1 (Below.size (kT K1.out (kA W (.cells #[(8:Int), (0:Int), (0:Int), (0:Int), (0:Int), i, (0:Int), (0:Int), (0:Int), (0:Int), y3, y4, (0:Int), .float .f64 0] 39)))) (fun b hk => (OX1.lt b hk).1)); have R1 := hD (show u1.heap[w.heap.size]? = some (.cells #[yn, ys, yr, y1, y2, y3, y4] 75) from (hg1.block _ (oZ (rZ (kA W (.cells #[(8:Int), (0:Int), (0:Int), (0:Int), (0:Int), i, (0:Int), (0:Int), (0:Int), (0:Int), y3, y4, (0:Int), .float .f64 0] 39)) RP.out)) (nQ OX1 (rZ (kA W (.cells #[(8:Int), (0:Int), (0:Int), (0:Int), (0:Int), i, (0:Int), (0:Int), (0:Int), (0:Int), y3, y4, (0:Int), .float .f64 0] 39)) RP.out) (by decide))).trans (rZ (kA W (.cells #[(8:Int), (0:Int), (0:Int), (0:Int), (0:Int), i, (0:Int), (0:Int), (0:Int), (0:Int), y3, y4, (0:Int), .float .f64 0] 39)) RP.out))
   obtain ⟨z10, z11, z12, z13, z14, z15, z16⟩ := c7X R1.out; have O1 := hD o1; clear o1 hg1 hb1 OX1; go_wp2; go_ret; exact ⟨_, rfl, O1.out, K2.out⟩
 ·have g7 : (yr == -1) = false := by simpa using h7
  have g7' : (yr != -1) = true := by simp [h7]
  have e7 : (0 : Int) ≤ yr := by omega
  by_cases h8 : y3 = 1
  ·rw [show pFacts i ⟨yn, ys, yr, ⟨y1, y2, y3, y4⟩⟩ = [(⟨6, yn, ys, 0, 0, i, y1, 0, 0, 0, 0, 0, 0, 0⟩ : FX)] ++ [(⟨7, 0, 0, yr, 0, i, 0, 0, 0, 0, 0, 0, 0, 0⟩ : FX)] by unfold pFacts; simp [e7, h8]]; have g8 : (y3 == 1) = true := beq_iff_eq.2 h8; have g8' : (y3 != 1) = false := by simp [h8]
   clear h7 h8 e7 hr; go_enter Tryz.func39, Tryz.ntmps39; go_wp2_with (at_builtin; refine aG (E := fcE) ty_fcL (by decide) _ rfl _ _ rfl w.heap.size _ 1 [(⟨6, yn, ys, 0, 0, i, y1, 0, 0, 0, 0, 0, 0, 0⟩ : FX)] rfl (oK O.out (kA W (.cells #[(7:Int), (0:Int), (0:Int), yr, (0:Int), i, (0:Int), (0:Int), (0:Int), (0:Int), (0:Int), (0:Int), (0:Int), .float .f64 0] 39))) _ [(⟨7, 0, 0, yr, 0, i, 0, 0, 0, 0, 0, 0, 0, 0⟩ : FX)] rfl (pG (mH W (.cells #[(7:Int), (0:Int), (0:Int), yr, (0:Int), i, (0:Int), (0:Int), (0:Int), (0:Int), (0:Int), (0:Int), (0:Int), .float .f64 0] 39)) rfl) (Nat.le_of_ble_eq_true rfl) (kS (kT K1.out (kA W (.cells #[(7:Int), (0:Int), (0:Int), yr, (0:Int), i, (0:Int), (0:Int), (0:Int), (0:Int), (0:Int), (0:Int), (0:Int), .float .f64 0] 39)))) ?_)
   rintro v1 u1 o1 hg1 hb1; have OX1 := oK O.out (kA W (.cells #[(7:Int), (0:Int), (0:Int), yr, (0:Int), i, (0:Int), (0:Int), (0:Int), (0:Int), (0:Int), (0:Int), (0:Int), .float .f64 0] 39)); have K2 := hD (show Kp w u1 from Below.grown (kT K1.out (kA W (.cells #[(7:Int), (0:Int), (0:Int), yr, (0:Int), i, (0:Int), (0:Int), (0:Int), (0:Int), (0:Int), (0:Int), (0:Int), .float .f64 0] 39))) hg1 (Below.size (kT K1.out (kA W (.cells #[(7:Int), (0:Int), (0:Int), yr, (0:Int), i, (0:Int), (0:Int), (0:Int), (0:Int), (0:Int), (0:Int), (0:Int), .float .f64 0] 39)))) (fun b hk => (OX1.lt b hk).1)); have R1 := hD (show u1.heap[w.heap.size]? = some (.cells #[yn, ys, yr, y1, y2, y3, y4] 75) from (hg1.block _ (oZ (rZ (kA W (.cells #[(7:Int), (0:Int), (0:Int), yr, (0:Int), i, (0:Int), (0:Int), (0:Int), (0:Int), (0:Int), (0:Int), (0:Int), .float .f64 0] 39)) RP.out)) (nQ OX1 (rZ (kA W (.cells #[(7:Int), (0:Int), (0:Int), yr, (0:Int), i, (0:Int), (0:Int), (0:Int), (0:Int), (0:Int), (0:Int), (0:Int), .float .f64 0] 39)) RP.out) (by decide))).trans (rZ (kA W (.cells #[(7:Int), (0:Int), (0:Int), yr, (0:Int), i, (0:Int), (0:Int), (0:Int), (0:Int), (0:Int), (0:Int), (0:Int), .float .f64 0] 39)) RP.out))
   obtain ⟨z10, z11, z12, z13, z14, z15, z16⟩ := c7X R1.out; have O1 := hD o1; clear o1 hg1 hb1 OX1; go_wp2; go_ret; exact ⟨_, rfl, O1.out, K2.out⟩
  ·rw [show pFacts i ⟨yn, ys, yr, ⟨y1, y2, y3, y4⟩⟩ = ([(⟨6, yn, ys, 0, 0, i, y1, 0, 0, 0, 0, 0, 0, 0⟩ : FX)] ++ [(⟨7, 0, 0, yr, 0, i, 0, 0, 0, 0, 0, 0, 0, 0⟩ : FX)]) ++ [(⟨8, 0, 0, 0, 0, i, 0, 0, 0, 0, y3, y4, 0, 0⟩ : FX)] by unfold pFacts; simp [h8, e7]]; have g8 : (y3 == 1) = false := by simpa using h8
   have g8' : (y3 != 1) = true := by simp [h8]
   clear h7 h8 e7 hr; go_enter Tryz.func39, Tryz.ntmps39; go_wp2_with (at_builtin; refine aG (E := fcE) ty_fcL (by decide) _ rfl _ _ rfl w.heap.size _ 1 [(⟨6, yn, ys, 0, 0, i, y1, 0, 0, 0, 0, 0, 0, 0⟩ : FX)] rfl (oK O.out (kA W (.cells #[(7:Int), (0:Int), (0:Int), yr, (0:Int), i, (0:Int), (0:Int), (0:Int), (0:Int), (0:Int), (0:Int), (0:Int), .float .f64 0] 39))) _ [(⟨7, 0, 0, yr, 0, i, 0, 0, 0, 0, 0, 0, 0, 0⟩ : FX)] rfl (pG (mH W (.cells #[(7:Int), (0:Int), (0:Int), yr, (0:Int), i, (0:Int), (0:Int), (0:Int), (0:Int), (0:Int), (0:Int), (0:Int), .float .f64 0] 39)) rfl) (Nat.le_of_ble_eq_true rfl) (kS (kT K1.out (kA W (.cells #[(7:Int), (0:Int), (0:Int), yr, (0:Int), i, (0:Int), (0:Int), (0:Int), (0:Int), (0:Int), (0:Int), (0:Int), .float .f64 0] 39)))) ?_)
   rintro v1 u1 o1 hg1 hb1; have OX1 := oK O.out (kA W (.cells #[(7:Int), (0:Int), (0:Int), yr, (0:Int), i, (0:Int), (0:Int), (0:Int), (0:Int), (0:Int), (0:Int), (0:Int), .float .f64 0] 39)); have K2 := hD (show Kp w u1 from Below.grown (kT K1.out (kA W (.cells #[(7:Int), (0:Int), (0:Int), yr, (0:Int), i, (0:Int), (0:Int), (0:Int), (0:Int), (0:Int), (0:Int), (0:Int), .float .f64 0] 39))) hg1 (Below.size (kT K1.out (kA W (.cells #[(7:Int), (0:Int), (0:Int), yr, (0:Int), i, (0:Int), (0:Int), (0:Int), (0:Int), (0:Int), (0:Int), (0:Int), .float .f64 0] 39)))) (fun b hk => (OX1.lt b hk).1)); have R1 := hD (show u1.heap[w.heap.size]? = some (.cells #[yn, ys, yr, y1, y2, y3, y4] 75) from (hg1.block _ (oZ (rZ (kA W (.cells #[(7:Int), (0:Int), (0:Int), yr, (0:Int), i, (0:Int), (0:Int), (0:Int), (0:Int), (0:Int), (0:Int), (0:Int), .float .f64 0] 39)) RP.out)) (nQ OX1 (rZ (kA W (.cells #[(7:Int), (0:Int), (0:Int), yr, (0:Int), i, (0:Int), (0:Int), (0:Int), (0:Int), (0:Int), (0:Int), (0:Int), .float .f64 0] 39)) RP.out) (by decide))).trans (rZ (kA W (.cells #[(7:Int), (0:Int), (0:Int), yr, (0:Int), i, (0:Int), (0:Int), (0:Int), (0:Int), (0:Int), (0:Int), (0:Int), .float .f64 0] 39)) RP.out))
   obtain ⟨z10, z11, z12, z13, z14, z15, z16⟩ := c7X R1.out; have O1 := hD o1; clear o1 hg1 hb1 OX1; go_wp2_with (at_builtin; refine aG (E := fcE) ty_fcL (by decide) _ rfl _ _ rfl w.heap.size _ 2 ([(⟨6, yn, ys, 0, 0, i, y1, 0, 0, 0, 0, 0, 0, 0⟩ : FX)] ++ [(⟨7, 0, 0, yr, 0, i, 0, 0, 0, 0, 0, 0, 0, 0⟩ : FX)]) rfl (oK O1.out (kA u1 (.cells #[(8:Int), (0:Int), (0:Int), (0:Int), (0:Int), i, (0:Int), (0:Int), (0:Int), (0:Int), y3, y4, (0:Int), .float .f64 0] 39))) _ [(⟨8, 0, 0, 0, 0, i, 0, 0, 0, 0, y3, y4, 0, 0⟩ : FX)] rfl (pG (mH u1 (.cells #[(8:Int), (0:Int), (0:Int), (0:Int), (0:Int), i, (0:Int), (0:Int), (0:Int), (0:Int), y3, y4, (0:Int), .float .f64 0] 39)) rfl) (Nat.le_of_ble_eq_true rfl) (kS (kT K2.out (kA u1 (.cells #[(8:Int), (0:Int), (0:Int), (0:Int), (0:Int), i, (0:Int), (0:Int), (0:Int), (0:Int), y3, y4, (0:Int), .float .f64 0] 39)))) ?_)
   rintro v2 u2 o2 hg2 hb2; have OX2 := oK O1.out (kA u1 (.cells #[(8:Int), (0:Int), (0:Int), (0:Int), (0:Int), i, (0:Int), (0:Int), (0:Int), (0:Int), y3, y4, (0:Int), .float .f64 0] 39)); have K3 := hD (show Kp w u2 from Below.grown (kT K2.out (kA u1 (.cells #[(8:Int), (0:Int), (0:Int), (0:Int), (0:Int), i, (0:Int), (0:Int), (0:Int), (0:Int), y3, y4, (0:Int), .float .f64 0] 39))) hg2 (Below.size (kT K2.out (kA u1 (.cells #[(8:Int), (0:Int), (0:Int), (0:Int), (0:Int), i, (0:Int), (0:Int), (0:Int), (0:Int), y3, y4, (0:Int), .float .f64 0] 39)))) (fun b hk => (OX2.lt b hk).1)); have R2 := hD (show u2.heap[w.heap.size]? = some (.cells #[yn, ys, yr, y1, y2, y3, y4] 75) from (hg2.block _ (oZ (rZ (kA u1 (.cells #[(8:Int), (0:Int), (0:Int), (0:Int), (0:Int), i, (0:Int), (0:Int), (0:Int), (0:Int), y3, y4, (0:Int), .float .f64 0] 39)) R1.out)) (nQ OX2 (rZ (kA u1 (.cells #[(8:Int), (0:Int), (0:Int), (0:Int), (0:Int), i, (0:Int), (0:Int), (0:Int), (0:Int), y3, y4, (0:Int), .float .f64 0] 39)) R1.out) (by decide))).trans (rZ (kA u1 (.cells #[(8:Int), (0:Int), (0:Int), (0:Int), (0:Int), i, (0:Int), (0:Int), (0:Int), (0:Int), y3, y4, (0:Int), .float .f64 0] 39)) R1.out))
   obtain ⟨z20, z21, z22, z23, z24, z25, z26⟩ := c7X R2.out; have O2 := hD o2; clear o2 hg2 hb2 OX2; go_wp2; go_ret; exact ⟨_, rfl, O2.out, K3.out⟩
theorem factsR_app (n s : Int) : ∀ (i : Nat) (A B : List RgM), factsR n s i (A ++ B) = factsR n s i A ++ factsR n s (i + A.length) B
 | i, [], B => rfl
 | i, x :: A, B => by
  have ih := factsR_app n s (i + 1) A B; simp only [List.cons_append, factsR, ih, List.length_cons]
  rw [show i + 1 + A.length = i + (A.length + 1) by omega]
theorem factsZ_app (n s : Int) : ∀ (i : Nat) (A B : List RgM), factsZ n s i (A ++ B) = factsZ n s i A ++ factsZ n s (i + A.length) B
 | i, [], B => rfl
 | i, x :: A, B => by
  have ih := factsZ_app n s (i + 1) A B; simp only [List.cons_append, factsZ, ih, List.append_assoc, List.length_cons]
  rw [show i + 1 + A.length = i + (A.length + 1) by omega]
theorem factsR_len (n s : Int) : ∀ (i : Nat) (A : List RgM), (factsR n s i A).length = A.length
 | _, [] => rfl
 | i, x :: A => by simp only [factsR, List.length_cons, factsR_len n s (i + 1) A]
theorem factsZ_len (n s : Int) : ∀ (i : Nat) (A : List RgM), (factsZ n s i A).length ≤ A.length
 | _, [] => Nat.le_refl _
 | i, x :: A => by
  have := factsZ_len n s (i + 1) A; simp only [factsZ, List.length_append, List.length_cons]
  split <;> simp <;> omega
theorem factsA_len (a : AcM) : (factsA a).length ≤ 2 + 2 * a.regs.length := by
 have h1 := factsR_len a.c.n a.c.s 0 a.regs; have h2 := factsZ_len a.c.n a.c.s 0 a.regs; unfold factsA; simp only [List.length_cons, List.length_append, h1]
 split <;> simp <;> omega
theorem cells_6Q {b : Nat} {t : TypeId} {w : World} {x0 x1 x2 x3 x4 x5 : Value} (h : w.heap[b]? = some (.cells #[x0, x1, x2, x3, x4, x5] t (0, 0))) : w.cell? ⟨b, 0, none⟩ = some x0 ∧ w.cell? ⟨b, 1, none⟩ = some x1 ∧ w.cell? ⟨b, 2, none⟩ = some x2 ∧ w.cell? ⟨b, 3, none⟩ = some x3 ∧ w.cell? ⟨b, 4, none⟩ = some x4 ∧ w.cell? ⟨b, 5, none⟩ = some x5 := by
 refine ⟨?_, ?_, ?_, ?_, ?_, ?_⟩ <;> (unfold World.cell?; dsimp only; rw [h]; rfl)
theorem al3_0 (w : World) (o1 o2 o3 : Obj) : (((w.alloc o1).alloc o2).alloc o3).heap[w.heap.size]? = some o1 := by
 rw [Below.heap_alloc _ _ _ (by simp <;> omega), Below.heap_alloc _ _ _ (by simp)]; exact (mH w o1)
theorem al3_1 (w : World) (o1 o2 o3 : Obj) : (((w.alloc o1).alloc o2).alloc o3).heap[w.heap.size + 1]? = some o2 := by
 rw [Below.heap_alloc _ _ _ (by simp)]; have := (mH (w.alloc o1) o2)
 simpa using this
theorem lsAFacts (xn xs xo xd : Int) (xx : Nat) (xp xc : Int) (xb : Option Addr) (n xk : Nat) (xr : List RgM) (hn : xr.length = n) (h6 : n ≤ 6) (hO : w.ownsRow B 69 6 (.slice xb n xk) n (rgE.row xr)) :
  Calls Tryz.prog 40 #[.agg #[xn, xs, xo, xd, xx, xp, xc, .slice xb n xk]] w fun r w' => ∃ v, r = .returned v ∧ w'.ownsRow w.heap.size 39 14 v (factsA ⟨⟨xn, xs, xo, xd, xx⟩, xp, xc, xr⟩).length (fcE.row (factsA ⟨⟨xn, xs, xo, xd, xx⟩, xp, xc, xr⟩)) ∧ Kp w w' := by
 obtain ⟨ya0, ya1, ya2, ya3, ya4, ya5, ya6, ya7⟩ := c8X (mH w (.cells #[xn, xs, xo, xd, xx, xp, xc, .slice xb n xk] 65)); obtain ⟨m0, m1, m2, m3, m4⟩ := cells_5 (nX1 w (.cells #[xn, xs, xo, xd, xx, xp, xc, .slice xb n xk] 65) (.cells #[xn, xs, xo, xd, xx] 62)); have g5 := kZ (kA _ (.cells #[xn, xs, xo, xd, xx] 62)) ya5; have k1 : Kp w (((w.alloc (.cells #[xn, xs, xo, xd, xx, xp, xc, .slice xb n xk] 65)).alloc (.cells #[xn, xs, xo, xd, xx] 62)).alloc (.cells #[(1:Int), xn, xs, (0:Int), (0:Int), (0:Int), (0:Int), xo, xd, xp, (0:Int), (0:Int), (0:Int), xx] 39)) := kT (kT (kA _ _) (kA _ _)) (kA _ _); have ra := al3_0 w (.cells #[xn, xs, xo, xd, xx, xp, xc, .slice xb n xk] 65) (.cells #[xn, xs, xo, xd, xx] 62) (.cells #[(1:Int), xn, xs, (0:Int), (0:Int), (0:Int), (0:Int), xo, xd, xp, (0:Int), (0:Int), (0:Int), xx] 39); have rc := al3_1 w (.cells #[xn, xs, xo, xd, xx, xp, xc, .slice xb n xk] 65) (.cells #[xn, xs, xo, xd, xx] 62) (.cells #[(1:Int), xn, xs, (0:Int), (0:Int), (0:Int), (0:Int), xo, xd, xp, (0:Int), (0:Int), (0:Int), xx] 39)
 have ow := own_oneF (w := (w.alloc (.cells #[xn, xs, xo, xd, xx, xp, xc, .slice xb n xk] 65)).alloc (.cells #[xn, xs, xo, xd, xx] 62)) (t := 39) (B := w.heap.size) (⟨1, xn, xs, 0, 0, 0, 0, xo, xd, xp, 0, 0, 0, xx⟩ : FX) (by simp; omega); dsimp only [FX.cells] at ow; rw [show ((w.alloc (.cells #[xn, xs, xo, xd, xx, xp, xc, .slice xb n xk] 65)).alloc (.cells #[xn, xs, xo, xd, xx] 62)).heap.size = w.heap.size + 1 + 1 by simp] at ow; obtain ⟨W, hW⟩ : ∃ W, (((w.alloc (.cells #[xn, xs, xo, xd, xx, xp, xc, .slice xb n xk] 65)).alloc (.cells #[xn, xs, xo, xd, xx] 62)).alloc (.cells #[(1:Int), xn, xs, (0:Int), (0:Int), (0:Int), (0:Int), xo, xd, xp, (0:Int), (0:Int), (0:Int), xx] 39)) = W := ⟨_, rfl⟩
 rw [hW] at k1 ra rc ow; obtain ⟨s0, s1, s2, s3, s4, s5, s6, s7⟩ := c8X ra; obtain ⟨N, hN⟩ : ∃ N : Int, (n : Int) = N := ⟨_, rfl⟩
 obtain ⟨K1, RA, RC, OE1, HN, HNN, H6, ORR⟩ := hD8 k1 ra rc ow hn hN h6 hO; have HL0R := hD (show ([(⟨1, xn, xs, 0, 0, 0, 0, xo, xd, xp, 0, 0, 0, xx⟩ : FX)] : List FX).length ≤ 50 by simp); have hsf := sF; clear k1 ra rc ow hn h6 hO; go_enter Tryz.func40, Tryz.ntmps40; go_wp2; go_loopw [4, 26] (fun v i wr => ∃ j : Nat, j ≤ n ∧ i = .int .i64 j ∧ wr.ownsRow w.heap.size 39 14 v ([(⟨1, xn, xs, 0, 0, 0, 0, xo, xd, xp, 0, 0, 0, xx⟩ : FX)] ++ factsR xn xs 0 (xr.take j)).length (fcE.row ([(⟨1, xn, xs, 0, 0, 0, 0, xo, xd, xp, 0, 0, 0, xx⟩ : FX)] ++ factsR xn xs 0 (xr.take j))) ∧ Kp w wr ∧ wr.heap[w.heap.size]? = some (.cells #[xn, xs, xo, xd, xx, xp, xc, .slice xb n xk] 65) ∧ wr.heap[w.heap.size + 1]? = some (.cells #[xn, xs, xo, xd, xx] 62)) (fun _ i _ => n - (intOf i).toNat)
 case atStart => exact ⟨0, Nat.zero_le _, rfl, by simpa [factsR] using OE1.out, K1.out, RA.out, RC.out⟩
 case round =>
  obtain ⟨j, hj, rfl, hown, hk, hr0l, hr1l⟩ := hrel; obtain ⟨kk, hkk⟩ : ∃ x : Int, (j : Int) = x := ⟨_, rfl⟩
  rw [hkk]; obtain ⟨HKK, KR, OW, R0l, R1l⟩ := hD5 hkk hk hown hr0l hr1l; obtain ⟨la, hla⟩ : ∃ x, ([(⟨1, xn, xs, 0, 0, 0, 0, xo, xd, xp, 0, 0, 0, xx⟩ : FX)] ++ factsR xn xs 0 (xr.take j)).length = x := ⟨_, rfl⟩
  obtain ⟨a1, c1, rfl⟩ := fG hown; rw [hla] at OW ⊢; have HLA := hD hla
  by_cases hlt : j < n
  ·have hjl : kk < N := by have := HNN.out; omega
   have hk0 : 0 ≤ kk := by omega
   have htk : kk.toNat = j := by omega
   have hjo : j < xr.length := by have := HN.out; omega
   obtain ⟨gr, ck, exb, hck, hgrB, hgrl, hfzr, hcr⟩ := cQ (E := rgE) (oK ORR.out hk) HN.out hlt; obtain ⟨⟨yn, yp, ⟨y1, y2, y3, y4⟩⟩, hy⟩ : ∃ r, xr[j]'hjo = r := ⟨_, rfl⟩
   have hcr2 : ∀ (i : Nat) (u : Value), i < rgE.k → (rgE.enc (xr[j]'hjo))[i]? = some u → wr.cell? ⟨gr, j * rgE.k + i, none⟩ = some u := hcr; rw [hy, show rgE.k = 6 from rfl, ← htk] at hcr2; have exb := congrArg (fun v => match v with | Value.slice a _ _ => a | _ => none) exb; dsimp only at exb; subst exb; obtain ⟨c0, c1, c2, c3, c4, c5⟩ := cW6 hcr2; obtain ⟨d0, d1, d2, d3, d4, d5⟩ := cells_6Q (mH wr (.cells #[yn, yp, y1, y2, y3, y4] 69)); obtain ⟨p0, p1, p2, p3, p4⟩ := cells_5 (rZ (kA wr (.cells #[yn, yp, y1, y2, y3, y4] 69)) hr1l); have hts : xr.take (j + 1) = xr.take j ++ [xr[j]] := by rw [← List.take_succ_eq_append_getElem hjo]
   rw [hy] at hts; have hlb : la ≤ 100 := by
    have h1 := factsR_len xn xs 0 (xr.take j); have := HL0R.out; rw [List.length_append] at hla; rw [List.length_take] at h1; have := H6.out; omega
   have HLB := hD (show la + 1 ≤ 1000000 by omega); have HLT := hD hlt; have hw1 : wrap64 (kk + 1) = kk + 1 := IntWalk.wrap64_in _ (by have := H6.out; have := HNN.out; omega); have htlen : (xr.take j).length = j := by rw [List.length_take]; omega
   have HTK := hD (show factsR xn xs 0 (xr.take (j + 1)) = factsR xn xs 0 (xr.take j) ++ [(⟨2, xn, xs, kk, yn, yp, y1, 0, 0, 0, 0, 0, 0, 0⟩ : FX)] by rw [hts, factsR_app, htlen, Nat.zero_add, ← hkk]; rfl); clear hcr hcr2 hkk hj hlt hk hown hr0l hr1l hla hlb htk hck hgrB hgrl hfzr hy hts htlen; go_wp2_with (at_builtin; refine aG (E := fcE) ty_fcL (by decide) _ rfl _ _ rfl w.heap.size _ la _ rfl (oK OW.out (kT (kA wr (.cells #[yn, yp, y1, y2, y3, y4] 69)) (kA (wr.alloc (.cells #[yn, yp, y1, y2, y3, y4] 69)) (.cells #[(2:Int), xn, xs, kk, yn, yp, y1, (0:Int), (0:Int), (0:Int), (0:Int), (0:Int), (0:Int), .float .f64 0] 39)))) _ [(⟨2, xn, xs, kk, yn, yp, y1, 0, 0, 0, 0, 0, 0, 0⟩ : FX)] rfl (pG (nX1 wr (.cells #[yn, yp, y1, y2, y3, y4] 69) (.cells #[(2:Int), xn, xs, kk, yn, yp, y1, (0:Int), (0:Int), (0:Int), (0:Int), (0:Int), (0:Int), .float .f64 0] 39)) rfl) HLB.out (kS (kT KR.out (kT (kA wr (.cells #[yn, yp, y1, y2, y3, y4] 69)) (kA (wr.alloc (.cells #[yn, yp, y1, y2, y3, y4] 69)) (.cells #[(2:Int), xn, xs, kk, yn, yp, y1, (0:Int), (0:Int), (0:Int), (0:Int), (0:Int), (0:Int), .float .f64 0] 39))))) ?_)
   rintro v6 u6 o6 hg hb6; have kx : Kp wr ((wr.alloc (.cells #[yn, yp, y1, y2, y3, y4] 69)).alloc (.cells #[(2:Int), xn, xs, kk, yn, yp, y1, (0:Int), (0:Int), (0:Int), (0:Int), (0:Int), (0:Int), .float .f64 0] 39)) := kT (kA _ _) (kA _ _); have OX := oK OW.out kx; have K6 := hD (show Kp w u6 from Below.grown (kT KR.out kx) hg (Below.size (kT KR.out kx)) (fun b hk => (OX.lt b hk).1)); have Q0 := hD ((hg.block _ (oZ (rZ kx R0l.out)) (nQ OX (rZ kx R0l.out) (by decide))).trans (rZ kx R0l.out)); have Q1 := hD ((hg.block _ (oZ (rZ kx R1l.out)) (nQ OX (rZ kx R1l.out) (by decide))).trans (rZ kx R1l.out)); have O6 := hD o6; clear o6 hg hb6 kx OX; go_wp2; go_roundw
   case rel => exact ⟨j + 1, by have := HLT.out; omega, by have := HKK.out; rw [show ((j + 1 : Nat) : Int) = kk + 1 by omega, hw1], by rw [HTK.out, ← List.append_assoc, List.length_append, HLA.out]; exact (by have h := O6.out; simp only [List.cons_append, List.nil_append, List.length_cons, List.length_nil, Nat.zero_add] at h ⊢; exact h), K6.out, Q0.out, Q1.out⟩
   case measure => have := HKK.out; have := HLT.out; simp [intOf]; omega
  ·have hje : ¬ kk < N := by have := HNN.out; omega
   have hjn : j = n := by omega
   have hfin : xr.take j = xr := by rw [hjn, ← HN.out, List.take_length]
   have hOE : wr.ownsRow w.heap.size 39 14 (.slice a1 la c1) la (fcE.row ([(⟨1, xn, xs, 0, 0, 0, 0, xo, xd, xp, 0, 0, 0, xx⟩ : FX)] ++ factsR xn xs 0 xr)) := by rw [hfin] at hown; rw [hfin] at hla; rw [hla] at hown; exact hown
   have hle : ([(⟨1, xn, xs, 0, 0, 0, 0, xo, xd, xp, 0, 0, 0, xx⟩ : FX)] ++ factsR xn xs 0 xr).length = la := by rw [hfin] at hla; exact hla
   obtain ⟨OER, LER⟩ := hD2 hOE hle; have KER := KR; have RAR := R0l; have RCR := R1l; obtain ⟨z0, z1, z2, z3, z4, z5, z6, z7⟩ := c8X hr0l; clear hkk hj hlt hk hown hr0l hr1l hla hjn hfin hOE hle OW; go_wp2; have HL0Z := hD (show (([(⟨1, xn, xs, 0, 0, 0, 0, xo, xd, xp, 0, 0, 0, xx⟩ : FX)] ++ factsR xn xs 0 xr)).length ≤ 50 by rw [LER.out]; have h1 := factsR_len xn xs 0 xr; have h3 := LER.out; rw [List.length_append] at h3; have := H6.out; have := HN.out; simp at h3; omega); have OEZ0 := hD (show wr.ownsRow w.heap.size 39 14 (.slice a1 la c1) (([(⟨1, xn, xs, 0, 0, 0, 0, xo, xd, xp, 0, 0, 0, xx⟩ : FX)] ++ factsR xn xs 0 xr)).length (fcE.row (([(⟨1, xn, xs, 0, 0, 0, 0, xo, xd, xp, 0, 0, 0, xx⟩ : FX)] ++ factsR xn xs 0 xr))) by rw [LER.out]; exact OER.out); clear z0 z1 z2 z3 z4 z5 z6 z7; clear OER; obtain ⟨wf, hwf⟩ : ∃ wf, wf = wr := ⟨wr, rfl⟩
   subst hwf; go_loopw [4, 49] (fun v i wr => ∃ j : Nat, j ≤ n ∧ i = .int .i64 j ∧ wr.ownsRow w.heap.size 39 14 v (([(⟨1, xn, xs, 0, 0, 0, 0, xo, xd, xp, 0, 0, 0, xx⟩ : FX)] ++ factsR xn xs 0 xr) ++ factsZ xn xs 0 (xr.take j)).length (fcE.row (([(⟨1, xn, xs, 0, 0, 0, 0, xo, xd, xp, 0, 0, 0, xx⟩ : FX)] ++ factsR xn xs 0 xr) ++ factsZ xn xs 0 (xr.take j))) ∧ Kp w wr ∧ wr.heap[w.heap.size]? = some (.cells #[xn, xs, xo, xd, xx, xp, xc, .slice xb n xk] 65) ∧ wr.heap[w.heap.size + 1]? = some (.cells #[xn, xs, xo, xd, xx] 62)) (fun _ i _ => n - (intOf i).toNat)
   case atStart => exact ⟨0, Nat.zero_le _, rfl, by simpa [factsZ] using OEZ0.out, KER.out, RAR.out, RCR.out⟩
   case round =>
    obtain ⟨j, hj, rfl, hown, hk, hr0l, hr1l⟩ := hrel; obtain ⟨kk, hkk⟩ : ∃ x : Int, (j : Int) = x := ⟨_, rfl⟩
    rw [hkk]; obtain ⟨HKK, KR, OW, R0l, R1l⟩ := hD5 hkk hk hown hr0l hr1l; obtain ⟨la, hla⟩ : ∃ x, (([(⟨1, xn, xs, 0, 0, 0, 0, xo, xd, xp, 0, 0, 0, xx⟩ : FX)] ++ factsR xn xs 0 xr) ++ factsZ xn xs 0 (xr.take j)).length = x := ⟨_, rfl⟩
    obtain ⟨a1, c1, rfl⟩ := fG hown; rw [hla] at OW ⊢; have HLA := hD hla
    by_cases hlt : j < n
    ·have hjl : kk < N := by have := HNN.out; omega
     have hk0 : 0 ≤ kk := by omega
     have htk : kk.toNat = j := by omega
     have hjo : j < xr.length := by have := HN.out; omega
     obtain ⟨gr, ck, exb, hck, hgrB, hgrl, hfzr, hcr⟩ := cQ (E := rgE) (oK ORR.out hk) HN.out hlt; obtain ⟨⟨yn, yp, ⟨y1, y2, y3, y4⟩⟩, hy⟩ : ∃ r, xr[j]'hjo = r := ⟨_, rfl⟩
     have hcr2 : ∀ (i : Nat) (u : Value), i < rgE.k → (rgE.enc (xr[j]'hjo))[i]? = some u → wr.cell? ⟨gr, j * rgE.k + i, none⟩ = some u := hcr; rw [hy, show rgE.k = 6 from rfl, ← htk] at hcr2; have exb := congrArg (fun v => match v with | Value.slice a _ _ => a | _ => none) exb; dsimp only at exb; subst exb; obtain ⟨c0, c1, c2, c3, c4, c5⟩ := cW6 hcr2; obtain ⟨d0, d1, d2, d3, d4, d5⟩ := cells_6Q (mH wr (.cells #[yn, yp, y1, y2, y3, y4] 69)); obtain ⟨p0, p1, p2, p3, p4⟩ := cells_5 (rZ (kA wr (.cells #[yn, yp, y1, y2, y3, y4] 69)) hr1l); have hts : xr.take (j + 1) = xr.take j ++ [xr[j]] := by rw [← List.take_succ_eq_append_getElem hjo]
     rw [hy] at hts; have hlb : la ≤ 100 := by
      have h1 := factsZ_len xn xs 0 (xr.take j); have := HL0Z.out; rw [List.length_append] at hla; rw [List.length_take] at h1; have := H6.out; omega
     have HLB := hD (show la + 1 ≤ 1000000 by omega); have HLT := hD hlt; have hw1 : wrap64 (kk + 1) = kk + 1 := IntWalk.wrap64_in _ (by have := H6.out; have := HNN.out; omega); have htlen : (xr.take j).length = j := by rw [List.length_take]; omega
     by_cases h14 : y3 = 1
     ·have g14 : (y3 == 1) = true := beq_iff_eq.2 h14; have g14' : (y3 != 1) = false := by simp [h14]
      have HTK := hD (show factsZ xn xs 0 (xr.take (j + 1)) = factsZ xn xs 0 (xr.take j) ++ [] by rw [hts, factsZ_app]; simp [factsZ, h14]); clear h14 hcr hcr2 hkk hj hlt hk hown hr0l hr1l hla hlb htk hck hgrB hgrl hfzr hy hts htlen; go_wp2; go_roundw
      case rel => exact ⟨j + 1, by have := HLT.out; omega, by have := HKK.out; rw [show ((j + 1 : Nat) : Int) = kk + 1 by omega, hw1], by rw [HTK.out, List.append_nil, HLA.out]; exact oK OW.out (kA _ _), kT KR.out (kA _ _), rZ (kA _ _) R0l.out, rZ (kA _ _) R1l.out⟩
      case measure => have := HKK.out; have := HLT.out; simp [intOf]; omega
     ·have g14 : (y3 == 1) = false := by simpa using h14
      have g14' : (y3 != 1) = true := by simp [h14]
      have HTK := hD (show factsZ xn xs 0 (xr.take (j + 1)) = factsZ xn xs 0 (xr.take j) ++ [(⟨3, xn, xs, kk, 0, 0, 0, 0, 0, 0, y3, y4, 0, 0⟩ : FX)] by rw [hts, factsZ_app, htlen, Nat.zero_add, ← hkk]; simp [factsZ, h14]); clear h14 hcr hcr2 hkk hj hlt hk hown hr0l hr1l hla hlb htk hck hgrB hgrl hfzr hy hts htlen; go_wp2_with (at_builtin; refine aG (E := fcE) ty_fcL (by decide) _ rfl _ _ rfl w.heap.size _ la _ rfl (oK OW.out (kT (kA wr (.cells #[yn, yp, y1, y2, y3, y4] 69)) (kA (wr.alloc (.cells #[yn, yp, y1, y2, y3, y4] 69)) (.cells #[(3:Int), xn, xs, kk, (0:Int), (0:Int), (0:Int), (0:Int), (0:Int), (0:Int), y3, y4, (0:Int), .float .f64 0] 39)))) _ [(⟨3, xn, xs, kk, 0, 0, 0, 0, 0, 0, y3, y4, 0, 0⟩ : FX)] rfl (pG (nX1 wr (.cells #[yn, yp, y1, y2, y3, y4] 69) (.cells #[(3:Int), xn, xs, kk, (0:Int), (0:Int), (0:Int), (0:Int), (0:Int), (0:Int), y3, y4, (0:Int), .float .f64 0] 39)) rfl) HLB.out (kS (kT KR.out (kT (kA wr (.cells #[yn, yp, y1, y2, y3, y4] 69)) (kA (wr.alloc (.cells #[yn, yp, y1, y2, y3, y4] 69)) (.cells #[(3:Int), xn, xs, kk, (0:Int), (0:Int), (0:Int), (0:Int), (0:Int), (0:Int), y3, y4, (0:Int), .float .f64 0] 39))))) ?_)
      rintro v6 u6 o6 hg hb6; have kx : Kp wr ((wr.alloc (.cells #[yn, yp, y1, y2, y3, y4] 69)).alloc (.cells #[(3:Int), xn, xs, kk, (0:Int), (0:Int), (0:Int), (0:Int), (0:Int), (0:Int), y3, y4, (0:Int), .float .f64 0] 39)) := kT (kA _ _) (kA _ _); have OX := oK OW.out kx; have K6 := hD (show Kp w u6 from Below.grown (kT KR.out kx) hg (Below.size (kT KR.out kx)) (fun b hk => (OX.lt b hk).1)); have Q0 := hD ((hg.block _ (oZ (rZ kx R0l.out)) (nQ OX (rZ kx R0l.out) (by decide))).trans (rZ kx R0l.out)); have Q1 := hD ((hg.block _ (oZ (rZ kx R1l.out)) (nQ OX (rZ kx R1l.out) (by decide))).trans (rZ kx R1l.out)); have O6 := hD o6; clear o6 hg hb6 kx OX; go_wp2; go_roundw
      case rel => exact ⟨j + 1, by have := HLT.out; omega, by have := HKK.out; rw [show ((j + 1 : Nat) : Int) = kk + 1 by omega, hw1], by rw [HTK.out, ← List.append_assoc, List.length_append, HLA.out]; exact (by have h := O6.out; simp only [List.append_assoc, List.cons_append, List.nil_append, List.length_cons, List.length_nil, Nat.zero_add] at h ⊢; exact h), K6.out, Q0.out, Q1.out⟩
      case measure => have := HKK.out; have := HLT.out; simp [intOf]; omega
    ·have hje : ¬ kk < N := by have := HNN.out; omega
     have hjn : j = n := by omega
     have hfin : xr.take j = xr := by rw [hjn, ← HN.out, List.take_length]
     have hOE : wr.ownsRow w.heap.size 39 14 (.slice a1 la c1) la (fcE.row (([(⟨1, xn, xs, 0, 0, 0, 0, xo, xd, xp, 0, 0, 0, xx⟩ : FX)] ++ factsR xn xs 0 xr) ++ factsZ xn xs 0 xr)) := by rw [hfin] at hown; rw [hfin] at hla; rw [hla] at hown; exact hown
     have hle : (([(⟨1, xn, xs, 0, 0, 0, 0, xo, xd, xp, 0, 0, 0, xx⟩ : FX)] ++ factsR xn xs 0 xr) ++ factsZ xn xs 0 xr).length = la := by rw [hfin] at hla; exact hla
     obtain ⟨OEZ, LEZ⟩ := hD2 hOE hle; have KEZ := KR; have RAZ := R0l; have RCZ := R1l; obtain ⟨z0, z1, z2, z3, z4, z5, z6, z7⟩ := c8X hr0l; clear hkk hj hlt hk hown hr0l hr1l hla hjn hfin hOE hle OW; obtain ⟨q0, q1, q2, q3, q4⟩ := cells_5 RCZ.out
     cases hdd : decide (xc = 0) with
     | true =>
      have h0 : xc = 0 := of_decide_eq_true hdd; have g0 : (xc == 0) = true := beq_iff_eq.2 h0; have g0' : (xc != 0) = false := by simp [h0]
      have HFA := hD (show factsA ⟨⟨xn, xs, xo, xd, xx⟩, xp, xc, xr⟩ = (([(⟨1, xn, xs, 0, 0, 0, 0, xo, xd, xp, 0, 0, 0, xx⟩ : FX)] ++ factsR xn xs 0 xr) ++ factsZ xn xs 0 xr) by unfold factsA; simp [h0]); clear hdd h0; go_wp2; go_ret; rw [HFA.out, LEZ.out]; exact ⟨_, rfl, OEZ.out, KEZ.out⟩
     | false =>
      have h0 : ¬ xc = 0 := of_decide_eq_false hdd; have g0 : (xc == 0) = false := by simpa using h0
      have g0' : (xc != 0) = true := by simp [h0]
      have HFA := hD (show factsA ⟨⟨xn, xs, xo, xd, xx⟩, xp, xc, xr⟩ = (([(⟨1, xn, xs, 0, 0, 0, 0, xo, xd, xp, 0, 0, 0, xx⟩ : FX)] ++ factsR xn xs 0 xr) ++ factsZ xn xs 0 xr) ++ [(⟨4, xn, xs, 0, 0, 0, 0, 0, 0, 0, 0, 0, xc, 0⟩ : FX)] by unfold factsA; simp [h0]); have HLB := hD (show la + 1 ≤ 1000000 by
       have h1 := factsR_len xn xs 0 xr; have h2 := factsZ_len xn xs 0 xr; have h3 := LEZ.out; rw [List.length_append, List.length_append] at h3; have := H6.out; have := HN.out
       simp at h3
       omega)
      clear hdd h0; go_wp2_with (at_builtin; refine aG (E := fcE) ty_fcL (by decide) _ rfl _ _ rfl w.heap.size _ la _ rfl (oK OEZ.out (kA wr (.cells #[(4:Int), xn, xs, (0:Int), (0:Int), (0:Int), (0:Int), (0:Int), (0:Int), (0:Int), (0:Int), (0:Int), xc, .float .f64 0] 39))) _ [(⟨4, xn, xs, 0, 0, 0, 0, 0, 0, 0, 0, 0, xc, 0⟩ : FX)] rfl (pG (mH wr (.cells #[(4:Int), xn, xs, (0:Int), (0:Int), (0:Int), (0:Int), (0:Int), (0:Int), (0:Int), (0:Int), (0:Int), xc, .float .f64 0] 39)) rfl) HLB.out (kS (kT KEZ.out (kA wr (.cells #[(4:Int), xn, xs, (0:Int), (0:Int), (0:Int), (0:Int), (0:Int), (0:Int), (0:Int), (0:Int), (0:Int), xc, .float .f64 0] 39)))) ?_)
      rintro v6 u6 o6 hg hb6; have OX := oK OEZ.out (kA wr (.cells #[(4:Int), xn, xs, (0:Int), (0:Int), (0:Int), (0:Int), (0:Int), (0:Int), (0:Int), (0:Int), (0:Int), xc, .float .f64 0] 39)); have K6 := hD (show Kp w u6 from Below.grown (kT KEZ.out (kA wr (.cells #[(4:Int), xn, xs, (0:Int), (0:Int), (0:Int), (0:Int), (0:Int), (0:Int), (0:Int), (0:Int), (0:Int), xc, .float .f64 0] 39))) hg (Below.size (kT KEZ.out (kA wr (.cells #[(4:Int), xn, xs, (0:Int), (0:Int), (0:Int), (0:Int), (0:Int), (0:Int), (0:Int), (0:Int), (0:Int), xc, .float .f64 0] 39)))) (fun b hk => (OX.lt b hk).1)); have O6 := hD o6; clear o6 hg hb6 OX; go_wp2; go_ret; rw [HFA.out, List.length_append, LEZ.out]; exact ⟨v6, rfl, (by have h := O6.out; simp only [List.append_assoc, List.cons_append, List.nil_append, List.length_cons, List.length_nil, Nat.zero_add] at h ⊢; exact h), K6.out⟩
end Go.Proofs.YtpemeenfhkgmpaaGreatDoor
