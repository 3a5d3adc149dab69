/- Parts of this proof (own work). -/
import Derived.Test.YtlmlmhmhgdjhnaaGreatDoorZa37
set_option maxRecDepth 100000
set_option maxHeartbeats 40000000
namespace Go.Proofs.YtlmlmhmhgdjhnaaGreatDoor
open Go.RowKit Go.ChangeShapes Go.WideShapes
variable {w0 w w' W w3 : World} {B q : Nat} {m : StM} {ads : List Addr}
theorem lRegS (h : SL B q m w) (ok : OkS m) (n s ri : Int) (an aw ao ad : Int) (ax : Nat) (ap ac : Int) (regs : List RgM) (rn rp rq re rs rh : Int) (al : Nat) (hal : regs.length = al) (ha : actE m n s = some ⟨⟨an, aw, ao, ad, ax⟩, ap, ac, regs⟩) (hr : regE ⟨⟨an, aw, ao, ad, ax⟩, ap, ac, regs⟩ ri = some ⟨rn, rp, ⟨rq, re, rs, rh⟩⟩) : Calls Tryz.prog 67 #[.pointer (some ⟨q, 0, none⟩), .agg #[n, s], .int .i64 ri] w fun r w' => ∃ av ak, r = .returned (.tuple #[.agg #[rn, rp, rq, re, rs, rh, an, aw, ao, ad, ax, ap, ac, .slice av al ak, ri], .bool true]) ∧ Kp w w' := by
 have R0 := hD (nX0 w (.cells #[n, s] 25) (.cells #[(0:Int), (0:Int), (0:Int), (0:Int), (0:Int), (0:Int), (0:Int), (0:Int), (0:Int), (0:Int), .float .f64 0, (0:Int), (0:Int), .slice none 0 0, (0:Int)] 137)); have R1 := hD (nX1 w (.cells #[n, s] 25) (.cells #[(0:Int), (0:Int), (0:Int), (0:Int), (0:Int), (0:Int), (0:Int), (0:Int), (0:Int), (0:Int), .float .f64 0, (0:Int), (0:Int), .slice none 0 0, (0:Int)] 137)); have K2 := hD (pk2 w (.cells #[n, s] 25) (.cells #[(0:Int), (0:Int), (0:Int), (0:Int), (0:Int), (0:Int), (0:Int), (0:Int), (0:Int), (0:Int), .float .f64 0, (0:Int), (0:Int), .slice none 0 0, (0:Int)] 137)); obtain ⟨b0, b1⟩ := cells_2S R0.out; have hsf := sF; obtain ⟨hx0, hxg⟩ := regE_some hr; obtain ⟨hlj, hxx⟩ := List.getElem?_eq_some_iff.1 hxg; dsimp only at hlj hxx; obtain ⟨N, hN⟩ : ∃ N : Int, (al : Int) = N := ⟨_, rfl⟩
 have HF := hD (fun w1 (hk : Kp w w1) => lFindS (h.kp hk) ok n s an aw ao ad ax ap ac regs al hal ha); have HXX := hD (fun h : ri.toNat < regs.length => show regs[ri.toNat]'h = (⟨rn, rp, ⟨rq, re, rs, rh⟩⟩ : RgM) from hxx); obtain ⟨HNN, HLJ, HLN⟩ := hD3 hN hlj hal; have HLT := hD (show ri.toNat < al by omega); have H0 := hD hx0; have H1 := hD (show ri < N by omega); clear h ok ha hr hx0 hxg hlj hxx hal; go_enter Tryz.func67, Tryz.ntmps67; go_wp2_with (first | (go_at_call 60; (with_reducible refine (HF.out _ K2.out).mono ?_); rintro e' w3 ⟨oo, ak, rfl, ho, hk⟩; obtain ⟨ga, ck, ev, _, _, hgl, _, hc0⟩ := cQ (E := rgE) ho HLN.out HLT.out; have ev := congrArg (fun v => match v with | Value.slice a _ _ => a | _ => none) ev; dsimp only at ev; subst ev; have hc0 : ∀ (j : Nat) (u : Value), j < 6 → (rgE.enc (regs[ri.toNat]'HLJ.out))[j]? = some u → w3.cell? ⟨ga, ri.toNat * 6 + j, none⟩ = some u := hc0; rw [HXX.out HLJ.out] at hc0; have HNU := hD (fun w4 (hk4 : Kp w3 w4) => lNumS (w := w4) an aw ao ad ax ap ac ga al ak ri N HNN.out H0.out H1.out rn rp rq re rs rh (fun j u hj hu => kZ hk4 (hc0 j u hj hu))); clear hc0 hgl; have kz := kT hk (kA w3 (.cells #[an, aw, ao, ad, ax, ap, ac, .slice (some ⟨ga, 0, none⟩) al ak] 92)); have K3 := hD (kT K2.out kz); have RA3 := hD (mH w3 (.cells #[an, aw, ao, ad, ax, ap, ac, .slice (some ⟨ga, 0, none⟩) al ak] 92)); obtain ⟨k0, k1, k2, k3, k4, k5, k6, k7⟩ := c8X RA3.out; have R03 := hD (rZ kz R0.out); obtain ⟨i0, i1⟩ := cells_2S R03.out; have R13 := hD (rZ kz R1.out); obtain ⟨j0, j1, j2, j3, j4, j5, j6, j7, j8, j9, j10, j11, j12, j13, j14⟩ := cells15 R13.out; have f3 := frozN R13.out; clear hk kz) | (go_at_call 61; (with_reducible refine ((HNU.out _ (kA w3 _))).mono ?_); rintro e' w4 ⟨rfl, hk⟩; have K4 := hD (kT K3.out hk); have R14 := hD (rZ hk R13.out); obtain ⟨l0, l1, l2, l3, l4, l5, l6, l7, l8, l9, l10, l11, l12, l13, l14⟩ := cells15 R14.out; have f4 := frozN R14.out; clear hk))
 refine bodyPost_ret (rQ (p := 6) (u := 7) rfl _ _ (w.heap.size + 1) 137 _ (0, 0) _ rfl (set15 (.int .i64 rn) (.int .i64 rp) (.int .i64 rq) (.int .i64 re) (.int .i64 rs) (.int .i64 rh) (.int .i64 an) (.int .i64 aw) (.int .i64 ao) (.int .i64 ad) (.float .f64 ax) (.int .i64 ap) (.int .i64 ac) (.slice (some ⟨ga, 0, none⟩) al ak) (.int .i64 ri) R14.out) Tryz.underlying137 rfl (by kernel_rfl)) rfl ?_
 exact ⟨_, _, rfl, set15_kp K4.out (by omega) _ _ _ _ _ _ _ _ _ _ _ _ _ _ _⟩
theorem lRegN (h : SL B q m w) (ok : OkS m) (n s ri : Int) (hn : ∀ a, actE m n s = some a → regE a ri = none) : Calls Tryz.prog 67 #[.pointer (some ⟨q, 0, none⟩), .agg #[n, s], .int .i64 ri] w fun r w' => r = .returned (.tuple #[.agg #[(0:Int), (0:Int), (0:Int), (0:Int), (0:Int), (0:Int), (0:Int), (0:Int), (0:Int), (0:Int), .float .f64 0, (0:Int), (0:Int), .slice none 0 0, (0:Int)], .bool false]) ∧ Kp w w' := by
 have R0 := hD (nX0 w (.cells #[n, s] 25) (.cells #[(0:Int), (0:Int), (0:Int), (0:Int), (0:Int), (0:Int), (0:Int), (0:Int), (0:Int), (0:Int), .float .f64 0, (0:Int), (0:Int), .slice none 0 0, (0:Int)] 137)); have R1 := hD (nX1 w (.cells #[n, s] 25) (.cells #[(0:Int), (0:Int), (0:Int), (0:Int), (0:Int), (0:Int), (0:Int), (0:Int), (0:Int), (0:Int), .float .f64 0, (0:Int), (0:Int), .slice none 0 0, (0:Int)] 137)); have K2 := hD (pk2 w (.cells #[n, s] 25) (.cells #[(0:Int), (0:Int), (0:Int), (0:Int), (0:Int), (0:Int), (0:Int), (0:Int), (0:Int), (0:Int), .float .f64 0, (0:Int), (0:Int), .slice none 0 0, (0:Int)] 137)); obtain ⟨b0, b1⟩ := cells_2S R0.out; have hsf := sF
 cases ha : actE m n s with
 | none =>
  have HF := hD (fun w1 (hk : Kp w w1) => lFindN (h.kp hk) ok n s ha); have HNU := hD (fun w => lNumN (w := w) 0 0 0 0 0 0 0 none 0 0 ri 0 rfl (by omega)); clear h ok ha hn; go_enter Tryz.func67, Tryz.ntmps67; go_wp2_with (first | (go_at_call 60; (with_reducible refine (HF.out _ K2.out).mono ?_); rintro e' w3 ⟨rfl, hk⟩; have kz := kT hk (kA w3 (.cells #[(0:Int), (0:Int), (0:Int), (0:Int), .float .f64 0, (0:Int), (0:Int), .slice none 0 0] 92)); have K3 := hD (kT K2.out kz); have RA3 := hD (mH w3 (.cells #[(0:Int), (0:Int), (0:Int), (0:Int), .float .f64 0, (0:Int), (0:Int), .slice none 0 0] 92)); obtain ⟨k0, k1, k2, k3, k4, k5, k6, k7⟩ := c8X RA3.out; have R03 := hD (rZ kz R0.out); obtain ⟨i0, i1⟩ := cells_2S R03.out; have R13 := hD (rZ kz R1.out); obtain ⟨j0, j1, j2, j3, j4, j5, j6, j7, j8, j9, j10, j11, j12, j13, j14⟩ := cells15 R13.out; have f3 := frozN R13.out; clear hk kz) | (go_at_call 61; (with_reducible refine ((HNU.out _)).mono ?_); rintro e' w4 ⟨rfl, hk⟩; have K4 := hD (kT K3.out hk); have R14 := hD (rZ hk R13.out); obtain ⟨l0, l1, l2, l3, l4, l5, l6, l7, l8, l9, l10, l11, l12, l13, l14⟩ := cells15 R14.out; have f4 := frozN R14.out; clear hk))
  refine bodyPost_ret (rQ (p := 6) (u := 7) rfl _ _ (w.heap.size + 1) 137 _ (0, 0) _ rfl (set15 (.int .i64 0) (.int .i64 0) (.int .i64 0) (.int .i64 0) (.int .i64 0) (.int .i64 0) (.int .i64 0) (.int .i64 0) (.int .i64 0) (.int .i64 0) (.float .f64 0) (.int .i64 0) (.int .i64 0) (.slice none 0 0) (.int .i64 0) R14.out) Tryz.underlying137 rfl (by kernel_rfl)) rfl ?_
  exact ⟨rfl, set15_kp K4.out (by omega) _ _ _ _ _ _ _ _ _ _ _ _ _ _ _⟩
 | some a =>
  obtain ⟨⟨an, aw, ao, ad, ax⟩, ap, ac, regs⟩ := a; have hr := hn _ ha; obtain ⟨al, hal⟩ : ∃ n, regs.length = n := ⟨_, rfl⟩
  obtain ⟨N, hN⟩ : ∃ N : Int, (al : Int) = N := ⟨_, rfl⟩
  have hout : ri < 0 ∨ N ≤ ri := by
   unfold regE at hr
   split at hr
   ·rw [List.getElem?_eq_none_iff] at hr; dsimp only at hr; omega
   ·omega
  have HF := hD (fun w1 (hk : Kp w w1) => lFindS (h.kp hk) ok n s an aw ao ad ax ap ac regs al hal ha); have HNU := hD (fun w (av : Option Addr) (ak : Nat) => lNumN (w := w) an aw ao ad ax ap ac av al ak ri N hN hout); clear h ok ha hn hr hal hout; go_enter Tryz.func67, Tryz.ntmps67; go_wp2_with (first | (go_at_call 60; (with_reducible refine (HF.out _ K2.out).mono ?_); rintro e' w3 ⟨oo, ak, rfl, ho, hk⟩; have kz := kT hk (kA w3 (.cells #[an, aw, ao, ad, ax, ap, ac, .slice oo al ak] 92)); have K3 := hD (kT K2.out kz); have RA3 := hD (mH w3 (.cells #[an, aw, ao, ad, ax, ap, ac, .slice oo al ak] 92)); obtain ⟨k0, k1, k2, k3, k4, k5, k6, k7⟩ := c8X RA3.out; have R03 := hD (rZ kz R0.out); obtain ⟨i0, i1⟩ := cells_2S R03.out; have R13 := hD (rZ kz R1.out); obtain ⟨j0, j1, j2, j3, j4, j5, j6, j7, j8, j9, j10, j11, j12, j13, j14⟩ := cells15 R13.out; have OO := hD (oK ho (kA w3 (.cells #[an, aw, ao, ad, ax, ap, ac, .slice oo al ak] 92))); have f3 := frozN R13.out; clear hk kz ho) | (go_at_call 61; (with_reducible refine ((HNU.out _ _ _)).mono ?_); rintro e' w4 ⟨rfl, hk⟩; have K4 := hD (kT K3.out hk); have R14 := hD (rZ hk R13.out); obtain ⟨l0, l1, l2, l3, l4, l5, l6, l7, l8, l9, l10, l11, l12, l13, l14⟩ := cells15 R14.out; have f4 := frozN R14.out; clear hk))
  refine bodyPost_ret (rQ (p := 6) (u := 7) rfl _ _ (w.heap.size + 1) 137 _ (0, 0) _ rfl (set15 (.int .i64 0) (.int .i64 0) (.int .i64 0) (.int .i64 0) (.int .i64 0) (.int .i64 0) (.int .i64 0) (.int .i64 0) (.int .i64 0) (.int .i64 0) (.float .f64 0) (.int .i64 0) (.int .i64 0) (.slice none 0 0) (.int .i64 0) R14.out) Tryz.underlying137 rfl (by kernel_rfl)) rfl ?_
  exact ⟨rfl, set15_kp K4.out (by omega) _ _ _ _ _ _ _ _ _ _ _ _ _ _ _⟩
theorem reg_cases (m : StM) (n s r : Int) : (∃ a g, actE m n s = some a ∧ regE a r = some g) ∨ (∀ a, actE m n s = some a → regE a r = none) := by
 cases ha : actE m n s with
 | none => exact .inr (fun a h => by cases h)
 | some a =>
  cases hr : regE a r with
  | none => exact .inr (fun b h => by rw [← Option.some.inj h]; exact hr)
  | some g => exact .inl ⟨a, g, rfl, hr⟩
theorem message_some {m : StM} {n s r k : Int} {a : AcM} {g : RgM} (ha : actE m n s = some a) (hr : regE a r = some g) : messageE m n s r k = some (msgE m.node a g r k) := by
 unfold messageE; rw [ha]
 show (regE a r).map _ = _
 rw [hr]
 rfl
theorem message_none {m : StM} {n s r k : Int} (h : ∀ a, actE m n s = some a → regE a r = none) : messageE m n s r k = none := by
 unfold messageE
 cases ha : actE m n s with
 | none => rfl
 | some a =>
  show (regE a r).map _ = _
  rw [h a ha]
  rfl
theorem again_some {m : StM} {n s r : Int} {a : AcM} {g : RgM} (ha : actE m n s = some a) (hr : regE a r = some g) : againE m n s r = if waitT 1 g.z.s = 0 then none else some (msgE m.node a g r (waitT 1 g.z.s)) := by
 unfold againE; rw [ha]; dsimp only; rw [hr]
theorem again_none {m : StM} {n s r : Int} (h : ∀ a, actE m n s = some a → regE a r = none) : againE m n s r = none := by
 unfold againE
 cases ha : actE m n s with
 | none => rfl
 | some a =>
  dsimp only; rw [h a ha]
theorem lMess (h : SL B q m w) (ok : OkS m) (n s ri k : Int) (g : MM) (b : Bool) (hg : (messageE m n s ri k = some g ∧ b = true) ∨ (messageE m n s ri k = none ∧ b = false ∧ g = ⟨0, 0, 0, 0, 0, 0, 0, 0, 0⟩)) : Calls Tryz.prog 25 #[.pointer (some ⟨q, 0, none⟩), .agg #[n, s], .int .i64 ri, .int .i64 k] w fun r w' => r = .returned (.tuple #[.agg g.cells, .bool b]) ∧ Kp w w' := by
 have R0 := hD (nX0 w (.cells #[n, s] 25) (.cells #[(0:Int), (0:Int), (0:Int), (0:Int), (0:Int), (0:Int), (0:Int), (0:Int), (0:Int)] 63)); have R1 := hD (nX1 w (.cells #[n, s] 25) (.cells #[(0:Int), (0:Int), (0:Int), (0:Int), (0:Int), (0:Int), (0:Int), (0:Int), (0:Int)] 63)); have K2 := hD (pk2 w (.cells #[n, s] 25) (.cells #[(0:Int), (0:Int), (0:Int), (0:Int), (0:Int), (0:Int), (0:Int), (0:Int), (0:Int)] 63)); obtain ⟨b0, b1⟩ := cells_2S R0.out; have hsf := sF
 rcases reg_cases m n s ri with hc | hc
 ·obtain ⟨a, x, ha, hr⟩ := hc; obtain ⟨hA, _⟩ := actE_ok ok ha; obtain ⟨_, _, hG0⟩ := regE_ok hA hr; have hz := okg_z hG0; have hAn := hA.n; obtain ⟨⟨an, aw, ao, ad, ax⟩, ap, ac, regs⟩ := a; obtain ⟨rn, rp, ⟨rq, re, rs, rh⟩⟩ := x; dsimp only at hAn hz; obtain ⟨al, hal⟩ : ∃ n, regs.length = n := ⟨_, rfl⟩
  have HRE := hD (fun w1 (hk : Kp w w1) => lRegS (h.kp hk) ok n s ri an aw ao ad ax ap ac regs rn rp rq re rs rh al hal ha hr); rw [message_some ha hr] at hg; obtain ⟨hg2, rfl⟩ : some (msgE m.node ⟨⟨an, aw, ao, ad, ax⟩, ap, ac, regs⟩ ⟨rn, rp, ⟨rq, re, rs, rh⟩⟩ ri k) = some g ∧ b = true := by
   rcases hg with hg | ⟨hg, _⟩
   ·exact hg
   ·cases hg
  obtain rfl := Option.some.inj hg2; rw [← hAn]; dsimp only [msgE, MM.cells]; have HME := hD (fun w (av : Option Addr) (ak : Nat) => lMessage (w := w) rn rp rq re rs rh an aw ao ad ax ap ac av al ak ri k); clear h ok hg ha hr hA hG0 hz hAn hal; go_enter Tryz.func25, Tryz.ntmps25; go_wp2_with (first | (go_at_call 67; (with_reducible refine (HRE.out _ K2.out).mono ?_); rintro e' w3 ⟨av, ak, rfl, hk⟩; have kz := kT hk (kA w3 (.cells #[rn, rp, rq, re, rs, rh, an, aw, ao, ad, ax, ap, ac, .slice av al ak, ri] 137)); have K3 := hD (kT K2.out kz); have R13 := hD (rZ kz R1.out); have RL3 := hD (mH w3 (.cells #[rn, rp, rq, re, rs, rh, an, aw, ao, ad, ax, ap, ac, .slice av al ak, ri] 137)); obtain ⟨j0, j1, j2, j3, j4, j5, j6, j7, j8⟩ := cells9 R13.out; obtain ⟨k0, k1, k2, k3, k4, k5, k6, k7, k8, k9, k10, k11, k12, k13, k14⟩ := cells15 RL3.out; have f3 := frozN R13.out; clear hk kz) | (go_at_call 68; (with_reducible refine (HME.out _ _ _).mono ?_); rintro e' w5 ⟨rfl, hk⟩; have K5 := hD (kT K3.out hk); have R15 := hD (rZ hk R13.out); obtain ⟨q0, q1, q2, q3, q4, q5, q6, q7, q8⟩ := cells9 R15.out; have f5 := frozN R15.out; clear hk))
  refine bodyPost_ret (rQ (p := 8) (u := 9) rfl _ _ (w.heap.size + 1) 63 _ (0, 0) _ rfl (set9 (.int .i64 k) (.int .i64 an) (.int .i64 rn) (.int .i64 an) (.int .i64 aw) (.int .i64 ri) (.int .i64 rp) (.int .i64 0) (.int .i64 0) R15.out) Tryz.underlying63 rfl (by kernel_rfl)) rfl ?_
  exact ⟨rfl, set9_kp K5.out (by omega) _ _ _ _ _ _ _ _ _⟩
 ·rw [message_none hc] at hg; obtain ⟨rfl, rfl⟩ : b = false ∧ g = ⟨0, 0, 0, 0, 0, 0, 0, 0, 0⟩ := by
   rcases hg with ⟨hg, _⟩ | hg
   ·cases hg
   ·exact hg.2
  have HRE := hD (fun w1 (hk : Kp w w1) => lRegN (h.kp hk) ok n s ri hc); dsimp only [MM.cells]; clear h ok hg hc; go_enter Tryz.func25, Tryz.ntmps25; go_wp2_with (go_at_call 67; (with_reducible refine (HRE.out _ K2.out).mono ?_); rintro e' w3 ⟨rfl, hk⟩; have kz := kT hk (kA w3 (.cells #[(0:Int), (0:Int), (0:Int), (0:Int), (0:Int), (0:Int), (0:Int), (0:Int), (0:Int), (0:Int), .float .f64 0, (0:Int), (0:Int), .slice none 0 0, (0:Int)] 137)); have K3 := hD (kT K2.out kz); have R13 := hD (rZ kz R1.out); have RL3 := hD (mH w3 (.cells #[(0:Int), (0:Int), (0:Int), (0:Int), (0:Int), (0:Int), (0:Int), (0:Int), (0:Int), (0:Int), .float .f64 0, (0:Int), (0:Int), .slice none 0 0, (0:Int)] 137)); obtain ⟨j0, j1, j2, j3, j4, j5, j6, j7, j8⟩ := cells9 R13.out; obtain ⟨k0, k1, k2, k3, k4, k5, k6, k7, k8, k9, k10, k11, k12, k13, k14⟩ := cells15 RL3.out; have f3 := frozN R13.out; clear hk kz)
  refine bodyPost_ret (rQ (p := 8) (u := 9) rfl _ _ (w.heap.size + 1) 63 _ (0, 0) _ rfl (set9 (.int .i64 0) (.int .i64 0) (.int .i64 0) (.int .i64 0) (.int .i64 0) (.int .i64 0) (.int .i64 0) (.int .i64 0) (.int .i64 0) R13.out) Tryz.underlying63 rfl (by kernel_rfl)) rfl ?_
  exact ⟨rfl, set9_kp K3.out (by omega) _ _ _ _ _ _ _ _ _⟩
theorem lAgain (TC : TabC ads w) (h : SL B q m w) (ok : OkS m) (n s ri : Int) (g : MM) (b : Bool) (hg : (againE m n s ri = some g ∧ b = true) ∨ (againE m n s ri = none ∧ b = false ∧ g = ⟨0, 0, 0, 0, 0, 0, 0, 0, 0⟩)) : Calls Tryz.prog 21 #[.pointer (some ⟨q, 0, none⟩), .agg #[n, s], .int .i64 ri] w fun r w' => r = .returned (.tuple #[.agg g.cells, .bool b]) ∧ Kp w w' := by
 have R0 := hD (nX0 w (.cells #[n, s] 25) (.cells #[(0:Int), (0:Int), (0:Int), (0:Int), (0:Int), (0:Int), (0:Int), (0:Int), (0:Int)] 63)); have R1 := hD (nX1 w (.cells #[n, s] 25) (.cells #[(0:Int), (0:Int), (0:Int), (0:Int), (0:Int), (0:Int), (0:Int), (0:Int), (0:Int)] 63)); have K2 := hD (pk2 w (.cells #[n, s] 25) (.cells #[(0:Int), (0:Int), (0:Int), (0:Int), (0:Int), (0:Int), (0:Int), (0:Int), (0:Int)] 63)); obtain ⟨b0, b1⟩ := cells_2S R0.out; have hsf := sF
 rcases reg_cases m n s ri with hc | hc
 ·obtain ⟨a, x, ha, hr⟩ := hc; obtain ⟨hA, _⟩ := actE_ok ok ha; obtain ⟨_, _, hG0⟩ := regE_ok hA hr; have hz := okg_z hG0; have hAn := hA.n; obtain ⟨⟨an, aw, ao, ad, ax⟩, ap, ac, regs⟩ := a; obtain ⟨rn, rp, ⟨rq, re, rs, rh⟩⟩ := x; dsimp only at hAn hz; obtain ⟨al, hal⟩ : ∃ n, regs.length = n := ⟨_, rfl⟩
  have HRE := hD (fun w1 (hk : Kp w w1) => lRegS (h.kp hk) ok n s ri an aw ao ad ax ap ac regs rn rp rq re rs rh al hal ha hr); rw [again_some ha hr] at hg; have hzk := okz_ok hz (.inl rfl); have hwt := fun w1 (hk : Kp w w1) => msWaits_any (ads := ads) ⟨rq, re, rs, rh⟩ hzk w1 (TC.kp hk)
  rw [if_pos hz.1, show (⟨rq, re, rs, rh⟩ : SeatM).waits = waitT 1 rs by unfold SeatM.waits; rw [show re = 1 from hz.2]] at hwt; dsimp only [seatV] at hwt hg; obtain ⟨k, hk⟩ : ∃ k, waitT 1 rs = k := ⟨_, rfl⟩
  rw [hk] at hwt hg; have HW := hD hwt
  by_cases h0 : k = 0
  ·rw [if_pos h0] at hg; obtain ⟨rfl, rfl⟩ : b = false ∧ g = ⟨0, 0, 0, 0, 0, 0, 0, 0, 0⟩ := by
    rcases hg with ⟨hg, _⟩ | hg
    ·cases hg
    ·exact hg.2
   dsimp only [MM.cells]; have g0 : (k != 0) = false := by simp [h0]
   clear TC h ok hg ha hr hA hG0 hz hAn hal hzk hwt hk h0; go_enter Tryz.func21, Tryz.ntmps21; go_wp2_with (first | (go_at_call 67; (with_reducible refine (HRE.out _ K2.out).mono ?_); rintro e' w3 ⟨av, ak, rfl, hk⟩; have kz := kT hk (kA w3 (.cells #[rn, rp, rq, re, rs, rh, an, aw, ao, ad, ax, ap, ac, .slice av al ak, ri] 137)); have K3 := hD (kT K2.out kz); have R13 := hD (rZ kz R1.out); have RL3 := hD (mH w3 (.cells #[rn, rp, rq, re, rs, rh, an, aw, ao, ad, ax, ap, ac, .slice av al ak, ri] 137)); obtain ⟨j0, j1, j2, j3, j4, j5, j6, j7, j8⟩ := cells9 R13.out; obtain ⟨k0, k1, k2, k3, k4, k5, k6, k7, k8, k9, k10, k11, k12, k13, k14⟩ := cells15 RL3.out; have f3 := frozN R13.out; clear hk kz) | (go_at_call 32; (with_reducible refine (HW.out _ K3.out).mono ?_); rintro e' w4 ⟨rfl, hk⟩; have K4 := hD (kT K3.out hk); have R14 := hD (rZ hk R13.out); have RL4 := hD (rZ hk RL3.out); obtain ⟨l0, l1, l2, l3, l4, l5, l6, l7, l8⟩ := cells9 R14.out; obtain ⟨o0, o1, o2, o3, o4, o5, o6, o7, o8, o9, o10, o11, o12, o13, o14⟩ := cells15 RL4.out; have f4 := frozN R14.out; clear hk))
   refine bodyPost_ret (rQ (p := 6) (u := 7) rfl _ _ (w.heap.size + 1) 63 _ (0, 0) _ rfl (set9 (.int .i64 0) (.int .i64 0) (.int .i64 0) (.int .i64 0) (.int .i64 0) (.int .i64 0) (.int .i64 0) (.int .i64 0) (.int .i64 0) R14.out) Tryz.underlying63 rfl (by kernel_rfl)) rfl ?_
   exact ⟨rfl, set9_kp K4.out (by omega) _ _ _ _ _ _ _ _ _⟩
  ·rw [if_neg h0] at hg; obtain ⟨hg2, rfl⟩ : some (msgE m.node ⟨⟨an, aw, ao, ad, ax⟩, ap, ac, regs⟩ ⟨rn, rp, ⟨rq, re, rs, rh⟩⟩ ri k) = some g ∧ b = true := by
    rcases hg with hg | ⟨hg, _⟩
    ·exact hg
    ·cases hg
   obtain rfl := Option.some.inj hg2; rw [← hAn]; dsimp only [msgE, MM.cells]; have HME := hD (fun w (av : Option Addr) (ak : Nat) => lMessage (w := w) rn rp rq re rs rh an aw ao ad ax ap ac av al ak ri k); have g0 : (k != 0) = true := by simp [h0]
   clear TC h ok hg ha hr hA hG0 hz hAn hal hzk hwt hk h0; go_enter Tryz.func21, Tryz.ntmps21; go_wp2_with (first | (go_at_call 67; (with_reducible refine (HRE.out _ K2.out).mono ?_); rintro e' w3 ⟨av, ak, rfl, hk⟩; have kz := kT hk (kA w3 (.cells #[rn, rp, rq, re, rs, rh, an, aw, ao, ad, ax, ap, ac, .slice av al ak, ri] 137)); have K3 := hD (kT K2.out kz); have R13 := hD (rZ kz R1.out); have RL3 := hD (mH w3 (.cells #[rn, rp, rq, re, rs, rh, an, aw, ao, ad, ax, ap, ac, .slice av al ak, ri] 137)); obtain ⟨j0, j1, j2, j3, j4, j5, j6, j7, j8⟩ := cells9 R13.out; obtain ⟨k0, k1, k2, k3, k4, k5, k6, k7, k8, k9, k10, k11, k12, k13, k14⟩ := cells15 RL3.out; have f3 := frozN R13.out; clear hk kz) | (go_at_call 32; (with_reducible refine (HW.out _ K3.out).mono ?_); rintro e' w4 ⟨rfl, hk⟩; have K4 := hD (kT K3.out hk); have R14 := hD (rZ hk R13.out); have RL4 := hD (rZ hk RL3.out); obtain ⟨l0, l1, l2, l3, l4, l5, l6, l7, l8⟩ := cells9 R14.out; obtain ⟨o0, o1, o2, o3, o4, o5, o6, o7, o8, o9, o10, o11, o12, o13, o14⟩ := cells15 RL4.out; have f4 := frozN R14.out; clear hk) | (go_at_call 68; (with_reducible refine (HME.out _ _ _).mono ?_); rintro e' w5 ⟨rfl, hk⟩; have K5 := hD (kT K4.out hk); have R15 := hD (rZ hk R14.out); obtain ⟨q0, q1, q2, q3, q4, q5, q6, q7, q8⟩ := cells9 R15.out; have f5 := frozN R15.out; clear hk))
   refine bodyPost_ret (rQ (p := 6) (u := 7) rfl _ _ (w.heap.size + 1) 63 _ (0, 0) _ rfl (set9 (.int .i64 k) (.int .i64 an) (.int .i64 rn) (.int .i64 an) (.int .i64 aw) (.int .i64 ri) (.int .i64 rp) (.int .i64 0) (.int .i64 0) R15.out) Tryz.underlying63 rfl (by kernel_rfl)) rfl ?_
   exact ⟨rfl, set9_kp K5.out (by omega) _ _ _ _ _ _ _ _ _⟩
 ·rw [again_none hc] at hg; obtain ⟨rfl, rfl⟩ : b = false ∧ g = ⟨0, 0, 0, 0, 0, 0, 0, 0, 0⟩ := by
   rcases hg with ⟨hg, _⟩ | hg
   ·cases hg
   ·exact hg.2
  have HRE := hD (fun w1 (hk : Kp w w1) => lRegN (h.kp hk) ok n s ri hc); have hwt := fun w1 (hk : Kp w w1) => msWaits_any (ads := ads) ⟨0, 0, 0, 0⟩ (by unfold SeatM.ok i64M; dsimp only; omega) w1 (TC.kp hk)
  rw [if_neg (by decide)] at hwt; dsimp only [seatV] at hwt; have HW := hD hwt; dsimp only [MM.cells]; clear TC h ok hg hc hwt; go_enter Tryz.func21, Tryz.ntmps21; go_wp2_with (first | (go_at_call 67; (with_reducible refine (HRE.out _ K2.out).mono ?_); rintro e' w3 ⟨rfl, hk⟩; have kz := kT hk (kA w3 (.cells #[(0:Int), (0:Int), (0:Int), (0:Int), (0:Int), (0:Int), (0:Int), (0:Int), (0:Int), (0:Int), .float .f64 0, (0:Int), (0:Int), .slice none 0 0, (0:Int)] 137)); have K3 := hD (kT K2.out kz); have R13 := hD (rZ kz R1.out); have RL3 := hD (mH w3 (.cells #[(0:Int), (0:Int), (0:Int), (0:Int), (0:Int), (0:Int), (0:Int), (0:Int), (0:Int), (0:Int), .float .f64 0, (0:Int), (0:Int), .slice none 0 0, (0:Int)] 137)); obtain ⟨j0, j1, j2, j3, j4, j5, j6, j7, j8⟩ := cells9 R13.out; obtain ⟨k0, k1, k2, k3, k4, k5, k6, k7, k8, k9, k10, k11, k12, k13, k14⟩ := cells15 RL3.out; have f3 := frozN R13.out; clear hk kz) | (go_at_call 32; (with_reducible refine (HW.out _ K3.out).mono ?_); rintro e' w4 ⟨rfl, hk⟩; have K4 := hD (kT K3.out hk); have R14 := hD (rZ hk R13.out); have RL4 := hD (rZ hk RL3.out); obtain ⟨l0, l1, l2, l3, l4, l5, l6, l7, l8⟩ := cells9 R14.out; obtain ⟨o0, o1, o2, o3, o4, o5, o6, o7, o8, o9, o10, o11, o12, o13, o14⟩ := cells15 RL4.out; have f4 := frozN R14.out; clear hk))
  refine bodyPost_ret (rQ (p := 6) (u := 7) rfl _ _ (w.heap.size + 1) 63 _ (0, 0) _ rfl (set9 (.int .i64 0) (.int .i64 0) (.int .i64 0) (.int .i64 0) (.int .i64 0) (.int .i64 0) (.int .i64 0) (.int .i64 0) (.int .i64 0) R14.out) Tryz.underlying63 rfl (by kernel_rfl)) rfl ?_
  exact ⟨rfl, set9_kp K4.out (by omega) _ _ _ _ _ _ _ _ _⟩
theorem lTakes1 (V : St ads w) (T : Tab w) (h : SL B q m w) (ok : OkS m) (n s : Int) (now : Nat) (hnow : now < 18446744073709551616) (b : Bool) (hb : (match actE m n s with | none => false | some a => takesE m a now) = b) : Calls Tryz.prog 23 #[.pointer (some ⟨q, 0, none⟩), .agg #[n, s], .float .f64 now] w fun r w' => r = .returned (.bool b) ∧ Kp w w' := by
 have K1 := hD (kA w (.cells #[n, s] 25)); obtain ⟨b0, b1⟩ := cells_2S (mH w (.cells #[n, s] 25)); have hsf := sF
 cases ha : actE m n s with
 | none =>
  rw [ha] at hb; have hb : false = b := hb; subst hb; have HF := hD (fun w1 (hk : Kp w w1) => lFindN (h.kp hk) ok n s ha); clear V T h ok ha hnow; go_enter Tryz.func23, Tryz.ntmps23; go_wp2_with (go_at_call 60; (with_reducible refine (HF.out _ K1.out).mono ?_); rintro e' w3 ⟨rfl, hk⟩; have kz := kT hk (kA w3 (.cells #[(0:Int), (0:Int), (0:Int), (0:Int), .float .f64 0, (0:Int), (0:Int), .slice none 0 0] 92)); have K3 := hD (kT K1.out kz); obtain ⟨k0, k1, k2, k3, k4, k5, k6, k7⟩ := c8X (mH w3 (.cells #[(0:Int), (0:Int), (0:Int), (0:Int), .float .f64 0, (0:Int), (0:Int), .slice none 0 0] 92)); clear hk kz)
  go_ret; exact ⟨rfl, K3.out⟩
 | some a =>
  rw [ha] at hb; dsimp only at hb; obtain ⟨hA, _⟩ := actE_ok ok ha; obtain ⟨⟨an, aw, ao, ad, ax⟩, ap, ac, regs⟩ := a; obtain ⟨al, hal⟩ : ∃ n, regs.length = n := ⟨_, rfl⟩
  have hax : ax < 18446744073709551616 := rightX_wf17 hA.c; have hap : 0 ≤ ap ∧ ap ≤ 8 := ⟨hA.p0, hA.p8⟩
  have HF := hD (fun w1 (hk : Kp w w1) => lFindS (h.kp hk) ok n s an aw ao ad ax ap ac regs al hal ha); have HTK := hD (fun w1 (hk : Kp w w1) (av : Option Addr) (ak : Nat) => lTakes (w := w1) (V.below hk) (T.kp hk) (h.kp hk) now hnow an aw ao ad ax ap ac regs hax hap av al ak hal b hb); clear V T h ok ha hnow hA hal hax hap hb; go_enter Tryz.func23, Tryz.ntmps23; go_wp2_with (first | (go_at_call 60; (with_reducible refine (HF.out _ K1.out).mono ?_); rintro e' w3 ⟨oo, ak, rfl, ho, hk⟩; have kz := kT hk (kA w3 (.cells #[an, aw, ao, ad, ax, ap, ac, .slice oo al ak] 92)); have K3 := hD (kT K1.out kz); obtain ⟨k0, k1, k2, k3, k4, k5, k6, k7⟩ := c8X (mH w3 (.cells #[an, aw, ao, ad, ax, ap, ac, .slice oo al ak] 92)); clear hk kz) | (go_at_call 70; (with_reducible refine (HTK.out _ K3.out _ _).mono ?_); rintro e' w6 ⟨rfl, hk⟩; have K6 := hD (kT K3.out hk); clear hk))
  go_ret; exact ⟨rfl, K6.out⟩
def bldM (m : StM) (fs : List FX) : StM := fs.foldl (fun m f => (applyQ m f).2) m
theorem bld_ok : ∀ (fs : List FX) {m : StM}, OkS m → OkS (bldM m fs)
 | [], _, h => h
 | f :: l, _, h => bld_ok l (applyQ_ok (f := f) h)
theorem apply_node16 {m : StM} {f : FX} : (applyQ m f).2.node = m.node := applyQ_node
theorem bld_node : ∀ (fs : List FX) (m : StM), (bldM m fs).node = m.node
 | [], _ => rfl
 | _ :: l, _ => (bld_node l _).trans apply_node16
theorem bld_take (fs : List FX) (m : StM) (j : Nat) (hj : j < fs.length) : bldM m (fs.take (j + 1)) = (applyQ (bldM m (fs.take j)) (fs[j]'hj)).2 := by
 unfold bldM; rw [List.take_succ_eq_append_getElem hj, List.foldl_append]
 rfl
theorem built_no (E : EP [0, 3, 4, 8, 13] ads w) (nd : Int) (a : Option Addr) (n cap : Nat) (h : ¬ inN nd ∨ 60 < n) : Calls Tryz.prog 8 #[.int .i64 nd, .slice a n cap] w fun r w' => r = .returned (.tuple #[.pointer none, .pointer none, .bool false]) ∧ Kp w w' := by
 obtain ⟨N, hN⟩ : ∃ N : Int, (n : Int) = N := ⟨_, rfl⟩
 have hsf := sF
 by_cases hin : inN nd
 ·have h60 : 60 < n := h.elim (fun e => absurd hin e) id; have d1 : decide (N > 60) = true := dT (by omega); have HNEW := hD (SL.new E nd hin); clear h h60 hin E; go_enter Tryz.func8, Tryz.ntmps8; go_wp2_with (go_at_call 33; (with_reducible refine HNEW.out.mono ?_); rintro e' w1 ⟨q, rfl, hg1, hk1⟩; obtain ⟨G1, K1⟩ := hD2 hg1 hk1; clear hg1 hk1)
  go_ret3
  exact ⟨rfl, K1.out⟩
 ·have hnew := SL.noNew E nd hin; obtain ⟨er, her⟩ := errI_some14 ads 1 (by decide); rw [her] at hnew; have HNEW := hD hnew; clear h hin E hnew her; go_enter Tryz.func8, Tryz.ntmps8; go_wp2_with (go_at_call 33; (with_reducible refine HNEW.out.mono ?_); rintro e' w1 ⟨rfl, hk1⟩; have K1 := hD hk1; clear hk1)
  go_ret3
  exact ⟨rfl, K1.out⟩
theorem built_any (C : FacC ads w) (E : EP [0, 3, 4, 8, 13] ads w) (nd : Int) (v : Value) (fs : List FX) (hin : inN nd) (hl : fs.length ≤ 60) (hs : SlFc v fs w) : Calls Tryz.prog 8 #[.int .i64 nd, v] w fun r w' => ∃ q q', r = .returned (.tuple #[.pointer (some ⟨q, 0, none⟩), .pointer (some ⟨q', 0, none⟩), .bool true]) ∧ SL w.heap.size q (bldM (newSt nd) fs) w' ∧ SD w.heap.size q' (bldM (newSt nd) fs) w' ∧ Kp w w' := by
 obtain ⟨a, cap, rfl, _⟩ := id hs; obtain ⟨n, hn⟩ : ∃ n, fs.length = n := ⟨_, rfl⟩
 rw [hn] at hs hl ⊢; obtain ⟨N, hN⟩ : ∃ N : Int, (n : Int) = N := ⟨_, rfl⟩
 have d1 : decide (N > 60) = false := dF (by omega); have HNEW := hD (SL.new E nd hin); obtain ⟨HC, HE, HN, HS, HNN, HL⟩ := hD6 C E hn hs hN hl; have hsf := sF; have HOK0 := hD (newSt_ok hin); clear hin C E hn hs hl; go_enter Tryz.func8, Tryz.ntmps8; go_wp2_with (go_at_call 33; (with_reducible refine HNEW.out.mono ?_); rintro e' w1 ⟨q, rfl, hg1, hk1⟩; obtain ⟨G1, K1⟩ := hD2 hg1 hk1; clear hg1 hk1)
 have KX := hD (kT K1.out (kA w1 (.cells #[nd, (0:Int), .slice none 0 0, .slice none 0 0] 76))); have SL0 := hD (G1.out.kp (kA w1 (.cells #[nd, (0:Int), .slice none 0 0, .slice none 0 0] 76))); have SD0 := hD (SD.new (B := w.heap.size) (mH w1 (.cells #[nd, (0:Int), .slice none 0 0, .slice none 0 0] 76)) (kS K1.out)); go_loopw [29] (fun i wr => ∃ (j : Nat) (m : StM), j ≤ n ∧ i = .int .i64 j ∧ m = bldM (newSt nd) (fs.take j) ∧ SL w.heap.size q m wr ∧ SD w.heap.size w1.heap.size m wr ∧ Kp w wr) (fun i _ => n - (intOf i).toNat)
 case atStart => exact ⟨0, newSt nd, Nat.zero_le _, rfl, rfl, SL0.out, SD0.out, KX.out⟩
 case round =>
  obtain ⟨j, m, hj, rfl, hm, hsl, hsd, hk⟩ := hrel; obtain ⟨kk, hkk⟩ : ∃ x : Int, (j : Int) = x := ⟨_, rfl⟩
  rw [hkk]; obtain ⟨HKK, KR⟩ := hD2 hkk hk
  by_cases hlt : j < n
  ·have hjl : kk < N := by have := HNN.out; omega
   have hk0 : 0 ≤ kk := by omega
   have htk : kk.toNat = j := by omega
   have hN8 : N ≤ 60 := by have := HNN.out; have := HL.out; omega
   have hw1 : wrap64 (kk + 1) = kk + 1 := IntWalk.wrap64_in _ (by omega); have HLT := hD hlt; have hjx : j < fs.length := by have := HN.out; omega
   have hok : OkS m := by rw [hm]; exact bld_ok _ HOK0.out
   have hnx := bld_take fs (newSt nd) j hjx; rw [← hm] at hnx; obtain ⟨bb, bo, rfl, hwf, hcell⟩ := (HS.out.kp hk).at j hjx; obtain ⟨⟨fk, fn, fs, fr, fe, fp, fq, fo, fd, fa, ft, fh, fc, fx⟩, hF⟩ : ∃ f, fs[j]'hjx = f := ⟨_, rfl⟩
   rw [hF] at hwf hcell hnx; rw [← htk] at hcell; have zf0 : wr.cell? ⟨bb, bo + kk.toNat * 14, none⟩ = some (.int .i64 fk) := hcell 0 _ rfl; have zf1 : wr.cell? ⟨bb, bo + kk.toNat * 14 + 1, none⟩ = some (.int .i64 fn) := hcell 1 _ rfl; have zf2 : wr.cell? ⟨bb, bo + kk.toNat * 14 + 2, none⟩ = some (.int .i64 fs) := hcell 2 _ rfl; have zf3 : wr.cell? ⟨bb, bo + kk.toNat * 14 + 3, none⟩ = some (.int .i64 fr) := hcell 3 _ rfl; have zf4 : wr.cell? ⟨bb, bo + kk.toNat * 14 + 4, none⟩ = some (.int .i64 fe) := hcell 4 _ rfl; have zf5 : wr.cell? ⟨bb, bo + kk.toNat * 14 + 5, none⟩ = some (.int .i64 fp) := hcell 5 _ rfl; have zf6 : wr.cell? ⟨bb, bo + kk.toNat * 14 + 6, none⟩ = some (.int .i64 fq) := hcell 6 _ rfl; have zf7 : wr.cell? ⟨bb, bo + kk.toNat * 14 + 7, none⟩ = some (.int .i64 fo) := hcell 7 _ rfl; have zf8 : wr.cell? ⟨bb, bo + kk.toNat * 14 + 8, none⟩ = some (.int .i64 fd) := hcell 8 _ rfl; have zf9 : wr.cell? ⟨bb, bo + kk.toNat * 14 + 9, none⟩ = some (.int .i64 fa) := hcell 9 _ rfl
   have zf10 : wr.cell? ⟨bb, bo + kk.toNat * 14 + 10, none⟩ = some (.int .i64 ft) := hcell 10 _ rfl; have zf11 : wr.cell? ⟨bb, bo + kk.toNat * 14 + 11, none⟩ = some (.int .i64 fh) := hcell 11 _ rfl; have zf12 : wr.cell? ⟨bb, bo + kk.toNat * 14 + 12, none⟩ = some (.int .i64 fc) := hcell 12 _ rfl; have zf13 : wr.cell? ⟨bb, bo + kk.toNat * 14 + 13, none⟩ = some (.float .f64 fx) := hcell 13 _ rfl; have kb := kA wr (.cells #[fk, fn, fs, fr, fe, fp, fq, fo, fd, fa, ft, fh, fc, fx] 87); obtain ⟨u0, u1, u2, u3, u4, u5, u6, u7, u8, u9, u10, u11, u12, u13⟩ := cZ (mH wr (.cells #[fk, fn, fs, fr, fe, fp, fq, fo, fd, fa, ft, fh, fc, fx] 87)); have RF := hD (mH wr (.cells #[fk, fn, fs, fr, fe, fp, fq, fo, fd, fa, ft, fh, fc, fx] 87)); have hap := SL.apply (HC.out.kp (kT hk kb)) (HE.out.kp (kT hk kb)) (hsl.kp kb) hok (⟨fk, fn, fs, fr, fe, fp, fq, fo, fd, fa, ft, fh, fc, fx⟩ : FX) hwf; have had := fun w2 (h : SD w.heap.size w1.heap.size m w2) => SD.apply h hok (⟨fk, fn, fs, fr, fe, fp, fq, fo, fd, fa, ft, fh, fc, fx⟩ : FX) hwf
   dsimp only [FX.cells] at hap had; obtain ⟨AQ, hAQ⟩ : ∃ x, applyQ m (⟨fk, fn, fs, fr, fe, fp, fq, fo, fd, fa, ft, fh, fc, fx⟩ : FX) = x := ⟨_, rfl⟩
   rw [hAQ] at hap had hnx; obtain ⟨ac, m2⟩ := AQ; dsimp only at hap had hnx; obtain ⟨er, her⟩ : ∃ x, errI ads ac = x := ⟨_, rfl⟩
   rw [her] at hap; obtain ⟨HAP, HAD, HNX⟩ := hD3 hap had hnx; have HSD := hD (hsd.kp kb); have KB := hD (kT hk kb); clear hkk hj hlt hm hok hsl hsd hk htk hjx hwf hcell hF kb hap had hAQ hnx her; go_wp2_with (first | (go_at_call 34; (with_reducible refine HAP.out.mono ?_); rintro e' w5 ⟨rfl, s5, d5, x5, k5⟩; have D5 := hD (d5 _ _ _ HSD.out); have S5 := hD s5; have R5 := hD (x5 _ _ _ offL_fct RF.out); obtain ⟨v0, v1, v2, v3, v4, v5, v6, v7, v8, v9, v10, v11, v12, v13⟩ := cZ R5.out; have K5 := hD (k5 _ KB.out (Nat.le_refl _)); clear s5 d5 x5 k5) | (go_at_call 35; (with_reducible refine (HAD.out _ D5.out).mono ?_); rintro e' w7 ⟨rfl, s7, d7, x7, k7⟩; have S7 := hD (d7 _ _ _ S5.out); have D7 := hD s7; have K7 := hD (k7 _ K5.out (Nat.le_refl _)); clear s7 d7 x7 k7))
   go_roundw
   case rel => exact ⟨j + 1, m2, by have := HLT.out; omega, by have := HKK.out; first | rw [show ((j + 1 : Nat) : Int) = kk + 1 by omega] | rw [show ((j + 1 : Nat) : Int) = kk + 1 by omega, hw1], HNX.out.symm, S7.out, D7.out, K7.out⟩
   case measure => have := HKK.out; have := HLT.out; simp [intOf]; omega
  ·have hje : ¬ kk < N := by have := HNN.out; omega
   have hmm : m = bldM (newSt nd) fs := by rw [hm, List.take_of_length_le (by have := HN.out; omega)]
   subst hmm; obtain ⟨SF, DF⟩ := hD2 hsl hsd; clear hkk hj hlt hk hm hsl hsd; go_wp2; go_ret3
   exact ⟨_, _, rfl, SF.out, DF.out, KR.out⟩
theorem run_take {m m2 : StM} {fs : List FX} (h : runS m fs = some m2) (j : Nat) : ∃ mj, runS m (fs.take j) = some mj := by
 have e := runS_app (fs.take j) (fs.drop j) m; rw [List.take_append_drop, h] at e
 cases g : runS m (fs.take j) with
 | none => rw [g] at e; cases e
 | some mj => exact ⟨mj, rfl⟩
theorem run_step {m m2 mj : StM} {fs : List FX} (h : runS m fs = some m2) (j : Nat) (hj : j < fs.length) (h1 : runS m (fs.take j) = some mj) : ∃ mk, applyQ mj (fs[j]'hj) = (0, mk) ∧ runS m (fs.take (j + 1)) = some mk := by
 obtain ⟨mk, hk⟩ := run_take h (j + 1); have e := runS_app (fs.take j) [fs[j]'hj] m; rw [← List.take_succ_eq_append_getElem hj, h1, hk] at e; have e : some mk = stepS mj (fs[j]'hj) := by rw [← run_one]; exact e
 refine ⟨mk, ?_, hk⟩
 unfold stepS at e
 split at e
 ·exact aS (by assumption) e.symm
 ·cases e
def FitR (B : Nat) (w wr : World) : Prop := (∀ B' q' m', SD B' q' m' w → SD B' q' m' wr) ∧ (∀ (b : Nat) (cs : Array Value) (t : TypeId), OffL t → w.heap[b]? = some (.cells cs t (0, 0)) → wr.heap[b]? = some (.cells cs t (0, 0))) ∧ (∀ w0, Kp w0 w → w0.heap.size ≤ B → Kp w0 wr)
theorem FitR.refl (B : Nat) (w : World) : FitR B w w := ⟨fun _ _ _ h => h, fun _ _ _ _ h => h, fun _ h _ => h⟩
theorem own_fit {B1 k n : Nat} {t : TypeId} {v : Value} {xs : List Value} (h : w.ownsRow B1 t k v n xs) (ht : OffL t) (hw : ∀ (b : Nat) (cs : Array Value) (t : TypeId), OffL t → w.heap[b]? = some (.cells cs t (0, 0)) → w'.heap[b]? = some (.cells cs t (0, 0))) : w'.ownsRow B1 t k v n xs :=
 sG h fun b e => by
  obtain ⟨c, hc⟩ := own_kindQ h b e; rw [hw b c t ht hc, hc]
theorem fit_any (hB : ∃ w0, Kp w0 w ∧ w0.heap.size ≤ B ∧ FacC ads w0 ∧ EP [0, 3, 4, 8, 13] ads w0) (h : SL B q m w) (ok : OkS m) (lst : List FX) (a : Option Addr) (n c : Nat) {B1 : Nat} (hn : lst.length = n) (h60 : n ≤ 60) (ho : w.ownsRow B1 87 14 (.slice a n c) n (fcE.row lst)) (hwf : ∀ f ∈ lst, f.wf) (m2 : StM) (hrun : runS m lst = some m2) : Calls Tryz.prog 17 #[.pointer (some ⟨q, 0, none⟩), .slice a n c] w fun r w' => r = .returned (.bool true) ∧ SL B q m2 w' ∧ OkS m2 ∧ FitR B w w' := by
 obtain ⟨N, hN⟩ : ∃ N : Int, (n : Int) = N := ⟨_, rfl⟩
 obtain ⟨w0, hk0, hb0, C0, E0⟩ := hB; have HC := hD (fun w1 (hk : FitR B w w1) => C0.kp (hk.2.2 w0 hk0 hb0)); have HE := hD (fun w1 (hk : FitR B w w1) => E0.kp (hk.2.2 w0 hk0 hb0)); obtain ⟨HN, HO, HNN, HW, HL, HRUN, HSL, HOK⟩ := hD8 hn ho hN hwf h60 hrun h ok; have hsf := sF; clear C0 E0 hk0 hb0 h ok hn ho hwf hrun h60; go_enter Tryz.func17, Tryz.ntmps17; go_wp2; go_loopw [9] (fun i wr => ∃ (j : Nat) (mj : StM), j ≤ n ∧ i = .int .i64 j ∧ runS m (lst.take j) = some mj ∧ OkS mj ∧ SL B q mj wr ∧ wr.ownsRow B1 87 14 (.slice a n c) n (fcE.row lst) ∧ FitR B w wr) (fun i _ => n - (intOf i).toNat)
 case atStart => exact ⟨0, m, Nat.zero_le _, rfl, rfl, HOK.out, HSL.out, HO.out, FitR.refl B w⟩
 case round =>
  obtain ⟨j, mj, hj, rfl, hm, hok, hsl, ho, hf⟩ := hrel; obtain ⟨kk, hkk⟩ : ∃ x : Int, (j : Int) = x := ⟨_, rfl⟩
  rw [hkk]; have HKK := hD hkk; have FR' := hD hf
  by_cases hlt : j < n
  ·have hjl : kk < N := by have := HNN.out; omega
   have hk0 : 0 ≤ kk := by omega
   have htk : kk.toNat = j := by omega
   have hN8 : N ≤ 60 := by have := HNN.out; have := HL.out; omega
   have hw1 : wrap64 (kk + 1) = kk + 1 := IntWalk.wrap64_in _ (by omega); have HLT := hD hlt; have hjx : j < lst.length := by have := HN.out; omega
   obtain ⟨mk, hap0, hrk⟩ := run_step HRUN.out j hjx hm; have hwfj := HW.out _ (List.getElem_mem hjx); obtain ⟨gp, ck, ev, hck, _, _, _, hc0⟩ := cQ (E := fcE) ho HN.out hlt; have hc : ∀ (i : Nat) (u : Value), i < 14 → (fcE.enc (lst[j]'hjx))[i]? = some u → wr.cell? ⟨gp, j * 14 + i, none⟩ = some u := hc0; have ea := congrArg (fun v => match v with | Value.slice a _ _ => a | _ => none) ev; dsimp only at ea; subst ea; obtain ⟨⟨fk, fn, fs, fr, fe, fp, fq, fo, fd, fa, ft, fh, fc, fx⟩, hF⟩ : ∃ f, lst[j]'hjx = f := ⟨_, rfl⟩
   rw [hF] at hwfj hap0 hc; rw [← htk] at hc; obtain ⟨zf0, zf1, zf2, zf3, zf4, zf5, zf6, zf7, zf8, zf9, zf10, zf11, zf12, zf13⟩ := cW14 hc; have kb := kA wr (.cells #[fk, fn, fs, fr, fe, fp, fq, fo, fd, fa, ft, fh, fc, fx] 87); obtain ⟨u0, u1, u2, u3, u4, u5, u6, u7, u8, u9, u10, u11, u12, u13⟩ := cZ (mH wr (.cells #[fk, fn, fs, fr, fe, fp, fq, fo, fd, fa, ft, fh, fc, fx] 87)); have hap := SL.apply ((HC.out wr hf).kp kb) ((HE.out wr hf).kp kb) (hsl.kp kb) hok (⟨fk, fn, fs, fr, fe, fp, fq, fo, fd, fa, ft, fh, fc, fx⟩ : FX) hwfj; rw [hap0] at hap; dsimp only [FX.cells] at hap; rw [eN] at hap; have hokk : OkS mk := by have := applyQ_ok (f := (⟨fk, fn, fs, fr, fe, fp, fq, fo, fd, fa, ft, fh, fc, fx⟩ : FX)) hok; rw [hap0] at this; exact this
   obtain ⟨HAP, HRK, HOKK, OR, KB⟩ := hD5 hap hrk hokk ho kb; clear hkk hj hlt hm hok hsl ho hf htk hjx hck ev hc hc0 hF hwfj hap0 hrk hap hokk kb; go_wp2_with (go_at_call 34; (with_reducible refine HAP.out.mono ?_); rintro e' w5 ⟨rfl, s5, d5, x5, k5⟩; have S5 := hD s5; have O5 := hD (own_fit (oK OR.out KB.out) offL_fct x5); have F5 := hD (show FitR B w w5 from ⟨fun B' q' m' h => d5 _ _ _ ((FR'.out.1 B' q' m' h).kp KB.out), fun b cs t ht h => x5 b cs t ht (rZ KB.out (FR'.out.2.1 b cs t ht h)), fun w0 h hb => k5 w0 (kT (FR'.out.2.2 w0 h hb) KB.out) hb⟩); clear s5 d5 x5 k5)
   go_roundw
   case rel => exact ⟨j + 1, mk, by have := HLT.out; omega, by have := HKK.out; first | rw [show ((j + 1 : Nat) : Int) = kk + 1 by omega] | rw [show ((j + 1 : Nat) : Int) = kk + 1 by omega, hw1], HRK.out, HOKK.out, S5.out, O5.out, F5.out⟩
   case measure => have := HKK.out; have := HLT.out; simp [intOf]; omega
  ·have hje : ¬ kk < N := by have := HNN.out; omega
   have hmm : mj = m2 := by rw [List.take_of_length_le (by have := HN.out; omega), HRUN.out] at hm; exact (Option.some.inj hm).symm
   subst hmm; obtain ⟨SF, OKF⟩ := hD2 hsl hok; clear hkk hj hlt hm hok hsl ho hf; go_wp2; go_ret; exact ⟨rfl, SF.out, OKF.out, FR'.out⟩
structure LeaC (ads : List Addr) (w : World) : Prop where
 tell : ∀ w1, Kp w w1 → ∀ (B q : Nat) (m : StM), SL B q m w1 → OkS m → ∀ (g : MM) (now : Nat), now < 18446744073709551616 → Calls Tryz.prog 29 #[.pointer (some ⟨q, 0, none⟩), .agg g.cells, .float .f64 now] w1 fun r w' => ∃ v, r = .returned v ∧ RsV 87 w1.heap.size (leadE m g now) v w' ∧ Kp w1 w'
 again : ∀ w1, Kp w w1 → ∀ (B q : Nat) (m : StM), SL B q m w1 → OkS m → ∀ (n s ri : Int) (g : MM) (b : Bool), ((againE m n s ri = some g ∧ b = true) ∨ (againE m n s ri = none ∧ b = false ∧ g = ⟨0, 0, 0, 0, 0, 0, 0, 0, 0⟩)) → Calls Tryz.prog 21 #[.pointer (some ⟨q, 0, none⟩), .agg #[n, s], .int .i64 ri] w1 fun r w' => r = .returned (.tuple #[.agg g.cells, .bool b]) ∧ Kp w1 w'
 takes : ∀ w1, Kp w w1 → ∀ (B q : Nat) (m : StM), SL B q m w1 → OkS m → ∀ (n s : Int) (now : Nat), now < 18446744073709551616 → ∀ b, (match actE m n s with | none => false | some a => takesE m a now) = b → Calls Tryz.prog 23 #[.pointer (some ⟨q, 0, none⟩), .agg #[n, s], .float .f64 now] w1 fun r w' => r = .returned (.bool b) ∧ Kp w1 w'
theorem LeaC.kp (C : LeaC ads w) (hk : Kp w w') : LeaC ads w' where
 tell := fun w1 h => C.tell w1 (kT hk h)
 again := fun w1 h => C.again w1 (kT hk h)
 takes := fun w1 h => C.takes w1 (kT hk h)
end Go.Proofs.YtlmlmhmhgdjhnaaGreatDoor
