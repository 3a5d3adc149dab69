/- Parts of this proof (own work). -/
import Derived.Test.YtlmlmhmhgdjhnaaGreatDoorZa31
import Derived.Deep.Cut
set_option maxRecDepth 100000
set_option maxHeartbeats 40000000
namespace Go.Proofs.YtlmlmhmhgdjhnaaGreatDoor
open Go.RowKit Go.ChangeShapes Go.WideShapes
variable {w0 w w' W w3 : World} {B q : Nat} {m : StM} {ads : List Addr}
theorem find_actE (m : StM) (n s : Int) : (findS m.acts n s).isSome = (actE m n s).isSome ∧ ∀ i, findS m.acts n s = some i → m.acts[i]? = actE m n s := by
 unfold actE
 cases hf : findS m.acts n s with
 | none => exact ⟨rfl, fun i h => by cases h⟩
 | some i =>
  obtain ⟨b, hb, _⟩ := fS hf; refine ⟨?_, fun j h => ?_⟩
  ·show true = (m.acts[i]?).isSome
   rw [hb]; rfl
  ·obtain rfl := Option.some.inj h
   rfl
theorem act_len6 (ok : OkS m) : ∀ a ∈ m.acts, a.regs.length ≤ 6 := fun a ha => (ok.a a ha).l
theorem SL.findQ (h : SL B q m w) (ok : OkS m) (n s : Int) : Calls Tryz.prog 116 #[.pointer (some ⟨q, 0, none⟩), .agg #[n, s]] w fun r w' => ∃ (a : AcM) (oo : Option Addr) (c : Nat), r = .returned (.tuple #[.agg (acV a oo c), .bool (actE m n s).isSome]) ∧ (match actE m n s with | none => a = zeroA ∧ oo = none ∧ c = 0 | some x => a = x) ∧ w'.ownsRow w.heap.size 96 6 (.slice oo a.regs.length c) a.regs.length (rgE.row a.regs) ∧ Kp w w' := by
 obtain ⟨gs, va, vp, H⟩ := h; refine (stFind H (by rw [H.len]; exact ok.l8) (act_len6 ok) n s).mono ?_
 rintro e w2 ⟨v, rfl, ⟨a, oo, c, rfl, h2, h3⟩, hk⟩; obtain ⟨e1, e2⟩ := find_actE m n s; rw [e1]; refine ⟨a, oo, c, rfl, ?_, h3, hk⟩
 cases hf : findS m.acts n s with
 | none =>
  rw [hf] at h2; have : actE m n s = none := by unfold actE; rw [hf]; rfl
  rw [this]; exact h2
 | some i =>
  rw [hf] at h2; have h2 : m.acts[i]? = some a := h2; rw [← e2 i hf, h2]
theorem lFindS (h : SL B q m w) (ok : OkS m) (n s : Int) (an aw ao ad : Int) (ax : Nat) (ap ac : Int) (regs : List RgM) (al : Nat) (hl : regs.length = al) (ha : actE m n s = some ⟨⟨an, aw, ao, ad, ax⟩, ap, ac, regs⟩) : Calls Tryz.prog 60 #[.pointer (some ⟨q, 0, none⟩), .agg #[n, s]] w fun r w' => ∃ oo ak, r = .returned (.tuple #[.agg #[an, aw, ao, ad, ax, ap, ac, .slice oo al ak], .bool true]) ∧ w'.ownsRow w.heap.size 96 6 (.slice oo al ak) al (rgE.row regs) ∧ Kp w w' := by
 have HF := hD (fun w1 (hk : Kp w w1) => (SL.findQ (h.kp hk) ok n s).mono (R' := fun r w' => ∃ oo ak, r = .returned (.tuple #[.agg #[an, aw, ao, ad, ax, ap, ac, .slice oo al ak], .bool true]) ∧ w'.ownsRow w1.heap.size 96 6 (.slice oo al ak) al (rgE.row regs) ∧ Kp w1 w') (by
  rintro e w2 ⟨a, oo, c, rfl, h2, h3, hk2⟩; rw [ha] at h2 ⊢; dsimp only at h2; subst h2; dsimp only at h3; rw [hl] at h3; refine ⟨oo, c, ?_, h3, hk2⟩
  unfold acV; dsimp only; rw [hl]
  rfl))
 have R1 := hD (nX1 w (.cells #[n, s] 25) (.cells #[(0:Int), (0:Int), (0:Int), (0:Int), .float .f64 0, (0:Int), (0:Int), .slice none 0 0] 92)); have K2 := hD (pk2 w (.cells #[n, s] 25) (.cells #[(0:Int), (0:Int), (0:Int), (0:Int), .float .f64 0, (0:Int), (0:Int), .slice none 0 0] 92)); obtain ⟨b0, b1⟩ := cells_2S (nX0 w (.cells #[n, s] 25) (.cells #[(0:Int), (0:Int), (0:Int), (0:Int), .float .f64 0, (0:Int), (0:Int), .slice none 0 0] 92)); have hsf := sF; clear h ok ha hl; go_enter Tryz.func60, Tryz.ntmps60; go_wp2_with (go_at_call 116; (with_reducible refine (HF.out _ K2.out).mono ?_); rintro e' w3 ⟨oo, ak, rfl, ho, hk⟩; have R3 := hD (rZ hk R1.out); have K3 := hD (kT K2.out hk); obtain ⟨c0, c1, c2, c3, c4, c5, c6, c7⟩ := c8X R3.out; have f3 := frozN R3.out; have OO := hD ho; clear ho hk)
 refine bodyPost_ret (rQ (p := 4) (u := 5) rfl _ _ (w.heap.size + 1) 92 _ (0, 0) _ rfl (set_8 (.int .i64 an) (.int .i64 aw) (.int .i64 ao) (.int .i64 ad) (.float .f64 ax) (.int .i64 ap) (.int .i64 ac) (.slice oo al ak) R3.out) Tryz.underlying92 rfl (by kernel_rfl)) rfl ?_
 refine ⟨oo, ak, rfl, ?_, set_8_kp K3.out (by omega) _ _ _ _ _ _ _ _⟩
 exact bG (sG OO.out (fun b e => set8_ne (fun e2 => own_neP OO.out R3.out (by decide) (by have e3 : b = w.heap.size + 1 := e2; rw [← e3]; exact e)) _ _ _ _ _ _ _ _)) (kS K2.out)
theorem lFindN (h : SL B q m w) (ok : OkS m) (n s : Int) (ha : actE m n s = none) : Calls Tryz.prog 60 #[.pointer (some ⟨q, 0, none⟩), .agg #[n, s]] w fun r w' => r = .returned (.tuple #[.agg #[(0:Int), (0:Int), (0:Int), (0:Int), .float .f64 0, (0:Int), (0:Int), .slice none 0 0], .bool false]) ∧ Kp w w' := by
 have HF := hD (fun w1 (hk : Kp w w1) => (SL.findQ (h.kp hk) ok n s).mono (R' := fun r w' => r = .returned (.tuple #[.agg #[(0:Int), (0:Int), (0:Int), (0:Int), .float .f64 0, (0:Int), (0:Int), .slice none 0 0], .bool false]) ∧ Kp w1 w') (by
  rintro e w2 ⟨a, oo, c, rfl, h2, h3, hk2⟩; rw [ha] at h2 ⊢; dsimp only at h2; obtain ⟨rfl, rfl, rfl⟩ := h2; exact ⟨rfl, hk2⟩))
 have R1 := hD (nX1 w (.cells #[n, s] 25) (.cells #[(0:Int), (0:Int), (0:Int), (0:Int), .float .f64 0, (0:Int), (0:Int), .slice none 0 0] 92)); have K2 := hD (pk2 w (.cells #[n, s] 25) (.cells #[(0:Int), (0:Int), (0:Int), (0:Int), .float .f64 0, (0:Int), (0:Int), .slice none 0 0] 92)); obtain ⟨b0, b1⟩ := cells_2S (nX0 w (.cells #[n, s] 25) (.cells #[(0:Int), (0:Int), (0:Int), (0:Int), .float .f64 0, (0:Int), (0:Int), .slice none 0 0] 92)); have hsf := sF; clear h ok ha; go_enter Tryz.func60, Tryz.ntmps60; go_wp2_with (go_at_call 116; (with_reducible refine (HF.out _ K2.out).mono ?_); rintro e' w3 ⟨rfl, hk⟩; have R3 := hD (rZ hk R1.out); have K3 := hD (kT K2.out hk); obtain ⟨c0, c1, c2, c3, c4, c5, c6, c7⟩ := c8X R3.out; have f3 := frozN R3.out; clear hk)
 refine bodyPost_ret (rQ (p := 4) (u := 5) rfl _ _ (w.heap.size + 1) 92 _ (0, 0) _ rfl (set_8 (.int .i64 0) (.int .i64 0) (.int .i64 0) (.int .i64 0) (.float .f64 0) (.int .i64 0) (.int .i64 0) (.slice none 0 0) R3.out) Tryz.underlying92 rfl (by kernel_rfl)) rfl ?_
 exact ⟨rfl, set_8_kp K3.out (by omega) _ _ _ _ _ _ _ _⟩
theorem lNumS (an aw ao ad : Int) (ax : Nat) (ap ac : Int) (ga al ak : Nat) (ri N : Int) (hN : (al : Int) = N) (h0 : 0 ≤ ri) (h1 : ri < N) (rn rp rq re rs rh : Int) (hc : ∀ (j : Nat) (u : Value), j < 6 → (rgE.enc ⟨rn, rp, ⟨rq, re, rs, rh⟩⟩)[j]? = some u → w.cell? ⟨ga, ri.toNat * 6 + j, none⟩ = some u) : Calls Tryz.prog 61 #[.agg #[an, aw, ao, ad, ax, ap, ac, .slice (some ⟨ga, 0, none⟩) al ak], .int .i64 ri] w fun r w' => r = .returned (.tuple #[.agg #[rn, rp, rq, re, rs, rh, an, aw, ao, ad, ax, ap, ac, .slice (some ⟨ga, 0, none⟩) al ak, ri], .bool true]) ∧ Kp w w' := by
 have R0 := hD (nX0 w (.cells #[an, aw, ao, ad, ax, ap, ac, .slice (some ⟨ga, 0, none⟩) al ak] 92) (.cells #[(0:Int), (0:Int), (0:Int), (0:Int), (0:Int), (0:Int), (0:Int), (0:Int), (0:Int), (0:Int), .float .f64 0, (0:Int), (0:Int), .slice none 0 0, (0:Int)] 137)); have R1 := hD (nX1 w (.cells #[an, aw, ao, ad, ax, ap, ac, .slice (some ⟨ga, 0, none⟩) al ak] 92) (.cells #[(0:Int), (0:Int), (0:Int), (0:Int), (0:Int), (0:Int), (0:Int), (0:Int), (0:Int), (0:Int), .float .f64 0, (0:Int), (0:Int), .slice none 0 0, (0:Int)] 137)); have K2 := hD (pk2 w (.cells #[an, aw, ao, ad, ax, ap, ac, .slice (some ⟨ga, 0, none⟩) al ak] 92) (.cells #[(0:Int), (0:Int), (0:Int), (0:Int), (0:Int), (0:Int), (0:Int), (0:Int), (0:Int), (0:Int), .float .f64 0, (0:Int), (0:Int), .slice none 0 0, (0:Int)] 137)); have E0 := hD (show w.cell? ⟨ga, ri.toNat * 6, none⟩ = some (.int .i64 rn) from hc 0 _ (by decide) rfl); have E1 := hD (show w.cell? ⟨ga, ri.toNat * 6 + 1, none⟩ = some (.int .i64 rp) from hc 1 _ (by decide) rfl)
 have E2 := hD (show w.cell? ⟨ga, ri.toNat * 6 + 2, none⟩ = some (.int .i64 rq) from hc 2 _ (by decide) rfl); have E3 := hD (show w.cell? ⟨ga, ri.toNat * 6 + 3, none⟩ = some (.int .i64 re) from hc 3 _ (by decide) rfl); have E4 := hD (show w.cell? ⟨ga, ri.toNat * 6 + 4, none⟩ = some (.int .i64 rs) from hc 4 _ (by decide) rfl); have E5 := hD (show w.cell? ⟨ga, ri.toNat * 6 + 5, none⟩ = some (.int .i64 rh) from hc 5 _ (by decide) rfl); obtain ⟨a0, a1, a2, a3, a4, a5, a6, a7⟩ := c8X R0.out; have hsf := sF; have d0 : decide (ri < 0) = false := dF (by omega); have d1 : decide (ri ≥ N) = false := dF (by omega); clear hc; go_enter Tryz.func61, Tryz.ntmps61; go_wp2_with fail
 obtain ⟨WD, hWD⟩ : ∃ x, ((w.alloc (.cells #[an, aw, ao, ad, ax, ap, ac, .slice (some ⟨ga, 0, none⟩) al ak] 92)).alloc (.cells #[(0:Int), (0:Int), (0:Int), (0:Int), (0:Int), (0:Int), (0:Int), (0:Int), (0:Int), (0:Int), .float .f64 0, (0:Int), (0:Int), .slice none 0 0, (0:Int)] 137)).drew = x := ⟨_, rfl⟩
 have kD : Kp ((w.alloc (.cells #[an, aw, ao, ad, ax, ap, ac, .slice (some ⟨ga, 0, none⟩) al ak] 92)).alloc (.cells #[(0:Int), (0:Int), (0:Int), (0:Int), (0:Int), (0:Int), (0:Int), (0:Int), (0:Int), (0:Int), .float .f64 0, (0:Int), (0:Int), .slice none 0 0, (0:Int)] 137)) WD := by rw [← hWD]; exact dQ (Kp.refl _)
 have HWD := hD hWD; have RZD := hD (rZ kD R1.out); have KD := hD (kT K2.out kD); have RAD := hD (rZ kD R0.out); clear hWD kD; refine rgW (fun w' => w'.heap[w.heap.size]? = some (.cells #[an, aw, ao, ad, ax, ap, ac, .slice (some ⟨ga, 0, none⟩) al ak] 92) ∧ Kp w w') ?_ fun hH => ?_
 ·exact by rw [HWD.out]; exact ⟨RAD.out, KD.out⟩
 rw [HWD.out] at hH ⊢; refine tkP 0 ?_
 go_simp; refine tkP 1 ?_ (y := by intro w hZ; obtain ⟨x0, x1, x2, x3, x4, x5, x6, x7⟩ := c8X hZ.1; go_simp; try rfl)
 go_simp; refine tkP 2 ?_
 go_simp; refine tkP 3 ?_
 go_simp; refine tkP 4 ?_ (y := by intro w hZ; have e0 := kZ hZ.2 E0.out; have e1 := kZ hZ.2 E1.out; have e2 := kZ hZ.2 E2.out; have e3 := kZ hZ.2 E3.out; have e4 := kZ hZ.2 E4.out; have e5 := kZ hZ.2 E5.out; go_simp; try rfl)
 go_simp; refine tkP 5 ?_ (y := by intro w hZ; obtain ⟨x0, x1, x2, x3, x4, x5, x6, x7⟩ := c8X hZ.1; go_simp; try rfl)
 go_simp; refine tkP 6 ?_
 go_simp; refine tkP 7 ?_
 go_simp; refine rdW 8 fun K hK => ?_
 have r1 := RZD.out; obtain ⟨s0, s1, s2, s3, s4, s5, s6, s7, s8, s9, s10, s11, s12, s13, s14⟩ := cells15 r1; have fz := frozN r1; go_simp; refine hK.out _ _ (⟨(set15_ne (show w.heap.size ≠ w.heap.size + 1 by omega) _ _ _ _ _ _ _ _ _ _ _ _ _ _ _).trans hH.1, set15_kp hH.2 (by omega) _ _ _ _ _ _ _ _ _ _ _ _ _ _ _⟩) fun hH => ?_
 clear hK K; clear r1 fz s0 s1 s2 s3 s4 s5 s6 s7 s8 s9 s10 s11 s12 s13 s14; refine tkP 9 ?_
 go_simp; refine dnW ?_ _
 clear hH; go_wp2; refine bodyPost_ret (rQ (p := 4) (u := 5) rfl _ _ (w.heap.size + 1) 137 _ (0, 0) _ rfl (set15 (.int .i64 rn) (.int .i64 rp) (.int .i64 rq) (.int .i64 re) (.int .i64 rs) (.int .i64 rh) (.int .i64 an) (.int .i64 aw) (.int .i64 ao) (.int .i64 ad) (.float .f64 ax) (.int .i64 ap) (.int .i64 ac) (.slice (some ⟨ga, 0, none⟩) al ak) (.int .i64 ri) RZD.out) Tryz.underlying137 rfl (by kernel_rfl)) rfl ?_
 exact ⟨rfl, set15_kp KD.out (by omega) _ _ _ _ _ _ _ _ _ _ _ _ _ _ _⟩
theorem lNumN (an aw ao ad : Int) (ax : Nat) (ap ac : Int) (av : Option Addr) (al ak : Nat) (ri N : Int) (hN : (al : Int) = N) (h : ri < 0 ∨ N ≤ ri) : Calls Tryz.prog 61 #[.agg #[an, aw, ao, ad, ax, ap, ac, .slice av al ak], .int .i64 ri] w fun r w' => r = .returned (.tuple #[.agg #[(0:Int), (0:Int), (0:Int), (0:Int), (0:Int), (0:Int), (0:Int), (0:Int), (0:Int), (0:Int), .float .f64 0, (0:Int), (0:Int), .slice none 0 0, (0:Int)], .bool false]) ∧ Kp w w' := by
 have R1 := hD (nX1 w (.cells #[an, aw, ao, ad, ax, ap, ac, .slice av al ak] 92) (.cells #[(0:Int), (0:Int), (0:Int), (0:Int), (0:Int), (0:Int), (0:Int), (0:Int), (0:Int), (0:Int), .float .f64 0, (0:Int), (0:Int), .slice none 0 0, (0:Int)] 137)); have K2 := hD (pk2 w (.cells #[an, aw, ao, ad, ax, ap, ac, .slice av al ak] 92) (.cells #[(0:Int), (0:Int), (0:Int), (0:Int), (0:Int), (0:Int), (0:Int), (0:Int), (0:Int), (0:Int), .float .f64 0, (0:Int), (0:Int), .slice none 0 0, (0:Int)] 137)); obtain ⟨a0, a1, a2, a3, a4, a5, a6, a7⟩ := c8X (nX0 w (.cells #[an, aw, ao, ad, ax, ap, ac, .slice av al ak] 92) (.cells #[(0:Int), (0:Int), (0:Int), (0:Int), (0:Int), (0:Int), (0:Int), (0:Int), (0:Int), (0:Int), .float .f64 0, (0:Int), (0:Int), .slice none 0 0, (0:Int)] 137)); have hsf := sF
 by_cases h0 : ri < 0
 ·have d0 : decide (ri < 0) = true := dT h0; clear h h0; go_enter Tryz.func61, Tryz.ntmps61; go_wp2; refine bodyPost_ret (rQ (p := 4) (u := 5) rfl _ _ (w.heap.size + 1) 137 _ (0, 0) _ rfl R1.out Tryz.underlying137 rfl (by kernel_rfl)) rfl ?_
  exact ⟨rfl, K2.out⟩
 ·have d0 : decide (ri < 0) = false := dF h0; have d1 : decide (ri ≥ N) = true := dT (by omega); clear h h0; go_enter Tryz.func61, Tryz.ntmps61; go_wp2; refine bodyPost_ret (rQ (p := 4) (u := 5) rfl _ _ (w.heap.size + 1) 137 _ (0, 0) _ rfl R1.out Tryz.underlying137 rfl (by kernel_rfl)) rfl ?_
  exact ⟨rfl, K2.out⟩
variable {w0 w w' W w3 : World} {ads : List Addr}
def RwB (w : World) (K E Z : Obj) (r : RsM) (w' : World) : Prop := w'.heap[w.heap.size]? = some K ∧ w'.heap[w.heap.size + 1]? = some E ∧ w'.heap[w.heap.size + 1 + 1]? = some Z ∧ ResB 37 87 w.heap.size (w.heap.size + 1 + 1 + 1) r w' ∧ Kp w w'
end Go.Proofs.YtlmlmhmhgdjhnaaGreatDoor
