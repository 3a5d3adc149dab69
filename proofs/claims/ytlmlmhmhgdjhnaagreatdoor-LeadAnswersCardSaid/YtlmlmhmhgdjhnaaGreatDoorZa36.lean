/- Parts of this proof (own work). -/
import Derived.Test.YtlmlmhmhgdjhnaaGreatDoorZa35
set_option maxRecDepth 100000
set_option maxHeartbeats 40000000
namespace Go.Proofs.YtlmlmhmhgdjhnaaGreatDoor
open Go.RowKit Go.ChangeShapes Go.WideShapes
variable {w0 w w' W w3 : World} {B q : Nat} {m : StM} {ads : List Addr}
def hearsE (m : StM) (g : MM) : RsM := match actE m g.n g.s with
 | none => goneE m g
 | some a => match regE a g.r with
  | none => ⟨[], [answerM g 19 3], 0⟩
  | some x => if x.node ≠ g.f ∨ x.part ≠ g.p then ⟨[], [answerM g 19 3], 0⟩
   else if g.k = 15 then ⟨[], [answerM g 16 x.z.s], 0⟩
   else if (x.z.tell g.k).1 ≠ 0 then rs0
   else seatE m a x g (x.z.tell g.k).2
theorem leadE_hears {m : StM} {g : MM} {now : Nat} (ht : g.t = m.node) (h17 : g.k ≠ 17) (hk : g.k = 15 ∨ upM g.k = true) : leadE m g now = hearsE m g := by
 unfold leadE; rw [if_neg (by simpa using ht), if_neg h17, if_neg (by rintro ⟨h1, h2⟩; rcases hk with hk | hk; exact h1 hk; rw [hk] at h2; cases h2)]; unfold hearsE
 cases actE m g.n g.s <;> rfl
theorem hears_told {m : StM} {g : MM} {a : AcM} {x : RgM} (ha : actE m g.n g.s = some a) (hr : regE a g.r = some x) (hw : ¬ (x.node ≠ g.f ∨ x.part ≠ g.p)) (h15 : ¬ g.k = 15) (h0 : (x.z.tell g.k).1 = 0) : hearsE m g = seatE m a x g (x.z.tell g.k).2 := by
 unfold hearsE; rw [ha]; dsimp only; rw [hr]; dsimp only; rw [if_neg hw, if_neg h15, if_neg (by rw [h0]; simp)]
def compOk (z : SeatM) (k : Int) : Bool :=
 z.right == false || (!((z.tell k).2.changed && (z.tell k).2.z.s == 5)) || ((z.tell k).2.fault == 0 && ((z.tell k).2.z.act 11).2.changed && ((z.tell k).2.z.act 11).2.z.s == 7 && ((z.tell k).2.z.act 11).2.z.h == (z.tell k).2.z.h && ((z.tell k).2.z.act 11).2.send == 11 && ((z.tell k).2.z.act 11).2.fault == 0)
theorem comp_all : seatsC.all (fun z => [1, 3, 4, 5, 6, 7, 8].all (compOk z)) = true := by decide +kernel
theorem compC {z : SeatM} {k : Int} (h : OkZ z 1) (hk : upM k = true) (hc : (z.tell k).2.changed = true) (hs : (z.tell k).2.z.s = 5) : (z.tell k).2.fault = 0 ∧ ((z.tell k).2.z.act 11).2.changed = true ∧ ((z.tell k).2.z.act 11).2.z.s = 7 ∧ ((z.tell k).2.z.act 11).2.z.h = (z.tell k).2.z.h ∧ ((z.tell k).2.z.act 11).2.send = 11 ∧ ((z.tell k).2.z.act 11).2.fault = 0 := by
 have h1 := List.all_eq_true.1 comp_all z (seats_inC h.1 h.2); have h2 := List.all_eq_true.1 h1 k (up_in hk); unfold compOk at h2; rw [h.1, hc, hs] at h2; simp only [Bool.or_eq_true, Bool.and_eq_true, beq_iff_eq, Bool.not_eq_true', Bool.true_eq_false, false_or, Bool.and_self, beq_self_eq_true] at h2
 obtain ⟨⟨⟨⟨⟨a, b⟩, c⟩, d⟩, e⟩, f⟩ := h2; exact ⟨a, b, c, d, e, f⟩
theorem told_okz {z : SeatM} {k : Int} (h : OkZ z 1) (hk : upM k = true) : OkZ (z.tell k).2.z 1 := by
 obtain ⟨_, t2, _, t4, _⟩ := toldC h hk
 cases hc : (z.tell k).2.changed with
 | false => rw [t4 hc]; exact h
 | true => exact turnS_ok h (t2 hc)
theorem seat_eq17 {m : StM} {a : AcM} {x : RgM} {g : MM} {y z : EffM} (hz : OkZ x.z 1) (hk : upM g.k = true) (hn : a.c.n = m.node) (h1 : a.c.n = g.n) (h2 : a.c.s = g.s) (hy : (x.z.tell g.k).2 = y) (hzz : (if y.changed = true ∧ y.z.s = 5 ∧ a.dec = 2 then (y.z.act 11).2 else y) = z) :
  seatE m a x g y = ⟨(if z.changed = true then [fxSeated a.c.n a.c.s g.r z.z.s z.z.h] else []), (if z.send ≠ 0 then [msgE a.c.n a x g.r z.send] else []) ++ (if z.fault ≠ 0 then [answerM g 19 z.fault] else []), 0⟩ := by
 unfold seatE
 by_cases hc : y.changed = true ∧ y.z.s = 5 ∧ a.dec = 2
 ·rw [if_pos hc] at hzz; obtain ⟨a1, a2, a3⟩ := hc; have := compC hz hk (by rw [hy]; exact a1) (by rw [hy]; exact a2); rw [hy] at this; obtain ⟨c1, c2, c3, c4, c5, c6⟩ := this; rw [hzz] at c2 c3 c4 c5 c6; rw [if_pos a1, if_pos ⟨a2, a3⟩, if_pos ⟨a1, a2, a3⟩, c2, c3, c4, c5, c6, c1, h1, h2, ← hn, h1]
  rfl
 ·rw [if_neg hc] at hzz; subst hzz; rw [if_neg (c := y.changed = true ∧ y.z.s = 5 ∧ a.dec = 2) hc, h1, h2, ← hn, h1]
  cases hb : y.changed with
  | false => rfl
  | true =>
   rw [if_pos rfl, if_pos rfl, if_neg (fun h => hc ⟨hb, h⟩)]
theorem lHears (TC : TabC ads w) (TS : TabS ads w) (ce : w.cell? ⟨3, 0, none⟩ = some (errI ads 4)) (h : SL B q m w) (ok : OkS m) (mk mf mt mn ms mr mp mo mc : Int) (hk : mk = 15 ∨ upM mk = true) : Calls Tryz.prog 76 #[.pointer (some ⟨q, 0, none⟩), .agg #[mk, mf, mt, mn, ms, mr, mp, mo, mc]] w fun r w' => ∃ v, r = .returned v ∧ RsV 87 w.heap.size (hearsE m (⟨mk, mf, mt, mn, ms, mr, mp, mo, mc⟩ : MM)) v w' ∧ Kp w w' := by
 have R0 := hD (nX0 w (.cells #[mk, mf, mt, mn, ms, mr, mp, mo, mc] 63) (.cells #[.slice none 0 0, .slice none 0 0, (0:Int)] 37)); have R1 := hD (nX1 w (.cells #[mk, mf, mt, mn, ms, mr, mp, mo, mc] 63) (.cells #[.slice none 0 0, .slice none 0 0, (0:Int)] 37)); have K2 := hD (pk2 w (.cells #[mk, mf, mt, mn, ms, mr, mp, mo, mc] 63) (.cells #[.slice none 0 0, .slice none 0 0, (0:Int)] 37)); obtain ⟨b0, b1, b2, b3, b4, b5, b6, b7, b8⟩ := cells9 R0.out; have hsf := sF
 cases ha : actE m mn ms with
 | none =>
  have hG : hearsE m (⟨mk, mf, mt, mn, ms, mr, mp, mo, mc⟩ : MM) = goneE m (⟨mk, mf, mt, mn, ms, mr, mp, mo, mc⟩ : MM) := by unfold hearsE; dsimp only; rw [ha]
  rw [hG]; have HF := hD (fun w1 (hk : Kp w w1) => lFindN (h.kp hk) ok mn ms ha); have hrc := fun w1 (hk1 : Kp w w1) => lRecalls (w := w1) (TC.kp hk1) (h.kp hk1) m.node m.next rfl rfl mk mf mt mn ms mr mp mo mc hk
  obtain ⟨RR, hRR⟩ : ∃ r, goneE m (⟨mk, mf, mt, mn, ms, mr, mp, mo, mc⟩ : MM) = r := ⟨_, rfl⟩
  obtain ⟨lf, hlf⟩ : ∃ n, RR.facts.length = n := ⟨_, rfl⟩
  obtain ⟨lm, hlm⟩ : ∃ n, RR.send.length = n := ⟨_, rfl⟩
  obtain ⟨wk, hwk⟩ : ∃ x, RR.work = x := ⟨_, rfl⟩
  obtain ⟨HLF, HLM, HWK⟩ := hD3 hlf hlm hwk; rw [hRR] at hrc ⊢; have HRC := hD (fun w1 (hk1 : Kp w w1) => toForm (hrc w1 hk1) hlf hlm hwk); clear TC TS ce h ok hk ha hG hrc hRR hlf hlm hwk; go_enter Tryz.func76, Tryz.ntmps76; go_wp2_with (first | (go_at_call 60; (with_reducible refine (HF.out _ K2.out).mono ?_); rintro e' w3 ⟨rfl, hk⟩; have kz := kT hk (kA w3 (.cells #[(0:Int), (0:Int), (0:Int), (0:Int), .float .f64 0, (0:Int), (0:Int), .slice none 0 0] 92)); have K3 := hD (kT K2.out kz); have R30 := hD (rZ kz R0.out); have R31 := hD (rZ kz R1.out); obtain ⟨i0, i1, i2, i3, i4, i5, i6, i7, i8⟩ := cells9 R30.out; obtain ⟨j0, j1, j2⟩ := cellsR3 R31.out; have f3 := frozN R31.out; clear hk kz) | (go_at_call 133; (with_reducible refine (HRC.out _ (K3.out)).mono ?_); rintro e' w9 ⟨fa, fc, la, lc, rfl, of, om, hk⟩; have OF := hD (bG of (kS K3.out)); have OM := hD (bG om (kS K3.out)); have K9 := hD (kT K3.out hk); have R9 := hD (rZ hk R31.out); obtain ⟨v0, v1, v2⟩ := cellsR3 R9.out; have f9 := frozN R9.out; clear hk of om))
  refine bodyPost_ret (results_cell_row (p := 4) rfl _ _ (w.heap.size + 1) 37 _ (0, 0) _ rfl (setR3 _ _ _ R9.out) Tryz.underlying37 rfl (by kernel_rfl)) rfl ?_
  refine ⟨_, rfl, ?_, setR3_kp K9.out (by omega) _ _ _⟩
  have e1 := HWK.out; subst e1; exact RsV.setN R9.out (by decide) (by decide) HLF.out HLM.out OF.out OM.out
 | some a =>
  obtain ⟨_, _, _, hen, hew⟩ := actE_some ha; obtain ⟨hA, hR⟩ := actE_ok ok ha; obtain ⟨⟨an, aw, ao, ad, ax⟩, ap, ac, regs⟩ := a; have hAn := hA.n; dsimp only at hen hew hAn; subst hen hew; obtain ⟨al, hal⟩ : ∃ n, regs.length = n := ⟨_, rfl⟩
  obtain ⟨N, hN⟩ : ∃ N : Int, (al : Int) = N := ⟨_, rfl⟩
  have HF := hD (fun w1 (hk : Kp w w1) => lFindS (h.kp hk) ok an aw an aw ao ad ax ap ac regs al hal ha); have HNN := hD hN
  cases hr : regE ⟨⟨an, aw, ao, ad, ax⟩, ap, ac, regs⟩ mr with
  | none =>
   have hG : hearsE m (⟨mk, mf, mt, an, aw, mr, mp, mo, mc⟩ : MM) = ⟨[], [answerM (⟨mk, mf, mt, an, aw, mr, mp, mo, mc⟩ : MM) 19 3], 0⟩ := by unfold hearsE; dsimp only; rw [ha]; dsimp only; rw [hr]
   rw [hG]; have hout : mr < 0 ∨ N ≤ mr := by
    unfold regE at hr
    split at hr
    ·rw [List.getElem?_eq_none_iff] at hr; dsimp only at hr; omega
    ·omega
   have HNU := hD (fun w (av : Option Addr) (ak : Nat) => lNumN (w := w) an aw ao ad ax ap ac av al ak mr N hN hout); have HRS := hD (fun w1 (hk : Kp w w1) => toForm (lAnswer (w := w1) (⟨mk, mf, mt, an, aw, mr, mp, mo, mc⟩ : MM) 19 3) (lf := 0) (lm := 1) (wk := 0) rfl rfl rfl); dsimp only [MM.cells] at HRS; clear TC TS ce h ok hk ha hG hA hR hAn hr hout hal; go_enter Tryz.func76, Tryz.ntmps76; go_wp2_with (first | (go_at_call 60; (with_reducible refine (HF.out _ K2.out).mono ?_); rintro e' w3 ⟨oo, ak, rfl, ho, hk⟩; have kz := kT hk (kA w3 (.cells #[an, aw, ao, ad, ax, ap, ac, .slice oo al ak] 92)); have K3 := hD (kT K2.out kz); have R30 := hD (rZ kz R0.out); have R31 := hD (rZ kz R1.out); have RA3 := hD (mH w3 (.cells #[an, aw, ao, ad, ax, ap, ac, .slice oo al ak] 92)); obtain ⟨i0, i1, i2, i3, i4, i5, i6, i7, i8⟩ := cells9 R30.out; obtain ⟨j0, j1, j2⟩ := cellsR3 R31.out; obtain ⟨k0, k1, k2, k3, k4, k5, k6, k7⟩ := c8X RA3.out; have f3 := frozN R31.out; clear hk kz) | (go_at_call 61; (with_reducible refine (HNU.out _ _ _).mono ?_); rintro e' w4 ⟨rfl, hk⟩; have kz := kT hk (kA w4 (.cells #[(0:Int), (0:Int), (0:Int), (0:Int), (0:Int), (0:Int), (0:Int), (0:Int), (0:Int), (0:Int), .float .f64 0, (0:Int), (0:Int), .slice none 0 0, (0:Int)] 137)); have K4 := hD (kT K3.out kz); have R40 := hD (rZ kz R30.out); have R41 := hD (rZ kz R31.out); have RL4 := hD (mH w4 (.cells #[(0:Int), (0:Int), (0:Int), (0:Int), (0:Int), (0:Int), (0:Int), (0:Int), (0:Int), (0:Int), .float .f64 0, (0:Int), (0:Int), .slice none 0 0, (0:Int)] 137)); obtain ⟨l0, l1, l2, l3, l4, l5, l6, l7, l8⟩ := cells9 R40.out; obtain ⟨n0, n1, n2⟩ := cellsR3 R41.out; obtain ⟨o0, o1, o2, o3, o4, o5, o6, o7, o8, o9, o10, o11, o12, o13, o14⟩ := cells15 RL4.out; have f4 := frozN R41.out; clear hk kz) | (go_at_call 128; (with_reducible refine (HRS.out _ K4.out).mono ?_); rintro e' w5 ⟨fa, fc, la, lc, rfl, of, om, hk⟩; have OF := hD (bG of (kS K4.out)); have OM := hD (bG om (kS K4.out)); have K5 := hD (kT K4.out hk); have R5 := hD (rZ hk R41.out); obtain ⟨d0, d1, d2⟩ := cellsR3 R5.out; have f5 := frozN R5.out; clear hk of om))
   refine bodyPost_ret (results_cell_row (p := 4) rfl _ _ (w.heap.size + 1) 37 _ (0, 0) _ rfl (setR3 _ _ _ R5.out) Tryz.underlying37 rfl (by kernel_rfl)) rfl ?_
   exact ⟨_, rfl, RsV.setN R5.out (by decide) (by decide) rfl rfl OF.out OM.out, setR3_kp K5.out (by omega) _ _ _⟩
  | some x =>
   obtain ⟨hx0, hxg⟩ := regE_some hr; obtain ⟨_, _, hG0⟩ := regE_ok hA hr; have hz := okg_z hG0; obtain ⟨rn, rp, ⟨rq, re, rs, rh⟩⟩ := x; obtain ⟨hlj, hxx⟩ := List.getElem?_eq_some_iff.1 hxg; dsimp only at hlj hxx hz; have HXX := hD (fun h : mr.toNat < regs.length => show regs[mr.toNat]'h = (⟨rn, rp, ⟨rq, re, rs, rh⟩⟩ : RgM) from hxx); obtain ⟨HLJ, HLN⟩ := hD2 hlj hal; have HLT := hD (show mr.toNat < al by omega); have H0 := hD hx0; have H1 := hD (show mr < N by omega)
   by_cases hw : rn ≠ mf ∨ rp ≠ mp
   ·have hG : hearsE m (⟨mk, mf, mt, an, aw, mr, mp, mo, mc⟩ : MM) = ⟨[], [answerM (⟨mk, mf, mt, an, aw, mr, mp, mo, mc⟩ : MM) 19 3], 0⟩ := by unfold hearsE; dsimp only; rw [ha]; dsimp only; rw [hr]; dsimp only; rw [if_pos hw]
    rw [hG]; have HSP := hD (fun w (av : Option Addr) (ak : Nat) => lSpeaks (w := w) rn rp rq re rs rh an aw ao ad ax ap ac av al ak mr mk mf mt an aw mr mp mo mc false (dF (by omega))); have HRS := hD (fun w1 (hk : Kp w w1) => toForm (lAnswer (w := w1) (⟨mk, mf, mt, an, aw, mr, mp, mo, mc⟩ : MM) 19 3) (lf := 0) (lm := 1) (wk := 0) rfl rfl rfl); dsimp only [MM.cells] at HRS; clear TC TS ce h ok hk ha hG hA hR hAn hr hal hx0 hxg hG0 hz hlj hxx hw; go_enter Tryz.func76, Tryz.ntmps76; go_wp2_with (first | (go_at_call 60; (with_reducible refine (HF.out _ K2.out).mono ?_); rintro e' w3 ⟨oo, ak, rfl, ho, hk⟩; obtain ⟨ga, ck, ev, _, _, hgl, _, hc0⟩ := cQ (E := rgE) ho HLN.out HLT.out; have ev := congrArg (fun v => match v with | Value.slice a _ _ => a | _ => none) ev; dsimp only at ev; subst ev; have hc0 : ∀ (j : Nat) (u : Value), j < 6 → (rgE.enc (regs[mr.toNat]'HLJ.out))[j]? = some u → w3.cell? ⟨ga, mr.toNat * 6 + j, none⟩ = some u := hc0; rw [HXX.out HLJ.out] at hc0; have HNU := hD (fun w4 (hk4 : Kp w3 w4) => lNumS (w := w4) an aw ao ad ax ap ac ga al ak mr N HNN.out H0.out H1.out rn rp rq re rs rh (fun j u hj hu => kZ hk4 (hc0 j u hj hu))); clear hc0 hgl; have kz := kT hk (kA w3 (.cells #[an, aw, ao, ad, ax, ap, ac, .slice (some ⟨ga, 0, none⟩) al ak] 92)); have K3 := hD (kT K2.out kz); have R30 := hD (rZ kz R0.out); have R31 := hD (rZ kz R1.out); have RA3 := hD (mH w3 (.cells #[an, aw, ao, ad, ax, ap, ac, .slice (some ⟨ga, 0, none⟩) al ak] 92)); obtain ⟨i0, i1, i2, i3, i4, i5, i6, i7, i8⟩ := cells9 R30.out; obtain ⟨j0, j1, j2⟩ := cellsR3 R31.out; obtain ⟨k0, k1, k2, k3, k4, k5, k6, k7⟩ := c8X RA3.out; have f3 := frozN R31.out; clear hk kz) | (go_at_call 61; (with_reducible refine (HNU.out _ (kA w3 _)).mono ?_); rintro e' w4 ⟨rfl, hk⟩; have kz := kT hk (kA w4 (.cells #[rn, rp, rq, re, rs, rh, an, aw, ao, ad, ax, ap, ac, .slice (some ⟨ga, 0, none⟩) al ak, mr] 137)); have K4 := hD (kT K3.out kz); have R40 := hD (rZ kz R30.out); have R41 := hD (rZ kz R31.out); have RL4 := hD (mH w4 (.cells #[rn, rp, rq, re, rs, rh, an, aw, ao, ad, ax, ap, ac, .slice (some ⟨ga, 0, none⟩) al ak, mr] 137)); obtain ⟨l0, l1, l2, l3, l4, l5, l6, l7, l8⟩ := cells9 R40.out; obtain ⟨n0, n1, n2⟩ := cellsR3 R41.out; obtain ⟨o0, o1, o2, o3, o4, o5, o6, o7, o8, o9, o10, o11, o12, o13, o14⟩ := cells15 RL4.out; have f4 := frozN R41.out; clear hk kz) | (go_at_call 131; (with_reducible refine (HSP.out _ _ _).mono ?_); rintro e' w5 ⟨rfl, hk⟩; have K5 := hD (kT K4.out hk); have R50 := hD (rZ hk R40.out); have R51 := hD (rZ hk R41.out); have RL5 := hD (rZ hk RL4.out); obtain ⟨p0, p1, p2, p3, p4, p5, p6, p7, p8⟩ := cells9 R50.out; obtain ⟨q0, q1, q2⟩ := cellsR3 R51.out; obtain ⟨u0, u1, u2, u3, u4, u5, u6, u7, u8, u9, u10, u11, u12, u13, u14⟩ := cells15 RL5.out; have f5 := frozN R51.out; clear hk) | (go_at_call 128; (with_reducible refine (HRS.out _ K5.out).mono ?_); rintro e' w6 ⟨fa, fc, la, lc, rfl, of, om, hk⟩; have OF := hD (bG of (kS K5.out)); have OM := hD (bG om (kS K5.out)); have K6 := hD (kT K5.out hk); have R6 := hD (rZ hk R51.out); obtain ⟨d0, d1, d2⟩ := cellsR3 R6.out; have f6 := frozN R6.out; clear hk of om))
    refine bodyPost_ret (results_cell_row (p := 4) rfl _ _ (w.heap.size + 1) 37 _ (0, 0) _ rfl (setR3 _ _ _ R6.out) Tryz.underlying37 rfl (by kernel_rfl)) rfl ?_
    exact ⟨_, rfl, RsV.setN R6.out (by decide) (by decide) rfl rfl OF.out OM.out, setR3_kp K6.out (by omega) _ _ _⟩
   have HSP := hD (fun w (av : Option Addr) (ak : Nat) => lSpeaks (w := w) rn rp rq re rs rh an aw ao ad ax ap ac av al ak mr mk mf mt an aw mr mp mo mc true (dT (by omega)))
   by_cases k15 : mk = 15
   ·have hG : hearsE m (⟨mk, mf, mt, an, aw, mr, mp, mo, mc⟩ : MM) = ⟨[], [answerM (⟨mk, mf, mt, an, aw, mr, mp, mo, mc⟩ : MM) 16 rs], 0⟩ := by unfold hearsE; dsimp only; rw [ha]; dsimp only; rw [hr]; dsimp only; rw [if_neg hw, if_pos k15]
    rw [hG]; have g15 : (mk == 15) = true := beq_iff_eq.2 k15; have HRS := hD (fun w1 (hk : Kp w w1) => toForm (lAnswer (w := w1) (⟨mk, mf, mt, an, aw, mr, mp, mo, mc⟩ : MM) 16 rs) (lf := 0) (lm := 1) (wk := 0) rfl rfl rfl); dsimp only [MM.cells] at HRS; clear TC TS ce h ok hk ha hG hA hR hAn hr hal hx0 hxg hG0 hz hlj hxx hw k15; go_enter Tryz.func76, Tryz.ntmps76; go_wp2_with (first | (go_at_call 60; (with_reducible refine (HF.out _ K2.out).mono ?_); rintro e' w3 ⟨oo, ak, rfl, ho, hk⟩; obtain ⟨ga, ck, ev, _, _, hgl, _, hc0⟩ := cQ (E := rgE) ho HLN.out HLT.out; have ev := congrArg (fun v => match v with | Value.slice a _ _ => a | _ => none) ev; dsimp only at ev; subst ev; have hc0 : ∀ (j : Nat) (u : Value), j < 6 → (rgE.enc (regs[mr.toNat]'HLJ.out))[j]? = some u → w3.cell? ⟨ga, mr.toNat * 6 + j, none⟩ = some u := hc0; rw [HXX.out HLJ.out] at hc0; have HNU := hD (fun w4 (hk4 : Kp w3 w4) => lNumS (w := w4) an aw ao ad ax ap ac ga al ak mr N HNN.out H0.out H1.out rn rp rq re rs rh (fun j u hj hu => kZ hk4 (hc0 j u hj hu))); clear hc0 hgl; have kz := kT hk (kA w3 (.cells #[an, aw, ao, ad, ax, ap, ac, .slice (some ⟨ga, 0, none⟩) al ak] 92)); have K3 := hD (kT K2.out kz); have R30 := hD (rZ kz R0.out); have R31 := hD (rZ kz R1.out); have RA3 := hD (mH w3 (.cells #[an, aw, ao, ad, ax, ap, ac, .slice (some ⟨ga, 0, none⟩) al ak] 92)); obtain ⟨i0, i1, i2, i3, i4, i5, i6, i7, i8⟩ := cells9 R30.out; obtain ⟨j0, j1, j2⟩ := cellsR3 R31.out; obtain ⟨k0, k1, k2, k3, k4, k5, k6, k7⟩ := c8X RA3.out; have f3 := frozN R31.out; clear hk kz) | (go_at_call 61; (with_reducible refine (HNU.out _ (kA w3 _)).mono ?_); rintro e' w4 ⟨rfl, hk⟩; have kz := kT hk (kA w4 (.cells #[rn, rp, rq, re, rs, rh, an, aw, ao, ad, ax, ap, ac, .slice (some ⟨ga, 0, none⟩) al ak, mr] 137)); have K4 := hD (kT K3.out kz); have R40 := hD (rZ kz R30.out); have R41 := hD (rZ kz R31.out); have RL4 := hD (mH w4 (.cells #[rn, rp, rq, re, rs, rh, an, aw, ao, ad, ax, ap, ac, .slice (some ⟨ga, 0, none⟩) al ak, mr] 137)); obtain ⟨l0, l1, l2, l3, l4, l5, l6, l7, l8⟩ := cells9 R40.out; obtain ⟨n0, n1, n2⟩ := cellsR3 R41.out; obtain ⟨o0, o1, o2, o3, o4, o5, o6, o7, o8, o9, o10, o11, o12, o13, o14⟩ := cells15 RL4.out; have f4 := frozN R41.out; clear hk kz) | (go_at_call 131; (with_reducible refine (HSP.out _ _ _).mono ?_); rintro e' w5 ⟨rfl, hk⟩; have K5 := hD (kT K4.out hk); have R50 := hD (rZ hk R40.out); have R51 := hD (rZ hk R41.out); have RL5 := hD (rZ hk RL4.out); obtain ⟨p0, p1, p2, p3, p4, p5, p6, p7, p8⟩ := cells9 R50.out; obtain ⟨q0, q1, q2⟩ := cellsR3 R51.out; obtain ⟨u0, u1, u2, u3, u4, u5, u6, u7, u8, u9, u10, u11, u12, u13, u14⟩ := cells15 RL5.out; have f5 := frozN R51.out; clear hk) | (go_at_call 128; (with_reducible refine (HRS.out _ K5.out).mono ?_); rintro e' w6 ⟨fa, fc, la, lc, rfl, of, om, hk⟩; have OF := hD (bG of (kS K5.out)); have OM := hD (bG om (kS K5.out)); have K6 := hD (kT K5.out hk); have R6 := hD (rZ hk R51.out); obtain ⟨d0, d1, d2⟩ := cellsR3 R6.out; have f6 := frozN R6.out; clear hk of om))
    refine bodyPost_ret (results_cell_row (p := 4) rfl _ _ (w.heap.size + 1) 37 _ (0, 0) _ rfl (setR3 _ _ _ R6.out) Tryz.underlying37 rfl (by kernel_rfl)) rfl ?_
    exact ⟨_, rfl, RsV.setN R6.out (by decide) (by decide) rfl rfl OF.out OM.out, setR3_kp K6.out (by omega) _ _ _⟩
   have hup : upM mk = true := hk.resolve_left k15; have g15 : (mk == 15) = false := by simpa using k15
   have htc := toldC hz hup; obtain ⟨⟨⟨y1, y2, y3, y4⟩, ys, yf, yw, yc⟩, hy⟩ : ∃ y, ((⟨rq, re, rs, rh⟩ : SeatM).tell mk).2 = y := ⟨_, rfl⟩
   obtain ⟨⟨⟨z1, z2, z3, z4⟩, zs, zf, zw, zc⟩, hzz⟩ : ∃ z, (if yc = true ∧ y3 = 5 ∧ ac = 2 then ((⟨y1, y2, y3, y4⟩ : SeatM).act 11).2 else (⟨⟨y1, y2, y3, y4⟩, ys, yf, yw, yc⟩ : EffM)) = z := ⟨_, rfl⟩
   have hG := (hears_told (g := (⟨mk, mf, mt, an, aw, mr, mp, mo, mc⟩ : MM)) ha hr hw k15 htc.1).trans ((congrArg (seatE m ⟨⟨an, aw, ao, ad, ax⟩, ap, ac, regs⟩ ⟨rn, rp, ⟨rq, re, rs, rh⟩⟩ (⟨mk, mf, mt, an, aw, mr, mp, mo, mc⟩ : MM)) hy).trans (seat_eq17 (m := m) (a := ⟨⟨an, aw, ao, ad, ax⟩, ap, ac, regs⟩) (x := ⟨rn, rp, ⟨rq, re, rs, rh⟩⟩) (g := (⟨mk, mf, mt, an, aw, mr, mp, mo, mc⟩ : MM)) hz hup hAn rfl rfl hy hzz)); rw [hG]; dsimp only [fxSeated, msgE, answerM]; obtain ⟨FS, hFS⟩ : ∃ x, (if zc = true then [(⟨3, an, aw, mr, 0, 0, 0, 0, 0, 0, z3, z4, 0, 0⟩ : FX)] else []) = x := ⟨_, rfl⟩
   obtain ⟨S2, hS2⟩ : ∃ x, (if zs ≠ 0 then [(⟨zs, an, rn, an, aw, mr, rp, 0, 0⟩ : MM)] else []) = x := ⟨_, rfl⟩
   obtain ⟨S3, hS3⟩ : ∃ x, (if zf ≠ 0 then [(⟨19, mt, mf, an, aw, mr, mp, 0, zf⟩ : MM)] else []) = x := ⟨_, rfl⟩
   rw [hFS, hS2, hS3]; have hz5 := told_okz hz hup; rw [hy] at hz5; have hzk := okz_ok hz (.inl rfl); have hz5k := okz_ok hz5 (.inl rfl); have imk : i64M mk := by
    have := up_in hup; simp only [List.mem_cons, List.not_mem_nil, or_false] at this
    unfold i64M; omega
   have htd := fun w1 (hk1 : Kp w w1) (av : Option Addr) (ak : Nat) => lTold (w := w1) (TC.kp hk1) (TS.kp hk1) (kZ hk1 ce) rn rp rq re rs rh an aw ao ad ax ap ac av al ak mr mk mf mt an aw mr mp mo mc hzk imk y1 y2 y3 y4 ys yf yw yc hy hz5k z1 z2 z3 z4 zs zf zw zc hzz FS hFS S2 S3 hS2 hS3
   obtain ⟨RR, hRR⟩ : ∃ r, (⟨FS, S2 ++ S3, 0⟩ : RsM) = r := ⟨_, rfl⟩
   obtain ⟨lf, hlf⟩ : ∃ n, RR.facts.length = n := ⟨_, rfl⟩
   obtain ⟨lm, hlm⟩ : ∃ n, RR.send.length = n := ⟨_, rfl⟩
   obtain ⟨wk, hwk⟩ : ∃ x, RR.work = x := ⟨_, rfl⟩
   obtain ⟨HLF, HLM, HWK⟩ := hD3 hlf hlm hwk; rw [hRR] at htd ⊢; have HTD := hD (fun w1 (hk1 : Kp w w1) (av : Option Addr) (ak : Nat) => toForm (htd w1 hk1 av ak) hlf hlm hwk); clear TC TS ce h ok hk ha hG hA hR hAn hr hal hx0 hxg hG0 hz hlj hxx hw k15 hup htc hy hzz hFS hS2 hS3 hz5 hzk hz5k imk htd hRR hlf hlm hwk; go_enter Tryz.func76, Tryz.ntmps76; go_wp2_with (first | (go_at_call 60; (with_reducible refine (HF.out _ K2.out).mono ?_); rintro e' w3 ⟨oo, ak, rfl, ho, hk⟩; obtain ⟨ga, ck, ev, _, _, hgl, _, hc0⟩ := cQ (E := rgE) ho HLN.out HLT.out; have ev := congrArg (fun v => match v with | Value.slice a _ _ => a | _ => none) ev; dsimp only at ev; subst ev; have hc0 : ∀ (j : Nat) (u : Value), j < 6 → (rgE.enc (regs[mr.toNat]'HLJ.out))[j]? = some u → w3.cell? ⟨ga, mr.toNat * 6 + j, none⟩ = some u := hc0; rw [HXX.out HLJ.out] at hc0; have HNU := hD (fun w4 (hk4 : Kp w3 w4) => lNumS (w := w4) an aw ao ad ax ap ac ga al ak mr N HNN.out H0.out H1.out rn rp rq re rs rh (fun j u hj hu => kZ hk4 (hc0 j u hj hu))); clear hc0 hgl; have kz := kT hk (kA w3 (.cells #[an, aw, ao, ad, ax, ap, ac, .slice (some ⟨ga, 0, none⟩) al ak] 92)); have K3 := hD (kT K2.out kz); have R30 := hD (rZ kz R0.out); have R31 := hD (rZ kz R1.out); have RA3 := hD (mH w3 (.cells #[an, aw, ao, ad, ax, ap, ac, .slice (some ⟨ga, 0, none⟩) al ak] 92)); obtain ⟨i0, i1, i2, i3, i4, i5, i6, i7, i8⟩ := cells9 R30.out; obtain ⟨j0, j1, j2⟩ := cellsR3 R31.out; obtain ⟨k0, k1, k2, k3, k4, k5, k6, k7⟩ := c8X RA3.out; have f3 := frozN R31.out; clear hk kz) | (go_at_call 61; (with_reducible refine (HNU.out _ (kA w3 _)).mono ?_); rintro e' w4 ⟨rfl, hk⟩; have kz := kT hk (kA w4 (.cells #[rn, rp, rq, re, rs, rh, an, aw, ao, ad, ax, ap, ac, .slice (some ⟨ga, 0, none⟩) al ak, mr] 137)); have K4 := hD (kT K3.out kz); have R40 := hD (rZ kz R30.out); have R41 := hD (rZ kz R31.out); have RL4 := hD (mH w4 (.cells #[rn, rp, rq, re, rs, rh, an, aw, ao, ad, ax, ap, ac, .slice (some ⟨ga, 0, none⟩) al ak, mr] 137)); obtain ⟨l0, l1, l2, l3, l4, l5, l6, l7, l8⟩ := cells9 R40.out; obtain ⟨n0, n1, n2⟩ := cellsR3 R41.out; obtain ⟨o0, o1, o2, o3, o4, o5, o6, o7, o8, o9, o10, o11, o12, o13, o14⟩ := cells15 RL4.out; have f4 := frozN R41.out; clear hk kz) | (go_at_call 131; (with_reducible refine (HSP.out _ _ _).mono ?_); rintro e' w5 ⟨rfl, hk⟩; have K5 := hD (kT K4.out hk); have R50 := hD (rZ hk R40.out); have R51 := hD (rZ hk R41.out); have RL5 := hD (rZ hk RL4.out); obtain ⟨p0, p1, p2, p3, p4, p5, p6, p7, p8⟩ := cells9 R50.out; obtain ⟨q0, q1, q2⟩ := cellsR3 R51.out; obtain ⟨u0, u1, u2, u3, u4, u5, u6, u7, u8, u9, u10, u11, u12, u13, u14⟩ := cells15 RL5.out; have f5 := frozN R51.out; clear hk) | (go_at_call 134; (with_reducible refine (HTD.out _ K5.out _ _).mono ?_); rintro e' w9 ⟨fa, fc, la, lc, rfl, of, om, hk⟩; have OF := hD (bG of (kS K5.out)); have OM := hD (bG om (kS K5.out)); have K9 := hD (kT K5.out hk); have R9 := hD (rZ hk R51.out); obtain ⟨v0, v1, v2⟩ := cellsR3 R9.out; have f9 := frozN R9.out; clear hk of om))
   refine bodyPost_ret (results_cell_row (p := 4) rfl _ _ (w.heap.size + 1) 37 _ (0, 0) _ rfl (setR3 _ _ _ R9.out) Tryz.underlying37 rfl (by kernel_rfl)) rfl ?_
   refine ⟨_, rfl, ?_, setR3_kp K9.out (by omega) _ _ _⟩
   have e1 := HWK.out; subst e1; exact RsV.setN R9.out (by decide) (by decide) HLF.out HLM.out OF.out OM.out
variable {w0 w w' W w3 : World} {B q : Nat} {m : StM} {gs : List AcG} {va vp : Value}
theorem cloEndL (yn yp y1 y2 y3 y4 : Int) (w : World) : Calls Tryz.prog 127 #[.agg #[yn, yp, y1, y2, y3, y4]] w fun r w' => r = .returned (.bool (decide (y3 ≠ 14))) ∧ Kp w w' := by
 have d4 : (w.alloc (.cells #[yn, yp, y1, y2, y3, y4] 96)).cell? ⟨w.heap.size, 4, none⟩ = some (.int .i64 y3) := cU (i := 4) (mH w (.cells #[yn, yp, y1, y2, y3, y4] 96)) rfl; have KA := hD (kA w (.cells #[yn, yp, y1, y2, y3, y4] 96))
 by_cases h1 : y3 = 14
 ·subst h1; go_enter Tryz.func127, Tryz.ntmps127; go_wp2; go_ret; exact ⟨rfl, KA.out⟩
 ·rw [dT h1]; have g1 : (y3 == 14) = false := by simpa using h1
  have g2 : (y3 != 14) = true := by simp [h1]
  clear h1; go_enter Tryz.func127, Tryz.ntmps127; go_wp2; go_ret; exact ⟨rfl, KA.out⟩
theorem ixrEndL {a0 : Option Addr} {c0 len : Nat} {xr : List RgM} (ow : w.ownsRow B 96 6 (.slice a0 len c0) len (rgE.row xr)) (hl : xr.length = len) (h8 : len ≤ 8)  :
  Calls Tryz.prog 129 #[.slice a0 len c0, .func (.func 127) #[] #[]] w fun r w' => r = .returned (.int .i64 (placeQ (xr.findIdx? (fun g => decide (g.z.s ≠ 14))))) ∧ Kp w w' := by
 obtain ⟨RS, hRS⟩ : ∃ R, placeQ (xr.findIdx? (fun g => decide (g.z.s ≠ 14))) = R := ⟨_, rfl⟩
 rw [hRS]; have HRS := hD hRS; obtain ⟨L, hL⟩ : ∃ L : Int, (len : Int) = L := ⟨_, rfl⟩
 obtain ⟨HL, H8, HO⟩ := hD3 hl h8 ow; clear hRS ow hl h8 ; go_enter Tryz.func129, Tryz.ntmps129; go_wp2; go_loopw [8] (fun i wr => ∃ j : Nat, j ≤ len ∧ i = .int .i64 j ∧ (∀ k (hk : k < xr.length), k < j → ¬ (fun g : RgM => g.z.s ≠ 14) xr[k]) ∧ Kp w wr) (fun i _ => len - (intOf i).toNat)
 case atStart => exact ⟨0, Nat.zero_le _, rfl, fun k _ h => by omega, Kp.refl _⟩
 case round =>
  obtain ⟨j, hj, rfl, hq, hk⟩ := hrel; obtain ⟨KR, HQ⟩ := hD2 hk hq; obtain ⟨jj, hjj⟩ : ∃ jj : Int, (j : Int) = jj := ⟨_, rfl⟩
  rw [hjj]; have HJ := hD hjj
  by_cases hlt : j < len
  ·have hjl : jj < L := by omega
   have hj0 : 0 ≤ jj := by omega
   have hL8 : L ≤ 8 := by have := H8.out; omega
   have htn : jj.toNat = j := by omega
   have hjo : j < xr.length := by have := HL.out; omega
   obtain ⟨gr, ck, exb, hck, hgrB, hgrl, hfzr, hcr⟩ := cQ (E := rgE) (oK HO.out hk) HL.out hlt; obtain ⟨⟨yn, yp, ⟨y1, y2, y3, y4⟩⟩, hy⟩ : ∃ r, xr[j]'hjo = r := ⟨_, rfl⟩
   have hcr2 : ∀ (i : Nat) (u : Value), i < rgE.k → (rgE.enc (xr[j]'hjo))[i]? = some u → wr.cell? ⟨gr, j * rgE.k + i, none⟩ = some u := hcr; rw [hy, show rgE.k = 6 from rfl, ← htn] at hcr2; have exb := congrArg (fun v => match v with | Value.slice a _ _ => a | _ => none) exb; dsimp only at exb; subst exb; obtain ⟨c0, c1, c2, c3, c4, c5⟩ := cW6 hcr2; have HCL := hD (cloEndL yn yp y1 y2 y3 y4 wr); obtain ⟨HLT, HY⟩ := hD2 hlt hy
   by_cases he : y3 ≠ 14
   ·have HF : Hid (placeQ (xr.findIdx? (fun g => decide (g.z.s ≠ 14))) = jj) := hD (by
     rw [fi_at (p := (fun g : RgM => decide (g.z.s ≠ 14))) hjo (fun i hi hij => dF (hq i hi hij)) (by show decide _ = true; rw [hy]; exact dT he)]; exact hjj)
    have hd : decide (y3 ≠ 14) = true := dT he; rw [hd] at HCL; clear hcr hcr2 hy hk hq hjj hj hlt he htn hd hck hgrB hgrl hfzr; go_wp2_with (go_at_call 127; (with_reducible refine HCL.out.mono ?_); rintro e' w5 ⟨rfl, hk5⟩; have K5 := hD (kT KR.out hk5); clear hk5)
    go_ret; refine ⟨?_, K5.out⟩
    rw [← HRS.out, HF.out]
    rfl
   ·have HE := hD he; have hd : decide (y3 ≠ 14) = false := dF he; rw [hd] at HCL; have hw1 : wrap64 (jj + 1) = jj + 1 := IntWalk.wrap64_in _ (by omega); clear hcr hcr2 hy hk hq hjj hj hlt he htn hd hck hgrB hgrl hfzr; go_wp2_with (go_at_call 127; (with_reducible refine HCL.out.mono ?_); rintro e' w5 ⟨rfl, hk5⟩; have K5 := hD (kT KR.out hk5); clear hk5)
    go_roundw
    case rel => exact ⟨j + 1, by have := HLT.out; omega, by have := HJ.out; rw [show ((j + 1 : Nat) : Int) = jj + 1 by omega], fun k hk hk2 => by
     rcases Nat.lt_or_eq_of_le (Nat.le_of_lt_succ hk2) with g | rfl
     ·exact HQ.out k hk g
     ·rw [HY.out]; exact HE.out, K5.out⟩
    case measure => have := HJ.out; have := HLT.out; simp [intOf]; omega
  ·have hje : ¬ jj < L := by omega
   have HN := hD (fi_no (p := (fun g : RgM => decide (g.z.s ≠ 14))) (l := xr) (fun i hi => dF (hq i hi (by have := HL.out; omega)))); clear hk hq hjj hj hlt; go_wp2; go_ret; refine ⟨?_, KR.out⟩
   rw [← HRS.out, HN.out]
   rfl
theorem cloSay (yn yp y1 y2 y3 y4 : Int) (mk mf mt mn ms mr mp mo mc : Int) {bf : Nat} (rf : w.heap[bf]? = some (.cells #[mk, mf, mt, mn, ms, mr, mp, mo, mc] 63)) : Calls Tryz.prog 130 #[.agg #[yn, yp, y1, y2, y3, y4], .pointer (some ⟨bf, 0, none⟩)] w fun r w' => r = .returned (.bool (decide (yn = mf ∧ yp = mp))) ∧ Kp w w' := by
 obtain ⟨d0, d1, d2, d3, d4, d5⟩ := cells_6Q (mH w (.cells #[yn, yp, y1, y2, y3, y4] 96)); obtain ⟨c0, c1, c2, c3, c4, c5, c6, c7, c8⟩ := cells9 (rZ (kA w (.cells #[yn, yp, y1, y2, y3, y4] 96)) rf); have KA := hD (kA w (.cells #[yn, yp, y1, y2, y3, y4] 96)); obtain ⟨tb, htb⟩ : ∃ b, decide (yn = mf ∧ yp = mp) = b := ⟨_, rfl⟩
 have HS := hD (fun w => lSpeaks (w := w) yn yp y1 y2 y3 y4 0 0 0 0 0 0 0 none 0 0 0 mk mf mt mn ms mr mp mo mc tb htb); rw [htb]; clear rf htb; go_enter Tryz.func130, Tryz.ntmps130; go_wp2_with (go_at_call 131; (with_reducible refine (HS.out _).mono ?_); rintro e' w5 ⟨rfl, hk5⟩; have K5 := hD (kT KA.out hk5); clear hk5)
 go_ret; exact ⟨rfl, K5.out⟩
theorem ixrSay {a0 : Option Addr} {c0 len : Nat} {xr : List RgM} (ow : w.ownsRow B 96 6 (.slice a0 len c0) len (rgE.row xr)) (hl : xr.length = len) (h8 : len ≤ 8) (mk mf mt mn ms mr mp mo mc : Int) {bf : Nat} (rf : w.heap[bf]? = some (.cells #[mk, mf, mt, mn, ms, mr, mp, mo, mc] 63)) :
  Calls Tryz.prog 129 #[.slice a0 len c0, .func (.func 130) #[] #[.pointer (some ⟨bf, 0, none⟩)]] w fun r w' => r = .returned (.int .i64 (placeQ (xr.findIdx? (fun g => decide (g.node = mf ∧ g.part = mp))))) ∧ Kp w w' := by
 obtain ⟨RS, hRS⟩ : ∃ R, placeQ (xr.findIdx? (fun g => decide (g.node = mf ∧ g.part = mp))) = R := ⟨_, rfl⟩
 rw [hRS]; have HRS := hD hRS; obtain ⟨L, hL⟩ : ∃ L : Int, (len : Int) = L := ⟨_, rfl⟩
 obtain ⟨HL, H8, HO, RF⟩ := hD4 hl h8 ow rf; clear hRS ow hl h8 rf; go_enter Tryz.func129, Tryz.ntmps129; go_wp2; go_loopw [8] (fun i wr => ∃ j : Nat, j ≤ len ∧ i = .int .i64 j ∧ (∀ k (hk : k < xr.length), k < j → ¬ (fun g : RgM => g.node = mf ∧ g.part = mp) xr[k]) ∧ Kp w wr) (fun i _ => len - (intOf i).toNat)
 case atStart => exact ⟨0, Nat.zero_le _, rfl, fun k _ h => by omega, Kp.refl _⟩
 case round =>
  obtain ⟨j, hj, rfl, hq, hk⟩ := hrel; obtain ⟨KR, HQ⟩ := hD2 hk hq; obtain ⟨jj, hjj⟩ : ∃ jj : Int, (j : Int) = jj := ⟨_, rfl⟩
  rw [hjj]; have HJ := hD hjj
  by_cases hlt : j < len
  ·have hjl : jj < L := by omega
   have hj0 : 0 ≤ jj := by omega
   have hL8 : L ≤ 8 := by have := H8.out; omega
   have htn : jj.toNat = j := by omega
   have hjo : j < xr.length := by have := HL.out; omega
   obtain ⟨gr, ck, exb, hck, hgrB, hgrl, hfzr, hcr⟩ := cQ (E := rgE) (oK HO.out hk) HL.out hlt; obtain ⟨⟨yn, yp, ⟨y1, y2, y3, y4⟩⟩, hy⟩ : ∃ r, xr[j]'hjo = r := ⟨_, rfl⟩
   have hcr2 : ∀ (i : Nat) (u : Value), i < rgE.k → (rgE.enc (xr[j]'hjo))[i]? = some u → wr.cell? ⟨gr, j * rgE.k + i, none⟩ = some u := hcr; rw [hy, show rgE.k = 6 from rfl, ← htn] at hcr2; have exb := congrArg (fun v => match v with | Value.slice a _ _ => a | _ => none) exb; dsimp only at exb; subst exb; obtain ⟨c0, c1, c2, c3, c4, c5⟩ := cW6 hcr2; have HCL := hD (cloSay yn yp y1 y2 y3 y4 mk mf mt mn ms mr mp mo mc (rZ hk RF.out)); obtain ⟨HLT, HY⟩ := hD2 hlt hy
   by_cases he : yn = mf ∧ yp = mp
   ·have HF : Hid (placeQ (xr.findIdx? (fun g => decide (g.node = mf ∧ g.part = mp))) = jj) := hD (by
     rw [fi_at (p := (fun g : RgM => decide (g.node = mf ∧ g.part = mp))) hjo (fun i hi hij => dF (hq i hi hij)) (by show decide _ = true; rw [hy]; exact dT he)]; exact hjj)
    have hd : decide (yn = mf ∧ yp = mp) = true := dT he; rw [hd] at HCL; clear hcr hcr2 hy hk hq hjj hj hlt he htn hd hck hgrB hgrl hfzr; go_wp2_with (go_at_call 130; (with_reducible refine HCL.out.mono ?_); rintro e' w5 ⟨rfl, hk5⟩; have K5 := hD (kT KR.out hk5); clear hk5)
    go_ret; refine ⟨?_, K5.out⟩
    rw [← HRS.out, HF.out]
    rfl
   ·have HE := hD he; have hd : decide (yn = mf ∧ yp = mp) = false := dF he; rw [hd] at HCL; have hw1 : wrap64 (jj + 1) = jj + 1 := IntWalk.wrap64_in _ (by omega); clear hcr hcr2 hy hk hq hjj hj hlt he htn hd hck hgrB hgrl hfzr; go_wp2_with (go_at_call 130; (with_reducible refine HCL.out.mono ?_); rintro e' w5 ⟨rfl, hk5⟩; have K5 := hD (kT KR.out hk5); clear hk5)
    go_roundw
    case rel => exact ⟨j + 1, by have := HLT.out; omega, by have := HJ.out; rw [show ((j + 1 : Nat) : Int) = jj + 1 by omega], fun k hk hk2 => by
     rcases Nat.lt_or_eq_of_le (Nat.le_of_lt_succ hk2) with g | rfl
     ·exact HQ.out k hk g
     ·rw [HY.out]; exact HE.out, K5.out⟩
    case measure => have := HJ.out; have := HLT.out; simp [intOf]; omega
  ·have hje : ¬ jj < L := by omega
   have HN := hD (fi_no (p := (fun g : RgM => decide (g.node = mf ∧ g.part = mp))) (l := xr) (fun i hi => dF (hq i hi (by have := HL.out; omega)))); clear hk hq hjj hj hlt; go_wp2; go_ret; refine ⟨?_, KR.out⟩
   rw [← HRS.out, HN.out]
   rfl
end Go.Proofs.YtlmlmhmhgdjhnaaGreatDoor
