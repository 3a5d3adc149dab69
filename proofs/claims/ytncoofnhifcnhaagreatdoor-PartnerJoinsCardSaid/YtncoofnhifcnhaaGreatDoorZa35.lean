/- Parts of this proof (own work). -/
import Derived.Test.YtncoofnhifcnhaaGreatDoorZa34
set_option maxRecDepth 100000
set_option maxHeartbeats 40000000
namespace Go.Proofs.YtncoofnhifcnhaaGreatDoor
open Go.RowKit Go.ChangeShapes Go.WideShapes
variable {w0 w w' W w3 : World} {B q : Nat} {m : StM} {ads : List Addr}
def JPost (ads : List Addr) (j : Int × RsM) (w : World) (e : Ending) (w' : World) : Prop :=
 ((j.1 = 0 ∧ ∃ pa0 n0 k0 pa1 n1 k1, ∃ x2 : Int, e = .returned (.agg #[.slice pa0 n0 k0, .slice pa1 n1 k1, x2]) ∧ RsV 73 w.heap.size j.2 (.agg #[.slice pa0 n0 k0, .slice pa1 n1 k1, x2]) w') ∨
  (∃ (k : Nat) (hk : k < ads.length), j = ((k : Int) + 1, rs0) ∧ e = .panicked [{ v := snt (ads[k]'hk), recovered := false }])) ∧ Kp w w'
theorem JPost.err {j j' : Int × RsM} {k : Nat} {a : Addr} (h : j' = j) (h2 : j = ((k : Int) + 1, rs0)) (ha : ∃ hk : k < ads.length, ads[k]'hk = a) (hk : Kp w w') : JPost ads j' w (.panicked [{ v := snt a, recovered := false }]) w' := by
 obtain ⟨h3, rfl⟩ := ha; subst h; exact ⟨.inr ⟨k, h3, h2, rfl⟩, hk⟩
theorem JPost.ok {j j' : Int × RsM} {r : RsM} {a0 a1 : Option Addr} {n0 n1 c0 c1 : Nat} {x : Int} (h : j' = j) (h2 : j = (0, r)) (hr : RsV 73 w.heap.size r (.agg #[.slice a0 n0 c0, .slice a1 n1 c1, x]) w') (hk : Kp w w') : JPost ads j' w (.returned (.agg #[.slice a0 n0 c0, .slice a1 n1 c1, x])) w' := by
 subst h; subst h2; exact ⟨.inl ⟨rfl, _, _, _, _, _, _, _, rfl, hr⟩, hk⟩
theorem joinP_err {m : StM} {c : CX} {p er : Int} {now : Nat} {J : RsM} (h : joinP m c p now = (er, J)) (he : er ≠ 0) : ∃ k : Nat, k < 14 ∧ (er, J) = ((k : Int) + 1, rs0) := by
 rw [← h]; unfold joinP at h ⊢
 split at h
 ·rename_i h1
  rw [if_pos h1]; exact ⟨3, by decide, rfl⟩
 ·rename_i h1
  rw [if_neg h1]
  split at h
  ·rename_i h2
   rw [if_pos h2]; exact ⟨11, by decide, rfl⟩
  ·rename_i h2
   rw [if_neg h2]
   split at h
   ·rename_i h3
    rw [if_pos h3]; exact ⟨5, by decide, rfl⟩
   ·exact absurd (congrArg Prod.fst h).symm he
theorem SL.partsQ (h : SL B q m w) (ok : OkS m) (np : Nat) (hnp : m.parts.length = np) : Calls Tryz.prog 25 #[.pointer (some ⟨q, 0, none⟩)] w fun r w' => ∃ (a2 : Option Addr) (c2 : Nat), r = .returned (.slice a2 np c2) ∧ Kp w w' := by
 obtain ⟨gs, va, vp, H⟩ := h; refine (same_parts H ok np hnp).mono ?_
 rintro e w2 ⟨a2, c2, rfl, _, hk⟩; exact ⟨a2, c2, rfl, hk⟩
theorem pJoin1 (V : St ads w) (T : Tab w) (TC : TabC ads w) (h : SL B q m w) (ok : OkS m) (cn cs co cd p : Int) (cx now : Nat) (hcx : cx < 18446744073709551616) (hnow : now < 18446744073709551616) (ip : i64M p) {bc bp bn bs : Nat} (hc : w.heap[bc]? = some (.cells #[cn, cs, co, cd, cx] 60)) (hp : w.cell? ⟨bp, 0, none⟩ = some (.int .i64 p)) (hn : w.cell? ⟨bn, 0, none⟩ = some (.float .f64 now)) (hs : w.cell? ⟨bs, 0, none⟩ = some (.pointer (some ⟨q, 0, none⟩))) :
  Calls Tryz.prog 54 #[.pointer (some ⟨bc, 0, none⟩), .pointer (some ⟨bp, 0, none⟩), .pointer (some ⟨bn, 0, none⟩), .pointer (some ⟨bs, 0, none⟩)] w fun e w' => JPost ads (joinP m ⟨cn, cs, co, cd, cx⟩ p now) w e w' := by
 have h14 : ads.length = 14 := V.len; have h3 : 3 < ads.length := by omega
 have h5 : 5 < ads.length := by omega
 have h11 : 11 < ads.length := by omega
 obtain ⟨a3, ha3⟩ : ∃ a, ads[3]'h3 = a := ⟨_, rfl⟩
 obtain ⟨a5, ha5⟩ : ∃ a, ads[5]'h5 = a := ⟨_, rfl⟩
 obtain ⟨a11, ha11⟩ : ∃ a, ads[11]'h11 = a := ⟨_, rfl⟩
 have C3 := hD (show w.cell? ⟨5, 0, none⟩ = some (snt a3) by rw [← ha3]; exact V.cell 3 (by decide)); have C5 := hD (show w.cell? ⟨7, 0, none⟩ = some (snt a5) by rw [← ha5]; exact V.cell 5 (by decide)); have C11 := hD (show w.cell? ⟨11, 0, none⟩ = some (snt a11) by rw [← ha11]; exact V.cell 11 (by decide)); obtain ⟨HA3, HA5, HA11⟩ := hD3 ha3 ha5 ha11; obtain ⟨J, hJ0⟩ : ∃ j, joinP m ⟨cn, cs, co, cd, cx⟩ p now = j := ⟨_, rfl⟩
 have HJJ := hD hJ0; rw [hJ0]; obtain ⟨np, hnp⟩ : ∃ n, m.parts.length = n := ⟨_, rfl⟩
 obtain ⟨N, hN⟩ : ∃ N : Int, (np : Int) = N := ⟨_, rfl⟩
 obtain ⟨nd, hnd⟩ : ∃ n, m.node = n := ⟨_, rfl⟩
 have hri := fun w1 (hk : Kp w w1) => scoRight_any ads ⟨cn, cs, co, cd, cx⟩ hcx w1 (V.below hk) (T.kp hk)
 have hop := fun w1 (hk : Kp w w1) => scoOpen_any ads ⟨cn, cs, co, cd, cx⟩ now hcx hnow w1 (V.below hk) (T.kp hk)
 have hnw := fun w1 (hk : Kp w w1) => msNew_any (ads := ads) p 2 ip (by decide) w1 (TC.kp hk) (kZ hk ((ep_of_st (S := [13]) V (by decide)).cell 13 (by decide)))
 have hno := fun w1 (hk : Kp w w1) => (h.kp hk).nodeOf
 rw [hnd] at hno; have HPA := hD (fun w1 (hk : Kp w w1) => SL.partsQ (h.kp hk) ok np hnp); obtain ⟨tr, htr⟩ : ∃ x, rightX ⟨cn, cs, co, cd, cx⟩ = x := ⟨_, rfl⟩
 obtain ⟨t1, ht1⟩ : ∃ x, openX ⟨cn, cs, co, cd, cx⟩ now = x := ⟨_, rfl⟩
 rw [htr] at hri; rw [ht1] at hop; obtain ⟨HTQ, HTO⟩ := hD2 htr ht1; dsimp only [CX.cells] at hri hop; obtain ⟨HRI, HOP, HNO, HC, HP, HN⟩ := hD6 hri hop hno hc hp hn; have HS := hD hs; have KZ0 := hD (kA w (.cells #[.slice none 0 0, .slice none 0 0, (0:Int)] 34)); obtain ⟨HNPP, HNN, HND⟩ := hD3 hnp hN hnd; have RZ0 := hD (mH w (.cells #[.slice none 0 0, .slice none 0 0, (0:Int)] 34)); have HJO := hD (fun w => kJoins (w := w) cn cs (-1) p 2 1 0 nd N); have HRG := hD (fun w => kRegister (w := w) cn cs (-1) p 2 1 0 nd N); have hsf := sF; clear V T TC h ok hcx hnow ip hc hp hn hs ha3 ha5 ha11 hJ0 hri hop hno hnp hnd htr ht1 h14; go_enter Tryz.func54, Tryz.ntmps54; go_wp2_with fail
 obtain ⟨D1, hDl⟩ : ∃ x, (w.alloc (.cells #[.slice none 0 0, .slice none 0 0, (0:Int)] 34)).drew = x := ⟨_, rfl⟩
 have kd : Kp (w.alloc (.cells #[.slice none 0 0, .slice none 0 0, (0:Int)] 34)) D1 := by rw [← hDl]; exact dQ (Kp.refl _)
 have HD1 := hD hDl; have KD1 := hD (kT KZ0.out kd); have RZ1 := hD (rZ kd RZ0.out); clear hDl; refine rgW (fun w' => Kp w w') ?_ fun hH => ?_
 ·exact by rw [HD1.out]; exact KD1.out
 rw [HD1.out] at hH ⊢; clear kd; refine tkP 0 ?_ (y := by intro w hZ; obtain ⟨z0, z1, z2, z3, z4⟩ := cells5 (rZ hZ HC.out); go_simp; try rfl)
 go_simp; refine tkP 2 ?_ (y := by intro w hZ; have g3 := kZ hZ C3.out; go_simp; try rfl)
 go_simp; refine rdW 1 fun K hK => ?_
 go_simp; go_wp2_with (go_at_call 56; (with_reducible refine (HRI.out _ hH).mono ?_); rintro e' wA ⟨rfl, hk3⟩)
 refine hK.out _ _ (kT hH hk3) fun hH => ?_
 clear hK K; have RZ2 := hD (rZ hk3 RZ1.out); clear hk3; refine rdW 3 fun K hK => ?_
 cases hq : tr
 ·go_simp; have HQ := hD hq; have hJ : J = (((3 : Nat) : Int) + 1, rs0) := by rw [← HJJ.out]; unfold joinP; exact if_pos (.inl (HTQ.out.trans HQ.out))
  go_wp2_with (go_at_call 55; (with_reducible refine (pdemand_f _ _).mono ?_); rintro e' w' ⟨rfl, rfl⟩)
  exact ⟨rfl, JPost.err rfl hJ ⟨h3, HA3.out⟩ hH⟩
 go_simp; go_wp2_with (go_at_call 55; (with_reducible refine (pdemand_t _ _).mono ?_); rintro e' w' ⟨rfl, rfl⟩)
 refine hK.out _ _ (hH) fun hH => ?_
 clear hK K; have HQ := hD hq; clear hq; refine dnW ?_ _
 have KA := hD hH; clear hH; have HTR := hD (HTQ.out.trans HQ.out); clear HQ
 by_cases hp : p = 1 ∨ p = 2
 rotate_left
 ·rw [show rightT p 2 = false by unfold rightT; exact dF (fun e => hp e.1)] at hnw; rw [show newS p 2 = ⟨0, 0, 0, 0⟩ by unfold newS; rw [if_neg (by unfold rightT; simp [hp])]] at hnw; rw [if_neg (by decide)] at hnw; obtain ⟨qe, hqe⟩ := errI_some14 ads 14 (by decide); rw [hqe] at hnw; dsimp only [seatV] at hnw; obtain ⟨HNW, HPR⟩ := hD2 hnw hp; have pc := kZ KA.out HP.out; clear hnw hqe hp; go_wp2_with (go_at_call 57; (with_reducible refine (HNW.out _ KA.out).mono ?_); rintro e' wN ⟨rfl, hkn⟩; have KB := hD (kT KA.out (kT hkn (kA wN (.cells #[(0:Int), (0:Int), (0:Int), (0:Int)] 69)))); have RS := hD (mH wN (.cells #[(0:Int), (0:Int), (0:Int), (0:Int)] 69)); have RZ3 := hD (rZ (kT hkn (kA wN (.cells #[(0:Int), (0:Int), (0:Int), (0:Int)] 69))) RZ2.out); clear hkn)
  obtain ⟨D3, hDl⟩ : ∃ x, (wN.alloc (.cells #[(0:Int), (0:Int), (0:Int), (0:Int)] 69)).drew = x := ⟨_, rfl⟩
  have kd : Kp (wN.alloc (.cells #[(0:Int), (0:Int), (0:Int), (0:Int)] 69)) D3 := by rw [← hDl]; exact dQ (Kp.refl _)
  have HD3 := hD hDl; have KD3 := hD (kT KB.out kd); clear hDl; refine rgW (fun w' => Kp w w') ?_ fun hH => ?_
  ·exact by rw [HD3.out]; exact KD3.out
  rw [HD3.out] at hH ⊢; clear kd; refine tkP 0 ?_
  go_simp; refine tkP 1 ?_
  go_simp; refine tkP 2 ?_ (y := by intro w hZ; have g3 := kZ hZ C3.out; go_simp; try rfl)
  go_simp; refine rdW 3 fun K hK => ?_
  go_simp; have hJ : J = (((3 : Nat) : Int) + 1, rs0) := by rw [← HJJ.out]; unfold joinP; exact if_pos (.inr HPR.out)
  go_wp2_with (go_at_call 55; (with_reducible refine (pdemand_f _ _).mono ?_); rintro e' w' ⟨rfl, rfl⟩)
  exact ⟨rfl, JPost.err rfl hJ ⟨h3, HA3.out⟩ hH⟩
 rw [show rightT p 2 = true by unfold rightT; exact dT ⟨hp, .inr rfl⟩] at hnw; rw [show newS p 2 = ⟨p, 2, 1, 0⟩ by unfold newS; rw [if_pos (by unfold rightT; exact dT ⟨hp, .inr rfl⟩)]] at hnw; rw [if_pos rfl, eN] at hnw; dsimp only [seatV] at hnw; obtain ⟨HNW, HPR⟩ := hD2 hnw hp; have pc := kZ KA.out HP.out; clear hnw hp; go_wp2_with (go_at_call 57; (with_reducible refine (HNW.out _ KA.out).mono ?_); rintro e' wN ⟨rfl, hkn⟩; have KB := hD (kT KA.out (kT hkn (kA wN (.cells #[p, (2:Int), (1:Int), (0:Int)] 69)))); have RS := hD (mH wN (.cells #[p, (2:Int), (1:Int), (0:Int)] 69)); have RZ3 := hD (rZ (kT hkn (kA wN (.cells #[p, (2:Int), (1:Int), (0:Int)] 69))) RZ2.out); clear hkn)
 obtain ⟨D3, hDl⟩ : ∃ x, (wN.alloc (.cells #[p, (2:Int), (1:Int), (0:Int)] 69)).drew = x := ⟨_, rfl⟩
 have kd : Kp (wN.alloc (.cells #[p, (2:Int), (1:Int), (0:Int)] 69)) D3 := by rw [← hDl]; exact dQ (Kp.refl _)
 have HD3 := hD hDl; have KD3 := hD (kT KB.out kd); have RZ4 := hD (rZ kd RZ3.out); have RS3 := hD (rZ kd RS.out); clear hDl; refine rgW (fun w' => Kp w w') ?_ fun hH => ?_
 ·exact by rw [HD3.out]; exact KD3.out
 rw [HD3.out] at hH ⊢; clear kd; refine tkP 0 ?_
 go_simp; refine tkP 1 ?_
 go_simp; refine tkP 2 ?_ (y := by intro w hZ; have g3 := kZ hZ C3.out; go_simp; try rfl)
 go_simp; refine rdW 3 fun K hK => ?_
 go_simp; go_wp2_with (go_at_call 55; (with_reducible refine (pdemand_t _ _).mono ?_); rintro e' w' ⟨rfl, rfl⟩)
 refine hK.out _ _ (hH) fun hH => ?_
 clear hK K; refine dnW ?_ _
 have KC := hD hH; clear hH; go_wp2_with fail
 obtain ⟨D4, hDl⟩ : ∃ x, (D3).drew = x := ⟨_, rfl⟩
 have kd : Kp (D3) D4 := by rw [← hDl]; exact dQ (Kp.refl _)
 have HD4 := hD hDl; have KD4 := hD (kT KC.out kd); have RZ5 := hD (rZ kd RZ4.out); have RS4 := hD (rZ kd RS3.out); clear hDl; refine rgW (fun w' => Kp w w') ?_ fun hH => ?_
 ·exact by rw [HD4.out]; exact KD4.out
 rw [HD4.out] at hH ⊢; clear kd; refine tkP 0 ?_ (y := by intro w hZ; obtain ⟨z0, z1, z2, z3, z4⟩ := cells5 (rZ hZ HC.out); go_simp; try rfl)
 go_simp; refine tkP 1 ?_ (y := by intro w hZ; have n9 := kZ hZ HN.out; go_simp; try rfl)
 go_simp; refine tkP 3 ?_ (y := by intro w hZ; have g11 := kZ hZ C11.out; go_simp; try rfl)
 go_simp; refine rdW 2 fun K hK => ?_
 go_simp; go_wp2_with (go_at_call 58; (with_reducible refine (HOP.out _ hH).mono ?_); rintro e' wB ⟨rfl, hk3⟩)
 refine hK.out _ _ (kT hH hk3) fun hH => ?_
 clear hK K; have RZ6 := hD (rZ hk3 RZ5.out); have RS5 := hD (rZ hk3 RS4.out); clear hk3; refine rdW 4 fun K hK => ?_
 cases hq : t1
 ·go_simp; have HQ := hD hq; have hJ : J = (((11 : Nat) : Int) + 1, rs0) := by rw [← HJJ.out]; unfold joinP; rw [if_neg (fun h => h.elim (fun h => by rw [HTR.out] at h; cases h) (fun h => h HPR.out))]; exact if_pos (HTO.out.trans HQ.out)
  go_wp2_with (go_at_call 55; (with_reducible refine (pdemand_f _ _).mono ?_); rintro e' w' ⟨rfl, rfl⟩)
  exact ⟨rfl, JPost.err rfl hJ ⟨h11, HA11.out⟩ hH⟩
 go_simp; go_wp2_with (go_at_call 55; (with_reducible refine (pdemand_t _ _).mono ?_); rintro e' w' ⟨rfl, rfl⟩)
 refine hK.out _ _ (hH) fun hH => ?_
 clear hK K; have HQ := hD hq; clear hq; refine dnW ?_ _
 have KE := hD hH; clear hH; have HT1 := hD (HTO.out.trans HQ.out); clear HQ
 by_cases h7 : 7 < np
 ·have d7 : decide (N < 8) = false := dF (by have := HNN.out; omega); have hJ : J = (((5 : Nat) : Int) + 1, rs0) := by rw [← HJJ.out]; unfold joinP; rw [if_neg (fun h => h.elim (fun h => by rw [HTR.out] at h; cases h) (fun h => h HPR.out))]; rw [if_neg (fun h => by rw [HT1.out] at h; cases h)]; exact if_pos (by rw [HNPP.out]; exact h7)
  have sc := kZ KE.out HS.out; clear h7; go_wp2_with (first | (go_at_call 25; (with_reducible refine (HPA.out _ KE.out).mono ?_); rintro e' wP ⟨a7, c7, rfl, hk⟩; have KP := hD (kT KE.out hk); have RZ7a := hD (rZ hk RZ6.out); have RS6 := hD (rZ hk RS5.out); have cg5 := kZ KP.out C5.out; clear hk) | (go_at_call 55; (with_reducible refine (pdemand_f _ _).mono ?_); rintro e' w' ⟨rfl, rfl⟩))
  exact ⟨rfl, JPost.err rfl hJ ⟨h5, HA5.out⟩ KP.out⟩
 ·have d7 : decide (N < 8) = true := dT (by have := HNN.out; omega); have hJ : J = (0, ⟨[(⟨6, cn, cs, 0, 0, N, p, 0, 0, 0, 0, 0, 0, 0⟩ : FX)], [(⟨17, nd, cn, cn, cs, 0, N, p, 0⟩ : MM)], 0⟩) := by
   rw [← HJJ.out]; unfold joinP; rw [if_neg (fun h => h.elim (fun h => by rw [HTR.out] at h; cases h) (fun h => h HPR.out))]; rw [if_neg (fun h => by rw [HT1.out] at h; cases h), if_neg (by rw [HNPP.out]; exact h7), HNPP.out, HND.out, HNN.out]
  have sc := kZ KE.out HS.out; clear h7; go_wp2_with (first | (go_at_call 25; (with_reducible refine (HPA.out _ KE.out).mono ?_); rintro e' wP ⟨a7, c7, rfl, hk⟩; have KP := hD (kT KE.out hk); have RZ7a := hD (rZ hk RZ6.out); have RS6 := hD (rZ hk RS5.out); have cg5 := kZ KP.out C5.out; clear hk) | (go_at_call 55; (with_reducible refine (pdemand_t _ _).mono ?_); rintro e' w' ⟨rfl, rfl⟩))
  obtain ⟨D7, hDl⟩ : ∃ x, (wP).drew = x := ⟨_, rfl⟩
  have kd : Kp (wP) D7 := by rw [← hDl]; exact dQ (Kp.refl _)
  have HD7 := hD hDl; have KD7 := hD (kT KP.out kd); have RZ7 := hD (rZ kd RZ7a.out); have RS7 := hD (rZ kd RS6.out); clear hDl; refine rgW (fun w' => w'.heap[wN.heap.size]? = some (.cells #[p, (2:Int), (1:Int), (0:Int)] 69) ∧ Kp w w') ?_ fun hH => ?_
  ·exact by rw [HD7.out]; exact ⟨RS7.out, KD7.out⟩
  rw [HD7.out] at hH ⊢; clear kd; refine tkP 0 ?_
  go_simp; refine tkP 1 ?_ (y := by intro w hZ; obtain ⟨z0, z1, z2, z3, z4⟩ := cells5 (rZ hZ.2 HC.out); go_simp; try rfl)
  go_simp; refine tkP 2 ?_ (y := by intro w hZ; obtain ⟨y0, y1, y2, y3⟩ := cells_4 hZ.1; go_simp; try rfl)
  go_simp; refine tkP 3 ?_
  go_simp; refine tkP 4 ?_ (y := by intro w hZ; have n8 := kZ hZ.2 HS.out; go_simp; try rfl)
  go_simp; refine tkP 6 ?_
  go_simp; refine wpAnyH_ready (rs := [5, 8]) (by kernel_rfl) (by simp) ?_
  refine aC (fun K hK => ?_) (aC (fun K hK => ?_) aN0)
  ·go_simp; go_wp2_with (go_at_call 59; (with_reducible refine (HNO.out _ hH.2).mono ?_); rintro e' w' ⟨rfl, rfl⟩)
   refine hK.out _ _ (hH) fun hH => ?_
   clear hK K; refine tkP 7 ?_
   go_simp; refine rdW 8 fun K hK => ?_
   go_simp; refine hK.out _ _ (⟨rZ (kA _ _) hH.1, kT hH.2 (kA _ _)⟩) fun hH => ?_
   clear hK K; have r8 := (mH D7 (.cells #[(0:Int), (0:Int), (0:Int), (0:Int), (0:Int), (0:Int), (0:Int), (0:Int), (0:Int)] 84))
   obtain ⟨W8, hW8⟩ : ∃ x, D7.alloc (.cells #[(0:Int), (0:Int), (0:Int), (0:Int), (0:Int), (0:Int), (0:Int), (0:Int), (0:Int)] 84) = x := ⟨_, rfl⟩
   have k78 : Kp D7 W8 := by rw [← hW8]; exact kA _ _
   rw [hW8] at r8 hH ⊢; obtain ⟨p8, hp8⟩ : ∃ x, D7.heap.size = x := ⟨_, rfl⟩
   have hb8 : w.heap.size ≤ p8 := by rw [← hp8]; exact kS KD7.out
   have hz8 : w.heap.size ≠ p8 := fun e => by have := oZ RZ7.out; omega
   have hs8 : wN.heap.size ≠ p8 := fun e => by have := oZ RS7.out; omega
   rw [hp8] at r8
   try rw [hp8]
   clear hW8 hp8; refine rdW 9 fun K hK => ?_
   obtain ⟨s0, s1, s2, s3, s4, s5, s6, s7, s8⟩ := cells9 r8; have fz := frozN r8; go_simp; refine hK.out _ _ (⟨(set9_neP hs8 _ _ _ _ _ _ _ _ _).trans hH.1, set9_kp hH.2 hb8 _ _ _ _ _ _ _ _ _⟩) fun hH => ?_
   clear hK K; have RK := (set9 (.int .i64 cn) (.int .i64 cs) (.int .i64 (-1)) (.int .i64 p) (.int .i64 2) (.int .i64 1) (.int .i64 0) (.int .i64 nd) (.int .i64 N) r8)
   have RZ9X := (set9_neP hz8 (.int .i64 cn) (.int .i64 cs) (.int .i64 (-1)) (.int .i64 p) (.int .i64 2) (.int .i64 1) (.int .i64 0) (.int .i64 nd) (.int .i64 N)).trans (rZ k78 RZ7.out); obtain ⟨W9, hW9⟩ : ∃ x, (((((((((W8.setCell ⟨p8, 0, none⟩ (.int .i64 cn)).setCell ⟨p8, 1, none⟩ (.int .i64 cs)).setCell ⟨p8, 2, none⟩ (.int .i64 (-1))).setCell ⟨p8, 3, none⟩ (.int .i64 p)).setCell ⟨p8, 4, none⟩ (.int .i64 2)).setCell ⟨p8, 5, none⟩ (.int .i64 1)).setCell ⟨p8, 6, none⟩ (.int .i64 0)).setCell ⟨p8, 7, none⟩ (.int .i64 nd)).setCell ⟨p8, 8, none⟩ (.int .i64 N)) = x := ⟨_, rfl⟩
   rw [hW9] at RK RZ9X hH ⊢; clear hW9 r8 fz s0 s1 s2 s3 s4 s5 s6 s7 s8; refine dnW ?_ _
   have K9 := hD hH.2; have RZ9 := hD (show W9.heap[w.heap.size]? = some (.cells #[.slice none 0 0, .slice none 0 0, (0:Int)] 34) from RZ9X); have HNE8 := hD hz8.symm; clear hH; go_wp2_with fail
   obtain ⟨D8, hDl⟩ : ∃ x, W9.drew = x := ⟨_, rfl⟩
   have kd : Kp W9 D8 := by rw [← hDl]; exact dQ (Kp.refl _)
   have HD8 := hD hDl; have KD8 := hD (kT K9.out kd); have RZ8 := hD (rZ kd RZ9.out); clear hDl; refine rgW (fun w' => w'.heap[p8]? = some (.cells #[cn, cs, .int .i64 (-1), p, (2:Int), (1:Int), (0:Int), nd, N] 84) ∧ Kp w w') ?_ fun hH => ?_
   ·exact by rw [HD8.out]; exact ⟨rZ kd RK, KD8.out⟩
   rw [HD8.out] at hH ⊢; clear kd; refine tkP 0 ?_ (y := by intro w hZ; obtain ⟨y0, y1, y2, y3, y4, y5, y6, y7, y8⟩ := cells9 hZ.1; go_simp; try rfl)
   go_simp; refine tkP 3 ?_ (y := by intro w hZ; obtain ⟨y0, y1, y2, y3, y4, y5, y6, y7, y8⟩ := cells9 hZ.1; go_simp; try rfl)
   go_simp; refine rdW 1 fun K hK => ?_
   go_simp; go_wp2_with (go_at_call 60; (with_reducible refine (HJO.out _).mono ?_); rintro e' V1 ⟨rfl, c1⟩)
   refine hK.out _ _ (⟨rZ c1 hH.1, kT hH.2 c1⟩) fun hH => ?_
   clear hK K; have kc1 := kT (Kp.refl D8) c1; refine wpAnyH_ready (rs := [2, 4]) (by kernel_rfl) (by simp) ?_
   refine aC (fun K hK => ?_) (aC (fun K hK => ?_) aN0)
   ·go_simp; refine hK.out _ _ (⟨rZ (kA _ _) hH.1, kT hH.2 (kA _ _)⟩) fun hH => ?_
    clear hK K; have o2 := own_oneF (t := 73) (w := V1) (B := w.heap.size) (⟨6, cn, cs, 0, 0, N, p, 0, 0, 0, 0, 0, 0, 0⟩ : FX) (kS (kT KD8.out kc1)); obtain ⟨V2, hV⟩ : ∃ x, V1.alloc (.cells #[(6:Int), cn, cs, (0:Int), (0:Int), N, p, (0:Int), (0:Int), (0:Int), (0:Int), (0:Int), (0:Int), .float .f64 0] 73) = x := ⟨_, rfl⟩
    have c2 : Kp V1 V2 := by rw [← hV]; exact kA _ _
    dsimp only [FX.cells, MM.cells] at o2; rw [hV] at o2 hH ⊢; obtain ⟨p2, hp⟩ : ∃ x, V1.heap.size = x := ⟨_, rfl⟩
    rw [hp] at o2
    try rw [hp]
    have kc2 := kT kc1 c2; clear hV hp; refine rdW 4 fun K hK => ?_
    go_simp; go_wp2_with (go_at_call 61; (with_reducible refine (HRG.out _).mono ?_); rintro e' V4 ⟨rfl, c4⟩)
    refine hK.out _ _ (⟨rZ c4 hH.1, kT hH.2 c4⟩) fun hH => ?_
    clear hK K; have kc4 := kT kc2 c4; have o2 := oK o2 c4; refine rdW 5 fun K hK => ?_
    go_simp; refine hK.out _ _ (⟨rZ (kA _ _) hH.1, kT hH.2 (kA _ _)⟩) fun hH => ?_
    clear hK K; have o5 := own_oneM (w := V4) (B := w.heap.size) (⟨17, nd, cn, cn, cs, 0, N, p, 0⟩ : MM) (kS (kT KD8.out kc4)); obtain ⟨V5, hV⟩ : ∃ x, V4.alloc (.cells #[(17:Int), nd, cn, cn, cs, (0:Int), N, p, (0:Int)] 26) = x := ⟨_, rfl⟩
    have c5 : Kp V4 V5 := by rw [← hV]; exact kA _ _
    dsimp only [FX.cells, MM.cells] at o5; rw [hV] at o5 hH ⊢; obtain ⟨p5, hp⟩ : ∃ x, V4.heap.size = x := ⟨_, rfl⟩
    rw [hp] at o5
    try rw [hp]
    have kc5 := kT kc4 c5; have o2 := oK o2 c5; clear hV hp; refine tkP 6 ?_
    go_simp; refine rdW 7 fun K hK => ?_
    have r6 := rZ kc5 RZ8.out; obtain ⟨s0, s1, s2⟩ := cellsR3 r6; have fz := frozN r6; go_simp; refine hK.out _ _ (⟨(setR3_ne _ _ _ HNE8.out).trans hH.1, setR3_kp hH.2 (Nat.le_refl _) _ _ _⟩) fun hH => ?_
    clear hK K; have KZ := hD (show Kp w V5 from kT KD8.out kc5); obtain ⟨R6, O2, O5⟩ := hD3 r6 o2 o5; clear hH r6 o2 o5; refine dnW ?_ _
    go_wp2; refine bodyPost_ret (results_cell_row (p := 4) rfl _ _ w.heap.size 34 _ (0, 0) _ rfl (setR3 _ _ _ R6.out) Tryz.underlying34 rfl (by kernel_rfl)) rfl ?_
    exact JPost.ok rfl hJ (RsV.set (r := ⟨[(⟨6, cn, cs, 0, 0, N, p, 0, 0, 0, 0, 0, 0, 0⟩ : FX)], [(⟨17, nd, cn, cn, cs, 0, N, p, 0⟩ : MM)], 0⟩) R6.out (by decide) (by decide) O2.out O5.out) (setR3_kp KZ.out (Nat.le_refl _) _ _ _)
   ·go_simp; go_wp2_with (go_at_call 61; (with_reducible refine (HRG.out _).mono ?_); rintro e' V4 ⟨rfl, c4⟩)
    refine hK.out _ _ (⟨rZ c4 hH.1, kT hH.2 c4⟩) fun hH => ?_
    clear hK K; have kc4 := kT kc1 c4; refine wpAnyH_ready (rs := [2, 5]) (by kernel_rfl) (by simp) ?_
    refine aC (fun K hK => ?_) (aC (fun K hK => ?_) aN0)
    ·go_simp; refine hK.out _ _ (⟨rZ (kA _ _) hH.1, kT hH.2 (kA _ _)⟩) fun hH => ?_
     clear hK K; have o2 := own_oneF (t := 73) (w := V4) (B := w.heap.size) (⟨6, cn, cs, 0, 0, N, p, 0, 0, 0, 0, 0, 0, 0⟩ : FX) (kS (kT KD8.out kc4)); obtain ⟨V2, hV⟩ : ∃ x, V4.alloc (.cells #[(6:Int), cn, cs, (0:Int), (0:Int), N, p, (0:Int), (0:Int), (0:Int), (0:Int), (0:Int), (0:Int), .float .f64 0] 73) = x := ⟨_, rfl⟩
     have c2 : Kp V4 V2 := by rw [← hV]; exact kA _ _
     dsimp only [FX.cells, MM.cells] at o2; rw [hV] at o2 hH ⊢; obtain ⟨p2, hp⟩ : ∃ x, V4.heap.size = x := ⟨_, rfl⟩
     rw [hp] at o2
     try rw [hp]
     have kc2 := kT kc4 c2; clear hV hp; refine rdW 5 fun K hK => ?_
     go_simp; refine hK.out _ _ (⟨rZ (kA _ _) hH.1, kT hH.2 (kA _ _)⟩) fun hH => ?_
     clear hK K; have o5 := own_oneM (w := V2) (B := w.heap.size) (⟨17, nd, cn, cn, cs, 0, N, p, 0⟩ : MM) (kS (kT KD8.out kc2)); obtain ⟨V5, hV⟩ : ∃ x, V2.alloc (.cells #[(17:Int), nd, cn, cn, cs, (0:Int), N, p, (0:Int)] 26) = x := ⟨_, rfl⟩
     have c5 : Kp V2 V5 := by rw [← hV]; exact kA _ _
     dsimp only [FX.cells, MM.cells] at o5; rw [hV] at o5 hH ⊢; obtain ⟨p5, hp⟩ : ∃ x, V2.heap.size = x := ⟨_, rfl⟩
     rw [hp] at o5
     try rw [hp]
     have kc5 := kT kc2 c5; have o2 := oK o2 c5; clear hV hp; refine tkP 6 ?_
     go_simp; refine rdW 7 fun K hK => ?_
     have r6 := rZ kc5 RZ8.out; obtain ⟨s0, s1, s2⟩ := cellsR3 r6; have fz := frozN r6; go_simp; refine hK.out _ _ (⟨(setR3_ne _ _ _ HNE8.out).trans hH.1, setR3_kp hH.2 (Nat.le_refl _) _ _ _⟩) fun hH => ?_
     clear hK K; have KZ := hD (show Kp w V5 from kT KD8.out kc5); obtain ⟨R6, O2, O5⟩ := hD3 r6 o2 o5; clear hH r6 o2 o5; refine dnW ?_ _
     go_wp2; refine bodyPost_ret (results_cell_row (p := 4) rfl _ _ w.heap.size 34 _ (0, 0) _ rfl (setR3 _ _ _ R6.out) Tryz.underlying34 rfl (by kernel_rfl)) rfl ?_
     exact JPost.ok rfl hJ (RsV.set (r := ⟨[(⟨6, cn, cs, 0, 0, N, p, 0, 0, 0, 0, 0, 0, 0⟩ : FX)], [(⟨17, nd, cn, cn, cs, 0, N, p, 0⟩ : MM)], 0⟩) R6.out (by decide) (by decide) O2.out O5.out) (setR3_kp KZ.out (Nat.le_refl _) _ _ _)
    ·go_simp; refine hK.out _ _ (⟨rZ (kA _ _) hH.1, kT hH.2 (kA _ _)⟩) fun hH => ?_
     clear hK K; have o5 := own_oneM (w := V4) (B := w.heap.size) (⟨17, nd, cn, cn, cs, 0, N, p, 0⟩ : MM) (kS (kT KD8.out kc4)); obtain ⟨V5, hV⟩ : ∃ x, V4.alloc (.cells #[(17:Int), nd, cn, cn, cs, (0:Int), N, p, (0:Int)] 26) = x := ⟨_, rfl⟩
     have c5 : Kp V4 V5 := by rw [← hV]; exact kA _ _
     dsimp only [FX.cells, MM.cells] at o5; rw [hV] at o5 hH ⊢; obtain ⟨p5, hp⟩ : ∃ x, V4.heap.size = x := ⟨_, rfl⟩
     rw [hp] at o5
     try rw [hp]
     have kc5 := kT kc4 c5; clear hV hp; refine rdW 2 fun K hK => ?_
     go_simp; refine hK.out _ _ (⟨rZ (kA _ _) hH.1, kT hH.2 (kA _ _)⟩) fun hH => ?_
     clear hK K; have o2 := own_oneF (t := 73) (w := V5) (B := w.heap.size) (⟨6, cn, cs, 0, 0, N, p, 0, 0, 0, 0, 0, 0, 0⟩ : FX) (kS (kT KD8.out kc5)); obtain ⟨V2, hV⟩ : ∃ x, V5.alloc (.cells #[(6:Int), cn, cs, (0:Int), (0:Int), N, p, (0:Int), (0:Int), (0:Int), (0:Int), (0:Int), (0:Int), .float .f64 0] 73) = x := ⟨_, rfl⟩
     have c2 : Kp V5 V2 := by rw [← hV]; exact kA _ _
     dsimp only [FX.cells, MM.cells] at o2; rw [hV] at o2 hH ⊢; obtain ⟨p2, hp⟩ : ∃ x, V5.heap.size = x := ⟨_, rfl⟩
     rw [hp] at o2
     try rw [hp]
     have kc2 := kT kc5 c2; have o5 := oK o5 c2; clear hV hp; refine tkP 6 ?_
     go_simp; refine rdW 7 fun K hK => ?_
     have r6 := rZ kc2 RZ8.out; obtain ⟨s0, s1, s2⟩ := cellsR3 r6; have fz := frozN r6; go_simp; refine hK.out _ _ (⟨(setR3_ne _ _ _ HNE8.out).trans hH.1, setR3_kp hH.2 (Nat.le_refl _) _ _ _⟩) fun hH => ?_
     clear hK K; have KZ := hD (show Kp w V2 from kT KD8.out kc2); obtain ⟨R6, O2, O5⟩ := hD3 r6 o2 o5; clear hH r6 o2 o5; refine dnW ?_ _
     go_wp2; refine bodyPost_ret (results_cell_row (p := 4) rfl _ _ w.heap.size 34 _ (0, 0) _ rfl (setR3 _ _ _ R6.out) Tryz.underlying34 rfl (by kernel_rfl)) rfl ?_
     exact JPost.ok rfl hJ (RsV.set (r := ⟨[(⟨6, cn, cs, 0, 0, N, p, 0, 0, 0, 0, 0, 0, 0⟩ : FX)], [(⟨17, nd, cn, cn, cs, 0, N, p, 0⟩ : MM)], 0⟩) R6.out (by decide) (by decide) O2.out O5.out) (setR3_kp KZ.out (Nat.le_refl _) _ _ _)
  ·go_simp; refine hK.out _ _ (⟨rZ (kA _ _) hH.1, kT hH.2 (kA _ _)⟩) fun hH => ?_
   clear hK K; have r8 := (mH D7 (.cells #[(0:Int), (0:Int), (0:Int), (0:Int), (0:Int), (0:Int), (0:Int), (0:Int), (0:Int)] 84))
   obtain ⟨W8, hW8⟩ : ∃ x, D7.alloc (.cells #[(0:Int), (0:Int), (0:Int), (0:Int), (0:Int), (0:Int), (0:Int), (0:Int), (0:Int)] 84) = x := ⟨_, rfl⟩
   have k78 : Kp D7 W8 := by rw [← hW8]; exact kA _ _
   rw [hW8] at r8 hH ⊢; obtain ⟨p8, hp8⟩ : ∃ x, D7.heap.size = x := ⟨_, rfl⟩
   have hb8 : w.heap.size ≤ p8 := by rw [← hp8]; exact kS KD7.out
   have hz8 : w.heap.size ≠ p8 := fun e => by have := oZ RZ7.out; omega
   have hs8 : wN.heap.size ≠ p8 := fun e => by have := oZ RS7.out; omega
   rw [hp8] at r8
   try rw [hp8]
   clear hW8 hp8; refine rdW 5 fun K hK => ?_
   go_simp; go_wp2_with (go_at_call 59; (with_reducible refine (HNO.out _ hH.2).mono ?_); rintro e' w' ⟨rfl, rfl⟩)
   refine hK.out _ _ (hH) fun hH => ?_
   clear hK K; refine tkP 7 ?_
   go_simp; refine rdW 9 fun K hK => ?_
   obtain ⟨s0, s1, s2, s3, s4, s5, s6, s7, s8⟩ := cells9 r8; have fz := frozN r8; go_simp; refine hK.out _ _ (⟨(set9_neP hs8 _ _ _ _ _ _ _ _ _).trans hH.1, set9_kp hH.2 hb8 _ _ _ _ _ _ _ _ _⟩) fun hH => ?_
   clear hK K; have RK := (set9 (.int .i64 cn) (.int .i64 cs) (.int .i64 (-1)) (.int .i64 p) (.int .i64 2) (.int .i64 1) (.int .i64 0) (.int .i64 nd) (.int .i64 N) r8)
   have RZ9X := (set9_neP hz8 (.int .i64 cn) (.int .i64 cs) (.int .i64 (-1)) (.int .i64 p) (.int .i64 2) (.int .i64 1) (.int .i64 0) (.int .i64 nd) (.int .i64 N)).trans (rZ k78 RZ7.out); obtain ⟨W9, hW9⟩ : ∃ x, (((((((((W8.setCell ⟨p8, 0, none⟩ (.int .i64 cn)).setCell ⟨p8, 1, none⟩ (.int .i64 cs)).setCell ⟨p8, 2, none⟩ (.int .i64 (-1))).setCell ⟨p8, 3, none⟩ (.int .i64 p)).setCell ⟨p8, 4, none⟩ (.int .i64 2)).setCell ⟨p8, 5, none⟩ (.int .i64 1)).setCell ⟨p8, 6, none⟩ (.int .i64 0)).setCell ⟨p8, 7, none⟩ (.int .i64 nd)).setCell ⟨p8, 8, none⟩ (.int .i64 N)) = x := ⟨_, rfl⟩
   rw [hW9] at RK RZ9X hH ⊢; clear hW9 r8 fz s0 s1 s2 s3 s4 s5 s6 s7 s8; refine dnW ?_ _
   have K9 := hD hH.2; have RZ9 := hD (show W9.heap[w.heap.size]? = some (.cells #[.slice none 0 0, .slice none 0 0, (0:Int)] 34) from RZ9X); have HNE8 := hD hz8.symm; clear hH; go_wp2_with fail
   obtain ⟨D8, hDl⟩ : ∃ x, W9.drew = x := ⟨_, rfl⟩
   have kd : Kp W9 D8 := by rw [← hDl]; exact dQ (Kp.refl _)
   have HD8 := hD hDl; have KD8 := hD (kT K9.out kd); have RZ8 := hD (rZ kd RZ9.out); clear hDl; refine rgW (fun w' => w'.heap[p8]? = some (.cells #[cn, cs, .int .i64 (-1), p, (2:Int), (1:Int), (0:Int), nd, N] 84) ∧ Kp w w') ?_ fun hH => ?_
   ·exact by rw [HD8.out]; exact ⟨rZ kd RK, KD8.out⟩
   rw [HD8.out] at hH ⊢; clear kd; refine tkP 0 ?_ (y := by intro w hZ; obtain ⟨y0, y1, y2, y3, y4, y5, y6, y7, y8⟩ := cells9 hZ.1; go_simp; try rfl)
   go_simp; refine tkP 3 ?_ (y := by intro w hZ; obtain ⟨y0, y1, y2, y3, y4, y5, y6, y7, y8⟩ := cells9 hZ.1; go_simp; try rfl)
   go_simp; refine rdW 1 fun K hK => ?_
   go_simp; go_wp2_with (go_at_call 60; (with_reducible refine (HJO.out _).mono ?_); rintro e' V1 ⟨rfl, c1⟩)
   refine hK.out _ _ (⟨rZ c1 hH.1, kT hH.2 c1⟩) fun hH => ?_
   clear hK K; have kc1 := kT (Kp.refl D8) c1; refine wpAnyH_ready (rs := [2, 4]) (by kernel_rfl) (by simp) ?_
   refine aC (fun K hK => ?_) (aC (fun K hK => ?_) aN0)
   ·go_simp; refine hK.out _ _ (⟨rZ (kA _ _) hH.1, kT hH.2 (kA _ _)⟩) fun hH => ?_
    clear hK K; have o2 := own_oneF (t := 73) (w := V1) (B := w.heap.size) (⟨6, cn, cs, 0, 0, N, p, 0, 0, 0, 0, 0, 0, 0⟩ : FX) (kS (kT KD8.out kc1)); obtain ⟨V2, hV⟩ : ∃ x, V1.alloc (.cells #[(6:Int), cn, cs, (0:Int), (0:Int), N, p, (0:Int), (0:Int), (0:Int), (0:Int), (0:Int), (0:Int), .float .f64 0] 73) = x := ⟨_, rfl⟩
    have c2 : Kp V1 V2 := by rw [← hV]; exact kA _ _
    dsimp only [FX.cells, MM.cells] at o2; rw [hV] at o2 hH ⊢; obtain ⟨p2, hp⟩ : ∃ x, V1.heap.size = x := ⟨_, rfl⟩
    rw [hp] at o2
    try rw [hp]
    have kc2 := kT kc1 c2; clear hV hp; refine rdW 4 fun K hK => ?_
    go_simp; go_wp2_with (go_at_call 61; (with_reducible refine (HRG.out _).mono ?_); rintro e' V4 ⟨rfl, c4⟩)
    refine hK.out _ _ (⟨rZ c4 hH.1, kT hH.2 c4⟩) fun hH => ?_
    clear hK K; have kc4 := kT kc2 c4; have o2 := oK o2 c4; refine rdW 5 fun K hK => ?_
    go_simp; refine hK.out _ _ (⟨rZ (kA _ _) hH.1, kT hH.2 (kA _ _)⟩) fun hH => ?_
    clear hK K; have o5 := own_oneM (w := V4) (B := w.heap.size) (⟨17, nd, cn, cn, cs, 0, N, p, 0⟩ : MM) (kS (kT KD8.out kc4)); obtain ⟨V5, hV⟩ : ∃ x, V4.alloc (.cells #[(17:Int), nd, cn, cn, cs, (0:Int), N, p, (0:Int)] 26) = x := ⟨_, rfl⟩
    have c5 : Kp V4 V5 := by rw [← hV]; exact kA _ _
    dsimp only [FX.cells, MM.cells] at o5; rw [hV] at o5 hH ⊢; obtain ⟨p5, hp⟩ : ∃ x, V4.heap.size = x := ⟨_, rfl⟩
    rw [hp] at o5
    try rw [hp]
    have kc5 := kT kc4 c5; have o2 := oK o2 c5; clear hV hp; refine tkP 6 ?_
    go_simp; refine rdW 7 fun K hK => ?_
    have r6 := rZ kc5 RZ8.out; obtain ⟨s0, s1, s2⟩ := cellsR3 r6; have fz := frozN r6; go_simp; refine hK.out _ _ (⟨(setR3_ne _ _ _ HNE8.out).trans hH.1, setR3_kp hH.2 (Nat.le_refl _) _ _ _⟩) fun hH => ?_
    clear hK K; have KZ := hD (show Kp w V5 from kT KD8.out kc5); obtain ⟨R6, O2, O5⟩ := hD3 r6 o2 o5; clear hH r6 o2 o5; refine dnW ?_ _
    go_wp2; refine bodyPost_ret (results_cell_row (p := 4) rfl _ _ w.heap.size 34 _ (0, 0) _ rfl (setR3 _ _ _ R6.out) Tryz.underlying34 rfl (by kernel_rfl)) rfl ?_
    exact JPost.ok rfl hJ (RsV.set (r := ⟨[(⟨6, cn, cs, 0, 0, N, p, 0, 0, 0, 0, 0, 0, 0⟩ : FX)], [(⟨17, nd, cn, cn, cs, 0, N, p, 0⟩ : MM)], 0⟩) R6.out (by decide) (by decide) O2.out O5.out) (setR3_kp KZ.out (Nat.le_refl _) _ _ _)
   ·go_simp; go_wp2_with (go_at_call 61; (with_reducible refine (HRG.out _).mono ?_); rintro e' V4 ⟨rfl, c4⟩)
    refine hK.out _ _ (⟨rZ c4 hH.1, kT hH.2 c4⟩) fun hH => ?_
    clear hK K; have kc4 := kT kc1 c4; refine wpAnyH_ready (rs := [2, 5]) (by kernel_rfl) (by simp) ?_
    refine aC (fun K hK => ?_) (aC (fun K hK => ?_) aN0)
    ·go_simp; refine hK.out _ _ (⟨rZ (kA _ _) hH.1, kT hH.2 (kA _ _)⟩) fun hH => ?_
     clear hK K; have o2 := own_oneF (t := 73) (w := V4) (B := w.heap.size) (⟨6, cn, cs, 0, 0, N, p, 0, 0, 0, 0, 0, 0, 0⟩ : FX) (kS (kT KD8.out kc4)); obtain ⟨V2, hV⟩ : ∃ x, V4.alloc (.cells #[(6:Int), cn, cs, (0:Int), (0:Int), N, p, (0:Int), (0:Int), (0:Int), (0:Int), (0:Int), (0:Int), .float .f64 0] 73) = x := ⟨_, rfl⟩
     have c2 : Kp V4 V2 := by rw [← hV]; exact kA _ _
     dsimp only [FX.cells, MM.cells] at o2; rw [hV] at o2 hH ⊢; obtain ⟨p2, hp⟩ : ∃ x, V4.heap.size = x := ⟨_, rfl⟩
     rw [hp] at o2
     try rw [hp]
     have kc2 := kT kc4 c2; clear hV hp; refine rdW 5 fun K hK => ?_
     go_simp; refine hK.out _ _ (⟨rZ (kA _ _) hH.1, kT hH.2 (kA _ _)⟩) fun hH => ?_
     clear hK K; have o5 := own_oneM (w := V2) (B := w.heap.size) (⟨17, nd, cn, cn, cs, 0, N, p, 0⟩ : MM) (kS (kT KD8.out kc2)); obtain ⟨V5, hV⟩ : ∃ x, V2.alloc (.cells #[(17:Int), nd, cn, cn, cs, (0:Int), N, p, (0:Int)] 26) = x := ⟨_, rfl⟩
     have c5 : Kp V2 V5 := by rw [← hV]; exact kA _ _
     dsimp only [FX.cells, MM.cells] at o5; rw [hV] at o5 hH ⊢; obtain ⟨p5, hp⟩ : ∃ x, V2.heap.size = x := ⟨_, rfl⟩
     rw [hp] at o5
     try rw [hp]
     have kc5 := kT kc2 c5; have o2 := oK o2 c5; clear hV hp; refine tkP 6 ?_
     go_simp; refine rdW 7 fun K hK => ?_
     have r6 := rZ kc5 RZ8.out; obtain ⟨s0, s1, s2⟩ := cellsR3 r6; have fz := frozN r6; go_simp; refine hK.out _ _ (⟨(setR3_ne _ _ _ HNE8.out).trans hH.1, setR3_kp hH.2 (Nat.le_refl _) _ _ _⟩) fun hH => ?_
     clear hK K; have KZ := hD (show Kp w V5 from kT KD8.out kc5); obtain ⟨R6, O2, O5⟩ := hD3 r6 o2 o5; clear hH r6 o2 o5; refine dnW ?_ _
     go_wp2; refine bodyPost_ret (results_cell_row (p := 4) rfl _ _ w.heap.size 34 _ (0, 0) _ rfl (setR3 _ _ _ R6.out) Tryz.underlying34 rfl (by kernel_rfl)) rfl ?_
     exact JPost.ok rfl hJ (RsV.set (r := ⟨[(⟨6, cn, cs, 0, 0, N, p, 0, 0, 0, 0, 0, 0, 0⟩ : FX)], [(⟨17, nd, cn, cn, cs, 0, N, p, 0⟩ : MM)], 0⟩) R6.out (by decide) (by decide) O2.out O5.out) (setR3_kp KZ.out (Nat.le_refl _) _ _ _)
    ·go_simp; refine hK.out _ _ (⟨rZ (kA _ _) hH.1, kT hH.2 (kA _ _)⟩) fun hH => ?_
     clear hK K; have o5 := own_oneM (w := V4) (B := w.heap.size) (⟨17, nd, cn, cn, cs, 0, N, p, 0⟩ : MM) (kS (kT KD8.out kc4)); obtain ⟨V5, hV⟩ : ∃ x, V4.alloc (.cells #[(17:Int), nd, cn, cn, cs, (0:Int), N, p, (0:Int)] 26) = x := ⟨_, rfl⟩
     have c5 : Kp V4 V5 := by rw [← hV]; exact kA _ _
     dsimp only [FX.cells, MM.cells] at o5; rw [hV] at o5 hH ⊢; obtain ⟨p5, hp⟩ : ∃ x, V4.heap.size = x := ⟨_, rfl⟩
     rw [hp] at o5
     try rw [hp]
     have kc5 := kT kc4 c5; clear hV hp; refine rdW 2 fun K hK => ?_
     go_simp; refine hK.out _ _ (⟨rZ (kA _ _) hH.1, kT hH.2 (kA _ _)⟩) fun hH => ?_
     clear hK K; have o2 := own_oneF (t := 73) (w := V5) (B := w.heap.size) (⟨6, cn, cs, 0, 0, N, p, 0, 0, 0, 0, 0, 0, 0⟩ : FX) (kS (kT KD8.out kc5)); obtain ⟨V2, hV⟩ : ∃ x, V5.alloc (.cells #[(6:Int), cn, cs, (0:Int), (0:Int), N, p, (0:Int), (0:Int), (0:Int), (0:Int), (0:Int), (0:Int), .float .f64 0] 73) = x := ⟨_, rfl⟩
     have c2 : Kp V5 V2 := by rw [← hV]; exact kA _ _
     dsimp only [FX.cells, MM.cells] at o2; rw [hV] at o2 hH ⊢; obtain ⟨p2, hp⟩ : ∃ x, V5.heap.size = x := ⟨_, rfl⟩
     rw [hp] at o2
     try rw [hp]
     have kc2 := kT kc5 c2; have o5 := oK o5 c2; clear hV hp; refine tkP 6 ?_
     go_simp; refine rdW 7 fun K hK => ?_
     have r6 := rZ kc2 RZ8.out; obtain ⟨s0, s1, s2⟩ := cellsR3 r6; have fz := frozN r6; go_simp; refine hK.out _ _ (⟨(setR3_ne _ _ _ HNE8.out).trans hH.1, setR3_kp hH.2 (Nat.le_refl _) _ _ _⟩) fun hH => ?_
     clear hK K; have KZ := hD (show Kp w V2 from kT KD8.out kc2); obtain ⟨R6, O2, O5⟩ := hD3 r6 o2 o5; clear hH r6 o2 o5; refine dnW ?_ _
     go_wp2; refine bodyPost_ret (results_cell_row (p := 4) rfl _ _ w.heap.size 34 _ (0, 0) _ rfl (setR3 _ _ _ R6.out) Tryz.underlying34 rfl (by kernel_rfl)) rfl ?_
     exact JPost.ok rfl hJ (RsV.set (r := ⟨[(⟨6, cn, cs, 0, 0, N, p, 0, 0, 0, 0, 0, 0, 0⟩ : FX)], [(⟨17, nd, cn, cn, cs, 0, N, p, 0⟩ : MM)], 0⟩) R6.out (by decide) (by decide) O2.out O5.out) (setR3_kp KZ.out (Nat.le_refl _) _ _ _)
theorem pJoin (V : St ads w) (T : Tab w) (TC : TabC ads w) (h : SL B q m w) (ok : OkS m) (cn cs co cd p : Int) (cx now : Nat) (hcx : cx < 18446744073709551616) (hnow : now < 18446744073709551616) (ip : i64M p) :
  Calls Tryz.prog 22 #[.pointer (some ⟨q, 0, none⟩), .agg #[cn, cs, co, cd, cx], .int .i64 p, .float .f64 now] w fun r w' => ∃ v, r = .returned (.tuple #[v, errI ads (joinP m ⟨cn, cs, co, cd, cx⟩ p now).1]) ∧ RsV 73 w.heap.size (joinP m ⟨cn, cs, co, cd, cx⟩ p now).2 v w' ∧ Kp w w' := by
 have hmf : ∀ (fn : Fn) (first cap : Array Value) (w : World), (Instr.makeFunc fn first cap).run Tryz.prog w = .ok (.func fn first cap) w := fun _ _ _ _ => rfl
 have r0 : (((((w.alloc (.cells #[.pointer (some ⟨q, 0, none⟩)] 28)).alloc (.cells #[cn, cs, co, cd, cx] 60)).alloc (.cells #[p] 3)).alloc (.cells #[now] 58)).alloc (.cells #[.slice none 0 0, .slice none 0 0, (0:Int)] 34)).heap[w.heap.size]? = some (.cells #[.pointer (some ⟨q, 0, none⟩)] 28) := rZ (kA _ _) (rZ (kA _ _) (p3_0 w _ _ _)); have r1 : (((((w.alloc (.cells #[.pointer (some ⟨q, 0, none⟩)] 28)).alloc (.cells #[cn, cs, co, cd, cx] 60)).alloc (.cells #[p] 3)).alloc (.cells #[now] 58)).alloc (.cells #[.slice none 0 0, .slice none 0 0, (0:Int)] 34)).heap[w.heap.size + 1]? = some (.cells #[cn, cs, co, cd, cx] 60) := rZ (kA _ _) (rZ (kA _ _) (p3_1 w _ _ _)); have r2 : (((((w.alloc (.cells #[.pointer (some ⟨q, 0, none⟩)] 28)).alloc (.cells #[cn, cs, co, cd, cx] 60)).alloc (.cells #[p] 3)).alloc (.cells #[now] 58)).alloc (.cells #[.slice none 0 0, .slice none 0 0, (0:Int)] 34)).heap[w.heap.size + 1 + 1]? = some (.cells #[p] 3) := rZ (kA _ _) (rZ (kA _ _) (p3_2 w _ _ _))
 have r3 : (((((w.alloc (.cells #[.pointer (some ⟨q, 0, none⟩)] 28)).alloc (.cells #[cn, cs, co, cd, cx] 60)).alloc (.cells #[p] 3)).alloc (.cells #[now] 58)).alloc (.cells #[.slice none 0 0, .slice none 0 0, (0:Int)] 34)).heap[w.heap.size + 1 + 1 + 1]? = some (.cells #[now] 58) := by
  have := (mH (((w.alloc (.cells #[.pointer (some ⟨q, 0, none⟩)] 28)).alloc (.cells #[cn, cs, co, cd, cx] 60)).alloc (.cells #[p] 3)) (.cells #[now] 58))
  rw [show (((w.alloc (.cells #[.pointer (some ⟨q, 0, none⟩)] 28)).alloc (.cells #[cn, cs, co, cd, cx] 60)).alloc (.cells #[p] 3)).heap.size = w.heap.size + 1 + 1 + 1 by simp] at this; exact rZ (kA _ _) this
 have r4 : (((((w.alloc (.cells #[.pointer (some ⟨q, 0, none⟩)] 28)).alloc (.cells #[cn, cs, co, cd, cx] 60)).alloc (.cells #[p] 3)).alloc (.cells #[now] 58)).alloc (.cells #[.slice none 0 0, .slice none 0 0, (0:Int)] 34)).heap[w.heap.size + 1 + 1 + 1 + 1]? = some (.cells #[.slice none 0 0, .slice none 0 0, (0:Int)] 34) := by
  have := (mH ((((w.alloc (.cells #[.pointer (some ⟨q, 0, none⟩)] 28)).alloc (.cells #[cn, cs, co, cd, cx] 60)).alloc (.cells #[p] 3)).alloc (.cells #[now] 58)) (.cells #[.slice none 0 0, .slice none 0 0, (0:Int)] 34))
  rwa [show ((((w.alloc (.cells #[.pointer (some ⟨q, 0, none⟩)] 28)).alloc (.cells #[cn, cs, co, cd, cx] 60)).alloc (.cells #[p] 3)).alloc (.cells #[now] 58)).heap.size = w.heap.size + 1 + 1 + 1 + 1 by simp] at this
 have k5 : Kp w (((((w.alloc (.cells #[.pointer (some ⟨q, 0, none⟩)] 28)).alloc (.cells #[cn, cs, co, cd, cx] 60)).alloc (.cells #[p] 3)).alloc (.cells #[now] 58)).alloc (.cells #[.slice none 0 0, .slice none 0 0, (0:Int)] 34)) := kT (pk3 w _ _ _) (pk2 _ _ _); have hj := fun w1 (hk : Kp (((((w.alloc (.cells #[.pointer (some ⟨q, 0, none⟩)] 28)).alloc (.cells #[cn, cs, co, cd, cx] 60)).alloc (.cells #[p] 3)).alloc (.cells #[now] 58)).alloc (.cells #[.slice none 0 0, .slice none 0 0, (0:Int)] 34)) w1) => pJoin1 (V.below (kT k5 hk)) (T.kp (kT k5 hk)) (TC.kp (kT k5 hk)) (h.kp (kT k5 hk)) ok cn cs co cd p cx now hcx hnow ip (rZ hk r1) (kZ hk (cU (i := 0) r2 rfl)) (kZ hk (cU (i := 0) r3 rfl)) (kZ hk (cU (i := 0) r0 rfl))
 obtain ⟨⟨er, J⟩, hJ⟩ : ∃ j, joinP m ⟨cn, cs, co, cd, cx⟩ p now = j := ⟨_, rfl⟩
 rw [hJ] at hj ⊢; dsimp only at hj ⊢; obtain ⟨R4, K5⟩ := hD2 r4 k5
 by_cases he : er = 0
 ·subst he; obtain ⟨lf, hlf⟩ : ∃ n, J.facts.length = n := ⟨_, rfl⟩
  obtain ⟨lm, hlm⟩ : ∃ n, J.send.length = n := ⟨_, rfl⟩
  have ht := try_res_val 54 #[.pointer (some ⟨w.heap.size + 1, 0, none⟩), .pointer (some ⟨w.heap.size + 1 + 1, 0, none⟩), .pointer (some ⟨w.heap.size + 1 + 1 + 1, 0, none⟩), .pointer (some ⟨w.heap.size, 0, none⟩)] (((((w.alloc (.cells #[.pointer (some ⟨q, 0, none⟩)] 28)).alloc (.cells #[cn, cs, co, cd, cx] 60)).alloc (.cells #[p] 3)).alloc (.cells #[now] 58)).alloc (.cells #[.slice none 0 0, .slice none 0 0, (0:Int)] 34)) (fun v w' => RsV 73 ((((((w.alloc (.cells #[.pointer (some ⟨q, 0, none⟩)] 28)).alloc (.cells #[cn, cs, co, cd, cx] 60)).alloc (.cells #[p] 3)).alloc (.cells #[now] 58)).alloc (.cells #[.slice none 0 0, .slice none 0 0, (0:Int)] 34)).heap.size + 3) J v w') (by intro w; simp [go_sem]) (fun v w2 w' hg hb => RsV.stay hg (fun b hb2 => hb b hb2)) (fun w1 hk hs => (hj w1 hk).mono (by
   rintro e w2 ⟨hd, hk2⟩
   rcases hd with ⟨_, pa0, n0, k0, pa1, n1, k1, x2, rfl, hr⟩ | ⟨k, hk3, hq, _⟩
   ·exact ⟨pa0, n0, k0, pa1, n1, k1, x2, rfl, by rw [← hs]; exact hr, hk2⟩
   ·exact absurd (congrArg Prod.fst hq) (by dsimp only; omega)))
  have HT := hD (ht.mono (R' := fun r w' => ∃ fa fc ma mc, r = .returned (.tuple #[.agg #[.slice fa lf fc, .slice ma lm mc, .int .i64 J.work], .nilIface]) ∧ w'.ownsRow w.heap.size 73 14 (.slice fa lf fc) lf (fcE.row J.facts) ∧ w'.ownsRow w.heap.size 26 9 (.slice ma lm mc) lm (mmE.row J.send) ∧ Kp (((((w.alloc (.cells #[.pointer (some ⟨q, 0, none⟩)] 28)).alloc (.cells #[cn, cs, co, cd, cx] 60)).alloc (.cells #[p] 3)).alloc (.cells #[now] 58)).alloc (.cells #[.slice none 0 0, .slice none 0 0, (0:Int)] 34)) w') (by
   rintro e w2 ⟨v, rfl, hg, hk⟩; obtain ⟨fa, fc, ma, mc, rfl, h1, h2⟩ := RsV.form hg hlf hlm; exact ⟨fa, fc, ma, mc, rfl, bG h1 (by have := kS K5.out; omega), bG h2 (by have := kS K5.out; omega), hk⟩))
  obtain ⟨HLF, HLM⟩ := hD2 hlf hlm; rw [eN]; obtain ⟨wk, hwk⟩ : ∃ x, J.work = x := ⟨_, rfl⟩
  rw [hwk] at HT; have HWK := hD hwk; clear V T TC h ok hcx hnow ip r0 r1 r2 r3 r4 k5 hj hJ ht hlf hlm hwk; go_enter Tryz.func22, Tryz.ntmps22; go_wp2_with (go_at_call 53; (with_reducible refine HT.out.mono ?_); rintro e' w2 ⟨fa, fc, ma, mc, rfl, hof, hom, hk⟩; have R2 := hD (rZ hk R4.out); have K2 := hD (kT K5.out hk); obtain ⟨OF, OM⟩ := hD2 hof hom; obtain ⟨s0, s1, s2⟩ := cellsR3 R2.out; have fz := frozN R2.out; clear hof hom hk)
  refine bodyPost_ret (rQ (p := 8) (u := 9) rfl _ _ (w.heap.size + 1 + 1 + 1 + 1) 34 _ (0, 0) _ rfl (setR3 _ _ _ R2.out) Tryz.underlying34 rfl (by kernel_rfl)) rfl ?_
  refine ⟨_, rfl, ?_, setR3_kp K2.out (show w.heap.size ≤ w.heap.size + 1 + 1 + 1 + 1 by omega) _ _ _⟩
  have e1 := HWK.out; subst e1; exact RsV.setN R2.out (by decide) (by decide) HLF.out HLM.out OF.out OM.out
 ·obtain ⟨k, hk14, hq⟩ := joinP_err hJ he; have hk3 : k < ads.length := by have := V.len; have : gs14.length = 14 := rfl; omega
  obtain ⟨rfl, rfl⟩ := Prod.mk.inj hq; have ht := try_res_err ads k hk3 54 #[.pointer (some ⟨w.heap.size + 1, 0, none⟩), .pointer (some ⟨w.heap.size + 1 + 1, 0, none⟩), .pointer (some ⟨w.heap.size + 1 + 1 + 1, 0, none⟩), .pointer (some ⟨w.heap.size, 0, none⟩)] (((((w.alloc (.cells #[.pointer (some ⟨q, 0, none⟩)] 28)).alloc (.cells #[cn, cs, co, cd, cx] 60)).alloc (.cells #[p] 3)).alloc (.cells #[now] 58)).alloc (.cells #[.slice none 0 0, .slice none 0 0, (0:Int)] 34)) (V.below k5) (by intro w; simp [go_sem]) (fun w1 hk => (hj w1 hk).mono (by
   rintro e w2 ⟨hd, hk2⟩
   rcases hd with ⟨h0, _⟩ | ⟨k', hk', hq', rfl⟩
   ·exact absurd h0 he
   ·have e1 := congrArg Prod.fst hq'; dsimp only at e1; have e2 : k' = k := by omega
    subst e2; exact ⟨rfl, hk2⟩))
  rw [errI_at ads k hk3]; have HT := hD ht; obtain ⟨ak, hak⟩ : ∃ x, ads[k]'hk3 = x := ⟨_, rfl⟩
  rw [hak] at HT ⊢; clear V T TC h ok hcx hnow ip r0 r1 r2 r3 r4 k5 hj hJ ht he hq hak; go_enter Tryz.func22, Tryz.ntmps22; go_wp2_with (go_at_call 53; (with_reducible refine HT.out.mono ?_); rintro e' w2 ⟨rfl, hk⟩; have R2 := hD (rZ hk R4.out); have K2 := hD (kT K5.out hk); obtain ⟨s0, s1, s2⟩ := cellsR3 R2.out; have fz := frozN R2.out; clear hk)
  refine bodyPost_ret (rQ (p := 8) (u := 9) rfl _ _ (w.heap.size + 1 + 1 + 1 + 1) 34 _ (0, 0) _ rfl (setR3 (.slice none 0 0) (.slice none 0 0) (.int .i64 0) R2.out) Tryz.underlying34 rfl (by kernel_rfl)) rfl ?_
  exact ⟨_, rfl, RsV.zero _ _ _, setR3_kp K2.out (show w.heap.size ≤ w.heap.size + 1 + 1 + 1 + 1 by omega) _ _ _⟩
end Go.Proofs.YtncoofnhifcnhaaGreatDoor
