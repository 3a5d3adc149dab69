/- Parts of this proof (own work). -/
import Derived.Test.YtpemeenfhkgmpaaGreatDoorZf38
set_option maxRecDepth 100000
set_option maxHeartbeats 40000000
namespace Go.Proofs.YtpemeenfhkgmpaaGreatDoor
open Go.RowKit Go.ChangeShapes Go.WideShapes
theorem child_lt {l : List AcM} {p : Int} {k : Nat} (h : childS l p = some k) : k < l.length := by
 unfold childS at h
 split at h
 ·cases h
 ·exact (List.findIdx?_eq_some_iff_getElem.1 h).1
theorem seqS_lt2 (l : List AcM) : ∀ (nx : Int) (i j : Nat) (a b : AcM), seqS nx l → l[i]? = some a → l[j]? = some b → i < j → a.c.s < b.c.s := by
 induction l with
 | nil => intro nx i j a b _ h; simp at h
 | cons a0 l ih =>
  intro nx i j a b h ha hb hij
  cases j with
  | zero => omega
  | succ j =>
   have hb : l[j]? = some b := by simpa using hb
   cases i with
   | zero =>
    have e : a0 = a := by simpa using ha
    subst e; have := seqS_ge l _ h.2 b (List.mem_of_getElem? hb); omega
   | succ i => exact ih _ i j a b h.2 (by simpa using ha) hb (by omega)
theorem find_atQ {m : StM} (ok : OkS m) {j : Nat} (hj : j < m.acts.length) : findS m.acts (m.acts[j]'hj).c.n (m.acts[j]'hj).c.s = some j := by
 unfold findS; refine fi_at hj (fun i hi hij => ?_) (by simp)
 simp only [decide_eq_false_iff_not]
 rintro ⟨_, h⟩; have := seqS_lt2 m.acts 0 i j _ _ ok.seq (List.getElem?_eq_getElem hi) (List.getElem?_eq_getElem hj) hij; omega
theorem ctx_lt {m : StM} (ok : OkS m) {a : AcM} (ha : a ∈ m.acts) : a.c.x < 18446744073709551616 := by
 have h := (ok.a a ha).c; unfold rightX at h; simp only [Bool.and_eq_true] at h
 have := tmX_le h.2.2.2; omega
variable {w0 w w' W w3 : World} {B q : Nat} {m : StM} {gs : List AcG} {va vp : Value}
theorem same_find (H : GS tyL B q m gs va vp w) (ok : OkS m) (j : Nat) (hj : j < m.acts.length) (xn xs xo xd : Int) (xx : Nat) (xp xc : Int) (xr : List RgM) (hx : m.acts[j]'hj = ⟨⟨xn, xs, xo, xd, xx⟩, xp, xc, xr⟩) (n : Nat) (hn : xr.length = n) : Calls Tryz.prog 22 #[.pointer (some ⟨q, 0, none⟩), .agg #[xn, xs]] w fun r w' => ∃ (ob : Option Addr) (oc : Nat), r = .returned (.tuple #[.agg #[xn, xs, xo, xd, xx, xp, xc, .slice ob n oc], .bool true]) ∧ w'.ownsRow w.heap.size 69 6 (.slice ob n oc) n (rgE.row xr) ∧ Kp w w' := by
 refine (stFind H (by rw [H.len]; exact ok.l8) (fun a ha => (ok.a a ha).l) xn xs).mono ?_
 have hf : findS m.acts xn xs = some j := by have := find_atQ ok hj; rw [hx] at this; exact this
 rw [hf]; rintro e w2 ⟨v, rfl, ⟨a, o, c, rfl, ha, ho⟩, hk⟩; have ha : m.acts[j]? = some a := ha; rw [List.getElem?_eq_getElem hj, hx] at ha; obtain rfl := Option.some.inj ha; dsimp only at ho; subst hn; exact ⟨o, c, rfl, ho, hk⟩
theorem same_child0 (H : GS tyL B q m gs va vp w) (ok : OkS m) (p : Int) (h : childS m.acts p = none) : Calls Tryz.prog 24 #[.pointer (some ⟨q, 0, none⟩), .int .i64 p] w fun r w' => r = .returned (.tuple #[.agg #[(0:Int), (0:Int), (0:Int), (0:Int), .float .f64 0, (0:Int), (0:Int), .slice none 0 0], .bool false]) ∧ Kp w w' := by
 refine (stChild H (by rw [H.len]; exact ok.l8) (fun a ha => (ok.a a ha).l) p (fun a ha => ⟨(ok.a a ha).p0, (ok.a a ha).p8⟩)).mono ?_
 rw [h]; rintro e w2 ⟨v, rfl, ⟨a, o, c, rfl, ⟨rfl, rfl, rfl⟩, ho⟩, hk⟩; exact ⟨rfl, hk⟩
theorem same_child1 (H : GS tyL B q m gs va vp w) (ok : OkS m) (p : Int) (k : Nat) (h : childS m.acts p = some k) (hj : k < m.acts.length) (xn xs xo xd : Int) (xx : Nat) (xp xc : Int) (xr : List RgM) (hx : m.acts[k]'hj = ⟨⟨xn, xs, xo, xd, xx⟩, xp, xc, xr⟩) (n : Nat) (hn : xr.length = n) : Calls Tryz.prog 24 #[.pointer (some ⟨q, 0, none⟩), .int .i64 p] w fun r w' => ∃ (ob : Option Addr) (oc : Nat), r = .returned (.tuple #[.agg #[xn, xs, xo, xd, xx, xp, xc, .slice ob n oc], .bool true]) ∧ w'.ownsRow w.heap.size 69 6 (.slice ob n oc) n (rgE.row xr) ∧ Kp w w' := by
 refine (stChild H (by rw [H.len]; exact ok.l8) (fun a ha => (ok.a a ha).l) p (fun a ha => ⟨(ok.a a ha).p0, (ok.a a ha).p8⟩)).mono ?_
 rw [h]; rintro e w2 ⟨v, rfl, ⟨a, o, c, rfl, ha, ho⟩, hk⟩; have ha : m.acts[k]? = some a := ha; rw [List.getElem?_eq_getElem hj, hx] at ha; obtain rfl := Option.some.inj ha; dsimp only at ho; subst hn; exact ⟨o, c, rfl, ho, hk⟩
theorem same_part (H : GS tyL B q m gs va vp w) (j : Nat) (hj : j < m.parts.length) (yn ys yr y1 y2 y3 y4 : Int) (hx : m.parts[j]'hj = ⟨yn, ys, yr, ⟨y1, y2, y3, y4⟩⟩) (i : Int) (hi : (j : Int) = i) : Calls Tryz.prog 25 #[.pointer (some ⟨q, 0, none⟩), .int .i64 i] w fun r w' => r = .returned (.tuple #[.agg #[yn, ys, yr, y1, y2, y3, y4], .bool true]) ∧ Kp w w' := by
 refine (stPart H i).mono ?_
 have hq : partQ m i = some ⟨yn, ys, yr, ⟨y1, y2, y3, y4⟩⟩ := by
  unfold partQ; rw [if_pos (by omega), show i.toNat = j by omega, List.getElem?_eq_getElem hj, hx]
 rw [hq]; rintro e w2 ⟨x, rfl, rfl, hk⟩; exact ⟨rfl, hk⟩
theorem same_part0 (H : GS tyL B q m gs va vp w) (i : Int) (hi : (m.parts.length : Int) = i) : Calls Tryz.prog 25 #[.pointer (some ⟨q, 0, none⟩), .int .i64 i] w fun r w' => r = .returned (.tuple #[.agg #[(0:Int), (0:Int), (0:Int), (0:Int), (0:Int), (0:Int), (0:Int)], .bool false]) ∧ Kp w w' := by
 refine (stPart H i).mono ?_
 have hq : partQ m i = none := by
  unfold partQ; rw [if_pos (by omega), List.getElem?_eq_none (by omega)]
 rw [hq]; rintro e w2 ⟨x, rfl, rfl, hk⟩; exact ⟨rfl, hk⟩
theorem same_acts (H : GS tyL B q m gs va vp w) (ok : OkS m) (nA : Nat) (hnA : m.acts.length = nA) : Calls Tryz.prog 21 #[.pointer (some ⟨q, 0, none⟩)] w fun r w' => ∃ (a1 : Option Addr) (c1 : Nat) (ga : List AcG), r = .returned (.slice a1 nA c1) ∧ ga.length = nA ∧ ga.map AcG.a = m.acts ∧ w'.ownsRow w.heap.size 65 8 (.slice a1 nA c1) nA (acE.row ga) ∧ (∀ g ∈ ga, w'.ownsRow w.heap.size 69 6 g.v g.a.regs.length (rgE.row g.a.regs)) ∧ Kp w w' := by
 refine (stActs H (by rw [H.len]; exact ok.l8) (fun a ha => (ok.a a ha).l)).mono ?_
 rintro e w2 ⟨v, rfl, ⟨ga, hga, oa, og, _⟩, hk⟩; have hl : ga.length = nA := by rw [← hnA, ← hga, List.length_map]
 rw [hl] at oa; obtain ⟨a1, c1, rfl⟩ := fG oa; exact ⟨a1, c1, ga, rfl, hl, hga, oa, og, hk⟩
theorem same_parts (H : GS tyL B q m gs va vp w) (ok : OkS m) (np : Nat) (hnp : m.parts.length = np) : Calls Tryz.prog 23 #[.pointer (some ⟨q, 0, none⟩)] w fun r w' => ∃ (a2 : Option Addr) (c2 : Nat), r = .returned (.slice a2 np c2) ∧ w'.ownsRow w.heap.size 75 7 (.slice a2 np c2) np (paE.row m.parts) ∧ Kp w w' := by
 refine (stParts H ok.p8).mono ?_
 rintro e w2 ⟨v, rfl, op, hk⟩; rw [hnp] at op; obtain ⟨a2, c2, rfl⟩ := fG op; exact ⟨a2, c2, rfl, op, hk⟩
theorem same_node (H : GS tyL B q m gs va vp w) : Calls Tryz.prog 34 #[.pointer (some ⟨q, 0, none⟩)] w fun r w' => r = .returned (.int .i64 m.node) ∧ Kp w w' := (stNode H).mono (by rintro _ _ ⟨rfl, rfl⟩; exact ⟨rfl, Kp.refl _⟩)
theorem same_next (H : GS tyL B q m gs va vp w) : Calls Tryz.prog 35 #[.pointer (some ⟨q, 0, none⟩)] w fun r w' => r = .returned (.int .i64 m.next) ∧ Kp w w' := (stNext H).mono (by rintro _ _ ⟨rfl, rfl⟩; exact ⟨rfl, Kp.refl _⟩)
theorem lawSame15 {B' q' : Nat} {gs' : List AcG} {va' vp' : Value} (H : GS tyL B q m gs va vp w) (H' : GS tyD B' q' m gs' va' vp' w) (ok : OkS m) : Calls Tryz.prog 13 #[.pointer (some ⟨q, 0, none⟩), .pointer (some ⟨q', 0, none⟩)] w fun r w' => r = .returned (.bool true) ∧ Kp w w' := by
 obtain ⟨a0, c0, eva⟩ := H'.vForm; obtain ⟨b0, d0, evp⟩ := H'.pForm; subst eva; subst evp; obtain ⟨nA, hnA⟩ : ∃ x, m.acts.length = x := ⟨_, rfl⟩
 obtain ⟨np, hnp⟩ : ∃ x, m.parts.length = x := ⟨_, rfl⟩
 have hdl : gs'.length = nA := by rw [← hnA]; exact H'.len
 have e0 : w.cell? ⟨q', 0, none⟩ = some (.int .i64 m.node) := cU (i := 0) H'.row rfl; have e1 : w.cell? ⟨q', 1, none⟩ = some (.int .i64 m.next) := cU (i := 1) H'.row rfl; have e2 : w.cell? ⟨q', 2, none⟩ = some (.slice a0 nA c0) := by rw [← hdl]; exact cU (i := 2) H'.row rfl
 have e3 : w.cell? ⟨q', 3, none⟩ = some (.slice b0 np d0) := by rw [← hnp]; exact cU (i := 3) H'.row rfl
 have oda : w.ownsRow B' 89 8 (.slice a0 nA c0) nA (acE.row gs') := by have := H'.oa; rw [hdl] at this; exact this
 have odp : w.ownsRow B' 92 7 (.slice b0 np d0) np (paE.row m.parts) := by have := H'.op; rw [hnp] at this; exact this
 have hnd := fun w1 (hk : Kp w w1) => same_node (H.kp hk)
 have hnx := fun w1 (hk : Kp w w1) => same_next (H.kp hk)
 obtain ⟨nd, hndE⟩ : ∃ x, m.node = x := ⟨_, rfl⟩
 obtain ⟨nx, hnxE⟩ : ∃ x, m.next = x := ⟨_, rfl⟩
 rw [hndE] at e0 hnd; rw [hnxE] at e1 hnx; obtain ⟨HND, HNX⟩ := hD2 hnd hnx; have HAC := hD (fun w1 (hk : Kp w w1) => same_acts (H.kp hk) ok nA hnA); have HPS := hD (fun w1 (hk : Kp w w1) => same_parts (H.kp hk) ok np hnp); obtain ⟨E0, E1, E2, E3, HH⟩ := hD5 e0 e1 e2 e3 H; have HH' := hD H'; obtain ⟨HOK, HDL, HML, HPL⟩ := hD4 ok hdl hnA hnp; have HDM := hD H'.acts; obtain ⟨ODA0, ODP0⟩ := hD2 oda odp; have ODG0 := hD H'.og; have H8A := hD (show nA ≤ 8 by rw [← hnA]; exact ok.l8); have H8P := hD (show np ≤ 8 by rw [← hnp]; exact ok.p8); obtain ⟨NA, hNA⟩ : ∃ N : Int, (nA : Int) = N := ⟨_, rfl⟩
 obtain ⟨NP, hNP⟩ : ∃ N : Int, (np : Int) = N := ⟨_, rfl⟩
 obtain ⟨HNA, HNP⟩ := hD2 hNA hNP; have hsf := sF; clear H H' ok hnA hnp hdl e0 e1 e2 e3 oda odp hnd hnx hndE hnxE; go_enter Tryz.func13, Tryz.ntmps13; go_wp2_with (first | (go_at_call 21; (with_reducible refine (HAC.out _ (Kp.refl w)).mono ?_); rintro e' w1 ⟨a1, c1, ga, rfl, hgl, hgm, oa1, og1, hk1⟩; obtain ⟨K1, HGL, HGM, OA1, OG1⟩ := hD5 hk1 hgl hgm oa1 og1; clear hk1 hgl hgm oa1 og1) | (go_at_call 23; (with_reducible refine (HPS.out _ K1.out).mono ?_); rintro e' w2 ⟨a2, c2, rfl, op2, hk2⟩; have K2 := hD (kT K1.out hk2); have OA := hD (oK OA1.out hk2); have OG := hD (fun g (hg : g ∈ ga) => oK (OG1.out g hg) hk2); have OP := hD op2; clear hk2 op2 OA1 OG1))
 have D0 := hD (kZ K2.out E0.out); have D1 := hD (kZ K2.out E1.out); have D2 := hD (kZ K2.out E2.out); have D3 := hD (kZ K2.out E3.out); have ODA := hD (oK ODA0.out K2.out); have ODP := hD (oK ODP0.out K2.out); have ODG := hD (fun g (hg : g ∈ gs') => oK (ODG0.out g hg) K2.out); clear E0 E1 E2 E3 ODA0 ODP0 ODG0; obtain ⟨WD, hWD⟩ : ∃ x, (w2).drew = x := ⟨_, rfl⟩
 have kD : Kp w2 WD := by rw [← hWD]; exact dQ (Kp.refl _)
 have HWD := hD hWD; clear hWD; refine rgW (fun w' => Kp w2 w') ?_ fun hH => ?_
 ·exact by rw [HWD.out]; exact kD
 rw [HWD.out] at hH ⊢; refine tkP 0 ?_
 go_simp; refine tkP 2 ?_
 go_simp; refine tkP 3 ?_
 go_simp; refine tkP 4 ?_
 go_simp; refine tkP 5 ?_ (y := by intro w hZ; have a0 := kZ hZ D0.out; have a1 := kZ hZ D1.out; have a2 := kZ hZ D2.out; have a3 := kZ hZ D3.out; go_simp; try rfl)
 go_simp; refine rdW 1 fun K hK => ?_
 go_simp; go_wp2_with (go_at_call 34; (with_reducible refine (HND.out _ (kT K2.out (show Kp w2 _ from hH))).mono ?_); rintro e' w3 ⟨rfl, hk3⟩)
 refine hK.out _ _ (kT hH hk3) fun hH => ?_
 clear hK K; refine tkP 6 ?_
 go_simp; refine tkP 7 ?_
 go_simp; refine tkP 8 ?_
 go_simp; refine tkP 10 ?_
 go_simp; refine tkP 11 ?_
 go_simp; refine tkP 12 ?_
 go_simp; refine tkP 13 ?_ (y := by intro w hZ; have a0 := kZ hZ D0.out; have a1 := kZ hZ D1.out; have a2 := kZ hZ D2.out; have a3 := kZ hZ D3.out; go_simp; try rfl)
 go_simp; refine rdW 9 fun K hK => ?_
 go_simp; go_wp2_with (go_at_call 35; (with_reducible refine (HNX.out _ (kT K2.out (show Kp w2 _ from hH))).mono ?_); rintro e' w3 ⟨rfl, hk3⟩)
 refine hK.out _ _ (kT hH hk3) fun hH => ?_
 clear hK K; refine tkP 14 ?_
 go_simp; refine tkP 15 ?_
 go_simp; refine tkP 16 ?_
 go_simp; refine tkP 17 ?_
 go_simp; refine tkP 18 ?_
 go_simp; refine tkP 19 ?_
 go_simp; refine tkP 20 ?_
 go_simp; refine tkP 21 ?_
 go_simp; refine tkP 22 ?_ (y := by intro w hZ; have a0 := kZ hZ D0.out; have a1 := kZ hZ D1.out; have a2 := kZ hZ D2.out; have a3 := kZ hZ D3.out; go_simp; try rfl)
 go_simp; refine tkP 23 ?_
 go_simp; refine tkP 24 ?_
 go_simp; refine tkP 25 ?_
 go_simp; refine tkP 26 ?_
 go_simp; refine tkP 27 ?_
 go_simp; refine tkP 28 ?_
 go_simp; refine tkP 29 ?_
 go_simp; refine tkP 30 ?_
 go_simp; refine tkP 31 ?_
 go_simp; refine tkP 32 ?_ (y := by intro w hZ; have a0 := kZ hZ D0.out; have a1 := kZ hZ D1.out; have a2 := kZ hZ D2.out; have a3 := kZ hZ D3.out; go_simp; try rfl)
 go_simp; refine tkP 33 ?_
 go_simp; refine tkP 34 ?_
 go_simp; refine tkP 35 ?_
 go_simp; refine dnW ?_ _
 have KF := hD (show Kp w2 _ from hH); clear hH; go_wp2; go_loopw [64] (fun i wr => ∃ j : Nat, j ≤ nA ∧ i = .int .i64 j ∧ Kp w2 wr) (fun i _ => nA - (intOf i).toNat)
 case atStart => exact ⟨0, Nat.zero_le _, rfl, KF.out⟩
 case round =>
  obtain ⟨j, hj, rfl, hk⟩ := hrel; obtain ⟨kk, hkk⟩ : ∃ x : Int, (j : Int) = x := ⟨_, rfl⟩
  rw [hkk]; obtain ⟨HKK, KR⟩ := hD2 hkk hk
  by_cases hlt : j < nA
  ·have hjl : kk < NA := by have := HNA.out; omega
   have hk0 : 0 ≤ kk := by omega
   have htk : kk.toNat = j := by omega
   have hn8 : NA ≤ 8 := by have := HNA.out; have := H8A.out; omega
   have hw1 : wrap64 (kk + 1) = kk + 1 := IntWalk.wrap64_in _ (by omega); have HLT := hD hlt; have hjg : j < ga.length := by have := HGL.out; omega
   have hjd : j < gs'.length := by have := HDL.out; omega
   have hjm : j < m.acts.length := by have := HML.out; omega
   obtain ⟨⟨⟨⟨xn, xs, xo, xd, xx⟩, xp, xc, xr⟩, xb, xk⟩, hx⟩ : ∃ x, ga[j]'hjg = x := ⟨_, rfl⟩
   obtain ⟨⟨am, db, dk⟩, hxd⟩ : ∃ x, gs'[j]'hjd = x := ⟨_, rfl⟩
   have hxm : m.acts[j]'hjm = ⟨⟨xn, xs, xo, xd, xx⟩, xp, xc, xr⟩ := by
    have h1 : (ga.map AcG.a)[j]'(by rw [List.length_map]; exact hjg) = ⟨⟨xn, xs, xo, xd, xx⟩, xp, xc, xr⟩ := by rw [List.getElem_map, hx]
    have h2 := HGM.out; simp only [h2] at h1
    exact h1
   have ham : am = ⟨⟨xn, xs, xo, xd, xx⟩, xp, xc, xr⟩ := by
    have h1 : (gs'.map AcG.a)[j]'(by rw [List.length_map]; exact hjd) = am := by rw [List.getElem_map, hxd]
    have h2 := HDM.out; simp only [← h2] at h1
    rw [← h1]; exact hxm
   subst ham; have hgm := OG.out _ (List.getElem_mem hjg); have hdm := ODG.out _ (List.getElem_mem hjd); rw [hx] at hgm; rw [hxd] at hdm; obtain ⟨nv, hnv⟩ : ∃ n, xr.length = n := ⟨_, rfl⟩
   unfold AcG.v at hgm hdm; dsimp only at hgm hdm; rw [hnv] at hgm hdm; obtain ⟨xv, hxv⟩ : ∃ v, (⟨⟨⟨xn, xs, xo, xd, xx⟩, xp, xc, xr⟩, xb, xk⟩ : AcG).v = v := ⟨_, rfl⟩
   obtain ⟨dv, hdv⟩ : ∃ v, (⟨⟨⟨xn, xs, xo, xd, xx⟩, xp, xc, xr⟩, db, dk⟩ : AcG).v = v := ⟨_, rfl⟩
   obtain ⟨gr, ckgr, exgr, hckgr, hgBgr, hglgr, hfzgr, hcrgr⟩ := cQ (E := acE) (oK OA.out hk) HGL.out hlt; have hcsgr : ∀ (i : Nat) (u : Value), i < acE.k → (acE.enc (ga[j]'hjg))[i]? = some u → wr.cell? ⟨gr, j * acE.k + i, none⟩ = some u := hcrgr; rw [hx, show acE.k = 8 from rfl, ← htk] at hcsgr; have exgr := congrArg (fun v => match v with | Value.slice a _ _ => a | _ => none) exgr; dsimp only at exgr; subst exgr; obtain ⟨z0, z1, z2, z3, z4, z5, z6, -⟩ := cW8 hcsgr; have z7 : wr.cell? ⟨gr, kk.toNat * 8 + 7, none⟩ = some (xv) := by rw [← hxv]; exact hcsgr 7 _ (by decide) rfl
   obtain ⟨gd, ckgd, exgd, hckgd, hgBgd, hglgd, hfzgd, hcrgd⟩ := cQ (E := acE) (oK ODA.out hk) HDL.out hlt; have hcsgd : ∀ (i : Nat) (u : Value), i < acE.k → (acE.enc (gs'[j]'hjd))[i]? = some u → wr.cell? ⟨gd, j * acE.k + i, none⟩ = some u := hcrgd; rw [hxd, show acE.k = 8 from rfl, ← htk] at hcsgd; have exgd := congrArg (fun v => match v with | Value.slice a _ _ => a | _ => none) exgd; dsimp only at exgd; subst exgd; obtain ⟨y0, y1, y2, y3, y4, y5, y6, -⟩ := cW8 hcsgd; have y7 : wr.cell? ⟨gd, kk.toNat * 8 + 7, none⟩ = some (dv) := by rw [← hdv]; exact hcsgd 7 _ (by decide) rfl
   unfold AcG.v at hxv hdv; dsimp only at hxv hdv; rw [hnv] at hxv hdv; subst hxv; subst hdv; have hmem : ⟨⟨xn, xs, xo, xd, xx⟩, xp, xc, xr⟩ ∈ m.acts := by rw [← hxm]; exact List.getElem_mem hjm
   have HXX := hD (show xx < 18446744073709551616 from ctx_lt HOK.out hmem); have H6V := hD (show nv ≤ 6 by rw [← hnv]; exact (HOK.out.a _ hmem).l); obtain ⟨HNV, OGR, ODR⟩ := hD3 hnv hgm hdm; have HFN := hD (fun w1 (hk1 : Kp w w1) => same_find (HH.out.kp hk1) HOK.out j hjm xn xs xo xd xx xp xc xr hxm nv hnv); have kb := kA wr (.cells #[xn, xs, xo, xd, xx, xp, xc, .slice xb nv xk] 65); have RA := hD ((mH wr (.cells #[xn, xs, xo, xd, xx, xp, xc, .slice xb nv xk] 65))); obtain ⟨s0, s1, s2, s3, s4, s5, s6, s7⟩ := c8X RA.out; have KB := hD kb; clear hkk hj hlt hk htk hx hxd hxm hgm hdm hnv hmem kb hjg hjd hjm hckgr hgBgr hglgr hfzgr hcrgr hcsgr hckgd hgBgd hglgd hfzgd hcrgd hcsgd; go_wp2_with (go_at_call 22; (with_reducible refine (HFN.out _ (kT K2.out (kT KR.out KB.out))).mono ?_); rintro e' w3 ⟨ob, oc, rfl, or3, hk3⟩; have K4 := hD (kT KR.out (kT KB.out (kT hk3 (kA w3 (.cells #[xn, xs, xo, xd, xx, xp, xc, .slice ob nv oc] 65))))); have RA4 := hD (rZ (kT hk3 (kA w3 (.cells #[xn, xs, xo, xd, xx, xp, xc, .slice ob nv oc] 65))) RA.out); have RB4 := hD ((mH w3 (.cells #[xn, xs, xo, xd, xx, xp, xc, .slice ob nv oc] 65))); have O3R := hD (oK or3 (kA w3 (.cells #[xn, xs, xo, xd, xx, xp, xc, .slice ob nv oc] 65))); have KX3 := hD hk3; clear hk3 or3)
   obtain ⟨w4, hw4⟩ : ∃ x, w3.alloc (.cells #[xn, xs, xo, xd, xx, xp, xc, .slice ob nv oc] 65) = x := ⟨_, rfl⟩
   rw [hw4] at K4 RA4 RB4 O3R ⊢; have D24 := hD (kZ K4.out D2.out); have k44 : Kp wr w4 := by rw [← hw4]; exact kT KB.out (kT KX3.out (kA _ _))
   obtain ⟨y0, y1, y2, y3, y4, y5, y6, y7⟩ := kZ8 k44 y0 y1 y2 y3 y4 y5 y6 y7; clear k44 hw4 s0 s1 s2 s3 s4 s5 s6 s7 z0 z1 z2 z3 z4 z5 z6 z7; obtain ⟨WD, hWD⟩ : ∃ x, (w4).drew = x := ⟨_, rfl⟩
   have kD : Kp w4 WD := by rw [← hWD]; exact dQ (Kp.refl _)
   have HWD := hD hWD; clear hWD; refine rgW (fun w' => Kp w4 w') ?_ fun hH => ?_
   ·exact by rw [HWD.out]; exact kD
   rw [HWD.out] at hH ⊢; refine tkP 0 ?_ (y := by intro w hZ; obtain ⟨a0, a1, a2, a3, a4, a5, a6, a7⟩ := c8X (rZ hZ RA4.out); go_simp; try rfl)
   go_simp; refine tkP 2 ?_
   go_simp; refine tkP 3 ?_
   go_simp; refine tkP 4 ?_
   go_simp; refine tkP 5 ?_ (y := by intro w hZ; have a0 := kZ hZ D24.out; go_simp; try rfl)
   go_simp; refine tkP 6 ?_
   go_simp; refine tkP 7 ?_
   go_simp; refine tkP 8 ?_ (y := by intro w hZ; obtain ⟨a0, a1, a2, a3, a4, a5, a6, a7⟩ := kZ8 hZ y0 y1 y2 y3 y4 y5 y6 y7; go_simp; try rfl)
   go_simp; refine rdW 1 fun K hK => ?_
   go_simp; go_wp2_with (go_at_call 37; (with_reducible refine (lawAct15 xn xs xo xd xx xp xc xb nv xk xr HNV.out H6V.out (oK OGR.out (kT K4.out (show Kp w4 _ from hH)))).mono ?_); rintro e' w5 ⟨f1, g1, rfl, o5, hk5⟩)
   refine hK.out _ _ (kT hH hk5) fun hH => ?_
   clear hK K; refine rdW 9 fun K hK => ?_
   go_simp; go_wp2_with (go_at_call 36; (with_reducible refine (sameAct15 xn xs xo xd xx xp xc HXX.out f1 db g1 dk nv xr HNV.out H6V.out o5 (oK ODR.out (kT K4.out (show Kp w4 _ from hH)))).mono ?_); rintro e' w6 ⟨rfl, hk6⟩)
   refine hK.out _ _ (kT hH hk6) fun hH => ?_
   clear hK K; refine tkP 10 ?_
   go_simp; refine tkP 11 ?_
   go_simp; refine tkP 12 ?_
   go_simp; refine tkP 13 ?_
   go_simp; refine tkP 14 ?_
   go_simp; refine tkP 15 ?_
   go_simp; refine tkP 16 ?_ (y := by intro w hZ; obtain ⟨a0, a1, a2, a3, a4, a5, a6, a7⟩ := c8X (rZ hZ RB4.out); go_simp; try rfl)
   go_simp; refine tkP 18 ?_
   go_simp; refine tkP 19 ?_
   go_simp; refine tkP 20 ?_
   go_simp; refine tkP 21 ?_ (y := by intro w hZ; have a0 := kZ hZ D24.out; go_simp; try rfl)
   go_simp; refine tkP 22 ?_
   go_simp; refine tkP 23 ?_
   go_simp; refine tkP 24 ?_ (y := by intro w hZ; obtain ⟨a0, a1, a2, a3, a4, a5, a6, a7⟩ := kZ8 hZ y0 y1 y2 y3 y4 y5 y6 y7; go_simp; try rfl)
   go_simp; refine rdW 17 fun K hK => ?_
   go_simp; go_wp2_with (go_at_call 37; (with_reducible refine (lawAct15 xn xs xo xd xx xp xc ob nv oc xr HNV.out H6V.out (oK O3R.out (show Kp w4 _ from hH))).mono ?_); rintro e' w7 ⟨f2, g2, rfl, o7, hk7⟩)
   refine hK.out _ _ (kT hH hk7) fun hH => ?_
   clear hK K; refine rdW 25 fun K hK => ?_
   go_simp; go_wp2_with (go_at_call 36; (with_reducible refine (sameAct15 xn xs xo xd xx xp xc HXX.out f2 db g2 dk nv xr HNV.out H6V.out o7 (oK ODR.out (kT K4.out (show Kp w4 _ from hH)))).mono ?_); rintro e' w8 ⟨rfl, hk8⟩)
   refine hK.out _ _ (kT hH hk8) fun hH => ?_
   clear hK K; refine tkP 26 ?_
   go_simp; refine tkP 27 ?_
   go_simp; refine dnW ?_ _
   have KF := hD (show Kp w4 _ from hH); clear hH; go_wp2; go_roundw
   case rel => exact ⟨j + 1, by have := HLT.out; omega, by have := HKK.out; first | rw [show ((j + 1 : Nat) : Int) = kk + 1 by omega] | rw [show ((j + 1 : Nat) : Int) = kk + 1 by omega, hw1], kT K4.out KF.out⟩
   case measure => have := HKK.out; have := HLT.out; simp [intOf]; omega
  ·have hje : ¬ kk < NA := by have := HNA.out; omega
   have KE := hD hk; clear hkk hj hlt hk; go_wp2; go_loopw [108] (fun i wr => ∃ j : Nat, j ≤ np ∧ i = .int .i64 j ∧ Kp w2 wr) (fun i _ => np - (intOf i).toNat)
   case atStart => exact ⟨0, Nat.zero_le _, rfl, KE.out⟩
   case round =>
    obtain ⟨j, hj, rfl, hk⟩ := hrel; obtain ⟨kk, hkk⟩ : ∃ x : Int, (j : Int) = x := ⟨_, rfl⟩
    rw [hkk]; obtain ⟨HKK, KR⟩ := hD2 hkk hk
    by_cases hlt : j < np
    ·have hjl : kk < NP := by have := HNP.out; omega
     have hk0 : 0 ≤ kk := by omega
     have htk : kk.toNat = j := by omega
     have hn8 : NP ≤ 8 := by have := HNP.out; have := H8P.out; omega
     have hw1 : wrap64 (kk + 1) = kk + 1 := IntWalk.wrap64_in _ (by omega); have HLT := hD hlt; have hjm : j < m.parts.length := by have := HPL.out; omega
     obtain ⟨⟨yn, ys, yr, ⟨y1, y2, y3, y4⟩⟩, hy⟩ : ∃ r, m.parts[j]'hjm = r := ⟨_, rfl⟩
     obtain ⟨gr, ckgr, exgr, hckgr, hgBgr, hglgr, hfzgr, hcrgr⟩ := cQ (E := paE) (oK OP.out hk) HPL.out hlt; have hcsgr : ∀ (i : Nat) (u : Value), i < paE.k → (paE.enc (m.parts[j]'hjm))[i]? = some u → wr.cell? ⟨gr, j * paE.k + i, none⟩ = some u := hcrgr; rw [hy, show paE.k = 7 from rfl, ← htk] at hcsgr; have exgr := congrArg (fun v => match v with | Value.slice a _ _ => a | _ => none) exgr; dsimp only at exgr; subst exgr; obtain ⟨z0, z1, z2, z3, z4, z5, z6⟩ := cW7 hcsgr; obtain ⟨gd, ckgd, exgd, hckgd, hgBgd, hglgd, hfzgd, hcrgd⟩ := cQ (E := paE) (oK ODP.out hk) HPL.out hlt; have hcsgd : ∀ (i : Nat) (u : Value), i < paE.k → (paE.enc (m.parts[j]'hjm))[i]? = some u → wr.cell? ⟨gd, j * paE.k + i, none⟩ = some u := hcrgd; rw [hy, show paE.k = 7 from rfl, ← htk] at hcsgd; have exgd := congrArg (fun v => match v with | Value.slice a _ _ => a | _ => none) exgd; dsimp only at exgd; subst exgd; obtain ⟨q0, q1, q2, q3, q4, q5, q6⟩ := cW7 hcsgd
     have HPT := hD (fun w1 (hk1 : Kp w w1) => same_part (HH.out.kp hk1) j hjm yn ys yr y1 y2 y3 y4 hy kk hkk); have hrc := fun w1 (hk1 : Kp w w1) => refChild15 (HH'.out.kp hk1) (by rw [HDL.out]; exact H8A.out) kk (by omega)
     have kb := kA wr (.cells #[yn, ys, yr, y1, y2, y3, y4] 75); have RP := hD ((mH wr (.cells #[yn, ys, yr, y1, y2, y3, y4] 75))); obtain ⟨s0, s1, s2, s3, s4, s5, s6⟩ := c7X RP.out; have KB := hD kb; have hne := fun w => dprt_neq yn ys yr y1 y2 y3 y4 w
     have hgd := fun op x y (w : World) => dprt_guard op x y yn ys yr y1 y2 y3 y4 w
     cases hch : childS m.acts kk with
     | none =>
      have HCH := hD (fun w1 (hk1 : Kp w w1) => same_child0 (HH.out.kp hk1) HOK.out kk hch); rw [hch] at hrc; dsimp only [placeQ] at hrc; have HRC := hD hrc; clear hkk hj hlt hk htk hy kb hjm hch hrc hckgr hgBgr hglgr hfzgr hcrgr hcsgr hckgd hgBgd hglgd hfzgd hcrgd hcsgd; go_wp2_with (first | (go_at_call 25; (with_reducible refine (HPT.out _ (kT K2.out (kT KR.out KB.out))).mono ?_); rintro e' w3 ⟨rfl, hk3⟩; have K3 := hD (kT KB.out (kT hk3 (kA w3 (.cells #[yn, ys, yr, y1, y2, y3, y4] 75)))); have RP3 := hD (rZ (kT hk3 (kA w3 (.cells #[yn, ys, yr, y1, y2, y3, y4] 75))) RP.out); have RQ3 := hD ((mH w3 (.cells #[yn, ys, yr, y1, y2, y3, y4] 75))); clear hk3) | (go_at_call 24; (with_reducible refine (HCH.out _ (kT K2.out (kT KR.out K3.out))).mono ?_); rintro e' w4 ⟨rfl, hk4⟩; have K4 := hD (kT K3.out (kT hk4 (kA w4 (.cells #[(0:Int), (0:Int), (0:Int), (0:Int), .float .f64 0, (0:Int), (0:Int), .slice none 0 0] 65)))); have RP4 := hD (rZ (kT hk4 (kA w4 (.cells #[(0:Int), (0:Int), (0:Int), (0:Int), .float .f64 0, (0:Int), (0:Int), .slice none 0 0] 65))) RP3.out); have RQ4 := hD (rZ (kT hk4 (kA w4 (.cells #[(0:Int), (0:Int), (0:Int), (0:Int), .float .f64 0, (0:Int), (0:Int), .slice none 0 0] 65))) RQ3.out); have RC4 := hD ((mH w4 (.cells #[(0:Int), (0:Int), (0:Int), (0:Int), .float .f64 0, (0:Int), (0:Int), .slice none 0 0] 65))); clear hk4) | (go_at_call 30; (with_reducible refine (HRC.out _ (kT K2.out (kT KR.out K4.out))).mono ?_); rintro e' w5 ⟨rfl, hk5⟩; have K5 := hD (kT K4.out hk5); have K45 := hD hk5; have RP6 := hD (rZ hk5 RP4.out); have RQ6 := hD (rZ hk5 RQ4.out); have RC6 := hD (rZ hk5 RC4.out); clear hk5))
      obtain ⟨w6, hw6⟩ : ∃ x, w5 = x := ⟨_, rfl⟩
      rw [hw6] at K5 K45 RP6 RQ6 RC6 ⊢; have K6 := hD (kT KR.out K5.out); have D26 := hD (kZ K6.out D2.out); have D36 := hD (kZ K6.out D3.out); have y0' := kZ K5.out q0; have y1' := kZ K5.out q1; have y2' := kZ K5.out q2; have y3' := kZ K5.out q3; have y4' := kZ K5.out q4; have y5' := kZ K5.out q5; have y6' := kZ K5.out q6; clear hw6 s0 s1 s2 s3 s4 s5 s6 z0 z1 z2 z3 z4 z5 z6 D26 q0 q1 q2 q3 q4 q5 q6 ; obtain ⟨WD, hWD⟩ : ∃ x, (w6).drew = x := ⟨_, rfl⟩
      have kD : Kp w6 WD := by rw [← hWD]; exact dQ (Kp.refl _)
      have HWD := hD hWD; clear hWD; refine rgW (fun w' => Kp w6 w') ?_ fun hH => ?_
      ·exact by rw [HWD.out]; exact kD
      rw [HWD.out] at hH ⊢; refine tkP 0 ?_ (y := by intro w hZ; obtain ⟨a0, a1, a2, a3, a4, a5, a6⟩ := c7X (rZ hZ RP6.out); go_simp; try rfl)
      go_simp; refine tkP 2 ?_
      go_simp; refine tkP 3 ?_
      go_simp; refine tkP 4 ?_
      go_simp; refine tkP 5 ?_ (y := by intro w hZ; have a0 := kZ hZ D36.out; go_simp; try rfl)
      go_simp; refine tkP 6 ?_
      go_simp; refine tkP 7 ?_
      go_simp; refine tkP 8 ?_ (y := by intro w hZ; obtain ⟨a0, a1, a2, a3, a4, a5, a6⟩ := kZ7 hZ y0' y1' y2' y3' y4' y5' y6'; go_simp; try rfl)
      go_simp; refine rdW 1 fun K hK => ?_
      go_simp; go_wp2_with (go_at_call 38; (with_reducible refine (lawPart15 yn ys yr y1 y2 y3 y4).mono ?_); rintro e' w7 ⟨rfl, hk7⟩)
      refine hK.out _ _ (kT hH hk7) fun hH => ?_
      clear hK K; refine tkP 9 ?_
      go_simp; refine tkP 10 ?_
      go_simp; refine tkP 11 ?_
      go_simp; refine tkP 12 ?_
      go_simp; refine tkP 13 ?_
      go_simp; refine tkP 14 ?_
      go_simp; refine tkP 15 ?_ (y := by intro w hZ; obtain ⟨a0, a1, a2, a3, a4, a5, a6⟩ := c7X (rZ hZ RQ6.out); go_simp; try rfl)
      go_simp; refine tkP 17 ?_
      go_simp; refine tkP 18 ?_
      go_simp; refine tkP 19 ?_
      go_simp; refine tkP 20 ?_ (y := by intro w hZ; have a0 := kZ hZ D36.out; go_simp; try rfl)
      go_simp; refine tkP 21 ?_
      go_simp; refine tkP 22 ?_
      go_simp; refine tkP 23 ?_ (y := by intro w hZ; obtain ⟨a0, a1, a2, a3, a4, a5, a6⟩ := kZ7 hZ y0' y1' y2' y3' y4' y5' y6'; go_simp; try rfl)
      go_simp; refine rdW 16 fun K hK => ?_
      go_simp; go_wp2_with (go_at_call 38; (with_reducible refine (lawPart15 yn ys yr y1 y2 y3 y4).mono ?_); rintro e' w7 ⟨rfl, hk7⟩)
      refine hK.out _ _ (kT hH hk7) fun hH => ?_
      clear hK K; refine tkP 24 ?_
      go_simp; refine tkP 25 ?_
      go_simp; refine tkP 26 ?_
      go_simp; refine tkP 27 ?_
      go_simp; refine tkP 28 ?_
      go_simp; refine tkP 29 ?_
      go_simp; refine tkP 30 ?_
      go_simp; refine tkP 31 ?_
      go_simp; refine tkP 32 ?_
      go_simp; refine tkP 33 ?_
      go_simp; refine tkP 34 ?_
      go_simp; refine skW 35 ?_
      go_simp; refine skW 36 ?_
      go_simp; refine skW 37 ?_
      go_simp; refine skW 38 ?_
      go_simp; refine skW 39 ?_
      go_simp; refine skW 40 ?_
      go_simp; refine skW 41 ?_
      go_simp; refine skW 42 ?_
      go_simp; refine skW 43 ?_
      go_simp; refine skW 44 ?_
      go_simp; refine skW 45 ?_
      go_simp; refine tkP 46 ?_
      go_simp; refine tkP 47 ?_
      go_simp; refine dnW ?_ _
      have KF := hD (show Kp w6 _ from hH); clear hH; go_wp2; go_roundw
      case rel => exact ⟨j + 1, by have := HLT.out; omega, by have := HKK.out; first | rw [show ((j + 1 : Nat) : Int) = kk + 1 by omega] | rw [show ((j + 1 : Nat) : Int) = kk + 1 by omega, hw1], kT K6.out KF.out⟩
      case measure => have := HKK.out; have := HLT.out; simp [intOf]; omega
     | some k =>
      have hkl : k < m.acts.length := child_lt hch; have hkd : k < gs'.length := by have := HDL.out; have := HML.out; omega
      obtain ⟨⟨⟨xn, xs, xo, xd, xx⟩, xp, xc, xr⟩, hxm⟩ : ∃ x, m.acts[k]'hkl = x := ⟨_, rfl⟩
      obtain ⟨⟨am, db, dk⟩, hxd⟩ : ∃ x, gs'[k]'hkd = x := ⟨_, rfl⟩
      have ham : am = ⟨⟨xn, xs, xo, xd, xx⟩, xp, xc, xr⟩ := by
       have h1 : (gs'.map AcG.a)[k]'(by rw [List.length_map]; exact hkd) = am := by rw [List.getElem_map, hxd]
       have h2 := HDM.out; simp only [← h2] at h1
       rw [← h1]; exact hxm
      subst ham; have hdm := ODG.out _ (List.getElem_mem hkd); rw [hxd] at hdm; obtain ⟨nv, hnv⟩ : ∃ n, xr.length = n := ⟨_, rfl⟩
      unfold AcG.v at hdm; dsimp only at hdm; rw [hnv] at hdm; obtain ⟨dv, hdv⟩ : ∃ v, (⟨⟨⟨xn, xs, xo, xd, xx⟩, xp, xc, xr⟩, db, dk⟩ : AcG).v = v := ⟨_, rfl⟩
      obtain ⟨kz, hkz⟩ : ∃ x : Int, (k : Int) = x := ⟨_, rfl⟩
      have hkt : kz.toNat = k := by omega
      have hkz0 : 0 ≤ kz := by omega
      have hkA : kz < NA := by have := HNA.out; have := HML.out; omega
      have gge : decide (kz ≥ 0) = true := dT hkz0; obtain ⟨ge, ckge, exge, hckge, hgBge, hglge, hfzge, hcrge⟩ := cQ (E := acE) (oK ODA.out hk) HDL.out (show k < nA by have := HML.out; omega); have hcsge : ∀ (i : Nat) (u : Value), i < acE.k → (acE.enc (gs'[k]'hkd))[i]? = some u → wr.cell? ⟨ge, k * acE.k + i, none⟩ = some u := hcrge; rw [hxd, show acE.k = 8 from rfl, ← hkt] at hcsge; have exge := congrArg (fun v => match v with | Value.slice a _ _ => a | _ => none) exge; dsimp only at exge; subst exge; obtain ⟨x0, x1, x2, x3, x4, x5, x6, -⟩ := cW8 hcsge; have x7 : wr.cell? ⟨ge, kz.toNat * 8 + 7, none⟩ = some (dv) := by rw [← hdv]; exact hcsge 7 _ (by decide) rfl
      unfold AcG.v at hdv; dsimp only at hdv; rw [hnv] at hdv; subst hdv; have hmem : ⟨⟨xn, xs, xo, xd, xx⟩, xp, xc, xr⟩ ∈ m.acts := by rw [← hxm]; exact List.getElem_mem hkl
      have HXX := hD (show xx < 18446744073709551616 from ctx_lt HOK.out hmem); have H6V := hD (show nv ≤ 6 by rw [← hnv]; exact (HOK.out.a _ hmem).l); obtain ⟨HNV, ODR⟩ := hD2 hnv hdm; have HCH := hD (fun w1 (hk1 : Kp w w1) => same_child1 (HH.out.kp hk1) HOK.out kk k hch hkl xn xs xo xd xx xp xc xr hxm nv hnv); rw [hch] at hrc; dsimp only [placeQ] at hrc; rw [hkz] at hrc; have HRC := hD hrc; clear hkk hj hlt hk htk hy kb hjm hch hrc hkl hkd hxm hxd hdm hnv hmem hkz hkt hckgr hgBgr hglgr hfzgr hcrgr hcsgr hckgd hgBgd hglgd hfzgd hcrgd hcsgd hckge hgBge hglge hfzge hcrge hcsge; go_wp2_with (first | (go_at_call 25; (with_reducible refine (HPT.out _ (kT K2.out (kT KR.out KB.out))).mono ?_); rintro e' w3 ⟨rfl, hk3⟩; have K3 := hD (kT KB.out (kT hk3 (kA w3 (.cells #[yn, ys, yr, y1, y2, y3, y4] 75)))); have RP3 := hD (rZ (kT hk3 (kA w3 (.cells #[yn, ys, yr, y1, y2, y3, y4] 75))) RP.out); have RQ3 := hD ((mH w3 (.cells #[yn, ys, yr, y1, y2, y3, y4] 75))); clear hk3) | (go_at_call 24; (with_reducible refine (HCH.out _ (kT K2.out (kT KR.out K3.out))).mono ?_); rintro e' w4 ⟨ob, oc, rfl, or4, hk4⟩; have K4 := hD (kT K3.out (kT hk4 (kA w4 (.cells #[xn, xs, xo, xd, xx, xp, xc, .slice ob nv oc] 65)))); have RP4 := hD (rZ (kT hk4 (kA w4 (.cells #[xn, xs, xo, xd, xx, xp, xc, .slice ob nv oc] 65))) RP3.out); have RQ4 := hD (rZ (kT hk4 (kA w4 (.cells #[xn, xs, xo, xd, xx, xp, xc, .slice ob nv oc] 65))) RQ3.out); have RC4 := hD ((mH w4 (.cells #[xn, xs, xo, xd, xx, xp, xc, .slice ob nv oc] 65))); have O4Q := hD (oK or4 (kA w4 (.cells #[xn, xs, xo, xd, xx, xp, xc, .slice ob nv oc] 65))); clear or4; clear hk4) | (go_at_call 30; (with_reducible refine (HRC.out _ (kT K2.out (kT KR.out K4.out))).mono ?_); rintro e' w5 ⟨rfl, hk5⟩; have K5 := hD (kT K4.out hk5); have K45 := hD hk5; have RP6 := hD (rZ hk5 RP4.out); have RQ6 := hD (rZ hk5 RQ4.out); have RC6 := hD (rZ hk5 RC4.out); clear hk5))
      obtain ⟨w6, hw6⟩ : ∃ x, w5 = x := ⟨_, rfl⟩
      rw [hw6] at K5 K45 RP6 RQ6 RC6 ⊢; have K6 := hD (kT KR.out K5.out); have D26 := hD (kZ K6.out D2.out); have D36 := hD (kZ K6.out D3.out); have y0' := kZ K5.out q0; have y1' := kZ K5.out q1; have y2' := kZ K5.out q2; have y3' := kZ K5.out q3; have y4' := kZ K5.out q4; have y5' := kZ K5.out q5; have y6' := kZ K5.out q6; have O4R := hD (oK O4Q.out K45.out); have x0' := kZ K5.out x0; have x1' := kZ K5.out x1; have x2' := kZ K5.out x2; have x3' := kZ K5.out x3; have x4' := kZ K5.out x4; have x5' := kZ K5.out x5; have x6' := kZ K5.out x6; have x7' := kZ K5.out x7; clear hw6 s0 s1 s2 s3 s4 s5 s6 z0 z1 z2 z3 z4 z5 z6 q0 q1 q2 q3 q4 q5 q6 x0 x1 x2 x3 x4 x5 x6 x7; obtain ⟨WD, hWD⟩ : ∃ x, (w6).drew = x := ⟨_, rfl⟩
      have kD : Kp w6 WD := by rw [← hWD]; exact dQ (Kp.refl _)
      have HWD := hD hWD; clear hWD; refine rgW (fun w' => Kp w6 w') ?_ fun hH => ?_
      ·exact by rw [HWD.out]; exact kD
      rw [HWD.out] at hH ⊢; refine tkP 0 ?_ (y := by intro w hZ; obtain ⟨a0, a1, a2, a3, a4, a5, a6⟩ := c7X (rZ hZ RP6.out); go_simp; try rfl)
      go_simp; refine tkP 2 ?_
      go_simp; refine tkP 3 ?_
      go_simp; refine tkP 4 ?_
      go_simp; refine tkP 5 ?_ (y := by intro w hZ; have a0 := kZ hZ D36.out; go_simp; try rfl)
      go_simp; refine tkP 6 ?_
      go_simp; refine tkP 7 ?_
      go_simp; refine tkP 8 ?_ (y := by intro w hZ; obtain ⟨a0, a1, a2, a3, a4, a5, a6⟩ := kZ7 hZ y0' y1' y2' y3' y4' y5' y6'; go_simp; try rfl)
      go_simp; refine rdW 1 fun K hK => ?_
      go_simp; go_wp2_with (go_at_call 38; (with_reducible refine (lawPart15 yn ys yr y1 y2 y3 y4).mono ?_); rintro e' w7 ⟨rfl, hk7⟩)
      refine hK.out _ _ (kT hH hk7) fun hH => ?_
      clear hK K; refine tkP 9 ?_
      go_simp; refine tkP 10 ?_
      go_simp; refine tkP 11 ?_
      go_simp; refine tkP 12 ?_
      go_simp; refine tkP 13 ?_
      go_simp; refine tkP 14 ?_
      go_simp; refine tkP 15 ?_ (y := by intro w hZ; obtain ⟨a0, a1, a2, a3, a4, a5, a6⟩ := c7X (rZ hZ RQ6.out); go_simp; try rfl)
      go_simp; refine tkP 17 ?_
      go_simp; refine tkP 18 ?_
      go_simp; refine tkP 19 ?_
      go_simp; refine tkP 20 ?_ (y := by intro w hZ; have a0 := kZ hZ D36.out; go_simp; try rfl)
      go_simp; refine tkP 21 ?_
      go_simp; refine tkP 22 ?_
      go_simp; refine tkP 23 ?_ (y := by intro w hZ; obtain ⟨a0, a1, a2, a3, a4, a5, a6⟩ := kZ7 hZ y0' y1' y2' y3' y4' y5' y6'; go_simp; try rfl)
      go_simp; refine rdW 16 fun K hK => ?_
      go_simp; go_wp2_with (go_at_call 38; (with_reducible refine (lawPart15 yn ys yr y1 y2 y3 y4).mono ?_); rintro e' w7 ⟨rfl, hk7⟩)
      refine hK.out _ _ (kT hH hk7) fun hH => ?_
      clear hK K; refine tkP 24 ?_
      go_simp; refine tkP 25 ?_
      go_simp; refine tkP 26 ?_
      go_simp; refine tkP 27 ?_
      go_simp; refine tkP 28 ?_
      go_simp; refine tkP 29 ?_
      go_simp; refine tkP 30 ?_
      go_simp; refine tkP 31 ?_
      go_simp; refine tkP 32 ?_
      go_simp; refine tkP 33 ?_
      go_simp; refine tkP 34 ?_
      go_simp; refine tkP 35 ?_ (y := by intro w hZ; obtain ⟨a0, a1, a2, a3, a4, a5, a6, a7⟩ := c8X (rZ hZ RC6.out); go_simp; try rfl)
      go_simp; refine tkP 37 ?_
      go_simp; refine tkP 38 ?_
      go_simp; refine tkP 39 ?_
      go_simp; refine tkP 40 ?_ (y := by intro w hZ; have a0 := kZ hZ D26.out; go_simp; try rfl)
      go_simp; refine tkP 41 ?_
      go_simp; refine tkP 42 ?_
      go_simp; refine tkP 43 ?_ (y := by intro w hZ; obtain ⟨a0, a1, a2, a3, a4, a5, a6, a7⟩ := kZ8 hZ x0' x1' x2' x3' x4' x5' x6' x7'; go_simp; try rfl)
      go_simp; refine rdW 36 fun K hK => ?_
      go_simp; go_wp2_with (go_at_call 37; (with_reducible refine (lawAct15 xn xs xo xd xx xp xc ob nv oc xr HNV.out H6V.out (oK O4R.out (show Kp w6 _ from hH))).mono ?_); rintro e' w8 ⟨f2, g2, rfl, o8, hk8⟩)
      refine hK.out _ _ (kT hH hk8) fun hH => ?_
      clear hK K; refine rdW 44 fun K hK => ?_
      go_simp; go_wp2_with (go_at_call 36; (with_reducible refine (sameAct15 xn xs xo xd xx xp xc HXX.out f2 db g2 dk nv xr HNV.out H6V.out o8 (oK ODR.out (kT K6.out (show Kp w6 _ from hH)))).mono ?_); rintro e' w9 ⟨rfl, hk9⟩)
      refine hK.out _ _ (kT hH hk9) fun hH => ?_
      clear hK K; refine tkP 45 ?_
      go_simp; refine tkP 46 ?_
      go_simp; refine tkP 47 ?_
      go_simp; refine dnW ?_ _
      have KF := hD (show Kp w6 _ from hH); clear hH; go_wp2; go_roundw
      case rel => exact ⟨j + 1, by have := HLT.out; omega, by have := HKK.out; first | rw [show ((j + 1 : Nat) : Int) = kk + 1 by omega] | rw [show ((j + 1 : Nat) : Int) = kk + 1 by omega, hw1], kT K6.out KF.out⟩
      case measure => have := HKK.out; have := HLT.out; simp [intOf]; omega
    ·have hje : ¬ kk < NP := by have := HNP.out; omega
     have HCZ := hD (fun w1 (hk1 : Kp w w1) => same_child0 (HH.out.kp hk1) HOK.out (-1) (by unfold childS; rw [if_pos (by omega)])); have HPZ := hD (fun w1 (hk1 : Kp w w1) => same_part0 (HH.out.kp hk1) NP (by rw [HPL.out]; exact HNP.out)); clear hkk hj hlt hk; go_wp2_with (first | (go_at_call 25; (with_reducible refine (HPZ.out _ (kT K2.out KR.out)).mono ?_); rintro e' w3 ⟨rfl, hk3⟩; have K3 := hD (kT K2.out (kT KR.out (kT hk3 (kA w3 (.cells #[(0:Int), (0:Int), (0:Int), (0:Int), (0:Int), (0:Int), (0:Int)] 75))))); clear hk3) | (go_at_call 24; (with_reducible refine (HCZ.out _ K3.out).mono ?_); rintro e' w4 ⟨rfl, hk4⟩; have K4 := hD (kT K3.out (kT hk4 (kA w4 (.cells #[(0:Int), (0:Int), (0:Int), (0:Int), .float .f64 0, (0:Int), (0:Int), .slice none 0 0] 65)))); clear hk4))
     go_ret; exact ⟨rfl, K4.out⟩
end Go.Proofs.YtpemeenfhkgmpaaGreatDoor
