/- Parts of this proof (own work). -/
import Derived.Test.YtpemeenfhkgmpaaGreatDoorZf37
set_option maxRecDepth 100000
set_option maxHeartbeats 40000000
namespace Go.Proofs.YtpemeenfhkgmpaaGreatDoor
open Go.RowKit Go.ChangeShapes Go.WideShapes
def alF : List FX := [(⟨1, 1, 0, 0, 0, 0, 0, 1, 0, 0, 0, 0, 0, 4621256167635550208⟩ : FX), (⟨2, 1, 0, 0, 0, 0, 1, 0, 0, 0, 0, 0, 0, 0⟩ : FX), (⟨3, 1, 0, 0, 0, 0, 0, 0, 0, 0, 5, 0, 0, 0⟩ : FX)]
def alM : Nat → StM
 | 0 => newSt 1
 | n + 1 => match alF[n]? with
  | some f => (applyQ (alM n) f).2
  | none => alM n
theorem al_0 : (applyQ (alM 0) (⟨1, 1, 0, 0, 0, 0, 0, 1, 0, 0, 0, 0, 0, 4621256167635550208⟩ : FX)).1 = 0 := by decide +kernel
theorem al_1 : (applyQ (alM 1) (⟨2, 1, 0, 0, 0, 0, 1, 0, 0, 0, 0, 0, 0, 0⟩ : FX)).1 = 0 := by decide +kernel
theorem al_2 : (applyQ (alM 2) (⟨3, 1, 0, 0, 0, 0, 0, 0, 0, 0, 5, 0, 0, 0⟩ : FX)).1 = 0 := by decide +kernel
theorem alM_step : ∀ j (h : j < alF.length), applyQ (alM j) (alF[j]'h) = (0, alM (j + 1)) := by
 intro j h; have h' : j < 3 := h
 rcases (by omega : j = 0 ∨ j = 1 ∨ j = 2) with rfl | rfl | rfl
 ·exact Prod.ext al_0 rfl
 ·exact Prod.ext al_1 rfl
 ·exact Prod.ext al_2 rfl
theorem alM_ok : ∀ j, j ≤ 3 → OkS (alM j)
 | 0, _ => newSt_ok (by omega)
 | n + 1, h => by
  have h1 := alM_ok n (by omega); have hl : n < alF.length := by show n < 3; omega
  have h2 := applyQ_ok (f := alF[n]'hl) h1; have h3 := congrArg Prod.snd (alM_step n hl); exact (show (applyQ (alM n) (alF[n]'hl)).2 = alM (n + 1) from h3) ▸ h2
theorem alF_wf : ∀ f ∈ alF, f.wf := by
 intro f hf; simp only [alF, List.mem_cons, List.not_mem_nil, or_false] at hf
 rcases hf with rfl | rfl | rfl <;> (unfold FX.wf; decide)
theorem alM_find : findS (alM 3).acts 1 0 = some 0 := by decide +kernel
theorem alM_act : ∃ a : AcM, (alM 3).acts[0]? = some a ∧ ∃ g1 g2 z1 z2 z4, a.regs = [⟨g1, g2, ⟨z1, z2, 5, z4⟩⟩] := ⟨_, rfl, _, _, _, _, _, rfl⟩
theorem ow_not {T : TyQ} {B q b : Nat} {m : StM} {gs : List AcG} {va vp : Value} {w : World} {cs : Array Value} {t : TypeId} (h : GS T B q m gs va vp w) (r : w.heap[b]? = some (.cells cs t (0, 0))) (h1 : t ≠ T.st) (h2 : t ≠ T.ac) (h3 : t ≠ T.pt) (h4 : t ≠ T.rg) : ¬ Ow q gs va vp b := by
 rintro (hb | hb | hb | ⟨g, hg, hb⟩)
 ·exact row_neQ r h.row h1 hb
 ·exact nQ h.oa r h2 hb.symm
 ·exact nQ h.op r h3 hb.symm
 ·exact nQ (h.og g hg) r h4 hb.symm
theorem own_asdQ {T : TyQ} {B B' q k n : Nat} {m : StM} {gs : List AcG} {va vp : Value} {O' : Nat → Prop} {w w' : World} {t : TypeId} {v : Value} {us : List Value} (h : GS T B q m gs va vp w) (o : w.ownsRow B' t k v n us) (h1 : t ≠ T.st) (h2 : t ≠ T.ac) (h3 : t ≠ T.pt) (h4 : t ≠ T.rg) (a : Asd (Ow q gs va vp) O' w w') : w'.ownsRow B' t k v n us :=
 sG o fun b hb => by
  obtain ⟨c, hc⟩ := own_kindQ o b hb; exact a.block b (o.lt b hb).2 (ow_not h hc h1 h2 h3 h4)
variable {w0 w w' W w3 : World} {B q : Nat} {m : StM} {gs : List AcG} {va vp : Value}
variable {ads : List Addr}
theorem own_al (B : Nat) (hb : B ≤ w.heap.size) : (w.alloc (.cells #[.int .i64 1, .int .i64 1, .int .i64 0, .int .i64 0, .int .i64 0, .int .i64 0, .int .i64 0, .int .i64 1, .int .i64 0, .int .i64 0, .int .i64 0, .int .i64 0, .int .i64 0, .float .f64 4621256167635550208, .int .i64 2, .int .i64 1, .int .i64 0, .int .i64 0, .int .i64 0, .int .i64 0, .int .i64 1, .int .i64 0, .int .i64 0, .int .i64 0, .int .i64 0, .int .i64 0, .int .i64 0, .float .f64 0, .int .i64 3, .int .i64 1, .int .i64 0, .int .i64 0, .int .i64 0, .int .i64 0, .int .i64 0, .int .i64 0, .int .i64 0, .int .i64 0, .int .i64 5, .int .i64 0, .int .i64 0, .float .f64 0] 39)).ownsRow B 39 14 (.slice (some ⟨w.heap.size, 0, none⟩) 3 3) 3 (fcE.row alF) := by
 have := World.ownsRow_lit (base := B) (e := 39) (size := 14) w #[.int .i64 1, .int .i64 1, .int .i64 0, .int .i64 0, .int .i64 0, .int .i64 0, .int .i64 0, .int .i64 1, .int .i64 0, .int .i64 0, .int .i64 0, .int .i64 0, .int .i64 0, .float .f64 4621256167635550208, .int .i64 2, .int .i64 1, .int .i64 0, .int .i64 0, .int .i64 0, .int .i64 0, .int .i64 1, .int .i64 0, .int .i64 0, .int .i64 0, .int .i64 0, .int .i64 0, .int .i64 0, .float .f64 0, .int .i64 3, .int .i64 1, .int .i64 0, .int .i64 0, .int .i64 0, .int .i64 0, .int .i64 0, .int .i64 0, .int .i64 0, .int .i64 0, .int .i64 5, .int .i64 0, .int .i64 0, .float .f64 0] 3 hb (by decide) rfl; rw [show fcE.row alF = (#[.int .i64 1, .int .i64 1, .int .i64 0, .int .i64 0, .int .i64 0, .int .i64 0, .int .i64 0, .int .i64 1, .int .i64 0, .int .i64 0, .int .i64 0, .int .i64 0, .int .i64 0, .float .f64 4621256167635550208, .int .i64 2, .int .i64 1, .int .i64 0, .int .i64 0, .int .i64 0, .int .i64 0, .int .i64 1, .int .i64 0, .int .i64 0, .int .i64 0, .int .i64 0, .int .i64 0, .int .i64 0, .float .f64 0, .int .i64 3, .int .i64 1, .int .i64 0, .int .i64 0, .int .i64 0, .int .i64 0, .int .i64 0, .int .i64 0, .int .i64 0, .int .i64 0, .int .i64 5, .int .i64 0, .int .i64 0, .float .f64 0]).toList by unfold EncG.row alF; simp [fcE, FX.cells]]
 exact this
theorem alive15_any (C : FacC ads w) (E : EP [0, 3, 4, 8, 13] ads w) : Calls Tryz.prog 8 #[] w fun r w' => r = .returned (.bool true) ∧ Kp w w' := by
 have hnew := fun w1 (hk : Kp w w1) => (lsNew (E.kp hk) 1).mono (R' := fun r w' => ∃ q, r = .returned (.tuple #[.pointer (some ⟨q, 0, none⟩), .nilIface]) ∧ GS tyL w1.heap.size q (newSt 1) [] (.slice none 0 0) (.slice none 0 0) w' ∧ Kp w1 w') (by
  rintro e w2 (⟨h, _⟩ | ⟨_, h⟩)
  ·exact absurd (by unfold inN; omega) h
  ·exact h)
 obtain ⟨HNEW, HC, HE⟩ := hD3 hnew C E; have hsf := sF; clear hnew C E; go_enter Tryz.func8, Tryz.ntmps8; go_wp2_with (go_at_call 9; (with_reducible refine (HNEW.out _ (Kp.refl w)).mono ?_); rintro e' w1 ⟨q, rfl, hg1, hk1⟩; obtain ⟨G1, K1⟩ := hD2 hg1 hk1; have A1 := hD (nX0 w1 (.cells #[(1:Int), (0:Int)] 36) (.cells #[.int .i64 1, .int .i64 1, .int .i64 0, .int .i64 0, .int .i64 0, .int .i64 0, .int .i64 0, .int .i64 1, .int .i64 0, .int .i64 0, .int .i64 0, .int .i64 0, .int .i64 0, .float .f64 4621256167635550208, .int .i64 2, .int .i64 1, .int .i64 0, .int .i64 0, .int .i64 0, .int .i64 0, .int .i64 1, .int .i64 0, .int .i64 0, .int .i64 0, .int .i64 0, .int .i64 0, .int .i64 0, .float .f64 0, .int .i64 3, .int .i64 1, .int .i64 0, .int .i64 0, .int .i64 0, .int .i64 0, .int .i64 0, .int .i64 0, .int .i64 0, .int .i64 0, .int .i64 5, .int .i64 0, .int .i64 0, .float .f64 0] 39)); obtain ⟨b0, b1⟩ := cells_2S (mH w1 (.cells #[(1:Int), (0:Int)] 36)); clear hg1 hk1)
 have kx : Kp w ((w1.alloc (.cells #[(1:Int), (0:Int)] 36)).alloc (.cells #[.int .i64 1, .int .i64 1, .int .i64 0, .int .i64 0, .int .i64 0, .int .i64 0, .int .i64 0, .int .i64 1, .int .i64 0, .int .i64 0, .int .i64 0, .int .i64 0, .int .i64 0, .float .f64 4621256167635550208, .int .i64 2, .int .i64 1, .int .i64 0, .int .i64 0, .int .i64 0, .int .i64 0, .int .i64 1, .int .i64 0, .int .i64 0, .int .i64 0, .int .i64 0, .int .i64 0, .int .i64 0, .float .f64 0, .int .i64 3, .int .i64 1, .int .i64 0, .int .i64 0, .int .i64 0, .int .i64 0, .int .i64 0, .int .i64 0, .int .i64 0, .int .i64 0, .int .i64 5, .int .i64 0, .int .i64 0, .float .f64 0] 39)) := kT K1.out (kT (kA _ _) (kA _ _)); have hO := own_al (w := w1.alloc (.cells #[(1:Int), (0:Int)] 36)) w.heap.size (kS (kT K1.out (kA _ _))); rw [show (w1.alloc (.cells #[(1:Int), (0:Int)] 36)).heap.size = w1.heap.size + 1 by simp] at hO; have hg := G1.out.kp (kT (kA w1 (.cells #[(1:Int), (0:Int)] 36)) (kA _ (.cells #[.int .i64 1, .int .i64 1, .int .i64 0, .int .i64 0, .int .i64 0, .int .i64 0, .int .i64 0, .int .i64 1, .int .i64 0, .int .i64 0, .int .i64 0, .int .i64 0, .int .i64 0, .float .f64 4621256167635550208, .int .i64 2, .int .i64 1, .int .i64 0, .int .i64 0, .int .i64 0, .int .i64 0, .int .i64 1, .int .i64 0, .int .i64 0, .int .i64 0, .int .i64 0, .int .i64 0, .int .i64 0, .float .f64 0, .int .i64 3, .int .i64 1, .int .i64 0, .int .i64 0, .int .i64 0, .int .i64 0, .int .i64 0, .int .i64 0, .int .i64 0, .int .i64 0, .int .i64 5, .int .i64 0, .int .i64 0, .float .f64 0] 39)))
 obtain ⟨KX, HO, HG0⟩ := hD3 kx hO hg; clear kx hO hg; go_loopw [27] (fun i wr => ∃ (j : Nat) (gs : List AcG) (va vp : Value), j ≤ 3 ∧ i = .int .i64 j ∧ GS tyL w.heap.size q (alM j) gs va vp wr ∧ Kp w wr ∧ (wr.ownsRow w.heap.size 39 14 (.slice (some ⟨w1.heap.size + 1, 0, none⟩) 3 3) 3 (fcE.row alF)) ∧ wr.heap[w1.heap.size]? = some (.cells #[(1:Int), (0:Int)] 36)) (fun i _ => 3 - (intOf i).toNat)
 case atStart => exact ⟨0, [], _, _, Nat.zero_le _, rfl, HG0.out, KX.out, HO.out, A1.out⟩
 case round =>
  obtain ⟨j, gs, va, vp, hj, rfl, hg, hk, ho, hb⟩ := hrel; obtain ⟨kk, hkk⟩ : ∃ x : Int, (j : Int) = x := ⟨_, rfl⟩
  rw [hkk]; obtain ⟨HKK, KR, OR, RB, HG⟩ := hD5 hkk hk ho hb hg
  by_cases hlt : j < 3
  ·have hjl : kk < 3 := by omega
   have hk0 : 0 ≤ kk := by omega
   have htk : kk.toNat = j := by omega
   have hw1 : wrap64 (kk + 1) = kk + 1 := IntWalk.wrap64_in _ (by omega); have HLT := hD hlt; obtain ⟨ga, cga, ega, h1ga, h2ga, h3ga, h4ga, hcga⟩ := cQ (E := fcE) ho (show alF.length = 3 from rfl) hlt; have hlt' : j < alF.length := hlt; have ega := congrArg (fun v => match v with | Value.slice a _ _ => a | _ => none) ega; dsimp only at ega; have ega := Option.some.inj ega; have ega := congrArg Addr.block ega; dsimp only at ega; subst ega; obtain ⟨⟨fk, fn, fs, fr, fe, fp, fq, fo, fd, fa, ft, fh, fc, fx⟩, hyga⟩ : ∃ r, alF[j]'hlt' = r := ⟨_, rfl⟩
   rw [hyga, show fcE.k = 14 from rfl, ← htk] at hcga; have zf0 : wr.cell? ⟨w1.heap.size + 1, kk.toNat * 14, none⟩ = some (.int .i64 fk) := hcga 0 _ (by decide) rfl; have zf1 : wr.cell? ⟨w1.heap.size + 1, kk.toNat * 14 + 1, none⟩ = some (.int .i64 fn) := hcga 1 _ (by decide) rfl; have zf2 : wr.cell? ⟨w1.heap.size + 1, kk.toNat * 14 + 2, none⟩ = some (.int .i64 fs) := hcga 2 _ (by decide) rfl; have zf3 : wr.cell? ⟨w1.heap.size + 1, kk.toNat * 14 + 3, none⟩ = some (.int .i64 fr) := hcga 3 _ (by decide) rfl; have zf4 : wr.cell? ⟨w1.heap.size + 1, kk.toNat * 14 + 4, none⟩ = some (.int .i64 fe) := hcga 4 _ (by decide) rfl; have zf5 : wr.cell? ⟨w1.heap.size + 1, kk.toNat * 14 + 5, none⟩ = some (.int .i64 fp) := hcga 5 _ (by decide) rfl; have zf6 : wr.cell? ⟨w1.heap.size + 1, kk.toNat * 14 + 6, none⟩ = some (.int .i64 fq) := hcga 6 _ (by decide) rfl; have zf7 : wr.cell? ⟨w1.heap.size + 1, kk.toNat * 14 + 7, none⟩ = some (.int .i64 fo) := hcga 7 _ (by decide) rfl
   have zf8 : wr.cell? ⟨w1.heap.size + 1, kk.toNat * 14 + 8, none⟩ = some (.int .i64 fd) := hcga 8 _ (by decide) rfl; have zf9 : wr.cell? ⟨w1.heap.size + 1, kk.toNat * 14 + 9, none⟩ = some (.int .i64 fa) := hcga 9 _ (by decide) rfl; have zf10 : wr.cell? ⟨w1.heap.size + 1, kk.toNat * 14 + 10, none⟩ = some (.int .i64 ft) := hcga 10 _ (by decide) rfl; have zf11 : wr.cell? ⟨w1.heap.size + 1, kk.toNat * 14 + 11, none⟩ = some (.int .i64 fh) := hcga 11 _ (by decide) rfl; have zf12 : wr.cell? ⟨w1.heap.size + 1, kk.toNat * 14 + 12, none⟩ = some (.int .i64 fc) := hcga 12 _ (by decide) rfl; have zf13 : wr.cell? ⟨w1.heap.size + 1, kk.toNat * 14 + 13, none⟩ = some (.float .f64 fx) := hcga 13 _ (by decide) rfl; obtain ⟨u0, u1, u2, u3, u4, u5, u6, u7, u8, u9, u10, u11, u12, u13⟩ := cZ (mH wr (.cells #[fk, fn, fs, fr, fe, fp, fq, fo, fd, fa, ft, fh, fc, fx] 39)); have hwf : FX.wf (⟨fk, fn, fs, fr, fe, fp, fq, fo, fd, fa, ft, fh, fc, fx⟩ : FX) := by rw [← hyga]; exact alF_wf _ (List.getElem_mem hlt')
   have hst := alM_step j hlt'; rw [hyga] at hst; have hap := fun w2 (hk1 : Kp wr w2) => lsApply_any (HC.out.kp (kT hk hk1)) (HE.out.kp (kT hk hk1)) (hg.kp hk1) (alM_ok j (by omega)) (⟨fk, fn, fs, fr, fe, fp, fq, fo, fd, fa, ft, fh, fc, fx⟩ : FX) hwf
   rw [hst] at hap; dsimp only [FX.cells] at hap; rw [eN] at hap; have HAP := hD hap; have HOW := hD (show ∀ b, Ow q gs va vp b → w.heap.size ≤ b from fun b hb => (hg.mem b hb).1); have hlt2 := hlt; clear hlt2 hlt' hkk hj hlt hg hk ho hb htk h1ga h2ga h3ga h4ga hcga hyga hwf hst hap; go_wp2_with (go_at_call 11; (with_reducible refine (HAP.out _ (kA wr (.cells #[fk, fn, fs, fr, fe, fp, fq, fo, fd, fa, ft, fh, fc, fx] 39))).mono ?_); rintro e' w5 ⟨rfl, gs2, va2, vp2, hg, ha⟩; obtain ⟨G5, A5⟩ := hD2 hg ha; clear hg ha)
   have KB := hD (kA wr (.cells #[fk, fn, fs, fr, fe, fp, fq, fo, fd, fa, ft, fh, fc, fx] 39)); go_roundw
   case rel => exact ⟨j + 1, gs2, va2, vp2, by have := HLT.out; omega, by have := HKK.out; first | rw [show ((j + 1 : Nat) : Int) = kk + 1 by omega] | rw [show ((j + 1 : Nat) : Int) = kk + 1 by omega, hw1], G5.out, A5.out.kp (kT KR.out KB.out) HOW.out, own_asdQ (HG.out.kp KB.out) (oK OR.out KB.out) (by decide) (by decide) (by decide) (by decide) A5.out, (A5.out.block _ (oZ (rZ KB.out RB.out)) (ow_not (HG.out.kp KB.out) (rZ KB.out RB.out) (by decide) (by decide) (by decide) (by decide))).trans (rZ KB.out RB.out)⟩
   case measure => have := HKK.out; have := HLT.out; simp [intOf]; omega
  ·have hje : ¬ kk < 3 := by omega
   have h3 : j = 3 := by omega
   rw [h3] at hg; have h8 : gs.length ≤ 8 := by rw [hg.len]; exact (alM_ok 3 (by omega)).l8
   have h6 : ∀ a ∈ (alM 3).acts, a.regs.length ≤ 6 := fun a ha => ((alM_ok 3 (by omega)).a a ha).l
   have HF := hD (fun w2 (hk1 : Kp wr w2) => stFind (hg.kp hk1) h8 h6 1 0); obtain ⟨b2, b3⟩ := cells_2S hb; clear hkk hj hlt hk ho hb h3 hg h8 h6; go_wp2_with (go_at_call 22; (with_reducible refine (HF.out _ (Kp.refl wr)).mono ?_); rintro e' w3 ⟨v, rfl, ⟨xa, xb, xk, hv, hx, hO⟩, hk3⟩; rw [alM_find] at hx ⊢; obtain ⟨ya, hy, g1, g2, z1, z2, z4, hre⟩ := alM_act; obtain rfl := Option.some.inj (hy.symm.trans hx); obtain ⟨⟨xn, xs, xo, xd, xx⟩, xp, xc, xr⟩ := ya; dsimp only at hre; subst hre; unfold acV at hv; dsimp only [List.length_cons, List.length_nil] at hv; subst hv; obtain ⟨gr, ck, exb, hck, hgrB, hgrl, hfzr, hcr⟩ := cQ (E := rgE) (n := 1) hO rfl (by omega : 0 < 1); have exb := congrArg (fun v => match v with | Value.slice a _ _ => a | _ => none) exb; dsimp only at exb; subst exb; have c4 : w3.cell? ⟨gr, 4, none⟩ = some (.int .i64 5) := hcr 4 _ (by decide) rfl; have KQ := hD (kT KR.out (kT hk3 (kA w3 (.cells #[xn, xs, xo, xd, xx, xp, xc, .slice (some ⟨gr, 0, none⟩) 1 xk] 65))));  obtain ⟨d0, d1, d2, d3, d4, d5, d6, d7⟩ := c8X (mH w3 (.cells #[xn, xs, xo, xd, xx, xp, xc, .slice (some ⟨gr, 0, none⟩) 1 xk] 65)); have c4 := kZ (kA w3 (.cells #[xn, xs, xo, xd, xx, xp, xc, .slice (some ⟨gr, 0, none⟩) 1 xk] 65)) c4; clear hcr hfzr hck hgrB hgrl hO hx hy hk3)
   go_ret; exact ⟨rfl, KQ.out⟩
theorem dreg_fields : Tryz.prog.underlying 103 = some (.struct (Tryz.prog.fieldsOf 103)) := by
 unfold Program.fieldsOf; rw [Tryz.underlying103]
theorem dreg_neq (n s a b c d : Int) (w : World) : (binOp .neq 103 (.agg #[n, s, a, b, c, d]) (.agg #[n, s, a, b, c, d])).run Tryz.prog w = .ok (.bool false) w := by
 have ha : Tryz.prog.stoodInHeld 103 = false := by kernel_rfl
 have hb0 : Tryz.prog.stoodInHeld 90 = false := by kernel_rfl
 rw [run_neq_struct, show (10000 : Nat) = 9998 + 1 + 1 from rfl, run_equalIn_agg w (9998 + 1) 103 _ _ dreg_fields ha]
 simp [Program.fieldsOf, Tryz.underlying103, Tryz.underlying90, Op.eqFields, part, go_sem, Tryz.underlying3]
theorem dreg_guard (op : BinOp) (x y : Operand) (n s a b c d : Int) (w : World) : (eqGuard op 103 x y (.agg #[n, s, a, b, c, d]) (.agg #[n, s, a, b, c, d])).run Tryz.prog w = .ok () w := run_eqGuard_agg w op 103 x y _ _ (by kernel_rfl)
theorem dprt_fields : Tryz.prog.underlying 92 = some (.struct (Tryz.prog.fieldsOf 92)) := by
 unfold Program.fieldsOf; rw [Tryz.underlying92]
theorem dprt_neq (n s r a b c d : Int) (w : World) : (binOp .neq 92 (.agg #[n, s, r, a, b, c, d]) (.agg #[n, s, r, a, b, c, d])).run Tryz.prog w = .ok (.bool false) w := by
 have ha : Tryz.prog.stoodInHeld 92 = false := by kernel_rfl
 have hb0 : Tryz.prog.stoodInHeld 36 = false := by kernel_rfl
 have hb1 : Tryz.prog.stoodInHeld 90 = false := by kernel_rfl
 rw [run_neq_struct, show (10000 : Nat) = 9998 + 1 + 1 from rfl, run_equalIn_agg w (9998 + 1) 92 _ _ dprt_fields ha]
 simp [Program.fieldsOf, Tryz.underlying92, Tryz.underlying36, Tryz.underlying90, Op.eqFields, part, go_sem, Tryz.underlying3]
theorem dprt_guard (op : BinOp) (x y : Operand) (n s r a b c d : Int) (w : World) : (eqGuard op 92 x y (.agg #[n, s, r, a, b, c, d]) (.agg #[n, s, r, a, b, c, d])).run Tryz.prog w = .ok () w := run_eqGuard_agg w op 92 x y _ _ (by kernel_rfl)
theorem sameAct15 {B1 B2 : Nat} (xn xs xo xd : Int) (xx : Nat) (xp xc : Int) (hxx : xx < 18446744073709551616) (b1 b2 : Option Addr) (k1 k2 n : Nat) (xr : List RgM) (hn : xr.length = n) (h6 : n ≤ 6) (hO1 : w.ownsRow B1 103 6 (.slice b1 n k1) n (rgE.row xr)) (hO2 : w.ownsRow B2 103 6 (.slice b2 n k2) n (rgE.row xr)) :
  Calls Tryz.prog 36 #[.agg #[xn, xs, xo, xd, xx, xp, xc, .slice b1 n k1], .agg #[xn, xs, xo, xd, xx, xp, xc, .slice b2 n k2]] w fun r w' => r = .returned (.bool true) ∧ Kp w w' := by
 have hsm := fun w1 => refSame9_any ⟨xn, xs, xo, xd, xx⟩ ⟨xn, xs, xo, xd, xx⟩ hxx hxx w1
 simp only [show sameX ⟨xn, xs, xo, xd, xx⟩ ⟨xn, xs, xo, xd, xx⟩ = true from by unfold sameX; simp] at hsm
 dsimp only [CX.cells] at hsm; have k2w : Kp w ((w.alloc (.cells #[xn, xs, xo, xd, xx, xp, xc, .slice b1 n k1] 89)).alloc (.cells #[xn, xs, xo, xd, xx, xp, xc, .slice b2 n k2] 89)) := kT (kA _ _) (kA _ _); have r1 := nX0 w (.cells #[xn, xs, xo, xd, xx, xp, xc, .slice b1 n k1] 89) (.cells #[xn, xs, xo, xd, xx, xp, xc, .slice b2 n k2] 89); have r2 := nX1 w (.cells #[xn, xs, xo, xd, xx, xp, xc, .slice b1 n k1] 89) (.cells #[xn, xs, xo, xd, xx, xp, xc, .slice b2 n k2] 89); obtain ⟨W, hW⟩ : ∃ W, ((w.alloc (.cells #[xn, xs, xo, xd, xx, xp, xc, .slice b1 n k1] 89)).alloc (.cells #[xn, xs, xo, xd, xx, xp, xc, .slice b2 n k2] 89)) = W := ⟨_, rfl⟩
 rw [hW] at k2w r1 r2; obtain ⟨u0, u1, u2, u3, u4, u5, u6, u7⟩ := c8X r1; obtain ⟨v0, v1, v2, v3, v4, v5, v6, v7⟩ := c8X r2; obtain ⟨HSM, K2, RA, RB, HN, H6, O1, O2⟩ := hD8 hsm k2w r1 r2 hn h6 hO1 hO2; obtain ⟨N, hN⟩ : ∃ N : Int, (n : Int) = N := ⟨_, rfl⟩
 have HNN := hD hN; have hsf := sF; clear hsm k2w r1 r2 hn h6 hO1 hO2 hxx; go_enter Tryz.func36, Tryz.ntmps36; go_wp2_with (go_at_call 79; (with_reducible refine (HSM.out _).mono ?_); rintro e' w3 ⟨rfl, hk3⟩; have R1 := hD (rZ hk3 RA.out); have R2 := hD (rZ hk3 RB.out); obtain ⟨q0, q1, q2, q3, q4, q5, q6, q7⟩ := c8X R1.out; obtain ⟨p0, p1, p2, p3, p4, p5, p6, p7⟩ := c8X R2.out; have K3 := hD (kT K2.out hk3); clear hk3 u0 u1 u2 u3 u4 u5 u6 u7 v0 v1 v2 v3 v4 v5 v6 v7)
 go_loopw [38] (fun i wr => ∃ j : Nat, j ≤ n ∧ i = .int .i64 j ∧ Kp w wr ∧ wr.heap[w.heap.size]? = some (.cells #[xn, xs, xo, xd, xx, xp, xc, .slice b1 n k1] 89) ∧ wr.heap[w.heap.size + 1]? = some (.cells #[xn, xs, xo, xd, xx, xp, xc, .slice b2 n k2] 89)) (fun i _ => n - (intOf i).toNat)
 case atStart => exact ⟨0, Nat.zero_le _, rfl, K3.out, R1.out, R2.out⟩
 case round =>
  obtain ⟨j, hj, rfl, hk, hr0, hr1⟩ := hrel; obtain ⟨kk, hkk⟩ : ∃ x : Int, (j : Int) = x := ⟨_, rfl⟩
  rw [hkk]; obtain ⟨HKK, KR⟩ := hD2 hkk hk
  by_cases hlt : j < n
  ·have hjl : kk < N := by have := HNN.out; omega
   have hk0 : 0 ≤ kk := by omega
   have htk : kk.toNat = j := by omega
   have hn6 : N ≤ 6 := by have := HNN.out; have := H6.out; omega
   have hw1 : wrap64 (kk + 1) = kk + 1 := IntWalk.wrap64_in _ (by omega); have HLT := hD hlt; have hjo : j < xr.length := by have := HN.out; omega
   obtain ⟨⟨yn, yp, ⟨y1, y2, y3, y4⟩⟩, hy⟩ : ∃ r, xr[j]'hjo = r := ⟨_, rfl⟩
   obtain ⟨g1, ck1, ex1, hck1, hgB1, hgl1, hfz1, hcr1⟩ := cQ (E := rgE) (oK O1.out hk) HN.out hlt; have hcs1 : ∀ (i : Nat) (u : Value), i < rgE.k → (rgE.enc (xr[j]'hjo))[i]? = some u → wr.cell? ⟨g1, j * rgE.k + i, none⟩ = some u := hcr1; rw [hy, show rgE.k = 6 from rfl, ← htk] at hcs1; have ex1 := congrArg (fun v => match v with | Value.slice a _ _ => a | _ => none) ex1; dsimp only at ex1; subst ex1; obtain ⟨c0, c1, c2, c3, c4, c5⟩ := cW6 hcs1; obtain ⟨g2, ck2, ex2, hck2, hgB2, hgl2, hfz2, hcr2⟩ := cQ (E := rgE) (oK O2.out hk) HN.out hlt; have hcs2 : ∀ (i : Nat) (u : Value), i < rgE.k → (rgE.enc (xr[j]'hjo))[i]? = some u → wr.cell? ⟨g2, j * rgE.k + i, none⟩ = some u := hcr2; rw [hy, show rgE.k = 6 from rfl, ← htk] at hcs2; have ex2 := congrArg (fun v => match v with | Value.slice a _ _ => a | _ => none) ex2; dsimp only at ex2; subst ex2; obtain ⟨d0, d1, d2, d3, d4, d5⟩ := cW6 hcs2; obtain ⟨_, _, _, _, _, _, _, z7⟩ := c8X hr0
   obtain ⟨_, _, _, _, _, _, _, p7⟩ := c8X hr1; obtain ⟨R0, R1⟩ := hD2 hr0 hr1; have hne := fun w => dreg_neq yn yp y1 y2 y3 y4 w
   have hgd := fun op x y (w : World) => dreg_guard op x y yn yp y1 y2 y3 y4 w
   clear hkk hj hlt hk hr0 hr1 htk hck1 hgB1 hgl1 hfz1 hcr1 hcs1 hck2 hgB2 hgl2 hfz2 hcr2 hcs2 hy hjo; go_wp2_with fail
   obtain ⟨WD, hWD⟩ : ∃ x, (wr).drew = x := ⟨_, rfl⟩
   have kD : Kp (wr) WD := by rw [← hWD]; exact dQ (Kp.refl _)
   have HWD := hD hWD; clear hWD; refine rgW (fun w' => Kp (wr) w') ?_ fun hH => ?_
   ·exact by rw [HWD.out]; exact kD
   rw [HWD.out] at hH ⊢; refine tkP 0 ?_
   go_simp; refine tkP 1 ?_ (y := by intro w hZ; obtain ⟨s7, t7, a0, b0, a1, b1, a2, b2, a3, b3, a4, b4, a5, b5⟩ := kZ14 hZ z7 p7 c0 d0 c1 d1 c2 d2 c3 d3 c4 d4 c5 d5; go_simp; try rfl)
   go_simp; refine tkP 2 ?_
   go_simp; refine tkP 3 ?_
   go_simp; refine tkP 4 ?_ (y := by intro w hZ; obtain ⟨s7, t7, a0, b0, a1, b1, a2, b2, a3, b3, a4, b4, a5, b5⟩ := kZ14 hZ z7 p7 c0 d0 c1 d1 c2 d2 c3 d3 c4 d4 c5 d5; go_simp; try rfl)
   go_simp; refine tkP 5 ?_
   go_simp; refine tkP 6 ?_ (y := by intro w hZ; obtain ⟨s7, t7, a0, b0, a1, b1, a2, b2, a3, b3, a4, b4, a5, b5⟩ := kZ14 hZ z7 p7 c0 d0 c1 d1 c2 d2 c3 d3 c4 d4 c5 d5; go_simp; try rfl)
   go_simp; refine tkP 7 ?_
   go_simp; refine tkP 8 ?_
   go_simp; refine tkP 9 ?_ (y := by intro w hZ; obtain ⟨s7, t7, a0, b0, a1, b1, a2, b2, a3, b3, a4, b4, a5, b5⟩ := kZ14 hZ z7 p7 c0 d0 c1 d1 c2 d2 c3 d3 c4 d4 c5 d5; go_simp; try rfl)
   go_simp; refine tkP 10 ?_
   go_simp; refine dnW ?_ _
   have KF := hD (show Kp (wr) _ from hH); clear hH; go_wp2; go_roundw
   case rel => exact ⟨j + 1, by have := HLT.out; omega, by have := HKK.out; first | rw [show ((j + 1 : Nat) : Int) = kk + 1 by omega] | rw [show ((j + 1 : Nat) : Int) = kk + 1 by omega, hw1], kT KR.out KF.out, rZ KF.out R0.out, rZ KF.out R1.out⟩
   case measure => have := HKK.out; have := HLT.out; simp [intOf]; omega
  ·have hje : ¬ kk < N := by have := HNN.out; omega
   clear hkk hj hlt hk hr0 hr1; go_wp2; go_ret; exact ⟨rfl, KR.out⟩
theorem al3_2 (w : World) (o1 o2 o3 : Obj) : (((w.alloc o1).alloc o2).alloc o3).heap[w.heap.size + 1 + 1]? = some o3 := by
 have := (mH ((w.alloc o1).alloc o2) o3)
 simpa using this
theorem lawPart15 (yn ys yr y1 y2 y3 y4 : Int) : Calls Tryz.prog 38 #[.agg #[yn, ys, yr, y1, y2, y3, y4]] w fun r w' => r = .returned (.agg #[yn, ys, yr, y1, y2, y3, y4]) ∧ Kp w w' := by
 have k1 : Kp w ((w.alloc (.cells #[yn, ys, yr, y1, y2, y3, y4] 75)).alloc (.cells #[(0:Int), (0:Int), (0:Int), (0:Int), (0:Int), (0:Int), (0:Int)] 92)) := kT (kA _ _) (kA _ _); have r1 := nX0 w (.cells #[yn, ys, yr, y1, y2, y3, y4] 75) (.cells #[(0:Int), (0:Int), (0:Int), (0:Int), (0:Int), (0:Int), (0:Int)] 92); have r2 := nX1 w (.cells #[yn, ys, yr, y1, y2, y3, y4] 75) (.cells #[(0:Int), (0:Int), (0:Int), (0:Int), (0:Int), (0:Int), (0:Int)] 92); obtain ⟨W, hW⟩ : ∃ W, (w.alloc (.cells #[yn, ys, yr, y1, y2, y3, y4] 75)).alloc (.cells #[(0:Int), (0:Int), (0:Int), (0:Int), (0:Int), (0:Int), (0:Int)] 92) = W := ⟨_, rfl⟩
 rw [hW] at k1 r1 r2; obtain ⟨u0, u1, u2, u3, u4, u5, u6⟩ := c7X r1; obtain ⟨v0, v1, v2, v3, v4, v5, v6⟩ := c7X r2; have fz := fQ r2; obtain ⟨K1, R2⟩ := hD2 k1 r2; have hsf := sF; clear k1 r1 r2; go_enter Tryz.func38, Tryz.ntmps38; go_wp2; refine bodyPost_ret (results_cell_row (p := 2) rfl _ _ (w.heap.size + 1) 92 _ (0, 0) _ rfl (set_7 (.int .i64 yn) (.int .i64 ys) (.int .i64 yr) (.int .i64 y1) (.int .i64 y2) (.int .i64 y3) (.int .i64 y4) R2.out) Tryz.underlying92 rfl (by kernel_rfl)) rfl ?_
 exact ⟨rfl, set_7_kp K1.out (by omega) _ _ _ _ _ _ _⟩
theorem lawAct15 (xn xs xo xd : Int) (xx : Nat) (xp xc : Int) (xb : Option Addr) (n xk : Nat) (xr : List RgM) (hn : xr.length = n) (h6 : n ≤ 6) (hO : w.ownsRow B 69 6 (.slice xb n xk) n (rgE.row xr)) :
  Calls Tryz.prog 37 #[.agg #[xn, xs, xo, xd, xx, xp, xc, .slice xb n xk]] w fun r w' => ∃ (a1 : Option Addr) (c1 : Nat), r = .returned (.agg #[xn, xs, xo, xd, xx, xp, xc, .slice a1 n c1]) ∧ w'.ownsRow w.heap.size 103 6 (.slice a1 n c1) n (rgE.row xr) ∧ Kp w w' := by
 have kv : Kp w ((w.alloc (.cells #[xn, xs, xo, xd, xx, xp, xc, .slice xb n xk] 65)).alloc (.cells #[(0:Int), (0:Int), (0:Int), (0:Int), .float .f64 0, (0:Int), (0:Int), .slice none 0 0] 89)) := kT (kA _ _) (kA _ _); have ra := nX0 w (.cells #[xn, xs, xo, xd, xx, xp, xc, .slice xb n xk] 65) (.cells #[(0:Int), (0:Int), (0:Int), (0:Int), .float .f64 0, (0:Int), (0:Int), .slice none 0 0] 89); have k1 : Kp w (((w.alloc (.cells #[xn, xs, xo, xd, xx, xp, xc, .slice xb n xk] 65)).alloc (.cells #[(0:Int), (0:Int), (0:Int), (0:Int), .float .f64 0, (0:Int), (0:Int), .slice none 0 0] 89)).alloc (.cells #[xn, xs, xo, xd, xx, xp, xc, .slice none 0 0] 89)) := kT kv (kA _ _); have rb := al3_1 w (.cells #[xn, xs, xo, xd, xx, xp, xc, .slice xb n xk] 65) (.cells #[(0:Int), (0:Int), (0:Int), (0:Int), .float .f64 0, (0:Int), (0:Int), .slice none 0 0] 89) (.cells #[xn, xs, xo, xd, xx, xp, xc, .slice none 0 0] 89)
 have rc := al3_2 w (.cells #[xn, xs, xo, xd, xx, xp, xc, .slice xb n xk] 65) (.cells #[(0:Int), (0:Int), (0:Int), (0:Int), .float .f64 0, (0:Int), (0:Int), .slice none 0 0] 89) (.cells #[xn, xs, xo, xd, xx, xp, xc, .slice none 0 0] 89); obtain ⟨u0, u1, u2, u3, u4, u5, u6, u7⟩ := c8X ra; have ra3 := al3_0 w (.cells #[xn, xs, xo, xd, xx, xp, xc, .slice xb n xk] 65) (.cells #[(0:Int), (0:Int), (0:Int), (0:Int), .float .f64 0, (0:Int), (0:Int), .slice none 0 0] 89) (.cells #[xn, xs, xo, xd, xx, xp, xc, .slice none 0 0] 89); obtain ⟨s0, s1, s2, s3, s4, s5, s6, s7⟩ := c8X ra3; have hn0 : (((w.alloc (.cells #[xn, xs, xo, xd, xx, xp, xc, .slice xb n xk] 65)).alloc (.cells #[(0:Int), (0:Int), (0:Int), (0:Int), .float .f64 0, (0:Int), (0:Int), .slice none 0 0] 89)).alloc (.cells #[xn, xs, xo, xd, xx, xp, xc, .slice none 0 0] 89)).ownsRow w.heap.size 103 6 (.slice none 0 0) 0 (rgE.row (xr.take 0)) := by rw [List.take_zero]; exact World.ownsRow_nil _ _ _ _
 obtain ⟨K1, RZ, RN, ON, HN, H6⟩ := hD6 k1 rb rc hn0 hn h6; have OR := hD hO; obtain ⟨N, hN⟩ : ∃ N : Int, (n : Int) = N := ⟨_, rfl⟩
 have HNN := hD hN; have hsf := sF; clear kv ra k1 rb rc ra3 hn0 hn h6 hO; go_enter Tryz.func37, Tryz.ntmps37; go_wp2; go_loopw [16] (fun i wr => ∃ (j : Nat) (v : Value), j ≤ n ∧ i = .int .i64 j ∧ Kp w wr ∧ wr.heap[w.heap.size + 1]? = some (.cells #[(0:Int), (0:Int), (0:Int), (0:Int), .float .f64 0, (0:Int), (0:Int), .slice none 0 0] 89) ∧ wr.heap[w.heap.size + 1 + 1]? = some (.cells #[xn, xs, xo, xd, xx, xp, xc, v] 89) ∧ wr.ownsRow w.heap.size 103 6 v j (rgE.row (xr.take j))) (fun i _ => n - (intOf i).toNat)
 case atStart => exact ⟨0, _, Nat.zero_le _, rfl, K1.out, RZ.out, RN.out, ON.out⟩
 case round =>
  obtain ⟨j, v, hj, rfl, hk, hz, hr, ho⟩ := hrel; obtain ⟨a1, c1, rfl⟩ := fG ho; obtain ⟨kk, hkk⟩ : ∃ x : Int, (j : Int) = x := ⟨_, rfl⟩
  obtain ⟨HKK, KR, OW, RZ1, RN1⟩ := hD5 hkk hk ho hz hr
  by_cases hlt : j < n
  ·rw [hkk]; have hjl : kk < N := by have := HNN.out; omega
   have hk0 : 0 ≤ kk := by omega
   have htk : kk.toNat = j := by omega
   have hn6 : N ≤ 6 := by have := HNN.out; have := H6.out; omega
   have hw1 : wrap64 (kk + 1) = kk + 1 := IntWalk.wrap64_in _ (by omega); have HLT := hD hlt; have HLB := hD (show j + 1 ≤ 1000000 by have := H6.out; omega); have hjo : j < xr.length := by have := HN.out; omega
   obtain ⟨gr, ck, exb, hck, hgrB, hgrl, hfzr, hcr⟩ := cQ (E := rgE) (oK OR.out hk) HN.out hlt; obtain ⟨⟨yn, yp, ⟨y1, y2, y3, y4⟩⟩, hy⟩ : ∃ r, xr[j]'hjo = r := ⟨_, rfl⟩
   have hcr2 : ∀ (i : Nat) (u : Value), i < rgE.k → (rgE.enc (xr[j]'hjo))[i]? = some u → wr.cell? ⟨gr, j * rgE.k + i, none⟩ = some u := hcr; rw [hy, show rgE.k = 6 from rfl, ← htk] at hcr2; have exb := congrArg (fun v => match v with | Value.slice a _ _ => a | _ => none) exb; dsimp only at exb; subst exb; obtain ⟨e0, e1, e2, e3, e4, e5⟩ := cW6 hcr2; have kb := kA wr (.cells #[yn, yp, y1, y2, y3, y4] 69); obtain ⟨d0, d1, d2, d3, d4, d5⟩ := cells_6Q (mH wr (.cells #[yn, yp, y1, y2, y3, y4] 69)); obtain ⟨_, _, _, _, _, _, _, n7⟩ := c8X (rZ kb hr); have hts : xr.take (j + 1) = xr.take j ++ [xr[j]] := by rw [← List.take_succ_eq_append_getElem hjo]
   rw [hy] at hts; have HTS := hD hts; have kx : Kp wr ((wr.alloc (.cells #[yn, yp, y1, y2, y3, y4] 69)).alloc (.cells #[yn, yp, y1, y2, y3, y4] 103)) := kT kb (kA _ _); have KX := hD kx; clear hkk hj hlt hk hz hr ho htk hck hgrB hgrl hfzr hcr hcr2 hy hts hjo kb kx; go_wp2_with (at_builtin; refine aG (E := rgE) ty_rgD (by decide) _ rfl _ _ rfl w.heap.size _ j _ rfl (oK OW.out KX.out) _ [(⟨yn, yp, ⟨y1, y2, y3, y4⟩⟩ : RgM)] rfl (pG (nX1 wr (.cells #[yn, yp, y1, y2, y3, y4] 69) (.cells #[yn, yp, y1, y2, y3, y4] 103)) rfl) HLB.out (kS (kT KR.out KX.out)) ?_)
   rintro v6 u6 o6 hg hb6; have o6 : u6.ownsRow w.heap.size 103 6 v6 (j + 1) (rgE.row (xr.take j ++ [(⟨yn, yp, ⟨y1, y2, y3, y4⟩⟩ : RgM)])) := o6; obtain ⟨a6, c6, rfl⟩ := fG o6; have OX := oK OW.out KX.out; have K6 : Kp w u6 := Below.grown (kT KR.out KX.out) hg (Below.size (kT KR.out KX.out)) (fun b hk => (OX.lt b hk).1); have q1 := (hg.block _ (oZ (rZ KX.out RZ1.out)) (nQ OX (rZ KX.out RZ1.out) (by decide))).trans (rZ KX.out RZ1.out); have q2 := (hg.block _ (oZ (rZ KX.out RN1.out)) (nQ OX (rZ KX.out RN1.out) (by decide))).trans (rZ KX.out RN1.out); obtain ⟨_, _, _, _, _, _, _, m7⟩ := c8X q2; have fz := fQ q2 7; obtain ⟨w7, hw7⟩ : ∃ x, u6.setCell ⟨w.heap.size + 1 + 1, 7, none⟩ (.slice a6 (j + 1) c6) = x := ⟨_, rfl⟩
   have k7 : Kp w w7 := by rw [← hw7]; exact Below.setCell K6 (by dsimp only; omega) _
   have z7 : w7.heap[w.heap.size + 1]? = some (.cells #[(0:Int), (0:Int), (0:Int), (0:Int), .float .f64 0, (0:Int), (0:Int), .slice none 0 0] 89) := by rw [← hw7, bS _ _ _ _ (by dsimp only; omega)]; exact q1
   have n7 : w7.heap[w.heap.size + 1 + 1]? = some (.cells #[xn, xs, xo, xd, xx, xp, xc, .slice a6 (j + 1) c6] 89) := by rw [← hw7]; exact (Joins.block_setCell q2 _).trans rfl
   have o7 : w7.ownsRow w.heap.size 103 6 (.slice a6 (j + 1) c6) (j + 1) (rgE.row (xr.take (j + 1))) := by
    rw [← hw7, HTS.out]; exact sG o6 (fun b e => bS _ _ _ _ (fun e2 => nQ o6 q2 (by decide) (by rw [e2] at e; exact e.symm)))
   obtain ⟨K7, Z7, N7, O7⟩ := hD4 k7 z7 n7 o7; clear OX K6 q1 q2 o6 hg hb6 k7 z7 n7 o7; go_wp2; go_roundw
   case rel => exact ⟨j + 1, .slice a6 (j + 1) c6, by have := HLT.out; omega, by have := HKK.out; first | rw [show ((j + 1 : Nat) : Int) = kk + 1 by omega] | rw [show ((j + 1 : Nat) : Int) = kk + 1 by omega, hw1], K7.out, Z7.out, N7.out, O7.out⟩
   case measure => have := HKK.out; have := HLT.out; simp [intOf]; omega
  ·have hjn : j = n := by omega
   subst hjn; have hje : ¬ kk < N := by have := HNN.out; omega
   have hfin : xr.take j = xr := by rw [← HN.out, List.take_length]
   rw [hfin] at ho; have OE := hD ho; obtain ⟨n0, n1, n2, n3, n4, n5, n6, n7⟩ := c8X hr; obtain ⟨z0, z1, z2, z3, z4, z5, z6, z7⟩ := c8X hz; have fz := fQ hz; rw [hkk]; clear hkk hj hlt hk hz hr ho hfin; go_wp2; refine bodyPost_ret (results_cell_row (p := 2) rfl _ _ (w.heap.size + 1) 89 _ (0, 0) _ rfl (set_8 (.int .i64 xn) (.int .i64 xs) (.int .i64 xo) (.int .i64 xd) (.float .f64 xx) (.int .i64 xp) (.int .i64 xc) (.slice a1 j c1) RZ1.out) Tryz.underlying89 rfl (by kernel_rfl)) rfl ?_
   refine ⟨a1, c1, rfl, sG OE.out (fun b e => ?_), set_8_kp KR.out (by omega) _ _ _ _ _ _ _ _⟩
   have hne : b ≠ w.heap.size + 1 := fun e2 => nQ OE.out RZ1.out (by decide) (by rw [e2] at e; exact e.symm)
   rw [bS _ _ _ _ hne, bS _ _ _ _ hne, bS _ _ _ _ hne, bS _ _ _ _ hne, bS _ _ _ _ hne, bS _ _ _ _ hne, bS _ _ _ _ hne, bS _ _ _ _ hne]
end Go.Proofs.YtpemeenfhkgmpaaGreatDoor
