/- Parts of this proof (own work). -/
import Derived.Test.YtpemeenfhkgmpaaGreatDoorZr36
import Derived.ChangeSame
import Derived.Test.YtpemeenfhkgmpaaGreatDoorZr38
set_option maxRecDepth 100000
set_option maxHeartbeats 40000000
namespace Go.Proofs.YtpemeenfhkgmpaaGreatDoor
open Go.RowKit Go.ChangeShapes Go.WideShapes
theorem GS.beside {T : TyQ} {B q : Nat} {m : StM} {gs : List AcG} {va vp : Value} {O O' : Nat → Prop} {w w' : World} (h : GS T B q m gs va vp w) (a : Asd O O' w w') (hd : ∀ b, Ow q gs va vp b → ¬ O b) : GS T B q m gs va vp w' := h.stay fun b hb => a.block b (h.mem b hb).2 (hd b hb)
variable {w0 w w' W w3 : World} {B q : Nat} {m : StM} {gs : List AcG} {va vp : Value}
theorem refApply_any (Hs : GS tyD B q m gs va vp w) (ok : OkS m) (f : FX) (hwf : f.wf) : Calls Tryz.prog 12 #[.pointer (some ⟨q, 0, none⟩), .agg f.cells] w fun r w' => r = .returned (.int .i64 (applyQ m f).1) ∧ ∃ gs' va' vp', GS tyD B q (applyQ m f).2 gs' va' vp' w' ∧ Asd (Ow q gs va vp) (Ow q gs' va' vp') w w' := by
 cases hR : rightF f with
 | false => exact refApply_no Hs f hwf hR
 | true =>
  have hk := kind_of hR; obtain ⟨k, fn, fs, fr, fe, fp, fq, fo, fd, fa, ft, fh, fc, fx⟩ := f; dsimp only at hk; have : k = 1 ∨ k = 2 ∨ k = 3 ∨ k = 4 ∨ k = 5 ∨ k = 6 ∨ k = 7 ∨ k = 8 := by omega
  rcases this with rfl | rfl | rfl | rfl | rfl | rfl | rfl | rfl
  ·exact refApply1 Hs ok fn fs fr fe fp fq fo fd fa ft fh fc fx hR
  ·exact refApply2 Hs ok fn fs fr fe fp fq fo fd fa ft fh fc fx hR
  ·exact refApply3 Hs ok fn fs fr fe fp fq fo fd fa ft fh fc fx hR
  ·exact refApply4 Hs ok fn fs fr fe fp fq fo fd fa ft fh fc fx hR
  ·exact refApply5 Hs ok fn fs fr fe fp fq fo fd fa ft fh fc fx hR
  ·exact refApply6 Hs ok fn fs fr fe fp fq fo fd fa ft fh fc fx hR
  ·exact refApply7 Hs ok fn fs fr fe fp fq fo fd fa ft fh fc fx hR
  ·exact refApply8 Hs ok fn fs fr fe fp fq fo fd fa ft fh fc fx hR
variable {ads : List Addr}
def SL (B q : Nat) (m : StM) (w : World) : Prop := ∃ gs va vp, GS tyL B q m gs va vp w
def SD (B q : Nat) (m : StM) (w : World) : Prop := ∃ gs va vp, GS tyD B q m gs va vp w
theorem SL.kp (h : SL B q m w) (hk : Kp w w') : SL B q m w' := by obtain ⟨_, _, _, h⟩ := h; exact ⟨_, _, _, h.kp hk⟩
theorem SD.kp (h : SD B q m w) (hk : Kp w w') : SD B q m w' := by obtain ⟨_, _, _, h⟩ := h; exact ⟨_, _, _, h.kp hk⟩
theorem SL.base {B' : Nat} (h : SL B q m w) (hb : B' ≤ B) : SL B' q m w := by obtain ⟨_, _, _, h⟩ := h; exact ⟨_, _, _, h.base hb⟩
def OffL (t : TypeId) : Prop := t ≠ tyL.st ∧ t ≠ tyL.ac ∧ t ≠ tyL.pt ∧ t ≠ tyL.rg
def OffD (t : TypeId) : Prop := t ≠ tyD.st ∧ t ≠ tyD.ac ∧ t ≠ tyD.pt ∧ t ≠ tyD.rg
theorem ow_kind {T : TyQ} {b : Nat} (h : GS T B q m gs va vp w) (hb : Ow q gs va vp b) : ∃ cs t, (t = T.st ∨ t = T.ac ∨ t = T.pt ∨ t = T.rg) ∧ w.heap[b]? = some (.cells cs t (0, 0)) := by
 rcases hb with rfl | hb | hb | ⟨g, hg, hb⟩
 ·exact ⟨_, _, .inl rfl, h.row⟩
 ·obtain ⟨c, hc⟩ := own_kindQ h.oa b hb; exact ⟨_, _, .inr (.inl rfl), hc⟩
 ·obtain ⟨c, hc⟩ := own_kindQ h.op b hb; exact ⟨_, _, .inr (.inr (.inl rfl)), hc⟩
 ·obtain ⟨c, hc⟩ := own_kindQ (h.og g hg) b hb; exact ⟨_, _, .inr (.inr (.inr rfl)), hc⟩
theorem off_DL {t : TypeId} (h : t = tyD.st ∨ t = tyD.ac ∨ t = tyD.pt ∨ t = tyD.rg) : OffL t := by
 rcases h with rfl | rfl | rfl | rfl <;> exact ⟨by decide, by decide, by decide, by decide⟩
theorem apartL {B' q' : Nat} {m' : StM} {gs' : List AcG} {va' vp' : Value} (H : GS tyL B q m gs va vp w) (H' : GS tyD B' q' m' gs' va' vp' w) : ∀ b, Ow q gs va vp b → ¬ Ow q' gs' va' vp' b := fun b hb hb' => by
 obtain ⟨cs, t, ht, hr⟩ := ow_kind H' hb'; obtain ⟨h1, h2, h3, h4⟩ := off_DL ht; exact ow_not H hr h1 h2 h3 h4 hb
theorem apartD {B' q' : Nat} {m' : StM} {gs' : List AcG} {va' vp' : Value} (H : GS tyD B q m gs va vp w) (H' : GS tyL B' q' m' gs' va' vp' w) : ∀ b, Ow q gs va vp b → ¬ Ow q' gs' va' vp' b := fun b hb hb' => apartL H' H b hb' hb
theorem SD.apply (h : SD B q m w) (ok : OkS m) (f : FX) (hwf : f.wf) : Calls Tryz.prog 12 #[.pointer (some ⟨q, 0, none⟩), .agg f.cells] w fun r w' => r = .returned (.int .i64 (applyQ m f).1) ∧ SD B q (applyQ m f).2 w' ∧ (∀ B' q' m', SL B' q' m' w → SL B' q' m' w') ∧ (∀ (b : Nat) (cs : Array Value) (t : TypeId), OffD t → w.heap[b]? = some (.cells cs t (0, 0)) → w'.heap[b]? = some (.cells cs t (0, 0))) ∧ (∀ w0, Kp w0 w → w0.heap.size ≤ B → Kp w0 w') := by
 obtain ⟨gs, va, vp, H⟩ := h; refine (refApply_any H ok f hwf).mono ?_
 rintro e w2 ⟨rfl, gs2, va2, vp2, H2, A⟩; refine ⟨rfl, ⟨gs2, va2, vp2, H2⟩, ?_, ?_, ?_⟩
 ·rintro B' q' m' ⟨gs', va', vp', H'⟩; exact ⟨gs', va', vp', H'.beside A (fun b hb hb2 => apartD H H' b hb2 hb)⟩
 ·rintro b cs t ⟨h1, h2, h3, h4⟩ hr; exact (A.block _ (oZ hr) (ow_not H hr h1 h2 h3 h4)).trans hr
 ·intro w0 hk hb; exact A.kp hk (fun b hb2 => Nat.le_trans hb (H.mem b hb2).1)
theorem SD.new {nd : Int} (h : w.heap[q]? = some (.cells #[nd, .int .i64 0, .slice none 0 0, .slice none 0 0] 34)) (hb : B ≤ q) : SD B q (newSt nd) w := ⟨[], .slice none 0 0, .slice none 0 0, ⟨h, hb, rfl, ⟨by simp [EncG.row], .inl ⟨rfl, rfl⟩⟩, ⟨by simp [EncG.row, newSt], .inl ⟨rfl, rfl⟩⟩, (fun g hg => by cases hg), (fun i j g h hi => by simp at hi)⟩⟩
theorem SL.both {B' q' : Nat} (h : SL B q m w) (h' : SD B' q' m w) (ok : OkS m) : Calls Tryz.prog 13 #[.pointer (some ⟨q, 0, none⟩), .pointer (some ⟨q', 0, none⟩)] w fun r w' => r = .returned (.bool true) ∧ Kp w w' := by
 obtain ⟨gs, va, vp, H⟩ := h; obtain ⟨gs', va', vp', H'⟩ := h'; exact lawSame15 H H' ok
theorem results_row_tmpG {P : Program} {fn : Func} {p u : Tmp} {ty : TypeId} (h : fn.results = #[.cell p ty, .tmp u]) (tmps : Array Value) (w : World) (g : Nat) (t : TypeId) (cs : Array Value) (fr : Nat × Nat) (d : TypeDesc)
  (hp : tmps.getD p undef = .pointer (some ⟨g, 0, none⟩)) (hg : w.heap[g]? = some (.cells cs t fr))
  (hu : P.underlying ty = some d) (hd : (match d with | .struct _ | .array _ _ => true | _ => false) = true) (hi : (P.info? ty).map (·.size) = some cs.size) :
  (results fn tmps).run P w = .ok (.tuple #[.agg cs, tmps.getD u undef]) w := by
 have hp' : tmps[p]?.getD undef = .pointer (some ⟨g, 0, none⟩) := by simpa using hp
 simp [results, h, hp', asAddr, run_loadVar_row w g t ty cs fr d hg hu hd hi]
theorem dec_made14 (z : Value) (n : Nat) : (madeCells #[z] n).toList = List.replicate n z := by
 rw [List.eq_replicate_iff]; refine ⟨by simp [madeCells], fun b hb => ?_⟩
 simp [madeCells] at hb
 obtain ⟨p, _, h⟩ := hb; rw [← h]
 simp [Nat.mod_one]
theorem info_int14 : (Tryz.prog.info? 3).map (fun i => (i.zero, i.size, i.bytes)) = some (some (.int .i64 0), 1, 8) := by kernel_rfl
theorem refRead14_err (a : Option Addr) (n c : Nat) (bs : List Int) (hn : bs.length = n) (hnc : n ≤ c) (hl : n ≤ 1000) (hb : InB bs) (w : World) (hs : SlB (.slice a n c) bs w) (he : (splitQ 17 bs 0 0).1 ≠ 0) :
  Calls Tryz.prog 20 #[.slice a n c] w fun e w' => e = .returned (.tuple #[.agg noF.cells, .int .i64 (splitQ 17 bs 0 0).1]) ∧ Kp w w' := by
 have K := hD (kA w (.cells #[.int .i64 0, .int .i64 0, .int .i64 0, .int .i64 0, .int .i64 0, .int .i64 0, .int .i64 0, .int .i64 0, .int .i64 0, .int .i64 0, .int .i64 0, .int .i64 0, .int .i64 0, .float .f64 0] 42)); have hz := hD (mH w (.cells #[.int .i64 0, .int .i64 0, .int .i64 0, .int .i64 0, .int .i64 0, .int .i64 0, .int .i64 0, .int .i64 0, .int .i64 0, .int .i64 0, .int .i64 0, .int .i64 0, .int .i64 0, .float .f64 0] 42)); have hsp := fun w1 (hk : Kp w w1) => refSplit_any a c bs n hn (by omega) hnc hb w1 (hs.kp hk)
 obtain ⟨S, hS⟩ : ∃ x, splitQ 17 bs 0 0 = x := ⟨_, rfl⟩
 rw [hS] at hsp he ⊢; obtain ⟨S1, S2⟩ := S; dsimp only at hsp he ⊢; have HSP := hD hsp; have h0 : (S1 != 0) = true := by simpa using he
 have hsf := sF; clear hsp hs hb hn hS he; go_enter Tryz.func20, Tryz.ntmps20; go_wp2_with (go_at_call 52; (with_reducible refine (HSP.out _ K.out).mono ?_); rintro e w2 ⟨v, rfl, -, -, hk2⟩; have K2 := hD (kT K.out hk2); have Z2 := hD (rZ hk2 hz.out); obtain ⟨e0, e1, e2, e3, e4, e5, e6, e7, e8, e9, e10, e11, e12, e13⟩ := cZ Z2.out; have fz := froz14 Z2.out; clear hk2)
 have hz5 := set14 (.int .i64 0) (.int .i64 0) (.int .i64 0) (.int .i64 0) (.int .i64 0) (.int .i64 0) (.int .i64 0) (.int .i64 0) (.int .i64 0) (.int .i64 0) (.int .i64 0) (.int .i64 0) (.int .i64 0) (.float .f64 0) Z2.out; refine bodyPost_ret (results_row_tmpG (p := 2) (u := 3) rfl _ _ w.heap.size 42 _ (0, 0) _ rfl hz5 Tryz.underlying42 rfl (by kernel_rfl)) rfl ?_
 exact ⟨rfl, set14_kp K2.out (Nat.le_refl _) _ _ _ _ _ _ _ _ _ _ _ _ _ _⟩
theorem refRead14_row (a : Option Addr) (n c : Nat) (bs : List Int) (hn : bs.length = n) (hnc : n ≤ c) (hl : n ≤ 1000) (hb : InB bs) (w : World) (hs : SlB (.slice a n c) bs w) (he : (splitQ 17 bs 0 0).1 = 0) :
  Calls Tryz.prog 20 #[.slice a n c] w fun e w' => e = .returned (.tuple #[.agg (decG bs).2.cells, .int .i64 (decG bs).1]) ∧ Kp w w' := by
 have K := hD (kA w (.cells #[.int .i64 0, .int .i64 0, .int .i64 0, .int .i64 0, .int .i64 0, .int .i64 0, .int .i64 0, .int .i64 0, .int .i64 0, .int .i64 0, .int .i64 0, .int .i64 0, .int .i64 0, .float .f64 0] 42)); have hz := hD (mH w (.cells #[.int .i64 0, .int .i64 0, .int .i64 0, .int .i64 0, .int .i64 0, .int .i64 0, .int .i64 0, .int .i64 0, .int .i64 0, .int .i64 0, .int .i64 0, .int .i64 0, .int .i64 0, .float .f64 0] 42)); have hsp := fun w1 (hk : Kp w w1) => refSplit_any a c bs n hn (by omega) hnc hb w1 (hs.kp hk)
 have htg := splitQ_tags 17 bs 0 0 hb; have h17 := splitQ_len 17 bs 0 0; have hdm : decG bs = finG (putG (List.replicate 13 0) none (splitQ 17 bs 0 0).2) := by
  unfold decG; rw [if_neg (fun q => q he)]
 obtain ⟨DD, hDD⟩ : ∃ x, decG bs = x := ⟨_, rfl⟩
 rw [hDD] at hdm ⊢; obtain ⟨S, hS⟩ : ∃ x, splitQ 17 bs 0 0 = x := ⟨_, rfl⟩
 rw [hS] at hsp he htg hdm h17; obtain ⟨S1, fs⟩ := S; dsimp only at hsp he htg hdm h17; subst he; have hsf := sF; have HSP := hD hsp; have HTG := hD htg; have HDM := hD hdm; have HII := hD (info_parts info_int14); clear hsp hs hb hn hS hDD htg hdm; obtain ⟨i0, hi, hi0, hi1, hi2⟩ := HII.out; have HI := hD (And.intro hi1 hi2); have HI2 := hD hi; have HI3 := hD hi0; clear hi hi0 hi1 hi2; go_enter Tryz.func20, Tryz.ntmps20; go_wp2_with (first
  | (go_at_call 52; (with_reducible refine (HSP.out _ K.out).mono ?_); rintro e w2 ⟨v, rfl, hq, -, hk2⟩; have HQ := hD (hq rfl); have K2 := hD (kT K.out hk2); have Z2 := hD (rZ hk2 hz.out); clear hk2 hq)
  | (at_make; refine wpList_make_full _ rfl _ _ 105 rfl w2.heap.size 3 i0 (.int .i64 0) 1 Tryz.underlying105 HI2.out HI3.out HI.out.1 .i64 .i64 _ _ 13 rfl rfl ?m1 ?m2 ?m3 ?m4 ?m5 ?_))
 case m1 => rfl
 case m2 => rfl
 case m3 => rw [HI.out.2]; omega
 case m4 => unfold maxLen; omega
 case m5 => exact Nat.le_refl _
 rintro w3 hown3 hgr3; have K3 : Hid (Kp w2 w3) := hD ((Below.refl _ _).grown hgr3 (Nat.le_refl _) (fun k hk => by cases hk)); have h0 : w3.ownsRow w2.heap.size 3 1 (.slice (some ⟨w2.heap.size, 0, none⟩) 13 13) 13 ((List.replicate 13 (0 : Int)).map (Value.int .i64)) := by
  have e : (madeCells #[.int .i64 0] 13).toList = (List.replicate 13 (0 : Int)).map (Value.int .i64) := by rw [dec_made14]; rfl
  rw [← e]; exact hown3
 have OW3 := hD h0; obtain ⟨av, cv, hv⟩ := HQ.out.form; subst hv; obtain ⟨kf, hkf⟩ : ∃ x, fs.length = x := ⟨_, rfl⟩
 rw [hkf] at h17; have HSQ := HQ.out; rw [hkf] at HSQ ⊢; have HSL := hD HSQ; have HKF := hD hkf; obtain ⟨L, hL⟩ : ∃ L, w2.heap.size = L := ⟨_, rfl⟩
 rw [hL] at OW3 ⊢; have HLL := hD hL; clear hown3 hgr3 h0 HSQ hkf hL; go_wp2; go_loopw [7, 8, 28] (fun at9 th9 i wr => ∃ (j : Nat) (l : List Int) (oo : Option Nat), j ≤ kf ∧ i = .int .i64 j ∧ at9 = .float .f64 (oo.getD 0) ∧ th9 = .bool oo.isSome ∧ l.length = 13 ∧ Kp w2 wr ∧ wr.ownsRow L 3 1 (.slice (some ⟨L, 0, none⟩) 13 13) 13 (l.map (Value.int .i64)) ∧ putG (List.replicate 13 0) none fs = putG l oo (fs.drop j) ∧ oo.getD 0 < 18446744073709551616) (fun _ _ i _ => kf - (intOf i).toNat)
 case atStart => exact ⟨0, _, none, Nat.zero_le _, rfl, rfl, rfl, rfl, K3.out, OW3.out, rfl, by decide⟩
 case round =>
  obtain ⟨j, l, oo, hj, rfl, rfl, rfl, hl5, hk, hown, hput, how⟩ := hrel; obtain ⟨jj, hjj⟩ : ∃ jj : Int, (j : Int) = jj := ⟨_, rfl⟩
  rw [hjj]; have HK := hD hk; have HOW := hD hown; have HL5 := hD hl5; have HWF := hD how; have hkl := HKF.out
  by_cases hlt : j < kf
  ·have hjl : j < fs.length := by omega
   obtain ⟨b, off, rfl, ct, ad, cd, cdt, hsd, hbd⟩ := (HSL.out.kp hk).at j hjl; obtain ⟨t0, t1, t2⟩ := HTG.out fs[j] (List.getElem_mem hjl); have hdr : fs.drop j = fs[j] :: fs.drop (j + 1) := List.drop_eq_getElem_cons hjl; rw [hdr, putG] at hput; obtain ⟨y, hy⟩ : ∃ y, fs[j] = y := ⟨_, rfl⟩
   rw [hy] at ct cdt hsd hbd t0 t1 t2 hput; obtain ⟨tg, dt⟩ := y; dsimp only at ct cdt hsd hbd t0 t1 t2 hput; obtain ⟨dl, hdl⟩ : ∃ x, dt.length = x := ⟨_, rfl⟩
   rw [hdl] at cdt hsd t2 hput; have HTN := hD (fun w1 (hk1 : Kp wr w1) => refToNumber_any ad cd dt dl hdl (by omega) hbd w1 (hsd.kp hk1)); have HTF := hD (fun w1 (hk1 : Kp wr w1) => refToFloat_any ad cd dt dl hdl (by omega) hbd w1 (hsd.kp hk1)); have ej : jj.toNat = j := by omega
   rw [← ej] at ct cdt; have j0 : 0 ≤ jj := by omega
   have hltj : jj < kf := by omega
   have HJ := hD hjj; clear ej
   by_cases q0 : tg = 14
   ·subst q0; rw [if_pos rfl] at hput; have HBK := hD (fun q => (f8_back hbd q).2.2); obtain ⟨fx, hfx⟩ : ∃ x, (toFl dt).1 = x := ⟨_, rfl⟩
    obtain ⟨fe, hfe⟩ : ∃ x, (toFl dt).2 = x := ⟨_, rfl⟩
    rw [hfx, hfe] at HTF HBK hput
    by_cases qz : fe = 0
    ·subst qz; rw [if_pos rfl] at hput; have HPT := hD hput; have h64 := HBK.out rfl; have H64 := hD h64; have KB := hD (kA wr (.cells #[.int .i64 14, .slice ad dl cd] 122)); clear hk hown hput hsd hbd hdl hjl hy hdr hlt hjj hl5 hkl how hfx hfe HTN HBK h64; go_wp2_with (go_at_call 53; (with_reducible refine (HTF.out _ (kA _ _)).mono ?_); rintro e w5 ⟨rfl, rfl⟩)
     have hjj := HJ.out; go_roundw
     case rel =>
      refine ⟨j + 1, l, some fx, by omega, by congr 1; omega, rfl, rfl, HL5.out, kT HK.out KB.out, oK HOW.out KB.out, HPT.out, H64.out⟩
     case measure => simp [intOf]; omega
    ·have DN := hD (show DD = (4, noF) by rw [HDM.out, hput, if_neg qz]; rfl); have hbt : (fe != 0) = true := by simpa using qz
     have ZF := rZ (kT HK.out (kA wr (.cells #[.int .i64 14, .slice ad dl cd] 122))) Z2.out; obtain ⟨e0, e1, e2, e3, e4, e5, e6, e7, e8, e9, e10, e11, e12, e13⟩ := cZ ZF; have fz := froz14 ZF; have HZF := hD ZF; clear ZF hk hown hput hsd hbd hdl hjl hy hdr hlt hjj hl5 hkl how hfx hfe HTN HBK; go_wp2_with (go_at_call 53; (with_reducible refine (HTF.out _ (kA _ _)).mono ?_); rintro e w5 ⟨rfl, rfl⟩)
     have hz5 := set14 (.int .i64 0) (.int .i64 0) (.int .i64 0) (.int .i64 0) (.int .i64 0) (.int .i64 0) (.int .i64 0) (.int .i64 0) (.int .i64 0) (.int .i64 0) (.int .i64 0) (.int .i64 0) (.int .i64 0) (.float .f64 0) HZF.out; refine bodyPost_ret (results_row_tmpG (p := 2) (u := 3) rfl _ _ w.heap.size 42 _ (0, 0) _ rfl hz5 Tryz.underlying42 rfl (by kernel_rfl)) rfl ?_
     rw [DN.out]; exact ⟨rfl, set14_kp (kT (kT K2.out HK.out) (kA _ _)) (Nat.le_refl _) _ _ _ _ _ _ _ _ _ _ _ _ _ _⟩
   ·rw [if_neg q0] at hput; have hb5 : (tg == 14) = false := by simpa using q0
    obtain ⟨tn, htn⟩ : ∃ x, (toNum dt).1 = x := ⟨_, rfl⟩
    obtain ⟨te, hte⟩ : ∃ x, (toNum dt).2 = x := ⟨_, rfl⟩
    rw [htn, hte] at HTN hput; have HNO := hD (fun (q : 14 < tg ∨ dl = 0 ∨ te ≠ 0) => show DD = (4, noF) by rw [HDM.out, hput, if_pos q]; rfl)
    by_cases qa : 14 < tg
    ·have DN := hD (HNO.out (.inl qa)); have hb9 : decide (14 < tg) = true := dT qa; clear HNO; have ZF := rZ (kT HK.out (kA wr (.cells #[tg, .slice ad dl cd] 122))) Z2.out; obtain ⟨e0, e1, e2, e3, e4, e5, e6, e7, e8, e9, e10, e11, e12, e13⟩ := cZ ZF; have fz := froz14 ZF; have HZF := hD ZF; clear ZF hk hown hput hsd hbd hdl hjl hy hdr hlt hjj hl5 hkl how htn hte HTF; go_wp2_with (go_at_call 54; (with_reducible refine (HTN.out _ (kA _ _)).mono ?_); rintro e w5 ⟨rfl, rfl⟩)
     have hz5 := set14 (.int .i64 0) (.int .i64 0) (.int .i64 0) (.int .i64 0) (.int .i64 0) (.int .i64 0) (.int .i64 0) (.int .i64 0) (.int .i64 0) (.int .i64 0) (.int .i64 0) (.int .i64 0) (.int .i64 0) (.float .f64 0) HZF.out; refine bodyPost_ret (results_row_tmpG (p := 2) (u := 3) rfl _ _ w.heap.size 42 _ (0, 0) _ rfl hz5 Tryz.underlying42 rfl (by kernel_rfl)) rfl ?_
     rw [DN.out]; exact ⟨rfl, set14_kp (kT (kT K2.out HK.out) (kA _ _)) (Nat.le_refl _) _ _ _ _ _ _ _ _ _ _ _ _ _ _⟩
    by_cases qb : dl = 0
    ·have DN := hD (HNO.out (.inr (.inl qb))); have hb9 : decide (14 < tg) = false := dF qa; clear HNO; subst qb; have ZF := rZ (kT HK.out (kA wr (.cells #[tg, .slice ad 0 cd] 122))) Z2.out; obtain ⟨e0, e1, e2, e3, e4, e5, e6, e7, e8, e9, e10, e11, e12, e13⟩ := cZ ZF; have fz := froz14 ZF; have HZF := hD ZF; clear ZF hk hown hput hsd hbd hdl hjl hy hdr hlt hjj hl5 hkl how htn hte HTF; go_wp2_with (go_at_call 54; (with_reducible refine (HTN.out _ (kA _ _)).mono ?_); rintro e w5 ⟨rfl, rfl⟩)
     have hz5 := set14 (.int .i64 0) (.int .i64 0) (.int .i64 0) (.int .i64 0) (.int .i64 0) (.int .i64 0) (.int .i64 0) (.int .i64 0) (.int .i64 0) (.int .i64 0) (.int .i64 0) (.int .i64 0) (.int .i64 0) (.float .f64 0) HZF.out; refine bodyPost_ret (results_row_tmpG (p := 2) (u := 3) rfl _ _ w.heap.size 42 _ (0, 0) _ rfl hz5 Tryz.underlying42 rfl (by kernel_rfl)) rfl ?_
     rw [DN.out]; exact ⟨rfl, set14_kp (kT (kT K2.out HK.out) (kA _ _)) (Nat.le_refl _) _ _ _ _ _ _ _ _ _ _ _ _ _ _⟩
    by_cases qc : te = 0
    ·clear HNO; subst qc; obtain ⟨tk, rfl⟩ : ∃ x, tg = x + 1 := ⟨tg - 1, by omega⟩
     have tk0 : 0 ≤ tk := by omega
     have tk9 : tk < 13 := by omega
     have hkn : tk.toNat < 13 := by omega
     have hownX := oK hown (kA wr (.cells #[.int .i64 (tk + 1), .slice ad dl cd] 122)); have hcX := hownX.cellAt tk.toNat (by omega); rw [List.getElem?_map, List.getElem?_eq_getElem (by omega), Option.map_some] at hcX; obtain ⟨lo, hlo⟩ : ∃ x, l[tk.toNat]'(by omega) = x := ⟨_, rfl⟩
     rw [hlo] at hcX; clear hlo; have hzX := hownX.frozenAt tk.toNat; have hst := hownX.stored tk.toNat (.int .i64 tn); have HST := hD hst.1; have HGR := hD (Below.grown (kT HK.out (kA wr (.cells #[.int .i64 (tk + 1), .slice ad dl cd] 122))) hst.2 (Below.size (kT HK.out (kA wr (.cells #[.int .i64 (tk + 1), .slice ad dl cd] 122)))) (fun k hk => by injection hk with hk; have := HLL.out; omega)); have HPT : Hid (putG (List.replicate 13 0) none fs = putG (l.set tk.toNat tn) oo (fs.drop (j + 1))) := hD (by
      rw [hput, if_neg (by omega), show tk + 1 - 1 = tk by omega])
     obtain ⟨dd, hdd⟩ : ∃ x : Int, (dl : Int) = x := ⟨_, rfl⟩
     have hd0 : ¬ dd = 0 := by omega
     have hb9 : decide (14 < tk + 1) = false := dF qa; have hbd2 : (dd == 0) = false := by simpa using hd0
     have hn14 : ¬ tk + 1 = 14 := q0; clear hst hk hown hput hsd hbd hdl hjl htn hte hy hdr hlt hjj hl5 hkl hownX how HTF qa q0; go_wp2_with (go_at_call 54; (with_reducible refine (HTN.out _ (kA _ _)).mono ?_); rintro e w5 ⟨rfl, rfl⟩)
     have hjj := HJ.out; go_roundw
     case rel =>
      refine ⟨j + 1, l.set tk.toNat tn, oo, by omega, by congr 1; omega, rfl, rfl, by rw [List.length_set]; exact HL5.out, HGR.out, ?_, HPT.out, HWF.out⟩
      rw [List.map_set]; exact HST.out
     case measure => simp [intOf]; omega
    ·have DN := hD (HNO.out (.inr (.inr qc))); obtain ⟨dd, hdd⟩ : ∃ x : Int, (dl : Int) = x := ⟨_, rfl⟩
     have hd0 : ¬ dd = 0 := by omega
     have hb9 : decide (14 < tg) = false := dF qa; have hbd2 : (dd == 0) = false := by simpa using hd0
     have hbt : (te != 0) = true := by simpa using qc
     clear HNO; have ZF := rZ (kT HK.out (kA wr (.cells #[tg, .slice ad dl cd] 122))) Z2.out; obtain ⟨e0, e1, e2, e3, e4, e5, e6, e7, e8, e9, e10, e11, e12, e13⟩ := cZ ZF; have fz := froz14 ZF; have HZF := hD ZF; clear ZF hk hown hput hsd hbd hdl hjl hy hdr hlt hjj hl5 hkl how htn hte HTF; go_wp2_with (go_at_call 54; (with_reducible refine (HTN.out _ (kA _ _)).mono ?_); rintro e w5 ⟨rfl, rfl⟩)
     have hz5 := set14 (.int .i64 0) (.int .i64 0) (.int .i64 0) (.int .i64 0) (.int .i64 0) (.int .i64 0) (.int .i64 0) (.int .i64 0) (.int .i64 0) (.int .i64 0) (.int .i64 0) (.int .i64 0) (.int .i64 0) (.float .f64 0) HZF.out; refine bodyPost_ret (results_row_tmpG (p := 2) (u := 3) rfl _ _ w.heap.size 42 _ (0, 0) _ rfl hz5 Tryz.underlying42 rfl (by kernel_rfl)) rfl ?_
     rw [DN.out]; exact ⟨rfl, set14_kp (kT (kT K2.out HK.out) (kA _ _)) (Nat.le_refl _) _ _ _ _ _ _ _ _ _ _ _ _ _ _⟩
  ·obtain rfl : j = kf := by omega
   rw [← hkl, List.drop_length, putG] at hput; have HDE : DD = finG (some (l, oo)) := by rw [HDM.out, hput]
   unfold finG at HDE; dsimp only at HDE; obtain ⟨x, hx⟩ : ∃ z, oo.getD 0 = z := ⟨_, rfl⟩
   obtain ⟨ev, hev⟩ : ∃ z, oo.isSome = z := ⟨_, rfl⟩
   rw [hx] at how; rw [hx, hev] at HDE; rw [hx, hev]; obtain ⟨k1, n1, s1, r1, u1, p1, q1, o1, d1, a1, t1, h1, c1, rfl⟩ := thirteen hl5; have hol : ofF [k1, n1, s1, r1, u1, p1, q1, o1, d1, a1, t1, h1, c1] x = ⟨k1, n1, s1, r1, u1, p1, q1, o1, d1, a1, t1, h1, c1, x⟩ := rfl; rw [hol] at HDE; dsimp only at HDE; have G0 := hD (show wr.cell? ⟨L, 0, none⟩ = some (.int .i64 k1) from hown.cellAt 0 (by decide)); have G1 := hD (show wr.cell? ⟨L, 1, none⟩ = some (.int .i64 n1) from hown.cellAt 1 (by decide)); have G2 := hD (show wr.cell? ⟨L, 2, none⟩ = some (.int .i64 s1) from hown.cellAt 2 (by decide)); have G3 := hD (show wr.cell? ⟨L, 3, none⟩ = some (.int .i64 r1) from hown.cellAt 3 (by decide)); have G4 := hD (show wr.cell? ⟨L, 4, none⟩ = some (.int .i64 u1) from hown.cellAt 4 (by decide)); have G5 := hD (show wr.cell? ⟨L, 5, none⟩ = some (.int .i64 p1) from hown.cellAt 5 (by decide)); have G6 := hD (show wr.cell? ⟨L, 6, none⟩ = some (.int .i64 q1) from hown.cellAt 6 (by decide))
   have G7 := hD (show wr.cell? ⟨L, 7, none⟩ = some (.int .i64 o1) from hown.cellAt 7 (by decide)); have G8 := hD (show wr.cell? ⟨L, 8, none⟩ = some (.int .i64 d1) from hown.cellAt 8 (by decide)); have G9 := hD (show wr.cell? ⟨L, 9, none⟩ = some (.int .i64 a1) from hown.cellAt 9 (by decide)); have G10 := hD (show wr.cell? ⟨L, 10, none⟩ = some (.int .i64 t1) from hown.cellAt 10 (by decide)); have G11 := hD (show wr.cell? ⟨L, 11, none⟩ = some (.int .i64 h1) from hown.cellAt 11 (by decide)); have G12 := hD (show wr.cell? ⟨L, 12, none⟩ = some (.int .i64 c1) from hown.cellAt 12 (by decide)); have HRX := hD (fun w1 => refRight14_any ⟨k1, n1, s1, r1, u1, p1, q1, o1, d1, a1, t1, h1, c1, x⟩ how w1); have hex : ¬ jj < j := by omega
   have Z2w := hD (rZ HK.out Z2.out); have KW := hD (kT K2.out HK.out); have HDH := hD HDE; clear hput hkl hlt hjj hl5 hown hk hol hx hev how HOW HWF HL5 HDE; go_wp2; refine wp_region_held_drew (S := fun w' => Kp wr w') (by kernel_rfl) ?_ (fun hH => ?_)
   ·exact (Kp.refl wr).drew
   refine tkW ?_ 0 ?_ ?_; rotate_left
   ·intro w hZ; go_simp; try rfl
   go_simp; refine tkW ?_ 1 ?_ ?_; rotate_left
   ·intro w hZ; go_simp; try rfl
   go_simp; refine tkW ?_ 2 ?_ ?_; rotate_left
   ·intro w hZ; have q := kZ hZ G0.out; go_simp; try rfl
   go_simp; refine tkW ?_ 3 ?_ ?_; rotate_left
   ·intro w hZ; go_simp; try rfl
   go_simp; refine tkW ?_ 4 ?_ ?_; rotate_left
   ·intro w hZ; go_simp; try rfl
   go_simp; refine tkW ?_ 5 ?_ ?_; rotate_left
   ·intro w hZ; have q := kZ hZ G1.out; go_simp; try rfl
   go_simp; refine tkW ?_ 6 ?_ ?_; rotate_left
   ·intro w hZ; go_simp; try rfl
   go_simp; refine tkW ?_ 7 ?_ ?_; rotate_left
   ·intro w hZ; go_simp; try rfl
   go_simp; refine tkW ?_ 8 ?_ ?_; rotate_left
   ·intro w hZ; have q := kZ hZ G2.out; go_simp; try rfl
   go_simp; refine tkW ?_ 9 ?_ ?_; rotate_left
   ·intro w hZ; go_simp; try rfl
   go_simp; refine tkW ?_ 10 ?_ ?_; rotate_left
   ·intro w hZ; go_simp; try rfl
   go_simp; refine tkW ?_ 11 ?_ ?_; rotate_left
   ·intro w hZ; go_simp; try rfl
   go_simp; refine tkW ?_ 12 ?_ ?_; rotate_left
   ·intro w hZ; have q := kZ hZ G3.out; go_simp; try rfl
   go_simp; refine tkW ?_ 13 ?_ ?_; rotate_left
   ·intro w hZ; go_simp; try rfl
   go_simp; refine tkW ?_ 14 ?_ ?_; rotate_left
   ·intro w hZ; go_simp; try rfl
   go_simp; refine tkW ?_ 15 ?_ ?_; rotate_left
   ·intro w hZ; have q := kZ hZ G4.out; go_simp; try rfl
   go_simp; refine tkW ?_ 16 ?_ ?_; rotate_left
   ·intro w hZ; go_simp; try rfl
   go_simp; refine tkW ?_ 17 ?_ ?_; rotate_left
   ·intro w hZ; go_simp; try rfl
   go_simp; refine tkW ?_ 18 ?_ ?_; rotate_left
   ·intro w hZ; have q := kZ hZ G5.out; go_simp; try rfl
   go_simp; refine tkW ?_ 19 ?_ ?_; rotate_left
   ·intro w hZ; go_simp; try rfl
   go_simp; refine tkW ?_ 20 ?_ ?_; rotate_left
   ·intro w hZ; go_simp; try rfl
   go_simp; refine tkW ?_ 21 ?_ ?_; rotate_left
   ·intro w hZ; have q := kZ hZ G6.out; go_simp; try rfl
   go_simp; refine tkW ?_ 22 ?_ ?_; rotate_left
   ·intro w hZ; go_simp; try rfl
   go_simp; refine tkW ?_ 23 ?_ ?_; rotate_left
   ·intro w hZ; go_simp; try rfl
   go_simp; refine tkW ?_ 24 ?_ ?_; rotate_left
   ·intro w hZ; have q := kZ hZ G7.out; go_simp; try rfl
   go_simp; refine tkW ?_ 25 ?_ ?_; rotate_left
   ·intro w hZ; go_simp; try rfl
   go_simp; refine tkW ?_ 26 ?_ ?_; rotate_left
   ·intro w hZ; go_simp; try rfl
   go_simp; refine tkW ?_ 27 ?_ ?_; rotate_left
   ·intro w hZ; have q := kZ hZ G8.out; go_simp; try rfl
   go_simp; refine tkW ?_ 28 ?_ ?_; rotate_left
   ·intro w hZ; go_simp; try rfl
   go_simp; refine tkW ?_ 29 ?_ ?_; rotate_left
   ·intro w hZ; go_simp; try rfl
   go_simp; refine tkW ?_ 30 ?_ ?_; rotate_left
   ·intro w hZ; have q := kZ hZ G9.out; go_simp; try rfl
   go_simp; refine tkW ?_ 31 ?_ ?_; rotate_left
   ·intro w hZ; go_simp; try rfl
   go_simp; refine tkW ?_ 32 ?_ ?_; rotate_left
   ·intro w hZ; go_simp; try rfl
   go_simp; refine tkW ?_ 33 ?_ ?_; rotate_left
   ·intro w hZ; have q := kZ hZ G10.out; go_simp; try rfl
   go_simp; refine tkW ?_ 34 ?_ ?_; rotate_left
   ·intro w hZ; go_simp; try rfl
   go_simp; refine tkW ?_ 35 ?_ ?_; rotate_left
   ·intro w hZ; go_simp; try rfl
   go_simp; refine tkW ?_ 36 ?_ ?_; rotate_left
   ·intro w hZ; have q := kZ hZ G11.out; go_simp; try rfl
   go_simp; refine tkW ?_ 37 ?_ ?_; rotate_left
   ·intro w hZ; go_simp; try rfl
   go_simp; refine tkW ?_ 38 ?_ ?_; rotate_left
   ·intro w hZ; go_simp; try rfl
   go_simp; refine tkW ?_ 39 ?_ ?_; rotate_left
   ·intro w hZ; have q := kZ hZ G12.out; go_simp; try rfl
   go_simp; refine tkW ?_ 40 ?_ ?_; rotate_left
   ·intro w hZ; go_simp; try rfl
   go_simp; refine tkW ?_ 41 ?_ ?_; rotate_left
   ·intro w hZ; go_simp; try rfl
   go_simp; refine rdW 42 fun K hK => ?_
   go_simp; refine hK.out _ _ ?_ (fun hH => ?_)
   ·exact kT (Kp.refl wr).drew (kA _ _)
   clear hK K; refine rdW 43 fun K hK => ?_
   go_simp; refine hK.out _ _ ?_ (fun hH => ?_)
   ·exact (kA wr (.cells #[k1, n1, s1, r1, u1, p1, q1, o1, d1, a1, t1, h1, c1, .float .f64 x] 42)).drew
   clear hK K; refine wpAnyH_done (by kernel_rfl) ?_ _
   obtain ⟨we, hwe⟩ : ∃ y, (wr.alloc (.cells #[k1, n1, s1, r1, u1, p1, q1, o1, d1, a1, t1, h1, c1, .float .f64 x] 42)).drew = y := ⟨_, rfl⟩
   have km : Kp wr we := by rw [← hwe]; exact (kA wr (.cells #[k1, n1, s1, r1, u1, p1, q1, o1, d1, a1, t1, h1, c1, .float .f64 x] 42)).drew
   have hmr : we.heap[wr.heap.size]? = some (.cells #[k1, n1, s1, r1, u1, p1, q1, o1, d1, a1, t1, h1, c1, .float .f64 x] 42) := by rw [← hwe]; exact (mH wr (.cells #[k1, n1, s1, r1, u1, p1, q1, o1, d1, a1, t1, h1, c1, .float .f64 x] 42))
   rw [hwe]; have KM := hD km; have HMR := hD hmr; have RM := hD (rZ km Z2w.out); obtain ⟨y0, y1, y2, y3, y4, y5, y6, y7, y8, y9, y10, y11, y12, y13⟩ := cZ RM.out; have fy := froz14 RM.out; clear hwe km hH G0 G1 G2 G3 G4 G5 G6 G7 G8 G9 G10 G11 G12; have hde := HDH.out; have HRR := HRX.out; dsimp only [FX.cells] at HRR; have hrm0 := True.intro
   by_cases hk1 : k1 = 1
   ·subst hk1; obtain ⟨v0, v1, v2, v3, v4, v5, v6, v7, v8, v9, v10, v11, v12, v13⟩ := cZ hmr
    cases ev with
    | true =>
     cases hrm : rightF ⟨1, n1, s1, r1, u1, p1, q1, o1, d1, a1, t1, h1, c1, x⟩ with
     | true =>
      rw [hrm] at hde HRR; rw [if_pos ⟨by simp, rfl⟩] at hde; have HRR := hD HRR; have HDE := hD hde; clear hde hmr hrm0 hrm; go_wp2_with (go_at_call 29; (with_reducible refine (HRR.out _).mono ?_); rintro e w7 ⟨rfl, hk7⟩; have K7 := hD (kT KM.out hk7); have R7 := hD (rZ hk7 RM.out); have M7 := rZ hk7 HMR.out; obtain ⟨m0, m1, m2, m3, m4, m5, m6, m7, m8, m9, m10, m11, m12, m13⟩ := cZ M7; obtain ⟨zz0, zz1, zz2, zz3, zz4, zz5, zz6, zz7, zz8, zz9, zz10, zz11, zz12, zz13⟩ := cZ R7.out; have fz := froz14 R7.out; clear M7 hk7)
      have hz5 := set14 (.int .i64 1) (.int .i64 n1) (.int .i64 s1) (.int .i64 r1) (.int .i64 u1) (.int .i64 p1) (.int .i64 q1) (.int .i64 o1) (.int .i64 d1) (.int .i64 a1) (.int .i64 t1) (.int .i64 h1) (.int .i64 c1) (.float .f64 x) R7.out; refine bodyPost_ret (results_row_tmpG (p := 2) (u := 3) rfl _ _ w.heap.size 42 _ (0, 0) _ rfl hz5 Tryz.underlying42 rfl (by kernel_rfl)) rfl ?_
      rw [HDE.out]; exact ⟨rfl, set14_kp (kT KW.out K7.out) (Nat.le_refl _) _ _ _ _ _ _ _ _ _ _ _ _ _ _⟩
     | false =>
      rw [hrm] at hde HRR; rw [if_neg (fun q => absurd q.2 (by decide))] at hde; have HRR := hD HRR; have HDE := hD hde; clear hde hmr hrm0 hrm; go_wp2_with (go_at_call 29; (with_reducible refine (HRR.out _).mono ?_); rintro e w7 ⟨rfl, hk7⟩; have K7 := hD (kT KM.out hk7); have R7 := hD (rZ hk7 RM.out); have M7 := rZ hk7 HMR.out; obtain ⟨m0, m1, m2, m3, m4, m5, m6, m7, m8, m9, m10, m11, m12, m13⟩ := cZ M7; obtain ⟨zz0, zz1, zz2, zz3, zz4, zz5, zz6, zz7, zz8, zz9, zz10, zz11, zz12, zz13⟩ := cZ R7.out; have fz := froz14 R7.out; clear M7 hk7)
      have hz5 := set14 (.int .i64 0) (.int .i64 0) (.int .i64 0) (.int .i64 0) (.int .i64 0) (.int .i64 0) (.int .i64 0) (.int .i64 0) (.int .i64 0) (.int .i64 0) (.int .i64 0) (.int .i64 0) (.int .i64 0) (.float .f64 0) R7.out; refine bodyPost_ret (results_row_tmpG (p := 2) (u := 3) rfl _ _ w.heap.size 42 _ (0, 0) _ rfl hz5 Tryz.underlying42 rfl (by kernel_rfl)) rfl ?_
      rw [HDE.out]; exact ⟨rfl, set14_kp (kT KW.out K7.out) (Nat.le_refl _) _ _ _ _ _ _ _ _ _ _ _ _ _ _⟩
    | false =>
     rw [if_neg (fun q => absurd q.1 (by simp))] at hde; have HRR := hD HRR; have HDE := hD hde; clear hde hmr hrm0 ; go_wp2; have hz5 := set14 (.int .i64 0) (.int .i64 0) (.int .i64 0) (.int .i64 0) (.int .i64 0) (.int .i64 0) (.int .i64 0) (.int .i64 0) (.int .i64 0) (.int .i64 0) (.int .i64 0) (.int .i64 0) (.int .i64 0) (.float .f64 0) RM.out; refine bodyPost_ret (results_row_tmpG (p := 2) (u := 3) rfl _ _ w.heap.size 42 _ (0, 0) _ rfl hz5 Tryz.underlying42 rfl (by kernel_rfl)) rfl ?_
     rw [HDE.out]; exact ⟨rfl, set14_kp (kT KW.out KM.out) (Nat.le_refl _) _ _ _ _ _ _ _ _ _ _ _ _ _ _⟩
   ·have hkb : (k1 == 1) = false := by simpa using hk1
    obtain ⟨v0, v1, v2, v3, v4, v5, v6, v7, v8, v9, v10, v11, v12, v13⟩ := cZ hmr
    cases ev with
    | false =>
     cases hrm : rightF ⟨k1, n1, s1, r1, u1, p1, q1, o1, d1, a1, t1, h1, c1, x⟩ with
     | true =>
      rw [hrm] at hde HRR; rw [if_pos ⟨(dF hk1).symm, rfl⟩] at hde; have HRR := hD HRR; have HDE := hD hde; clear hde hmr hrm0 hrm hk1; go_wp2_with (go_at_call 29; (with_reducible refine (HRR.out _).mono ?_); rintro e w7 ⟨rfl, hk7⟩; have K7 := hD (kT KM.out hk7); have R7 := hD (rZ hk7 RM.out); have M7 := rZ hk7 HMR.out; obtain ⟨m0, m1, m2, m3, m4, m5, m6, m7, m8, m9, m10, m11, m12, m13⟩ := cZ M7; obtain ⟨zz0, zz1, zz2, zz3, zz4, zz5, zz6, zz7, zz8, zz9, zz10, zz11, zz12, zz13⟩ := cZ R7.out; have fz := froz14 R7.out; clear M7 hk7)
      have hz5 := set14 (.int .i64 k1) (.int .i64 n1) (.int .i64 s1) (.int .i64 r1) (.int .i64 u1) (.int .i64 p1) (.int .i64 q1) (.int .i64 o1) (.int .i64 d1) (.int .i64 a1) (.int .i64 t1) (.int .i64 h1) (.int .i64 c1) (.float .f64 x) R7.out; refine bodyPost_ret (results_row_tmpG (p := 2) (u := 3) rfl _ _ w.heap.size 42 _ (0, 0) _ rfl hz5 Tryz.underlying42 rfl (by kernel_rfl)) rfl ?_
      rw [HDE.out]; exact ⟨rfl, set14_kp (kT KW.out K7.out) (Nat.le_refl _) _ _ _ _ _ _ _ _ _ _ _ _ _ _⟩
     | false =>
      rw [hrm] at hde HRR; rw [if_neg (fun q => absurd q.2 (by decide))] at hde; have HRR := hD HRR; have HDE := hD hde; clear hde hmr hrm0 hrm hk1; go_wp2_with (go_at_call 29; (with_reducible refine (HRR.out _).mono ?_); rintro e w7 ⟨rfl, hk7⟩; have K7 := hD (kT KM.out hk7); have R7 := hD (rZ hk7 RM.out); have M7 := rZ hk7 HMR.out; obtain ⟨m0, m1, m2, m3, m4, m5, m6, m7, m8, m9, m10, m11, m12, m13⟩ := cZ M7; obtain ⟨zz0, zz1, zz2, zz3, zz4, zz5, zz6, zz7, zz8, zz9, zz10, zz11, zz12, zz13⟩ := cZ R7.out; have fz := froz14 R7.out; clear M7 hk7)
      have hz5 := set14 (.int .i64 0) (.int .i64 0) (.int .i64 0) (.int .i64 0) (.int .i64 0) (.int .i64 0) (.int .i64 0) (.int .i64 0) (.int .i64 0) (.int .i64 0) (.int .i64 0) (.int .i64 0) (.int .i64 0) (.float .f64 0) R7.out; refine bodyPost_ret (results_row_tmpG (p := 2) (u := 3) rfl _ _ w.heap.size 42 _ (0, 0) _ rfl hz5 Tryz.underlying42 rfl (by kernel_rfl)) rfl ?_
      rw [HDE.out]; exact ⟨rfl, set14_kp (kT KW.out K7.out) (Nat.le_refl _) _ _ _ _ _ _ _ _ _ _ _ _ _ _⟩
    | true =>
     rw [if_neg (fun q => hk1 (of_decide_eq_true q.1.symm))] at hde; have HRR := hD HRR; have HDE := hD hde; clear hde hmr hrm0  hk1; go_wp2; have hz5 := set14 (.int .i64 0) (.int .i64 0) (.int .i64 0) (.int .i64 0) (.int .i64 0) (.int .i64 0) (.int .i64 0) (.int .i64 0) (.int .i64 0) (.int .i64 0) (.int .i64 0) (.int .i64 0) (.int .i64 0) (.float .f64 0) RM.out; refine bodyPost_ret (results_row_tmpG (p := 2) (u := 3) rfl _ _ w.heap.size 42 _ (0, 0) _ rfl hz5 Tryz.underlying42 rfl (by kernel_rfl)) rfl ?_
     rw [HDE.out]; exact ⟨rfl, set14_kp (kT KW.out KM.out) (Nat.le_refl _) _ _ _ _ _ _ _ _ _ _ _ _ _ _⟩
theorem refRead14_any (a : Option Addr) (n c : Nat) (bs : List Int) (hn : bs.length = n) (hnc : n ≤ c) (hl : n ≤ 1000) (hb : InB bs) (w : World) (hs : SlB (.slice a n c) bs w) :
  Calls Tryz.prog 20 #[.slice a n c] w fun e w' => e = .returned (.tuple #[.agg (decG bs).2.cells, .int .i64 (decG bs).1]) ∧ Kp w w' := by
 by_cases he : (splitQ 17 bs 0 0).1 = 0
 ·exact refRead14_row a n c bs hn hnc hl hb w hs he
 ·have e : decG bs = ((splitQ 17 bs 0 0).1, noF) := by unfold decG; rw [if_pos he]
  rw [e]; exact refRead14_err a n c bs hn hnc hl hb w hs he
end Go.Proofs.YtpemeenfhkgmpaaGreatDoor
