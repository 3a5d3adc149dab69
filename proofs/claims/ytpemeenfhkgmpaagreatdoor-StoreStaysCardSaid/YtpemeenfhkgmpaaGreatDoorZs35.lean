/-
  PARTS OF THIS PROOF (own work): LwA, TryW, OpW.
-/
import Derived.Test.YtpemeenfhkgmpaaGreatDoorZs34
import Derived.Test.YtpemeenfhkgmpaaGreatDoorZs04
import Derived.Test.YtpemeenfhkgmpaaGreatDoorZs07
import Derived.Test.YtpemeenfhkgmpaaGreatDoorZs17
import Derived.ChangeSame
import Derived.Lib.SmallJoins
import Derived.Deep.Slices
namespace Go.Proofs.YtpemeenfhkgmpaaGreatDoor
open Go.RowKit Go.ChangeShapes Go.WideShapes

def alF : List FX := [(⟨1, 1, 0, 0, 0, 0, 0, 1, 0, 0, 0, 0, 0, 4621256167635550208⟩ : FX), (⟨2, 1, 0, 0, 0, 0, 1, 0, 0, 0, 0, 0, 0, 0⟩ : FX), (⟨3, 1, 0, 0, 0, 0, 0, 0, 0, 0, 5, 0, 0, 0⟩ : FX)]
def alM : Nat → StM
  | 0 => newSt 1
  | n + 1 => match alF[n]? with
    | some f => (applyQ (alM n) f).2
    | none => alM n
theorem al_0 : (applyQ (alM 0) (⟨1, 1, 0, 0, 0, 0, 0, 1, 0, 0, 0, 0, 0, 4621256167635550208⟩ : FX)).1 = 0 := by decide +kernel
theorem al_1 : (applyQ (alM 1) (⟨2, 1, 0, 0, 0, 0, 1, 0, 0, 0, 0, 0, 0, 0⟩ : FX)).1 = 0 := by decide +kernel
theorem al_2 : (applyQ (alM 2) (⟨3, 1, 0, 0, 0, 0, 0, 0, 0, 0, 5, 0, 0, 0⟩ : FX)).1 = 0 := by decide +kernel
theorem alM_step : ∀ j (h : j < alF.length), applyQ (alM j) (alF[j]'h) = (0, alM (j + 1)) := by
  intro j h
  have h' : j < 3 := h
  rcases (by omega : j = 0 ∨ j = 1 ∨ j = 2) with rfl | rfl | rfl
  · exact Prod.ext al_0 rfl
  · exact Prod.ext al_1 rfl
  · exact Prod.ext al_2 rfl
theorem alM_ok : ∀ j, j ≤ 3 → OkS (alM j)
  | 0, _ => newSt_ok (by omega)
  | n + 1, h => by
    have h1 := alM_ok n (by omega)
    have hl : n < alF.length := by show n < 3; omega
    have h2 := applyQ_ok (f := alF[n]'hl) h1
    have h3 := congrArg Prod.snd (alM_step n hl)
    exact (show (applyQ (alM n) (alF[n]'hl)).2 = alM (n + 1) from h3) ▸ h2
theorem alF_wf : ∀ f ∈ alF, f.wf := by
  intro f hf
  simp only [alF, List.mem_cons, List.not_mem_nil, or_false] at hf
  rcases hf with rfl | rfl | rfl <;> (unfold FX.wf; decide)
theorem alM_find : findS (alM 3).acts 1 0 = some 0 := by decide +kernel
theorem alM_act : ∃ a : AcM, (alM 3).acts[0]? = some a ∧ ∃ g1 g2 z1 z2 z4, a.regs = [⟨g1, g2, ⟨z1, z2, 5, z4⟩⟩] := ⟨_, rfl, _, _, _, _, _, rfl⟩
theorem ow_not {T : TyQ} {B q b : Nat} {m : StM} {gs : List AcG} {va vp : Value} {w : World} {cs : Array Value} {t : TypeId} (h : GS T B q m gs va vp w) (r : w.heap[b]? = some (.cells cs t (0, 0))) (h1 : t ≠ T.st) (h2 : t ≠ T.ac) (h3 : t ≠ T.pt) (h4 : t ≠ T.rg) : ¬ Ow q gs va vp b := by
  rintro (hb | hb | hb | ⟨g, hg, hb⟩)
  · exact row_neQ r h.row h1 hb
  · exact own_neQ h.oa r h2 hb.symm
  · exact own_neQ h.op r h3 hb.symm
  · exact own_neQ (h.og g hg) r h4 hb.symm
/-- a row of another type, beside a change of a store -/
theorem own_asdQ {T : TyQ} {B B' q k n : Nat} {m : StM} {gs : List AcG} {va vp : Value} {O' : Nat → Prop} {w w' : World} {t : TypeId} {v : Value} {us : List Value} (h : GS T B q m gs va vp w) (o : w.ownsRow B' t k v n us) (h1 : t ≠ T.st) (h2 : t ≠ T.ac) (h3 : t ≠ T.pt) (h4 : t ≠ T.rg) (a : Asd (Ow q gs va vp) O' w w') : w'.ownsRow B' t k v n us :=
  own_stayG o fun b hb => by
    obtain ⟨c, hc⟩ := own_kindQ o b hb
    exact a.block b (o.lt b hb).2 (ow_not h hc h1 h2 h3 h4)
variable {w0 w w' W w3 : World} {B q : Nat} {m : StM} {gs : List AcG} {va vp : Value}

variable {ads : List Addr}
theorem own_al (B : Nat) (hb : B ≤ w.heap.size) : (w.alloc (.cells #[.int .i64 1, .int .i64 1, .int .i64 0, .int .i64 0, .int .i64 0, .int .i64 0, .int .i64 0, .int .i64 1, .int .i64 0, .int .i64 0, .int .i64 0, .int .i64 0, .int .i64 0, .float .f64 4621256167635550208, .int .i64 2, .int .i64 1, .int .i64 0, .int .i64 0, .int .i64 0, .int .i64 0, .int .i64 1, .int .i64 0, .int .i64 0, .int .i64 0, .int .i64 0, .int .i64 0, .int .i64 0, .float .f64 0, .int .i64 3, .int .i64 1, .int .i64 0, .int .i64 0, .int .i64 0, .int .i64 0, .int .i64 0, .int .i64 0, .int .i64 0, .int .i64 0, .int .i64 5, .int .i64 0, .int .i64 0, .float .f64 0] 39)).ownsRow B 39 14 (.slice (some ⟨w.heap.size, 0, none⟩) 3 3) 3 (fcE.row alF) := by
  have := World.ownsRow_lit (base := B) (e := 39) (size := 14) w #[.int .i64 1, .int .i64 1, .int .i64 0, .int .i64 0, .int .i64 0, .int .i64 0, .int .i64 0, .int .i64 1, .int .i64 0, .int .i64 0, .int .i64 0, .int .i64 0, .int .i64 0, .float .f64 4621256167635550208, .int .i64 2, .int .i64 1, .int .i64 0, .int .i64 0, .int .i64 0, .int .i64 0, .int .i64 1, .int .i64 0, .int .i64 0, .int .i64 0, .int .i64 0, .int .i64 0, .int .i64 0, .float .f64 0, .int .i64 3, .int .i64 1, .int .i64 0, .int .i64 0, .int .i64 0, .int .i64 0, .int .i64 0, .int .i64 0, .int .i64 0, .int .i64 0, .int .i64 5, .int .i64 0, .int .i64 0, .float .f64 0] 3 hb (by decide) rfl
  rw [show fcE.row alF = (#[.int .i64 1, .int .i64 1, .int .i64 0, .int .i64 0, .int .i64 0, .int .i64 0, .int .i64 0, .int .i64 1, .int .i64 0, .int .i64 0, .int .i64 0, .int .i64 0, .int .i64 0, .float .f64 4621256167635550208, .int .i64 2, .int .i64 1, .int .i64 0, .int .i64 0, .int .i64 0, .int .i64 0, .int .i64 1, .int .i64 0, .int .i64 0, .int .i64 0, .int .i64 0, .int .i64 0, .int .i64 0, .float .f64 0, .int .i64 3, .int .i64 1, .int .i64 0, .int .i64 0, .int .i64 0, .int .i64 0, .int .i64 0, .int .i64 0, .int .i64 0, .int .i64 0, .int .i64 5, .int .i64 0, .int .i64 0, .float .f64 0]).toList by unfold EncG.row alF; simp [fcE, FX.cells]]
  exact this
set_option maxRecDepth 100000 in
set_option maxHeartbeats 8000000 in
theorem alive15_any (C : FacC ads w) (E : EP [0, 3, 4, 8, 13] ads w) : Calls Tryz.prog 8 #[] w fun r w' => r = .returned (.bool true) ∧ Kp w w' := by
  have hnew := fun w1 (hk : Kp w w1) => (lsNew (E.kp hk) 1).mono (R' := fun r w' => ∃ q, r = .returned (.tuple #[.pointer (some ⟨q, 0, none⟩), .nilIface]) ∧ GS tyL w1.heap.size q (newSt 1) [] (.slice none 0 0) (.slice none 0 0) w' ∧ Kp w1 w') (by
    rintro e w2 (⟨h, _⟩ | ⟨_, h⟩)
    · exact absurd (by unfold inN; omega) h
    · exact h)
  have HNEW := Lib.hid hnew
  have HC := Lib.hid C
  have HE := Lib.hid E
  have hsf := store_fl
  clear hnew C E
  go_enter Tryz.func8, Tryz.ntmps8
  go_wp2_with (go_at_call 9; (with_reducible refine (HNEW.out _ (Kp.refl w)).mono ?_); rintro e' w1 ⟨q, rfl, hg1, hk1⟩; have G1 := Lib.hid hg1; have K1 := Lib.hid hk1; have A1 := Lib.hid (new14_0 w1 (.cells #[.int .i64 1, .int .i64 0] 36) (.cells #[.int .i64 1, .int .i64 1, .int .i64 0, .int .i64 0, .int .i64 0, .int .i64 0, .int .i64 0, .int .i64 1, .int .i64 0, .int .i64 0, .int .i64 0, .int .i64 0, .int .i64 0, .float .f64 4621256167635550208, .int .i64 2, .int .i64 1, .int .i64 0, .int .i64 0, .int .i64 0, .int .i64 0, .int .i64 1, .int .i64 0, .int .i64 0, .int .i64 0, .int .i64 0, .int .i64 0, .int .i64 0, .float .f64 0, .int .i64 3, .int .i64 1, .int .i64 0, .int .i64 0, .int .i64 0, .int .i64 0, .int .i64 0, .int .i64 0, .int .i64 0, .int .i64 0, .int .i64 5, .int .i64 0, .int .i64 0, .float .f64 0] 39)); obtain ⟨b0, b1⟩ := cells_2S (MapKept.heap_alloc w1 (.cells #[.int .i64 1, .int .i64 0] 36)).1; clear hg1 hk1)
  have kx : Kp w ((w1.alloc (.cells #[.int .i64 1, .int .i64 0] 36)).alloc (.cells #[.int .i64 1, .int .i64 1, .int .i64 0, .int .i64 0, .int .i64 0, .int .i64 0, .int .i64 0, .int .i64 1, .int .i64 0, .int .i64 0, .int .i64 0, .int .i64 0, .int .i64 0, .float .f64 4621256167635550208, .int .i64 2, .int .i64 1, .int .i64 0, .int .i64 0, .int .i64 0, .int .i64 0, .int .i64 1, .int .i64 0, .int .i64 0, .int .i64 0, .int .i64 0, .int .i64 0, .int .i64 0, .float .f64 0, .int .i64 3, .int .i64 1, .int .i64 0, .int .i64 0, .int .i64 0, .int .i64 0, .int .i64 0, .int .i64 0, .int .i64 0, .int .i64 0, .int .i64 5, .int .i64 0, .int .i64 0, .float .f64 0] 39)) := Kp.trans K1.out (Kp.trans (kp_alloc _ _) (kp_alloc _ _))
  have hO := own_al (w := w1.alloc (.cells #[.int .i64 1, .int .i64 0] 36)) w.heap.size (kp_size (Kp.trans K1.out (kp_alloc _ _)))
  rw [show (w1.alloc (.cells #[.int .i64 1, .int .i64 0] 36)).heap.size = w1.heap.size + 1 by simp] at hO
  have hg := G1.out.kp (Kp.trans (kp_alloc w1 (.cells #[.int .i64 1, .int .i64 0] 36)) (kp_alloc _ (.cells #[.int .i64 1, .int .i64 1, .int .i64 0, .int .i64 0, .int .i64 0, .int .i64 0, .int .i64 0, .int .i64 1, .int .i64 0, .int .i64 0, .int .i64 0, .int .i64 0, .int .i64 0, .float .f64 4621256167635550208, .int .i64 2, .int .i64 1, .int .i64 0, .int .i64 0, .int .i64 0, .int .i64 0, .int .i64 1, .int .i64 0, .int .i64 0, .int .i64 0, .int .i64 0, .int .i64 0, .int .i64 0, .float .f64 0, .int .i64 3, .int .i64 1, .int .i64 0, .int .i64 0, .int .i64 0, .int .i64 0, .int .i64 0, .int .i64 0, .int .i64 0, .int .i64 0, .int .i64 5, .int .i64 0, .int .i64 0, .float .f64 0] 39)))
  have KX := Lib.hid kx
  have HO := Lib.hid hO
  have HG0 := Lib.hid hg
  clear kx hO hg
  go_loopw [27] (fun i wr => ∃ (j : Nat) (gs : List AcG) (va vp : Value), j ≤ 3 ∧ i = .int .i64 j ∧ GS tyL w.heap.size q (alM j) gs va vp wr ∧ Kp w wr ∧ (wr.ownsRow w.heap.size 39 14 (.slice (some ⟨w1.heap.size + 1, 0, none⟩) 3 3) 3 (fcE.row alF)) ∧ wr.heap[w1.heap.size]? = some (.cells #[.int .i64 1, .int .i64 0] 36)) (fun i _ => 3 - (intOf i).toNat)
  case atStart => exact ⟨0, [], _, _, Nat.zero_le _, rfl, HG0.out, KX.out, HO.out, A1.out⟩
  case round =>
    obtain ⟨j, gs, va, vp, hj, rfl, hg, hk, ho, hb⟩ := hrel
    obtain ⟨kk, hkk⟩ : ∃ x : Int, (j : Int) = x := ⟨_, rfl⟩
    rw [hkk]
    have HKK := Lib.hid hkk
    have KR := Lib.hid hk
    have OR := Lib.hid ho
    have RB := Lib.hid hb
    have HG := Lib.hid hg
    by_cases hlt : j < 3
    · have hjl : kk < 3 := by omega
      have hk0 : 0 ≤ kk := by omega
      have htk : kk.toNat = j := by omega
      have hw1 : wrap64 (kk + 1) = kk + 1 := IntWalk.wrap64_in _ (by omega)
      have HLT := Lib.hid hlt
      obtain ⟨ga, cga, ega, h1ga, h2ga, h3ga, h4ga, hcga⟩ := own_cellQ (E := fcE) ho (show alF.length = 3 from rfl) hlt
      have hlt' : j < alF.length := hlt
      have ega := congrArg (fun v => match v with | Value.slice a _ _ => a | _ => none) ega
      dsimp only at ega
      have ega := Option.some.inj ega
      have ega := congrArg Addr.block ega
      dsimp only at ega
      subst ega
      obtain ⟨⟨fk, fn, fs, fr, fe, fp, fq, fo, fd, fa, ft, fh, fc, fx⟩, hyga⟩ : ∃ r, alF[j]'hlt' = r := ⟨_, rfl⟩
      rw [hyga, show fcE.k = 14 from rfl, ← htk] at hcga
      have zf0 : wr.cell? ⟨w1.heap.size + 1, kk.toNat * 14, none⟩ = some (.int .i64 fk) := hcga 0 _ (by decide) rfl
      have zf1 : wr.cell? ⟨w1.heap.size + 1, kk.toNat * 14 + 1, none⟩ = some (.int .i64 fn) := hcga 1 _ (by decide) rfl
      have zf2 : wr.cell? ⟨w1.heap.size + 1, kk.toNat * 14 + 2, none⟩ = some (.int .i64 fs) := hcga 2 _ (by decide) rfl
      have zf3 : wr.cell? ⟨w1.heap.size + 1, kk.toNat * 14 + 3, none⟩ = some (.int .i64 fr) := hcga 3 _ (by decide) rfl
      have zf4 : wr.cell? ⟨w1.heap.size + 1, kk.toNat * 14 + 4, none⟩ = some (.int .i64 fe) := hcga 4 _ (by decide) rfl
      have zf5 : wr.cell? ⟨w1.heap.size + 1, kk.toNat * 14 + 5, none⟩ = some (.int .i64 fp) := hcga 5 _ (by decide) rfl
      have zf6 : wr.cell? ⟨w1.heap.size + 1, kk.toNat * 14 + 6, none⟩ = some (.int .i64 fq) := hcga 6 _ (by decide) rfl
      have zf7 : wr.cell? ⟨w1.heap.size + 1, kk.toNat * 14 + 7, none⟩ = some (.int .i64 fo) := hcga 7 _ (by decide) rfl
      have zf8 : wr.cell? ⟨w1.heap.size + 1, kk.toNat * 14 + 8, none⟩ = some (.int .i64 fd) := hcga 8 _ (by decide) rfl
      have zf9 : wr.cell? ⟨w1.heap.size + 1, kk.toNat * 14 + 9, none⟩ = some (.int .i64 fa) := hcga 9 _ (by decide) rfl
      have zf10 : wr.cell? ⟨w1.heap.size + 1, kk.toNat * 14 + 10, none⟩ = some (.int .i64 ft) := hcga 10 _ (by decide) rfl
      have zf11 : wr.cell? ⟨w1.heap.size + 1, kk.toNat * 14 + 11, none⟩ = some (.int .i64 fh) := hcga 11 _ (by decide) rfl
      have zf12 : wr.cell? ⟨w1.heap.size + 1, kk.toNat * 14 + 12, none⟩ = some (.int .i64 fc) := hcga 12 _ (by decide) rfl
      have zf13 : wr.cell? ⟨w1.heap.size + 1, kk.toNat * 14 + 13, none⟩ = some (.float .f64 fx) := hcga 13 _ (by decide) rfl
      obtain ⟨u0, u1, u2, u3, u4, u5, u6, u7, u8, u9, u10, u11, u12, u13⟩ := cells14 (MapKept.heap_alloc wr (.cells #[.int .i64 fk, .int .i64 fn, .int .i64 fs, .int .i64 fr, .int .i64 fe, .int .i64 fp, .int .i64 fq, .int .i64 fo, .int .i64 fd, .int .i64 fa, .int .i64 ft, .int .i64 fh, .int .i64 fc, .float .f64 fx] 39)).1
      have hwf : FX.wf (⟨fk, fn, fs, fr, fe, fp, fq, fo, fd, fa, ft, fh, fc, fx⟩ : FX) := by rw [← hyga]; exact alF_wf _ (List.getElem_mem hlt')
      have hst := alM_step j hlt'
      rw [hyga] at hst
      have hap := fun w2 (hk1 : Kp wr w2) => lsApply_any (HC.out.kp (Kp.trans hk hk1)) (HE.out.kp (Kp.trans hk hk1)) (hg.kp hk1) (alM_ok j (by omega)) (⟨fk, fn, fs, fr, fe, fp, fq, fo, fd, fa, ft, fh, fc, fx⟩ : FX) hwf
      rw [hst] at hap
      dsimp only [FX.cells] at hap
      rw [errI_nil] at hap
      have HAP := Lib.hid hap
      have HOW := Lib.hid (show ∀ b, Ow q gs va vp b → w.heap.size ≤ b from fun b hb => (hg.mem b hb).1)
      have hlt2 := hlt
      clear hlt2 hlt' hkk hj hlt hg hk ho hb htk h1ga h2ga h3ga h4ga hcga hyga hwf hst hap
      go_wp2_with (go_at_call 11; (with_reducible refine (HAP.out _ (kp_alloc wr (.cells #[.int .i64 fk, .int .i64 fn, .int .i64 fs, .int .i64 fr, .int .i64 fe, .int .i64 fp, .int .i64 fq, .int .i64 fo, .int .i64 fd, .int .i64 fa, .int .i64 ft, .int .i64 fh, .int .i64 fc, .float .f64 fx] 39))).mono ?_); rintro e' w5 ⟨rfl, gs2, va2, vp2, hg, ha⟩; have G5 := Lib.hid hg; have A5 := Lib.hid ha; clear hg ha)
      have KB := Lib.hid (kp_alloc wr (.cells #[.int .i64 fk, .int .i64 fn, .int .i64 fs, .int .i64 fr, .int .i64 fe, .int .i64 fp, .int .i64 fq, .int .i64 fo, .int .i64 fd, .int .i64 fa, .int .i64 ft, .int .i64 fh, .int .i64 fc, .float .f64 fx] 39))
      go_roundw
      case rel => exact ⟨j + 1, gs2, va2, vp2, by have := HLT.out; omega, by have := HKK.out; first | rw [show ((j + 1 : Nat) : Int) = kk + 1 by omega] | rw [show ((j + 1 : Nat) : Int) = kk + 1 by omega, hw1], G5.out, A5.out.kp (Kp.trans KR.out KB.out) HOW.out, own_asdQ (HG.out.kp KB.out) (own_kp OR.out KB.out) (by decide) (by decide) (by decide) (by decide) A5.out, (A5.out.block _ (old_of_row (kp_row KB.out RB.out)) (ow_not (HG.out.kp KB.out) (kp_row KB.out RB.out) (by decide) (by decide) (by decide) (by decide))).trans (kp_row KB.out RB.out)⟩
      case measure => have := HKK.out; have := HLT.out; simp [intOf]; omega
    · have hje : ¬ kk < 3 := by omega
      have h3 : j = 3 := by omega
      rw [h3] at hg
      have h8 : gs.length ≤ 8 := by rw [hg.len]; exact (alM_ok 3 (by omega)).l8
      have h6 : ∀ a ∈ (alM 3).acts, a.regs.length ≤ 6 := fun a ha => ((alM_ok 3 (by omega)).a a ha).l
      have HF := Lib.hid (fun w2 (hk1 : Kp wr w2) => stFind (hg.kp hk1) h8 h6 1 0)
      obtain ⟨b2, b3⟩ := cells_2S hb
      clear hkk hj hlt hk ho hb h3 hg h8 h6
      go_wp2_with (go_at_call 22; (with_reducible refine (HF.out _ (Kp.refl wr)).mono ?_); rintro e' w3 ⟨v, rfl, ⟨xa, xb, xk, hv, hx, hO⟩, hk3⟩; rw [alM_find] at hx ⊢; obtain ⟨ya, hy, g1, g2, z1, z2, z4, hre⟩ := alM_act; obtain rfl := Option.some.inj (hy.symm.trans hx); obtain ⟨⟨xn, xs, xo, xd, xx⟩, xp, xc, xr⟩ := ya; dsimp only at hre; subst hre; unfold acV at hv; dsimp only [List.length_cons, List.length_nil] at hv; subst hv; obtain ⟨gr, ck, exb, hck, hgrB, hgrl, hfzr, hcr⟩ := own_cellQ (E := rgE) (n := 1) hO rfl (by omega : 0 < 1); have exb := congrArg (fun v => match v with | Value.slice a _ _ => a | _ => none) exb; dsimp only at exb; subst exb; have c4 : w3.cell? ⟨gr, 4, none⟩ = some (.int .i64 5) := hcr 4 _ (by decide) rfl; have KQ := Lib.hid (Kp.trans KR.out (Kp.trans hk3 (kp_alloc w3 (.cells #[.int .i64 xn, .int .i64 xs, .int .i64 xo, .int .i64 xd, .float .f64 xx, .int .i64 xp, .int .i64 xc, .slice (some ⟨gr, 0, none⟩) 1 xk] 65))));  obtain ⟨d0, d1, d2, d3, d4, d5, d6, d7⟩ := cells_8 (MapKept.heap_alloc w3 (.cells #[.int .i64 xn, .int .i64 xs, .int .i64 xo, .int .i64 xd, .float .f64 xx, .int .i64 xp, .int .i64 xc, .slice (some ⟨gr, 0, none⟩) 1 xk] 65)).1; have c4 := kp_cell (kp_alloc w3 (.cells #[.int .i64 xn, .int .i64 xs, .int .i64 xo, .int .i64 xd, .float .f64 xx, .int .i64 xp, .int .i64 xc, .slice (some ⟨gr, 0, none⟩) 1 xk] 65)) c4; clear hcr hfzr hck hgrB hgrl hO hx hy hk3)
      go_ret
      exact ⟨rfl, KQ.out⟩
open Go.RowKit Go.Extern.Stop Go.Stop Go.Extern

theorem door_rows_panic (ads : List Addr) (p q : Addr) (old : Value) (k : Nat) (hk : k < ads.length) (older : List PanicEntry) (w : World) (V : St ads w)
    (hp : w.cell? p = some (.bool true)) (hq : w.cell? q = some old) (hz : w.frozen? q = false) :
    CallsD Tryz.prog 81 #[.pointer (some p), .pointer (some q)] (.panicking ({ v := snt ads[k], recovered := false } :: older)) w fun e u' w' =>
      e = .returned (.tuple #[]) ∧ u' = .panicking ({ v := snt ads[k], recovered := true } :: older) ∧ ∃ w1, Kp w w1 ∧ w' = w1.setCell q (snt ads[k]) := by
  have hqb := old_of_cell hq
  have hn := errorOf_any ads w V k hk
  obtain ⟨a, ha⟩ : ∃ a, ads[k] = a := ⟨_, rfl⟩
  rw [ha] at hn ⊢
  clear ha V
  refine callsD_of_wpS Tryz.func81 rfl fun c₀ cs hu => ?_
  apply wpS_seq
  apply wpS_region
  simp [wpOpsS, go_sem, recoverD, hu, Tryz.ntmps81, Exit.thenS]
  refine wpS_of_wp ?_
  change Code.wp _ _ _ { tmps := #[.pointer (some p), .pointer (some q), snt a, snt a, undef, undef, undef], defers := [] } _
  have HN := Lib.hid hn
  have HU := Lib.hid hu
  clear hn hu
  go_wp2_with (go_at_call 82; (with_reducible refine HN.out.mono ?_); rintro e w1 ⟨rfl, hw⟩; have hq1 : w1.cell? q = some old := (by rw [Below.cell hw hqb]; exact hq); have hz1 : w1.frozen? q = false := (by rw [Below.frozen hw hqb]; exact hz))
  exact ⟨rfl, _, rfl, _, results_none rfl _ _ _, rfl, rfl, w1, hw, rfl⟩
theorem door_rows_idle (p q : Addr) (w : World) (hp : w.cell? p = some (.bool false)) :
    CallsD Tryz.prog 81 #[.pointer (some p), .pointer (some q)] .returning w fun e u' w' => e = .returned (.tuple #[]) ∧ u' = .returning ∧ w' = w := by
  refine callsD_of_wpS Tryz.func81 rfl fun c₀ cs hu => ?_
  apply wpS_seq
  apply wpS_region
  simp [wpOpsS, go_sem, recoverD, hu, Tryz.ntmps81, Exit.thenS]
  refine wpS_of_wp ?_
  change Code.wp _ _ _ { tmps := #[.pointer (some p), .pointer (some q), .nilIface, .nilIface, undef, undef, undef], defers := [] } _
  go_wp2
  cases c₀
  simp only at hu
  subst hu
  exact ⟨rfl, _, rfl, _, results_none rfl _ _ _, rfl, rfl, rfl⟩
set_option maxRecDepth 20000 in
theorem try_rows_ret (f : FuncId) (caps : Array Value) (w : World) (G : Value → World → World → Prop) (hf : ∀ w, (callFunc f caps).run Tryz.prog w = .ok (.enter f caps) w)
    (H : ∀ w1, Below w.heap.size w w1 → w1.heap.size = w.heap.size + 2 → Calls Tryz.prog f caps w1 fun e w2 => ∃ v, e = .returned v ∧ Past w.heap.size w1 w2 ∧ G v w1 w2) :
    Calls Tryz.prog 45 #[.func (.func f) #[] caps] w fun e w' => ∃ v, e = .returned (.tuple #[v, .nilIface]) ∧ ∃ w1 w2, Below w.heap.size w w1 ∧ w1.heap.size = w.heap.size + 2 ∧ G v w1 w2 ∧ Below w.heap.size w2 w' ∧ Aside w.heap.size w2 w' := by
  have hmf : ∀ (fn : Fn) (first cap : Array Value) (w : World), (Instr.makeFunc fn first cap).run Tryz.prog w = .ok (.func fn first cap) w := fun _ _ _ _ => rfl
  have hN : ((w.alloc (.cells #[.nilIface] 26)).alloc (.cells #[.bool true] 4)).heap[w.heap.size]? = some (.cells #[.nilIface] 26) := try_new0 _ _ _
  have hM : ((w.alloc (.cells #[.nilIface] 26)).alloc (.cells #[.bool true] 4)).heap[w.heap.size + 1]? = some (.cells #[.bool true] 4) := try_new1 _ _ _
  have hB : Below w.heap.size w ((w.alloc (.cells #[.nilIface] 26)).alloc (.cells #[.bool true] 4)) := ((Below.refl _ _).alloc (Nat.le_refl _) _).alloc (by simp) _
  have hS : ((w.alloc (.cells #[.nilIface] 26)).alloc (.cells #[.bool true] 4)).heap.size = w.heap.size + 2 := by simp
  have HH := Lib.hid H
  have HN := Lib.hid hN
  have HM := Lib.hid hM
  have HB := Lib.hid hB
  have HS := Lib.hid hS
  clear H hN hM hB hS
  go_enter_defers Tryz.func45, Tryz.ntmps45
  go_wp2
  with_reducible refine (HH.out _ HB.out HS.out).mono ?_
  rintro e w2 ⟨v, rfl, hP, hG⟩
  have e0 : w2.heap[w.heap.size]? = some (.cells #[.nilIface] 26) := (hP.2 _ (by omega) (by rw [HS.out]; omega)).trans HN.out
  have e1 : w2.heap[w.heap.size + 1]? = some (.cells #[.bool true] 4) := (hP.2 _ (by omega) (by rw [HS.out]; omega)).trans HM.out
  have c0 : w2.cell? ⟨w.heap.size, 0, none⟩ = some .nilIface := by simp [World.cell?, e0]
  have c1 : w2.cell? ⟨w.heap.size + 1, 0, none⟩ = some (.bool true) := by simp [World.cell?, e1]
  have z0 : w2.frozen? ⟨w.heap.size, 0, none⟩ = false := by simp [World.frozen?, e0]
  have z1 : w2.frozen? ⟨w.heap.size + 1, 0, none⟩ = false := by simp [World.frozen?, e1]
  clear e0 e1
  go_wp2
  refine leaves_cons (f := 81) (args := #[.pointer (some ⟨w.heap.size + 1, 0, none⟩), .pointer (some ⟨w.heap.size, 0, none⟩)]) (by simp) (by simp [go_sem]) ?_
  refine (door_rows_idle _ _ _ (by simp [go_sem, c1])).mono ?_
  rintro e u' w3 ⟨rfl, rfl, rfl⟩
  simp [Leaves, settle, results, Tryz.results45, go_sem, c0]
  have hb := ((Below.refl w.heap.size w2).setCell (show w.heap.size ≤ w.heap.size + 1 by omega) (.bool false) (p := ⟨w.heap.size + 1, 0, none⟩)).setCell (show w.heap.size ≤ w.heap.size by omega) (.nilIface) (p := ⟨w.heap.size, 0, none⟩)
  exact ⟨_, HB.out, HS.out, _, hG, hb, Aside.below hb fun b h0 h1 => by rw [heap_setCell_other _ _ _ _ h0, heap_setCell_other _ _ _ _ h1]⟩
set_option maxRecDepth 20000 in
theorem try_rows_panic (ads : List Addr) (k : Nat) (hk : k < ads.length) (f : FuncId) (caps : Array Value) (w : World) (G : World → World → Prop) (hf : ∀ w, (callFunc f caps).run Tryz.prog w = .ok (.enter f caps) w)
    (H : ∀ w1, Below w.heap.size w w1 → w1.heap.size = w.heap.size + 2 → Calls Tryz.prog f caps w1 fun e w2 => e = .panicked [{ v := snt ads[k], recovered := false }] ∧ St ads w2 ∧ Past w.heap.size w1 w2 ∧ G w1 w2) :
    Calls Tryz.prog 45 #[.func (.func f) #[] caps] w fun e w' => e = .returned (.tuple #[.slice none 0 0, snt ads[k]]) ∧ Mid w G w' := by
  have hmf : ∀ (fn : Fn) (first cap : Array Value) (w : World), (Instr.makeFunc fn first cap).run Tryz.prog w = .ok (.func fn first cap) w := fun _ _ _ _ => rfl
  have hN : ((w.alloc (.cells #[.nilIface] 26)).alloc (.cells #[.bool true] 4)).heap[w.heap.size]? = some (.cells #[.nilIface] 26) := try_new0 _ _ _
  have hM : ((w.alloc (.cells #[.nilIface] 26)).alloc (.cells #[.bool true] 4)).heap[w.heap.size + 1]? = some (.cells #[.bool true] 4) := try_new1 _ _ _
  have hB : Below w.heap.size w ((w.alloc (.cells #[.nilIface] 26)).alloc (.cells #[.bool true] 4)) := ((Below.refl _ _).alloc (Nat.le_refl _) _).alloc (by simp) _
  have hS : ((w.alloc (.cells #[.nilIface] 26)).alloc (.cells #[.bool true] 4)).heap.size = w.heap.size + 2 := by simp
  have HH := Lib.hid H
  have HN := Lib.hid hN
  have HM := Lib.hid hM
  have HB := Lib.hid hB
  have HS := Lib.hid hS
  clear H hN hM hB hS
  go_enter_defers Tryz.func45, Tryz.ntmps45
  go_wp2
  with_reducible refine (HH.out _ HB.out HS.out).mono ?_
  rintro e w2 ⟨rfl, hV, hP, hG⟩
  have e0 : w2.heap[w.heap.size]? = some (.cells #[.nilIface] 26) := (hP.2 _ (by omega) (by rw [HS.out]; omega)).trans HN.out
  have e1 : w2.heap[w.heap.size + 1]? = some (.cells #[.bool true] 4) := (hP.2 _ (by omega) (by rw [HS.out]; omega)).trans HM.out
  have c0 : w2.cell? ⟨w.heap.size, 0, none⟩ = some .nilIface := by simp [World.cell?, e0]
  have c1 : w2.cell? ⟨w.heap.size + 1, 0, none⟩ = some (.bool true) := by simp [World.cell?, e1]
  have z0 : w2.frozen? ⟨w.heap.size, 0, none⟩ = false := by simp [World.frozen?, e0]
  have hd := door_rows_panic ads ⟨w.heap.size + 1, 0, none⟩ ⟨w.heap.size, 0, none⟩ .nilIface k hk [] w2 hV c1 c0 z0
  have hlt : w.heap.size < w2.heap.size := old_of_cell c0
  clear e0 e1
  refine leaves_cons (f := 81) (args := #[.pointer (some ⟨w.heap.size + 1, 0, none⟩), .pointer (some ⟨w.heap.size, 0, none⟩)]) (by simp) (by simp [go_sem]) ?_
  refine hd.mono ?_
  rintro e u' w3 ⟨rfl, rfl, w4, hw4, rfl⟩
  have c4 : w4.cell? ⟨w.heap.size, 0, none⟩ = some .nilIface := by rw [Below.cell hw4 hlt]; exact c0
  simp [Leaves, settle, results, Tryz.results45, go_sem, c4]
  exact ⟨_, _, HB.out, HS.out, hG, (Below.mono hw4 (by omega)).setCell (show w.heap.size ≤ w.heap.size by omega) _⟩
theorem try_rows_err (ads : List Addr) (k : Nat) (hk : k < ads.length) (f : FuncId) (caps : Array Value) (w : World) (V : St ads w) (hf : ∀ w, (callFunc f caps).run Tryz.prog w = .ok (.enter f caps) w)
    (H : ∀ w1, Kp w w1 → Calls Tryz.prog f caps w1 fun e w2 => e = .panicked [{ v := snt ads[k], recovered := false }] ∧ Kp w1 w2) :
    Calls Tryz.prog 45 #[.func (.func f) #[] caps] w fun e w' => e = .returned (.tuple #[.slice none 0 0, snt ads[k]]) ∧ Kp w w' := by
  refine (try_rows_panic ads k hk f caps w (fun w1 w2 => Kp w1 w2) hf fun w1 hb _ => ?_).mono ?_
  · refine (H w1 hb).mono ?_
    rintro e w2 ⟨rfl, hk2⟩
    exact ⟨rfl, V.below (Kp.trans hb hk2), past_of hk2, hk2⟩
  · rintro e w' ⟨rfl, w1, w2, hb, _, hk2, hb2⟩
    exact ⟨rfl, kp_of_mid hb hk2 hb2⟩
open Go.RowKit Go.ChangeShapes Go.WideShapes

/-- THE SLICE VALUE v READS AS THE FACTS fs. -/
def SlFc (v : Value) (fs : List FX) (w : World) : Prop :=
  ∃ a cap, v = .slice a fs.length cap ∧ ∀ (j : Nat) (h : j < fs.length), ∃ b off, a = some ⟨b, off, none⟩ ∧ fs[j].wf ∧ ∀ i u, fs[j].cells[i]? = some u → w.cell? ⟨b, off + j * 14 + i, none⟩ = some u
theorem SlFc.kp {v : Value} {fs : List FX} {w w' : World} (h : SlFc v fs w) (hk : Kp w w') : SlFc v fs w' := by
  obtain ⟨a, cap, h1, h2⟩ := h
  refine ⟨a, cap, h1, fun j hj => ?_⟩
  obtain ⟨b, off, h3, h4, h5⟩ := h2 j hj
  exact ⟨b, off, h3, h4, fun i u hu => kp_cell hk (h5 i u hu)⟩
/-- its element at a place -/
theorem SlFc.at {a : Option Addr} {n cap : Nat} {fs : List FX} {w : World} (h : SlFc (.slice a n cap) fs w) (j : Nat) (hj : j < fs.length) :
    ∃ b off, a = some ⟨b, off, none⟩ ∧ fs[j].wf ∧ ∀ i u, fs[j].cells[i]? = some u → w.cell? ⟨b, off + j * 14 + i, none⟩ = some u := by
  obtain ⟨a', cap', h1, h2⟩ := h
  injection h1 with h1 _ _
  subst h1
  exact h2 j hj

set_option maxRecDepth 100000 in
theorem fct_cells {H : Type} {enc : TypeId × Value → H} {W : World} {fuel : Nat} {cs : List Value} (hsz : cs.length = 14) {x : DataW H × List MemPlace}
    (hf : DataW.trod enc Tryz.prog W 0 (fun _ => true) true fuel 39 cs = some x) : ∃ c : FX, cs = c.cells.toList ∧ c.wf := by
  have h14 : Tryz.prog.cellsOf 39 = 14 := by kernel_rfl
  have h1 : Tryz.prog.cellsOf 3 = 1 := by kernel_rfl
  have hf1 : Tryz.prog.cellsOf 37 = 1 := by kernel_rfl
  have h2 : Tryz.prog.cellsOf 36 = 2 := by kernel_rfl
  match cs, hsz with
  | [c0, c1, c2, c3, c4, c5, c6, c7, c8, c9, c10, c11, c12, c13], _ =>
    obtain ⟨xs, n, _, _, _, hlen, hfs⟩ := DataW.trod_struct Tryz.underlying39 hf
    have g0 := hfs 0 _ rfl
    have g1 := hfs 1 _ rfl
    have g2 := hfs 2 _ rfl
    have g3 := hfs 3 _ rfl
    have g4 := hfs 4 _ rfl
    have g5 := hfs 5 _ rfl
    have g6 := hfs 6 _ rfl
    have g7 := hfs 7 _ rfl
    have g8 := hfs 8 _ rfl
    have g9 := hfs 9 _ rfl
    have g10 := hfs 10 _ rfl
    have g11 := hfs 11 _ rfl
    have g12 := hfs 12 _ rfl
    have e13 : xs.length = 13 := hlen
    match xs, e13 with
    | [x0, x1, x2, x3, x4, x5, x6, x7, x8, x9, x10, x11, x12], _ =>
      obtain ⟨y0, rfl⟩ := one_int9 (v := c0) g0 (by simp [h1])
      obtain ⟨y3, rfl⟩ := one_int9 (v := c3) g2 (by simp [h1])
      obtain ⟨y4, rfl⟩ := one_int9 (v := c4) g3 (by simp [h1])
      obtain ⟨y5, rfl⟩ := one_int9 (v := c5) g4 (by simp [h1])
      obtain ⟨y6, rfl⟩ := one_int9 (v := c6) g5 (by simp [h1])
      obtain ⟨y7, rfl⟩ := one_int9 (v := c7) g6 (by simp [h1])
      obtain ⟨y8, rfl⟩ := one_int9 (v := c8) g7 (by simp [h1])
      obtain ⟨y9, rfl⟩ := one_int9 (v := c9) g8 (by simp [h1])
      obtain ⟨y10, rfl⟩ := one_int9 (v := c10) g9 (by simp [h1])
      obtain ⟨y11, rfl⟩ := one_int9 (v := c11) g10 (by simp [h1])
      obtain ⟨y12, rfl⟩ := one_int9 (v := c12) g11 (by simp [h1])
      obtain ⟨y13, rfl, w13⟩ := one_float9 (v := c13) g12 (by simp [hf1])
      obtain ⟨z3, z4, k, _, _, a0, a1⟩ := trod_struct2 Tryz.underlying36 g1
      obtain ⟨y1, rfl⟩ := one_int9 (v := c1) a0 (by simp [h1, h2])
      obtain ⟨y2, rfl⟩ := one_int9 (v := c2) a1 (by simp [h1, h2])
      exact ⟨⟨y0, y1, y2, y3, y4, y5, y6, y7, y8, y9, y10, y11, y12, y13⟩, rfl, w13⟩

set_option maxRecDepth 100000 in
theorem open_fcts {H : Type} {enc : TypeId × Value → H} {W : World} {r : Reach} {b0 : Nat} {v : Value} {d : DataW H} {ps : List MemPlace}
    (hval : Value.okWide Tryz.prog W r b0 22 v) (h : DataW.Trod enc Tryz.prog W 0 (fun _ => true) true 22 v d ps) : ∃ fs : List FX, SlFc v fs W ∧ fs.length ≤ maxLen := by
  have ce : Tryz.prog.cellsOf 39 = 14 := by kernel_rfl
  obtain ⟨a0, len0, cap0, rfl⟩ := okWide_slice Tryz.underlying22 hval
  obtain ⟨fuel, hf⟩ := h
  rcases Deep.open_slice Tryz.underlying22 hf with ⟨hcs, hx⟩ | ⟨a, len, cap, m, n, D, Pl, hcs, _, hl, hm, hmm, hx, hcell⟩
  · simp [Value.cells] at hcs
    obtain ⟨rfl, rfl, rfl⟩ := hcs
    exact ⟨[], ⟨none, 0, rfl, fun j hj => by cases hj⟩, by simp⟩
  · simp [Value.cells] at hcs
    obtain ⟨rfl, rfl, rfl⟩ := hcs
    simp only [if_true] at hmm
    have hsp : 0 < len0 → a.spot = none := by
      intro h0
      obtain ⟨cs', h1, h2⟩ := hcell 0 (by omega)
      rw [ce] at h1
      obtain ⟨_, hlen, hcl⟩ := World.cells?_some h1
      obtain ⟨o, rfl, -⟩ := fct_cells (by simpa using hlen) h2
      have q0 := hcl 0 (by omega)
      rw [Deep.add_add] at q0
      simpa [Addr.add] using World.cell?_spot q0
    have hel : ∀ i, i < len0 → ∃ o : FX, ∃ b off, a = ⟨b, off, none⟩ ∧ o.wf ∧ ∀ k u, o.cells[k]? = some u → W.cell? ⟨b, off + i * 14 + k, none⟩ = some u := by
      intro i hi
      obtain ⟨cs', h1, h2⟩ := hcell i (by omega)
      rw [ce] at h1
      obtain ⟨_, hlen, hcl⟩ := World.cells?_some h1
      obtain ⟨o, ho, hw⟩ := fct_cells (by simpa using hlen) h2
      subst ho
      obtain ⟨b, off, spot⟩ := a
      obtain rfl : spot = none := hsp (by omega)
      refine ⟨o, b, off, rfl, hw, fun k u hu => ?_⟩
      have hk : k < 14 := (Array.getElem?_eq_some_iff.1 hu).1
      have q := hcl k (by omega)
      rw [Deep.add_add, add_plain, Array.getElem?_toList, hu] at q
      rw [Nat.add_assoc]
      exact q
    let f : Nat → FX := fun i => if h : i < len0 then (hel i h).choose else noF
    refine ⟨(List.range len0).map f, ⟨some a, cap0, by simp, fun j hj => ?_⟩, by simp; omega⟩
    have hj' : j < len0 := by simpa using hj
    have e : f j = (hel j hj').choose := by show (if h : j < len0 then (hel j h).choose else noF) = _; rw [dif_pos hj']
    obtain ⟨b, off, h1, h2, h3⟩ := (hel j hj').choose_spec
    refine ⟨b, off, by rw [h1], ?_⟩
    rw [List.getElem_map, List.getElem_range, e]
    exact ⟨h2, h3⟩
end Go.Proofs.YtpemeenfhkgmpaaGreatDoor
