/-
  PARTS OF THIS PROOF (own work): LsS, LwA, LxA.
-/
import Derived.Test.YtpemeenfhkgmpaaGreatDoorZb01
import Derived.Test.YtpemeenfhkgmpaaGreatDoorZb28
import Derived.Test.YtpemeenfhkgmpaaGreatDoorZb03
import Derived.Test.YtpemeenfhkgmpaaGreatDoorZb31
import Derived.Test.YtpemeenfhkgmpaaGreatDoorZb15
import Derived.Test.YtpemeenfhkgmpaaGreatDoorZb14
import Derived.Test.YtpemeenfhkgmpaaGreatDoorZb04
import Derived.Laws.StructEq
namespace Go.Proofs.YtpemeenfhkgmpaaGreatDoor
open Go.RowKit Go.ChangeShapes Go.WideShapes

variable {w0 w w' W w3 : World} {B q : Nat} {m : StM} {gs : List AcG} {va vp : Value}

variable {ads : List Addr}
/-- a node's number -/
def inN (nd : Int) : Prop := 0 ≤ nd ∧ nd ≤ 3
theorem gs_new {nd : Int} (h : w.heap[q]? = some (.cells #[.int .i64 nd, .int .i64 0, .slice none 0 0, .slice none 0 0] 81)) (hb : B ≤ q) : GS tyL B q (newSt nd) [] (.slice none 0 0) (.slice none 0 0) w where
  row := h
  bq := hb
  acts := rfl
  oa := ⟨by simp [EncG.row], .inl ⟨rfl, rfl⟩⟩
  op := ⟨by simp [EncG.row, newSt], .inl ⟨rfl, rfl⟩⟩
  og := fun g hg => by cases hg
  dis := fun i j g h hi => by simp at hi
set_option maxRecDepth 100000 in
set_option maxHeartbeats 4000000 in
theorem lsNew (E : EP [0, 3, 4, 8, 13] ads w) (nd : Int) : Calls Tryz.prog 9 #[.int .i64 nd] w fun r w' => (¬ inN nd ∧ r = .returned (.tuple #[.pointer none, errI ads 1]) ∧ Kp w w') ∨ (inN nd ∧ ∃ q, r = .returned (.tuple #[.pointer (some ⟨q, 0, none⟩), .nilIface]) ∧ GS tyL w.heap.size q (newSt nd) [] (.slice none 0 0) (.slice none 0 0) w' ∧ Kp w w') := by
  have ce : w.cell? ⟨0, 0, none⟩ = some (errI ads 1) := E.cell 0 (by decide)
  obtain ⟨er, her⟩ : ∃ x, errI ads 1 = x := ⟨_, rfl⟩
  rw [her] at ce
  have HER := Lib.hid her
  clear E her
  by_cases h1 : nd < 0
  · have HB := Lib.hid (show ¬ inN nd by unfold inN; omega)
    have d1 := decide_eq_true h1
    go_enter Tryz.func9, Tryz.ntmps9
    go_wp2_with fail
    obtain ⟨WD, hWD⟩ : ∃ x, w.drew = x := ⟨_, rfl⟩
    have kD : Kp w WD := by rw [← hWD]; exact drewQ (Kp.refl w)
    have HWD := Lib.hid hWD
    clear hWD
    refine wp_region_held_drew (S := fun w' => Kp w w') (by kernel_rfl) ?_ (fun hHeld => ?_)
    · exact by rw [HWD.out]; exact kD
    rw [HWD.out] at hHeld ⊢
    refine tkW ?_ 0 ?_ ?_; rotate_left
    · intro w hSw; have a0 := kp_cell hSw ce; go_simp; try rfl
    go_simp
    refine tkW ?_ 1 ?_ ?_; rotate_left
    · intro w hSw; go_simp; try rfl
    go_simp
    refine tkW ?_ 2 ?_ ?_; rotate_left
    · intro w hSw; go_simp; try rfl
    go_simp
    refine wpAnyH_done (by kernel_rfl) ?_ _
    have KF := Lib.hid (show Kp w _ from hHeld)
    clear hHeld
    go_wp2
    go_ret2
    exact .inl ⟨HB.out, by rw [HER.out]; rfl, KF.out⟩
  · have d1 := decide_eq_false h1
    by_cases h2 : 4 ≤ nd
    · have HB := Lib.hid (show ¬ inN nd by unfold inN; omega)
      have d2 : decide (nd ≥ 4) = true := decide_eq_true h2
      go_enter Tryz.func9, Tryz.ntmps9
      go_wp2_with fail
      obtain ⟨WD, hWD⟩ : ∃ x, w.drew = x := ⟨_, rfl⟩
      have kD : Kp w WD := by rw [← hWD]; exact drewQ (Kp.refl w)
      have HWD := Lib.hid hWD
      clear hWD
      refine wp_region_held_drew (S := fun w' => Kp w w') (by kernel_rfl) ?_ (fun hHeld => ?_)
      · exact by rw [HWD.out]; exact kD
      rw [HWD.out] at hHeld ⊢
      refine tkW ?_ 0 ?_ ?_; rotate_left
      · intro w hSw; have a0 := kp_cell hSw ce; go_simp; try rfl
      go_simp
      refine tkW ?_ 1 ?_ ?_; rotate_left
      · intro w hSw; go_simp; try rfl
      go_simp
      refine tkW ?_ 2 ?_ ?_; rotate_left
      · intro w hSw; go_simp; try rfl
      go_simp
      refine wpAnyH_done (by kernel_rfl) ?_ _
      have KF := Lib.hid (show Kp w _ from hHeld)
      clear hHeld
      go_wp2
      go_ret2
      exact .inl ⟨HB.out, by rw [HER.out]; rfl, KF.out⟩
    · have d2 : decide (nd ≥ 4) = false := decide_eq_false h2
      have HB := Lib.hid (show inN nd by unfold inN; omega)
      have rz := (MapKept.heap_alloc w (.cells #[.int .i64 nd, .int .i64 0, .slice none 0 0, .slice none 0 0] 81)).1
      have FIN := Lib.hid (gs_new (B := w.heap.size) rz (Nat.le_refl _))
      clear rz ce
      go_enter Tryz.func9, Tryz.ntmps9
      go_wp2
      go_ret2
      exact .inr ⟨HB.out, _, rfl, FIN.out, kp_alloc _ _⟩
open Go.RowKit Go.ChangeShapes Go.WideShapes

def alF : List FX := [(⟨1, 1, 0, 0, 0, 0, 0, 1, 0, 0, 0, 0, 0, 4621256167635550208⟩ : FX), (⟨2, 1, 0, 0, 0, 0, 1, 0, 0, 0, 0, 0, 0, 0⟩ : FX), (⟨3, 1, 0, 0, 0, 0, 0, 0, 0, 0, 5, 0, 0, 0⟩ : FX)]
def alM : Nat → StM
  | 0 => newSt 1
  | n + 1 => match alF[n]? with
    | some f => (applyQ (alM n) f).2
    | none => alM n
theorem al_0 : (applyQ (alM 0) (⟨1, 1, 0, 0, 0, 0, 0, 1, 0, 0, 0, 0, 0, 4621256167635550208⟩ : FX)).1 = 0 := by decide +kernel
theorem al_1 : (applyQ (alM 1) (⟨2, 1, 0, 0, 0, 0, 1, 0, 0, 0, 0, 0, 0, 0⟩ : FX)).1 = 0 := by decide +kernel
theorem al_2 : (applyQ (alM 2) (⟨3, 1, 0, 0, 0, 0, 0, 0, 0, 0, 5, 0, 0, 0⟩ : FX)).1 = 0 := by decide +kernel
theorem alM_step : ∀ j (h : j < alF.length), applyQ (alM j) (alF[j]'h) = (0, alM (j + 1)) := by
  intro j h
  have h' : j < 3 := h
  rcases (by omega : j = 0 ∨ j = 1 ∨ j = 2) with rfl | rfl | rfl
  · exact Prod.ext al_0 rfl
  · exact Prod.ext al_1 rfl
  · exact Prod.ext al_2 rfl
theorem alM_ok : ∀ j, j ≤ 3 → OkS (alM j)
  | 0, _ => newSt_ok (by omega)
  | n + 1, h => by
    have h1 := alM_ok n (by omega)
    have hl : n < alF.length := by show n < 3; omega
    have h2 := applyQ_ok (f := alF[n]'hl) h1
    have h3 := congrArg Prod.snd (alM_step n hl)
    exact (show (applyQ (alM n) (alF[n]'hl)).2 = alM (n + 1) from h3) ▸ h2
theorem alF_wf : ∀ f ∈ alF, f.wf := by
  intro f hf
  simp only [alF, List.mem_cons, List.not_mem_nil, or_false] at hf
  rcases hf with rfl | rfl | rfl <;> (unfold FX.wf; decide)
theorem alM_find : findS (alM 3).acts 1 0 = some 0 := by decide +kernel
theorem alM_act : ∃ a : AcM, (alM 3).acts[0]? = some a ∧ ∃ g1 g2 z1 z2 z4, a.regs = [⟨g1, g2, ⟨z1, z2, 5, z4⟩⟩] := ⟨_, rfl, _, _, _, _, _, rfl⟩
theorem ow_not {T : TyQ} {B q b : Nat} {m : StM} {gs : List AcG} {va vp : Value} {w : World} {cs : Array Value} {t : TypeId} (h : GS T B q m gs va vp w) (r : w.heap[b]? = some (.cells cs t (0, 0))) (h1 : t ≠ T.st) (h2 : t ≠ T.ac) (h3 : t ≠ T.pt) (h4 : t ≠ T.rg) : ¬ Ow q gs va vp b := by
  rintro (hb | hb | hb | ⟨g, hg, hb⟩)
  · exact row_neQ r h.row h1 hb
  · exact own_neQ h.oa r h2 hb.symm
  · exact own_neQ h.op r h3 hb.symm
  · exact own_neQ (h.og g hg) r h4 hb.symm
/-- a row of another type, beside a change of a store -/
theorem own_asdQ {T : TyQ} {B B' q k n : Nat} {m : StM} {gs : List AcG} {va vp : Value} {O' : Nat → Prop} {w w' : World} {t : TypeId} {v : Value} {us : List Value} (h : GS T B q m gs va vp w) (o : w.ownsRow B' t k v n us) (h1 : t ≠ T.st) (h2 : t ≠ T.ac) (h3 : t ≠ T.pt) (h4 : t ≠ T.rg) (a : Asd (Ow q gs va vp) O' w w') : w'.ownsRow B' t k v n us :=
  own_stayG o fun b hb => by
    obtain ⟨c, hc⟩ := own_kindQ o b hb
    exact a.block b (o.lt b hb).2 (ow_not h hc h1 h2 h3 h4)
variable {w0 w w' W w3 : World} {B q : Nat} {m : StM} {gs : List AcG} {va vp : Value}

variable {ads : List Addr}
theorem own_al (B : Nat) (hb : B ≤ w.heap.size) : (w.alloc (.cells #[.int .i64 1, .int .i64 1, .int .i64 0, .int .i64 0, .int .i64 0, .int .i64 0, .int .i64 0, .int .i64 1, .int .i64 0, .int .i64 0, .int .i64 0, .int .i64 0, .int .i64 0, .float .f64 4621256167635550208, .int .i64 2, .int .i64 1, .int .i64 0, .int .i64 0, .int .i64 0, .int .i64 0, .int .i64 1, .int .i64 0, .int .i64 0, .int .i64 0, .int .i64 0, .int .i64 0, .int .i64 0, .float .f64 0, .int .i64 3, .int .i64 1, .int .i64 0, .int .i64 0, .int .i64 0, .int .i64 0, .int .i64 0, .int .i64 0, .int .i64 0, .int .i64 0, .int .i64 5, .int .i64 0, .int .i64 0, .float .f64 0] 39)).ownsRow B 39 14 (.slice (some ⟨w.heap.size, 0, none⟩) 3 3) 3 (fcE.row alF) := by
  have := World.ownsRow_lit (base := B) (e := 39) (size := 14) w #[.int .i64 1, .int .i64 1, .int .i64 0, .int .i64 0, .int .i64 0, .int .i64 0, .int .i64 0, .int .i64 1, .int .i64 0, .int .i64 0, .int .i64 0, .int .i64 0, .int .i64 0, .float .f64 4621256167635550208, .int .i64 2, .int .i64 1, .int .i64 0, .int .i64 0, .int .i64 0, .int .i64 0, .int .i64 1, .int .i64 0, .int .i64 0, .int .i64 0, .int .i64 0, .int .i64 0, .int .i64 0, .float .f64 0, .int .i64 3, .int .i64 1, .int .i64 0, .int .i64 0, .int .i64 0, .int .i64 0, .int .i64 0, .int .i64 0, .int .i64 0, .int .i64 0, .int .i64 5, .int .i64 0, .int .i64 0, .float .f64 0] 3 hb (by decide) rfl
  rw [show fcE.row alF = (#[.int .i64 1, .int .i64 1, .int .i64 0, .int .i64 0, .int .i64 0, .int .i64 0, .int .i64 0, .int .i64 1, .int .i64 0, .int .i64 0, .int .i64 0, .int .i64 0, .int .i64 0, .float .f64 4621256167635550208, .int .i64 2, .int .i64 1, .int .i64 0, .int .i64 0, .int .i64 0, .int .i64 0, .int .i64 1, .int .i64 0, .int .i64 0, .int .i64 0, .int .i64 0, .int .i64 0, .int .i64 0, .float .f64 0, .int .i64 3, .int .i64 1, .int .i64 0, .int .i64 0, .int .i64 0, .int .i64 0, .int .i64 0, .int .i64 0, .int .i64 0, .int .i64 0, .int .i64 5, .int .i64 0, .int .i64 0, .float .f64 0]).toList by unfold EncG.row alF; simp [fcE, FX.cells]]
  exact this
set_option maxRecDepth 100000 in
set_option maxHeartbeats 8000000 in
theorem alive15_any (C : FacC ads w) (E : EP [0, 3, 4, 8, 13] ads w) : Calls Tryz.prog 8 #[] w fun r w' => r = .returned (.bool true) ∧ Kp w w' := by
  have hnew := fun w1 (hk : Kp w w1) => (lsNew (E.kp hk) 1).mono (R' := fun r w' => ∃ q, r = .returned (.tuple #[.pointer (some ⟨q, 0, none⟩), .nilIface]) ∧ GS tyL w1.heap.size q (newSt 1) [] (.slice none 0 0) (.slice none 0 0) w' ∧ Kp w1 w') (by
    rintro e w2 (⟨h, _⟩ | ⟨_, h⟩)
    · exact absurd (by unfold inN; omega) h
    · exact h)
  have HNEW := Lib.hid hnew
  have HC := Lib.hid C
  have HE := Lib.hid E
  have hsf := store_fl
  clear hnew C E
  go_enter Tryz.func8, Tryz.ntmps8
  go_wp2_with (go_at_call 9; (with_reducible refine (HNEW.out _ (Kp.refl w)).mono ?_); rintro e' w1 ⟨q, rfl, hg1, hk1⟩; have G1 := Lib.hid hg1; have K1 := Lib.hid hk1; have A1 := Lib.hid (new14_0 w1 (.cells #[.int .i64 1, .int .i64 0] 36) (.cells #[.int .i64 1, .int .i64 1, .int .i64 0, .int .i64 0, .int .i64 0, .int .i64 0, .int .i64 0, .int .i64 1, .int .i64 0, .int .i64 0, .int .i64 0, .int .i64 0, .int .i64 0, .float .f64 4621256167635550208, .int .i64 2, .int .i64 1, .int .i64 0, .int .i64 0, .int .i64 0, .int .i64 0, .int .i64 1, .int .i64 0, .int .i64 0, .int .i64 0, .int .i64 0, .int .i64 0, .int .i64 0, .float .f64 0, .int .i64 3, .int .i64 1, .int .i64 0, .int .i64 0, .int .i64 0, .int .i64 0, .int .i64 0, .int .i64 0, .int .i64 0, .int .i64 0, .int .i64 5, .int .i64 0, .int .i64 0, .float .f64 0] 39)); obtain ⟨b0, b1⟩ := cells_2S (MapKept.heap_alloc w1 (.cells #[.int .i64 1, .int .i64 0] 36)).1; clear hg1 hk1)
  have kx : Kp w ((w1.alloc (.cells #[.int .i64 1, .int .i64 0] 36)).alloc (.cells #[.int .i64 1, .int .i64 1, .int .i64 0, .int .i64 0, .int .i64 0, .int .i64 0, .int .i64 0, .int .i64 1, .int .i64 0, .int .i64 0, .int .i64 0, .int .i64 0, .int .i64 0, .float .f64 4621256167635550208, .int .i64 2, .int .i64 1, .int .i64 0, .int .i64 0, .int .i64 0, .int .i64 0, .int .i64 1, .int .i64 0, .int .i64 0, .int .i64 0, .int .i64 0, .int .i64 0, .int .i64 0, .float .f64 0, .int .i64 3, .int .i64 1, .int .i64 0, .int .i64 0, .int .i64 0, .int .i64 0, .int .i64 0, .int .i64 0, .int .i64 0, .int .i64 0, .int .i64 5, .int .i64 0, .int .i64 0, .float .f64 0] 39)) := Kp.trans K1.out (Kp.trans (kp_alloc _ _) (kp_alloc _ _))
  have hO := own_al (w := w1.alloc (.cells #[.int .i64 1, .int .i64 0] 36)) w.heap.size (kp_size (Kp.trans K1.out (kp_alloc _ _)))
  rw [show (w1.alloc (.cells #[.int .i64 1, .int .i64 0] 36)).heap.size = w1.heap.size + 1 by simp] at hO
  have hg := G1.out.kp (Kp.trans (kp_alloc w1 (.cells #[.int .i64 1, .int .i64 0] 36)) (kp_alloc _ (.cells #[.int .i64 1, .int .i64 1, .int .i64 0, .int .i64 0, .int .i64 0, .int .i64 0, .int .i64 0, .int .i64 1, .int .i64 0, .int .i64 0, .int .i64 0, .int .i64 0, .int .i64 0, .float .f64 4621256167635550208, .int .i64 2, .int .i64 1, .int .i64 0, .int .i64 0, .int .i64 0, .int .i64 0, .int .i64 1, .int .i64 0, .int .i64 0, .int .i64 0, .int .i64 0, .int .i64 0, .int .i64 0, .float .f64 0, .int .i64 3, .int .i64 1, .int .i64 0, .int .i64 0, .int .i64 0, .int .i64 0, .int .i64 0, .int .i64 0, .int .i64 0, .int .i64 0, .int .i64 5, .int .i64 0, .int .i64 0, .float .f64 0] 39)))
  have KX := Lib.hid kx
  have HO := Lib.hid hO
  have HG0 := Lib.hid hg
  clear kx hO hg
  go_loopw [27] (fun i wr => ∃ (j : Nat) (gs : List AcG) (va vp : Value), j ≤ 3 ∧ i = .int .i64 j ∧ GS tyL w.heap.size q (alM j) gs va vp wr ∧ Kp w wr ∧ (wr.ownsRow w.heap.size 39 14 (.slice (some ⟨w1.heap.size + 1, 0, none⟩) 3 3) 3 (fcE.row alF)) ∧ wr.heap[w1.heap.size]? = some (.cells #[.int .i64 1, .int .i64 0] 36)) (fun i _ => 3 - (intOf i).toNat)
  case atStart => exact ⟨0, [], _, _, Nat.zero_le _, rfl, HG0.out, KX.out, HO.out, A1.out⟩
  case round =>
    obtain ⟨j, gs, va, vp, hj, rfl, hg, hk, ho, hb⟩ := hrel
    obtain ⟨kk, hkk⟩ : ∃ x : Int, (j : Int) = x := ⟨_, rfl⟩
    rw [hkk]
    have HKK := Lib.hid hkk
    have KR := Lib.hid hk
    have OR := Lib.hid ho
    have RB := Lib.hid hb
    have HG := Lib.hid hg
    by_cases hlt : j < 3
    · have hjl : kk < 3 := by omega
      have hk0 : 0 ≤ kk := by omega
      have htk : kk.toNat = j := by omega
      have hw1 : wrap64 (kk + 1) = kk + 1 := IntWalk.wrap64_in _ (by omega)
      have HLT := Lib.hid hlt
      obtain ⟨ga, cga, ega, h1ga, h2ga, h3ga, h4ga, hcga⟩ := own_cellQ (E := fcE) ho (show alF.length = 3 from rfl) hlt
      have hlt' : j < alF.length := hlt
      have ega := congrArg (fun v => match v with | Value.slice a _ _ => a | _ => none) ega
      dsimp only at ega
      have ega := Option.some.inj ega
      have ega := congrArg Addr.block ega
      dsimp only at ega
      subst ega
      obtain ⟨⟨fk, fn, fs, fr, fe, fp, fq, fo, fd, fa, ft, fh, fc, fx⟩, hyga⟩ : ∃ r, alF[j]'hlt' = r := ⟨_, rfl⟩
      rw [hyga, show fcE.k = 14 from rfl, ← htk] at hcga
      have zf0 : wr.cell? ⟨w1.heap.size + 1, kk.toNat * 14, none⟩ = some (.int .i64 fk) := hcga 0 _ (by decide) rfl
      have zf1 : wr.cell? ⟨w1.heap.size + 1, kk.toNat * 14 + 1, none⟩ = some (.int .i64 fn) := hcga 1 _ (by decide) rfl
      have zf2 : wr.cell? ⟨w1.heap.size + 1, kk.toNat * 14 + 2, none⟩ = some (.int .i64 fs) := hcga 2 _ (by decide) rfl
      have zf3 : wr.cell? ⟨w1.heap.size + 1, kk.toNat * 14 + 3, none⟩ = some (.int .i64 fr) := hcga 3 _ (by decide) rfl
      have zf4 : wr.cell? ⟨w1.heap.size + 1, kk.toNat * 14 + 4, none⟩ = some (.int .i64 fe) := hcga 4 _ (by decide) rfl
      have zf5 : wr.cell? ⟨w1.heap.size + 1, kk.toNat * 14 + 5, none⟩ = some (.int .i64 fp) := hcga 5 _ (by decide) rfl
      have zf6 : wr.cell? ⟨w1.heap.size + 1, kk.toNat * 14 + 6, none⟩ = some (.int .i64 fq) := hcga 6 _ (by decide) rfl
      have zf7 : wr.cell? ⟨w1.heap.size + 1, kk.toNat * 14 + 7, none⟩ = some (.int .i64 fo) := hcga 7 _ (by decide) rfl
      have zf8 : wr.cell? ⟨w1.heap.size + 1, kk.toNat * 14 + 8, none⟩ = some (.int .i64 fd) := hcga 8 _ (by decide) rfl
      have zf9 : wr.cell? ⟨w1.heap.size + 1, kk.toNat * 14 + 9, none⟩ = some (.int .i64 fa) := hcga 9 _ (by decide) rfl
      have zf10 : wr.cell? ⟨w1.heap.size + 1, kk.toNat * 14 + 10, none⟩ = some (.int .i64 ft) := hcga 10 _ (by decide) rfl
      have zf11 : wr.cell? ⟨w1.heap.size + 1, kk.toNat * 14 + 11, none⟩ = some (.int .i64 fh) := hcga 11 _ (by decide) rfl
      have zf12 : wr.cell? ⟨w1.heap.size + 1, kk.toNat * 14 + 12, none⟩ = some (.int .i64 fc) := hcga 12 _ (by decide) rfl
      have zf13 : wr.cell? ⟨w1.heap.size + 1, kk.toNat * 14 + 13, none⟩ = some (.float .f64 fx) := hcga 13 _ (by decide) rfl
      obtain ⟨u0, u1, u2, u3, u4, u5, u6, u7, u8, u9, u10, u11, u12, u13⟩ := cells14 (MapKept.heap_alloc wr (.cells #[.int .i64 fk, .int .i64 fn, .int .i64 fs, .int .i64 fr, .int .i64 fe, .int .i64 fp, .int .i64 fq, .int .i64 fo, .int .i64 fd, .int .i64 fa, .int .i64 ft, .int .i64 fh, .int .i64 fc, .float .f64 fx] 39)).1
      have hwf : FX.wf (⟨fk, fn, fs, fr, fe, fp, fq, fo, fd, fa, ft, fh, fc, fx⟩ : FX) := by rw [← hyga]; exact alF_wf _ (List.getElem_mem hlt')
      have hst := alM_step j hlt'
      rw [hyga] at hst
      have hap := fun w2 (hk1 : Kp wr w2) => lsApply_any (HC.out.kp (Kp.trans hk hk1)) (HE.out.kp (Kp.trans hk hk1)) (hg.kp hk1) (alM_ok j (by omega)) (⟨fk, fn, fs, fr, fe, fp, fq, fo, fd, fa, ft, fh, fc, fx⟩ : FX) hwf
      rw [hst] at hap
      dsimp only [FX.cells] at hap
      rw [errI_nil] at hap
      have HAP := Lib.hid hap
      have HOW := Lib.hid (show ∀ b, Ow q gs va vp b → w.heap.size ≤ b from fun b hb => (hg.mem b hb).1)
      have hlt2 := hlt
      clear hlt2 hlt' hkk hj hlt hg hk ho hb htk h1ga h2ga h3ga h4ga hcga hyga hwf hst hap
      go_wp2_with (go_at_call 11; (with_reducible refine (HAP.out _ (kp_alloc wr (.cells #[.int .i64 fk, .int .i64 fn, .int .i64 fs, .int .i64 fr, .int .i64 fe, .int .i64 fp, .int .i64 fq, .int .i64 fo, .int .i64 fd, .int .i64 fa, .int .i64 ft, .int .i64 fh, .int .i64 fc, .float .f64 fx] 39))).mono ?_); rintro e' w5 ⟨rfl, gs2, va2, vp2, hg, ha⟩; have G5 := Lib.hid hg; have A5 := Lib.hid ha; clear hg ha)
      have KB := Lib.hid (kp_alloc wr (.cells #[.int .i64 fk, .int .i64 fn, .int .i64 fs, .int .i64 fr, .int .i64 fe, .int .i64 fp, .int .i64 fq, .int .i64 fo, .int .i64 fd, .int .i64 fa, .int .i64 ft, .int .i64 fh, .int .i64 fc, .float .f64 fx] 39))
      go_roundw
      case rel => exact ⟨j + 1, gs2, va2, vp2, by have := HLT.out; omega, by have := HKK.out; first | rw [show ((j + 1 : Nat) : Int) = kk + 1 by omega] | rw [show ((j + 1 : Nat) : Int) = kk + 1 by omega, hw1], G5.out, A5.out.kp (Kp.trans KR.out KB.out) HOW.out, own_asdQ (HG.out.kp KB.out) (own_kp OR.out KB.out) (by decide) (by decide) (by decide) (by decide) A5.out, (A5.out.block _ (old_of_row (kp_row KB.out RB.out)) (ow_not (HG.out.kp KB.out) (kp_row KB.out RB.out) (by decide) (by decide) (by decide) (by decide))).trans (kp_row KB.out RB.out)⟩
      case measure => have := HKK.out; have := HLT.out; simp [intOf]; omega
    · have hje : ¬ kk < 3 := by omega
      have h3 : j = 3 := by omega
      rw [h3] at hg
      have h8 : gs.length ≤ 8 := by rw [hg.len]; exact (alM_ok 3 (by omega)).l8
      have h6 : ∀ a ∈ (alM 3).acts, a.regs.length ≤ 6 := fun a ha => ((alM_ok 3 (by omega)).a a ha).l
      have HF := Lib.hid (fun w2 (hk1 : Kp wr w2) => stFind (hg.kp hk1) h8 h6 1 0)
      obtain ⟨b2, b3⟩ := cells_2S hb
      clear hkk hj hlt hk ho hb h3 hg h8 h6
      go_wp2_with (go_at_call 22; (with_reducible refine (HF.out _ (Kp.refl wr)).mono ?_); rintro e' w3 ⟨v, rfl, ⟨xa, xb, xk, hv, hx, hO⟩, hk3⟩; rw [alM_find] at hx ⊢; obtain ⟨ya, hy, g1, g2, z1, z2, z4, hre⟩ := alM_act; obtain rfl := Option.some.inj (hy.symm.trans hx); obtain ⟨⟨xn, xs, xo, xd, xx⟩, xp, xc, xr⟩ := ya; dsimp only at hre; subst hre; unfold acV at hv; dsimp only [List.length_cons, List.length_nil] at hv; subst hv; obtain ⟨gr, ck, exb, hck, hgrB, hgrl, hfzr, hcr⟩ := own_cellQ (E := rgE) (n := 1) hO rfl (by omega : 0 < 1); have exb := congrArg (fun v => match v with | Value.slice a _ _ => a | _ => none) exb; dsimp only at exb; subst exb; have c4 : w3.cell? ⟨gr, 4, none⟩ = some (.int .i64 5) := hcr 4 _ (by decide) rfl; have KQ := Lib.hid (Kp.trans KR.out (Kp.trans hk3 (kp_alloc w3 (.cells #[.int .i64 xn, .int .i64 xs, .int .i64 xo, .int .i64 xd, .float .f64 xx, .int .i64 xp, .int .i64 xc, .slice (some ⟨gr, 0, none⟩) 1 xk] 65))));  obtain ⟨d0, d1, d2, d3, d4, d5, d6, d7⟩ := cells_8 (MapKept.heap_alloc w3 (.cells #[.int .i64 xn, .int .i64 xs, .int .i64 xo, .int .i64 xd, .float .f64 xx, .int .i64 xp, .int .i64 xc, .slice (some ⟨gr, 0, none⟩) 1 xk] 65)).1; have c4 := kp_cell (kp_alloc w3 (.cells #[.int .i64 xn, .int .i64 xs, .int .i64 xo, .int .i64 xd, .float .f64 xx, .int .i64 xp, .int .i64 xc, .slice (some ⟨gr, 0, none⟩) 1 xk] 65)) c4; clear hcr hfzr hck hgrB hgrl hO hx hy hk3)
      go_ret
      exact ⟨rfl, KQ.out⟩
open Go.RowKit Go.ChangeShapes Go.WideShapes

theorem dreg_fields : Tryz.prog.underlying 103 = some (.struct (Tryz.prog.fieldsOf 103)) := by
  unfold Program.fieldsOf
  rw [Tryz.underlying103]
theorem dreg_neq (n s a b c d : Int) (w : World) : (binOp .neq 103 (.agg #[.int .i64 n, .int .i64 s, .int .i64 a, .int .i64 b, .int .i64 c, .int .i64 d]) (.agg #[.int .i64 n, .int .i64 s, .int .i64 a, .int .i64 b, .int .i64 c, .int .i64 d])).run Tryz.prog w = .ok (.bool false) w := by
  have ha : Tryz.prog.stoodInHeld 103 = false := by kernel_rfl
  have hb0 : Tryz.prog.stoodInHeld 90 = false := by kernel_rfl
  rw [run_neq_struct, show (10000 : Nat) = 9998 + 1 + 1 from rfl, run_equalIn_agg w (9998 + 1) 103 _ _ dreg_fields ha]
  simp [Program.fieldsOf, Tryz.underlying103, Tryz.underlying90, Op.eqFields, part, go_sem, Tryz.underlying3]
theorem dreg_guard (op : BinOp) (x y : Operand) (n s a b c d : Int) (w : World) : (eqGuard op 103 x y (.agg #[.int .i64 n, .int .i64 s, .int .i64 a, .int .i64 b, .int .i64 c, .int .i64 d]) (.agg #[.int .i64 n, .int .i64 s, .int .i64 a, .int .i64 b, .int .i64 c, .int .i64 d])).run Tryz.prog w = .ok () w := run_eqGuard_agg w op 103 x y _ _ (by kernel_rfl)
theorem dprt_fields : Tryz.prog.underlying 92 = some (.struct (Tryz.prog.fieldsOf 92)) := by
  unfold Program.fieldsOf
  rw [Tryz.underlying92]
theorem dprt_neq (n s r a b c d : Int) (w : World) : (binOp .neq 92 (.agg #[.int .i64 n, .int .i64 s, .int .i64 r, .int .i64 a, .int .i64 b, .int .i64 c, .int .i64 d]) (.agg #[.int .i64 n, .int .i64 s, .int .i64 r, .int .i64 a, .int .i64 b, .int .i64 c, .int .i64 d])).run Tryz.prog w = .ok (.bool false) w := by
  have ha : Tryz.prog.stoodInHeld 92 = false := by kernel_rfl
  have hb0 : Tryz.prog.stoodInHeld 36 = false := by kernel_rfl
  have hb1 : Tryz.prog.stoodInHeld 90 = false := by kernel_rfl
  rw [run_neq_struct, show (10000 : Nat) = 9998 + 1 + 1 from rfl, run_equalIn_agg w (9998 + 1) 92 _ _ dprt_fields ha]
  simp [Program.fieldsOf, Tryz.underlying92, Tryz.underlying36, Tryz.underlying90, Op.eqFields, part, go_sem, Tryz.underlying3]
theorem dprt_guard (op : BinOp) (x y : Operand) (n s r a b c d : Int) (w : World) : (eqGuard op 92 x y (.agg #[.int .i64 n, .int .i64 s, .int .i64 r, .int .i64 a, .int .i64 b, .int .i64 c, .int .i64 d]) (.agg #[.int .i64 n, .int .i64 s, .int .i64 r, .int .i64 a, .int .i64 b, .int .i64 c, .int .i64 d])).run Tryz.prog w = .ok () w := run_eqGuard_agg w op 92 x y _ _ (by kernel_rfl)
variable {w0 w w' W w3 : World} {B q : Nat} {m : StM} {gs : List AcG} {va vp : Value}

set_option maxRecDepth 100000 in
set_option maxHeartbeats 8000000 in
theorem sameAct15 {B1 B2 : Nat} (xn xs xo xd : Int) (xx : Nat) (xp xc : Int) (hxx : xx < 18446744073709551616) (b1 b2 : Option Addr) (k1 k2 n : Nat) (xr : List RgM) (hn : xr.length = n) (h6 : n ≤ 6) (hO1 : w.ownsRow B1 103 6 (.slice b1 n k1) n (rgE.row xr)) (hO2 : w.ownsRow B2 103 6 (.slice b2 n k2) n (rgE.row xr)) :
    Calls Tryz.prog 36 #[.agg #[.int .i64 xn, .int .i64 xs, .int .i64 xo, .int .i64 xd, .float .f64 xx, .int .i64 xp, .int .i64 xc, .slice b1 n k1], .agg #[.int .i64 xn, .int .i64 xs, .int .i64 xo, .int .i64 xd, .float .f64 xx, .int .i64 xp, .int .i64 xc, .slice b2 n k2]] w fun r w' => r = .returned (.bool true) ∧ Kp w w' := by
  have hsm := fun w1 => refSame9_any ⟨xn, xs, xo, xd, xx⟩ ⟨xn, xs, xo, xd, xx⟩ hxx hxx w1
  simp only [show sameX ⟨xn, xs, xo, xd, xx⟩ ⟨xn, xs, xo, xd, xx⟩ = true from by unfold sameX; simp] at hsm
  dsimp only [CX.cells] at hsm
  have k2w : Kp w ((w.alloc (.cells #[.int .i64 xn, .int .i64 xs, .int .i64 xo, .int .i64 xd, .float .f64 xx, .int .i64 xp, .int .i64 xc, .slice b1 n k1] 89)).alloc (.cells #[.int .i64 xn, .int .i64 xs, .int .i64 xo, .int .i64 xd, .float .f64 xx, .int .i64 xp, .int .i64 xc, .slice b2 n k2] 89)) := Kp.trans (kp_alloc _ _) (kp_alloc _ _)
  have r1 := new14_0 w (.cells #[.int .i64 xn, .int .i64 xs, .int .i64 xo, .int .i64 xd, .float .f64 xx, .int .i64 xp, .int .i64 xc, .slice b1 n k1] 89) (.cells #[.int .i64 xn, .int .i64 xs, .int .i64 xo, .int .i64 xd, .float .f64 xx, .int .i64 xp, .int .i64 xc, .slice b2 n k2] 89)
  have r2 := new14_1 w (.cells #[.int .i64 xn, .int .i64 xs, .int .i64 xo, .int .i64 xd, .float .f64 xx, .int .i64 xp, .int .i64 xc, .slice b1 n k1] 89) (.cells #[.int .i64 xn, .int .i64 xs, .int .i64 xo, .int .i64 xd, .float .f64 xx, .int .i64 xp, .int .i64 xc, .slice b2 n k2] 89)
  obtain ⟨W, hW⟩ : ∃ W, ((w.alloc (.cells #[.int .i64 xn, .int .i64 xs, .int .i64 xo, .int .i64 xd, .float .f64 xx, .int .i64 xp, .int .i64 xc, .slice b1 n k1] 89)).alloc (.cells #[.int .i64 xn, .int .i64 xs, .int .i64 xo, .int .i64 xd, .float .f64 xx, .int .i64 xp, .int .i64 xc, .slice b2 n k2] 89)) = W := ⟨_, rfl⟩
  rw [hW] at k2w r1 r2
  obtain ⟨u0, u1, u2, u3, u4, u5, u6, u7⟩ := cells_8 r1
  obtain ⟨v0, v1, v2, v3, v4, v5, v6, v7⟩ := cells_8 r2
  have HSM := Lib.hid hsm
  have K2 := Lib.hid k2w
  have RA := Lib.hid r1
  have RB := Lib.hid r2
  have HN := Lib.hid hn
  have H6 := Lib.hid h6
  have O1 := Lib.hid hO1
  have O2 := Lib.hid hO2
  obtain ⟨N, hN⟩ : ∃ N : Int, (n : Int) = N := ⟨_, rfl⟩
  have HNN := Lib.hid hN
  have hsf := store_fl
  clear hsm k2w r1 r2 hn h6 hO1 hO2 hxx
  go_enter Tryz.func36, Tryz.ntmps36
  go_wp2_with (go_at_call 79; (with_reducible refine (HSM.out _).mono ?_); rintro e' w3 ⟨rfl, hk3⟩; have R1 := Lib.hid (kp_row hk3 RA.out); have R2 := Lib.hid (kp_row hk3 RB.out); obtain ⟨q0, q1, q2, q3, q4, q5, q6, q7⟩ := cells_8 R1.out; obtain ⟨p0, p1, p2, p3, p4, p5, p6, p7⟩ := cells_8 R2.out; have K3 := Lib.hid (Kp.trans K2.out hk3); clear hk3 u0 u1 u2 u3 u4 u5 u6 u7 v0 v1 v2 v3 v4 v5 v6 v7)
  go_loopw [38] (fun i wr => ∃ j : Nat, j ≤ n ∧ i = .int .i64 j ∧ Kp w wr ∧ wr.heap[w.heap.size]? = some (.cells #[.int .i64 xn, .int .i64 xs, .int .i64 xo, .int .i64 xd, .float .f64 xx, .int .i64 xp, .int .i64 xc, .slice b1 n k1] 89) ∧ wr.heap[w.heap.size + 1]? = some (.cells #[.int .i64 xn, .int .i64 xs, .int .i64 xo, .int .i64 xd, .float .f64 xx, .int .i64 xp, .int .i64 xc, .slice b2 n k2] 89)) (fun i _ => n - (intOf i).toNat)
  case atStart => exact ⟨0, Nat.zero_le _, rfl, K3.out, R1.out, R2.out⟩
  case round =>
    obtain ⟨j, hj, rfl, hk, hr0, hr1⟩ := hrel
    obtain ⟨kk, hkk⟩ : ∃ x : Int, (j : Int) = x := ⟨_, rfl⟩
    rw [hkk]
    have HKK := Lib.hid hkk
    have KR := Lib.hid hk
    by_cases hlt : j < n
    · have hjl : kk < N := by have := HNN.out; omega
      have hk0 : 0 ≤ kk := by omega
      have htk : kk.toNat = j := by omega
      have hn6 : N ≤ 6 := by have := HNN.out; have := H6.out; omega
      have hw1 : wrap64 (kk + 1) = kk + 1 := IntWalk.wrap64_in _ (by omega)
      have HLT := Lib.hid hlt
      have hjo : j < xr.length := by have := HN.out; omega
      obtain ⟨⟨yn, yp, ⟨y1, y2, y3, y4⟩⟩, hy⟩ : ∃ r, xr[j]'hjo = r := ⟨_, rfl⟩
      obtain ⟨g1, ck1, ex1, hck1, hgB1, hgl1, hfz1, hcr1⟩ := own_cellQ (E := rgE) (own_kp O1.out hk) HN.out hlt
      have hcs1 : ∀ (i : Nat) (u : Value), i < rgE.k → (rgE.enc (xr[j]'hjo))[i]? = some u → wr.cell? ⟨g1, j * rgE.k + i, none⟩ = some u := hcr1
      rw [hy, show rgE.k = 6 from rfl, ← htk] at hcs1
      have ex1 := congrArg (fun v => match v with | Value.slice a _ _ => a | _ => none) ex1
      dsimp only at ex1
      subst ex1
      have c0 : wr.cell? ⟨g1, kk.toNat * 6, none⟩ = some (.int .i64 yn) := hcs1 0 _ (by decide) rfl
      have c1 : wr.cell? ⟨g1, kk.toNat * 6 + 1, none⟩ = some (.int .i64 yp) := hcs1 1 _ (by decide) rfl
      have c2 : wr.cell? ⟨g1, kk.toNat * 6 + 2, none⟩ = some (.int .i64 y1) := hcs1 2 _ (by decide) rfl
      have c3 : wr.cell? ⟨g1, kk.toNat * 6 + 3, none⟩ = some (.int .i64 y2) := hcs1 3 _ (by decide) rfl
      have c4 : wr.cell? ⟨g1, kk.toNat * 6 + 4, none⟩ = some (.int .i64 y3) := hcs1 4 _ (by decide) rfl
      have c5 : wr.cell? ⟨g1, kk.toNat * 6 + 5, none⟩ = some (.int .i64 y4) := hcs1 5 _ (by decide) rfl
      obtain ⟨g2, ck2, ex2, hck2, hgB2, hgl2, hfz2, hcr2⟩ := own_cellQ (E := rgE) (own_kp O2.out hk) HN.out hlt
      have hcs2 : ∀ (i : Nat) (u : Value), i < rgE.k → (rgE.enc (xr[j]'hjo))[i]? = some u → wr.cell? ⟨g2, j * rgE.k + i, none⟩ = some u := hcr2
      rw [hy, show rgE.k = 6 from rfl, ← htk] at hcs2
      have ex2 := congrArg (fun v => match v with | Value.slice a _ _ => a | _ => none) ex2
      dsimp only at ex2
      subst ex2
      have d0 : wr.cell? ⟨g2, kk.toNat * 6, none⟩ = some (.int .i64 yn) := hcs2 0 _ (by decide) rfl
      have d1 : wr.cell? ⟨g2, kk.toNat * 6 + 1, none⟩ = some (.int .i64 yp) := hcs2 1 _ (by decide) rfl
      have d2 : wr.cell? ⟨g2, kk.toNat * 6 + 2, none⟩ = some (.int .i64 y1) := hcs2 2 _ (by decide) rfl
      have d3 : wr.cell? ⟨g2, kk.toNat * 6 + 3, none⟩ = some (.int .i64 y2) := hcs2 3 _ (by decide) rfl
      have d4 : wr.cell? ⟨g2, kk.toNat * 6 + 4, none⟩ = some (.int .i64 y3) := hcs2 4 _ (by decide) rfl
      have d5 : wr.cell? ⟨g2, kk.toNat * 6 + 5, none⟩ = some (.int .i64 y4) := hcs2 5 _ (by decide) rfl
      obtain ⟨_, _, _, _, _, _, _, z7⟩ := cells_8 hr0
      obtain ⟨_, _, _, _, _, _, _, p7⟩ := cells_8 hr1
      have R0 := Lib.hid hr0
      have R1 := Lib.hid hr1
      have hne := fun w => dreg_neq yn yp y1 y2 y3 y4 w
      have hgd := fun op x y (w : World) => dreg_guard op x y yn yp y1 y2 y3 y4 w
      clear hkk hj hlt hk hr0 hr1 htk hck1 hgB1 hgl1 hfz1 hcr1 hcs1 hck2 hgB2 hgl2 hfz2 hcr2 hcs2 hy hjo
      go_wp2_with fail
      obtain ⟨WD, hWD⟩ : ∃ x, (wr).drew = x := ⟨_, rfl⟩
      have kD : Kp (wr) WD := by rw [← hWD]; exact drewQ (Kp.refl _)
      have HWD := Lib.hid hWD
      clear hWD
      refine wp_region_held_drew (S := fun w' => Kp (wr) w') (by kernel_rfl) ?_ (fun hHeld => ?_)
      · exact by rw [HWD.out]; exact kD
      rw [HWD.out] at hHeld ⊢
      refine tkW ?_ 0 ?_ ?_; rotate_left
      · intro w hSw; go_simp; try rfl
      go_simp
      refine tkW ?_ 1 ?_ ?_; rotate_left
      · intro w hSw; have s7 := kp_cell hSw z7; have t7 := kp_cell hSw p7; have a0 := kp_cell hSw c0; have b0 := kp_cell hSw d0; have a1 := kp_cell hSw c1; have b1 := kp_cell hSw d1; have a2 := kp_cell hSw c2; have b2 := kp_cell hSw d2; have a3 := kp_cell hSw c3; have b3 := kp_cell hSw d3; have a4 := kp_cell hSw c4; have b4 := kp_cell hSw d4; have a5 := kp_cell hSw c5; have b5 := kp_cell hSw d5; go_simp; try rfl
      go_simp
      refine tkW ?_ 2 ?_ ?_; rotate_left
      · intro w hSw; go_simp; try rfl
      go_simp
      refine tkW ?_ 3 ?_ ?_; rotate_left
      · intro w hSw; go_simp; try rfl
      go_simp
      refine tkW ?_ 4 ?_ ?_; rotate_left
      · intro w hSw; have s7 := kp_cell hSw z7; have t7 := kp_cell hSw p7; have a0 := kp_cell hSw c0; have b0 := kp_cell hSw d0; have a1 := kp_cell hSw c1; have b1 := kp_cell hSw d1; have a2 := kp_cell hSw c2; have b2 := kp_cell hSw d2; have a3 := kp_cell hSw c3; have b3 := kp_cell hSw d3; have a4 := kp_cell hSw c4; have b4 := kp_cell hSw d4; have a5 := kp_cell hSw c5; have b5 := kp_cell hSw d5; go_simp; try rfl
      go_simp
      refine tkW ?_ 5 ?_ ?_; rotate_left
      · intro w hSw; go_simp; try rfl
      go_simp
      refine tkW ?_ 6 ?_ ?_; rotate_left
      · intro w hSw; have s7 := kp_cell hSw z7; have t7 := kp_cell hSw p7; have a0 := kp_cell hSw c0; have b0 := kp_cell hSw d0; have a1 := kp_cell hSw c1; have b1 := kp_cell hSw d1; have a2 := kp_cell hSw c2; have b2 := kp_cell hSw d2; have a3 := kp_cell hSw c3; have b3 := kp_cell hSw d3; have a4 := kp_cell hSw c4; have b4 := kp_cell hSw d4; have a5 := kp_cell hSw c5; have b5 := kp_cell hSw d5; go_simp; try rfl
      go_simp
      refine tkW ?_ 7 ?_ ?_; rotate_left
      · intro w hSw; go_simp; try rfl
      go_simp
      refine tkW ?_ 8 ?_ ?_; rotate_left
      · intro w hSw; go_simp; try rfl
      go_simp
      refine tkW ?_ 9 ?_ ?_; rotate_left
      · intro w hSw; have s7 := kp_cell hSw z7; have t7 := kp_cell hSw p7; have a0 := kp_cell hSw c0; have b0 := kp_cell hSw d0; have a1 := kp_cell hSw c1; have b1 := kp_cell hSw d1; have a2 := kp_cell hSw c2; have b2 := kp_cell hSw d2; have a3 := kp_cell hSw c3; have b3 := kp_cell hSw d3; have a4 := kp_cell hSw c4; have b4 := kp_cell hSw d4; have a5 := kp_cell hSw c5; have b5 := kp_cell hSw d5; go_simp; try rfl
      go_simp
      refine tkW ?_ 10 ?_ ?_; rotate_left
      · intro w hSw; go_simp; try rfl
      go_simp
      refine wpAnyH_done (by kernel_rfl) ?_ _
      have KF := Lib.hid (show Kp (wr) _ from hHeld)
      clear hHeld
      go_wp2
      go_roundw
      case rel => exact ⟨j + 1, by have := HLT.out; omega, by have := HKK.out; first | rw [show ((j + 1 : Nat) : Int) = kk + 1 by omega] | rw [show ((j + 1 : Nat) : Int) = kk + 1 by omega, hw1], Kp.trans KR.out KF.out, kp_row KF.out R0.out, kp_row KF.out R1.out⟩
      case measure => have := HKK.out; have := HLT.out; simp [intOf]; omega
    · have hje : ¬ kk < N := by have := HNN.out; omega
      clear hkk hj hlt hk hr0 hr1
      go_wp2
      go_ret
      exact ⟨rfl, KR.out⟩
end Go.Proofs.YtpemeenfhkgmpaaGreatDoor
