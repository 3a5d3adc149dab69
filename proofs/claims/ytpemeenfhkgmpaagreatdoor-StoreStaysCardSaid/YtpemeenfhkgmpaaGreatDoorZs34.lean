/-
  PARTS OF THIS PROOF (own work): SlBC, LsS, LsT.
-/
import Derived.Test.YtpemeenfhkgmpaaGreatDoorZs01
import Derived.Test.YtpemeenfhkgmpaaGreatDoorZs30
import Derived.Test.YtpemeenfhkgmpaaGreatDoorZs33
namespace Go.Proofs.YtpemeenfhkgmpaaGreatDoor
open Go.RowKit Go.ChangeShapes Go.WideShapes

/-- THE SLICE VALUE v READS AS THE LISTS bss; none is longer than its room. -/
def SlBC (v : Value) (bss : List (List Int)) (w : World) : Prop :=
  (bss = [] ∧ ∃ a cap, v = .slice a 0 cap ∧ (a = none → cap = 0)) ∨
  ∃ b off cap, 0 < bss.length ∧ v = .slice (some ⟨b, off, none⟩) bss.length cap ∧ ∀ (j : Nat) (h : j < bss.length), ∃ a c, w.cell? ⟨b, off + j, none⟩ = some (.slice a bss[j].length c) ∧ SlB (.slice a bss[j].length c) bss[j] w ∧ InB bss[j] ∧ bss[j].length ≤ c

theorem SlBC.kp {v : Value} {bss : List (List Int)} {w w' : World} (h : SlBC v bss w) (hb : Kp w w') : SlBC v bss w' := by
  rcases h with h | ⟨b, off, cap, h0, h1, h2⟩
  · exact Or.inl h
  · refine Or.inr ⟨b, off, cap, h0, h1, fun j hj => ?_⟩
    obtain ⟨a, c, h3, h4, h5⟩ := h2 j hj
    exact ⟨a, c, kp_cell hb h3, h4.kp hb, h5⟩

theorem SlBC.at {a : Option Addr} {n cap : Nat} {bss : List (List Int)} {w : World} (h : SlBC (.slice a n cap) bss w) (j : Nat) (hj : j < bss.length) :
    ∃ b off, a = some ⟨b, off, none⟩ ∧ ∃ a' c, w.cell? ⟨b, off + j, none⟩ = some (.slice a' bss[j].length c) ∧ SlB (.slice a' bss[j].length c) bss[j] w ∧ InB bss[j] ∧ bss[j].length ≤ c := by
  rcases h with ⟨hz, _⟩ | ⟨b, off, cap', _, hv, hcc⟩
  · rw [hz] at hj; cases hj
  · injection hv with hv1 _ _
    exact ⟨b, off, hv1, hcc j hj⟩

open Go.RowKit Go.ChangeShapes Go.WideShapes

variable {w0 w w' W w3 : World} {B q : Nat} {m : StM} {gs : List AcG} {va vp : Value}

variable {ads : List Addr}
set_option maxRecDepth 100000 in
set_option maxHeartbeats 8000000 in
theorem lsSame {B' q' : Nat} {m' : StM} {gs' : List AcG} {va' vp' : Value} (C : FacC ads w) (H : GS tyL B q m gs va vp w) (ok : OkS m) (H' : GS tyL B' q' m' gs' va' vp' w) (ok' : OkS m') : Calls Tryz.prog 19 #[.pointer (some ⟨q, 0, none⟩), .pointer (some ⟨q', 0, none⟩)] w fun r w' => r = .returned (.bool (decide (m.node = m'.node) && sameL (factsS m) (factsS m'))) ∧ Kp w w' := by
  have hf1 := fun w1 (hk : Kp w w1) => lsFacts (H.kp hk) ok
  have hf2 := fun w1 (hk : Kp w w1) => lsFacts (H'.kp hk) ok'
  have hw1 := factsS_wf ok
  have hw2 := factsS_wf ok'
  have hle : (factsS m).length ≤ 1000 := by have := factsS_le ok; omega
  have e0 : w.cell? ⟨q, 0, none⟩ = some (.int .i64 m.node) := cellU (i := 0) H.row rfl
  have e1 : w.cell? ⟨q', 0, none⟩ = some (.int .i64 m'.node) := cellU (i := 0) H'.row rfl
  obtain ⟨L1, hL1⟩ : ∃ x, factsS m = x := ⟨_, rfl⟩
  obtain ⟨L2, hL2⟩ : ∃ x, factsS m' = x := ⟨_, rfl⟩
  obtain ⟨n1, hn1⟩ : ∃ x, m.node = x := ⟨_, rfl⟩
  obtain ⟨n2, hn2⟩ : ∃ x, m'.node = x := ⟨_, rfl⟩
  rw [hL1] at hf1 hw1 hle ⊢
  rw [hL2] at hf2 hw2 ⊢
  rw [hn1] at e0 ⊢
  rw [hn2] at e1 ⊢
  have HF1 := Lib.hid hf1
  have HF2 := Lib.hid hf2
  have HW1 := Lib.hid hw1
  have HW2 := Lib.hid hw2
  have HLE := Lib.hid hle
  have HC := Lib.hid C
  clear C H ok H' ok' hf1 hf2 hw1 hw2 hle hL1 hL2 hn1 hn2
  by_cases hnn : n1 = n2
  · have g1 : (n1 == n2) = true := beq_iff_eq.2 hnn
    have g2 : decide (n1 = n2) = true := decide_eq_true hnn
    rw [g2, Bool.true_and]
    clear hnn
    go_enter Tryz.func19, Tryz.ntmps19
    go_wp2_with fail
    obtain ⟨WD, hWD⟩ : ∃ x, w.drew = x := ⟨_, rfl⟩
    have kD : Kp w WD := by rw [← hWD]; exact drewQ (Kp.refl w)
    have HWD := Lib.hid hWD
    clear hWD
    refine wp_region_held_drew (S := fun w' => Kp w w') (by kernel_rfl) ?_ (fun hHeld => ?_)
    · exact by rw [HWD.out]; exact kD
    rw [HWD.out] at hHeld ⊢
    refine tkW ?_ 0 ?_ ?_; rotate_left
    · intro w hSw; go_simp; try rfl
    go_simp
    refine tkW ?_ 1 ?_ ?_; rotate_left
    · intro w hSw; go_simp; try rfl
    go_simp
    refine tkW ?_ 2 ?_ ?_; rotate_left
    · intro w hSw; go_simp; try rfl
    go_simp
    refine tkW ?_ 3 ?_ ?_; rotate_left
    · intro w hSw; have a0 := kp_cell hSw e0; have a1 := kp_cell hSw e1; go_simp; try rfl
    go_simp
    refine tkW ?_ 4 ?_ ?_; rotate_left
    · intro w hSw; go_simp; try rfl
    go_simp
    refine tkW ?_ 5 ?_ ?_; rotate_left
    · intro w hSw; go_simp; try rfl
    go_simp
    refine tkW ?_ 6 ?_ ?_; rotate_left
    · intro w hSw; go_simp; try rfl
    go_simp
    refine tkW ?_ 7 ?_ ?_; rotate_left
    · intro w hSw; have a0 := kp_cell hSw e0; have a1 := kp_cell hSw e1; go_simp; try rfl
    go_simp
    refine tkW ?_ 8 ?_ ?_; rotate_left
    · intro w hSw; go_simp; try rfl
    go_simp
    refine tkW ?_ 9 ?_ ?_; rotate_left
    · intro w hSw; go_simp; try rfl
    go_simp
    refine tkW ?_ 10 ?_ ?_; rotate_left
    · intro w hSw; go_simp; try rfl
    go_simp
    refine tkW ?_ 12 ?_ ?_; rotate_left
    · intro w hSw; go_simp; try rfl
    go_simp
    refine wpAnyH_ready (rs := [11]) (by kernel_rfl) (by simp) ?_
    refine AllReadyH.cons rfl (fun K hK => ?_) AllReadyH.nil
    go_simp
    go_wp2_with (go_at_call 14; (with_reducible refine (HF1.out _ (show Kp w _ from hHeld)).mono ?_); rintro e' w3 ⟨v1, rfl, o1, hk3⟩)
    refine hK.out _ _ ?_ (fun hHeld => ?_)
    · exact Kp.trans hHeld hk3
    clear hK K
    refine wpAnyH_ready (rs := [13]) (by kernel_rfl) (by simp) ?_
    refine AllReadyH.cons rfl (fun K hK => ?_) AllReadyH.nil
    go_simp
    go_wp2_with (go_at_call 14; (with_reducible refine (HF2.out _ (show Kp w _ from hHeld)).mono ?_); rintro e' w4 ⟨v2, rfl, o2, hk4⟩)
    refine hK.out _ _ ?_ (fun hHeld => ?_)
    · exact Kp.trans hHeld hk4
    clear hK K
    refine wpAnyH_ready (rs := [14]) (by kernel_rfl) (by simp) ?_
    refine AllReadyH.cons rfl (fun K hK => ?_) AllReadyH.nil
    go_simp
    go_wp2_with (go_at_call 50; (with_reducible refine (lsEqF (HC.out.kp (show Kp w _ from hHeld)) L1 L2 HW1.out HW2.out (own_kp o1 hk4) o2 HLE.out).mono ?_); rintro e' w5 ⟨rfl, hk5⟩)
    refine hK.out _ _ ?_ (fun hHeld => ?_)
    · exact Kp.trans hHeld hk5
    clear hK K
    refine tkW ?_ 15 ?_ ?_; rotate_left
    · intro w hSw; go_simp; try rfl
    go_simp
    refine tkW ?_ 16 ?_ ?_; rotate_left
    · intro w hSw; go_simp; try rfl
    go_simp
    refine wpAnyH_done (by kernel_rfl) ?_ _
    have KF := Lib.hid (show Kp w _ from hHeld)
    clear hHeld
    go_wp2
    go_ret
    exact ⟨rfl, KF.out⟩
  · have g1 : (n1 == n2) = false := by simpa using hnn
    have g2 : decide (n1 = n2) = false := decide_eq_false hnn
    rw [g2, Bool.false_and]
    clear hnn
    go_enter Tryz.func19, Tryz.ntmps19
    go_wp2_with fail
    obtain ⟨WD, hWD⟩ : ∃ x, w.drew = x := ⟨_, rfl⟩
    have kD : Kp w WD := by rw [← hWD]; exact drewQ (Kp.refl w)
    have HWD := Lib.hid hWD
    clear hWD
    refine wp_region_held_drew (S := fun w' => Kp w w') (by kernel_rfl) ?_ (fun hHeld => ?_)
    · exact by rw [HWD.out]; exact kD
    rw [HWD.out] at hHeld ⊢
    refine tkW ?_ 0 ?_ ?_; rotate_left
    · intro w hSw; go_simp; try rfl
    go_simp
    refine tkW ?_ 1 ?_ ?_; rotate_left
    · intro w hSw; go_simp; try rfl
    go_simp
    refine tkW ?_ 2 ?_ ?_; rotate_left
    · intro w hSw; go_simp; try rfl
    go_simp
    refine tkW ?_ 3 ?_ ?_; rotate_left
    · intro w hSw; have a0 := kp_cell hSw e0; have a1 := kp_cell hSw e1; go_simp; try rfl
    go_simp
    refine tkW ?_ 4 ?_ ?_; rotate_left
    · intro w hSw; go_simp; try rfl
    go_simp
    refine tkW ?_ 5 ?_ ?_; rotate_left
    · intro w hSw; go_simp; try rfl
    go_simp
    refine tkW ?_ 6 ?_ ?_; rotate_left
    · intro w hSw; go_simp; try rfl
    go_simp
    refine tkW ?_ 7 ?_ ?_; rotate_left
    · intro w hSw; have a0 := kp_cell hSw e0; have a1 := kp_cell hSw e1; go_simp; try rfl
    go_simp
    refine tkW ?_ 8 ?_ ?_; rotate_left
    · intro w hSw; go_simp; try rfl
    go_simp
    refine tkW ?_ 9 ?_ ?_; rotate_left
    · intro w hSw; go_simp; try rfl
    go_simp
    refine skW 10 ?_
    go_simp
    refine skW 11 ?_
    go_simp
    refine skW 12 ?_
    go_simp
    refine skW 13 ?_
    go_simp
    refine skW 14 ?_
    go_simp
    refine tkW ?_ 15 ?_ ?_; rotate_left
    · intro w hSw; go_simp; try rfl
    go_simp
    refine tkW ?_ 16 ?_ ?_; rotate_left
    · intro w hSw; go_simp; try rfl
    go_simp
    refine wpAnyH_done (by kernel_rfl) ?_ _
    have KF := Lib.hid (show Kp w _ from hHeld)
    clear hHeld
    go_wp2
    go_ret
    exact ⟨rfl, KF.out⟩
/-- a node's number -/
def inN (nd : Int) : Prop := 0 ≤ nd ∧ nd ≤ 3
theorem gs_new {nd : Int} (h : w.heap[q]? = some (.cells #[.int .i64 nd, .int .i64 0, .slice none 0 0, .slice none 0 0] 81)) (hb : B ≤ q) : GS tyL B q (newSt nd) [] (.slice none 0 0) (.slice none 0 0) w where
  row := h
  bq := hb
  acts := rfl
  oa := ⟨by simp [EncG.row], .inl ⟨rfl, rfl⟩⟩
  op := ⟨by simp [EncG.row, newSt], .inl ⟨rfl, rfl⟩⟩
  og := fun g hg => by cases hg
  dis := fun i j g h hi => by simp at hi
set_option maxRecDepth 100000 in
set_option maxHeartbeats 4000000 in
theorem lsNew (E : EP [0, 3, 4, 8, 13] ads w) (nd : Int) : Calls Tryz.prog 9 #[.int .i64 nd] w fun r w' => (¬ inN nd ∧ r = .returned (.tuple #[.pointer none, errI ads 1]) ∧ Kp w w') ∨ (inN nd ∧ ∃ q, r = .returned (.tuple #[.pointer (some ⟨q, 0, none⟩), .nilIface]) ∧ GS tyL w.heap.size q (newSt nd) [] (.slice none 0 0) (.slice none 0 0) w' ∧ Kp w w') := by
  have ce : w.cell? ⟨0, 0, none⟩ = some (errI ads 1) := E.cell 0 (by decide)
  obtain ⟨er, her⟩ : ∃ x, errI ads 1 = x := ⟨_, rfl⟩
  rw [her] at ce
  have HER := Lib.hid her
  clear E her
  by_cases h1 : nd < 0
  · have HB := Lib.hid (show ¬ inN nd by unfold inN; omega)
    have d1 := decide_eq_true h1
    go_enter Tryz.func9, Tryz.ntmps9
    go_wp2_with fail
    obtain ⟨WD, hWD⟩ : ∃ x, w.drew = x := ⟨_, rfl⟩
    have kD : Kp w WD := by rw [← hWD]; exact drewQ (Kp.refl w)
    have HWD := Lib.hid hWD
    clear hWD
    refine wp_region_held_drew (S := fun w' => Kp w w') (by kernel_rfl) ?_ (fun hHeld => ?_)
    · exact by rw [HWD.out]; exact kD
    rw [HWD.out] at hHeld ⊢
    refine tkW ?_ 0 ?_ ?_; rotate_left
    · intro w hSw; have a0 := kp_cell hSw ce; go_simp; try rfl
    go_simp
    refine tkW ?_ 1 ?_ ?_; rotate_left
    · intro w hSw; go_simp; try rfl
    go_simp
    refine tkW ?_ 2 ?_ ?_; rotate_left
    · intro w hSw; go_simp; try rfl
    go_simp
    refine wpAnyH_done (by kernel_rfl) ?_ _
    have KF := Lib.hid (show Kp w _ from hHeld)
    clear hHeld
    go_wp2
    go_ret2
    exact .inl ⟨HB.out, by rw [HER.out]; rfl, KF.out⟩
  · have d1 := decide_eq_false h1
    by_cases h2 : 4 ≤ nd
    · have HB := Lib.hid (show ¬ inN nd by unfold inN; omega)
      have d2 : decide (nd ≥ 4) = true := decide_eq_true h2
      go_enter Tryz.func9, Tryz.ntmps9
      go_wp2_with fail
      obtain ⟨WD, hWD⟩ : ∃ x, w.drew = x := ⟨_, rfl⟩
      have kD : Kp w WD := by rw [← hWD]; exact drewQ (Kp.refl w)
      have HWD := Lib.hid hWD
      clear hWD
      refine wp_region_held_drew (S := fun w' => Kp w w') (by kernel_rfl) ?_ (fun hHeld => ?_)
      · exact by rw [HWD.out]; exact kD
      rw [HWD.out] at hHeld ⊢
      refine tkW ?_ 0 ?_ ?_; rotate_left
      · intro w hSw; have a0 := kp_cell hSw ce; go_simp; try rfl
      go_simp
      refine tkW ?_ 1 ?_ ?_; rotate_left
      · intro w hSw; go_simp; try rfl
      go_simp
      refine tkW ?_ 2 ?_ ?_; rotate_left
      · intro w hSw; go_simp; try rfl
      go_simp
      refine wpAnyH_done (by kernel_rfl) ?_ _
      have KF := Lib.hid (show Kp w _ from hHeld)
      clear hHeld
      go_wp2
      go_ret2
      exact .inl ⟨HB.out, by rw [HER.out]; rfl, KF.out⟩
    · have d2 : decide (nd ≥ 4) = false := decide_eq_false h2
      have HB := Lib.hid (show inN nd by unfold inN; omega)
      have rz := (MapKept.heap_alloc w (.cells #[.int .i64 nd, .int .i64 0, .slice none 0 0, .slice none 0 0] 81)).1
      have FIN := Lib.hid (gs_new (B := w.heap.size) rz (Nat.le_refl _))
      clear rz ce
      go_enter Tryz.func9, Tryz.ntmps9
      go_wp2
      go_ret2
      exact .inr ⟨HB.out, _, rfl, FIN.out, kp_alloc _ _⟩
open Go.RowKit Go.ChangeShapes Go.WideShapes

/-- rows, one behind the other -/
def rowsRun : StM → List (List Int) → Option StM
  | m, [] => some m
  | m, b :: l => if (decG b).1 = 0 ∧ (applyQ m (decG b).2).1 = 0 then rowsRun (applyQ m (decG b).2).2 l else none
theorem rowsRun_app : ∀ (A B : List (List Int)) (m : StM), rowsRun m (A ++ B) = (rowsRun m A).bind fun m2 => rowsRun m2 B
  | [], _, _ => rfl
  | b :: A, B, m => by
    have ih := fun m2 => rowsRun_app A B m2
    show (if _ then rowsRun _ (A ++ B) else none) = (if _ then rowsRun _ A else none).bind _
    split
    · exact ih _
    · rfl
variable {w0 w w' W w3 : World} {B q : Nat} {m : StM} {gs : List AcG} {va vp : Value}

variable {ads : List Addr}
set_option maxRecDepth 100000 in
set_option maxHeartbeats 16000000 in
theorem lsReplay (C : FacC ads w) (E : EP [0, 3, 4, 8, 13] ads w) (nd : Int) (a : Option Addr) (n cap : Nat) (bss : List (List Int)) (hn : bss.length = n) (hl : n ≤ 1000) (h1 : ∀ b ∈ bss, b.length ≤ 1000) (hs : SlBC (.slice a n cap) bss w) : Calls Tryz.prog 18 #[.int .i64 nd, .slice a n cap] w fun r w' => (¬ inN nd ∧ r = .returned (.tuple #[.pointer none, errI ads 1]) ∧ Kp w w') ∨ (inN nd ∧ ((rowsRun (newSt nd) bss = none ∧ r = .returned (.tuple #[.pointer none, errI ads 5]) ∧ Kp w w') ∨ ∃ m, rowsRun (newSt nd) bss = some m ∧ OkS m ∧ ∃ q, r = .returned (.tuple #[.pointer (some ⟨q, 0, none⟩), .nilIface]) ∧ (∃ gs va vp, GS tyL w.heap.size q m gs va vp w') ∧ Kp w w')) := by
  have hnew := fun w1 (hk : Kp w w1) => lsNew (E.kp hk) nd
  have ce : w.cell? ⟨4, 0, none⟩ = some (errI ads 5) := E.cell 4 (by decide)
  obtain ⟨er, her⟩ : ∃ x, errI ads 5 = x := ⟨_, rfl⟩
  rw [her] at ce
  have HER := Lib.hid her
  have CE := Lib.hid ce
  clear her ce
  by_cases hin : inN nd
  rotate_left
  · obtain ⟨p1, hp1⟩ := errI_some14 ads 1 (by decide)
    have hnew := fun w1 (hk : Kp w w1) => (hnew w1 hk).mono (R' := fun r w' => r = .returned (.tuple #[.pointer none, .iface 240 (.pointer p1)]) ∧ Kp w1 w') (by
      rintro e w2 (⟨_, rfl, hk2⟩ | ⟨h, _⟩)
      · rw [hp1]; exact ⟨rfl, hk2⟩
      · exact absurd h hin)
    have HNEW := Lib.hid hnew
    have HIN := Lib.hid hin
    have HP1 := Lib.hid hp1
    clear hnew hin hp1 C E hn hl h1 hs
    go_enter Tryz.func18, Tryz.ntmps18
    go_wp2_with (go_at_call 9; (with_reducible refine (HNEW.out _ (Kp.refl w)).mono ?_); rintro e' w1 ⟨rfl, hk1⟩; have KQ := Lib.hid hk1; clear hk1)
    go_ret2
    exact .inl ⟨HIN.out, by rw [HP1.out]; rfl, by first | exact KQ.out | exact drewQ KQ.out⟩
  have hnew := fun w1 (hk : Kp w w1) => (hnew w1 hk).mono (R' := fun r w' => ∃ q, r = .returned (.tuple #[.pointer (some ⟨q, 0, none⟩), .nilIface]) ∧ GS tyL w1.heap.size q (newSt nd) [] (.slice none 0 0) (.slice none 0 0) w' ∧ Kp w1 w') (by
    rintro e w2 (⟨h, _⟩ | ⟨_, h⟩)
    · exact absurd hin h
    · exact h)
  have HNEW := Lib.hid hnew
  have HIN := Lib.hid hin
  have HC := Lib.hid C
  have HE := Lib.hid E
  have HN := Lib.hid hn
  have HL := Lib.hid hl
  have H1 := Lib.hid h1
  have HS := Lib.hid hs
  have hsf := store_fl
  have HOK0 := Lib.hid (newSt_ok hin)
  obtain ⟨N, hN⟩ : ∃ N : Int, (n : Int) = N := ⟨_, rfl⟩
  have HNN := Lib.hid hN
  clear hnew hin C E hn hl h1 hs
  go_enter Tryz.func18, Tryz.ntmps18
  go_wp2_with (go_at_call 9; (with_reducible refine (HNEW.out _ (Kp.refl w)).mono ?_); rintro e' w1 ⟨q, rfl, hg1, hk1⟩; have G1 := Lib.hid hg1; have K1 := Lib.hid hk1; clear hg1 hk1)
  go_loopw [22] (fun i wr => ∃ (j : Nat) (m : StM) (gs : List AcG) (va vp : Value), j ≤ n ∧ i = .int .i64 j ∧ rowsRun (newSt nd) (bss.take j) = some m ∧ OkS m ∧ GS tyL w.heap.size q m gs va vp wr ∧ Kp w wr) (fun i _ => n - (intOf i).toNat)
  case atStart => exact ⟨0, newSt nd, [], _, _, Nat.zero_le _, rfl, rfl, HOK0.out, G1.out, K1.out⟩
  case round =>
    obtain ⟨j, m, gs, va, vp, hj, rfl, hrun, hok, hg, hk⟩ := hrel
    obtain ⟨kk, hkk⟩ : ∃ x : Int, (j : Int) = x := ⟨_, rfl⟩
    rw [hkk]
    have HKK := Lib.hid hkk
    have KR := Lib.hid hk
    have HRUN := Lib.hid hrun
    have HOK := Lib.hid hok
    have HG := Lib.hid hg
    by_cases hlt : j < n
    · have hjl : kk < N := by have := HNN.out; omega
      have hk0 : 0 ≤ kk := by omega
      have htk : kk.toNat = j := by omega
      have hN8 : N ≤ 1000 := by have := HNN.out; have := HL.out; omega
      have hw1 : wrap64 (kk + 1) = kk + 1 := IntWalk.wrap64_in _ (by omega)
      have HLT := Lib.hid hlt
      have hjx : j < bss.length := by have := HN.out; omega
      obtain ⟨bb, bo, rfl, aj, cj, hcell, hslb, hinb, hcap⟩ := (HS.out.kp hk).at j hjx
      have hspl : bss = bss.take j ++ bss[j] :: bss.drop (j + 1) := by rw [← List.drop_eq_getElem_cons hjx, List.take_append_drop]
      have hts : bss.take (j + 1) = bss.take j ++ [bss[j]] := by rw [← List.take_succ_eq_append_getElem hjx]
      have hbl : bss[j].length ≤ 1000 := H1.out _ (List.getElem_mem hjx)
      obtain ⟨DR, hDR⟩ : ∃ x, bss.drop (j + 1) = x := ⟨_, rfl⟩
      rw [hDR] at hspl
      obtain ⟨BJ, hBJ⟩ : ∃ x, bss[j] = x := ⟨_, rfl⟩
      rw [hBJ] at hspl hts hbl hcell hslb hinb hcap
      have HSPL := Lib.hid hspl
      have HTS := Lib.hid hts
      obtain ⟨lb, hlb⟩ : ∃ x, BJ.length = x := ⟨_, rfl⟩
      rw [hlb] at hcell hslb hbl hcap
      have hdec := HC.out.dec wr hk aj cj BJ lb hlb hbl hinb hcap hslb
      obtain ⟨⟨fk, fn, fs, fr, fe, fp, fq, fo, fd, fa, ft, fh, fc, fx⟩, hF⟩ : ∃ f, (decG BJ).2 = f := ⟨_, rfl⟩
      have hwf : FX.wf (⟨fk, fn, fs, fr, fe, fp, fq, fo, fd, fa, ft, fh, fc, fx⟩ : FX) := by rw [← hF]; exact decG_wf
      obtain ⟨cd, hcd⟩ : ∃ c, (decG BJ).1 = c := ⟨_, rfl⟩
      rw [hF, hcd] at hdec
      dsimp only [FX.cells] at hdec
      rw [← htk] at hcell
      have hap := fun w1 (hk1 : Kp wr w1) => lsApply_any (HC.out.kp (Kp.trans hk hk1)) (HE.out.kp (Kp.trans hk hk1)) (hg.kp hk1) hok (⟨fk, fn, fs, fr, fe, fp, fq, fo, fd, fa, ft, fh, fc, fx⟩ : FX) hwf
      dsimp only [FX.cells] at hap
      obtain ⟨AQ, hAQ⟩ : ∃ x, applyQ m (⟨fk, fn, fs, fr, fe, fp, fq, fo, fd, fa, ft, fh, fc, fx⟩ : FX) = x := ⟨_, rfl⟩
      rw [hAQ] at hap
      obtain ⟨ac, m2⟩ := AQ
      dsimp only at hap
      have HAQ := Lib.hid (show applyQ m (decG BJ).2 = (ac, m2) by rw [hF]; exact hAQ)
      have HCD := Lib.hid hcd
      have HOK2 := Lib.hid (show OkS m2 by have := applyQ_ok (f := (⟨fk, fn, fs, fr, fe, fp, fq, fo, fd, fa, ft, fh, fc, fx⟩ : FX)) hok; rw [hAQ] at this; exact this)
      have hOw : ∀ b, Ow q gs va vp b → w.heap.size ≤ b := fun b hb => (hg.mem b hb).1
      have HOW := Lib.hid hOw
      by_cases hc0 : cd = 0
      rotate_left
      · have HNO := Lib.hid (show rowsRun (newSt nd) bss = none by rw [HSPL.out, rowsRun_app, HRUN.out]; show rowsRun m (BJ :: _) = none; unfold rowsRun; rw [if_neg (fun h => hc0 (by rw [← hcd]; exact h.1))])
        obtain ⟨pe, hpe⟩ := errI_some14 ads cd hc0
        rw [hpe] at hdec
        have HDEC := Lib.hid hdec
        clear hkk hj hlt hk hrun hok hg htk hjx hslb hinb hcap hspl hts hbl hDR hBJ hlb hdec hF hwf hcd hap hAQ hOw hc0 hpe
        go_wp2_with (go_at_call 49; (with_reducible refine HDEC.out.mono ?_); rintro e' w3 ⟨rfl, hk3⟩; obtain ⟨u0, u1, u2, u3, u4, u5, u6, u7, u8, u9, u10, u11, u12, u13⟩ := cells14 (MapKept.heap_alloc w3 (.cells #[.int .i64 fk, .int .i64 fn, .int .i64 fs, .int .i64 fr, .int .i64 fe, .int .i64 fp, .int .i64 fq, .int .i64 fo, .int .i64 fd, .int .i64 fa, .int .i64 ft, .int .i64 fh, .int .i64 fc, .float .f64 fx] 39)).1; have K3 := Lib.hid (Kp.trans hk3 (kp_alloc w3 (.cells #[.int .i64 fk, .int .i64 fn, .int .i64 fs, .int .i64 fr, .int .i64 fe, .int .i64 fp, .int .i64 fq, .int .i64 fo, .int .i64 fd, .int .i64 fa, .int .i64 ft, .int .i64 fh, .int .i64 fc, .float .f64 fx] 39))); clear hk3)
        have KQ := Lib.hid (Kp.trans KR.out K3.out)
        obtain ⟨WD, hWD⟩ : ∃ x, (w3.alloc (.cells #[.int .i64 fk, .int .i64 fn, .int .i64 fs, .int .i64 fr, .int .i64 fe, .int .i64 fp, .int .i64 fq, .int .i64 fo, .int .i64 fd, .int .i64 fa, .int .i64 ft, .int .i64 fh, .int .i64 fc, .float .f64 fx] 39)).drew = x := ⟨_, rfl⟩
        have kD : Kp w WD := by rw [← hWD]; exact drewQ KQ.out
        have HWD := Lib.hid hWD
        clear hWD
        refine wp_region_held_drew (S := fun w' => Kp w w') (by kernel_rfl) ?_ (fun hHeld => ?_)
        · exact by rw [HWD.out]; exact kD
        rw [HWD.out] at hHeld ⊢
        refine tkW ?_ 0 ?_ ?_; rotate_left
        · intro w hSw; have a0 := kp_cell hSw CE.out; go_simp; try rfl
        go_simp
        refine tkW ?_ 1 ?_ ?_; rotate_left
        · intro w hSw; go_simp; try rfl
        go_simp
        refine tkW ?_ 2 ?_ ?_; rotate_left
        · intro w hSw; go_simp; try rfl
        go_simp
        refine wpAnyH_done (by kernel_rfl) ?_ _
        have KF := Lib.hid (show Kp w _ from hHeld)
        clear hHeld
        go_wp2
        go_ret2
        exact .inr ⟨HIN.out, .inl ⟨HNO.out, by rw [HER.out]; rfl, KF.out⟩⟩
      subst hc0
      rw [errI_nil] at hdec
      have HDEC := Lib.hid hdec
      by_cases ha0 : ac = 0
      rotate_left
      · have HNO := Lib.hid (show rowsRun (newSt nd) bss = none by rw [HSPL.out, rowsRun_app, HRUN.out]; show rowsRun m (BJ :: _) = none; unfold rowsRun; rw [if_neg (fun h => ha0 (by have h2 := h.2; rw [HAQ.out] at h2; exact h2))])
        obtain ⟨pe, hpe⟩ := errI_some14 ads ac ha0
        rw [hpe] at hap
        have HAP := Lib.hid hap
        clear hkk hj hlt hk hrun hok hg htk hjx hslb hinb hcap hspl hts hbl hDR hBJ hlb hdec hF hwf hcd hap hAQ hOw ha0 hpe
        go_wp2_with (first | (go_at_call 49; (with_reducible refine HDEC.out.mono ?_); rintro e' w3 ⟨rfl, hk3⟩; obtain ⟨u0, u1, u2, u3, u4, u5, u6, u7, u8, u9, u10, u11, u12, u13⟩ := cells14 (MapKept.heap_alloc w3 (.cells #[.int .i64 fk, .int .i64 fn, .int .i64 fs, .int .i64 fr, .int .i64 fe, .int .i64 fp, .int .i64 fq, .int .i64 fo, .int .i64 fd, .int .i64 fa, .int .i64 ft, .int .i64 fh, .int .i64 fc, .float .f64 fx] 39)).1; have K3 := Lib.hid (Kp.trans hk3 (kp_alloc w3 (.cells #[.int .i64 fk, .int .i64 fn, .int .i64 fs, .int .i64 fr, .int .i64 fe, .int .i64 fp, .int .i64 fq, .int .i64 fo, .int .i64 fd, .int .i64 fa, .int .i64 ft, .int .i64 fh, .int .i64 fc, .float .f64 fx] 39))); clear hk3) | (go_at_call 11; (with_reducible refine (HAP.out _ K3.out).mono ?_); rintro e' w5 ⟨rfl, gs2, va2, vp2, hg, ha⟩; have G5 := Lib.hid hg; have A5 := Lib.hid ha; clear hg ha))
        have KQ := Lib.hid (A5.out.kp (Kp.trans KR.out K3.out) HOW.out)
        obtain ⟨WD, hWD⟩ : ∃ x, (w5).drew = x := ⟨_, rfl⟩
        have kD : Kp w WD := by rw [← hWD]; exact drewQ KQ.out
        have HWD := Lib.hid hWD
        clear hWD
        refine wp_region_held_drew (S := fun w' => Kp w w') (by kernel_rfl) ?_ (fun hHeld => ?_)
        · exact by rw [HWD.out]; exact kD
        rw [HWD.out] at hHeld ⊢
        refine tkW ?_ 0 ?_ ?_; rotate_left
        · intro w hSw; have a0 := kp_cell hSw CE.out; go_simp; try rfl
        go_simp
        refine tkW ?_ 1 ?_ ?_; rotate_left
        · intro w hSw; go_simp; try rfl
        go_simp
        refine tkW ?_ 2 ?_ ?_; rotate_left
        · intro w hSw; go_simp; try rfl
        go_simp
        refine wpAnyH_done (by kernel_rfl) ?_ _
        have KF := Lib.hid (show Kp w _ from hHeld)
        clear hHeld
        go_wp2
        go_ret2
        exact .inr ⟨HIN.out, .inl ⟨HNO.out, by rw [HER.out]; rfl, KF.out⟩⟩
      subst ha0
      rw [errI_nil] at hap
      have HAP := Lib.hid hap
      clear hkk hj hlt hk hrun hok hg htk hjx hslb hinb hcap hspl hts hbl hDR hBJ hlb hdec hF hwf hcd hap hAQ hOw
      go_wp2_with (first | (go_at_call 49; (with_reducible refine HDEC.out.mono ?_); rintro e' w3 ⟨rfl, hk3⟩; obtain ⟨u0, u1, u2, u3, u4, u5, u6, u7, u8, u9, u10, u11, u12, u13⟩ := cells14 (MapKept.heap_alloc w3 (.cells #[.int .i64 fk, .int .i64 fn, .int .i64 fs, .int .i64 fr, .int .i64 fe, .int .i64 fp, .int .i64 fq, .int .i64 fo, .int .i64 fd, .int .i64 fa, .int .i64 ft, .int .i64 fh, .int .i64 fc, .float .f64 fx] 39)).1; have K3 := Lib.hid (Kp.trans hk3 (kp_alloc w3 (.cells #[.int .i64 fk, .int .i64 fn, .int .i64 fs, .int .i64 fr, .int .i64 fe, .int .i64 fp, .int .i64 fq, .int .i64 fo, .int .i64 fd, .int .i64 fa, .int .i64 ft, .int .i64 fh, .int .i64 fc, .float .f64 fx] 39))); clear hk3) | (go_at_call 11; (with_reducible refine (HAP.out _ K3.out).mono ?_); rintro e' w5 ⟨rfl, gs2, va2, vp2, hg, ha⟩; have G5 := Lib.hid hg; have A5 := Lib.hid ha; clear hg ha))
      go_roundw
      case rel => exact ⟨j + 1, m2, gs2, va2, vp2, by have := HLT.out; omega, by have := HKK.out; first | rw [show ((j + 1 : Nat) : Int) = kk + 1 by omega] | rw [show ((j + 1 : Nat) : Int) = kk + 1 by omega, hw1], by
        rw [HTS.out, rowsRun_app, HRUN.out]
        show rowsRun m [BJ] = some m2
        unfold rowsRun
        rw [if_pos ⟨HCD.out, by rw [HAQ.out]⟩, HAQ.out]
        rfl, HOK2.out, G5.out, A5.out.kp (Kp.trans KR.out K3.out) HOW.out⟩
      case measure => have := HKK.out; have := HLT.out; simp [intOf]; omega
    · have hje : ¬ kk < N := by have := HNN.out; omega
      have hfin : bss.take j = bss := by rw [show j = n by omega, ← HN.out, List.take_length]
      rw [hfin] at hrun
      have HRUN := Lib.hid hrun
      clear hkk hj hlt hk hrun hok hg hfin
      go_wp2
      go_ret2
      exact .inr ⟨HIN.out, .inr ⟨m, HRUN.out, HOK.out, q, rfl, ⟨gs, va, vp, HG.out⟩, KR.out⟩⟩
end Go.Proofs.YtpemeenfhkgmpaaGreatDoor
