/-
  TapeKeeps' WALKS (own work), over TapC.
-/
import Derived.Test.YtjgakdcjkddpiaaDoorTal6
import Derived.Test.YtjgakdcjkddpiaaDoorSlH
import Derived.Test.YtjgakdcjkddpiaaDoorRef6
import Derived.Deep.RegionHeld3
import Derived.Laws.Cover1
namespace Go.Proofs.YtjgakdcjkddpiaaDoor
open Go.RowKit Go.ChangeShapes Go.WideShapes
variable {ads : List Addr} {R : Nat → TM → (Nat → Prop) → World → Prop} {W : World}

set_option maxRecDepth 20000 in
theorem keeps_long (C : TapC ads W R) (a1 : Option Addr) (n1 c1 : Nat) (a2 : Option Addr) (n2 c2 : Nat) (keep : Int) (hl : 500 < n1 ∨ 500 < n2) :
    Calls Tryd.prog 4 #[.slice a1 n1 c1, .slice a2 n2 c2, .int .i64 keep] W fun e w' => e = .returned (.bool true) ∧ Kp W w' := by
  have HAL := Lib.hid (alive6 C)
  obtain ⟨x1, h1⟩ : ∃ x : Int, (n1 : Int) = x := ⟨_, rfl⟩
  obtain ⟨x2, h2⟩ : ∃ x : Int, (n2 : Int) = x := ⟨_, rfl⟩
  clear C
  by_cases hb : x1 > 500
  · have d1 : decide (x1 > 500) = true := decide_eq_true hb
    go_enter Tryd.func4, Tryd.ntmps4
    go_wp2_with (go_at_call 7; (with_reducible refine HAL.out.mono ?_); rintro e w1 ⟨rfl, hk⟩; have K1 := Lib.hid hk; clear hk)
    go_ret
    exact ⟨rfl, K1.out⟩
  · have hb2 : x2 > 500 := by omega
    have d1 : decide (500 < x1) = false := decide_eq_false hb
    go_enter Tryd.func4, Tryd.ntmps4
    go_wp2_with (go_at_call 7; (with_reducible refine HAL.out.mono ?_); rintro e w1 ⟨rfl, hk⟩; have K1 := Lib.hid hk; clear hk)
    go_ret
    exact ⟨rfl, K1.out⟩

set_option maxRecDepth 20000 in
set_option maxHeartbeats 4000000 in
theorem keeps_any (C : TapC ads W R) (a1 : Option Addr) (n1 c1 : Nat) (xs : List Int) (l1 : xs.length = n1) (b1 : n1 ≤ 500) (d1 : n1 ≤ c1) (i1 : InB xs) (s1 : SlB (.slice a1 n1 c1) xs W)
    (a2 : Option Addr) (n2 c2 : Nat) (ys : List Int) (l2 : ys.length = n2) (b2 : n2 ≤ 500) (d2 : n2 ≤ c2) (i2 : InB ys) (s2 : SlB (.slice a2 n2 c2) ys W) (keep : Int) (p0 : -9223372036854775808 ≤ keep) (p1 : keep ≤ 9223372036854775807) :
    Calls Tryd.prog 4 #[.slice a1 n1 c1, .slice a2 n2 c2, .int .i64 keep] W fun e w' => e = .returned (.bool true) ∧ Kp W w' := by
  have HC := Lib.hid C
  have HAL := Lib.hid (alive6 C)
  have e1 : appM (newM 2000) xs = (0, { sure := [], tail := xs, room := 2000, left := -1, off := false }) := by unfold appM; rw [if_neg (by simp only [newM, List.length_nil]; omega)]; rfl
  have e2 : syncM { sure := [], tail := xs, room := 2000, left := -1, off := false } = (0, { sure := xs, tail := [], room := 2000, left := -1, off := false }) := rfl
  have e3 : appM { sure := xs, tail := [], room := 2000, left := -1, off := false } ys = (0, { sure := xs, tail := ys, room := 2000, left := -1, off := false }) := by unfold appM; rw [if_neg (by simp only [List.length_nil]; omega)]; rfl
  obtain ⟨zs, hzs⟩ : ∃ z, xs ++ ys.take keep.toNat = z := ⟨_, rfl⟩
  have e4 : crashM { sure := xs, tail := ys, room := 2000, left := -1, off := false } keep = { sure := zs, tail := [], room := 2000, left := -1, off := false } := by rw [← hzs]; rfl
  have e5 : crashM { sure := zs, tail := [], room := 2000, left := -1, off := false } 0 = { sure := zs, tail := [], room := 2000, left := -1, off := false } := by simp [crashM]
  have k0 : Mok (newM 2000) := Mok.new (by decide) (by decide)
  have k1 := k0.app i1
  rw [e1] at k1
  have k2 := k1.sync
  rw [e2] at k2
  have k3 := k2.app i2
  rw [e3] at k3
  have k4 := k3.crash keep
  rw [e4] at k4
  have H0 := Lib.hid (fun w1 (hk : Kp W w1) => C.new_ok w1 hk 2000 (by decide) (by decide))
  have H1 := fun w1 g O (t : OneO R W g (newM 2000) O w1) => C.append w1 t.kW g _ O t.r k0 a1 n1 c1 xs (s1.kp t.kW) l1 d1 i1 (by omega) (t.old C s1)
  have H2 := fun w1 g O (t : OneO R W g _ O w1) => C.sync w1 t.kW g _ O t.r k1
  have H3 := fun w1 g O (t : OneO R W g _ O w1) => C.append w1 t.kW g _ O t.r k2 a2 n2 c2 ys (s2.kp t.kW) l2 d2 i2 (by omega) (t.old C s2)
  have H4 := fun w1 g O (t : OneO R W g _ O w1) => C.crash w1 t.kW g _ O t.r k3 keep p0 p1
  have H5 := fun w1 g O (t : OneO R W g _ O w1) => C.crash w1 t.kW g _ O t.r k4 0 (by decide) (by decide)
  have H6 := fun w1 g O (t : OneO R W g _ O w1) => C.bytes w1 t.kW g _ O t.r k4
  have H7 := Lib.hid (fun w1 g O (t : OneO R W g _ O w1) => C.sure w1 t.kW g _ O t.r k4)
  simp only [e1, errI_nil] at H1
  simp only [e2, errI_nil] at H2
  simp only [e3, errI_nil] at H3
  simp only [e4] at H4
  simp only [e5] at H5
  have hall : TM.all { sure := zs, tail := [], room := 2000, left := -1, off := false } = zs := by simp [TM.all]
  simp only [hall] at H6
  have H1 := Lib.hid H1
  have H2 := Lib.hid H2
  have H3 := Lib.hid H3
  have H4 := Lib.hid H4
  have H5 := Lib.hid H5
  have H6 := Lib.hid H6
  obtain ⟨kk, hkk⟩ : ∃ k, min keep.toNat n2 = k := ⟨_, rfl⟩
  have htk : ys.take keep.toNat = ys.take kk := by
    rw [← hkk]
    rcases Nat.le_total keep.toNat n2 with q | q
    · rw [Nat.min_eq_left q]
    · rw [Nat.min_eq_right q, List.take_of_length_le (by omega), List.take_of_length_le (by omega)]
  obtain ⟨y2, hy2⟩ : ∃ x : Int, (n2 : Int) = x := ⟨_, rfl⟩
  obtain ⟨y1, hy1⟩ : ∃ x : Int, (n1 : Int) = x := ⟨_, rfl⟩
  have hkI : (kk : Int) = min (max keep 0) y2 := by omega
  obtain ⟨A, CC, hsl, hsh⟩ := slb_head s2 (show kk ≤ n2 by omega) d2 (mm := min (max keep 0) y2) hkI
  obtain ⟨xv, hxv⟩ : ∃ x, strOfNums xs = x := ⟨_, rfl⟩
  obtain ⟨yv, hyv⟩ : ∃ x, strOfNums (ys.take kk) = x := ⟨_, rfl⟩
  obtain ⟨wv, hwv⟩ : ∃ x, strOfNums zs = x := ⟨_, rfl⟩
  obtain ⟨lw, hlw⟩ : ∃ x : Int, (zs.length : Int) = x := ⟨_, rfl⟩
  have zw : (wv.size : Int) = lw := by rw [← hwv, strOfNums_size, hlw]
  have HS1 := Lib.hid s1
  have HSH := Lib.hid hsh
  have HXS := Lib.hid hxv
  have HYS := Lib.hid hyv
  have HWV := Lib.hid hwv
  have HLW := Lib.hid hlw
  have HCT := Lib.hid (show xv ++ yv = wv by rw [← hxv, ← hyv, ← hwv, ← hzs, htk, s6_append])
  have HSZ := Lib.hid (show ¬ 9223372036854775807 < xv.size + yv.size by rw [← hxv, ← hyv, strOfNums_size, strOfNums_size, List.length_take]; omega)
  have g1 : ¬ y1 > 500 := by omega
  have g2 : ¬ y2 > 500 := by omega
  have g3 : decide (500 < y1) = false := decide_eq_false (by omega)
  clear C e1 e2 e3 e4 e5 k0 k1 k2 k3 k4 s1 s2 i1 i2 hall hsh hxv hyv hwv hlw htk hkI hzs l1 l2 d1 d2 hkk
  go_enter Tryd.func4, Tryd.ntmps4
  go_wp2_with (first
    | (go_at_call 7; (with_reducible refine HAL.out.mono ?_); rintro e w1 ⟨rfl, hk⟩; have K1 := Lib.hid hk; clear hk)
    | (go_at_call 9; (with_reducible refine (H0.out _ K1.out).mono ?_); rintro e w2 ⟨g, O2, rfl, r, hn, hk⟩; have T2 := Lib.hid (OneO.mk r (Kp.trans K1.out hk) : OneO R W g _ O2 w2); clear r hn hk)
    | (go_at_call 17; (with_reducible refine (H1.out _ _ _ T2.out).mono ?_); rintro e w3 ⟨rfl, O_, r, ha⟩; have T3 := Lib.hid (T2.out.tape HC.out r ha); clear r ha)
    | (go_at_call 18; (with_reducible refine (H2.out _ _ _ T3.out).mono ?_); rintro e w4 ⟨rfl, O_, r, ha⟩; have T4 := Lib.hid (T3.out.tape HC.out r ha); clear r ha)
    | (go_at_call 17; (with_reducible refine (H3.out _ _ _ T4.out).mono ?_); rintro e w5 ⟨rfl, O_, r, ha⟩; have T5 := Lib.hid (T4.out.tape HC.out r ha); clear r ha)
    | (go_at_call 19; (with_reducible refine (H4.out _ _ _ T5.out).mono ?_); rintro e w6 ⟨rfl, O_, r, ha⟩; have T6 := Lib.hid (T5.out.tape HC.out r ha); clear r ha)
    | (go_at_call 13; (with_reducible refine (H6.out _ _ _ T6.out).mono ?_); rintro e w7 ⟨a7, c7, rfl, hs, hk⟩; have T7 := Lib.hid (T6.out.kp HC.out hk); have cv7 := conv_slb hs; rw [HWV.out] at cv7; clear hs hk)
    | (go_at_call 19; (with_reducible refine (H5.out _ _ _ T7.out).mono ?_); rintro e w8 ⟨rfl, O_, r, ha⟩; have T8 := Lib.hid (T7.out.tape HC.out r ha); clear r ha))
  refine wp_region_held_drew (S := fun w' => Kp w8 w') (by kernel_rfl) ?_ (fun hHeld => ?_)
  · exact (Kp.refl w8).drew
  refine wpAnyH_take (i := 0) (v := ?_) rfl (by kernel_rfl) (by kernel_rfl) (by kernel_rfl) (fun _ _ _ h => h) (Or.inl ⟨by rfl, ?_⟩) (by assumption) ?_
  rotate_left
  · intro w hSw; go_simp; try with_reducible rfl
  go_simp
  refine wpAnyH_take (i := 1) (v := ?_) rfl (by kernel_rfl) (by kernel_rfl) (by kernel_rfl) (fun _ _ _ h => h) (Or.inl ⟨by rfl, ?_⟩) (by assumption) ?_
  rotate_left
  · intro w hSw; go_simp; try with_reducible rfl
  go_simp
  refine wpAnyH_take (i := 2) (v := ?_) rfl (by kernel_rfl) (by kernel_rfl) (by kernel_rfl) (fun _ _ _ h => h) (Or.inl ⟨by rfl, ?_⟩) (by assumption) ?_
  rotate_left
  · intro w hSw; have cv := conv_slb (HS1.out.kp (Kp.trans T8.out.kW hSw)); rw [HXS.out] at cv; go_simp; try with_reducible rfl
  go_simp
  refine wpAnyH_take (i := 3) (v := ?_) rfl (by kernel_rfl) (by kernel_rfl) (by kernel_rfl) (fun _ _ _ h => h) (Or.inl ⟨by rfl, ?_⟩) (by assumption) ?_
  rotate_left
  · intro w hSw; go_simp; try with_reducible rfl
  go_simp
  refine wpAnyH_take (i := 4) (v := ?_) rfl (by kernel_rfl) (by kernel_rfl) (by kernel_rfl) (fun _ _ _ h => h) (Or.inl ⟨by rfl, ?_⟩) (by assumption) ?_
  rotate_left
  · intro w hSw; go_simp; try with_reducible rfl
  go_simp
  refine wpAnyH_take (i := 5) (v := ?_) rfl (by kernel_rfl) (by kernel_rfl) (by kernel_rfl) (fun _ _ _ h => h) (Or.inl ⟨by rfl, ?_⟩) (by assumption) ?_
  rotate_left
  · intro w hSw; go_simp; try with_reducible rfl
  go_simp
  refine wpAnyH_take (i := 6) (v := ?_) rfl (by kernel_rfl) (by kernel_rfl) (by kernel_rfl) (fun _ _ _ h => h) (Or.inl ⟨by rfl, ?_⟩) (by assumption) ?_
  rotate_left
  · intro w hSw; have cv := conv_slb (HSH.out.kp (Kp.trans T8.out.kW hSw)); rw [HYS.out] at cv; go_simp; try with_reducible rfl
  go_simp
  refine wpAnyH_take (i := 7) (v := ?_) rfl (by kernel_rfl) (by kernel_rfl) (by kernel_rfl) (fun _ _ _ h => h) (Or.inl ⟨by rfl, ?_⟩) (by assumption) ?_
  rotate_left
  · intro w hSw; go_simp; rw [if_neg HSZ.out, HCT.out]; try with_reducible rfl
  go_simp
  refine wpAnyH_take (i := 8) (v := ?_) rfl (by kernel_rfl) (by kernel_rfl) (by kernel_rfl) (fun _ _ _ h => h) (Or.inl ⟨by rfl, ?_⟩) (by assumption) ?_
  rotate_left
  · intro w hSw; go_simp; try with_reducible rfl
  go_simp
  refine wpAnyH_take (i := 9) (v := ?_) rfl (by kernel_rfl) (by kernel_rfl) (by kernel_rfl) (fun _ _ _ h => h) (Or.inl ⟨by rfl, ?_⟩) (by assumption) ?_
  rotate_left
  · intro w hSw; go_simp; try with_reducible rfl
  go_simp
  refine wpAnyH_take (i := 10) (v := ?_) rfl (by kernel_rfl) (by kernel_rfl) (by kernel_rfl) (fun _ _ _ h => h) (Or.inl ⟨by rfl, ?_⟩) (by assumption) ?_
  rotate_left
  · intro w hSw; go_simp; try with_reducible rfl
  go_simp
  refine wpAnyH_take (i := 13) (v := ?_) rfl (by kernel_rfl) (by kernel_rfl) (by kernel_rfl) (fun _ _ _ h => h) (Or.inl ⟨by rfl, ?_⟩) (by assumption) ?_
  rotate_left
  · intro w hSw; go_simp; try with_reducible rfl
  go_simp
  refine wpAnyH_ready (rs := [11]) (by kernel_rfl) (by simp) ?_
  refine AllReadyH.cons rfl (fun K hK => ?_) AllReadyH.nil
  go_simp
  go_wp2_with (go_at_call 13; (with_reducible refine (H6.out _ _ _ (T8.out.kp HC.out hHeld)).mono ?_); rintro e w9 ⟨a9, c9, rfl, hs, hk⟩; have K9 := Lib.hid (Kp.trans hHeld hk); have cv := conv_slb hs; rw [HWV.out] at cv; clear hs hk)
  refine hK.out _ _ ?_ (fun hHeld => ?_)
  · exact K9.out
  clear hK K
  refine wpAnyH_ready (rs := [12]) (by kernel_rfl) (by simp) ?_
  refine AllReadyH.cons rfl (fun K hK => ?_) AllReadyH.nil
  go_simp
  refine hK.out _ _ ?_ (fun hHeld => ?_)
  · exact hHeld
  clear hK K
  refine wpAnyH_take (i := 14) (v := ?_) rfl (by kernel_rfl) (by kernel_rfl) (by kernel_rfl) (fun _ _ _ h => h) (Or.inl ⟨by rfl, ?_⟩) (by assumption) ?_
  rotate_left
  · intro w hSw; go_simp; try with_reducible rfl
  go_simp
  refine wpAnyH_take (i := 15) (v := ?_) rfl (by kernel_rfl) (by kernel_rfl) (by kernel_rfl) (fun _ _ _ h => h) (Or.inl ⟨by rfl, ?_⟩) (by assumption) ?_
  rotate_left
  · intro w hSw; go_simp; try with_reducible rfl
  go_simp
  refine wpAnyH_take (i := 16) (v := ?_) rfl (by kernel_rfl) (by kernel_rfl) (by kernel_rfl) (fun _ _ _ h => h) (Or.inl ⟨by rfl, ?_⟩) (by assumption) ?_
  rotate_left
  · intro w hSw; go_simp; try with_reducible rfl
  go_simp
  refine wpAnyH_take (i := 17) (v := ?_) rfl (by kernel_rfl) (by kernel_rfl) (by kernel_rfl) (fun _ _ _ h => h) (Or.inl ⟨by rfl, ?_⟩) (by assumption) ?_
  rotate_left
  · intro w hSw; go_simp; try with_reducible rfl
  go_simp
  refine wpAnyH_take (i := 19) (v := ?_) rfl (by kernel_rfl) (by kernel_rfl) (by kernel_rfl) (fun _ _ _ h => h) (Or.inl ⟨by rfl, ?_⟩) (by assumption) ?_
  rotate_left
  · intro w hSw; go_simp; try with_reducible rfl
  go_simp
  refine wpAnyH_take (i := 20) (v := ?_) rfl (by kernel_rfl) (by kernel_rfl) (by kernel_rfl) (fun _ _ _ h => h) (Or.inl ⟨by rfl, ?_⟩) (by assumption) ?_
  rotate_left
  · intro w hSw; go_simp; try with_reducible rfl
  go_simp
  refine wpAnyH_ready (rs := [18]) (by kernel_rfl) (by simp) ?_
  refine AllReadyH.cons rfl (fun K hK => ?_) AllReadyH.nil
  go_simp
  go_wp2_with (go_at_call 14; (with_reducible refine (H7.out _ _ _ (T8.out.kp HC.out hHeld)).mono ?_); rintro e w10 ⟨rfl, hk⟩; rw [HLW.out]; have K10 := Lib.hid (Kp.trans hHeld hk); clear hk)
  refine hK.out _ _ ?_ (fun hHeld => ?_)
  · exact K10.out
  clear hK K
  refine wpAnyH_take (i := 21) (v := ?_) rfl (by kernel_rfl) (by kernel_rfl) (by kernel_rfl) (fun _ _ _ h => h) (Or.inl ⟨by rfl, ?_⟩) (by assumption) ?_
  rotate_left
  · intro w hSw; go_simp; try with_reducible rfl
  go_simp
  refine wpAnyH_take (i := 22) (v := ?_) rfl (by kernel_rfl) (by kernel_rfl) (by kernel_rfl) (fun _ _ _ h => h) (Or.inl ⟨by rfl, ?_⟩) (by assumption) ?_
  rotate_left
  · intro w hSw; go_simp; try with_reducible rfl
  go_simp
  refine wpAnyH_take (i := 23) (v := ?_) rfl (by kernel_rfl) (by kernel_rfl) (by kernel_rfl) (fun _ _ _ h => h) (Or.inl ⟨by rfl, ?_⟩) (by assumption) ?_
  rotate_left
  · intro w hSw; go_simp; try with_reducible rfl
  go_simp
  refine wpAnyH_done (by kernel_rfl) ?_ _
  go_wp2
  go_ret
  exact ⟨by first | rfl | simp, Kp.trans T8.out.kW hHeld⟩
end Go.Proofs.YtjgakdcjkddpiaaDoor
