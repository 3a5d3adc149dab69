/-
  TapeSwaps' WALKS (own work), over TapC.
-/
import Derived.Test.YtjgakdcjkddpiaaDoorTal6
import Derived.Test.YtjgakdcjkddpiaaDoorRef6
import Derived.Deep.RegionHeld3
import Derived.WalkSmall
namespace Go.Proofs.YtjgakdcjkddpiaaDoor
open Go.RowKit Go.ChangeShapes Go.WideShapes
variable {ads : List Addr} {R : Nat → TM → (Nat → Prop) → World → Prop} {W : World}

/-- THE CONTRACTS from a later world on. -/
theorem TapC.later (C : TapC ads W R) {W1 : World} (hW : Kp W W1) : TapC ads W1 (fun g m O w => R g m O w ∧ ∀ b, O b → W1.heap.size ≤ b) where
  stay := fun h hs hb => ⟨C.stay h.1 hs hb, h.2⟩
  mem := fun h b hb => ⟨h.2 b hb, (C.mem h.1 b hb).2⟩
  new_ok := fun w1 h1 r a b => (C.new_ok w1 (Kp.trans hW h1) r a b).mono (by
    rintro e w' ⟨g, O, rfl, r', hn, hk⟩
    exact ⟨g, O, rfl, ⟨r', fun b hb => Nat.le_trans (Below.size h1) (hn b hb)⟩, hn, hk⟩)
  new_no := fun w1 h1 => C.new_no w1 (Kp.trans hW h1)
  append := fun w1 h1 g m O r hm a n c bs q1 q2 q3 q4 q5 q6 => (C.append w1 (Kp.trans hW h1) g m O r.1 hm a n c bs q1 q2 q3 q4 q5 q6).mono (by
      rintro e w' ⟨rfl, O', r', ha⟩
      exact ⟨rfl, O', ⟨r', fun b hb => (ha.own b hb).elim (r.2 b) (fun q => Nat.le_trans (Below.size h1) q)⟩, ha⟩)
  sync := fun w1 h1 g m O r hm => (C.sync w1 (Kp.trans hW h1) g m O r.1 hm).mono (by
      rintro e w' ⟨rfl, O', r', ha⟩
      exact ⟨rfl, O', ⟨r', fun b hb => (ha.own b hb).elim (r.2 b) (fun q => Nat.le_trans (Below.size h1) q)⟩, ha⟩)
  swap := fun w1 h1 g m O r hm a n c bs q1 q2 q3 q4 q5 q6 => (C.swap w1 (Kp.trans hW h1) g m O r.1 hm a n c bs q1 q2 q3 q4 q5 q6).mono (by
      rintro e w' ⟨rfl, O', r', ha⟩
      exact ⟨rfl, O', ⟨r', fun b hb => (ha.own b hb).elim (r.2 b) (fun q => Nat.le_trans (Below.size h1) q)⟩, ha⟩)
  cut := fun w1 h1 g m O r hm n q1 q2 => (C.cut w1 (Kp.trans hW h1) g m O r.1 hm n q1 q2).mono (by
      rintro e w' ⟨rfl, O', r', ha⟩
      exact ⟨rfl, O', ⟨r', fun b hb => (ha.own b hb).elim (r.2 b) (fun q => Nat.le_trans (Below.size h1) q)⟩, ha⟩)
  setRoom := fun w1 h1 g m O r hm n q1 q2 => (C.setRoom w1 (Kp.trans hW h1) g m O r.1 hm n q1 q2).mono (by
      rintro e w' ⟨rfl, O', r', ha⟩
      exact ⟨rfl, O', ⟨r', fun b hb => (ha.own b hb).elim (r.2 b) (fun q => Nat.le_trans (Below.size h1) q)⟩, ha⟩)
  arm := fun w1 h1 g m O r hm n q1 q2 => (C.arm w1 (Kp.trans hW h1) g m O r.1 hm n q1 q2).mono (by
      rintro e w' ⟨rfl, O', r', ha⟩
      exact ⟨rfl, O', ⟨r', fun b hb => (ha.own b hb).elim (r.2 b) (fun q => Nat.le_trans (Below.size h1) q)⟩, ha⟩)
  crash := fun w1 h1 g m O r hm n q1 q2 => (C.crash w1 (Kp.trans hW h1) g m O r.1 hm n q1 q2).mono (by
      rintro e w' ⟨rfl, O', r', ha⟩
      exact ⟨rfl, O', ⟨r', fun b hb => (ha.own b hb).elim (r.2 b) (fun q => Nat.le_trans (Below.size h1) q)⟩, ha⟩)
  bytes := fun w1 h1 g m O r hm => C.bytes w1 (Kp.trans hW h1) g m O r.1 hm
  sure := fun w1 h1 g m O r hm => C.sure w1 (Kp.trans hW h1) g m O r.1 hm
  room := fun w1 h1 g m O r hm => C.room w1 (Kp.trans hW h1) g m O r.1 hm
  off := fun w1 h1 g m O r hm => C.off w1 (Kp.trans hW h1) g m O r.1 hm

theorem rem_len (x l : Int) (h0 : 0 ≤ l) (h1 : l ≤ 1000) : 0 ≤ wrap64 ((IntKind.u64.wrap x).tmod (l + 1)) ∧ wrap64 ((IntKind.u64.wrap x).tmod (l + 1)) ≤ l := by
  have h0 : 0 ≤ IntKind.u64.wrap x := by
    unfold IntKind.wrap
    simp [IntKind.signed, IntKind.bits]
    omega
  rw [Int.tmod_eq_emod_of_nonneg h0]
  have h1 := Int.emod_nonneg (IntKind.u64.wrap x) (show l + 1 ≠ 0 by omega)
  have h2 := Int.emod_lt_of_pos (IntKind.u64.wrap x) (show 0 < l + 1 by omega)
  unfold wrap64
  omega

set_option maxRecDepth 20000 in
theorem swaps_long (C0 : TapC ads W R) (a1 : Option Addr) (n1 c1 : Nat) (a2 : Option Addr) (n2 c2 : Nat) (cut keep : Int) (hl : 500 < n1 ∨ 500 < n2) :
    Calls Tryd.prog 6 #[.slice a1 n1 c1, .slice a2 n2 c2, .agg #[.int .i64 cut, .int .i64 keep]] W fun e w' => e = .returned (.bool true) ∧ Kp W w' := by
  have kb := kp_alloc W (.cells #[.int .i64 cut, .int .i64 keep] 53)
  have HAL := Lib.hid (alive6 (C0.later kb))
  have KB := Lib.hid kb
  obtain ⟨x1, h1⟩ : ∃ x : Int, (n1 : Int) = x := ⟨_, rfl⟩
  obtain ⟨x2, h2⟩ : ∃ x : Int, (n2 : Int) = x := ⟨_, rfl⟩
  clear C0 kb
  by_cases hb : x1 > 500
  · have d1 : decide (x1 > 500) = true := decide_eq_true hb
    go_enter Tryd.func6, Tryd.ntmps6
    go_wp2_with (go_at_call 7; (with_reducible refine HAL.out.mono ?_); rintro e w1 ⟨rfl, hk⟩; have K1 := Lib.hid hk; clear hk)
    go_ret
    exact ⟨rfl, Kp.trans KB.out K1.out⟩
  · have hb2 : x2 > 500 := by omega
    have d1 : decide (500 < x1) = false := decide_eq_false hb
    go_enter Tryd.func6, Tryd.ntmps6
    go_wp2_with (go_at_call 7; (with_reducible refine HAL.out.mono ?_); rintro e w1 ⟨rfl, hk⟩; have K1 := Lib.hid hk; clear hk)
    go_ret
    exact ⟨rfl, Kp.trans KB.out K1.out⟩

set_option maxRecDepth 20000 in
set_option maxHeartbeats 4000000 in
theorem swaps_any (C0 : TapC ads W R) (a1 : Option Addr) (n1 c1 : Nat) (xs : List Int) (l1 : xs.length = n1) (b1 : n1 ≤ 500) (d1 : n1 ≤ c1) (i1 : InB xs) (t1 : SlB (.slice a1 n1 c1) xs W)
    (a2 : Option Addr) (n2 c2 : Nat) (ys : List Int) (l2 : ys.length = n2) (b2 : n2 ≤ 500) (d2 : n2 ≤ c2) (i2 : InB ys) (t2 : SlB (.slice a2 n2 c2) ys W) (cut keep : Int) (p0 : -9223372036854775808 ≤ keep) (p1 : keep ≤ 9223372036854775807) :
    Calls Tryd.prog 6 #[.slice a1 n1 c1, .slice a2 n2 c2, .agg #[.int .i64 cut, .int .i64 keep]] W fun e w' => e = .returned (.bool true) ∧ Kp W w' := by
  have kb := kp_alloc W (.cells #[.int .i64 cut, .int .i64 keep] 53)
  have hrb := (MapKept.heap_alloc W (.cells #[.int .i64 cut, .int .i64 keep] 53)).1
  have C1 := C0.later kb
  have s1 := t1.kp kb
  have s2 := t2.kp kb
  have KB := Lib.hid kb
  have HRB := Lib.hid hrb
  have HAL := alive6 C1
  have g1 : ¬ (n1 : Int) > 500 := by omega
  have g2 : ¬ (n2 : Int) > 500 := by omega
  obtain ⟨y1, hy1⟩ : ∃ x : Int, (n1 : Int) = x := ⟨_, rfl⟩
  obtain ⟨y2, hy2⟩ : ∃ x : Int, (n2 : Int) = x := ⟨_, rfl⟩
  rw [hy1] at g1
  rw [hy2] at g2
  have g3 : decide (500 < y1) = false := decide_eq_false (by omega)
  have hN0 := rem_len cut (y1 + y2) (by omega) (by omega)
  obtain ⟨N, hN⟩ : ∃ x, wrap64 ((IntKind.u64.wrap cut).tmod (y1 + y2 + 1)) = x := ⟨_, rfl⟩
  rw [hN] at hN0
  have HALo := Lib.hid HAL
  have HC1 := Lib.hid C1
  have HS1o := Lib.hid s1
  have HS2o := Lib.hid s2
  clear C0 t1 t2 kb hrb HAL C1 s1 s2
  go_enter Tryd.func6, Tryd.ntmps6
  go_wp2_with fail
  have C1 := HC1.out
  have HAL := HALo.out
  have s1 := HS1o.out
  have s2 := HS2o.out
  have kb := KB.out
  have hrb := HRB.out
  obtain ⟨W1, hW1⟩ : ∃ x, W.alloc (.cells #[.int .i64 cut, .int .i64 keep] 53) = x := ⟨_, rfl⟩
  obtain ⟨p9, hp9⟩ : ∃ x, W.heap.size = x := ⟨_, rfl⟩
  rw [hW1] at C1 HAL s1 s2 kb hrb ⊢
  rw [hp9] at hrb ⊢
  obtain ⟨R1, hR1⟩ : ∃ R1, (fun (g : Nat) (m : TM) (O : Nat → Prop) (w : World) => R g m O w ∧ ∀ b, O b → W1.heap.size ≤ b) = R1 := ⟨_, rfl⟩
  rw [hR1] at C1
  have HC := Lib.hid C1
  have HAL := Lib.hid HAL
  have KB := Lib.hid kb
  have b0 : ∀ w, Kp W1 w → w.cell? ⟨p9, 0, none⟩ = some (.int .i64 cut) := fun w hk => kp_cell hk (by unfold World.cell?; dsimp only; rw [hrb]; rfl)
  have b1' : ∀ w, Kp W1 w → w.cell? ⟨p9, 1, none⟩ = some (.int .i64 keep) := fun w hk => kp_cell hk (by unfold World.cell?; dsimp only; rw [hrb]; rfl)
  have B0 := Lib.hid b0
  have B1 := Lib.hid b1'
  have e1 : appM (newM 1000) xs = (0, { sure := [], tail := xs, room := 1000, left := -1, off := false }) := by unfold appM; rw [if_neg (by simp only [newM, List.length_nil]; omega)]; rfl
  have e2 : swapM { sure := [], tail := xs, room := 1000, left := -1, off := false } ys = (0, { sure := ys, tail := [], room := 1000, left := -1, off := false }) := by unfold swapM; rw [if_neg (by simp only []; omega)]; rfl
  have e3 : crashM { sure := ys, tail := [], room := 1000, left := -1, off := false } keep = { sure := ys, tail := [], room := 1000, left := -1, off := false } := by simp [crashM]
  have e4 : appM { sure := ys, tail := [], room := 1000, left := -1, off := false } xs = (0, { sure := ys, tail := xs, room := 1000, left := -1, off := false }) := by unfold appM; rw [if_neg (by simp only [List.length_nil]; omega)]; rfl
  obtain ⟨zs, hzs⟩ : ∃ z, (ys ++ xs).take N.toNat = z := ⟨_, rfl⟩
  have e5 : cutsM { sure := ys, tail := xs, room := 1000, left := -1, off := false } N = (0, { sure := zs, tail := [], room := 1000, left := -1, off := false }) := by
    unfold cutsM
    rw [if_neg (by simp only [TM.all, List.length_append]; omega), ← hzs]
    rfl
  have e6 : crashM { sure := zs, tail := [], room := 1000, left := -1, off := false } keep = { sure := zs, tail := [], room := 1000, left := -1, off := false } := by simp [crashM]
  have k0 : Mok (newM 1000) := Mok.new (by decide) (by decide)
  have k1 := k0.app i1
  rw [e1] at k1
  have k2 := k1.swap i2
  rw [e2] at k2
  have k4 := k2.app i1
  rw [e4] at k4
  have k5 := k4.cuts N
  rw [e5] at k5
  have H0 := Lib.hid (fun w1 (hk : Kp W1 w1) => C1.new_ok w1 hk 1000 (by decide) (by decide))
  have H1 := fun w1 g O (t : OneO R1 W1 g (newM 1000) O w1) => C1.append w1 t.kW g _ O t.r k0 a1 n1 c1 xs (s1.kp t.kW) l1 d1 i1 (by omega) (t.old C1 s1)
  have H2 := fun w1 g O (t : OneO R1 W1 g _ O w1) => C1.swap w1 t.kW g _ O t.r k1 a2 n2 c2 ys (s2.kp t.kW) l2 d2 i2 (by omega) (t.old C1 s2)
  have H3 := fun w1 g O (t : OneO R1 W1 g _ O w1) => C1.crash w1 t.kW g _ O t.r k2 keep p0 p1
  have H4 := fun w1 g O (t : OneO R1 W1 g _ O w1) => C1.bytes w1 t.kW g _ O t.r k2
  have H5 := fun w1 g O (t : OneO R1 W1 g _ O w1) => C1.append w1 t.kW g _ O t.r k2 a1 n1 c1 xs (s1.kp t.kW) l1 d1 i1 (by omega) (t.old C1 s1)
  have H6 := fun w1 g O (t : OneO R1 W1 g _ O w1) => C1.cut w1 t.kW g _ O t.r k4 N (by omega) (by omega)
  have H7 := fun w1 g O (t : OneO R1 W1 g _ O w1) => C1.crash w1 t.kW g _ O t.r k5 keep p0 p1
  have H8 := fun w1 g O (t : OneO R1 W1 g _ O w1) => C1.bytes w1 t.kW g _ O t.r k5
  have H9 := fun w1 g O (t : OneO R1 W1 g _ O w1) => C1.sure w1 t.kW g _ O t.r k5
  have al1 : TM.all { sure := ys, tail := [], room := 1000, left := -1, off := false } = ys := by simp [TM.all]
  have al2 : TM.all { sure := zs, tail := [], room := 1000, left := -1, off := false } = zs := by simp [TM.all]
  have hzl : (zs.length : Int) = N := by rw [← hzs, List.length_take, List.length_append]; omega
  simp only [e1, errI_nil] at H1
  simp only [e2, errI_nil] at H2
  simp only [e3] at H3
  simp only [al1] at H4
  simp only [e4, errI_nil] at H5
  simp only [e5, errI_nil] at H6
  simp only [e6] at H7
  simp only [al2] at H8
  have H1 := Lib.hid H1
  have H2 := Lib.hid H2
  have H3 := Lib.hid H3
  have H4 := Lib.hid H4
  have H5 := Lib.hid H5
  have H6 := Lib.hid H6
  have H7 := Lib.hid H7
  have H8 := Lib.hid H8
  have H9 := Lib.hid H9
  have hsl := fun w => slice_take (ys ++ xs) N.toNat (by rw [List.length_append]; omega) N (by omega) w
  rw [hzs] at hsl
  obtain ⟨xv, hxv⟩ : ∃ x, strOfNums xs = x := ⟨_, rfl⟩
  obtain ⟨yv, hyv⟩ : ∃ x, strOfNums ys = x := ⟨_, rfl⟩
  obtain ⟨av, hav⟩ : ∃ x, strOfNums (ys ++ xs) = x := ⟨_, rfl⟩
  obtain ⟨wv, hwv⟩ : ∃ x, strOfNums zs = x := ⟨_, rfl⟩
  rw [hav, hwv] at hsl
  have HS1 := Lib.hid s1
  have HS2 := Lib.hid s2
  have HXV := Lib.hid hxv
  have HYV := Lib.hid hyv
  have HWV := Lib.hid hwv
  have HLW := Lib.hid hzl
  have HCT := Lib.hid (show yv ++ xv = av by rw [← hxv, ← hyv, ← hav, s6_append])
  have HSZ := Lib.hid (show ¬ 9223372036854775807 < yv.size + xv.size by rw [← hxv, ← hyv, strOfNums_size, strOfNums_size]; omega)
  clear C1 e1 e2 e3 e4 e5 e6 k0 k1 k2 k4 k5 s1 s2 i1 i2 al1 al2 hxv hyv hwv hav hzl hzs l1 l2 d1 d2 hW1 hp9 hrb kb hR1 b0 b1'
  go_wp2_with (go_at_call 7; (with_reducible refine HAL.out.mono ?_); rintro e w1 ⟨rfl, hk⟩; have K1 := Lib.hid hk; have q0 := B0.out _ hk; have q1 := B1.out _ hk; clear hk)
  have K2 := Lib.hid (fun n => show Kp W1 (w1.drewN n) from below_drewN K1.out n)
  go_quiet (fail)
  go_wp2_with (first
    | (go_at_call 9; (with_reducible refine (H0.out _ (K2.out _)).mono ?_); rintro e w3 ⟨g, O3, rfl, r, hn, hk⟩; have T3 := Lib.hid (OneO.mk r (Kp.trans (K2.out _) hk) : OneO R1 W1 g _ O3 w3); clear r hn hk)
    | (go_at_call 17; (with_reducible refine (H1.out _ _ _ T3.out).mono ?_); rintro e w4 ⟨rfl, O_, r, ha⟩; have T4 := Lib.hid (T3.out.tape HC.out r ha); clear r ha)
    | (go_at_call 22; (with_reducible refine (H2.out _ _ _ T4.out).mono ?_); rintro e w5 ⟨rfl, O_, r, ha⟩; have T5 := Lib.hid (T4.out.tape HC.out r ha); clear r ha)
    | (go_at_call 19; (with_reducible refine (H3.out _ _ _ T5.out).mono ?_); rintro e w6 ⟨rfl, O_, r, ha⟩; have T6 := Lib.hid (T5.out.tape HC.out r ha); clear r ha))
  refine wp_region_held_drew (S := fun w' => Kp W1 w') (by kernel_rfl) ?_ (fun hHeld => ?_)
  · exact T6.out.kW.drew
  refine wpAnyH_take (i := 0) (v := ?_) rfl (by kernel_rfl) (by kernel_rfl) (by kernel_rfl) (fun _ _ _ h => h) (Or.inl ⟨by rfl, ?_⟩) (by assumption) ?_
  rotate_left
  · intro w hSw; go_simp; try with_reducible rfl
  go_simp
  refine wpAnyH_take (i := 3) (v := ?_) rfl (by kernel_rfl) (by kernel_rfl) (by kernel_rfl) (fun _ _ _ h => h) (Or.inl ⟨by rfl, ?_⟩) (by assumption) ?_
  rotate_left
  · intro w hSw; go_simp; try with_reducible rfl
  go_simp
  refine wpAnyH_take (i := 4) (v := ?_) rfl (by kernel_rfl) (by kernel_rfl) (by kernel_rfl) (fun _ _ _ h => h) (Or.inl ⟨by rfl, ?_⟩) (by assumption) ?_
  rotate_left
  · intro w hSw; have cv := conv_slb (HS2.out.kp hSw); rw [HYV.out] at cv; go_simp; try with_reducible rfl
  go_simp
  refine wpAnyH_ready (rs := [1]) (by kernel_rfl) (by simp) ?_
  refine AllReadyH.cons rfl (fun K hK => ?_) AllReadyH.nil
  go_simp
  go_wp2_with (go_at_call 13; (with_reducible refine (H4.out _ _ _ (T6.out.kp HC.out (Kp.refl _).drew)).mono ?_); rintro e w7 ⟨a7, c7, rfl, hs, hk⟩; have T7 := Lib.hid ((T6.out.kp HC.out (Kp.refl _).drew).kp HC.out hk); have cv := conv_slb hs; rw [HYV.out] at cv; clear hs hk)
  refine hK.out _ _ ?_ (fun hHeld => ?_)
  · exact T7.out.kW
  clear hK K
  refine wpAnyH_ready (rs := [2]) (by kernel_rfl) (by simp) ?_
  refine AllReadyH.cons rfl (fun K hK => ?_) AllReadyH.nil
  go_simp
  refine hK.out _ _ ?_ (fun hHeld => ?_)
  · exact hHeld
  clear hK K
  refine wpAnyH_take (i := 5) (v := ?_) rfl (by kernel_rfl) (by kernel_rfl) (by kernel_rfl) (fun _ _ _ h => h) (Or.inl ⟨by rfl, ?_⟩) (by assumption) ?_
  rotate_left
  · intro w hSw; go_simp; try with_reducible rfl
  go_simp
  refine wpAnyH_take (i := 6) (v := ?_) rfl (by kernel_rfl) (by kernel_rfl) (by kernel_rfl) (fun _ _ _ h => h) (Or.inl ⟨by rfl, ?_⟩) (by assumption) ?_
  rotate_left
  · intro w hSw; go_simp; try with_reducible rfl
  go_simp
  refine wpAnyH_take (i := 7) (v := ?_) rfl (by kernel_rfl) (by kernel_rfl) (by kernel_rfl) (fun _ _ _ h => h) (Or.inl ⟨by rfl, ?_⟩) (by assumption) ?_
  rotate_left
  · intro w hSw; go_simp; try with_reducible rfl
  go_simp
  refine wpAnyH_take (i := 8) (v := ?_) rfl (by kernel_rfl) (by kernel_rfl) (by kernel_rfl) (fun _ _ _ h => h) (Or.inl ⟨by rfl, ?_⟩) (by assumption) ?_
  rotate_left
  · intro w hSw; go_simp; try with_reducible rfl
  go_simp
  refine wpAnyH_ready (rs := [9]) (by kernel_rfl) (by simp) ?_
  refine AllReadyH.cons rfl (fun K hK => ?_) AllReadyH.nil
  go_simp
  go_wp2_with (go_at_call 17; (with_reducible refine (H5.out _ _ _ T7.out).mono ?_); rintro e w8 ⟨rfl, O_, r, ha⟩; have T8 := Lib.hid (T7.out.tape HC.out r ha); clear r ha)
  refine hK.out _ _ ?_ (fun hHeld => ?_)
  · exact T8.out.kW
  clear hK K
  refine wpAnyH_take (i := 10) (v := ?_) rfl (by kernel_rfl) (by kernel_rfl) (by kernel_rfl) (fun _ _ _ h => h) (Or.inl ⟨by rfl, ?_⟩) (by assumption) ?_
  rotate_left
  · intro w hSw; go_simp; try with_reducible rfl
  go_simp
  refine wpAnyH_take (i := 11) (v := ?_) rfl (by kernel_rfl) (by kernel_rfl) (by kernel_rfl) (fun _ _ _ h => h) (Or.inl ⟨by rfl, ?_⟩) (by assumption) ?_
  rotate_left
  · intro w hSw; go_simp; try with_reducible rfl
  go_simp
  refine wpAnyH_done (by kernel_rfl) ?_ _
  go_wp2_with (first
    | (go_at_call 21; (with_reducible refine (H6.out _ _ _ T8.out).mono ?_); rintro e w9 ⟨rfl, O_, r, ha⟩; have T9 := Lib.hid (T8.out.tape HC.out r ha); clear r ha)
    | (go_at_call 19; (with_reducible refine (H7.out _ _ _ T9.out).mono ?_); rintro e w10 ⟨rfl, O_, r, ha⟩; have T10 := Lib.hid (T9.out.tape HC.out r ha); clear r ha))
  refine wp_region_held_drew (S := fun w' => Kp w10 w') (by kernel_rfl) ?_ (fun hHeld => ?_)
  · exact (Kp.refl w10).drew
  refine wpAnyH_take (i := 0) (v := ?_) rfl (by kernel_rfl) (by kernel_rfl) (by kernel_rfl) (fun _ _ _ h => h) (Or.inl ⟨by rfl, ?_⟩) (by assumption) ?_
  rotate_left
  · intro w hSw; go_simp; try with_reducible rfl
  go_simp
  refine wpAnyH_take (i := 3) (v := ?_) rfl (by kernel_rfl) (by kernel_rfl) (by kernel_rfl) (fun _ _ _ h => h) (Or.inl ⟨by rfl, ?_⟩) (by assumption) ?_
  rotate_left
  · intro w hSw; go_simp; try with_reducible rfl
  go_simp
  refine wpAnyH_take (i := 4) (v := ?_) rfl (by kernel_rfl) (by kernel_rfl) (by kernel_rfl) (fun _ _ _ h => h) (Or.inl ⟨by rfl, ?_⟩) (by assumption) ?_
  rotate_left
  · intro w hSw; have cv := conv_slb (HS2.out.kp (Kp.trans T10.out.kW hSw)); rw [HYV.out] at cv; go_simp; try with_reducible rfl
  go_simp
  refine wpAnyH_take (i := 5) (v := ?_) rfl (by kernel_rfl) (by kernel_rfl) (by kernel_rfl) (fun _ _ _ h => h) (Or.inl ⟨by rfl, ?_⟩) (by assumption) ?_
  rotate_left
  · intro w hSw; go_simp; try with_reducible rfl
  go_simp
  refine wpAnyH_take (i := 6) (v := ?_) rfl (by kernel_rfl) (by kernel_rfl) (by kernel_rfl) (fun _ _ _ h => h) (Or.inl ⟨by rfl, ?_⟩) (by assumption) ?_
  rotate_left
  · intro w hSw; have cv := conv_slb (HS1.out.kp (Kp.trans T10.out.kW hSw)); rw [HXV.out] at cv; go_simp; try with_reducible rfl
  go_simp
  refine wpAnyH_take (i := 7) (v := ?_) rfl (by kernel_rfl) (by kernel_rfl) (by kernel_rfl) (fun _ _ _ h => h) (Or.inl ⟨by rfl, ?_⟩) (by assumption) ?_
  rotate_left
  · intro w hSw; go_simp; rw [if_neg HSZ.out, HCT.out]; try with_reducible rfl
  go_simp
  refine wpAnyH_take (i := 8) (v := ?_) rfl (by kernel_rfl) (by kernel_rfl) (by kernel_rfl) (fun _ _ _ h => h) (Or.inl ⟨by rfl, ?_⟩) (by assumption) ?_
  rotate_left
  · intro w hSw; go_simp; try with_reducible rfl
  go_simp
  refine wpAnyH_take (i := 9) (v := ?_) rfl (by kernel_rfl) (by kernel_rfl) (by kernel_rfl) (fun _ _ _ h => h) (Or.inl ⟨by rfl, ?_⟩) (by assumption) ?_
  rotate_left
  · intro w hSw; go_simp; try with_reducible rfl
  go_simp
  refine wpAnyH_ready (rs := [1]) (by kernel_rfl) (by simp) ?_
  refine AllReadyH.cons rfl (fun K hK => ?_) AllReadyH.nil
  go_simp
  go_wp2_with (go_at_call 13; (with_reducible refine (H8.out _ _ _ (T10.out.kp HC.out hHeld)).mono ?_); rintro e w11 ⟨a11, c11, rfl, hs, hk⟩; have K11 := Lib.hid (Kp.trans hHeld hk); have cv := conv_slb hs; rw [HWV.out] at cv; clear hs hk)
  refine hK.out _ _ ?_ (fun hHeld => ?_)
  · exact K11.out
  clear hK K
  refine wpAnyH_ready (rs := [2]) (by kernel_rfl) (by simp) ?_
  refine AllReadyH.cons rfl (fun K hK => ?_) AllReadyH.nil
  go_simp
  refine hK.out _ _ ?_ (fun hHeld => ?_)
  · exact hHeld
  clear hK K
  refine wpAnyH_take (i := 10) (v := ?_) rfl (by kernel_rfl) (by kernel_rfl) (by kernel_rfl) (fun _ _ _ h => h) (Or.inl ⟨by rfl, ?_⟩) (by assumption) ?_
  rotate_left
  · intro w hSw; go_simp; try with_reducible rfl
  go_simp
  refine wpAnyH_take (i := 11) (v := ?_) rfl (by kernel_rfl) (by kernel_rfl) (by kernel_rfl) (fun _ _ _ h => h) (Or.inl ⟨by rfl, ?_⟩) (by assumption) ?_
  rotate_left
  · intro w hSw; go_simp; try with_reducible rfl
  go_simp
  refine wpAnyH_take (i := 12) (v := ?_) rfl (by kernel_rfl) (by kernel_rfl) (by kernel_rfl) (fun _ _ _ h => h) (Or.inl ⟨by rfl, ?_⟩) (by assumption) ?_
  rotate_left
  · intro w hSw; go_simp; try with_reducible rfl
  go_simp
  refine wpAnyH_take (i := 14) (v := ?_) rfl (by kernel_rfl) (by kernel_rfl) (by kernel_rfl) (fun _ _ _ h => h) (Or.inl ⟨by rfl, ?_⟩) (by assumption) ?_
  rotate_left
  · intro w hSw; go_simp; try with_reducible rfl
  go_simp
  refine wpAnyH_ready (rs := [13]) (by kernel_rfl) (by simp) ?_
  refine AllReadyH.cons rfl (fun K hK => ?_) AllReadyH.nil
  go_simp
  go_wp2_with (go_at_call 14; (with_reducible refine (H9.out _ _ _ (T10.out.kp HC.out hHeld)).mono ?_); rintro e w12 ⟨rfl, hk⟩; rw [HLW.out]; have K12 := Lib.hid (Kp.trans hHeld hk); clear hk)
  refine hK.out _ _ ?_ (fun hHeld => ?_)
  · exact K12.out
  clear hK K
  refine wpAnyH_take (i := 15) (v := ?_) rfl (by kernel_rfl) (by kernel_rfl) (by kernel_rfl) (fun _ _ _ h => h) (Or.inl ⟨by rfl, ?_⟩) (by assumption) ?_
  rotate_left
  · intro w hSw; go_simp; try with_reducible rfl
  go_simp
  refine wpAnyH_take (i := 16) (v := ?_) rfl (by kernel_rfl) (by kernel_rfl) (by kernel_rfl) (fun _ _ _ h => h) (Or.inl ⟨by rfl, ?_⟩) (by assumption) ?_
  rotate_left
  · intro w hSw; go_simp; try with_reducible rfl
  go_simp
  refine wpAnyH_take (i := 17) (v := ?_) rfl (by kernel_rfl) (by kernel_rfl) (by kernel_rfl) (fun _ _ _ h => h) (Or.inl ⟨by rfl, ?_⟩) (by assumption) ?_
  rotate_left
  · intro w hSw; go_simp; try with_reducible rfl
  go_simp
  refine wpAnyH_done (by kernel_rfl) ?_ _
  go_wp2
  go_ret
  exact ⟨by first | rfl | simp, Kp.trans KB.out (Kp.trans T10.out.kW hHeld)⟩
end Go.Proofs.YtjgakdcjkddpiaaDoor
