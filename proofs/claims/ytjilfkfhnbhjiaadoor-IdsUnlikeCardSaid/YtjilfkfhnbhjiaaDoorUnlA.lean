/-
  IdsUnlike's WALKS (own work).
-/
import Derived.Test.YtjilfkfhnbhjiaaDoorUnlP
namespace Go.Proofs.YtjilfkfhnbhjiaaDoor
open Go.RowKit Go.ChangeShapes Go.WideShapes

set_option maxRecDepth 20000 in
set_option maxHeartbeats 2000000 in
theorem unl_nn_x (ads : List Addr) (nn si mm sj r0 r1 : Int) (i_nn : I64 nn) (i_si : I64 si) (i_mm : I64 mm) (i_sj : I64 sj) (i_r0 : I64 r0) (i_r1 : I64 r1) (w : World) (V : St ads w) (I : IdsC ads w) (x1 : regO nn si r0 = none) (x2 : regO mm sj r1 = none) (x3 : partO nn r0 = none) (x4 : partO mm r1 = none) (x5 : actO nn si = none) (x6 : actO mm sj = none)  :
    Calls Tryd.prog 6 #[.agg #[.int .i64 nn, .int .i64 si], .agg #[.int .i64 mm, .int .i64 sj], .agg #[.int .i64 r0, .int .i64 r1]] w fun e w' => e = .returned (.bool true) ∧ Kp w w' := by
  have HAL := Lib.hid (fun w1 (hk : Kp w w1) => alive_any ads w1 (V.below hk) (I.kp hk))
  obtain ⟨o1, ho1⟩ := errI_some ads 1 (by decide)
  have H1 := fun w1 (hk : Kp w w1) => I.reg w1 hk nn si r0 i_nn i_si i_r0
  simp only [x1, textR, ho1] at H1
  have H2 := fun w1 (hk : Kp w w1) => I.reg w1 hk mm sj r1 i_mm i_sj i_r1
  simp only [x2, textR, ho1] at H2
  have H3 := fun w1 (hk : Kp w w1) => I.part w1 hk nn r0 i_nn i_r0
  simp only [x3, textR, ho1] at H3
  have H4 := fun w1 (hk : Kp w w1) => I.part w1 hk mm r1 i_mm i_r1
  simp only [x4, textR, ho1] at H4
  have H5 := fun w1 (hk : Kp w w1) => I.act w1 hk nn si i_nn i_si
  simp only [x5, textR, ho1] at H5
  have H6 := fun w1 (hk : Kp w w1) => I.act w1 hk mm sj i_mm i_sj
  simp only [x6, textR, ho1] at H6
  have H1 := Lib.hid H1
  have H2 := Lib.hid H2
  have H3 := Lib.hid H3
  have H4 := Lib.hid H4
  have H5 := Lib.hid H5
  have H6 := Lib.hid H6
  clear V I i_nn i_si i_mm i_sj i_r0 i_r1 x1 x2 x3 x4 x5 x6 ho1
  have b1 := (MapKept.heap_alloc w (.cells #[.int .i64 nn, .int .i64 si] 23)).1
  have k1 := kp_alloc w (.cells #[.int .i64 nn, .int .i64 si] 23)
  have b2 := (MapKept.heap_alloc (w.alloc (.cells #[.int .i64 nn, .int .i64 si] 23)) (.cells #[.int .i64 mm, .int .i64 sj] 23)).1
  have k2 := kp_alloc (w.alloc (.cells #[.int .i64 nn, .int .i64 si] 23)) (.cells #[.int .i64 mm, .int .i64 sj] 23)
  have b3 := (MapKept.heap_alloc ((w.alloc (.cells #[.int .i64 nn, .int .i64 si] 23)).alloc (.cells #[.int .i64 mm, .int .i64 sj] 23)) (.cells #[.int .i64 r0, .int .i64 r1] 52)).1
  have k3 := kp_alloc ((w.alloc (.cells #[.int .i64 nn, .int .i64 si] 23)).alloc (.cells #[.int .i64 mm, .int .i64 sj] 23)) (.cells #[.int .i64 r0, .int .i64 r1] 52)
  have b1 := kp_row (Kp.trans k2 k3) b1
  have b2 := kp_row k3 b2
  have KK := Lib.hid (Kp.trans k1 (Kp.trans k2 k3))
  rw [show (w.alloc (.cells #[.int .i64 nn, .int .i64 si] 23)).heap.size = w.heap.size + 1 by simp] at b2
  rw [show ((w.alloc (.cells #[.int .i64 nn, .int .i64 si] 23)).alloc (.cells #[.int .i64 mm, .int .i64 sj] 23)).heap.size = w.heap.size + 1 + 1 by simp] at b3
  have B1 := Lib.hid b1
  have B2 := Lib.hid b2
  have B3 := Lib.hid b3
  clear b1 b2 b3 k1 k2 k3
  go_enter Tryd.func6, Tryd.ntmps6
  go_wp2_with (go_at_call 7; (with_reducible refine (HAL.out _ KK.out).mono ?_); rintro e w1 ⟨rfl, hk⟩; have b1 := kp_row hk B1.out; have B1 := Lib.hid b1; have b2 := kp_row hk B2.out; have B2 := Lib.hid b2; have b3 := kp_row hk B3.out; have B3 := Lib.hid b3; clear b1 b2 b3; obtain ⟨ca, cb⟩ := cell_two B1.out; obtain ⟨cc, cd⟩ := cell_two B2.out; obtain ⟨ce, cf⟩ := cell_two B3.out; have KK := Lib.hid (Kp.trans KK.out hk); clear hk)
  go_wp2_with (first | (go_at_call 11; (with_reducible refine (H1.out _ KK.out).mono ?_); rintro e wk ⟨rfl, hk⟩; clear ca cb cc cd ce cf; have b1 := kp_row hk B1.out; have B1 := Lib.hid b1; have b2 := kp_row hk B2.out; have B2 := Lib.hid b2; have b3 := kp_row hk B3.out; have B3 := Lib.hid b3; clear b1 b2 b3; obtain ⟨ca, cb⟩ := cell_two B1.out; obtain ⟨cc, cd⟩ := cell_two B2.out; obtain ⟨ce, cf⟩ := cell_two B3.out; have KK := Lib.hid (Kp.trans KK.out hk); clear hk) | (go_at_call 11; (with_reducible refine (H2.out _ KK.out).mono ?_); rintro e wk ⟨rfl, hk⟩; clear ca cb cc cd ce cf; have b1 := kp_row hk B1.out; have B1 := Lib.hid b1; have b2 := kp_row hk B2.out; have B2 := Lib.hid b2; have b3 := kp_row hk B3.out; have B3 := Lib.hid b3; clear b1 b2 b3; obtain ⟨ca, cb⟩ := cell_two B1.out; obtain ⟨cc, cd⟩ := cell_two B2.out; obtain ⟨ce, cf⟩ := cell_two B3.out; have KK := Lib.hid (Kp.trans KK.out hk); clear hk) | (go_at_call 12; (with_reducible refine (H3.out _ KK.out).mono ?_); rintro e wk ⟨rfl, hk⟩; clear ca cb cc cd ce cf; have b1 := kp_row hk B1.out; have B1 := Lib.hid b1; have b2 := kp_row hk B2.out; have B2 := Lib.hid b2; have b3 := kp_row hk B3.out; have B3 := Lib.hid b3; clear b1 b2 b3; obtain ⟨ca, cb⟩ := cell_two B1.out; obtain ⟨cc, cd⟩ := cell_two B2.out; obtain ⟨ce, cf⟩ := cell_two B3.out; have KK := Lib.hid (Kp.trans KK.out hk); clear hk) | (go_at_call 12; (with_reducible refine (H4.out _ KK.out).mono ?_); rintro e wk ⟨rfl, hk⟩; clear ca cb cc cd ce cf; have b1 := kp_row hk B1.out; have B1 := Lib.hid b1; have b2 := kp_row hk B2.out; have B2 := Lib.hid b2; have b3 := kp_row hk B3.out; have B3 := Lib.hid b3; clear b1 b2 b3; obtain ⟨ca, cb⟩ := cell_two B1.out; obtain ⟨cc, cd⟩ := cell_two B2.out; obtain ⟨ce, cf⟩ := cell_two B3.out; have KK := Lib.hid (Kp.trans KK.out hk); clear hk) | (go_at_call 10; (with_reducible refine (H5.out _ KK.out).mono ?_); rintro e wk ⟨rfl, hk⟩; clear ca cb cc cd ce cf; have b1 := kp_row hk B1.out; have B1 := Lib.hid b1; have b2 := kp_row hk B2.out; have B2 := Lib.hid b2; have b3 := kp_row hk B3.out; have B3 := Lib.hid b3; clear b1 b2 b3; obtain ⟨ca, cb⟩ := cell_two B1.out; obtain ⟨cc, cd⟩ := cell_two B2.out; obtain ⟨ce, cf⟩ := cell_two B3.out; have KK := Lib.hid (Kp.trans KK.out hk); clear hk) | (go_at_call 10; (with_reducible refine (H6.out _ KK.out).mono ?_); rintro e wk ⟨rfl, hk⟩; clear ca cb cc cd ce cf; have b1 := kp_row hk B1.out; have B1 := Lib.hid b1; have b2 := kp_row hk B2.out; have B2 := Lib.hid b2; have b3 := kp_row hk B3.out; have B3 := Lib.hid b3; clear b1 b2 b3; obtain ⟨ca, cb⟩ := cell_two B1.out; obtain ⟨cc, cd⟩ := cell_two B2.out; obtain ⟨ce, cf⟩ := cell_two B3.out; have KK := Lib.hid (Kp.trans KK.out hk); clear hk))
  go_ret
  exact ⟨by first | rfl | simp, KK.out⟩

set_option maxRecDepth 20000 in
set_option maxHeartbeats 2000000 in
theorem unl_nb_x (ads : List Addr) (nn si mm sj r0 r1 : Int) (i_nn : I64 nn) (i_si : I64 si) (i_mm : I64 mm) (i_sj : I64 sj) (i_r0 : I64 r0) (i_r1 : I64 r1) (w : World) (V : St ads w) (I : IdsC ads w) (x1 : regO nn si r0 = none) (x2 : regO mm sj r1 = none) (x3 : partO nn r0 = none) (x4 : partO mm r1 = some (partT mm.toNat r1.toNat)) (x5 : actO nn si = none) (x6 : actO mm sj = some (actT mm.toNat sj.toNat))  :
    Calls Tryd.prog 6 #[.agg #[.int .i64 nn, .int .i64 si], .agg #[.int .i64 mm, .int .i64 sj], .agg #[.int .i64 r0, .int .i64 r1]] w fun e w' => e = .returned (.bool true) ∧ Kp w w' := by
  have HAL := Lib.hid (fun w1 (hk : Kp w w1) => alive_any ads w1 (V.below hk) (I.kp hk))
  obtain ⟨o1, ho1⟩ := errI_some ads 1 (by decide)
  have H1 := fun w1 (hk : Kp w w1) => I.reg w1 hk nn si r0 i_nn i_si i_r0
  simp only [x1, textR, ho1] at H1
  have H2 := fun w1 (hk : Kp w w1) => I.reg w1 hk mm sj r1 i_mm i_sj i_r1
  simp only [x2, textR, ho1] at H2
  have H3 := fun w1 (hk : Kp w w1) => I.part w1 hk nn r0 i_nn i_r0
  simp only [x3, textR, ho1] at H3
  have H4 := fun w1 (hk : Kp w w1) => I.part w1 hk mm r1 i_mm i_r1
  simp only [x4, textR] at H4
  obtain ⟨t4, ht4⟩ : ∃ x, strOfNums (partT mm.toNat r1.toNat) = x := ⟨_, rfl⟩
  simp only [ht4] at H4
  have H5 := fun w1 (hk : Kp w w1) => I.act w1 hk nn si i_nn i_si
  simp only [x5, textR, ho1] at H5
  have H6 := fun w1 (hk : Kp w w1) => I.act w1 hk mm sj i_mm i_sj
  simp only [x6, textR] at H6
  obtain ⟨t6, ht6⟩ : ∃ x, strOfNums (actT mm.toNat sj.toNat) = x := ⟨_, rfl⟩
  simp only [ht6] at H6
  have H1 := Lib.hid H1
  have H2 := Lib.hid H2
  have H3 := Lib.hid H3
  have H4 := Lib.hid H4
  have H5 := Lib.hid H5
  have H6 := Lib.hid H6
  clear V I i_nn i_si i_mm i_sj i_r0 i_r1 x1 x2 x3 x4 x5 x6 ht4 ht6 ho1
  have b1 := (MapKept.heap_alloc w (.cells #[.int .i64 nn, .int .i64 si] 23)).1
  have k1 := kp_alloc w (.cells #[.int .i64 nn, .int .i64 si] 23)
  have b2 := (MapKept.heap_alloc (w.alloc (.cells #[.int .i64 nn, .int .i64 si] 23)) (.cells #[.int .i64 mm, .int .i64 sj] 23)).1
  have k2 := kp_alloc (w.alloc (.cells #[.int .i64 nn, .int .i64 si] 23)) (.cells #[.int .i64 mm, .int .i64 sj] 23)
  have b3 := (MapKept.heap_alloc ((w.alloc (.cells #[.int .i64 nn, .int .i64 si] 23)).alloc (.cells #[.int .i64 mm, .int .i64 sj] 23)) (.cells #[.int .i64 r0, .int .i64 r1] 52)).1
  have k3 := kp_alloc ((w.alloc (.cells #[.int .i64 nn, .int .i64 si] 23)).alloc (.cells #[.int .i64 mm, .int .i64 sj] 23)) (.cells #[.int .i64 r0, .int .i64 r1] 52)
  have b1 := kp_row (Kp.trans k2 k3) b1
  have b2 := kp_row k3 b2
  have KK := Lib.hid (Kp.trans k1 (Kp.trans k2 k3))
  rw [show (w.alloc (.cells #[.int .i64 nn, .int .i64 si] 23)).heap.size = w.heap.size + 1 by simp] at b2
  rw [show ((w.alloc (.cells #[.int .i64 nn, .int .i64 si] 23)).alloc (.cells #[.int .i64 mm, .int .i64 sj] 23)).heap.size = w.heap.size + 1 + 1 by simp] at b3
  have B1 := Lib.hid b1
  have B2 := Lib.hid b2
  have B3 := Lib.hid b3
  clear b1 b2 b3 k1 k2 k3
  go_enter Tryd.func6, Tryd.ntmps6
  go_wp2_with (go_at_call 7; (with_reducible refine (HAL.out _ KK.out).mono ?_); rintro e w1 ⟨rfl, hk⟩; have b1 := kp_row hk B1.out; have B1 := Lib.hid b1; have b2 := kp_row hk B2.out; have B2 := Lib.hid b2; have b3 := kp_row hk B3.out; have B3 := Lib.hid b3; clear b1 b2 b3; obtain ⟨ca, cb⟩ := cell_two B1.out; obtain ⟨cc, cd⟩ := cell_two B2.out; obtain ⟨ce, cf⟩ := cell_two B3.out; have KK := Lib.hid (Kp.trans KK.out hk); clear hk)
  go_wp2_with (first | (go_at_call 11; (with_reducible refine (H1.out _ KK.out).mono ?_); rintro e wk ⟨rfl, hk⟩; clear ca cb cc cd ce cf; have b1 := kp_row hk B1.out; have B1 := Lib.hid b1; have b2 := kp_row hk B2.out; have B2 := Lib.hid b2; have b3 := kp_row hk B3.out; have B3 := Lib.hid b3; clear b1 b2 b3; obtain ⟨ca, cb⟩ := cell_two B1.out; obtain ⟨cc, cd⟩ := cell_two B2.out; obtain ⟨ce, cf⟩ := cell_two B3.out; have KK := Lib.hid (Kp.trans KK.out hk); clear hk) | (go_at_call 11; (with_reducible refine (H2.out _ KK.out).mono ?_); rintro e wk ⟨rfl, hk⟩; clear ca cb cc cd ce cf; have b1 := kp_row hk B1.out; have B1 := Lib.hid b1; have b2 := kp_row hk B2.out; have B2 := Lib.hid b2; have b3 := kp_row hk B3.out; have B3 := Lib.hid b3; clear b1 b2 b3; obtain ⟨ca, cb⟩ := cell_two B1.out; obtain ⟨cc, cd⟩ := cell_two B2.out; obtain ⟨ce, cf⟩ := cell_two B3.out; have KK := Lib.hid (Kp.trans KK.out hk); clear hk) | (go_at_call 12; (with_reducible refine (H3.out _ KK.out).mono ?_); rintro e wk ⟨rfl, hk⟩; clear ca cb cc cd ce cf; have b1 := kp_row hk B1.out; have B1 := Lib.hid b1; have b2 := kp_row hk B2.out; have B2 := Lib.hid b2; have b3 := kp_row hk B3.out; have B3 := Lib.hid b3; clear b1 b2 b3; obtain ⟨ca, cb⟩ := cell_two B1.out; obtain ⟨cc, cd⟩ := cell_two B2.out; obtain ⟨ce, cf⟩ := cell_two B3.out; have KK := Lib.hid (Kp.trans KK.out hk); clear hk) | (go_at_call 12; (with_reducible refine (H4.out _ KK.out).mono ?_); rintro e wk ⟨rfl, hk⟩; clear ca cb cc cd ce cf; have b1 := kp_row hk B1.out; have B1 := Lib.hid b1; have b2 := kp_row hk B2.out; have B2 := Lib.hid b2; have b3 := kp_row hk B3.out; have B3 := Lib.hid b3; clear b1 b2 b3; obtain ⟨ca, cb⟩ := cell_two B1.out; obtain ⟨cc, cd⟩ := cell_two B2.out; obtain ⟨ce, cf⟩ := cell_two B3.out; have KK := Lib.hid (Kp.trans KK.out hk); clear hk) | (go_at_call 10; (with_reducible refine (H5.out _ KK.out).mono ?_); rintro e wk ⟨rfl, hk⟩; clear ca cb cc cd ce cf; have b1 := kp_row hk B1.out; have B1 := Lib.hid b1; have b2 := kp_row hk B2.out; have B2 := Lib.hid b2; have b3 := kp_row hk B3.out; have B3 := Lib.hid b3; clear b1 b2 b3; obtain ⟨ca, cb⟩ := cell_two B1.out; obtain ⟨cc, cd⟩ := cell_two B2.out; obtain ⟨ce, cf⟩ := cell_two B3.out; have KK := Lib.hid (Kp.trans KK.out hk); clear hk) | (go_at_call 10; (with_reducible refine (H6.out _ KK.out).mono ?_); rintro e wk ⟨rfl, hk⟩; clear ca cb cc cd ce cf; have b1 := kp_row hk B1.out; have B1 := Lib.hid b1; have b2 := kp_row hk B2.out; have B2 := Lib.hid b2; have b3 := kp_row hk B3.out; have B3 := Lib.hid b3; clear b1 b2 b3; obtain ⟨ca, cb⟩ := cell_two B1.out; obtain ⟨cc, cd⟩ := cell_two B2.out; obtain ⟨ce, cf⟩ := cell_two B3.out; have KK := Lib.hid (Kp.trans KK.out hk); clear hk))
  go_ret
  exact ⟨by first | rfl | simp, KK.out⟩

set_option maxRecDepth 20000 in
set_option maxHeartbeats 2000000 in
theorem unl_pp_TxT (ads : List Addr) (nn si sj r0 : Int) (i_nn : I64 nn) (i_si : I64 si) (i_sj : I64 sj) (i_r0 : I64 r0) (w : World) (V : St ads w) (I : IdsC ads w) (x1 : regO nn si r0 = none) (x2 : regO nn sj r0 = none) (x3 : partO nn r0 = some (partT nn.toNat r0.toNat)) (x5 : actO nn si = none) (x6 : actO nn sj = none)  :
    Calls Tryd.prog 6 #[.agg #[.int .i64 nn, .int .i64 si], .agg #[.int .i64 nn, .int .i64 sj], .agg #[.int .i64 r0, .int .i64 r0]] w fun e w' => e = .returned (.bool true) ∧ Kp w w' := by
  have HAL := Lib.hid (fun w1 (hk : Kp w w1) => alive_any ads w1 (V.below hk) (I.kp hk))
  obtain ⟨o1, ho1⟩ := errI_some ads 1 (by decide)
  have H1 := fun w1 (hk : Kp w w1) => I.reg w1 hk nn si r0 i_nn i_si i_r0
  simp only [x1, textR, ho1] at H1
  have H2 := fun w1 (hk : Kp w w1) => I.reg w1 hk nn sj r0 i_nn i_sj i_r0
  simp only [x2, textR, ho1] at H2
  have H3 := fun w1 (hk : Kp w w1) => I.part w1 hk nn r0 i_nn i_r0
  simp only [x3, textR] at H3
  obtain ⟨t3, ht3⟩ : ∃ x, strOfNums (partT nn.toNat r0.toNat) = x := ⟨_, rfl⟩
  simp only [ht3] at H3
  have H5 := fun w1 (hk : Kp w w1) => I.act w1 hk nn si i_nn i_si
  simp only [x5, textR, ho1] at H5
  have H6 := fun w1 (hk : Kp w w1) => I.act w1 hk nn sj i_nn i_sj
  simp only [x6, textR, ho1] at H6
  have q3 : (t3.toList == t3.toList) = true := by simp
  have H1 := Lib.hid H1
  have H2 := Lib.hid H2
  have H3 := Lib.hid H3
  have H5 := Lib.hid H5
  have H6 := Lib.hid H6
  clear V I i_nn i_si i_sj i_r0 x1 x2 x3 x5 x6 ht3 ho1
  have b1 := (MapKept.heap_alloc w (.cells #[.int .i64 nn, .int .i64 si] 23)).1
  have k1 := kp_alloc w (.cells #[.int .i64 nn, .int .i64 si] 23)
  have b2 := (MapKept.heap_alloc (w.alloc (.cells #[.int .i64 nn, .int .i64 si] 23)) (.cells #[.int .i64 nn, .int .i64 sj] 23)).1
  have k2 := kp_alloc (w.alloc (.cells #[.int .i64 nn, .int .i64 si] 23)) (.cells #[.int .i64 nn, .int .i64 sj] 23)
  have b3 := (MapKept.heap_alloc ((w.alloc (.cells #[.int .i64 nn, .int .i64 si] 23)).alloc (.cells #[.int .i64 nn, .int .i64 sj] 23)) (.cells #[.int .i64 r0, .int .i64 r0] 52)).1
  have k3 := kp_alloc ((w.alloc (.cells #[.int .i64 nn, .int .i64 si] 23)).alloc (.cells #[.int .i64 nn, .int .i64 sj] 23)) (.cells #[.int .i64 r0, .int .i64 r0] 52)
  have b1 := kp_row (Kp.trans k2 k3) b1
  have b2 := kp_row k3 b2
  have KK := Lib.hid (Kp.trans k1 (Kp.trans k2 k3))
  rw [show (w.alloc (.cells #[.int .i64 nn, .int .i64 si] 23)).heap.size = w.heap.size + 1 by simp] at b2
  rw [show ((w.alloc (.cells #[.int .i64 nn, .int .i64 si] 23)).alloc (.cells #[.int .i64 nn, .int .i64 sj] 23)).heap.size = w.heap.size + 1 + 1 by simp] at b3
  have B1 := Lib.hid b1
  have B2 := Lib.hid b2
  have B3 := Lib.hid b3
  clear b1 b2 b3 k1 k2 k3
  go_enter Tryd.func6, Tryd.ntmps6
  go_wp2_with (go_at_call 7; (with_reducible refine (HAL.out _ KK.out).mono ?_); rintro e w1 ⟨rfl, hk⟩; have b1 := kp_row hk B1.out; have B1 := Lib.hid b1; have b2 := kp_row hk B2.out; have B2 := Lib.hid b2; have b3 := kp_row hk B3.out; have B3 := Lib.hid b3; clear b1 b2 b3; obtain ⟨ca, cb⟩ := cell_two B1.out; obtain ⟨cc, cd⟩ := cell_two B2.out; obtain ⟨ce, cf⟩ := cell_two B3.out; have KK := Lib.hid (Kp.trans KK.out hk); clear hk)
  go_wp2_with (first | (go_at_call 11; (with_reducible refine (H1.out _ KK.out).mono ?_); rintro e wk ⟨rfl, hk⟩; clear ca cb cc cd ce cf; have b1 := kp_row hk B1.out; have B1 := Lib.hid b1; have b2 := kp_row hk B2.out; have B2 := Lib.hid b2; have b3 := kp_row hk B3.out; have B3 := Lib.hid b3; clear b1 b2 b3; obtain ⟨ca, cb⟩ := cell_two B1.out; obtain ⟨cc, cd⟩ := cell_two B2.out; obtain ⟨ce, cf⟩ := cell_two B3.out; have KK := Lib.hid (Kp.trans KK.out hk); clear hk) | (go_at_call 11; (with_reducible refine (H2.out _ KK.out).mono ?_); rintro e wk ⟨rfl, hk⟩; clear ca cb cc cd ce cf; have b1 := kp_row hk B1.out; have B1 := Lib.hid b1; have b2 := kp_row hk B2.out; have B2 := Lib.hid b2; have b3 := kp_row hk B3.out; have B3 := Lib.hid b3; clear b1 b2 b3; obtain ⟨ca, cb⟩ := cell_two B1.out; obtain ⟨cc, cd⟩ := cell_two B2.out; obtain ⟨ce, cf⟩ := cell_two B3.out; have KK := Lib.hid (Kp.trans KK.out hk); clear hk) | (go_at_call 12; (with_reducible refine (H3.out _ KK.out).mono ?_); rintro e wk ⟨rfl, hk⟩; clear ca cb cc cd ce cf; have b1 := kp_row hk B1.out; have B1 := Lib.hid b1; have b2 := kp_row hk B2.out; have B2 := Lib.hid b2; have b3 := kp_row hk B3.out; have B3 := Lib.hid b3; clear b1 b2 b3; obtain ⟨ca, cb⟩ := cell_two B1.out; obtain ⟨cc, cd⟩ := cell_two B2.out; obtain ⟨ce, cf⟩ := cell_two B3.out; have KK := Lib.hid (Kp.trans KK.out hk); clear hk) | (go_at_call 10; (with_reducible refine (H5.out _ KK.out).mono ?_); rintro e wk ⟨rfl, hk⟩; clear ca cb cc cd ce cf; have b1 := kp_row hk B1.out; have B1 := Lib.hid b1; have b2 := kp_row hk B2.out; have B2 := Lib.hid b2; have b3 := kp_row hk B3.out; have B3 := Lib.hid b3; clear b1 b2 b3; obtain ⟨ca, cb⟩ := cell_two B1.out; obtain ⟨cc, cd⟩ := cell_two B2.out; obtain ⟨ce, cf⟩ := cell_two B3.out; have KK := Lib.hid (Kp.trans KK.out hk); clear hk) | (go_at_call 10; (with_reducible refine (H6.out _ KK.out).mono ?_); rintro e wk ⟨rfl, hk⟩; clear ca cb cc cd ce cf; have b1 := kp_row hk B1.out; have B1 := Lib.hid b1; have b2 := kp_row hk B2.out; have B2 := Lib.hid b2; have b3 := kp_row hk B3.out; have B3 := Lib.hid b3; clear b1 b2 b3; obtain ⟨ca, cb⟩ := cell_two B1.out; obtain ⟨cc, cd⟩ := cell_two B2.out; obtain ⟨ce, cf⟩ := cell_two B3.out; have KK := Lib.hid (Kp.trans KK.out hk); clear hk))
  go_ret
  exact ⟨by first | rfl | simp, KK.out⟩

set_option maxRecDepth 20000 in
set_option maxHeartbeats 2000000 in
theorem unl_pa_x (ads : List Addr) (nn si mm sj r0 r1 : Int) (i_nn : I64 nn) (i_si : I64 si) (i_mm : I64 mm) (i_sj : I64 sj) (i_r0 : I64 r0) (i_r1 : I64 r1) (w : World) (V : St ads w) (I : IdsC ads w) (x1 : regO nn si r0 = none) (x2 : regO mm sj r1 = none) (x3 : partO nn r0 = some (partT nn.toNat r0.toNat)) (x4 : partO mm r1 = none) (x5 : actO nn si = none) (x6 : actO mm sj = some (actT mm.toNat sj.toNat))  :
    Calls Tryd.prog 6 #[.agg #[.int .i64 nn, .int .i64 si], .agg #[.int .i64 mm, .int .i64 sj], .agg #[.int .i64 r0, .int .i64 r1]] w fun e w' => e = .returned (.bool true) ∧ Kp w w' := by
  have HAL := Lib.hid (fun w1 (hk : Kp w w1) => alive_any ads w1 (V.below hk) (I.kp hk))
  obtain ⟨o1, ho1⟩ := errI_some ads 1 (by decide)
  have H1 := fun w1 (hk : Kp w w1) => I.reg w1 hk nn si r0 i_nn i_si i_r0
  simp only [x1, textR, ho1] at H1
  have H2 := fun w1 (hk : Kp w w1) => I.reg w1 hk mm sj r1 i_mm i_sj i_r1
  simp only [x2, textR, ho1] at H2
  have H3 := fun w1 (hk : Kp w w1) => I.part w1 hk nn r0 i_nn i_r0
  simp only [x3, textR] at H3
  obtain ⟨t3, ht3⟩ : ∃ x, strOfNums (partT nn.toNat r0.toNat) = x := ⟨_, rfl⟩
  simp only [ht3] at H3
  have H4 := fun w1 (hk : Kp w w1) => I.part w1 hk mm r1 i_mm i_r1
  simp only [x4, textR, ho1] at H4
  have H5 := fun w1 (hk : Kp w w1) => I.act w1 hk nn si i_nn i_si
  simp only [x5, textR, ho1] at H5
  have H6 := fun w1 (hk : Kp w w1) => I.act w1 hk mm sj i_mm i_sj
  simp only [x6, textR] at H6
  obtain ⟨t6, ht6⟩ : ∃ x, strOfNums (actT mm.toNat sj.toNat) = x := ⟨_, rfl⟩
  simp only [ht6] at H6
  have H1 := Lib.hid H1
  have H2 := Lib.hid H2
  have H3 := Lib.hid H3
  have H4 := Lib.hid H4
  have H5 := Lib.hid H5
  have H6 := Lib.hid H6
  clear V I i_nn i_si i_mm i_sj i_r0 i_r1 x1 x2 x3 x4 x5 x6 ht3 ht6 ho1
  have b1 := (MapKept.heap_alloc w (.cells #[.int .i64 nn, .int .i64 si] 23)).1
  have k1 := kp_alloc w (.cells #[.int .i64 nn, .int .i64 si] 23)
  have b2 := (MapKept.heap_alloc (w.alloc (.cells #[.int .i64 nn, .int .i64 si] 23)) (.cells #[.int .i64 mm, .int .i64 sj] 23)).1
  have k2 := kp_alloc (w.alloc (.cells #[.int .i64 nn, .int .i64 si] 23)) (.cells #[.int .i64 mm, .int .i64 sj] 23)
  have b3 := (MapKept.heap_alloc ((w.alloc (.cells #[.int .i64 nn, .int .i64 si] 23)).alloc (.cells #[.int .i64 mm, .int .i64 sj] 23)) (.cells #[.int .i64 r0, .int .i64 r1] 52)).1
  have k3 := kp_alloc ((w.alloc (.cells #[.int .i64 nn, .int .i64 si] 23)).alloc (.cells #[.int .i64 mm, .int .i64 sj] 23)) (.cells #[.int .i64 r0, .int .i64 r1] 52)
  have b1 := kp_row (Kp.trans k2 k3) b1
  have b2 := kp_row k3 b2
  have KK := Lib.hid (Kp.trans k1 (Kp.trans k2 k3))
  rw [show (w.alloc (.cells #[.int .i64 nn, .int .i64 si] 23)).heap.size = w.heap.size + 1 by simp] at b2
  rw [show ((w.alloc (.cells #[.int .i64 nn, .int .i64 si] 23)).alloc (.cells #[.int .i64 mm, .int .i64 sj] 23)).heap.size = w.heap.size + 1 + 1 by simp] at b3
  have B1 := Lib.hid b1
  have B2 := Lib.hid b2
  have B3 := Lib.hid b3
  clear b1 b2 b3 k1 k2 k3
  go_enter Tryd.func6, Tryd.ntmps6
  go_wp2_with (go_at_call 7; (with_reducible refine (HAL.out _ KK.out).mono ?_); rintro e w1 ⟨rfl, hk⟩; have b1 := kp_row hk B1.out; have B1 := Lib.hid b1; have b2 := kp_row hk B2.out; have B2 := Lib.hid b2; have b3 := kp_row hk B3.out; have B3 := Lib.hid b3; clear b1 b2 b3; obtain ⟨ca, cb⟩ := cell_two B1.out; obtain ⟨cc, cd⟩ := cell_two B2.out; obtain ⟨ce, cf⟩ := cell_two B3.out; have KK := Lib.hid (Kp.trans KK.out hk); clear hk)
  go_wp2_with (first | (go_at_call 11; (with_reducible refine (H1.out _ KK.out).mono ?_); rintro e wk ⟨rfl, hk⟩; clear ca cb cc cd ce cf; have b1 := kp_row hk B1.out; have B1 := Lib.hid b1; have b2 := kp_row hk B2.out; have B2 := Lib.hid b2; have b3 := kp_row hk B3.out; have B3 := Lib.hid b3; clear b1 b2 b3; obtain ⟨ca, cb⟩ := cell_two B1.out; obtain ⟨cc, cd⟩ := cell_two B2.out; obtain ⟨ce, cf⟩ := cell_two B3.out; have KK := Lib.hid (Kp.trans KK.out hk); clear hk) | (go_at_call 11; (with_reducible refine (H2.out _ KK.out).mono ?_); rintro e wk ⟨rfl, hk⟩; clear ca cb cc cd ce cf; have b1 := kp_row hk B1.out; have B1 := Lib.hid b1; have b2 := kp_row hk B2.out; have B2 := Lib.hid b2; have b3 := kp_row hk B3.out; have B3 := Lib.hid b3; clear b1 b2 b3; obtain ⟨ca, cb⟩ := cell_two B1.out; obtain ⟨cc, cd⟩ := cell_two B2.out; obtain ⟨ce, cf⟩ := cell_two B3.out; have KK := Lib.hid (Kp.trans KK.out hk); clear hk) | (go_at_call 12; (with_reducible refine (H3.out _ KK.out).mono ?_); rintro e wk ⟨rfl, hk⟩; clear ca cb cc cd ce cf; have b1 := kp_row hk B1.out; have B1 := Lib.hid b1; have b2 := kp_row hk B2.out; have B2 := Lib.hid b2; have b3 := kp_row hk B3.out; have B3 := Lib.hid b3; clear b1 b2 b3; obtain ⟨ca, cb⟩ := cell_two B1.out; obtain ⟨cc, cd⟩ := cell_two B2.out; obtain ⟨ce, cf⟩ := cell_two B3.out; have KK := Lib.hid (Kp.trans KK.out hk); clear hk) | (go_at_call 12; (with_reducible refine (H4.out _ KK.out).mono ?_); rintro e wk ⟨rfl, hk⟩; clear ca cb cc cd ce cf; have b1 := kp_row hk B1.out; have B1 := Lib.hid b1; have b2 := kp_row hk B2.out; have B2 := Lib.hid b2; have b3 := kp_row hk B3.out; have B3 := Lib.hid b3; clear b1 b2 b3; obtain ⟨ca, cb⟩ := cell_two B1.out; obtain ⟨cc, cd⟩ := cell_two B2.out; obtain ⟨ce, cf⟩ := cell_two B3.out; have KK := Lib.hid (Kp.trans KK.out hk); clear hk) | (go_at_call 10; (with_reducible refine (H5.out _ KK.out).mono ?_); rintro e wk ⟨rfl, hk⟩; clear ca cb cc cd ce cf; have b1 := kp_row hk B1.out; have B1 := Lib.hid b1; have b2 := kp_row hk B2.out; have B2 := Lib.hid b2; have b3 := kp_row hk B3.out; have B3 := Lib.hid b3; clear b1 b2 b3; obtain ⟨ca, cb⟩ := cell_two B1.out; obtain ⟨cc, cd⟩ := cell_two B2.out; obtain ⟨ce, cf⟩ := cell_two B3.out; have KK := Lib.hid (Kp.trans KK.out hk); clear hk) | (go_at_call 10; (with_reducible refine (H6.out _ KK.out).mono ?_); rintro e wk ⟨rfl, hk⟩; clear ca cb cc cd ce cf; have b1 := kp_row hk B1.out; have B1 := Lib.hid b1; have b2 := kp_row hk B2.out; have B2 := Lib.hid b2; have b3 := kp_row hk B3.out; have B3 := Lib.hid b3; clear b1 b2 b3; obtain ⟨ca, cb⟩ := cell_two B1.out; obtain ⟨cc, cd⟩ := cell_two B2.out; obtain ⟨ce, cf⟩ := cell_two B3.out; have KK := Lib.hid (Kp.trans KK.out hk); clear hk))
  go_ret
  exact ⟨by first | rfl | simp, KK.out⟩

set_option maxRecDepth 20000 in
set_option maxHeartbeats 2000000 in
theorem unl_pb_Fxx (ads : List Addr) (nn si mm sj r0 r1 : Int) (i_nn : I64 nn) (i_si : I64 si) (i_mm : I64 mm) (i_sj : I64 sj) (i_r0 : I64 r0) (i_r1 : I64 r1) (w : World) (V : St ads w) (I : IdsC ads w) (x1 : regO nn si r0 = none) (x2 : regO mm sj r1 = none) (x3 : partO nn r0 = some (partT nn.toNat r0.toNat)) (x4 : partO mm r1 = some (partT mm.toNat r1.toNat)) (x5 : actO nn si = none) (x6 : actO mm sj = some (actT mm.toNat sj.toNat)) (d1 : ¬ nn = mm) :
    Calls Tryd.prog 6 #[.agg #[.int .i64 nn, .int .i64 si], .agg #[.int .i64 mm, .int .i64 sj], .agg #[.int .i64 r0, .int .i64 r1]] w fun e w' => e = .returned (.bool true) ∧ Kp w w' := by
  have HAL := Lib.hid (fun w1 (hk : Kp w w1) => alive_any ads w1 (V.below hk) (I.kp hk))
  obtain ⟨o1, ho1⟩ := errI_some ads 1 (by decide)
  have H1 := fun w1 (hk : Kp w w1) => I.reg w1 hk nn si r0 i_nn i_si i_r0
  simp only [x1, textR, ho1] at H1
  have H2 := fun w1 (hk : Kp w w1) => I.reg w1 hk mm sj r1 i_mm i_sj i_r1
  simp only [x2, textR, ho1] at H2
  have H3 := fun w1 (hk : Kp w w1) => I.part w1 hk nn r0 i_nn i_r0
  simp only [x3, textR] at H3
  obtain ⟨t3, ht3⟩ : ∃ x, strOfNums (partT nn.toNat r0.toNat) = x := ⟨_, rfl⟩
  simp only [ht3] at H3
  have H4 := fun w1 (hk : Kp w w1) => I.part w1 hk mm r1 i_mm i_r1
  simp only [x4, textR] at H4
  obtain ⟨t4, ht4⟩ : ∃ x, strOfNums (partT mm.toNat r1.toNat) = x := ⟨_, rfl⟩
  simp only [ht4] at H4
  have H5 := fun w1 (hk : Kp w w1) => I.act w1 hk nn si i_nn i_si
  simp only [x5, textR, ho1] at H5
  have H6 := fun w1 (hk : Kp w w1) => I.act w1 hk mm sj i_mm i_sj
  simp only [x6, textR] at H6
  obtain ⟨t6, ht6⟩ : ∃ x, strOfNums (actT mm.toNat sj.toNat) = x := ⟨_, rfl⟩
  simp only [ht6] at H6
  have q3 : (t3.toList == t4.toList) = false := by
    rw [← ht3, ← ht4]
    refine strs_no (fun h => ?_)
    have a := partO_some x3
    have b := partO_some x4
    have c := part_inj (by omega) (by omega) (by omega) (by omega) (str_inj (partT_in _ _) (partT_in _ _) h)
    omega
  have H1 := Lib.hid H1
  have H2 := Lib.hid H2
  have H3 := Lib.hid H3
  have H4 := Lib.hid H4
  have H5 := Lib.hid H5
  have H6 := Lib.hid H6
  clear V I i_nn i_si i_mm i_sj i_r0 i_r1 x1 x2 x3 x4 x5 x6 ht3 ht4 ht6 ho1
  have b1 := (MapKept.heap_alloc w (.cells #[.int .i64 nn, .int .i64 si] 23)).1
  have k1 := kp_alloc w (.cells #[.int .i64 nn, .int .i64 si] 23)
  have b2 := (MapKept.heap_alloc (w.alloc (.cells #[.int .i64 nn, .int .i64 si] 23)) (.cells #[.int .i64 mm, .int .i64 sj] 23)).1
  have k2 := kp_alloc (w.alloc (.cells #[.int .i64 nn, .int .i64 si] 23)) (.cells #[.int .i64 mm, .int .i64 sj] 23)
  have b3 := (MapKept.heap_alloc ((w.alloc (.cells #[.int .i64 nn, .int .i64 si] 23)).alloc (.cells #[.int .i64 mm, .int .i64 sj] 23)) (.cells #[.int .i64 r0, .int .i64 r1] 52)).1
  have k3 := kp_alloc ((w.alloc (.cells #[.int .i64 nn, .int .i64 si] 23)).alloc (.cells #[.int .i64 mm, .int .i64 sj] 23)) (.cells #[.int .i64 r0, .int .i64 r1] 52)
  have b1 := kp_row (Kp.trans k2 k3) b1
  have b2 := kp_row k3 b2
  have KK := Lib.hid (Kp.trans k1 (Kp.trans k2 k3))
  rw [show (w.alloc (.cells #[.int .i64 nn, .int .i64 si] 23)).heap.size = w.heap.size + 1 by simp] at b2
  rw [show ((w.alloc (.cells #[.int .i64 nn, .int .i64 si] 23)).alloc (.cells #[.int .i64 mm, .int .i64 sj] 23)).heap.size = w.heap.size + 1 + 1 by simp] at b3
  have B1 := Lib.hid b1
  have B2 := Lib.hid b2
  have B3 := Lib.hid b3
  clear b1 b2 b3 k1 k2 k3
  go_enter Tryd.func6, Tryd.ntmps6
  go_wp2_with (go_at_call 7; (with_reducible refine (HAL.out _ KK.out).mono ?_); rintro e w1 ⟨rfl, hk⟩; have b1 := kp_row hk B1.out; have B1 := Lib.hid b1; have b2 := kp_row hk B2.out; have B2 := Lib.hid b2; have b3 := kp_row hk B3.out; have B3 := Lib.hid b3; clear b1 b2 b3; obtain ⟨ca, cb⟩ := cell_two B1.out; obtain ⟨cc, cd⟩ := cell_two B2.out; obtain ⟨ce, cf⟩ := cell_two B3.out; have KK := Lib.hid (Kp.trans KK.out hk); clear hk)
  go_wp2_with (first | (go_at_call 11; (with_reducible refine (H1.out _ KK.out).mono ?_); rintro e wk ⟨rfl, hk⟩; clear ca cb cc cd ce cf; have b1 := kp_row hk B1.out; have B1 := Lib.hid b1; have b2 := kp_row hk B2.out; have B2 := Lib.hid b2; have b3 := kp_row hk B3.out; have B3 := Lib.hid b3; clear b1 b2 b3; obtain ⟨ca, cb⟩ := cell_two B1.out; obtain ⟨cc, cd⟩ := cell_two B2.out; obtain ⟨ce, cf⟩ := cell_two B3.out; have KK := Lib.hid (Kp.trans KK.out hk); clear hk) | (go_at_call 11; (with_reducible refine (H2.out _ KK.out).mono ?_); rintro e wk ⟨rfl, hk⟩; clear ca cb cc cd ce cf; have b1 := kp_row hk B1.out; have B1 := Lib.hid b1; have b2 := kp_row hk B2.out; have B2 := Lib.hid b2; have b3 := kp_row hk B3.out; have B3 := Lib.hid b3; clear b1 b2 b3; obtain ⟨ca, cb⟩ := cell_two B1.out; obtain ⟨cc, cd⟩ := cell_two B2.out; obtain ⟨ce, cf⟩ := cell_two B3.out; have KK := Lib.hid (Kp.trans KK.out hk); clear hk) | (go_at_call 12; (with_reducible refine (H3.out _ KK.out).mono ?_); rintro e wk ⟨rfl, hk⟩; clear ca cb cc cd ce cf; have b1 := kp_row hk B1.out; have B1 := Lib.hid b1; have b2 := kp_row hk B2.out; have B2 := Lib.hid b2; have b3 := kp_row hk B3.out; have B3 := Lib.hid b3; clear b1 b2 b3; obtain ⟨ca, cb⟩ := cell_two B1.out; obtain ⟨cc, cd⟩ := cell_two B2.out; obtain ⟨ce, cf⟩ := cell_two B3.out; have KK := Lib.hid (Kp.trans KK.out hk); clear hk) | (go_at_call 12; (with_reducible refine (H4.out _ KK.out).mono ?_); rintro e wk ⟨rfl, hk⟩; clear ca cb cc cd ce cf; have b1 := kp_row hk B1.out; have B1 := Lib.hid b1; have b2 := kp_row hk B2.out; have B2 := Lib.hid b2; have b3 := kp_row hk B3.out; have B3 := Lib.hid b3; clear b1 b2 b3; obtain ⟨ca, cb⟩ := cell_two B1.out; obtain ⟨cc, cd⟩ := cell_two B2.out; obtain ⟨ce, cf⟩ := cell_two B3.out; have KK := Lib.hid (Kp.trans KK.out hk); clear hk) | (go_at_call 10; (with_reducible refine (H5.out _ KK.out).mono ?_); rintro e wk ⟨rfl, hk⟩; clear ca cb cc cd ce cf; have b1 := kp_row hk B1.out; have B1 := Lib.hid b1; have b2 := kp_row hk B2.out; have B2 := Lib.hid b2; have b3 := kp_row hk B3.out; have B3 := Lib.hid b3; clear b1 b2 b3; obtain ⟨ca, cb⟩ := cell_two B1.out; obtain ⟨cc, cd⟩ := cell_two B2.out; obtain ⟨ce, cf⟩ := cell_two B3.out; have KK := Lib.hid (Kp.trans KK.out hk); clear hk) | (go_at_call 10; (with_reducible refine (H6.out _ KK.out).mono ?_); rintro e wk ⟨rfl, hk⟩; clear ca cb cc cd ce cf; have b1 := kp_row hk B1.out; have B1 := Lib.hid b1; have b2 := kp_row hk B2.out; have B2 := Lib.hid b2; have b3 := kp_row hk B3.out; have B3 := Lib.hid b3; clear b1 b2 b3; obtain ⟨ca, cb⟩ := cell_two B1.out; obtain ⟨cc, cd⟩ := cell_two B2.out; obtain ⟨ce, cf⟩ := cell_two B3.out; have KK := Lib.hid (Kp.trans KK.out hk); clear hk))
  go_ret
  exact ⟨by first | rfl | simp, KK.out⟩

set_option maxRecDepth 20000 in
set_option maxHeartbeats 2000000 in
theorem unl_pr_Fxx (ads : List Addr) (nn si mm sj r0 r1 : Int) (i_nn : I64 nn) (i_si : I64 si) (i_mm : I64 mm) (i_sj : I64 sj) (i_r0 : I64 r0) (i_r1 : I64 r1) (w : World) (V : St ads w) (I : IdsC ads w) (x1 : regO nn si r0 = none) (x2 : regO mm sj r1 = some (regT mm.toNat sj.toNat r1.toNat)) (x3 : partO nn r0 = some (partT nn.toNat r0.toNat)) (x4 : partO mm r1 = some (partT mm.toNat r1.toNat)) (x5 : actO nn si = none) (x6 : actO mm sj = some (actT mm.toNat sj.toNat)) (d1 : ¬ nn = mm) :
    Calls Tryd.prog 6 #[.agg #[.int .i64 nn, .int .i64 si], .agg #[.int .i64 mm, .int .i64 sj], .agg #[.int .i64 r0, .int .i64 r1]] w fun e w' => e = .returned (.bool true) ∧ Kp w w' := by
  have HAL := Lib.hid (fun w1 (hk : Kp w w1) => alive_any ads w1 (V.below hk) (I.kp hk))
  obtain ⟨o1, ho1⟩ := errI_some ads 1 (by decide)
  have H1 := fun w1 (hk : Kp w w1) => I.reg w1 hk nn si r0 i_nn i_si i_r0
  simp only [x1, textR, ho1] at H1
  have H2 := fun w1 (hk : Kp w w1) => I.reg w1 hk mm sj r1 i_mm i_sj i_r1
  simp only [x2, textR] at H2
  obtain ⟨t2, ht2⟩ : ∃ x, strOfNums (regT mm.toNat sj.toNat r1.toNat) = x := ⟨_, rfl⟩
  simp only [ht2] at H2
  have H3 := fun w1 (hk : Kp w w1) => I.part w1 hk nn r0 i_nn i_r0
  simp only [x3, textR] at H3
  obtain ⟨t3, ht3⟩ : ∃ x, strOfNums (partT nn.toNat r0.toNat) = x := ⟨_, rfl⟩
  simp only [ht3] at H3
  have H4 := fun w1 (hk : Kp w w1) => I.part w1 hk mm r1 i_mm i_r1
  simp only [x4, textR] at H4
  obtain ⟨t4, ht4⟩ : ∃ x, strOfNums (partT mm.toNat r1.toNat) = x := ⟨_, rfl⟩
  simp only [ht4] at H4
  have H5 := fun w1 (hk : Kp w w1) => I.act w1 hk nn si i_nn i_si
  simp only [x5, textR, ho1] at H5
  have H6 := fun w1 (hk : Kp w w1) => I.act w1 hk mm sj i_mm i_sj
  simp only [x6, textR] at H6
  obtain ⟨t6, ht6⟩ : ∃ x, strOfNums (actT mm.toNat sj.toNat) = x := ⟨_, rfl⟩
  simp only [ht6] at H6
  have q3 : (t3.toList == t4.toList) = false := by
    rw [← ht3, ← ht4]
    refine strs_no (fun h => ?_)
    have a := partO_some x3
    have b := partO_some x4
    have c := part_inj (by omega) (by omega) (by omega) (by omega) (str_inj (partT_in _ _) (partT_in _ _) h)
    omega
  have H1 := Lib.hid H1
  have H2 := Lib.hid H2
  have H3 := Lib.hid H3
  have H4 := Lib.hid H4
  have H5 := Lib.hid H5
  have H6 := Lib.hid H6
  clear V I i_nn i_si i_mm i_sj i_r0 i_r1 x1 x2 x3 x4 x5 x6 ht2 ht3 ht4 ht6 ho1
  have b1 := (MapKept.heap_alloc w (.cells #[.int .i64 nn, .int .i64 si] 23)).1
  have k1 := kp_alloc w (.cells #[.int .i64 nn, .int .i64 si] 23)
  have b2 := (MapKept.heap_alloc (w.alloc (.cells #[.int .i64 nn, .int .i64 si] 23)) (.cells #[.int .i64 mm, .int .i64 sj] 23)).1
  have k2 := kp_alloc (w.alloc (.cells #[.int .i64 nn, .int .i64 si] 23)) (.cells #[.int .i64 mm, .int .i64 sj] 23)
  have b3 := (MapKept.heap_alloc ((w.alloc (.cells #[.int .i64 nn, .int .i64 si] 23)).alloc (.cells #[.int .i64 mm, .int .i64 sj] 23)) (.cells #[.int .i64 r0, .int .i64 r1] 52)).1
  have k3 := kp_alloc ((w.alloc (.cells #[.int .i64 nn, .int .i64 si] 23)).alloc (.cells #[.int .i64 mm, .int .i64 sj] 23)) (.cells #[.int .i64 r0, .int .i64 r1] 52)
  have b1 := kp_row (Kp.trans k2 k3) b1
  have b2 := kp_row k3 b2
  have KK := Lib.hid (Kp.trans k1 (Kp.trans k2 k3))
  rw [show (w.alloc (.cells #[.int .i64 nn, .int .i64 si] 23)).heap.size = w.heap.size + 1 by simp] at b2
  rw [show ((w.alloc (.cells #[.int .i64 nn, .int .i64 si] 23)).alloc (.cells #[.int .i64 mm, .int .i64 sj] 23)).heap.size = w.heap.size + 1 + 1 by simp] at b3
  have B1 := Lib.hid b1
  have B2 := Lib.hid b2
  have B3 := Lib.hid b3
  clear b1 b2 b3 k1 k2 k3
  go_enter Tryd.func6, Tryd.ntmps6
  go_wp2_with (go_at_call 7; (with_reducible refine (HAL.out _ KK.out).mono ?_); rintro e w1 ⟨rfl, hk⟩; have b1 := kp_row hk B1.out; have B1 := Lib.hid b1; have b2 := kp_row hk B2.out; have B2 := Lib.hid b2; have b3 := kp_row hk B3.out; have B3 := Lib.hid b3; clear b1 b2 b3; obtain ⟨ca, cb⟩ := cell_two B1.out; obtain ⟨cc, cd⟩ := cell_two B2.out; obtain ⟨ce, cf⟩ := cell_two B3.out; have KK := Lib.hid (Kp.trans KK.out hk); clear hk)
  go_wp2_with (first | (go_at_call 11; (with_reducible refine (H1.out _ KK.out).mono ?_); rintro e wk ⟨rfl, hk⟩; clear ca cb cc cd ce cf; have b1 := kp_row hk B1.out; have B1 := Lib.hid b1; have b2 := kp_row hk B2.out; have B2 := Lib.hid b2; have b3 := kp_row hk B3.out; have B3 := Lib.hid b3; clear b1 b2 b3; obtain ⟨ca, cb⟩ := cell_two B1.out; obtain ⟨cc, cd⟩ := cell_two B2.out; obtain ⟨ce, cf⟩ := cell_two B3.out; have KK := Lib.hid (Kp.trans KK.out hk); clear hk) | (go_at_call 11; (with_reducible refine (H2.out _ KK.out).mono ?_); rintro e wk ⟨rfl, hk⟩; clear ca cb cc cd ce cf; have b1 := kp_row hk B1.out; have B1 := Lib.hid b1; have b2 := kp_row hk B2.out; have B2 := Lib.hid b2; have b3 := kp_row hk B3.out; have B3 := Lib.hid b3; clear b1 b2 b3; obtain ⟨ca, cb⟩ := cell_two B1.out; obtain ⟨cc, cd⟩ := cell_two B2.out; obtain ⟨ce, cf⟩ := cell_two B3.out; have KK := Lib.hid (Kp.trans KK.out hk); clear hk) | (go_at_call 12; (with_reducible refine (H3.out _ KK.out).mono ?_); rintro e wk ⟨rfl, hk⟩; clear ca cb cc cd ce cf; have b1 := kp_row hk B1.out; have B1 := Lib.hid b1; have b2 := kp_row hk B2.out; have B2 := Lib.hid b2; have b3 := kp_row hk B3.out; have B3 := Lib.hid b3; clear b1 b2 b3; obtain ⟨ca, cb⟩ := cell_two B1.out; obtain ⟨cc, cd⟩ := cell_two B2.out; obtain ⟨ce, cf⟩ := cell_two B3.out; have KK := Lib.hid (Kp.trans KK.out hk); clear hk) | (go_at_call 12; (with_reducible refine (H4.out _ KK.out).mono ?_); rintro e wk ⟨rfl, hk⟩; clear ca cb cc cd ce cf; have b1 := kp_row hk B1.out; have B1 := Lib.hid b1; have b2 := kp_row hk B2.out; have B2 := Lib.hid b2; have b3 := kp_row hk B3.out; have B3 := Lib.hid b3; clear b1 b2 b3; obtain ⟨ca, cb⟩ := cell_two B1.out; obtain ⟨cc, cd⟩ := cell_two B2.out; obtain ⟨ce, cf⟩ := cell_two B3.out; have KK := Lib.hid (Kp.trans KK.out hk); clear hk) | (go_at_call 10; (with_reducible refine (H5.out _ KK.out).mono ?_); rintro e wk ⟨rfl, hk⟩; clear ca cb cc cd ce cf; have b1 := kp_row hk B1.out; have B1 := Lib.hid b1; have b2 := kp_row hk B2.out; have B2 := Lib.hid b2; have b3 := kp_row hk B3.out; have B3 := Lib.hid b3; clear b1 b2 b3; obtain ⟨ca, cb⟩ := cell_two B1.out; obtain ⟨cc, cd⟩ := cell_two B2.out; obtain ⟨ce, cf⟩ := cell_two B3.out; have KK := Lib.hid (Kp.trans KK.out hk); clear hk) | (go_at_call 10; (with_reducible refine (H6.out _ KK.out).mono ?_); rintro e wk ⟨rfl, hk⟩; clear ca cb cc cd ce cf; have b1 := kp_row hk B1.out; have B1 := Lib.hid b1; have b2 := kp_row hk B2.out; have B2 := Lib.hid b2; have b3 := kp_row hk B3.out; have B3 := Lib.hid b3; clear b1 b2 b3; obtain ⟨ca, cb⟩ := cell_two B1.out; obtain ⟨cc, cd⟩ := cell_two B2.out; obtain ⟨ce, cf⟩ := cell_two B3.out; have KK := Lib.hid (Kp.trans KK.out hk); clear hk))
  go_ret
  exact ⟨by first | rfl | simp, KK.out⟩

set_option maxRecDepth 20000 in
set_option maxHeartbeats 2000000 in
theorem unl_aa_TTx (ads : List Addr) (nn si r0 r1 : Int) (i_nn : I64 nn) (i_si : I64 si) (i_r0 : I64 r0) (i_r1 : I64 r1) (w : World) (V : St ads w) (I : IdsC ads w) (x1 : regO nn si r0 = none) (x2 : regO nn si r1 = none) (x3 : partO nn r0 = none) (x4 : partO nn r1 = none) (x5 : actO nn si = some (actT nn.toNat si.toNat))  :
    Calls Tryd.prog 6 #[.agg #[.int .i64 nn, .int .i64 si], .agg #[.int .i64 nn, .int .i64 si], .agg #[.int .i64 r0, .int .i64 r1]] w fun e w' => e = .returned (.bool true) ∧ Kp w w' := by
  have HAL := Lib.hid (fun w1 (hk : Kp w w1) => alive_any ads w1 (V.below hk) (I.kp hk))
  obtain ⟨o1, ho1⟩ := errI_some ads 1 (by decide)
  have H1 := fun w1 (hk : Kp w w1) => I.reg w1 hk nn si r0 i_nn i_si i_r0
  simp only [x1, textR, ho1] at H1
  have H2 := fun w1 (hk : Kp w w1) => I.reg w1 hk nn si r1 i_nn i_si i_r1
  simp only [x2, textR, ho1] at H2
  have H3 := fun w1 (hk : Kp w w1) => I.part w1 hk nn r0 i_nn i_r0
  simp only [x3, textR, ho1] at H3
  have H4 := fun w1 (hk : Kp w w1) => I.part w1 hk nn r1 i_nn i_r1
  simp only [x4, textR, ho1] at H4
  have H5 := fun w1 (hk : Kp w w1) => I.act w1 hk nn si i_nn i_si
  simp only [x5, textR] at H5
  obtain ⟨t5, ht5⟩ : ∃ x, strOfNums (actT nn.toNat si.toNat) = x := ⟨_, rfl⟩
  simp only [ht5] at H5
  have q5 : (t5.toList == t5.toList) = true := by simp
  have H1 := Lib.hid H1
  have H2 := Lib.hid H2
  have H3 := Lib.hid H3
  have H4 := Lib.hid H4
  have H5 := Lib.hid H5
  clear V I i_nn i_si i_r0 i_r1 x1 x2 x3 x4 x5 ht5 ho1
  have b1 := (MapKept.heap_alloc w (.cells #[.int .i64 nn, .int .i64 si] 23)).1
  have k1 := kp_alloc w (.cells #[.int .i64 nn, .int .i64 si] 23)
  have b2 := (MapKept.heap_alloc (w.alloc (.cells #[.int .i64 nn, .int .i64 si] 23)) (.cells #[.int .i64 nn, .int .i64 si] 23)).1
  have k2 := kp_alloc (w.alloc (.cells #[.int .i64 nn, .int .i64 si] 23)) (.cells #[.int .i64 nn, .int .i64 si] 23)
  have b3 := (MapKept.heap_alloc ((w.alloc (.cells #[.int .i64 nn, .int .i64 si] 23)).alloc (.cells #[.int .i64 nn, .int .i64 si] 23)) (.cells #[.int .i64 r0, .int .i64 r1] 52)).1
  have k3 := kp_alloc ((w.alloc (.cells #[.int .i64 nn, .int .i64 si] 23)).alloc (.cells #[.int .i64 nn, .int .i64 si] 23)) (.cells #[.int .i64 r0, .int .i64 r1] 52)
  have b1 := kp_row (Kp.trans k2 k3) b1
  have b2 := kp_row k3 b2
  have KK := Lib.hid (Kp.trans k1 (Kp.trans k2 k3))
  rw [show (w.alloc (.cells #[.int .i64 nn, .int .i64 si] 23)).heap.size = w.heap.size + 1 by simp] at b2
  rw [show ((w.alloc (.cells #[.int .i64 nn, .int .i64 si] 23)).alloc (.cells #[.int .i64 nn, .int .i64 si] 23)).heap.size = w.heap.size + 1 + 1 by simp] at b3
  have B1 := Lib.hid b1
  have B2 := Lib.hid b2
  have B3 := Lib.hid b3
  clear b1 b2 b3 k1 k2 k3
  go_enter Tryd.func6, Tryd.ntmps6
  go_wp2_with (go_at_call 7; (with_reducible refine (HAL.out _ KK.out).mono ?_); rintro e w1 ⟨rfl, hk⟩; have b1 := kp_row hk B1.out; have B1 := Lib.hid b1; have b2 := kp_row hk B2.out; have B2 := Lib.hid b2; have b3 := kp_row hk B3.out; have B3 := Lib.hid b3; clear b1 b2 b3; obtain ⟨ca, cb⟩ := cell_two B1.out; obtain ⟨cc, cd⟩ := cell_two B2.out; obtain ⟨ce, cf⟩ := cell_two B3.out; have KK := Lib.hid (Kp.trans KK.out hk); clear hk)
  go_wp2_with (first | (go_at_call 11; (with_reducible refine (H1.out _ KK.out).mono ?_); rintro e wk ⟨rfl, hk⟩; clear ca cb cc cd ce cf; have b1 := kp_row hk B1.out; have B1 := Lib.hid b1; have b2 := kp_row hk B2.out; have B2 := Lib.hid b2; have b3 := kp_row hk B3.out; have B3 := Lib.hid b3; clear b1 b2 b3; obtain ⟨ca, cb⟩ := cell_two B1.out; obtain ⟨cc, cd⟩ := cell_two B2.out; obtain ⟨ce, cf⟩ := cell_two B3.out; have KK := Lib.hid (Kp.trans KK.out hk); clear hk) | (go_at_call 11; (with_reducible refine (H2.out _ KK.out).mono ?_); rintro e wk ⟨rfl, hk⟩; clear ca cb cc cd ce cf; have b1 := kp_row hk B1.out; have B1 := Lib.hid b1; have b2 := kp_row hk B2.out; have B2 := Lib.hid b2; have b3 := kp_row hk B3.out; have B3 := Lib.hid b3; clear b1 b2 b3; obtain ⟨ca, cb⟩ := cell_two B1.out; obtain ⟨cc, cd⟩ := cell_two B2.out; obtain ⟨ce, cf⟩ := cell_two B3.out; have KK := Lib.hid (Kp.trans KK.out hk); clear hk) | (go_at_call 12; (with_reducible refine (H3.out _ KK.out).mono ?_); rintro e wk ⟨rfl, hk⟩; clear ca cb cc cd ce cf; have b1 := kp_row hk B1.out; have B1 := Lib.hid b1; have b2 := kp_row hk B2.out; have B2 := Lib.hid b2; have b3 := kp_row hk B3.out; have B3 := Lib.hid b3; clear b1 b2 b3; obtain ⟨ca, cb⟩ := cell_two B1.out; obtain ⟨cc, cd⟩ := cell_two B2.out; obtain ⟨ce, cf⟩ := cell_two B3.out; have KK := Lib.hid (Kp.trans KK.out hk); clear hk) | (go_at_call 12; (with_reducible refine (H4.out _ KK.out).mono ?_); rintro e wk ⟨rfl, hk⟩; clear ca cb cc cd ce cf; have b1 := kp_row hk B1.out; have B1 := Lib.hid b1; have b2 := kp_row hk B2.out; have B2 := Lib.hid b2; have b3 := kp_row hk B3.out; have B3 := Lib.hid b3; clear b1 b2 b3; obtain ⟨ca, cb⟩ := cell_two B1.out; obtain ⟨cc, cd⟩ := cell_two B2.out; obtain ⟨ce, cf⟩ := cell_two B3.out; have KK := Lib.hid (Kp.trans KK.out hk); clear hk) | (go_at_call 10; (with_reducible refine (H5.out _ KK.out).mono ?_); rintro e wk ⟨rfl, hk⟩; clear ca cb cc cd ce cf; have b1 := kp_row hk B1.out; have B1 := Lib.hid b1; have b2 := kp_row hk B2.out; have B2 := Lib.hid b2; have b3 := kp_row hk B3.out; have B3 := Lib.hid b3; clear b1 b2 b3; obtain ⟨ca, cb⟩ := cell_two B1.out; obtain ⟨cc, cd⟩ := cell_two B2.out; obtain ⟨ce, cf⟩ := cell_two B3.out; have KK := Lib.hid (Kp.trans KK.out hk); clear hk))
  go_ret
  exact ⟨by first | rfl | simp, KK.out⟩

set_option maxRecDepth 20000 in
set_option maxHeartbeats 2000000 in
theorem unl_ab_TTx (ads : List Addr) (nn si r0 r1 : Int) (i_nn : I64 nn) (i_si : I64 si) (i_r0 : I64 r0) (i_r1 : I64 r1) (w : World) (V : St ads w) (I : IdsC ads w) (x1 : regO nn si r0 = none) (x2 : regO nn si r1 = none) (x3 : partO nn r0 = none) (x4 : partO nn r1 = some (partT nn.toNat r1.toNat)) (x5 : actO nn si = some (actT nn.toNat si.toNat))  :
    Calls Tryd.prog 6 #[.agg #[.int .i64 nn, .int .i64 si], .agg #[.int .i64 nn, .int .i64 si], .agg #[.int .i64 r0, .int .i64 r1]] w fun e w' => e = .returned (.bool true) ∧ Kp w w' := by
  have HAL := Lib.hid (fun w1 (hk : Kp w w1) => alive_any ads w1 (V.below hk) (I.kp hk))
  obtain ⟨o1, ho1⟩ := errI_some ads 1 (by decide)
  have H1 := fun w1 (hk : Kp w w1) => I.reg w1 hk nn si r0 i_nn i_si i_r0
  simp only [x1, textR, ho1] at H1
  have H2 := fun w1 (hk : Kp w w1) => I.reg w1 hk nn si r1 i_nn i_si i_r1
  simp only [x2, textR, ho1] at H2
  have H3 := fun w1 (hk : Kp w w1) => I.part w1 hk nn r0 i_nn i_r0
  simp only [x3, textR, ho1] at H3
  have H4 := fun w1 (hk : Kp w w1) => I.part w1 hk nn r1 i_nn i_r1
  simp only [x4, textR] at H4
  obtain ⟨t4, ht4⟩ : ∃ x, strOfNums (partT nn.toNat r1.toNat) = x := ⟨_, rfl⟩
  simp only [ht4] at H4
  have H5 := fun w1 (hk : Kp w w1) => I.act w1 hk nn si i_nn i_si
  simp only [x5, textR] at H5
  obtain ⟨t5, ht5⟩ : ∃ x, strOfNums (actT nn.toNat si.toNat) = x := ⟨_, rfl⟩
  simp only [ht5] at H5
  have q5 : (t5.toList == t5.toList) = true := by simp
  have H1 := Lib.hid H1
  have H2 := Lib.hid H2
  have H3 := Lib.hid H3
  have H4 := Lib.hid H4
  have H5 := Lib.hid H5
  clear V I i_nn i_si i_r0 i_r1 x1 x2 x3 x4 x5 ht4 ht5 ho1
  have b1 := (MapKept.heap_alloc w (.cells #[.int .i64 nn, .int .i64 si] 23)).1
  have k1 := kp_alloc w (.cells #[.int .i64 nn, .int .i64 si] 23)
  have b2 := (MapKept.heap_alloc (w.alloc (.cells #[.int .i64 nn, .int .i64 si] 23)) (.cells #[.int .i64 nn, .int .i64 si] 23)).1
  have k2 := kp_alloc (w.alloc (.cells #[.int .i64 nn, .int .i64 si] 23)) (.cells #[.int .i64 nn, .int .i64 si] 23)
  have b3 := (MapKept.heap_alloc ((w.alloc (.cells #[.int .i64 nn, .int .i64 si] 23)).alloc (.cells #[.int .i64 nn, .int .i64 si] 23)) (.cells #[.int .i64 r0, .int .i64 r1] 52)).1
  have k3 := kp_alloc ((w.alloc (.cells #[.int .i64 nn, .int .i64 si] 23)).alloc (.cells #[.int .i64 nn, .int .i64 si] 23)) (.cells #[.int .i64 r0, .int .i64 r1] 52)
  have b1 := kp_row (Kp.trans k2 k3) b1
  have b2 := kp_row k3 b2
  have KK := Lib.hid (Kp.trans k1 (Kp.trans k2 k3))
  rw [show (w.alloc (.cells #[.int .i64 nn, .int .i64 si] 23)).heap.size = w.heap.size + 1 by simp] at b2
  rw [show ((w.alloc (.cells #[.int .i64 nn, .int .i64 si] 23)).alloc (.cells #[.int .i64 nn, .int .i64 si] 23)).heap.size = w.heap.size + 1 + 1 by simp] at b3
  have B1 := Lib.hid b1
  have B2 := Lib.hid b2
  have B3 := Lib.hid b3
  clear b1 b2 b3 k1 k2 k3
  go_enter Tryd.func6, Tryd.ntmps6
  go_wp2_with (go_at_call 7; (with_reducible refine (HAL.out _ KK.out).mono ?_); rintro e w1 ⟨rfl, hk⟩; have b1 := kp_row hk B1.out; have B1 := Lib.hid b1; have b2 := kp_row hk B2.out; have B2 := Lib.hid b2; have b3 := kp_row hk B3.out; have B3 := Lib.hid b3; clear b1 b2 b3; obtain ⟨ca, cb⟩ := cell_two B1.out; obtain ⟨cc, cd⟩ := cell_two B2.out; obtain ⟨ce, cf⟩ := cell_two B3.out; have KK := Lib.hid (Kp.trans KK.out hk); clear hk)
  go_wp2_with (first | (go_at_call 11; (with_reducible refine (H1.out _ KK.out).mono ?_); rintro e wk ⟨rfl, hk⟩; clear ca cb cc cd ce cf; have b1 := kp_row hk B1.out; have B1 := Lib.hid b1; have b2 := kp_row hk B2.out; have B2 := Lib.hid b2; have b3 := kp_row hk B3.out; have B3 := Lib.hid b3; clear b1 b2 b3; obtain ⟨ca, cb⟩ := cell_two B1.out; obtain ⟨cc, cd⟩ := cell_two B2.out; obtain ⟨ce, cf⟩ := cell_two B3.out; have KK := Lib.hid (Kp.trans KK.out hk); clear hk) | (go_at_call 11; (with_reducible refine (H2.out _ KK.out).mono ?_); rintro e wk ⟨rfl, hk⟩; clear ca cb cc cd ce cf; have b1 := kp_row hk B1.out; have B1 := Lib.hid b1; have b2 := kp_row hk B2.out; have B2 := Lib.hid b2; have b3 := kp_row hk B3.out; have B3 := Lib.hid b3; clear b1 b2 b3; obtain ⟨ca, cb⟩ := cell_two B1.out; obtain ⟨cc, cd⟩ := cell_two B2.out; obtain ⟨ce, cf⟩ := cell_two B3.out; have KK := Lib.hid (Kp.trans KK.out hk); clear hk) | (go_at_call 12; (with_reducible refine (H3.out _ KK.out).mono ?_); rintro e wk ⟨rfl, hk⟩; clear ca cb cc cd ce cf; have b1 := kp_row hk B1.out; have B1 := Lib.hid b1; have b2 := kp_row hk B2.out; have B2 := Lib.hid b2; have b3 := kp_row hk B3.out; have B3 := Lib.hid b3; clear b1 b2 b3; obtain ⟨ca, cb⟩ := cell_two B1.out; obtain ⟨cc, cd⟩ := cell_two B2.out; obtain ⟨ce, cf⟩ := cell_two B3.out; have KK := Lib.hid (Kp.trans KK.out hk); clear hk) | (go_at_call 12; (with_reducible refine (H4.out _ KK.out).mono ?_); rintro e wk ⟨rfl, hk⟩; clear ca cb cc cd ce cf; have b1 := kp_row hk B1.out; have B1 := Lib.hid b1; have b2 := kp_row hk B2.out; have B2 := Lib.hid b2; have b3 := kp_row hk B3.out; have B3 := Lib.hid b3; clear b1 b2 b3; obtain ⟨ca, cb⟩ := cell_two B1.out; obtain ⟨cc, cd⟩ := cell_two B2.out; obtain ⟨ce, cf⟩ := cell_two B3.out; have KK := Lib.hid (Kp.trans KK.out hk); clear hk) | (go_at_call 10; (with_reducible refine (H5.out _ KK.out).mono ?_); rintro e wk ⟨rfl, hk⟩; clear ca cb cc cd ce cf; have b1 := kp_row hk B1.out; have B1 := Lib.hid b1; have b2 := kp_row hk B2.out; have B2 := Lib.hid b2; have b3 := kp_row hk B3.out; have B3 := Lib.hid b3; clear b1 b2 b3; obtain ⟨ca, cb⟩ := cell_two B1.out; obtain ⟨cc, cd⟩ := cell_two B2.out; obtain ⟨ce, cf⟩ := cell_two B3.out; have KK := Lib.hid (Kp.trans KK.out hk); clear hk))
  go_ret
  exact ⟨by first | rfl | simp, KK.out⟩

set_option maxRecDepth 20000 in
set_option maxHeartbeats 2000000 in
theorem unl_ar_TTx (ads : List Addr) (nn si r0 r1 : Int) (i_nn : I64 nn) (i_si : I64 si) (i_r0 : I64 r0) (i_r1 : I64 r1) (w : World) (V : St ads w) (I : IdsC ads w) (x1 : regO nn si r0 = none) (x2 : regO nn si r1 = some (regT nn.toNat si.toNat r1.toNat)) (x3 : partO nn r0 = none) (x4 : partO nn r1 = some (partT nn.toNat r1.toNat)) (x5 : actO nn si = some (actT nn.toNat si.toNat))  :
    Calls Tryd.prog 6 #[.agg #[.int .i64 nn, .int .i64 si], .agg #[.int .i64 nn, .int .i64 si], .agg #[.int .i64 r0, .int .i64 r1]] w fun e w' => e = .returned (.bool true) ∧ Kp w w' := by
  have HAL := Lib.hid (fun w1 (hk : Kp w w1) => alive_any ads w1 (V.below hk) (I.kp hk))
  obtain ⟨o1, ho1⟩ := errI_some ads 1 (by decide)
  have H1 := fun w1 (hk : Kp w w1) => I.reg w1 hk nn si r0 i_nn i_si i_r0
  simp only [x1, textR, ho1] at H1
  have H2 := fun w1 (hk : Kp w w1) => I.reg w1 hk nn si r1 i_nn i_si i_r1
  simp only [x2, textR] at H2
  obtain ⟨t2, ht2⟩ : ∃ x, strOfNums (regT nn.toNat si.toNat r1.toNat) = x := ⟨_, rfl⟩
  simp only [ht2] at H2
  have H3 := fun w1 (hk : Kp w w1) => I.part w1 hk nn r0 i_nn i_r0
  simp only [x3, textR, ho1] at H3
  have H4 := fun w1 (hk : Kp w w1) => I.part w1 hk nn r1 i_nn i_r1
  simp only [x4, textR] at H4
  obtain ⟨t4, ht4⟩ : ∃ x, strOfNums (partT nn.toNat r1.toNat) = x := ⟨_, rfl⟩
  simp only [ht4] at H4
  have H5 := fun w1 (hk : Kp w w1) => I.act w1 hk nn si i_nn i_si
  simp only [x5, textR] at H5
  obtain ⟨t5, ht5⟩ : ∃ x, strOfNums (actT nn.toNat si.toNat) = x := ⟨_, rfl⟩
  simp only [ht5] at H5
  have q5 : (t5.toList == t5.toList) = true := by simp
  have H1 := Lib.hid H1
  have H2 := Lib.hid H2
  have H3 := Lib.hid H3
  have H4 := Lib.hid H4
  have H5 := Lib.hid H5
  clear V I i_nn i_si i_r0 i_r1 x1 x2 x3 x4 x5 ht2 ht4 ht5 ho1
  have b1 := (MapKept.heap_alloc w (.cells #[.int .i64 nn, .int .i64 si] 23)).1
  have k1 := kp_alloc w (.cells #[.int .i64 nn, .int .i64 si] 23)
  have b2 := (MapKept.heap_alloc (w.alloc (.cells #[.int .i64 nn, .int .i64 si] 23)) (.cells #[.int .i64 nn, .int .i64 si] 23)).1
  have k2 := kp_alloc (w.alloc (.cells #[.int .i64 nn, .int .i64 si] 23)) (.cells #[.int .i64 nn, .int .i64 si] 23)
  have b3 := (MapKept.heap_alloc ((w.alloc (.cells #[.int .i64 nn, .int .i64 si] 23)).alloc (.cells #[.int .i64 nn, .int .i64 si] 23)) (.cells #[.int .i64 r0, .int .i64 r1] 52)).1
  have k3 := kp_alloc ((w.alloc (.cells #[.int .i64 nn, .int .i64 si] 23)).alloc (.cells #[.int .i64 nn, .int .i64 si] 23)) (.cells #[.int .i64 r0, .int .i64 r1] 52)
  have b1 := kp_row (Kp.trans k2 k3) b1
  have b2 := kp_row k3 b2
  have KK := Lib.hid (Kp.trans k1 (Kp.trans k2 k3))
  rw [show (w.alloc (.cells #[.int .i64 nn, .int .i64 si] 23)).heap.size = w.heap.size + 1 by simp] at b2
  rw [show ((w.alloc (.cells #[.int .i64 nn, .int .i64 si] 23)).alloc (.cells #[.int .i64 nn, .int .i64 si] 23)).heap.size = w.heap.size + 1 + 1 by simp] at b3
  have B1 := Lib.hid b1
  have B2 := Lib.hid b2
  have B3 := Lib.hid b3
  clear b1 b2 b3 k1 k2 k3
  go_enter Tryd.func6, Tryd.ntmps6
  go_wp2_with (go_at_call 7; (with_reducible refine (HAL.out _ KK.out).mono ?_); rintro e w1 ⟨rfl, hk⟩; have b1 := kp_row hk B1.out; have B1 := Lib.hid b1; have b2 := kp_row hk B2.out; have B2 := Lib.hid b2; have b3 := kp_row hk B3.out; have B3 := Lib.hid b3; clear b1 b2 b3; obtain ⟨ca, cb⟩ := cell_two B1.out; obtain ⟨cc, cd⟩ := cell_two B2.out; obtain ⟨ce, cf⟩ := cell_two B3.out; have KK := Lib.hid (Kp.trans KK.out hk); clear hk)
  go_wp2_with (first | (go_at_call 11; (with_reducible refine (H1.out _ KK.out).mono ?_); rintro e wk ⟨rfl, hk⟩; clear ca cb cc cd ce cf; have b1 := kp_row hk B1.out; have B1 := Lib.hid b1; have b2 := kp_row hk B2.out; have B2 := Lib.hid b2; have b3 := kp_row hk B3.out; have B3 := Lib.hid b3; clear b1 b2 b3; obtain ⟨ca, cb⟩ := cell_two B1.out; obtain ⟨cc, cd⟩ := cell_two B2.out; obtain ⟨ce, cf⟩ := cell_two B3.out; have KK := Lib.hid (Kp.trans KK.out hk); clear hk) | (go_at_call 11; (with_reducible refine (H2.out _ KK.out).mono ?_); rintro e wk ⟨rfl, hk⟩; clear ca cb cc cd ce cf; have b1 := kp_row hk B1.out; have B1 := Lib.hid b1; have b2 := kp_row hk B2.out; have B2 := Lib.hid b2; have b3 := kp_row hk B3.out; have B3 := Lib.hid b3; clear b1 b2 b3; obtain ⟨ca, cb⟩ := cell_two B1.out; obtain ⟨cc, cd⟩ := cell_two B2.out; obtain ⟨ce, cf⟩ := cell_two B3.out; have KK := Lib.hid (Kp.trans KK.out hk); clear hk) | (go_at_call 12; (with_reducible refine (H3.out _ KK.out).mono ?_); rintro e wk ⟨rfl, hk⟩; clear ca cb cc cd ce cf; have b1 := kp_row hk B1.out; have B1 := Lib.hid b1; have b2 := kp_row hk B2.out; have B2 := Lib.hid b2; have b3 := kp_row hk B3.out; have B3 := Lib.hid b3; clear b1 b2 b3; obtain ⟨ca, cb⟩ := cell_two B1.out; obtain ⟨cc, cd⟩ := cell_two B2.out; obtain ⟨ce, cf⟩ := cell_two B3.out; have KK := Lib.hid (Kp.trans KK.out hk); clear hk) | (go_at_call 12; (with_reducible refine (H4.out _ KK.out).mono ?_); rintro e wk ⟨rfl, hk⟩; clear ca cb cc cd ce cf; have b1 := kp_row hk B1.out; have B1 := Lib.hid b1; have b2 := kp_row hk B2.out; have B2 := Lib.hid b2; have b3 := kp_row hk B3.out; have B3 := Lib.hid b3; clear b1 b2 b3; obtain ⟨ca, cb⟩ := cell_two B1.out; obtain ⟨cc, cd⟩ := cell_two B2.out; obtain ⟨ce, cf⟩ := cell_two B3.out; have KK := Lib.hid (Kp.trans KK.out hk); clear hk) | (go_at_call 10; (with_reducible refine (H5.out _ KK.out).mono ?_); rintro e wk ⟨rfl, hk⟩; clear ca cb cc cd ce cf; have b1 := kp_row hk B1.out; have B1 := Lib.hid b1; have b2 := kp_row hk B2.out; have B2 := Lib.hid b2; have b3 := kp_row hk B3.out; have B3 := Lib.hid b3; clear b1 b2 b3; obtain ⟨ca, cb⟩ := cell_two B1.out; obtain ⟨cc, cd⟩ := cell_two B2.out; obtain ⟨ce, cf⟩ := cell_two B3.out; have KK := Lib.hid (Kp.trans KK.out hk); clear hk))
  go_ret
  exact ⟨by first | rfl | simp, KK.out⟩

set_option maxRecDepth 20000 in
set_option maxHeartbeats 2000000 in
theorem unl_bn_x (ads : List Addr) (nn si mm sj r0 r1 : Int) (i_nn : I64 nn) (i_si : I64 si) (i_mm : I64 mm) (i_sj : I64 sj) (i_r0 : I64 r0) (i_r1 : I64 r1) (w : World) (V : St ads w) (I : IdsC ads w) (x1 : regO nn si r0 = none) (x2 : regO mm sj r1 = none) (x3 : partO nn r0 = some (partT nn.toNat r0.toNat)) (x4 : partO mm r1 = none) (x5 : actO nn si = some (actT nn.toNat si.toNat)) (x6 : actO mm sj = none)  :
    Calls Tryd.prog 6 #[.agg #[.int .i64 nn, .int .i64 si], .agg #[.int .i64 mm, .int .i64 sj], .agg #[.int .i64 r0, .int .i64 r1]] w fun e w' => e = .returned (.bool true) ∧ Kp w w' := by
  have HAL := Lib.hid (fun w1 (hk : Kp w w1) => alive_any ads w1 (V.below hk) (I.kp hk))
  obtain ⟨o1, ho1⟩ := errI_some ads 1 (by decide)
  have H1 := fun w1 (hk : Kp w w1) => I.reg w1 hk nn si r0 i_nn i_si i_r0
  simp only [x1, textR, ho1] at H1
  have H2 := fun w1 (hk : Kp w w1) => I.reg w1 hk mm sj r1 i_mm i_sj i_r1
  simp only [x2, textR, ho1] at H2
  have H3 := fun w1 (hk : Kp w w1) => I.part w1 hk nn r0 i_nn i_r0
  simp only [x3, textR] at H3
  obtain ⟨t3, ht3⟩ : ∃ x, strOfNums (partT nn.toNat r0.toNat) = x := ⟨_, rfl⟩
  simp only [ht3] at H3
  have H4 := fun w1 (hk : Kp w w1) => I.part w1 hk mm r1 i_mm i_r1
  simp only [x4, textR, ho1] at H4
  have H5 := fun w1 (hk : Kp w w1) => I.act w1 hk nn si i_nn i_si
  simp only [x5, textR] at H5
  obtain ⟨t5, ht5⟩ : ∃ x, strOfNums (actT nn.toNat si.toNat) = x := ⟨_, rfl⟩
  simp only [ht5] at H5
  have H6 := fun w1 (hk : Kp w w1) => I.act w1 hk mm sj i_mm i_sj
  simp only [x6, textR, ho1] at H6
  have H1 := Lib.hid H1
  have H2 := Lib.hid H2
  have H3 := Lib.hid H3
  have H4 := Lib.hid H4
  have H5 := Lib.hid H5
  have H6 := Lib.hid H6
  clear V I i_nn i_si i_mm i_sj i_r0 i_r1 x1 x2 x3 x4 x5 x6 ht3 ht5 ho1
  have b1 := (MapKept.heap_alloc w (.cells #[.int .i64 nn, .int .i64 si] 23)).1
  have k1 := kp_alloc w (.cells #[.int .i64 nn, .int .i64 si] 23)
  have b2 := (MapKept.heap_alloc (w.alloc (.cells #[.int .i64 nn, .int .i64 si] 23)) (.cells #[.int .i64 mm, .int .i64 sj] 23)).1
  have k2 := kp_alloc (w.alloc (.cells #[.int .i64 nn, .int .i64 si] 23)) (.cells #[.int .i64 mm, .int .i64 sj] 23)
  have b3 := (MapKept.heap_alloc ((w.alloc (.cells #[.int .i64 nn, .int .i64 si] 23)).alloc (.cells #[.int .i64 mm, .int .i64 sj] 23)) (.cells #[.int .i64 r0, .int .i64 r1] 52)).1
  have k3 := kp_alloc ((w.alloc (.cells #[.int .i64 nn, .int .i64 si] 23)).alloc (.cells #[.int .i64 mm, .int .i64 sj] 23)) (.cells #[.int .i64 r0, .int .i64 r1] 52)
  have b1 := kp_row (Kp.trans k2 k3) b1
  have b2 := kp_row k3 b2
  have KK := Lib.hid (Kp.trans k1 (Kp.trans k2 k3))
  rw [show (w.alloc (.cells #[.int .i64 nn, .int .i64 si] 23)).heap.size = w.heap.size + 1 by simp] at b2
  rw [show ((w.alloc (.cells #[.int .i64 nn, .int .i64 si] 23)).alloc (.cells #[.int .i64 mm, .int .i64 sj] 23)).heap.size = w.heap.size + 1 + 1 by simp] at b3
  have B1 := Lib.hid b1
  have B2 := Lib.hid b2
  have B3 := Lib.hid b3
  clear b1 b2 b3 k1 k2 k3
  go_enter Tryd.func6, Tryd.ntmps6
  go_wp2_with (go_at_call 7; (with_reducible refine (HAL.out _ KK.out).mono ?_); rintro e w1 ⟨rfl, hk⟩; have b1 := kp_row hk B1.out; have B1 := Lib.hid b1; have b2 := kp_row hk B2.out; have B2 := Lib.hid b2; have b3 := kp_row hk B3.out; have B3 := Lib.hid b3; clear b1 b2 b3; obtain ⟨ca, cb⟩ := cell_two B1.out; obtain ⟨cc, cd⟩ := cell_two B2.out; obtain ⟨ce, cf⟩ := cell_two B3.out; have KK := Lib.hid (Kp.trans KK.out hk); clear hk)
  go_wp2_with (first | (go_at_call 11; (with_reducible refine (H1.out _ KK.out).mono ?_); rintro e wk ⟨rfl, hk⟩; clear ca cb cc cd ce cf; have b1 := kp_row hk B1.out; have B1 := Lib.hid b1; have b2 := kp_row hk B2.out; have B2 := Lib.hid b2; have b3 := kp_row hk B3.out; have B3 := Lib.hid b3; clear b1 b2 b3; obtain ⟨ca, cb⟩ := cell_two B1.out; obtain ⟨cc, cd⟩ := cell_two B2.out; obtain ⟨ce, cf⟩ := cell_two B3.out; have KK := Lib.hid (Kp.trans KK.out hk); clear hk) | (go_at_call 11; (with_reducible refine (H2.out _ KK.out).mono ?_); rintro e wk ⟨rfl, hk⟩; clear ca cb cc cd ce cf; have b1 := kp_row hk B1.out; have B1 := Lib.hid b1; have b2 := kp_row hk B2.out; have B2 := Lib.hid b2; have b3 := kp_row hk B3.out; have B3 := Lib.hid b3; clear b1 b2 b3; obtain ⟨ca, cb⟩ := cell_two B1.out; obtain ⟨cc, cd⟩ := cell_two B2.out; obtain ⟨ce, cf⟩ := cell_two B3.out; have KK := Lib.hid (Kp.trans KK.out hk); clear hk) | (go_at_call 12; (with_reducible refine (H3.out _ KK.out).mono ?_); rintro e wk ⟨rfl, hk⟩; clear ca cb cc cd ce cf; have b1 := kp_row hk B1.out; have B1 := Lib.hid b1; have b2 := kp_row hk B2.out; have B2 := Lib.hid b2; have b3 := kp_row hk B3.out; have B3 := Lib.hid b3; clear b1 b2 b3; obtain ⟨ca, cb⟩ := cell_two B1.out; obtain ⟨cc, cd⟩ := cell_two B2.out; obtain ⟨ce, cf⟩ := cell_two B3.out; have KK := Lib.hid (Kp.trans KK.out hk); clear hk) | (go_at_call 12; (with_reducible refine (H4.out _ KK.out).mono ?_); rintro e wk ⟨rfl, hk⟩; clear ca cb cc cd ce cf; have b1 := kp_row hk B1.out; have B1 := Lib.hid b1; have b2 := kp_row hk B2.out; have B2 := Lib.hid b2; have b3 := kp_row hk B3.out; have B3 := Lib.hid b3; clear b1 b2 b3; obtain ⟨ca, cb⟩ := cell_two B1.out; obtain ⟨cc, cd⟩ := cell_two B2.out; obtain ⟨ce, cf⟩ := cell_two B3.out; have KK := Lib.hid (Kp.trans KK.out hk); clear hk) | (go_at_call 10; (with_reducible refine (H5.out _ KK.out).mono ?_); rintro e wk ⟨rfl, hk⟩; clear ca cb cc cd ce cf; have b1 := kp_row hk B1.out; have B1 := Lib.hid b1; have b2 := kp_row hk B2.out; have B2 := Lib.hid b2; have b3 := kp_row hk B3.out; have B3 := Lib.hid b3; clear b1 b2 b3; obtain ⟨ca, cb⟩ := cell_two B1.out; obtain ⟨cc, cd⟩ := cell_two B2.out; obtain ⟨ce, cf⟩ := cell_two B3.out; have KK := Lib.hid (Kp.trans KK.out hk); clear hk) | (go_at_call 10; (with_reducible refine (H6.out _ KK.out).mono ?_); rintro e wk ⟨rfl, hk⟩; clear ca cb cc cd ce cf; have b1 := kp_row hk B1.out; have B1 := Lib.hid b1; have b2 := kp_row hk B2.out; have B2 := Lib.hid b2; have b3 := kp_row hk B3.out; have B3 := Lib.hid b3; clear b1 b2 b3; obtain ⟨ca, cb⟩ := cell_two B1.out; obtain ⟨cc, cd⟩ := cell_two B2.out; obtain ⟨ce, cf⟩ := cell_two B3.out; have KK := Lib.hid (Kp.trans KK.out hk); clear hk))
  go_ret
  exact ⟨by first | rfl | simp, KK.out⟩

set_option maxRecDepth 20000 in
set_option maxHeartbeats 2000000 in
theorem unl_bp_Fxx (ads : List Addr) (nn si mm sj r0 r1 : Int) (i_nn : I64 nn) (i_si : I64 si) (i_mm : I64 mm) (i_sj : I64 sj) (i_r0 : I64 r0) (i_r1 : I64 r1) (w : World) (V : St ads w) (I : IdsC ads w) (x1 : regO nn si r0 = none) (x2 : regO mm sj r1 = none) (x3 : partO nn r0 = some (partT nn.toNat r0.toNat)) (x4 : partO mm r1 = some (partT mm.toNat r1.toNat)) (x5 : actO nn si = some (actT nn.toNat si.toNat)) (x6 : actO mm sj = none) (d1 : ¬ nn = mm) :
    Calls Tryd.prog 6 #[.agg #[.int .i64 nn, .int .i64 si], .agg #[.int .i64 mm, .int .i64 sj], .agg #[.int .i64 r0, .int .i64 r1]] w fun e w' => e = .returned (.bool true) ∧ Kp w w' := by
  have HAL := Lib.hid (fun w1 (hk : Kp w w1) => alive_any ads w1 (V.below hk) (I.kp hk))
  obtain ⟨o1, ho1⟩ := errI_some ads 1 (by decide)
  have H1 := fun w1 (hk : Kp w w1) => I.reg w1 hk nn si r0 i_nn i_si i_r0
  simp only [x1, textR, ho1] at H1
  have H2 := fun w1 (hk : Kp w w1) => I.reg w1 hk mm sj r1 i_mm i_sj i_r1
  simp only [x2, textR, ho1] at H2
  have H3 := fun w1 (hk : Kp w w1) => I.part w1 hk nn r0 i_nn i_r0
  simp only [x3, textR] at H3
  obtain ⟨t3, ht3⟩ : ∃ x, strOfNums (partT nn.toNat r0.toNat) = x := ⟨_, rfl⟩
  simp only [ht3] at H3
  have H4 := fun w1 (hk : Kp w w1) => I.part w1 hk mm r1 i_mm i_r1
  simp only [x4, textR] at H4
  obtain ⟨t4, ht4⟩ : ∃ x, strOfNums (partT mm.toNat r1.toNat) = x := ⟨_, rfl⟩
  simp only [ht4] at H4
  have H5 := fun w1 (hk : Kp w w1) => I.act w1 hk nn si i_nn i_si
  simp only [x5, textR] at H5
  obtain ⟨t5, ht5⟩ : ∃ x, strOfNums (actT nn.toNat si.toNat) = x := ⟨_, rfl⟩
  simp only [ht5] at H5
  have H6 := fun w1 (hk : Kp w w1) => I.act w1 hk mm sj i_mm i_sj
  simp only [x6, textR, ho1] at H6
  have q3 : (t3.toList == t4.toList) = false := by
    rw [← ht3, ← ht4]
    refine strs_no (fun h => ?_)
    have a := partO_some x3
    have b := partO_some x4
    have c := part_inj (by omega) (by omega) (by omega) (by omega) (str_inj (partT_in _ _) (partT_in _ _) h)
    omega
  have H1 := Lib.hid H1
  have H2 := Lib.hid H2
  have H3 := Lib.hid H3
  have H4 := Lib.hid H4
  have H5 := Lib.hid H5
  have H6 := Lib.hid H6
  clear V I i_nn i_si i_mm i_sj i_r0 i_r1 x1 x2 x3 x4 x5 x6 ht3 ht4 ht5 ho1
  have b1 := (MapKept.heap_alloc w (.cells #[.int .i64 nn, .int .i64 si] 23)).1
  have k1 := kp_alloc w (.cells #[.int .i64 nn, .int .i64 si] 23)
  have b2 := (MapKept.heap_alloc (w.alloc (.cells #[.int .i64 nn, .int .i64 si] 23)) (.cells #[.int .i64 mm, .int .i64 sj] 23)).1
  have k2 := kp_alloc (w.alloc (.cells #[.int .i64 nn, .int .i64 si] 23)) (.cells #[.int .i64 mm, .int .i64 sj] 23)
  have b3 := (MapKept.heap_alloc ((w.alloc (.cells #[.int .i64 nn, .int .i64 si] 23)).alloc (.cells #[.int .i64 mm, .int .i64 sj] 23)) (.cells #[.int .i64 r0, .int .i64 r1] 52)).1
  have k3 := kp_alloc ((w.alloc (.cells #[.int .i64 nn, .int .i64 si] 23)).alloc (.cells #[.int .i64 mm, .int .i64 sj] 23)) (.cells #[.int .i64 r0, .int .i64 r1] 52)
  have b1 := kp_row (Kp.trans k2 k3) b1
  have b2 := kp_row k3 b2
  have KK := Lib.hid (Kp.trans k1 (Kp.trans k2 k3))
  rw [show (w.alloc (.cells #[.int .i64 nn, .int .i64 si] 23)).heap.size = w.heap.size + 1 by simp] at b2
  rw [show ((w.alloc (.cells #[.int .i64 nn, .int .i64 si] 23)).alloc (.cells #[.int .i64 mm, .int .i64 sj] 23)).heap.size = w.heap.size + 1 + 1 by simp] at b3
  have B1 := Lib.hid b1
  have B2 := Lib.hid b2
  have B3 := Lib.hid b3
  clear b1 b2 b3 k1 k2 k3
  go_enter Tryd.func6, Tryd.ntmps6
  go_wp2_with (go_at_call 7; (with_reducible refine (HAL.out _ KK.out).mono ?_); rintro e w1 ⟨rfl, hk⟩; have b1 := kp_row hk B1.out; have B1 := Lib.hid b1; have b2 := kp_row hk B2.out; have B2 := Lib.hid b2; have b3 := kp_row hk B3.out; have B3 := Lib.hid b3; clear b1 b2 b3; obtain ⟨ca, cb⟩ := cell_two B1.out; obtain ⟨cc, cd⟩ := cell_two B2.out; obtain ⟨ce, cf⟩ := cell_two B3.out; have KK := Lib.hid (Kp.trans KK.out hk); clear hk)
  go_wp2_with (first | (go_at_call 11; (with_reducible refine (H1.out _ KK.out).mono ?_); rintro e wk ⟨rfl, hk⟩; clear ca cb cc cd ce cf; have b1 := kp_row hk B1.out; have B1 := Lib.hid b1; have b2 := kp_row hk B2.out; have B2 := Lib.hid b2; have b3 := kp_row hk B3.out; have B3 := Lib.hid b3; clear b1 b2 b3; obtain ⟨ca, cb⟩ := cell_two B1.out; obtain ⟨cc, cd⟩ := cell_two B2.out; obtain ⟨ce, cf⟩ := cell_two B3.out; have KK := Lib.hid (Kp.trans KK.out hk); clear hk) | (go_at_call 11; (with_reducible refine (H2.out _ KK.out).mono ?_); rintro e wk ⟨rfl, hk⟩; clear ca cb cc cd ce cf; have b1 := kp_row hk B1.out; have B1 := Lib.hid b1; have b2 := kp_row hk B2.out; have B2 := Lib.hid b2; have b3 := kp_row hk B3.out; have B3 := Lib.hid b3; clear b1 b2 b3; obtain ⟨ca, cb⟩ := cell_two B1.out; obtain ⟨cc, cd⟩ := cell_two B2.out; obtain ⟨ce, cf⟩ := cell_two B3.out; have KK := Lib.hid (Kp.trans KK.out hk); clear hk) | (go_at_call 12; (with_reducible refine (H3.out _ KK.out).mono ?_); rintro e wk ⟨rfl, hk⟩; clear ca cb cc cd ce cf; have b1 := kp_row hk B1.out; have B1 := Lib.hid b1; have b2 := kp_row hk B2.out; have B2 := Lib.hid b2; have b3 := kp_row hk B3.out; have B3 := Lib.hid b3; clear b1 b2 b3; obtain ⟨ca, cb⟩ := cell_two B1.out; obtain ⟨cc, cd⟩ := cell_two B2.out; obtain ⟨ce, cf⟩ := cell_two B3.out; have KK := Lib.hid (Kp.trans KK.out hk); clear hk) | (go_at_call 12; (with_reducible refine (H4.out _ KK.out).mono ?_); rintro e wk ⟨rfl, hk⟩; clear ca cb cc cd ce cf; have b1 := kp_row hk B1.out; have B1 := Lib.hid b1; have b2 := kp_row hk B2.out; have B2 := Lib.hid b2; have b3 := kp_row hk B3.out; have B3 := Lib.hid b3; clear b1 b2 b3; obtain ⟨ca, cb⟩ := cell_two B1.out; obtain ⟨cc, cd⟩ := cell_two B2.out; obtain ⟨ce, cf⟩ := cell_two B3.out; have KK := Lib.hid (Kp.trans KK.out hk); clear hk) | (go_at_call 10; (with_reducible refine (H5.out _ KK.out).mono ?_); rintro e wk ⟨rfl, hk⟩; clear ca cb cc cd ce cf; have b1 := kp_row hk B1.out; have B1 := Lib.hid b1; have b2 := kp_row hk B2.out; have B2 := Lib.hid b2; have b3 := kp_row hk B3.out; have B3 := Lib.hid b3; clear b1 b2 b3; obtain ⟨ca, cb⟩ := cell_two B1.out; obtain ⟨cc, cd⟩ := cell_two B2.out; obtain ⟨ce, cf⟩ := cell_two B3.out; have KK := Lib.hid (Kp.trans KK.out hk); clear hk) | (go_at_call 10; (with_reducible refine (H6.out _ KK.out).mono ?_); rintro e wk ⟨rfl, hk⟩; clear ca cb cc cd ce cf; have b1 := kp_row hk B1.out; have B1 := Lib.hid b1; have b2 := kp_row hk B2.out; have B2 := Lib.hid b2; have b3 := kp_row hk B3.out; have B3 := Lib.hid b3; clear b1 b2 b3; obtain ⟨ca, cb⟩ := cell_two B1.out; obtain ⟨cc, cd⟩ := cell_two B2.out; obtain ⟨ce, cf⟩ := cell_two B3.out; have KK := Lib.hid (Kp.trans KK.out hk); clear hk))
  go_ret
  exact ⟨by first | rfl | simp, KK.out⟩

set_option maxRecDepth 20000 in
set_option maxHeartbeats 2000000 in
theorem unl_ba_Fxx (ads : List Addr) (nn si mm sj r0 r1 : Int) (i_nn : I64 nn) (i_si : I64 si) (i_mm : I64 mm) (i_sj : I64 sj) (i_r0 : I64 r0) (i_r1 : I64 r1) (w : World) (V : St ads w) (I : IdsC ads w) (x1 : regO nn si r0 = none) (x2 : regO mm sj r1 = none) (x3 : partO nn r0 = some (partT nn.toNat r0.toNat)) (x4 : partO mm r1 = none) (x5 : actO nn si = some (actT nn.toNat si.toNat)) (x6 : actO mm sj = some (actT mm.toNat sj.toNat)) (d1 : ¬ nn = mm) :
    Calls Tryd.prog 6 #[.agg #[.int .i64 nn, .int .i64 si], .agg #[.int .i64 mm, .int .i64 sj], .agg #[.int .i64 r0, .int .i64 r1]] w fun e w' => e = .returned (.bool true) ∧ Kp w w' := by
  have HAL := Lib.hid (fun w1 (hk : Kp w w1) => alive_any ads w1 (V.below hk) (I.kp hk))
  obtain ⟨o1, ho1⟩ := errI_some ads 1 (by decide)
  have H1 := fun w1 (hk : Kp w w1) => I.reg w1 hk nn si r0 i_nn i_si i_r0
  simp only [x1, textR, ho1] at H1
  have H2 := fun w1 (hk : Kp w w1) => I.reg w1 hk mm sj r1 i_mm i_sj i_r1
  simp only [x2, textR, ho1] at H2
  have H3 := fun w1 (hk : Kp w w1) => I.part w1 hk nn r0 i_nn i_r0
  simp only [x3, textR] at H3
  obtain ⟨t3, ht3⟩ : ∃ x, strOfNums (partT nn.toNat r0.toNat) = x := ⟨_, rfl⟩
  simp only [ht3] at H3
  have H4 := fun w1 (hk : Kp w w1) => I.part w1 hk mm r1 i_mm i_r1
  simp only [x4, textR, ho1] at H4
  have H5 := fun w1 (hk : Kp w w1) => I.act w1 hk nn si i_nn i_si
  simp only [x5, textR] at H5
  obtain ⟨t5, ht5⟩ : ∃ x, strOfNums (actT nn.toNat si.toNat) = x := ⟨_, rfl⟩
  simp only [ht5] at H5
  have H6 := fun w1 (hk : Kp w w1) => I.act w1 hk mm sj i_mm i_sj
  simp only [x6, textR] at H6
  obtain ⟨t6, ht6⟩ : ∃ x, strOfNums (actT mm.toNat sj.toNat) = x := ⟨_, rfl⟩
  simp only [ht6] at H6
  have q5 : (t5.toList == t6.toList) = false := by
    rw [← ht5, ← ht6]
    refine strs_no (fun h => ?_)
    have a := actO_some x5
    have b := actO_some x6
    have c := act_inj (by omega) (by omega) (by omega) (by omega) (str_inj (actT_in _ _) (actT_in _ _) h)
    omega
  have H1 := Lib.hid H1
  have H2 := Lib.hid H2
  have H3 := Lib.hid H3
  have H4 := Lib.hid H4
  have H5 := Lib.hid H5
  have H6 := Lib.hid H6
  clear V I i_nn i_si i_mm i_sj i_r0 i_r1 x1 x2 x3 x4 x5 x6 ht3 ht5 ht6 ho1
  have b1 := (MapKept.heap_alloc w (.cells #[.int .i64 nn, .int .i64 si] 23)).1
  have k1 := kp_alloc w (.cells #[.int .i64 nn, .int .i64 si] 23)
  have b2 := (MapKept.heap_alloc (w.alloc (.cells #[.int .i64 nn, .int .i64 si] 23)) (.cells #[.int .i64 mm, .int .i64 sj] 23)).1
  have k2 := kp_alloc (w.alloc (.cells #[.int .i64 nn, .int .i64 si] 23)) (.cells #[.int .i64 mm, .int .i64 sj] 23)
  have b3 := (MapKept.heap_alloc ((w.alloc (.cells #[.int .i64 nn, .int .i64 si] 23)).alloc (.cells #[.int .i64 mm, .int .i64 sj] 23)) (.cells #[.int .i64 r0, .int .i64 r1] 52)).1
  have k3 := kp_alloc ((w.alloc (.cells #[.int .i64 nn, .int .i64 si] 23)).alloc (.cells #[.int .i64 mm, .int .i64 sj] 23)) (.cells #[.int .i64 r0, .int .i64 r1] 52)
  have b1 := kp_row (Kp.trans k2 k3) b1
  have b2 := kp_row k3 b2
  have KK := Lib.hid (Kp.trans k1 (Kp.trans k2 k3))
  rw [show (w.alloc (.cells #[.int .i64 nn, .int .i64 si] 23)).heap.size = w.heap.size + 1 by simp] at b2
  rw [show ((w.alloc (.cells #[.int .i64 nn, .int .i64 si] 23)).alloc (.cells #[.int .i64 mm, .int .i64 sj] 23)).heap.size = w.heap.size + 1 + 1 by simp] at b3
  have B1 := Lib.hid b1
  have B2 := Lib.hid b2
  have B3 := Lib.hid b3
  clear b1 b2 b3 k1 k2 k3
  go_enter Tryd.func6, Tryd.ntmps6
  go_wp2_with (go_at_call 7; (with_reducible refine (HAL.out _ KK.out).mono ?_); rintro e w1 ⟨rfl, hk⟩; have b1 := kp_row hk B1.out; have B1 := Lib.hid b1; have b2 := kp_row hk B2.out; have B2 := Lib.hid b2; have b3 := kp_row hk B3.out; have B3 := Lib.hid b3; clear b1 b2 b3; obtain ⟨ca, cb⟩ := cell_two B1.out; obtain ⟨cc, cd⟩ := cell_two B2.out; obtain ⟨ce, cf⟩ := cell_two B3.out; have KK := Lib.hid (Kp.trans KK.out hk); clear hk)
  go_wp2_with (first | (go_at_call 11; (with_reducible refine (H1.out _ KK.out).mono ?_); rintro e wk ⟨rfl, hk⟩; clear ca cb cc cd ce cf; have b1 := kp_row hk B1.out; have B1 := Lib.hid b1; have b2 := kp_row hk B2.out; have B2 := Lib.hid b2; have b3 := kp_row hk B3.out; have B3 := Lib.hid b3; clear b1 b2 b3; obtain ⟨ca, cb⟩ := cell_two B1.out; obtain ⟨cc, cd⟩ := cell_two B2.out; obtain ⟨ce, cf⟩ := cell_two B3.out; have KK := Lib.hid (Kp.trans KK.out hk); clear hk) | (go_at_call 11; (with_reducible refine (H2.out _ KK.out).mono ?_); rintro e wk ⟨rfl, hk⟩; clear ca cb cc cd ce cf; have b1 := kp_row hk B1.out; have B1 := Lib.hid b1; have b2 := kp_row hk B2.out; have B2 := Lib.hid b2; have b3 := kp_row hk B3.out; have B3 := Lib.hid b3; clear b1 b2 b3; obtain ⟨ca, cb⟩ := cell_two B1.out; obtain ⟨cc, cd⟩ := cell_two B2.out; obtain ⟨ce, cf⟩ := cell_two B3.out; have KK := Lib.hid (Kp.trans KK.out hk); clear hk) | (go_at_call 12; (with_reducible refine (H3.out _ KK.out).mono ?_); rintro e wk ⟨rfl, hk⟩; clear ca cb cc cd ce cf; have b1 := kp_row hk B1.out; have B1 := Lib.hid b1; have b2 := kp_row hk B2.out; have B2 := Lib.hid b2; have b3 := kp_row hk B3.out; have B3 := Lib.hid b3; clear b1 b2 b3; obtain ⟨ca, cb⟩ := cell_two B1.out; obtain ⟨cc, cd⟩ := cell_two B2.out; obtain ⟨ce, cf⟩ := cell_two B3.out; have KK := Lib.hid (Kp.trans KK.out hk); clear hk) | (go_at_call 12; (with_reducible refine (H4.out _ KK.out).mono ?_); rintro e wk ⟨rfl, hk⟩; clear ca cb cc cd ce cf; have b1 := kp_row hk B1.out; have B1 := Lib.hid b1; have b2 := kp_row hk B2.out; have B2 := Lib.hid b2; have b3 := kp_row hk B3.out; have B3 := Lib.hid b3; clear b1 b2 b3; obtain ⟨ca, cb⟩ := cell_two B1.out; obtain ⟨cc, cd⟩ := cell_two B2.out; obtain ⟨ce, cf⟩ := cell_two B3.out; have KK := Lib.hid (Kp.trans KK.out hk); clear hk) | (go_at_call 10; (with_reducible refine (H5.out _ KK.out).mono ?_); rintro e wk ⟨rfl, hk⟩; clear ca cb cc cd ce cf; have b1 := kp_row hk B1.out; have B1 := Lib.hid b1; have b2 := kp_row hk B2.out; have B2 := Lib.hid b2; have b3 := kp_row hk B3.out; have B3 := Lib.hid b3; clear b1 b2 b3; obtain ⟨ca, cb⟩ := cell_two B1.out; obtain ⟨cc, cd⟩ := cell_two B2.out; obtain ⟨ce, cf⟩ := cell_two B3.out; have KK := Lib.hid (Kp.trans KK.out hk); clear hk) | (go_at_call 10; (with_reducible refine (H6.out _ KK.out).mono ?_); rintro e wk ⟨rfl, hk⟩; clear ca cb cc cd ce cf; have b1 := kp_row hk B1.out; have B1 := Lib.hid b1; have b2 := kp_row hk B2.out; have B2 := Lib.hid b2; have b3 := kp_row hk B3.out; have B3 := Lib.hid b3; clear b1 b2 b3; obtain ⟨ca, cb⟩ := cell_two B1.out; obtain ⟨cc, cd⟩ := cell_two B2.out; obtain ⟨ce, cf⟩ := cell_two B3.out; have KK := Lib.hid (Kp.trans KK.out hk); clear hk))
  go_ret
  exact ⟨by first | rfl | simp, KK.out⟩

set_option maxRecDepth 20000 in
set_option maxHeartbeats 2000000 in
theorem unl_bb_TFT (ads : List Addr) (nn si sj r0 : Int) (i_nn : I64 nn) (i_si : I64 si) (i_sj : I64 sj) (i_r0 : I64 r0) (w : World) (V : St ads w) (I : IdsC ads w) (x1 : regO nn si r0 = none) (x2 : regO nn sj r0 = none) (x3 : partO nn r0 = some (partT nn.toNat r0.toNat)) (x5 : actO nn si = some (actT nn.toNat si.toNat)) (x6 : actO nn sj = some (actT nn.toNat sj.toNat)) (d2 : ¬ si = sj) :
    Calls Tryd.prog 6 #[.agg #[.int .i64 nn, .int .i64 si], .agg #[.int .i64 nn, .int .i64 sj], .agg #[.int .i64 r0, .int .i64 r0]] w fun e w' => e = .returned (.bool true) ∧ Kp w w' := by
  have HAL := Lib.hid (fun w1 (hk : Kp w w1) => alive_any ads w1 (V.below hk) (I.kp hk))
  obtain ⟨o1, ho1⟩ := errI_some ads 1 (by decide)
  have H1 := fun w1 (hk : Kp w w1) => I.reg w1 hk nn si r0 i_nn i_si i_r0
  simp only [x1, textR, ho1] at H1
  have H2 := fun w1 (hk : Kp w w1) => I.reg w1 hk nn sj r0 i_nn i_sj i_r0
  simp only [x2, textR, ho1] at H2
  have H3 := fun w1 (hk : Kp w w1) => I.part w1 hk nn r0 i_nn i_r0
  simp only [x3, textR] at H3
  obtain ⟨t3, ht3⟩ : ∃ x, strOfNums (partT nn.toNat r0.toNat) = x := ⟨_, rfl⟩
  simp only [ht3] at H3
  have H5 := fun w1 (hk : Kp w w1) => I.act w1 hk nn si i_nn i_si
  simp only [x5, textR] at H5
  obtain ⟨t5, ht5⟩ : ∃ x, strOfNums (actT nn.toNat si.toNat) = x := ⟨_, rfl⟩
  simp only [ht5] at H5
  have H6 := fun w1 (hk : Kp w w1) => I.act w1 hk nn sj i_nn i_sj
  simp only [x6, textR] at H6
  obtain ⟨t6, ht6⟩ : ∃ x, strOfNums (actT nn.toNat sj.toNat) = x := ⟨_, rfl⟩
  simp only [ht6] at H6
  have q3 : (t3.toList == t3.toList) = true := by simp
  have q5 : (t5.toList == t6.toList) = false := by
    rw [← ht5, ← ht6]
    refine strs_no (fun h => ?_)
    have a := actO_some x5
    have b := actO_some x6
    have c := act_inj (by omega) (by omega) (by omega) (by omega) (str_inj (actT_in _ _) (actT_in _ _) h)
    omega
  have H1 := Lib.hid H1
  have H2 := Lib.hid H2
  have H3 := Lib.hid H3
  have H5 := Lib.hid H5
  have H6 := Lib.hid H6
  clear V I i_nn i_si i_sj i_r0 x1 x2 x3 x5 x6 ht3 ht5 ht6 ho1
  have b1 := (MapKept.heap_alloc w (.cells #[.int .i64 nn, .int .i64 si] 23)).1
  have k1 := kp_alloc w (.cells #[.int .i64 nn, .int .i64 si] 23)
  have b2 := (MapKept.heap_alloc (w.alloc (.cells #[.int .i64 nn, .int .i64 si] 23)) (.cells #[.int .i64 nn, .int .i64 sj] 23)).1
  have k2 := kp_alloc (w.alloc (.cells #[.int .i64 nn, .int .i64 si] 23)) (.cells #[.int .i64 nn, .int .i64 sj] 23)
  have b3 := (MapKept.heap_alloc ((w.alloc (.cells #[.int .i64 nn, .int .i64 si] 23)).alloc (.cells #[.int .i64 nn, .int .i64 sj] 23)) (.cells #[.int .i64 r0, .int .i64 r0] 52)).1
  have k3 := kp_alloc ((w.alloc (.cells #[.int .i64 nn, .int .i64 si] 23)).alloc (.cells #[.int .i64 nn, .int .i64 sj] 23)) (.cells #[.int .i64 r0, .int .i64 r0] 52)
  have b1 := kp_row (Kp.trans k2 k3) b1
  have b2 := kp_row k3 b2
  have KK := Lib.hid (Kp.trans k1 (Kp.trans k2 k3))
  rw [show (w.alloc (.cells #[.int .i64 nn, .int .i64 si] 23)).heap.size = w.heap.size + 1 by simp] at b2
  rw [show ((w.alloc (.cells #[.int .i64 nn, .int .i64 si] 23)).alloc (.cells #[.int .i64 nn, .int .i64 sj] 23)).heap.size = w.heap.size + 1 + 1 by simp] at b3
  have B1 := Lib.hid b1
  have B2 := Lib.hid b2
  have B3 := Lib.hid b3
  clear b1 b2 b3 k1 k2 k3
  go_enter Tryd.func6, Tryd.ntmps6
  go_wp2_with (go_at_call 7; (with_reducible refine (HAL.out _ KK.out).mono ?_); rintro e w1 ⟨rfl, hk⟩; have b1 := kp_row hk B1.out; have B1 := Lib.hid b1; have b2 := kp_row hk B2.out; have B2 := Lib.hid b2; have b3 := kp_row hk B3.out; have B3 := Lib.hid b3; clear b1 b2 b3; obtain ⟨ca, cb⟩ := cell_two B1.out; obtain ⟨cc, cd⟩ := cell_two B2.out; obtain ⟨ce, cf⟩ := cell_two B3.out; have KK := Lib.hid (Kp.trans KK.out hk); clear hk)
  go_wp2_with (first | (go_at_call 11; (with_reducible refine (H1.out _ KK.out).mono ?_); rintro e wk ⟨rfl, hk⟩; clear ca cb cc cd ce cf; have b1 := kp_row hk B1.out; have B1 := Lib.hid b1; have b2 := kp_row hk B2.out; have B2 := Lib.hid b2; have b3 := kp_row hk B3.out; have B3 := Lib.hid b3; clear b1 b2 b3; obtain ⟨ca, cb⟩ := cell_two B1.out; obtain ⟨cc, cd⟩ := cell_two B2.out; obtain ⟨ce, cf⟩ := cell_two B3.out; have KK := Lib.hid (Kp.trans KK.out hk); clear hk) | (go_at_call 11; (with_reducible refine (H2.out _ KK.out).mono ?_); rintro e wk ⟨rfl, hk⟩; clear ca cb cc cd ce cf; have b1 := kp_row hk B1.out; have B1 := Lib.hid b1; have b2 := kp_row hk B2.out; have B2 := Lib.hid b2; have b3 := kp_row hk B3.out; have B3 := Lib.hid b3; clear b1 b2 b3; obtain ⟨ca, cb⟩ := cell_two B1.out; obtain ⟨cc, cd⟩ := cell_two B2.out; obtain ⟨ce, cf⟩ := cell_two B3.out; have KK := Lib.hid (Kp.trans KK.out hk); clear hk) | (go_at_call 12; (with_reducible refine (H3.out _ KK.out).mono ?_); rintro e wk ⟨rfl, hk⟩; clear ca cb cc cd ce cf; have b1 := kp_row hk B1.out; have B1 := Lib.hid b1; have b2 := kp_row hk B2.out; have B2 := Lib.hid b2; have b3 := kp_row hk B3.out; have B3 := Lib.hid b3; clear b1 b2 b3; obtain ⟨ca, cb⟩ := cell_two B1.out; obtain ⟨cc, cd⟩ := cell_two B2.out; obtain ⟨ce, cf⟩ := cell_two B3.out; have KK := Lib.hid (Kp.trans KK.out hk); clear hk) | (go_at_call 10; (with_reducible refine (H5.out _ KK.out).mono ?_); rintro e wk ⟨rfl, hk⟩; clear ca cb cc cd ce cf; have b1 := kp_row hk B1.out; have B1 := Lib.hid b1; have b2 := kp_row hk B2.out; have B2 := Lib.hid b2; have b3 := kp_row hk B3.out; have B3 := Lib.hid b3; clear b1 b2 b3; obtain ⟨ca, cb⟩ := cell_two B1.out; obtain ⟨cc, cd⟩ := cell_two B2.out; obtain ⟨ce, cf⟩ := cell_two B3.out; have KK := Lib.hid (Kp.trans KK.out hk); clear hk) | (go_at_call 10; (with_reducible refine (H6.out _ KK.out).mono ?_); rintro e wk ⟨rfl, hk⟩; clear ca cb cc cd ce cf; have b1 := kp_row hk B1.out; have B1 := Lib.hid b1; have b2 := kp_row hk B2.out; have B2 := Lib.hid b2; have b3 := kp_row hk B3.out; have B3 := Lib.hid b3; clear b1 b2 b3; obtain ⟨ca, cb⟩ := cell_two B1.out; obtain ⟨cc, cd⟩ := cell_two B2.out; obtain ⟨ce, cf⟩ := cell_two B3.out; have KK := Lib.hid (Kp.trans KK.out hk); clear hk))
  go_ret
  exact ⟨by first | rfl | simp, KK.out⟩

set_option maxRecDepth 20000 in
set_option maxHeartbeats 2000000 in
theorem unl_br_TTT (ads : List Addr) (nn si r0 : Int) (i_nn : I64 nn) (i_si : I64 si) (i_r0 : I64 r0) (w : World) (V : St ads w) (I : IdsC ads w) (x1 : regO nn si r0 = none) (x2 : regO nn si r0 = some (regT nn.toNat si.toNat r0.toNat)) (x3 : partO nn r0 = some (partT nn.toNat r0.toNat)) (x5 : actO nn si = some (actT nn.toNat si.toNat))  :
    Calls Tryd.prog 6 #[.agg #[.int .i64 nn, .int .i64 si], .agg #[.int .i64 nn, .int .i64 si], .agg #[.int .i64 r0, .int .i64 r0]] w fun e w' => e = .returned (.bool true) ∧ Kp w w' := by
  have HAL := Lib.hid (fun w1 (hk : Kp w w1) => alive_any ads w1 (V.below hk) (I.kp hk))
  obtain ⟨o1, ho1⟩ := errI_some ads 1 (by decide)
  have H1 := fun w1 (hk : Kp w w1) => I.reg w1 hk nn si r0 i_nn i_si i_r0
  simp only [x1, textR, ho1] at H1
  have H2 := fun w1 (hk : Kp w w1) => I.reg w1 hk nn si r0 i_nn i_si i_r0
  simp only [x2, textR] at H2
  obtain ⟨t2, ht2⟩ : ∃ x, strOfNums (regT nn.toNat si.toNat r0.toNat) = x := ⟨_, rfl⟩
  simp only [ht2] at H2
  have H3 := fun w1 (hk : Kp w w1) => I.part w1 hk nn r0 i_nn i_r0
  simp only [x3, textR] at H3
  obtain ⟨t3, ht3⟩ : ∃ x, strOfNums (partT nn.toNat r0.toNat) = x := ⟨_, rfl⟩
  simp only [ht3] at H3
  have H5 := fun w1 (hk : Kp w w1) => I.act w1 hk nn si i_nn i_si
  simp only [x5, textR] at H5
  obtain ⟨t5, ht5⟩ : ∃ x, strOfNums (actT nn.toNat si.toNat) = x := ⟨_, rfl⟩
  simp only [ht5] at H5
  have q3 : (t3.toList == t3.toList) = true := by simp
  have q5 : (t5.toList == t5.toList) = true := by simp
  have H1 := Lib.hid H1
  have H2 := Lib.hid H2
  have H3 := Lib.hid H3
  have H5 := Lib.hid H5
  clear V I i_nn i_si i_r0 x1 x2 x3 x5 ht2 ht3 ht5 ho1
  have b1 := (MapKept.heap_alloc w (.cells #[.int .i64 nn, .int .i64 si] 23)).1
  have k1 := kp_alloc w (.cells #[.int .i64 nn, .int .i64 si] 23)
  have b2 := (MapKept.heap_alloc (w.alloc (.cells #[.int .i64 nn, .int .i64 si] 23)) (.cells #[.int .i64 nn, .int .i64 si] 23)).1
  have k2 := kp_alloc (w.alloc (.cells #[.int .i64 nn, .int .i64 si] 23)) (.cells #[.int .i64 nn, .int .i64 si] 23)
  have b3 := (MapKept.heap_alloc ((w.alloc (.cells #[.int .i64 nn, .int .i64 si] 23)).alloc (.cells #[.int .i64 nn, .int .i64 si] 23)) (.cells #[.int .i64 r0, .int .i64 r0] 52)).1
  have k3 := kp_alloc ((w.alloc (.cells #[.int .i64 nn, .int .i64 si] 23)).alloc (.cells #[.int .i64 nn, .int .i64 si] 23)) (.cells #[.int .i64 r0, .int .i64 r0] 52)
  have b1 := kp_row (Kp.trans k2 k3) b1
  have b2 := kp_row k3 b2
  have KK := Lib.hid (Kp.trans k1 (Kp.trans k2 k3))
  rw [show (w.alloc (.cells #[.int .i64 nn, .int .i64 si] 23)).heap.size = w.heap.size + 1 by simp] at b2
  rw [show ((w.alloc (.cells #[.int .i64 nn, .int .i64 si] 23)).alloc (.cells #[.int .i64 nn, .int .i64 si] 23)).heap.size = w.heap.size + 1 + 1 by simp] at b3
  have B1 := Lib.hid b1
  have B2 := Lib.hid b2
  have B3 := Lib.hid b3
  clear b1 b2 b3 k1 k2 k3
  go_enter Tryd.func6, Tryd.ntmps6
  go_wp2_with (go_at_call 7; (with_reducible refine (HAL.out _ KK.out).mono ?_); rintro e w1 ⟨rfl, hk⟩; have b1 := kp_row hk B1.out; have B1 := Lib.hid b1; have b2 := kp_row hk B2.out; have B2 := Lib.hid b2; have b3 := kp_row hk B3.out; have B3 := Lib.hid b3; clear b1 b2 b3; obtain ⟨ca, cb⟩ := cell_two B1.out; obtain ⟨cc, cd⟩ := cell_two B2.out; obtain ⟨ce, cf⟩ := cell_two B3.out; have KK := Lib.hid (Kp.trans KK.out hk); clear hk)
  go_wp2_with (first | (go_at_call 11; (with_reducible refine (H1.out _ KK.out).mono ?_); rintro e wk ⟨rfl, hk⟩; clear ca cb cc cd ce cf; have b1 := kp_row hk B1.out; have B1 := Lib.hid b1; have b2 := kp_row hk B2.out; have B2 := Lib.hid b2; have b3 := kp_row hk B3.out; have B3 := Lib.hid b3; clear b1 b2 b3; obtain ⟨ca, cb⟩ := cell_two B1.out; obtain ⟨cc, cd⟩ := cell_two B2.out; obtain ⟨ce, cf⟩ := cell_two B3.out; have KK := Lib.hid (Kp.trans KK.out hk); clear hk) | (go_at_call 11; (with_reducible refine (H2.out _ KK.out).mono ?_); rintro e wk ⟨rfl, hk⟩; clear ca cb cc cd ce cf; have b1 := kp_row hk B1.out; have B1 := Lib.hid b1; have b2 := kp_row hk B2.out; have B2 := Lib.hid b2; have b3 := kp_row hk B3.out; have B3 := Lib.hid b3; clear b1 b2 b3; obtain ⟨ca, cb⟩ := cell_two B1.out; obtain ⟨cc, cd⟩ := cell_two B2.out; obtain ⟨ce, cf⟩ := cell_two B3.out; have KK := Lib.hid (Kp.trans KK.out hk); clear hk) | (go_at_call 12; (with_reducible refine (H3.out _ KK.out).mono ?_); rintro e wk ⟨rfl, hk⟩; clear ca cb cc cd ce cf; have b1 := kp_row hk B1.out; have B1 := Lib.hid b1; have b2 := kp_row hk B2.out; have B2 := Lib.hid b2; have b3 := kp_row hk B3.out; have B3 := Lib.hid b3; clear b1 b2 b3; obtain ⟨ca, cb⟩ := cell_two B1.out; obtain ⟨cc, cd⟩ := cell_two B2.out; obtain ⟨ce, cf⟩ := cell_two B3.out; have KK := Lib.hid (Kp.trans KK.out hk); clear hk) | (go_at_call 10; (with_reducible refine (H5.out _ KK.out).mono ?_); rintro e wk ⟨rfl, hk⟩; clear ca cb cc cd ce cf; have b1 := kp_row hk B1.out; have B1 := Lib.hid b1; have b2 := kp_row hk B2.out; have B2 := Lib.hid b2; have b3 := kp_row hk B3.out; have B3 := Lib.hid b3; clear b1 b2 b3; obtain ⟨ca, cb⟩ := cell_two B1.out; obtain ⟨cc, cd⟩ := cell_two B2.out; obtain ⟨ce, cf⟩ := cell_two B3.out; have KK := Lib.hid (Kp.trans KK.out hk); clear hk))
  go_ret
  exact ⟨by first | rfl | simp, KK.out⟩

set_option maxRecDepth 20000 in
set_option maxHeartbeats 2000000 in
theorem unl_br_TFF (ads : List Addr) (nn si sj r0 r1 : Int) (i_nn : I64 nn) (i_si : I64 si) (i_sj : I64 sj) (i_r0 : I64 r0) (i_r1 : I64 r1) (w : World) (V : St ads w) (I : IdsC ads w) (x1 : regO nn si r0 = none) (x2 : regO nn sj r1 = some (regT nn.toNat sj.toNat r1.toNat)) (x3 : partO nn r0 = some (partT nn.toNat r0.toNat)) (x4 : partO nn r1 = some (partT nn.toNat r1.toNat)) (x5 : actO nn si = some (actT nn.toNat si.toNat)) (x6 : actO nn sj = some (actT nn.toNat sj.toNat)) (d2 : ¬ si = sj) (d3 : ¬ r0 = r1) :
    Calls Tryd.prog 6 #[.agg #[.int .i64 nn, .int .i64 si], .agg #[.int .i64 nn, .int .i64 sj], .agg #[.int .i64 r0, .int .i64 r1]] w fun e w' => e = .returned (.bool true) ∧ Kp w w' := by
  have HAL := Lib.hid (fun w1 (hk : Kp w w1) => alive_any ads w1 (V.below hk) (I.kp hk))
  obtain ⟨o1, ho1⟩ := errI_some ads 1 (by decide)
  have H1 := fun w1 (hk : Kp w w1) => I.reg w1 hk nn si r0 i_nn i_si i_r0
  simp only [x1, textR, ho1] at H1
  have H2 := fun w1 (hk : Kp w w1) => I.reg w1 hk nn sj r1 i_nn i_sj i_r1
  simp only [x2, textR] at H2
  obtain ⟨t2, ht2⟩ : ∃ x, strOfNums (regT nn.toNat sj.toNat r1.toNat) = x := ⟨_, rfl⟩
  simp only [ht2] at H2
  have H3 := fun w1 (hk : Kp w w1) => I.part w1 hk nn r0 i_nn i_r0
  simp only [x3, textR] at H3
  obtain ⟨t3, ht3⟩ : ∃ x, strOfNums (partT nn.toNat r0.toNat) = x := ⟨_, rfl⟩
  simp only [ht3] at H3
  have H4 := fun w1 (hk : Kp w w1) => I.part w1 hk nn r1 i_nn i_r1
  simp only [x4, textR] at H4
  obtain ⟨t4, ht4⟩ : ∃ x, strOfNums (partT nn.toNat r1.toNat) = x := ⟨_, rfl⟩
  simp only [ht4] at H4
  have H5 := fun w1 (hk : Kp w w1) => I.act w1 hk nn si i_nn i_si
  simp only [x5, textR] at H5
  obtain ⟨t5, ht5⟩ : ∃ x, strOfNums (actT nn.toNat si.toNat) = x := ⟨_, rfl⟩
  simp only [ht5] at H5
  have H6 := fun w1 (hk : Kp w w1) => I.act w1 hk nn sj i_nn i_sj
  simp only [x6, textR] at H6
  obtain ⟨t6, ht6⟩ : ∃ x, strOfNums (actT nn.toNat sj.toNat) = x := ⟨_, rfl⟩
  simp only [ht6] at H6
  have q3 : (t3.toList == t4.toList) = false := by
    rw [← ht3, ← ht4]
    refine strs_no (fun h => ?_)
    have a := partO_some x3
    have b := partO_some x4
    have c := part_inj (by omega) (by omega) (by omega) (by omega) (str_inj (partT_in _ _) (partT_in _ _) h)
    omega
  have q5 : (t5.toList == t6.toList) = false := by
    rw [← ht5, ← ht6]
    refine strs_no (fun h => ?_)
    have a := actO_some x5
    have b := actO_some x6
    have c := act_inj (by omega) (by omega) (by omega) (by omega) (str_inj (actT_in _ _) (actT_in _ _) h)
    omega
  have d4 : (r0 == r1) = false := beq_eq_false_iff_ne.2 d3
  have H1 := Lib.hid H1
  have H2 := Lib.hid H2
  have H3 := Lib.hid H3
  have H4 := Lib.hid H4
  have H5 := Lib.hid H5
  have H6 := Lib.hid H6
  clear V I i_nn i_si i_sj i_r0 i_r1 x1 x2 x3 x4 x5 x6 ht2 ht3 ht4 ht5 ht6 ho1
  have b1 := (MapKept.heap_alloc w (.cells #[.int .i64 nn, .int .i64 si] 23)).1
  have k1 := kp_alloc w (.cells #[.int .i64 nn, .int .i64 si] 23)
  have b2 := (MapKept.heap_alloc (w.alloc (.cells #[.int .i64 nn, .int .i64 si] 23)) (.cells #[.int .i64 nn, .int .i64 sj] 23)).1
  have k2 := kp_alloc (w.alloc (.cells #[.int .i64 nn, .int .i64 si] 23)) (.cells #[.int .i64 nn, .int .i64 sj] 23)
  have b3 := (MapKept.heap_alloc ((w.alloc (.cells #[.int .i64 nn, .int .i64 si] 23)).alloc (.cells #[.int .i64 nn, .int .i64 sj] 23)) (.cells #[.int .i64 r0, .int .i64 r1] 52)).1
  have k3 := kp_alloc ((w.alloc (.cells #[.int .i64 nn, .int .i64 si] 23)).alloc (.cells #[.int .i64 nn, .int .i64 sj] 23)) (.cells #[.int .i64 r0, .int .i64 r1] 52)
  have b1 := kp_row (Kp.trans k2 k3) b1
  have b2 := kp_row k3 b2
  have KK := Lib.hid (Kp.trans k1 (Kp.trans k2 k3))
  rw [show (w.alloc (.cells #[.int .i64 nn, .int .i64 si] 23)).heap.size = w.heap.size + 1 by simp] at b2
  rw [show ((w.alloc (.cells #[.int .i64 nn, .int .i64 si] 23)).alloc (.cells #[.int .i64 nn, .int .i64 sj] 23)).heap.size = w.heap.size + 1 + 1 by simp] at b3
  have B1 := Lib.hid b1
  have B2 := Lib.hid b2
  have B3 := Lib.hid b3
  clear b1 b2 b3 k1 k2 k3
  go_enter Tryd.func6, Tryd.ntmps6
  go_wp2_with (go_at_call 7; (with_reducible refine (HAL.out _ KK.out).mono ?_); rintro e w1 ⟨rfl, hk⟩; have b1 := kp_row hk B1.out; have B1 := Lib.hid b1; have b2 := kp_row hk B2.out; have B2 := Lib.hid b2; have b3 := kp_row hk B3.out; have B3 := Lib.hid b3; clear b1 b2 b3; obtain ⟨ca, cb⟩ := cell_two B1.out; obtain ⟨cc, cd⟩ := cell_two B2.out; obtain ⟨ce, cf⟩ := cell_two B3.out; have KK := Lib.hid (Kp.trans KK.out hk); clear hk)
  go_wp2_with (first | (go_at_call 11; (with_reducible refine (H1.out _ KK.out).mono ?_); rintro e wk ⟨rfl, hk⟩; clear ca cb cc cd ce cf; have b1 := kp_row hk B1.out; have B1 := Lib.hid b1; have b2 := kp_row hk B2.out; have B2 := Lib.hid b2; have b3 := kp_row hk B3.out; have B3 := Lib.hid b3; clear b1 b2 b3; obtain ⟨ca, cb⟩ := cell_two B1.out; obtain ⟨cc, cd⟩ := cell_two B2.out; obtain ⟨ce, cf⟩ := cell_two B3.out; have KK := Lib.hid (Kp.trans KK.out hk); clear hk) | (go_at_call 11; (with_reducible refine (H2.out _ KK.out).mono ?_); rintro e wk ⟨rfl, hk⟩; clear ca cb cc cd ce cf; have b1 := kp_row hk B1.out; have B1 := Lib.hid b1; have b2 := kp_row hk B2.out; have B2 := Lib.hid b2; have b3 := kp_row hk B3.out; have B3 := Lib.hid b3; clear b1 b2 b3; obtain ⟨ca, cb⟩ := cell_two B1.out; obtain ⟨cc, cd⟩ := cell_two B2.out; obtain ⟨ce, cf⟩ := cell_two B3.out; have KK := Lib.hid (Kp.trans KK.out hk); clear hk) | (go_at_call 12; (with_reducible refine (H3.out _ KK.out).mono ?_); rintro e wk ⟨rfl, hk⟩; clear ca cb cc cd ce cf; have b1 := kp_row hk B1.out; have B1 := Lib.hid b1; have b2 := kp_row hk B2.out; have B2 := Lib.hid b2; have b3 := kp_row hk B3.out; have B3 := Lib.hid b3; clear b1 b2 b3; obtain ⟨ca, cb⟩ := cell_two B1.out; obtain ⟨cc, cd⟩ := cell_two B2.out; obtain ⟨ce, cf⟩ := cell_two B3.out; have KK := Lib.hid (Kp.trans KK.out hk); clear hk) | (go_at_call 12; (with_reducible refine (H4.out _ KK.out).mono ?_); rintro e wk ⟨rfl, hk⟩; clear ca cb cc cd ce cf; have b1 := kp_row hk B1.out; have B1 := Lib.hid b1; have b2 := kp_row hk B2.out; have B2 := Lib.hid b2; have b3 := kp_row hk B3.out; have B3 := Lib.hid b3; clear b1 b2 b3; obtain ⟨ca, cb⟩ := cell_two B1.out; obtain ⟨cc, cd⟩ := cell_two B2.out; obtain ⟨ce, cf⟩ := cell_two B3.out; have KK := Lib.hid (Kp.trans KK.out hk); clear hk) | (go_at_call 10; (with_reducible refine (H5.out _ KK.out).mono ?_); rintro e wk ⟨rfl, hk⟩; clear ca cb cc cd ce cf; have b1 := kp_row hk B1.out; have B1 := Lib.hid b1; have b2 := kp_row hk B2.out; have B2 := Lib.hid b2; have b3 := kp_row hk B3.out; have B3 := Lib.hid b3; clear b1 b2 b3; obtain ⟨ca, cb⟩ := cell_two B1.out; obtain ⟨cc, cd⟩ := cell_two B2.out; obtain ⟨ce, cf⟩ := cell_two B3.out; have KK := Lib.hid (Kp.trans KK.out hk); clear hk) | (go_at_call 10; (with_reducible refine (H6.out _ KK.out).mono ?_); rintro e wk ⟨rfl, hk⟩; clear ca cb cc cd ce cf; have b1 := kp_row hk B1.out; have B1 := Lib.hid b1; have b2 := kp_row hk B2.out; have B2 := Lib.hid b2; have b3 := kp_row hk B3.out; have B3 := Lib.hid b3; clear b1 b2 b3; obtain ⟨ca, cb⟩ := cell_two B1.out; obtain ⟨cc, cd⟩ := cell_two B2.out; obtain ⟨ce, cf⟩ := cell_two B3.out; have KK := Lib.hid (Kp.trans KK.out hk); clear hk))
  go_ret
  exact ⟨by first | rfl | simp, KK.out⟩

set_option maxRecDepth 20000 in
set_option maxHeartbeats 2000000 in
theorem unl_rp_TxT (ads : List Addr) (nn si sj r0 : Int) (i_nn : I64 nn) (i_si : I64 si) (i_sj : I64 sj) (i_r0 : I64 r0) (w : World) (V : St ads w) (I : IdsC ads w) (x1 : regO nn si r0 = some (regT nn.toNat si.toNat r0.toNat)) (x2 : regO nn sj r0 = none) (x3 : partO nn r0 = some (partT nn.toNat r0.toNat)) (x5 : actO nn si = some (actT nn.toNat si.toNat)) (x6 : actO nn sj = none)  :
    Calls Tryd.prog 6 #[.agg #[.int .i64 nn, .int .i64 si], .agg #[.int .i64 nn, .int .i64 sj], .agg #[.int .i64 r0, .int .i64 r0]] w fun e w' => e = .returned (.bool true) ∧ Kp w w' := by
  have HAL := Lib.hid (fun w1 (hk : Kp w w1) => alive_any ads w1 (V.below hk) (I.kp hk))
  obtain ⟨o1, ho1⟩ := errI_some ads 1 (by decide)
  have H1 := fun w1 (hk : Kp w w1) => I.reg w1 hk nn si r0 i_nn i_si i_r0
  simp only [x1, textR] at H1
  obtain ⟨t1, ht1⟩ : ∃ x, strOfNums (regT nn.toNat si.toNat r0.toNat) = x := ⟨_, rfl⟩
  simp only [ht1] at H1
  have H2 := fun w1 (hk : Kp w w1) => I.reg w1 hk nn sj r0 i_nn i_sj i_r0
  simp only [x2, textR, ho1] at H2
  have H3 := fun w1 (hk : Kp w w1) => I.part w1 hk nn r0 i_nn i_r0
  simp only [x3, textR] at H3
  obtain ⟨t3, ht3⟩ : ∃ x, strOfNums (partT nn.toNat r0.toNat) = x := ⟨_, rfl⟩
  simp only [ht3] at H3
  have H5 := fun w1 (hk : Kp w w1) => I.act w1 hk nn si i_nn i_si
  simp only [x5, textR] at H5
  obtain ⟨t5, ht5⟩ : ∃ x, strOfNums (actT nn.toNat si.toNat) = x := ⟨_, rfl⟩
  simp only [ht5] at H5
  have H6 := fun w1 (hk : Kp w w1) => I.act w1 hk nn sj i_nn i_sj
  simp only [x6, textR, ho1] at H6
  have q3 : (t3.toList == t3.toList) = true := by simp
  have H1 := Lib.hid H1
  have H2 := Lib.hid H2
  have H3 := Lib.hid H3
  have H5 := Lib.hid H5
  have H6 := Lib.hid H6
  clear V I i_nn i_si i_sj i_r0 x1 x2 x3 x5 x6 ht1 ht3 ht5 ho1
  have b1 := (MapKept.heap_alloc w (.cells #[.int .i64 nn, .int .i64 si] 23)).1
  have k1 := kp_alloc w (.cells #[.int .i64 nn, .int .i64 si] 23)
  have b2 := (MapKept.heap_alloc (w.alloc (.cells #[.int .i64 nn, .int .i64 si] 23)) (.cells #[.int .i64 nn, .int .i64 sj] 23)).1
  have k2 := kp_alloc (w.alloc (.cells #[.int .i64 nn, .int .i64 si] 23)) (.cells #[.int .i64 nn, .int .i64 sj] 23)
  have b3 := (MapKept.heap_alloc ((w.alloc (.cells #[.int .i64 nn, .int .i64 si] 23)).alloc (.cells #[.int .i64 nn, .int .i64 sj] 23)) (.cells #[.int .i64 r0, .int .i64 r0] 52)).1
  have k3 := kp_alloc ((w.alloc (.cells #[.int .i64 nn, .int .i64 si] 23)).alloc (.cells #[.int .i64 nn, .int .i64 sj] 23)) (.cells #[.int .i64 r0, .int .i64 r0] 52)
  have b1 := kp_row (Kp.trans k2 k3) b1
  have b2 := kp_row k3 b2
  have KK := Lib.hid (Kp.trans k1 (Kp.trans k2 k3))
  rw [show (w.alloc (.cells #[.int .i64 nn, .int .i64 si] 23)).heap.size = w.heap.size + 1 by simp] at b2
  rw [show ((w.alloc (.cells #[.int .i64 nn, .int .i64 si] 23)).alloc (.cells #[.int .i64 nn, .int .i64 sj] 23)).heap.size = w.heap.size + 1 + 1 by simp] at b3
  have B1 := Lib.hid b1
  have B2 := Lib.hid b2
  have B3 := Lib.hid b3
  clear b1 b2 b3 k1 k2 k3
  go_enter Tryd.func6, Tryd.ntmps6
  go_wp2_with (go_at_call 7; (with_reducible refine (HAL.out _ KK.out).mono ?_); rintro e w1 ⟨rfl, hk⟩; have b1 := kp_row hk B1.out; have B1 := Lib.hid b1; have b2 := kp_row hk B2.out; have B2 := Lib.hid b2; have b3 := kp_row hk B3.out; have B3 := Lib.hid b3; clear b1 b2 b3; obtain ⟨ca, cb⟩ := cell_two B1.out; obtain ⟨cc, cd⟩ := cell_two B2.out; obtain ⟨ce, cf⟩ := cell_two B3.out; have KK := Lib.hid (Kp.trans KK.out hk); clear hk)
  go_wp2_with (first | (go_at_call 11; (with_reducible refine (H1.out _ KK.out).mono ?_); rintro e wk ⟨rfl, hk⟩; clear ca cb cc cd ce cf; have b1 := kp_row hk B1.out; have B1 := Lib.hid b1; have b2 := kp_row hk B2.out; have B2 := Lib.hid b2; have b3 := kp_row hk B3.out; have B3 := Lib.hid b3; clear b1 b2 b3; obtain ⟨ca, cb⟩ := cell_two B1.out; obtain ⟨cc, cd⟩ := cell_two B2.out; obtain ⟨ce, cf⟩ := cell_two B3.out; have KK := Lib.hid (Kp.trans KK.out hk); clear hk) | (go_at_call 11; (with_reducible refine (H2.out _ KK.out).mono ?_); rintro e wk ⟨rfl, hk⟩; clear ca cb cc cd ce cf; have b1 := kp_row hk B1.out; have B1 := Lib.hid b1; have b2 := kp_row hk B2.out; have B2 := Lib.hid b2; have b3 := kp_row hk B3.out; have B3 := Lib.hid b3; clear b1 b2 b3; obtain ⟨ca, cb⟩ := cell_two B1.out; obtain ⟨cc, cd⟩ := cell_two B2.out; obtain ⟨ce, cf⟩ := cell_two B3.out; have KK := Lib.hid (Kp.trans KK.out hk); clear hk) | (go_at_call 12; (with_reducible refine (H3.out _ KK.out).mono ?_); rintro e wk ⟨rfl, hk⟩; clear ca cb cc cd ce cf; have b1 := kp_row hk B1.out; have B1 := Lib.hid b1; have b2 := kp_row hk B2.out; have B2 := Lib.hid b2; have b3 := kp_row hk B3.out; have B3 := Lib.hid b3; clear b1 b2 b3; obtain ⟨ca, cb⟩ := cell_two B1.out; obtain ⟨cc, cd⟩ := cell_two B2.out; obtain ⟨ce, cf⟩ := cell_two B3.out; have KK := Lib.hid (Kp.trans KK.out hk); clear hk) | (go_at_call 10; (with_reducible refine (H5.out _ KK.out).mono ?_); rintro e wk ⟨rfl, hk⟩; clear ca cb cc cd ce cf; have b1 := kp_row hk B1.out; have B1 := Lib.hid b1; have b2 := kp_row hk B2.out; have B2 := Lib.hid b2; have b3 := kp_row hk B3.out; have B3 := Lib.hid b3; clear b1 b2 b3; obtain ⟨ca, cb⟩ := cell_two B1.out; obtain ⟨cc, cd⟩ := cell_two B2.out; obtain ⟨ce, cf⟩ := cell_two B3.out; have KK := Lib.hid (Kp.trans KK.out hk); clear hk) | (go_at_call 10; (with_reducible refine (H6.out _ KK.out).mono ?_); rintro e wk ⟨rfl, hk⟩; clear ca cb cc cd ce cf; have b1 := kp_row hk B1.out; have B1 := Lib.hid b1; have b2 := kp_row hk B2.out; have B2 := Lib.hid b2; have b3 := kp_row hk B3.out; have B3 := Lib.hid b3; clear b1 b2 b3; obtain ⟨ca, cb⟩ := cell_two B1.out; obtain ⟨cc, cd⟩ := cell_two B2.out; obtain ⟨ce, cf⟩ := cell_two B3.out; have KK := Lib.hid (Kp.trans KK.out hk); clear hk))
  go_ret
  exact ⟨by first | rfl | simp, KK.out⟩

set_option maxRecDepth 20000 in
set_option maxHeartbeats 2000000 in
theorem unl_ra_TTx (ads : List Addr) (nn si r0 r1 : Int) (i_nn : I64 nn) (i_si : I64 si) (i_r0 : I64 r0) (i_r1 : I64 r1) (w : World) (V : St ads w) (I : IdsC ads w) (x1 : regO nn si r0 = some (regT nn.toNat si.toNat r0.toNat)) (x2 : regO nn si r1 = none) (x3 : partO nn r0 = some (partT nn.toNat r0.toNat)) (x4 : partO nn r1 = none) (x5 : actO nn si = some (actT nn.toNat si.toNat))  :
    Calls Tryd.prog 6 #[.agg #[.int .i64 nn, .int .i64 si], .agg #[.int .i64 nn, .int .i64 si], .agg #[.int .i64 r0, .int .i64 r1]] w fun e w' => e = .returned (.bool true) ∧ Kp w w' := by
  have HAL := Lib.hid (fun w1 (hk : Kp w w1) => alive_any ads w1 (V.below hk) (I.kp hk))
  obtain ⟨o1, ho1⟩ := errI_some ads 1 (by decide)
  have H1 := fun w1 (hk : Kp w w1) => I.reg w1 hk nn si r0 i_nn i_si i_r0
  simp only [x1, textR] at H1
  obtain ⟨t1, ht1⟩ : ∃ x, strOfNums (regT nn.toNat si.toNat r0.toNat) = x := ⟨_, rfl⟩
  simp only [ht1] at H1
  have H2 := fun w1 (hk : Kp w w1) => I.reg w1 hk nn si r1 i_nn i_si i_r1
  simp only [x2, textR, ho1] at H2
  have H3 := fun w1 (hk : Kp w w1) => I.part w1 hk nn r0 i_nn i_r0
  simp only [x3, textR] at H3
  obtain ⟨t3, ht3⟩ : ∃ x, strOfNums (partT nn.toNat r0.toNat) = x := ⟨_, rfl⟩
  simp only [ht3] at H3
  have H4 := fun w1 (hk : Kp w w1) => I.part w1 hk nn r1 i_nn i_r1
  simp only [x4, textR, ho1] at H4
  have H5 := fun w1 (hk : Kp w w1) => I.act w1 hk nn si i_nn i_si
  simp only [x5, textR] at H5
  obtain ⟨t5, ht5⟩ : ∃ x, strOfNums (actT nn.toNat si.toNat) = x := ⟨_, rfl⟩
  simp only [ht5] at H5
  have q5 : (t5.toList == t5.toList) = true := by simp
  have H1 := Lib.hid H1
  have H2 := Lib.hid H2
  have H3 := Lib.hid H3
  have H4 := Lib.hid H4
  have H5 := Lib.hid H5
  clear V I i_nn i_si i_r0 i_r1 x1 x2 x3 x4 x5 ht1 ht3 ht5 ho1
  have b1 := (MapKept.heap_alloc w (.cells #[.int .i64 nn, .int .i64 si] 23)).1
  have k1 := kp_alloc w (.cells #[.int .i64 nn, .int .i64 si] 23)
  have b2 := (MapKept.heap_alloc (w.alloc (.cells #[.int .i64 nn, .int .i64 si] 23)) (.cells #[.int .i64 nn, .int .i64 si] 23)).1
  have k2 := kp_alloc (w.alloc (.cells #[.int .i64 nn, .int .i64 si] 23)) (.cells #[.int .i64 nn, .int .i64 si] 23)
  have b3 := (MapKept.heap_alloc ((w.alloc (.cells #[.int .i64 nn, .int .i64 si] 23)).alloc (.cells #[.int .i64 nn, .int .i64 si] 23)) (.cells #[.int .i64 r0, .int .i64 r1] 52)).1
  have k3 := kp_alloc ((w.alloc (.cells #[.int .i64 nn, .int .i64 si] 23)).alloc (.cells #[.int .i64 nn, .int .i64 si] 23)) (.cells #[.int .i64 r0, .int .i64 r1] 52)
  have b1 := kp_row (Kp.trans k2 k3) b1
  have b2 := kp_row k3 b2
  have KK := Lib.hid (Kp.trans k1 (Kp.trans k2 k3))
  rw [show (w.alloc (.cells #[.int .i64 nn, .int .i64 si] 23)).heap.size = w.heap.size + 1 by simp] at b2
  rw [show ((w.alloc (.cells #[.int .i64 nn, .int .i64 si] 23)).alloc (.cells #[.int .i64 nn, .int .i64 si] 23)).heap.size = w.heap.size + 1 + 1 by simp] at b3
  have B1 := Lib.hid b1
  have B2 := Lib.hid b2
  have B3 := Lib.hid b3
  clear b1 b2 b3 k1 k2 k3
  go_enter Tryd.func6, Tryd.ntmps6
  go_wp2_with (go_at_call 7; (with_reducible refine (HAL.out _ KK.out).mono ?_); rintro e w1 ⟨rfl, hk⟩; have b1 := kp_row hk B1.out; have B1 := Lib.hid b1; have b2 := kp_row hk B2.out; have B2 := Lib.hid b2; have b3 := kp_row hk B3.out; have B3 := Lib.hid b3; clear b1 b2 b3; obtain ⟨ca, cb⟩ := cell_two B1.out; obtain ⟨cc, cd⟩ := cell_two B2.out; obtain ⟨ce, cf⟩ := cell_two B3.out; have KK := Lib.hid (Kp.trans KK.out hk); clear hk)
  go_wp2_with (first | (go_at_call 11; (with_reducible refine (H1.out _ KK.out).mono ?_); rintro e wk ⟨rfl, hk⟩; clear ca cb cc cd ce cf; have b1 := kp_row hk B1.out; have B1 := Lib.hid b1; have b2 := kp_row hk B2.out; have B2 := Lib.hid b2; have b3 := kp_row hk B3.out; have B3 := Lib.hid b3; clear b1 b2 b3; obtain ⟨ca, cb⟩ := cell_two B1.out; obtain ⟨cc, cd⟩ := cell_two B2.out; obtain ⟨ce, cf⟩ := cell_two B3.out; have KK := Lib.hid (Kp.trans KK.out hk); clear hk) | (go_at_call 11; (with_reducible refine (H2.out _ KK.out).mono ?_); rintro e wk ⟨rfl, hk⟩; clear ca cb cc cd ce cf; have b1 := kp_row hk B1.out; have B1 := Lib.hid b1; have b2 := kp_row hk B2.out; have B2 := Lib.hid b2; have b3 := kp_row hk B3.out; have B3 := Lib.hid b3; clear b1 b2 b3; obtain ⟨ca, cb⟩ := cell_two B1.out; obtain ⟨cc, cd⟩ := cell_two B2.out; obtain ⟨ce, cf⟩ := cell_two B3.out; have KK := Lib.hid (Kp.trans KK.out hk); clear hk) | (go_at_call 12; (with_reducible refine (H3.out _ KK.out).mono ?_); rintro e wk ⟨rfl, hk⟩; clear ca cb cc cd ce cf; have b1 := kp_row hk B1.out; have B1 := Lib.hid b1; have b2 := kp_row hk B2.out; have B2 := Lib.hid b2; have b3 := kp_row hk B3.out; have B3 := Lib.hid b3; clear b1 b2 b3; obtain ⟨ca, cb⟩ := cell_two B1.out; obtain ⟨cc, cd⟩ := cell_two B2.out; obtain ⟨ce, cf⟩ := cell_two B3.out; have KK := Lib.hid (Kp.trans KK.out hk); clear hk) | (go_at_call 12; (with_reducible refine (H4.out _ KK.out).mono ?_); rintro e wk ⟨rfl, hk⟩; clear ca cb cc cd ce cf; have b1 := kp_row hk B1.out; have B1 := Lib.hid b1; have b2 := kp_row hk B2.out; have B2 := Lib.hid b2; have b3 := kp_row hk B3.out; have B3 := Lib.hid b3; clear b1 b2 b3; obtain ⟨ca, cb⟩ := cell_two B1.out; obtain ⟨cc, cd⟩ := cell_two B2.out; obtain ⟨ce, cf⟩ := cell_two B3.out; have KK := Lib.hid (Kp.trans KK.out hk); clear hk) | (go_at_call 10; (with_reducible refine (H5.out _ KK.out).mono ?_); rintro e wk ⟨rfl, hk⟩; clear ca cb cc cd ce cf; have b1 := kp_row hk B1.out; have B1 := Lib.hid b1; have b2 := kp_row hk B2.out; have B2 := Lib.hid b2; have b3 := kp_row hk B3.out; have B3 := Lib.hid b3; clear b1 b2 b3; obtain ⟨ca, cb⟩ := cell_two B1.out; obtain ⟨cc, cd⟩ := cell_two B2.out; obtain ⟨ce, cf⟩ := cell_two B3.out; have KK := Lib.hid (Kp.trans KK.out hk); clear hk))
  go_ret
  exact ⟨by first | rfl | simp, KK.out⟩

set_option maxRecDepth 20000 in
set_option maxHeartbeats 2000000 in
theorem unl_rb_TTT (ads : List Addr) (nn si r0 : Int) (i_nn : I64 nn) (i_si : I64 si) (i_r0 : I64 r0) (w : World) (V : St ads w) (I : IdsC ads w) (x1 : regO nn si r0 = some (regT nn.toNat si.toNat r0.toNat)) (x2 : regO nn si r0 = none) (x3 : partO nn r0 = some (partT nn.toNat r0.toNat)) (x5 : actO nn si = some (actT nn.toNat si.toNat))  :
    Calls Tryd.prog 6 #[.agg #[.int .i64 nn, .int .i64 si], .agg #[.int .i64 nn, .int .i64 si], .agg #[.int .i64 r0, .int .i64 r0]] w fun e w' => e = .returned (.bool true) ∧ Kp w w' := by
  have HAL := Lib.hid (fun w1 (hk : Kp w w1) => alive_any ads w1 (V.below hk) (I.kp hk))
  obtain ⟨o1, ho1⟩ := errI_some ads 1 (by decide)
  have H1 := fun w1 (hk : Kp w w1) => I.reg w1 hk nn si r0 i_nn i_si i_r0
  simp only [x1, textR] at H1
  obtain ⟨t1, ht1⟩ : ∃ x, strOfNums (regT nn.toNat si.toNat r0.toNat) = x := ⟨_, rfl⟩
  simp only [ht1] at H1
  have H2 := fun w1 (hk : Kp w w1) => I.reg w1 hk nn si r0 i_nn i_si i_r0
  simp only [x2, textR, ho1] at H2
  have H3 := fun w1 (hk : Kp w w1) => I.part w1 hk nn r0 i_nn i_r0
  simp only [x3, textR] at H3
  obtain ⟨t3, ht3⟩ : ∃ x, strOfNums (partT nn.toNat r0.toNat) = x := ⟨_, rfl⟩
  simp only [ht3] at H3
  have H5 := fun w1 (hk : Kp w w1) => I.act w1 hk nn si i_nn i_si
  simp only [x5, textR] at H5
  obtain ⟨t5, ht5⟩ : ∃ x, strOfNums (actT nn.toNat si.toNat) = x := ⟨_, rfl⟩
  simp only [ht5] at H5
  have q3 : (t3.toList == t3.toList) = true := by simp
  have q5 : (t5.toList == t5.toList) = true := by simp
  have H1 := Lib.hid H1
  have H2 := Lib.hid H2
  have H3 := Lib.hid H3
  have H5 := Lib.hid H5
  clear V I i_nn i_si i_r0 x1 x2 x3 x5 ht1 ht3 ht5 ho1
  have b1 := (MapKept.heap_alloc w (.cells #[.int .i64 nn, .int .i64 si] 23)).1
  have k1 := kp_alloc w (.cells #[.int .i64 nn, .int .i64 si] 23)
  have b2 := (MapKept.heap_alloc (w.alloc (.cells #[.int .i64 nn, .int .i64 si] 23)) (.cells #[.int .i64 nn, .int .i64 si] 23)).1
  have k2 := kp_alloc (w.alloc (.cells #[.int .i64 nn, .int .i64 si] 23)) (.cells #[.int .i64 nn, .int .i64 si] 23)
  have b3 := (MapKept.heap_alloc ((w.alloc (.cells #[.int .i64 nn, .int .i64 si] 23)).alloc (.cells #[.int .i64 nn, .int .i64 si] 23)) (.cells #[.int .i64 r0, .int .i64 r0] 52)).1
  have k3 := kp_alloc ((w.alloc (.cells #[.int .i64 nn, .int .i64 si] 23)).alloc (.cells #[.int .i64 nn, .int .i64 si] 23)) (.cells #[.int .i64 r0, .int .i64 r0] 52)
  have b1 := kp_row (Kp.trans k2 k3) b1
  have b2 := kp_row k3 b2
  have KK := Lib.hid (Kp.trans k1 (Kp.trans k2 k3))
  rw [show (w.alloc (.cells #[.int .i64 nn, .int .i64 si] 23)).heap.size = w.heap.size + 1 by simp] at b2
  rw [show ((w.alloc (.cells #[.int .i64 nn, .int .i64 si] 23)).alloc (.cells #[.int .i64 nn, .int .i64 si] 23)).heap.size = w.heap.size + 1 + 1 by simp] at b3
  have B1 := Lib.hid b1
  have B2 := Lib.hid b2
  have B3 := Lib.hid b3
  clear b1 b2 b3 k1 k2 k3
  go_enter Tryd.func6, Tryd.ntmps6
  go_wp2_with (go_at_call 7; (with_reducible refine (HAL.out _ KK.out).mono ?_); rintro e w1 ⟨rfl, hk⟩; have b1 := kp_row hk B1.out; have B1 := Lib.hid b1; have b2 := kp_row hk B2.out; have B2 := Lib.hid b2; have b3 := kp_row hk B3.out; have B3 := Lib.hid b3; clear b1 b2 b3; obtain ⟨ca, cb⟩ := cell_two B1.out; obtain ⟨cc, cd⟩ := cell_two B2.out; obtain ⟨ce, cf⟩ := cell_two B3.out; have KK := Lib.hid (Kp.trans KK.out hk); clear hk)
  go_wp2_with (first | (go_at_call 11; (with_reducible refine (H1.out _ KK.out).mono ?_); rintro e wk ⟨rfl, hk⟩; clear ca cb cc cd ce cf; have b1 := kp_row hk B1.out; have B1 := Lib.hid b1; have b2 := kp_row hk B2.out; have B2 := Lib.hid b2; have b3 := kp_row hk B3.out; have B3 := Lib.hid b3; clear b1 b2 b3; obtain ⟨ca, cb⟩ := cell_two B1.out; obtain ⟨cc, cd⟩ := cell_two B2.out; obtain ⟨ce, cf⟩ := cell_two B3.out; have KK := Lib.hid (Kp.trans KK.out hk); clear hk) | (go_at_call 11; (with_reducible refine (H2.out _ KK.out).mono ?_); rintro e wk ⟨rfl, hk⟩; clear ca cb cc cd ce cf; have b1 := kp_row hk B1.out; have B1 := Lib.hid b1; have b2 := kp_row hk B2.out; have B2 := Lib.hid b2; have b3 := kp_row hk B3.out; have B3 := Lib.hid b3; clear b1 b2 b3; obtain ⟨ca, cb⟩ := cell_two B1.out; obtain ⟨cc, cd⟩ := cell_two B2.out; obtain ⟨ce, cf⟩ := cell_two B3.out; have KK := Lib.hid (Kp.trans KK.out hk); clear hk) | (go_at_call 12; (with_reducible refine (H3.out _ KK.out).mono ?_); rintro e wk ⟨rfl, hk⟩; clear ca cb cc cd ce cf; have b1 := kp_row hk B1.out; have B1 := Lib.hid b1; have b2 := kp_row hk B2.out; have B2 := Lib.hid b2; have b3 := kp_row hk B3.out; have B3 := Lib.hid b3; clear b1 b2 b3; obtain ⟨ca, cb⟩ := cell_two B1.out; obtain ⟨cc, cd⟩ := cell_two B2.out; obtain ⟨ce, cf⟩ := cell_two B3.out; have KK := Lib.hid (Kp.trans KK.out hk); clear hk) | (go_at_call 10; (with_reducible refine (H5.out _ KK.out).mono ?_); rintro e wk ⟨rfl, hk⟩; clear ca cb cc cd ce cf; have b1 := kp_row hk B1.out; have B1 := Lib.hid b1; have b2 := kp_row hk B2.out; have B2 := Lib.hid b2; have b3 := kp_row hk B3.out; have B3 := Lib.hid b3; clear b1 b2 b3; obtain ⟨ca, cb⟩ := cell_two B1.out; obtain ⟨cc, cd⟩ := cell_two B2.out; obtain ⟨ce, cf⟩ := cell_two B3.out; have KK := Lib.hid (Kp.trans KK.out hk); clear hk))
  go_ret
  exact ⟨by first | rfl | simp, KK.out⟩

set_option maxRecDepth 20000 in
set_option maxHeartbeats 2000000 in
theorem unl_rb_TFF (ads : List Addr) (nn si sj r0 r1 : Int) (i_nn : I64 nn) (i_si : I64 si) (i_sj : I64 sj) (i_r0 : I64 r0) (i_r1 : I64 r1) (w : World) (V : St ads w) (I : IdsC ads w) (x1 : regO nn si r0 = some (regT nn.toNat si.toNat r0.toNat)) (x2 : regO nn sj r1 = none) (x3 : partO nn r0 = some (partT nn.toNat r0.toNat)) (x4 : partO nn r1 = some (partT nn.toNat r1.toNat)) (x5 : actO nn si = some (actT nn.toNat si.toNat)) (x6 : actO nn sj = some (actT nn.toNat sj.toNat)) (d2 : ¬ si = sj) (d3 : ¬ r0 = r1) :
    Calls Tryd.prog 6 #[.agg #[.int .i64 nn, .int .i64 si], .agg #[.int .i64 nn, .int .i64 sj], .agg #[.int .i64 r0, .int .i64 r1]] w fun e w' => e = .returned (.bool true) ∧ Kp w w' := by
  have HAL := Lib.hid (fun w1 (hk : Kp w w1) => alive_any ads w1 (V.below hk) (I.kp hk))
  obtain ⟨o1, ho1⟩ := errI_some ads 1 (by decide)
  have H1 := fun w1 (hk : Kp w w1) => I.reg w1 hk nn si r0 i_nn i_si i_r0
  simp only [x1, textR] at H1
  obtain ⟨t1, ht1⟩ : ∃ x, strOfNums (regT nn.toNat si.toNat r0.toNat) = x := ⟨_, rfl⟩
  simp only [ht1] at H1
  have H2 := fun w1 (hk : Kp w w1) => I.reg w1 hk nn sj r1 i_nn i_sj i_r1
  simp only [x2, textR, ho1] at H2
  have H3 := fun w1 (hk : Kp w w1) => I.part w1 hk nn r0 i_nn i_r0
  simp only [x3, textR] at H3
  obtain ⟨t3, ht3⟩ : ∃ x, strOfNums (partT nn.toNat r0.toNat) = x := ⟨_, rfl⟩
  simp only [ht3] at H3
  have H4 := fun w1 (hk : Kp w w1) => I.part w1 hk nn r1 i_nn i_r1
  simp only [x4, textR] at H4
  obtain ⟨t4, ht4⟩ : ∃ x, strOfNums (partT nn.toNat r1.toNat) = x := ⟨_, rfl⟩
  simp only [ht4] at H4
  have H5 := fun w1 (hk : Kp w w1) => I.act w1 hk nn si i_nn i_si
  simp only [x5, textR] at H5
  obtain ⟨t5, ht5⟩ : ∃ x, strOfNums (actT nn.toNat si.toNat) = x := ⟨_, rfl⟩
  simp only [ht5] at H5
  have H6 := fun w1 (hk : Kp w w1) => I.act w1 hk nn sj i_nn i_sj
  simp only [x6, textR] at H6
  obtain ⟨t6, ht6⟩ : ∃ x, strOfNums (actT nn.toNat sj.toNat) = x := ⟨_, rfl⟩
  simp only [ht6] at H6
  have q3 : (t3.toList == t4.toList) = false := by
    rw [← ht3, ← ht4]
    refine strs_no (fun h => ?_)
    have a := partO_some x3
    have b := partO_some x4
    have c := part_inj (by omega) (by omega) (by omega) (by omega) (str_inj (partT_in _ _) (partT_in _ _) h)
    omega
  have q5 : (t5.toList == t6.toList) = false := by
    rw [← ht5, ← ht6]
    refine strs_no (fun h => ?_)
    have a := actO_some x5
    have b := actO_some x6
    have c := act_inj (by omega) (by omega) (by omega) (by omega) (str_inj (actT_in _ _) (actT_in _ _) h)
    omega
  have d4 : (r0 == r1) = false := beq_eq_false_iff_ne.2 d3
  have H1 := Lib.hid H1
  have H2 := Lib.hid H2
  have H3 := Lib.hid H3
  have H4 := Lib.hid H4
  have H5 := Lib.hid H5
  have H6 := Lib.hid H6
  clear V I i_nn i_si i_sj i_r0 i_r1 x1 x2 x3 x4 x5 x6 ht1 ht3 ht4 ht5 ht6 ho1
  have b1 := (MapKept.heap_alloc w (.cells #[.int .i64 nn, .int .i64 si] 23)).1
  have k1 := kp_alloc w (.cells #[.int .i64 nn, .int .i64 si] 23)
  have b2 := (MapKept.heap_alloc (w.alloc (.cells #[.int .i64 nn, .int .i64 si] 23)) (.cells #[.int .i64 nn, .int .i64 sj] 23)).1
  have k2 := kp_alloc (w.alloc (.cells #[.int .i64 nn, .int .i64 si] 23)) (.cells #[.int .i64 nn, .int .i64 sj] 23)
  have b3 := (MapKept.heap_alloc ((w.alloc (.cells #[.int .i64 nn, .int .i64 si] 23)).alloc (.cells #[.int .i64 nn, .int .i64 sj] 23)) (.cells #[.int .i64 r0, .int .i64 r1] 52)).1
  have k3 := kp_alloc ((w.alloc (.cells #[.int .i64 nn, .int .i64 si] 23)).alloc (.cells #[.int .i64 nn, .int .i64 sj] 23)) (.cells #[.int .i64 r0, .int .i64 r1] 52)
  have b1 := kp_row (Kp.trans k2 k3) b1
  have b2 := kp_row k3 b2
  have KK := Lib.hid (Kp.trans k1 (Kp.trans k2 k3))
  rw [show (w.alloc (.cells #[.int .i64 nn, .int .i64 si] 23)).heap.size = w.heap.size + 1 by simp] at b2
  rw [show ((w.alloc (.cells #[.int .i64 nn, .int .i64 si] 23)).alloc (.cells #[.int .i64 nn, .int .i64 sj] 23)).heap.size = w.heap.size + 1 + 1 by simp] at b3
  have B1 := Lib.hid b1
  have B2 := Lib.hid b2
  have B3 := Lib.hid b3
  clear b1 b2 b3 k1 k2 k3
  go_enter Tryd.func6, Tryd.ntmps6
  go_wp2_with (go_at_call 7; (with_reducible refine (HAL.out _ KK.out).mono ?_); rintro e w1 ⟨rfl, hk⟩; have b1 := kp_row hk B1.out; have B1 := Lib.hid b1; have b2 := kp_row hk B2.out; have B2 := Lib.hid b2; have b3 := kp_row hk B3.out; have B3 := Lib.hid b3; clear b1 b2 b3; obtain ⟨ca, cb⟩ := cell_two B1.out; obtain ⟨cc, cd⟩ := cell_two B2.out; obtain ⟨ce, cf⟩ := cell_two B3.out; have KK := Lib.hid (Kp.trans KK.out hk); clear hk)
  go_wp2_with (first | (go_at_call 11; (with_reducible refine (H1.out _ KK.out).mono ?_); rintro e wk ⟨rfl, hk⟩; clear ca cb cc cd ce cf; have b1 := kp_row hk B1.out; have B1 := Lib.hid b1; have b2 := kp_row hk B2.out; have B2 := Lib.hid b2; have b3 := kp_row hk B3.out; have B3 := Lib.hid b3; clear b1 b2 b3; obtain ⟨ca, cb⟩ := cell_two B1.out; obtain ⟨cc, cd⟩ := cell_two B2.out; obtain ⟨ce, cf⟩ := cell_two B3.out; have KK := Lib.hid (Kp.trans KK.out hk); clear hk) | (go_at_call 11; (with_reducible refine (H2.out _ KK.out).mono ?_); rintro e wk ⟨rfl, hk⟩; clear ca cb cc cd ce cf; have b1 := kp_row hk B1.out; have B1 := Lib.hid b1; have b2 := kp_row hk B2.out; have B2 := Lib.hid b2; have b3 := kp_row hk B3.out; have B3 := Lib.hid b3; clear b1 b2 b3; obtain ⟨ca, cb⟩ := cell_two B1.out; obtain ⟨cc, cd⟩ := cell_two B2.out; obtain ⟨ce, cf⟩ := cell_two B3.out; have KK := Lib.hid (Kp.trans KK.out hk); clear hk) | (go_at_call 12; (with_reducible refine (H3.out _ KK.out).mono ?_); rintro e wk ⟨rfl, hk⟩; clear ca cb cc cd ce cf; have b1 := kp_row hk B1.out; have B1 := Lib.hid b1; have b2 := kp_row hk B2.out; have B2 := Lib.hid b2; have b3 := kp_row hk B3.out; have B3 := Lib.hid b3; clear b1 b2 b3; obtain ⟨ca, cb⟩ := cell_two B1.out; obtain ⟨cc, cd⟩ := cell_two B2.out; obtain ⟨ce, cf⟩ := cell_two B3.out; have KK := Lib.hid (Kp.trans KK.out hk); clear hk) | (go_at_call 12; (with_reducible refine (H4.out _ KK.out).mono ?_); rintro e wk ⟨rfl, hk⟩; clear ca cb cc cd ce cf; have b1 := kp_row hk B1.out; have B1 := Lib.hid b1; have b2 := kp_row hk B2.out; have B2 := Lib.hid b2; have b3 := kp_row hk B3.out; have B3 := Lib.hid b3; clear b1 b2 b3; obtain ⟨ca, cb⟩ := cell_two B1.out; obtain ⟨cc, cd⟩ := cell_two B2.out; obtain ⟨ce, cf⟩ := cell_two B3.out; have KK := Lib.hid (Kp.trans KK.out hk); clear hk) | (go_at_call 10; (with_reducible refine (H5.out _ KK.out).mono ?_); rintro e wk ⟨rfl, hk⟩; clear ca cb cc cd ce cf; have b1 := kp_row hk B1.out; have B1 := Lib.hid b1; have b2 := kp_row hk B2.out; have B2 := Lib.hid b2; have b3 := kp_row hk B3.out; have B3 := Lib.hid b3; clear b1 b2 b3; obtain ⟨ca, cb⟩ := cell_two B1.out; obtain ⟨cc, cd⟩ := cell_two B2.out; obtain ⟨ce, cf⟩ := cell_two B3.out; have KK := Lib.hid (Kp.trans KK.out hk); clear hk) | (go_at_call 10; (with_reducible refine (H6.out _ KK.out).mono ?_); rintro e wk ⟨rfl, hk⟩; clear ca cb cc cd ce cf; have b1 := kp_row hk B1.out; have B1 := Lib.hid b1; have b2 := kp_row hk B2.out; have B2 := Lib.hid b2; have b3 := kp_row hk B3.out; have B3 := Lib.hid b3; clear b1 b2 b3; obtain ⟨ca, cb⟩ := cell_two B1.out; obtain ⟨cc, cd⟩ := cell_two B2.out; obtain ⟨ce, cf⟩ := cell_two B3.out; have KK := Lib.hid (Kp.trans KK.out hk); clear hk))
  go_ret
  exact ⟨by first | rfl | simp, KK.out⟩

set_option maxRecDepth 20000 in
set_option maxHeartbeats 2000000 in
theorem unl_rr_TTF (ads : List Addr) (nn si r0 r1 : Int) (i_nn : I64 nn) (i_si : I64 si) (i_r0 : I64 r0) (i_r1 : I64 r1) (w : World) (V : St ads w) (I : IdsC ads w) (x1 : regO nn si r0 = some (regT nn.toNat si.toNat r0.toNat)) (x2 : regO nn si r1 = some (regT nn.toNat si.toNat r1.toNat)) (x3 : partO nn r0 = some (partT nn.toNat r0.toNat)) (x4 : partO nn r1 = some (partT nn.toNat r1.toNat)) (x5 : actO nn si = some (actT nn.toNat si.toNat)) (d3 : ¬ r0 = r1) :
    Calls Tryd.prog 6 #[.agg #[.int .i64 nn, .int .i64 si], .agg #[.int .i64 nn, .int .i64 si], .agg #[.int .i64 r0, .int .i64 r1]] w fun e w' => e = .returned (.bool true) ∧ Kp w w' := by
  have HAL := Lib.hid (fun w1 (hk : Kp w w1) => alive_any ads w1 (V.below hk) (I.kp hk))
  have H1 := fun w1 (hk : Kp w w1) => I.reg w1 hk nn si r0 i_nn i_si i_r0
  simp only [x1, textR] at H1
  obtain ⟨t1, ht1⟩ : ∃ x, strOfNums (regT nn.toNat si.toNat r0.toNat) = x := ⟨_, rfl⟩
  simp only [ht1] at H1
  have H2 := fun w1 (hk : Kp w w1) => I.reg w1 hk nn si r1 i_nn i_si i_r1
  simp only [x2, textR] at H2
  obtain ⟨t2, ht2⟩ : ∃ x, strOfNums (regT nn.toNat si.toNat r1.toNat) = x := ⟨_, rfl⟩
  simp only [ht2] at H2
  have H3 := fun w1 (hk : Kp w w1) => I.part w1 hk nn r0 i_nn i_r0
  simp only [x3, textR] at H3
  obtain ⟨t3, ht3⟩ : ∃ x, strOfNums (partT nn.toNat r0.toNat) = x := ⟨_, rfl⟩
  simp only [ht3] at H3
  have H4 := fun w1 (hk : Kp w w1) => I.part w1 hk nn r1 i_nn i_r1
  simp only [x4, textR] at H4
  obtain ⟨t4, ht4⟩ : ∃ x, strOfNums (partT nn.toNat r1.toNat) = x := ⟨_, rfl⟩
  simp only [ht4] at H4
  have H5 := fun w1 (hk : Kp w w1) => I.act w1 hk nn si i_nn i_si
  simp only [x5, textR] at H5
  obtain ⟨t5, ht5⟩ : ∃ x, strOfNums (actT nn.toNat si.toNat) = x := ⟨_, rfl⟩
  simp only [ht5] at H5
  have q1 : (t1.toList == t2.toList) = false := by
    rw [← ht1, ← ht2]
    refine strs_no (fun h => ?_)
    have a := regO_some x1
    have b := regO_some x2
    have c := reg_inj (by omega) (by omega) (by omega) (by omega) (by omega) (by omega) (str_inj (regT_in _ _ _) (regT_in _ _ _) h)
    omega
  have q3 : (t3.toList == t4.toList) = false := by
    rw [← ht3, ← ht4]
    refine strs_no (fun h => ?_)
    have a := partO_some x3
    have b := partO_some x4
    have c := part_inj (by omega) (by omega) (by omega) (by omega) (str_inj (partT_in _ _) (partT_in _ _) h)
    omega
  have q5 : (t5.toList == t5.toList) = true := by simp
  have d4 : (r0 == r1) = false := beq_eq_false_iff_ne.2 d3
  have H1 := Lib.hid H1
  have H2 := Lib.hid H2
  have H3 := Lib.hid H3
  have H4 := Lib.hid H4
  have H5 := Lib.hid H5
  clear V I i_nn i_si i_r0 i_r1 x1 x2 x3 x4 x5 ht1 ht2 ht3 ht4 ht5
  have b1 := (MapKept.heap_alloc w (.cells #[.int .i64 nn, .int .i64 si] 23)).1
  have k1 := kp_alloc w (.cells #[.int .i64 nn, .int .i64 si] 23)
  have b2 := (MapKept.heap_alloc (w.alloc (.cells #[.int .i64 nn, .int .i64 si] 23)) (.cells #[.int .i64 nn, .int .i64 si] 23)).1
  have k2 := kp_alloc (w.alloc (.cells #[.int .i64 nn, .int .i64 si] 23)) (.cells #[.int .i64 nn, .int .i64 si] 23)
  have b3 := (MapKept.heap_alloc ((w.alloc (.cells #[.int .i64 nn, .int .i64 si] 23)).alloc (.cells #[.int .i64 nn, .int .i64 si] 23)) (.cells #[.int .i64 r0, .int .i64 r1] 52)).1
  have k3 := kp_alloc ((w.alloc (.cells #[.int .i64 nn, .int .i64 si] 23)).alloc (.cells #[.int .i64 nn, .int .i64 si] 23)) (.cells #[.int .i64 r0, .int .i64 r1] 52)
  have b1 := kp_row (Kp.trans k2 k3) b1
  have b2 := kp_row k3 b2
  have KK := Lib.hid (Kp.trans k1 (Kp.trans k2 k3))
  rw [show (w.alloc (.cells #[.int .i64 nn, .int .i64 si] 23)).heap.size = w.heap.size + 1 by simp] at b2
  rw [show ((w.alloc (.cells #[.int .i64 nn, .int .i64 si] 23)).alloc (.cells #[.int .i64 nn, .int .i64 si] 23)).heap.size = w.heap.size + 1 + 1 by simp] at b3
  have B1 := Lib.hid b1
  have B2 := Lib.hid b2
  have B3 := Lib.hid b3
  clear b1 b2 b3 k1 k2 k3
  go_enter Tryd.func6, Tryd.ntmps6
  go_wp2_with (go_at_call 7; (with_reducible refine (HAL.out _ KK.out).mono ?_); rintro e w1 ⟨rfl, hk⟩; have b1 := kp_row hk B1.out; have B1 := Lib.hid b1; have b2 := kp_row hk B2.out; have B2 := Lib.hid b2; have b3 := kp_row hk B3.out; have B3 := Lib.hid b3; clear b1 b2 b3; obtain ⟨ca, cb⟩ := cell_two B1.out; obtain ⟨cc, cd⟩ := cell_two B2.out; obtain ⟨ce, cf⟩ := cell_two B3.out; have KK := Lib.hid (Kp.trans KK.out hk); clear hk)
  go_wp2_with (first | (go_at_call 11; (with_reducible refine (H1.out _ KK.out).mono ?_); rintro e wk ⟨rfl, hk⟩; clear ca cb cc cd ce cf; have b1 := kp_row hk B1.out; have B1 := Lib.hid b1; have b2 := kp_row hk B2.out; have B2 := Lib.hid b2; have b3 := kp_row hk B3.out; have B3 := Lib.hid b3; clear b1 b2 b3; obtain ⟨ca, cb⟩ := cell_two B1.out; obtain ⟨cc, cd⟩ := cell_two B2.out; obtain ⟨ce, cf⟩ := cell_two B3.out; have KK := Lib.hid (Kp.trans KK.out hk); clear hk) | (go_at_call 11; (with_reducible refine (H2.out _ KK.out).mono ?_); rintro e wk ⟨rfl, hk⟩; clear ca cb cc cd ce cf; have b1 := kp_row hk B1.out; have B1 := Lib.hid b1; have b2 := kp_row hk B2.out; have B2 := Lib.hid b2; have b3 := kp_row hk B3.out; have B3 := Lib.hid b3; clear b1 b2 b3; obtain ⟨ca, cb⟩ := cell_two B1.out; obtain ⟨cc, cd⟩ := cell_two B2.out; obtain ⟨ce, cf⟩ := cell_two B3.out; have KK := Lib.hid (Kp.trans KK.out hk); clear hk) | (go_at_call 12; (with_reducible refine (H3.out _ KK.out).mono ?_); rintro e wk ⟨rfl, hk⟩; clear ca cb cc cd ce cf; have b1 := kp_row hk B1.out; have B1 := Lib.hid b1; have b2 := kp_row hk B2.out; have B2 := Lib.hid b2; have b3 := kp_row hk B3.out; have B3 := Lib.hid b3; clear b1 b2 b3; obtain ⟨ca, cb⟩ := cell_two B1.out; obtain ⟨cc, cd⟩ := cell_two B2.out; obtain ⟨ce, cf⟩ := cell_two B3.out; have KK := Lib.hid (Kp.trans KK.out hk); clear hk) | (go_at_call 12; (with_reducible refine (H4.out _ KK.out).mono ?_); rintro e wk ⟨rfl, hk⟩; clear ca cb cc cd ce cf; have b1 := kp_row hk B1.out; have B1 := Lib.hid b1; have b2 := kp_row hk B2.out; have B2 := Lib.hid b2; have b3 := kp_row hk B3.out; have B3 := Lib.hid b3; clear b1 b2 b3; obtain ⟨ca, cb⟩ := cell_two B1.out; obtain ⟨cc, cd⟩ := cell_two B2.out; obtain ⟨ce, cf⟩ := cell_two B3.out; have KK := Lib.hid (Kp.trans KK.out hk); clear hk) | (go_at_call 10; (with_reducible refine (H5.out _ KK.out).mono ?_); rintro e wk ⟨rfl, hk⟩; clear ca cb cc cd ce cf; have b1 := kp_row hk B1.out; have B1 := Lib.hid b1; have b2 := kp_row hk B2.out; have B2 := Lib.hid b2; have b3 := kp_row hk B3.out; have B3 := Lib.hid b3; clear b1 b2 b3; obtain ⟨ca, cb⟩ := cell_two B1.out; obtain ⟨cc, cd⟩ := cell_two B2.out; obtain ⟨ce, cf⟩ := cell_two B3.out; have KK := Lib.hid (Kp.trans KK.out hk); clear hk))
  go_ret
  exact ⟨by first | rfl | simp, KK.out⟩

set_option maxRecDepth 20000 in
set_option maxHeartbeats 2000000 in
theorem unl_rr_Fxx (ads : List Addr) (nn si mm sj r0 r1 : Int) (i_nn : I64 nn) (i_si : I64 si) (i_mm : I64 mm) (i_sj : I64 sj) (i_r0 : I64 r0) (i_r1 : I64 r1) (w : World) (V : St ads w) (I : IdsC ads w) (x1 : regO nn si r0 = some (regT nn.toNat si.toNat r0.toNat)) (x2 : regO mm sj r1 = some (regT mm.toNat sj.toNat r1.toNat)) (x3 : partO nn r0 = some (partT nn.toNat r0.toNat)) (x4 : partO mm r1 = some (partT mm.toNat r1.toNat)) (x5 : actO nn si = some (actT nn.toNat si.toNat)) (x6 : actO mm sj = some (actT mm.toNat sj.toNat)) (d1 : ¬ nn = mm) :
    Calls Tryd.prog 6 #[.agg #[.int .i64 nn, .int .i64 si], .agg #[.int .i64 mm, .int .i64 sj], .agg #[.int .i64 r0, .int .i64 r1]] w fun e w' => e = .returned (.bool true) ∧ Kp w w' := by
  have HAL := Lib.hid (fun w1 (hk : Kp w w1) => alive_any ads w1 (V.below hk) (I.kp hk))
  have H1 := fun w1 (hk : Kp w w1) => I.reg w1 hk nn si r0 i_nn i_si i_r0
  simp only [x1, textR] at H1
  obtain ⟨t1, ht1⟩ : ∃ x, strOfNums (regT nn.toNat si.toNat r0.toNat) = x := ⟨_, rfl⟩
  simp only [ht1] at H1
  have H2 := fun w1 (hk : Kp w w1) => I.reg w1 hk mm sj r1 i_mm i_sj i_r1
  simp only [x2, textR] at H2
  obtain ⟨t2, ht2⟩ : ∃ x, strOfNums (regT mm.toNat sj.toNat r1.toNat) = x := ⟨_, rfl⟩
  simp only [ht2] at H2
  have H3 := fun w1 (hk : Kp w w1) => I.part w1 hk nn r0 i_nn i_r0
  simp only [x3, textR] at H3
  obtain ⟨t3, ht3⟩ : ∃ x, strOfNums (partT nn.toNat r0.toNat) = x := ⟨_, rfl⟩
  simp only [ht3] at H3
  have H4 := fun w1 (hk : Kp w w1) => I.part w1 hk mm r1 i_mm i_r1
  simp only [x4, textR] at H4
  obtain ⟨t4, ht4⟩ : ∃ x, strOfNums (partT mm.toNat r1.toNat) = x := ⟨_, rfl⟩
  simp only [ht4] at H4
  have H5 := fun w1 (hk : Kp w w1) => I.act w1 hk nn si i_nn i_si
  simp only [x5, textR] at H5
  obtain ⟨t5, ht5⟩ : ∃ x, strOfNums (actT nn.toNat si.toNat) = x := ⟨_, rfl⟩
  simp only [ht5] at H5
  have H6 := fun w1 (hk : Kp w w1) => I.act w1 hk mm sj i_mm i_sj
  simp only [x6, textR] at H6
  obtain ⟨t6, ht6⟩ : ∃ x, strOfNums (actT mm.toNat sj.toNat) = x := ⟨_, rfl⟩
  simp only [ht6] at H6
  have q1 : (t1.toList == t2.toList) = false := by
    rw [← ht1, ← ht2]
    refine strs_no (fun h => ?_)
    have a := regO_some x1
    have b := regO_some x2
    have c := reg_inj (by omega) (by omega) (by omega) (by omega) (by omega) (by omega) (str_inj (regT_in _ _ _) (regT_in _ _ _) h)
    omega
  have q3 : (t3.toList == t4.toList) = false := by
    rw [← ht3, ← ht4]
    refine strs_no (fun h => ?_)
    have a := partO_some x3
    have b := partO_some x4
    have c := part_inj (by omega) (by omega) (by omega) (by omega) (str_inj (partT_in _ _) (partT_in _ _) h)
    omega
  have q5 : (t5.toList == t6.toList) = false := by
    rw [← ht5, ← ht6]
    refine strs_no (fun h => ?_)
    have a := actO_some x5
    have b := actO_some x6
    have c := act_inj (by omega) (by omega) (by omega) (by omega) (str_inj (actT_in _ _) (actT_in _ _) h)
    omega
  have H1 := Lib.hid H1
  have H2 := Lib.hid H2
  have H3 := Lib.hid H3
  have H4 := Lib.hid H4
  have H5 := Lib.hid H5
  have H6 := Lib.hid H6
  clear V I i_nn i_si i_mm i_sj i_r0 i_r1 x1 x2 x3 x4 x5 x6 ht1 ht2 ht3 ht4 ht5 ht6
  have b1 := (MapKept.heap_alloc w (.cells #[.int .i64 nn, .int .i64 si] 23)).1
  have k1 := kp_alloc w (.cells #[.int .i64 nn, .int .i64 si] 23)
  have b2 := (MapKept.heap_alloc (w.alloc (.cells #[.int .i64 nn, .int .i64 si] 23)) (.cells #[.int .i64 mm, .int .i64 sj] 23)).1
  have k2 := kp_alloc (w.alloc (.cells #[.int .i64 nn, .int .i64 si] 23)) (.cells #[.int .i64 mm, .int .i64 sj] 23)
  have b3 := (MapKept.heap_alloc ((w.alloc (.cells #[.int .i64 nn, .int .i64 si] 23)).alloc (.cells #[.int .i64 mm, .int .i64 sj] 23)) (.cells #[.int .i64 r0, .int .i64 r1] 52)).1
  have k3 := kp_alloc ((w.alloc (.cells #[.int .i64 nn, .int .i64 si] 23)).alloc (.cells #[.int .i64 mm, .int .i64 sj] 23)) (.cells #[.int .i64 r0, .int .i64 r1] 52)
  have b1 := kp_row (Kp.trans k2 k3) b1
  have b2 := kp_row k3 b2
  have KK := Lib.hid (Kp.trans k1 (Kp.trans k2 k3))
  rw [show (w.alloc (.cells #[.int .i64 nn, .int .i64 si] 23)).heap.size = w.heap.size + 1 by simp] at b2
  rw [show ((w.alloc (.cells #[.int .i64 nn, .int .i64 si] 23)).alloc (.cells #[.int .i64 mm, .int .i64 sj] 23)).heap.size = w.heap.size + 1 + 1 by simp] at b3
  have B1 := Lib.hid b1
  have B2 := Lib.hid b2
  have B3 := Lib.hid b3
  clear b1 b2 b3 k1 k2 k3
  go_enter Tryd.func6, Tryd.ntmps6
  go_wp2_with (go_at_call 7; (with_reducible refine (HAL.out _ KK.out).mono ?_); rintro e w1 ⟨rfl, hk⟩; have b1 := kp_row hk B1.out; have B1 := Lib.hid b1; have b2 := kp_row hk B2.out; have B2 := Lib.hid b2; have b3 := kp_row hk B3.out; have B3 := Lib.hid b3; clear b1 b2 b3; obtain ⟨ca, cb⟩ := cell_two B1.out; obtain ⟨cc, cd⟩ := cell_two B2.out; obtain ⟨ce, cf⟩ := cell_two B3.out; have KK := Lib.hid (Kp.trans KK.out hk); clear hk)
  go_wp2_with (first | (go_at_call 11; (with_reducible refine (H1.out _ KK.out).mono ?_); rintro e wk ⟨rfl, hk⟩; clear ca cb cc cd ce cf; have b1 := kp_row hk B1.out; have B1 := Lib.hid b1; have b2 := kp_row hk B2.out; have B2 := Lib.hid b2; have b3 := kp_row hk B3.out; have B3 := Lib.hid b3; clear b1 b2 b3; obtain ⟨ca, cb⟩ := cell_two B1.out; obtain ⟨cc, cd⟩ := cell_two B2.out; obtain ⟨ce, cf⟩ := cell_two B3.out; have KK := Lib.hid (Kp.trans KK.out hk); clear hk) | (go_at_call 11; (with_reducible refine (H2.out _ KK.out).mono ?_); rintro e wk ⟨rfl, hk⟩; clear ca cb cc cd ce cf; have b1 := kp_row hk B1.out; have B1 := Lib.hid b1; have b2 := kp_row hk B2.out; have B2 := Lib.hid b2; have b3 := kp_row hk B3.out; have B3 := Lib.hid b3; clear b1 b2 b3; obtain ⟨ca, cb⟩ := cell_two B1.out; obtain ⟨cc, cd⟩ := cell_two B2.out; obtain ⟨ce, cf⟩ := cell_two B3.out; have KK := Lib.hid (Kp.trans KK.out hk); clear hk) | (go_at_call 12; (with_reducible refine (H3.out _ KK.out).mono ?_); rintro e wk ⟨rfl, hk⟩; clear ca cb cc cd ce cf; have b1 := kp_row hk B1.out; have B1 := Lib.hid b1; have b2 := kp_row hk B2.out; have B2 := Lib.hid b2; have b3 := kp_row hk B3.out; have B3 := Lib.hid b3; clear b1 b2 b3; obtain ⟨ca, cb⟩ := cell_two B1.out; obtain ⟨cc, cd⟩ := cell_two B2.out; obtain ⟨ce, cf⟩ := cell_two B3.out; have KK := Lib.hid (Kp.trans KK.out hk); clear hk) | (go_at_call 12; (with_reducible refine (H4.out _ KK.out).mono ?_); rintro e wk ⟨rfl, hk⟩; clear ca cb cc cd ce cf; have b1 := kp_row hk B1.out; have B1 := Lib.hid b1; have b2 := kp_row hk B2.out; have B2 := Lib.hid b2; have b3 := kp_row hk B3.out; have B3 := Lib.hid b3; clear b1 b2 b3; obtain ⟨ca, cb⟩ := cell_two B1.out; obtain ⟨cc, cd⟩ := cell_two B2.out; obtain ⟨ce, cf⟩ := cell_two B3.out; have KK := Lib.hid (Kp.trans KK.out hk); clear hk) | (go_at_call 10; (with_reducible refine (H5.out _ KK.out).mono ?_); rintro e wk ⟨rfl, hk⟩; clear ca cb cc cd ce cf; have b1 := kp_row hk B1.out; have B1 := Lib.hid b1; have b2 := kp_row hk B2.out; have B2 := Lib.hid b2; have b3 := kp_row hk B3.out; have B3 := Lib.hid b3; clear b1 b2 b3; obtain ⟨ca, cb⟩ := cell_two B1.out; obtain ⟨cc, cd⟩ := cell_two B2.out; obtain ⟨ce, cf⟩ := cell_two B3.out; have KK := Lib.hid (Kp.trans KK.out hk); clear hk) | (go_at_call 10; (with_reducible refine (H6.out _ KK.out).mono ?_); rintro e wk ⟨rfl, hk⟩; clear ca cb cc cd ce cf; have b1 := kp_row hk B1.out; have B1 := Lib.hid b1; have b2 := kp_row hk B2.out; have B2 := Lib.hid b2; have b3 := kp_row hk B3.out; have B3 := Lib.hid b3; clear b1 b2 b3; obtain ⟨ca, cb⟩ := cell_two B1.out; obtain ⟨cc, cd⟩ := cell_two B2.out; obtain ⟨ce, cf⟩ := cell_two B3.out; have KK := Lib.hid (Kp.trans KK.out hk); clear hk))
  go_ret
  exact ⟨by first | rfl | simp, KK.out⟩
end Go.Proofs.YtjilfkfhnbhjiaaDoor
