/-
  IdsTexts' WALKS (own work).
-/
import Derived.Test.YtjilfkfhnbhjiaaDoorIdsC
namespace Go.Proofs.YtjilfkfhnbhjiaaDoor
open Go.RowKit Go.ChangeShapes Go.WideShapes

theorem told_e (ads : List Addr) (t : ByteArray) (w : World) (V : St ads w) : Calls Tryd.prog 18 #[.string ⟨#[]⟩, errI ads 1, .string t, .bool false] w fun e w' => e = .returned (.bool true) ∧ Kp w w' := by
  have h14 : ads.length = 14 := V.len
  have h := told_f ads (by omega) t w V
  have e : errI ads 1 = snt (ads[0]'(by omega)) := by
    unfold errI
    rw [if_neg (by decide), show ((1 : Int) - 1).toNat = 0 from rfl, List.getElem?_eq_getElem (by omega)]
  rw [e]
  exact h

theorem cell_two {w : World} {b : Nat} {u v : Value} {t : TypeId} {x : Nat × Nat} (h : w.heap[b]? = some (.cells #[u, v] t x)) : w.cell? ⟨b, 0, none⟩ = some u ∧ w.cell? ⟨b, 1, none⟩ = some v := by
  unfold World.cell?
  dsimp only
  rw [h]
  simp

set_option maxRecDepth 20000 in
set_option maxHeartbeats 2000000 in
theorem txt_nlo (ads : List Addr) (nn si ri pi : Int) (in_ : I64 nn) (is_ : I64 si) (ir_ : I64 ri) (ip_ : I64 pi) (w : World) (V : St ads w) (I : IdsC ads w) (n0 : nn < 0) :
    Calls Tryd.prog 3 #[.agg #[.int .i64 nn, .int .i64 si], .int .i64 ri, .int .i64 pi] w fun e w' => e = .returned (.bool true) ∧ Kp w w' := by
  have hA : rightA nn si = false := decide_eq_false (by omega)
  have hN : nodeR nn = false := decide_eq_false (by omega)
  have eN : nodeO nn = none := by unfold nodeO; rw [hN]; rfl
  have eA : actO nn si = none := by unfold actO; rw [hA]; rfl
  have eG : regO nn si ri = none := by unfold regO; rw [hA]; rfl
  have eP : partO nn pi = none := by unfold partO; rw [hN]; rfl
  have HAL := Lib.hid (fun w1 (hk : Kp w w1) => alive_any ads w1 (V.below hk) (I.kp hk))
  have HR := fun w1 => refRight_any nn si w1
  have H1 := fun w1 (hk : Kp w w1) => I.node w1 hk nn in_
  have H2 := fun w1 (hk : Kp w w1) => I.act w1 hk nn si in_ is_
  have H3 := fun w1 (hk : Kp w w1) => I.reg w1 hk nn si ri in_ is_ ir_
  have H4 := fun w1 (hk : Kp w w1) => I.part w1 hk nn pi in_ ip_
  have H5 := fun w1 (hk : Kp w w1) => I.right w1 hk nn si in_ is_
  simp only [hA, eN, eA, eG, eP, textR] at HR H1 H2 H3 H4 H5
  have HTE := fun t w1 (hk : Kp w w1) => told_e ads t w1 (V.below hk)
  obtain ⟨er, her⟩ : ∃ e, errI ads 1 = e := ⟨_, rfl⟩
  simp only [her] at H1 H2 H3 H4 HTE
  have HTT := Lib.hid (fun s w1 => told_t s w1)
  have HR := Lib.hid HR
  have H1 := Lib.hid H1
  have H2 := Lib.hid H2
  have H3 := Lib.hid H3
  have H4 := Lib.hid H4
  have H5 := Lib.hid H5
  have HTE := Lib.hid HTE
  clear hA hN eN eA eG eP her V I in_ is_ ir_ ip_
  go_enter Tryd.func3, Tryd.ntmps3
  go_wp2_with (go_at_call 7; (with_reducible refine (HAL.out _ (kp_alloc _ _)).mono ?_); rintro e w1 ⟨rfl, hk1⟩; have K1 := Lib.hid (Kp.trans (kp_alloc _ _) hk1); have cb := kp_row hk1 (MapKept.heap_alloc w (.cells #[.int .i64 nn, .int .i64 si] 23)).1; have CB := Lib.hid cb; clear hk1 cb; obtain ⟨ca, cc⟩ := cell_two CB.out)
  go_wp2_with (go_at_call 8; (with_reducible refine (HR.out _).mono ?_); rintro e w2 ⟨rfl, hk2⟩; have cb := kp_row hk2 CB.out; have CB := Lib.hid cb; clear cb; clear ca cc; obtain ⟨ca, cc⟩ := cell_two CB.out; have K2 := Lib.hid (Kp.trans K1.out hk2); clear hk2)
  go_wp2_with (go_at_call 9; (with_reducible refine (H1.out _ K2.out).mono ?_); rintro e w3 ⟨rfl, hk3⟩; have cb := kp_row hk3 CB.out; have CB := Lib.hid cb; clear cb; clear ca cc; obtain ⟨ca, cc⟩ := cell_two CB.out; have K3 := Lib.hid (Kp.trans K2.out hk3); clear hk3)
  go_wp2_with (go_at_call 10; (with_reducible refine (H2.out _ K3.out).mono ?_); rintro e w4 ⟨rfl, hk4⟩; have cb := kp_row hk4 CB.out; have CB := Lib.hid cb; clear cb; clear ca cc; obtain ⟨ca, cc⟩ := cell_two CB.out; have K4 := Lib.hid (Kp.trans K3.out hk4); clear hk4)
  go_wp2_with (go_at_call 11; (with_reducible refine (H3.out _ K4.out).mono ?_); rintro e w5 ⟨rfl, hk5⟩; have cb := kp_row hk5 CB.out; have CB := Lib.hid cb; clear cb; clear ca cc; obtain ⟨ca, cc⟩ := cell_two CB.out; have K5 := Lib.hid (Kp.trans K4.out hk5); clear hk5)
  go_wp2_with (go_at_call 12; (with_reducible refine (H4.out _ K5.out).mono ?_); rintro e w6 ⟨rfl, hk6⟩; have cb := kp_row hk6 CB.out; have CB := Lib.hid cb; clear cb; clear ca cc; obtain ⟨ca, cc⟩ := cell_two CB.out; have K6 := Lib.hid (Kp.trans K5.out hk6); clear hk6)
  go_wp2_with (go_at_call 17; (with_reducible refine (H5.out _ K6.out).mono ?_); rintro e w7 ⟨rfl, hk7⟩; have cb := kp_row hk7 CB.out; have CB := Lib.hid cb; clear cb; clear ca cc; obtain ⟨ca, cc⟩ := cell_two CB.out; have K7 := Lib.hid (Kp.trans K6.out hk7); clear hk7)
  have KT := K7
  go_wp2_with (first | (go_at_call 18; (with_reducible refine (HTT.out _ _).mono ?_); rintro e wt ⟨rfl, hkt⟩; have KT := Lib.hid (Kp.trans KT.out hkt); clear hkt) | (go_at_call 18; (with_reducible refine (HTE.out _ _ KT.out).mono ?_); rintro e wt ⟨rfl, hkt⟩; have KT := Lib.hid (Kp.trans KT.out hkt); clear hkt))
  go_ret
  exact ⟨rfl, KT.out⟩

set_option maxRecDepth 20000 in
set_option maxHeartbeats 2000000 in
theorem txt_nhi (ads : List Addr) (nn si ri pi : Int) (in_ : I64 nn) (is_ : I64 si) (ir_ : I64 ri) (ip_ : I64 pi) (w : World) (V : St ads w) (I : IdsC ads w) (n0 : 4 ≤ nn) :
    Calls Tryd.prog 3 #[.agg #[.int .i64 nn, .int .i64 si], .int .i64 ri, .int .i64 pi] w fun e w' => e = .returned (.bool true) ∧ Kp w w' := by
  have hA : rightA nn si = false := decide_eq_false (by omega)
  have hN : nodeR nn = false := decide_eq_false (by omega)
  have eN : nodeO nn = none := by unfold nodeO; rw [hN]; rfl
  have eA : actO nn si = none := by unfold actO; rw [hA]; rfl
  have eG : regO nn si ri = none := by unfold regO; rw [hA]; rfl
  have eP : partO nn pi = none := by unfold partO; rw [hN]; rfl
  have HAL := Lib.hid (fun w1 (hk : Kp w w1) => alive_any ads w1 (V.below hk) (I.kp hk))
  have HR := fun w1 => refRight_any nn si w1
  have H1 := fun w1 (hk : Kp w w1) => I.node w1 hk nn in_
  have H2 := fun w1 (hk : Kp w w1) => I.act w1 hk nn si in_ is_
  have H3 := fun w1 (hk : Kp w w1) => I.reg w1 hk nn si ri in_ is_ ir_
  have H4 := fun w1 (hk : Kp w w1) => I.part w1 hk nn pi in_ ip_
  have H5 := fun w1 (hk : Kp w w1) => I.right w1 hk nn si in_ is_
  simp only [hA, eN, eA, eG, eP, textR] at HR H1 H2 H3 H4 H5
  have HTE := fun t w1 (hk : Kp w w1) => told_e ads t w1 (V.below hk)
  obtain ⟨er, her⟩ : ∃ e, errI ads 1 = e := ⟨_, rfl⟩
  simp only [her] at H1 H2 H3 H4 HTE
  have HTT := Lib.hid (fun s w1 => told_t s w1)
  have HR := Lib.hid HR
  have H1 := Lib.hid H1
  have H2 := Lib.hid H2
  have H3 := Lib.hid H3
  have H4 := Lib.hid H4
  have H5 := Lib.hid H5
  have HTE := Lib.hid HTE
  clear hA hN eN eA eG eP her V I in_ is_ ir_ ip_
  go_enter Tryd.func3, Tryd.ntmps3
  go_wp2_with (go_at_call 7; (with_reducible refine (HAL.out _ (kp_alloc _ _)).mono ?_); rintro e w1 ⟨rfl, hk1⟩; have K1 := Lib.hid (Kp.trans (kp_alloc _ _) hk1); have cb := kp_row hk1 (MapKept.heap_alloc w (.cells #[.int .i64 nn, .int .i64 si] 23)).1; have CB := Lib.hid cb; clear hk1 cb; obtain ⟨ca, cc⟩ := cell_two CB.out)
  go_wp2_with (go_at_call 8; (with_reducible refine (HR.out _).mono ?_); rintro e w2 ⟨rfl, hk2⟩; have cb := kp_row hk2 CB.out; have CB := Lib.hid cb; clear cb; clear ca cc; obtain ⟨ca, cc⟩ := cell_two CB.out; have K2 := Lib.hid (Kp.trans K1.out hk2); clear hk2)
  go_wp2_with (go_at_call 9; (with_reducible refine (H1.out _ K2.out).mono ?_); rintro e w3 ⟨rfl, hk3⟩; have cb := kp_row hk3 CB.out; have CB := Lib.hid cb; clear cb; clear ca cc; obtain ⟨ca, cc⟩ := cell_two CB.out; have K3 := Lib.hid (Kp.trans K2.out hk3); clear hk3)
  go_wp2_with (go_at_call 10; (with_reducible refine (H2.out _ K3.out).mono ?_); rintro e w4 ⟨rfl, hk4⟩; have cb := kp_row hk4 CB.out; have CB := Lib.hid cb; clear cb; clear ca cc; obtain ⟨ca, cc⟩ := cell_two CB.out; have K4 := Lib.hid (Kp.trans K3.out hk4); clear hk4)
  go_wp2_with (go_at_call 11; (with_reducible refine (H3.out _ K4.out).mono ?_); rintro e w5 ⟨rfl, hk5⟩; have cb := kp_row hk5 CB.out; have CB := Lib.hid cb; clear cb; clear ca cc; obtain ⟨ca, cc⟩ := cell_two CB.out; have K5 := Lib.hid (Kp.trans K4.out hk5); clear hk5)
  go_wp2_with (go_at_call 12; (with_reducible refine (H4.out _ K5.out).mono ?_); rintro e w6 ⟨rfl, hk6⟩; have cb := kp_row hk6 CB.out; have CB := Lib.hid cb; clear cb; clear ca cc; obtain ⟨ca, cc⟩ := cell_two CB.out; have K6 := Lib.hid (Kp.trans K5.out hk6); clear hk6)
  go_wp2_with (go_at_call 17; (with_reducible refine (H5.out _ K6.out).mono ?_); rintro e w7 ⟨rfl, hk7⟩; have cb := kp_row hk7 CB.out; have CB := Lib.hid cb; clear cb; clear ca cc; obtain ⟨ca, cc⟩ := cell_two CB.out; have K7 := Lib.hid (Kp.trans K6.out hk7); clear hk7)
  have KT := K7
  go_wp2_with (first | (go_at_call 18; (with_reducible refine (HTT.out _ _).mono ?_); rintro e wt ⟨rfl, hkt⟩; have KT := Lib.hid (Kp.trans KT.out hkt); clear hkt) | (go_at_call 18; (with_reducible refine (HTE.out _ _ KT.out).mono ?_); rintro e wt ⟨rfl, hkt⟩; have KT := Lib.hid (Kp.trans KT.out hkt); clear hkt))
  go_ret
  exact ⟨rfl, KT.out⟩

set_option maxRecDepth 20000 in
set_option maxHeartbeats 2000000 in
theorem txt_f_lo (ads : List Addr) (nn si ri pi : Int) (in_ : I64 nn) (is_ : I64 si) (ir_ : I64 ri) (ip_ : I64 pi) (w : World) (V : St ads w) (I : IdsC ads w) (n0 : 0 ≤ nn) (n4 : nn < 4) (s0 : ¬ (0 ≤ si ∧ si < 1000000)) (p0 : pi < 0) :
    Calls Tryd.prog 3 #[.agg #[.int .i64 nn, .int .i64 si], .int .i64 ri, .int .i64 pi] w fun e w' => e = .returned (.bool true) ∧ Kp w w' := by
  have hA : rightA nn si = false := decide_eq_false (by omega)
  have hN : nodeR nn = true := decide_eq_true (by omega)
  have eN : nodeO nn = some (nodeT nn.toNat) := by unfold nodeO; rw [hN]; rfl
  have eA : actO nn si = none := by unfold actO; rw [hA]; rfl
  have eG : regO nn si ri = none := by unfold regO; rw [hA]; rfl
  have hP : partR pi = false := decide_eq_false (by omega)
  have eP : partO nn pi = none := by unfold partO; rw [hN, hP]; rfl
  have HAL := Lib.hid (fun w1 (hk : Kp w w1) => alive_any ads w1 (V.below hk) (I.kp hk))
  have HR := fun w1 => refRight_any nn si w1
  have H1 := fun w1 (hk : Kp w w1) => I.node w1 hk nn in_
  have H2 := fun w1 (hk : Kp w w1) => I.act w1 hk nn si in_ is_
  have H3 := fun w1 (hk : Kp w w1) => I.reg w1 hk nn si ri in_ is_ ir_
  have H4 := fun w1 (hk : Kp w w1) => I.part w1 hk nn pi in_ ip_
  have H5 := fun w1 (hk : Kp w w1) => I.right w1 hk nn si in_ is_
  simp only [hA, eN, eA, eG, eP, textR] at HR H1 H2 H3 H4 H5
  have HTE := fun t w1 (hk : Kp w w1) => told_e ads t w1 (V.below hk)
  obtain ⟨er, her⟩ : ∃ e, errI ads 1 = e := ⟨_, rfl⟩
  simp only [her] at H1 H2 H3 H4 HTE
  have HTT := Lib.hid (fun s w1 => told_t s w1)
  have HD := fun w1 => refDigits_any nn.toNat (by omega) nn (by omega) w1
  have HC1 := Lib.hid (show (⟨#[110]⟩ : ByteArray) ++ strOfNums (dec nn.toNat) = strOfNums (nodeT nn.toNat) by rw [c110]; exact str_append _ _)
  have z1 : 1 + (strOfNums (dec nn.toNat)).size ≤ 9223372036854775807 := by rw [str_size]; have := dec_len nn.toNat; omega
  obtain ⟨d1, hd1⟩ : ∃ x, strOfNums (dec nn.toNat) = x := ⟨_, rfl⟩
  obtain ⟨tn, htn⟩ : ∃ x, strOfNums (nodeT nn.toNat) = x := ⟨_, rfl⟩
  simp only [hd1, htn] at H1 HD HC1 z1
  have q1 := HC1.out
  have HR := Lib.hid HR
  have H1 := Lib.hid H1
  have H2 := Lib.hid H2
  have H3 := Lib.hid H3
  have H4 := Lib.hid H4
  have H5 := Lib.hid H5
  have HTE := Lib.hid HTE
  have HD := Lib.hid HD
  clear hA hN eN eA eG eP her V I in_ is_ ir_ ip_ hP hd1 htn
  go_enter Tryd.func3, Tryd.ntmps3
  go_wp2_with (go_at_call 7; (with_reducible refine (HAL.out _ (kp_alloc _ _)).mono ?_); rintro e w1 ⟨rfl, hk1⟩; have K1 := Lib.hid (Kp.trans (kp_alloc _ _) hk1); have cb := kp_row hk1 (MapKept.heap_alloc w (.cells #[.int .i64 nn, .int .i64 si] 23)).1; have CB := Lib.hid cb; clear hk1 cb; obtain ⟨ca, cc⟩ := cell_two CB.out)
  go_wp2_with (go_at_call 8; (with_reducible refine (HR.out _).mono ?_); rintro e w2 ⟨rfl, hk2⟩; have cb := kp_row hk2 CB.out; have CB := Lib.hid cb; clear cb; clear ca cc; obtain ⟨ca, cc⟩ := cell_two CB.out; have K2 := Lib.hid (Kp.trans K1.out hk2); clear hk2)
  go_wp2_with (go_at_call 9; (with_reducible refine (H1.out _ K2.out).mono ?_); rintro e w3 ⟨rfl, hk3⟩; have cb := kp_row hk3 CB.out; have CB := Lib.hid cb; clear cb; clear ca cc; obtain ⟨ca, cc⟩ := cell_two CB.out; have K3 := Lib.hid (Kp.trans K2.out hk3); clear hk3)
  go_wp2_with (go_at_call 10; (with_reducible refine (H2.out _ K3.out).mono ?_); rintro e w4 ⟨rfl, hk4⟩; have cb := kp_row hk4 CB.out; have CB := Lib.hid cb; clear cb; clear ca cc; obtain ⟨ca, cc⟩ := cell_two CB.out; have K4 := Lib.hid (Kp.trans K3.out hk4); clear hk4)
  go_wp2_with (go_at_call 11; (with_reducible refine (H3.out _ K4.out).mono ?_); rintro e w5 ⟨rfl, hk5⟩; have cb := kp_row hk5 CB.out; have CB := Lib.hid cb; clear cb; clear ca cc; obtain ⟨ca, cc⟩ := cell_two CB.out; have K5 := Lib.hid (Kp.trans K4.out hk5); clear hk5)
  go_wp2_with (go_at_call 12; (with_reducible refine (H4.out _ K5.out).mono ?_); rintro e w6 ⟨rfl, hk6⟩; have cb := kp_row hk6 CB.out; have CB := Lib.hid cb; clear cb; clear ca cc; obtain ⟨ca, cc⟩ := cell_two CB.out; have K6 := Lib.hid (Kp.trans K5.out hk6); clear hk6)
  go_wp2_with (go_at_call 13; (with_reducible refine (HD.out _).mono ?_); rintro e w7 ⟨rfl, hk7⟩; have cb := kp_row hk7 CB.out; have CB := Lib.hid cb; clear cb; clear ca cc; obtain ⟨ca, cc⟩ := cell_two CB.out; have K7 := Lib.hid (Kp.trans K6.out hk7); clear hk7)
  go_wp2_with (go_at_call 17; (with_reducible refine (H5.out _ K7.out).mono ?_); rintro e w8 ⟨rfl, hk8⟩; have cb := kp_row hk8 CB.out; have CB := Lib.hid cb; clear cb; clear ca cc; obtain ⟨ca, cc⟩ := cell_two CB.out; have K8 := Lib.hid (Kp.trans K7.out hk8); clear hk8)
  have KT := K8
  go_wp2_with (first | (go_at_call 18; (with_reducible refine (HTT.out _ _).mono ?_); rintro e wt ⟨rfl, hkt⟩; have KT := Lib.hid (Kp.trans KT.out hkt); clear hkt) | (go_at_call 18; (with_reducible refine (HTE.out _ _ KT.out).mono ?_); rintro e wt ⟨rfl, hkt⟩; have KT := Lib.hid (Kp.trans KT.out hkt); clear hkt))
  go_ret
  exact ⟨rfl, KT.out⟩

set_option maxRecDepth 20000 in
set_option maxHeartbeats 2000000 in
theorem txt_f_hi (ads : List Addr) (nn si ri pi : Int) (in_ : I64 nn) (is_ : I64 si) (ir_ : I64 ri) (ip_ : I64 pi) (w : World) (V : St ads w) (I : IdsC ads w) (n0 : 0 ≤ nn) (n4 : nn < 4) (s0 : ¬ (0 ≤ si ∧ si < 1000000)) (p0 : 8 ≤ pi) :
    Calls Tryd.prog 3 #[.agg #[.int .i64 nn, .int .i64 si], .int .i64 ri, .int .i64 pi] w fun e w' => e = .returned (.bool true) ∧ Kp w w' := by
  have hA : rightA nn si = false := decide_eq_false (by omega)
  have hN : nodeR nn = true := decide_eq_true (by omega)
  have eN : nodeO nn = some (nodeT nn.toNat) := by unfold nodeO; rw [hN]; rfl
  have eA : actO nn si = none := by unfold actO; rw [hA]; rfl
  have eG : regO nn si ri = none := by unfold regO; rw [hA]; rfl
  have hP : partR pi = false := decide_eq_false (by omega)
  have eP : partO nn pi = none := by unfold partO; rw [hN, hP]; rfl
  have p00 : 0 ≤ pi := by omega
  have HAL := Lib.hid (fun w1 (hk : Kp w w1) => alive_any ads w1 (V.below hk) (I.kp hk))
  have HR := fun w1 => refRight_any nn si w1
  have H1 := fun w1 (hk : Kp w w1) => I.node w1 hk nn in_
  have H2 := fun w1 (hk : Kp w w1) => I.act w1 hk nn si in_ is_
  have H3 := fun w1 (hk : Kp w w1) => I.reg w1 hk nn si ri in_ is_ ir_
  have H4 := fun w1 (hk : Kp w w1) => I.part w1 hk nn pi in_ ip_
  have H5 := fun w1 (hk : Kp w w1) => I.right w1 hk nn si in_ is_
  simp only [hA, eN, eA, eG, eP, textR] at HR H1 H2 H3 H4 H5
  have HTE := fun t w1 (hk : Kp w w1) => told_e ads t w1 (V.below hk)
  obtain ⟨er, her⟩ : ∃ e, errI ads 1 = e := ⟨_, rfl⟩
  simp only [her] at H1 H2 H3 H4 HTE
  have HTT := Lib.hid (fun s w1 => told_t s w1)
  have HD := fun w1 => refDigits_any nn.toNat (by omega) nn (by omega) w1
  have HC1 := Lib.hid (show (⟨#[110]⟩ : ByteArray) ++ strOfNums (dec nn.toNat) = strOfNums (nodeT nn.toNat) by rw [c110]; exact str_append _ _)
  have z1 : 1 + (strOfNums (dec nn.toNat)).size ≤ 9223372036854775807 := by rw [str_size]; have := dec_len nn.toNat; omega
  obtain ⟨d1, hd1⟩ : ∃ x, strOfNums (dec nn.toNat) = x := ⟨_, rfl⟩
  obtain ⟨tn, htn⟩ : ∃ x, strOfNums (nodeT nn.toNat) = x := ⟨_, rfl⟩
  simp only [hd1, htn] at H1 HD HC1 z1
  have q1 := HC1.out
  have HTP := fun t w1 (hk : Kp w w1) => HTE t w1 hk
  rw [show false = decide (pi < 8) from (decide_eq_false (by omega)).symm] at HTP
  have HR := Lib.hid HR
  have H1 := Lib.hid H1
  have H2 := Lib.hid H2
  have H3 := Lib.hid H3
  have H4 := Lib.hid H4
  have H5 := Lib.hid H5
  have HTE := Lib.hid HTE
  have HD := Lib.hid HD
  have HTP := Lib.hid HTP
  clear hA hN eN eA eG eP her V I in_ is_ ir_ ip_ hP hd1 htn
  go_enter Tryd.func3, Tryd.ntmps3
  go_wp2_with (go_at_call 7; (with_reducible refine (HAL.out _ (kp_alloc _ _)).mono ?_); rintro e w1 ⟨rfl, hk1⟩; have K1 := Lib.hid (Kp.trans (kp_alloc _ _) hk1); have cb := kp_row hk1 (MapKept.heap_alloc w (.cells #[.int .i64 nn, .int .i64 si] 23)).1; have CB := Lib.hid cb; clear hk1 cb; obtain ⟨ca, cc⟩ := cell_two CB.out)
  go_wp2_with (go_at_call 8; (with_reducible refine (HR.out _).mono ?_); rintro e w2 ⟨rfl, hk2⟩; have cb := kp_row hk2 CB.out; have CB := Lib.hid cb; clear cb; clear ca cc; obtain ⟨ca, cc⟩ := cell_two CB.out; have K2 := Lib.hid (Kp.trans K1.out hk2); clear hk2)
  go_wp2_with (go_at_call 9; (with_reducible refine (H1.out _ K2.out).mono ?_); rintro e w3 ⟨rfl, hk3⟩; have cb := kp_row hk3 CB.out; have CB := Lib.hid cb; clear cb; clear ca cc; obtain ⟨ca, cc⟩ := cell_two CB.out; have K3 := Lib.hid (Kp.trans K2.out hk3); clear hk3)
  go_wp2_with (go_at_call 10; (with_reducible refine (H2.out _ K3.out).mono ?_); rintro e w4 ⟨rfl, hk4⟩; have cb := kp_row hk4 CB.out; have CB := Lib.hid cb; clear cb; clear ca cc; obtain ⟨ca, cc⟩ := cell_two CB.out; have K4 := Lib.hid (Kp.trans K3.out hk4); clear hk4)
  go_wp2_with (go_at_call 11; (with_reducible refine (H3.out _ K4.out).mono ?_); rintro e w5 ⟨rfl, hk5⟩; have cb := kp_row hk5 CB.out; have CB := Lib.hid cb; clear cb; clear ca cc; obtain ⟨ca, cc⟩ := cell_two CB.out; have K5 := Lib.hid (Kp.trans K4.out hk5); clear hk5)
  go_wp2_with (go_at_call 12; (with_reducible refine (H4.out _ K5.out).mono ?_); rintro e w6 ⟨rfl, hk6⟩; have cb := kp_row hk6 CB.out; have CB := Lib.hid cb; clear cb; clear ca cc; obtain ⟨ca, cc⟩ := cell_two CB.out; have K6 := Lib.hid (Kp.trans K5.out hk6); clear hk6)
  go_wp2_with (go_at_call 13; (with_reducible refine (HD.out _).mono ?_); rintro e w7 ⟨rfl, hk7⟩; have cb := kp_row hk7 CB.out; have CB := Lib.hid cb; clear cb; clear ca cc; obtain ⟨ca, cc⟩ := cell_two CB.out; have K7 := Lib.hid (Kp.trans K6.out hk7); clear hk7)
  go_wp2_with (go_at_call 17; (with_reducible refine (H5.out _ K7.out).mono ?_); rintro e w8 ⟨rfl, hk8⟩; have cb := kp_row hk8 CB.out; have CB := Lib.hid cb; clear cb; clear ca cc; obtain ⟨ca, cc⟩ := cell_two CB.out; have K8 := Lib.hid (Kp.trans K7.out hk8); clear hk8)
  have KT := K8
  go_wp2_with (first | (go_at_call 18; (with_reducible refine (HTT.out _ _).mono ?_); rintro e wt ⟨rfl, hkt⟩; have KT := Lib.hid (Kp.trans KT.out hkt); clear hkt) | (go_at_call 18; (with_reducible refine (HTE.out _ _ KT.out).mono ?_); rintro e wt ⟨rfl, hkt⟩; have KT := Lib.hid (Kp.trans KT.out hkt); clear hkt) | (go_at_call 18; (with_reducible refine (HTP.out _ _ KT.out).mono ?_); rintro e wt ⟨rfl, hkt⟩; have KT := Lib.hid (Kp.trans KT.out hkt); clear hkt))
  go_ret
  exact ⟨rfl, KT.out⟩

set_option maxRecDepth 20000 in
set_option maxHeartbeats 2000000 in
theorem txt_f_T (ads : List Addr) (nn si ri pi : Int) (in_ : I64 nn) (is_ : I64 si) (ir_ : I64 ri) (ip_ : I64 pi) (w : World) (V : St ads w) (I : IdsC ads w) (n0 : 0 ≤ nn) (n4 : nn < 4) (s0 : ¬ (0 ≤ si ∧ si < 1000000)) (p0 : 0 ≤ pi) (p8 : pi < 8) :
    Calls Tryd.prog 3 #[.agg #[.int .i64 nn, .int .i64 si], .int .i64 ri, .int .i64 pi] w fun e w' => e = .returned (.bool true) ∧ Kp w w' := by
  have hA : rightA nn si = false := decide_eq_false (by omega)
  have hN : nodeR nn = true := decide_eq_true (by omega)
  have eN : nodeO nn = some (nodeT nn.toNat) := by unfold nodeO; rw [hN]; rfl
  have eA : actO nn si = none := by unfold actO; rw [hA]; rfl
  have eG : regO nn si ri = none := by unfold regO; rw [hA]; rfl
  have hP : partR pi = true := decide_eq_true (by omega)
  have eP : partO nn pi = some (partT nn.toNat pi.toNat) := by unfold partO; rw [hN, hP]; rfl
  have HAL := Lib.hid (fun w1 (hk : Kp w w1) => alive_any ads w1 (V.below hk) (I.kp hk))
  have HR := fun w1 => refRight_any nn si w1
  have H1 := fun w1 (hk : Kp w w1) => I.node w1 hk nn in_
  have H2 := fun w1 (hk : Kp w w1) => I.act w1 hk nn si in_ is_
  have H3 := fun w1 (hk : Kp w w1) => I.reg w1 hk nn si ri in_ is_ ir_
  have H4 := fun w1 (hk : Kp w w1) => I.part w1 hk nn pi in_ ip_
  have H5 := fun w1 (hk : Kp w w1) => I.right w1 hk nn si in_ is_
  simp only [hA, eN, eA, eG, eP, textR] at HR H1 H2 H3 H4 H5
  have HTE := fun t w1 (hk : Kp w w1) => told_e ads t w1 (V.below hk)
  obtain ⟨er, her⟩ : ∃ e, errI ads 1 = e := ⟨_, rfl⟩
  simp only [her] at H1 H2 H3 H4 HTE
  have HTT := Lib.hid (fun s w1 => told_t s w1)
  have HD := fun w1 => refDigits_any nn.toNat (by omega) nn (by omega) w1
  have HC1 := Lib.hid (show (⟨#[110]⟩ : ByteArray) ++ strOfNums (dec nn.toNat) = strOfNums (nodeT nn.toNat) by rw [c110]; exact str_append _ _)
  have z1 : 1 + (strOfNums (dec nn.toNat)).size ≤ 9223372036854775807 := by rw [str_size]; have := dec_len nn.toNat; omega
  have HZ := fun w1 => refPart_any nn.toNat pi.toNat (by omega) (by omega) nn pi (by omega) (by omega) w1
  obtain ⟨d1, hd1⟩ : ∃ x, strOfNums (dec nn.toNat) = x := ⟨_, rfl⟩
  obtain ⟨tn, htn⟩ : ∃ x, strOfNums (nodeT nn.toNat) = x := ⟨_, rfl⟩
  simp only [hd1, htn] at H1 HD HC1 z1
  have q1 := HC1.out
  obtain ⟨tp, htp⟩ : ∃ x, strOfNums (partT nn.toNat pi.toNat) = x := ⟨_, rfl⟩
  simp only [htp] at H4 HZ
  have HR := Lib.hid HR
  have H1 := Lib.hid H1
  have H2 := Lib.hid H2
  have H3 := Lib.hid H3
  have H4 := Lib.hid H4
  have H5 := Lib.hid H5
  have HTE := Lib.hid HTE
  have HD := Lib.hid HD
  have HZ := Lib.hid HZ
  clear hA hN eN eA eG eP her V I in_ is_ ir_ ip_ hP hd1 htn htp
  go_enter Tryd.func3, Tryd.ntmps3
  go_wp2_with (go_at_call 7; (with_reducible refine (HAL.out _ (kp_alloc _ _)).mono ?_); rintro e w1 ⟨rfl, hk1⟩; have K1 := Lib.hid (Kp.trans (kp_alloc _ _) hk1); have cb := kp_row hk1 (MapKept.heap_alloc w (.cells #[.int .i64 nn, .int .i64 si] 23)).1; have CB := Lib.hid cb; clear hk1 cb; obtain ⟨ca, cc⟩ := cell_two CB.out)
  go_wp2_with (go_at_call 8; (with_reducible refine (HR.out _).mono ?_); rintro e w2 ⟨rfl, hk2⟩; have cb := kp_row hk2 CB.out; have CB := Lib.hid cb; clear cb; clear ca cc; obtain ⟨ca, cc⟩ := cell_two CB.out; have K2 := Lib.hid (Kp.trans K1.out hk2); clear hk2)
  go_wp2_with (go_at_call 9; (with_reducible refine (H1.out _ K2.out).mono ?_); rintro e w3 ⟨rfl, hk3⟩; have cb := kp_row hk3 CB.out; have CB := Lib.hid cb; clear cb; clear ca cc; obtain ⟨ca, cc⟩ := cell_two CB.out; have K3 := Lib.hid (Kp.trans K2.out hk3); clear hk3)
  go_wp2_with (go_at_call 10; (with_reducible refine (H2.out _ K3.out).mono ?_); rintro e w4 ⟨rfl, hk4⟩; have cb := kp_row hk4 CB.out; have CB := Lib.hid cb; clear cb; clear ca cc; obtain ⟨ca, cc⟩ := cell_two CB.out; have K4 := Lib.hid (Kp.trans K3.out hk4); clear hk4)
  go_wp2_with (go_at_call 11; (with_reducible refine (H3.out _ K4.out).mono ?_); rintro e w5 ⟨rfl, hk5⟩; have cb := kp_row hk5 CB.out; have CB := Lib.hid cb; clear cb; clear ca cc; obtain ⟨ca, cc⟩ := cell_two CB.out; have K5 := Lib.hid (Kp.trans K4.out hk5); clear hk5)
  go_wp2_with (go_at_call 12; (with_reducible refine (H4.out _ K5.out).mono ?_); rintro e w6 ⟨rfl, hk6⟩; have cb := kp_row hk6 CB.out; have CB := Lib.hid cb; clear cb; clear ca cc; obtain ⟨ca, cc⟩ := cell_two CB.out; have K6 := Lib.hid (Kp.trans K5.out hk6); clear hk6)
  go_wp2_with (go_at_call 13; (with_reducible refine (HD.out _).mono ?_); rintro e w7 ⟨rfl, hk7⟩; have cb := kp_row hk7 CB.out; have CB := Lib.hid cb; clear cb; clear ca cc; obtain ⟨ca, cc⟩ := cell_two CB.out; have K7 := Lib.hid (Kp.trans K6.out hk7); clear hk7)
  go_wp2_with (go_at_call 16; (with_reducible refine (HZ.out _).mono ?_); rintro e w8 ⟨rfl, hk8⟩; have cb := kp_row hk8 CB.out; have CB := Lib.hid cb; clear cb; clear ca cc; obtain ⟨ca, cc⟩ := cell_two CB.out; have K8 := Lib.hid (Kp.trans K7.out hk8); clear hk8)
  go_wp2_with (go_at_call 17; (with_reducible refine (H5.out _ K8.out).mono ?_); rintro e w9 ⟨rfl, hk9⟩; have cb := kp_row hk9 CB.out; have CB := Lib.hid cb; clear cb; clear ca cc; obtain ⟨ca, cc⟩ := cell_two CB.out; have K9 := Lib.hid (Kp.trans K8.out hk9); clear hk9)
  have KT := K9
  go_wp2_with (first | (go_at_call 18; (with_reducible refine (HTT.out _ _).mono ?_); rintro e wt ⟨rfl, hkt⟩; have KT := Lib.hid (Kp.trans KT.out hkt); clear hkt) | (go_at_call 18; (with_reducible refine (HTE.out _ _ KT.out).mono ?_); rintro e wt ⟨rfl, hkt⟩; have KT := Lib.hid (Kp.trans KT.out hkt); clear hkt))
  go_ret
  exact ⟨rfl, KT.out⟩

set_option maxRecDepth 20000 in
set_option maxHeartbeats 2000000 in
theorem txt_t_lo_lo (ads : List Addr) (nn si ri pi : Int) (in_ : I64 nn) (is_ : I64 si) (ir_ : I64 ri) (ip_ : I64 pi) (w : World) (V : St ads w) (I : IdsC ads w) (n0 : 0 ≤ nn) (n4 : nn < 4) (s0 : 0 ≤ si ∧ si < 1000000) (r0 : ri < 0) (p0 : pi < 0) :
    Calls Tryd.prog 3 #[.agg #[.int .i64 nn, .int .i64 si], .int .i64 ri, .int .i64 pi] w fun e w' => e = .returned (.bool true) ∧ Kp w w' := by
  have hA : rightA nn si = true := decide_eq_true (by omega)
  have hN : nodeR nn = true := decide_eq_true (by omega)
  have eN : nodeO nn = some (nodeT nn.toNat) := by unfold nodeO; rw [hN]; rfl
  have eA : actO nn si = some (actT nn.toNat si.toNat) := by unfold actO; rw [hA]; rfl
  have hG : regR ri = false := decide_eq_false (by omega)
  have eG : regO nn si ri = none := by unfold regO; rw [hA, hG]; rfl
  have hP : partR pi = false := decide_eq_false (by omega)
  have eP : partO nn pi = none := by unfold partO; rw [hN, hP]; rfl
  have HAL := Lib.hid (fun w1 (hk : Kp w w1) => alive_any ads w1 (V.below hk) (I.kp hk))
  have HR := fun w1 => refRight_any nn si w1
  have H1 := fun w1 (hk : Kp w w1) => I.node w1 hk nn in_
  have H2 := fun w1 (hk : Kp w w1) => I.act w1 hk nn si in_ is_
  have H3 := fun w1 (hk : Kp w w1) => I.reg w1 hk nn si ri in_ is_ ir_
  have H4 := fun w1 (hk : Kp w w1) => I.part w1 hk nn pi in_ ip_
  have H5 := fun w1 (hk : Kp w w1) => I.right w1 hk nn si in_ is_
  simp only [hA, eN, eA, eG, eP, textR] at HR H1 H2 H3 H4 H5
  have HTE := fun t w1 (hk : Kp w w1) => told_e ads t w1 (V.below hk)
  obtain ⟨er, her⟩ : ∃ e, errI ads 1 = e := ⟨_, rfl⟩
  simp only [her] at H1 H2 H3 H4 HTE
  have HTT := Lib.hid (fun s w1 => told_t s w1)
  have HD := fun w1 => refDigits_any nn.toNat (by omega) nn (by omega) w1
  have HC1 := Lib.hid (show (⟨#[110]⟩ : ByteArray) ++ strOfNums (dec nn.toNat) = strOfNums (nodeT nn.toNat) by rw [c110]; exact str_append _ _)
  have z1 : 1 + (strOfNums (dec nn.toNat)).size ≤ 9223372036854775807 := by rw [str_size]; have := dec_len nn.toNat; omega
  have HX := fun w1 => refAct_any nn.toNat si.toNat (by omega) (by omega) nn si (by omega) (by omega) w1
  obtain ⟨d1, hd1⟩ : ∃ x, strOfNums (dec nn.toNat) = x := ⟨_, rfl⟩
  obtain ⟨tn, htn⟩ : ∃ x, strOfNums (nodeT nn.toNat) = x := ⟨_, rfl⟩
  simp only [hd1, htn] at H1 HD HC1 z1
  have q1 := HC1.out
  obtain ⟨ta, hta⟩ : ∃ x, strOfNums (actT nn.toNat si.toNat) = x := ⟨_, rfl⟩
  simp only [hta] at H2 HX
  have HR := Lib.hid HR
  have H1 := Lib.hid H1
  have H2 := Lib.hid H2
  have H3 := Lib.hid H3
  have H4 := Lib.hid H4
  have H5 := Lib.hid H5
  have HTE := Lib.hid HTE
  have HD := Lib.hid HD
  have HX := Lib.hid HX
  clear hA hN eN eA eG eP her V I in_ is_ ir_ ip_ hG hP hd1 htn hta
  go_enter Tryd.func3, Tryd.ntmps3
  go_wp2_with (go_at_call 7; (with_reducible refine (HAL.out _ (kp_alloc _ _)).mono ?_); rintro e w1 ⟨rfl, hk1⟩; have K1 := Lib.hid (Kp.trans (kp_alloc _ _) hk1); have cb := kp_row hk1 (MapKept.heap_alloc w (.cells #[.int .i64 nn, .int .i64 si] 23)).1; have CB := Lib.hid cb; clear hk1 cb; obtain ⟨ca, cc⟩ := cell_two CB.out)
  go_wp2_with (go_at_call 8; (with_reducible refine (HR.out _).mono ?_); rintro e w2 ⟨rfl, hk2⟩; have cb := kp_row hk2 CB.out; have CB := Lib.hid cb; clear cb; clear ca cc; obtain ⟨ca, cc⟩ := cell_two CB.out; have K2 := Lib.hid (Kp.trans K1.out hk2); clear hk2)
  go_wp2_with (go_at_call 9; (with_reducible refine (H1.out _ K2.out).mono ?_); rintro e w3 ⟨rfl, hk3⟩; have cb := kp_row hk3 CB.out; have CB := Lib.hid cb; clear cb; clear ca cc; obtain ⟨ca, cc⟩ := cell_two CB.out; have K3 := Lib.hid (Kp.trans K2.out hk3); clear hk3)
  go_wp2_with (go_at_call 10; (with_reducible refine (H2.out _ K3.out).mono ?_); rintro e w4 ⟨rfl, hk4⟩; have cb := kp_row hk4 CB.out; have CB := Lib.hid cb; clear cb; clear ca cc; obtain ⟨ca, cc⟩ := cell_two CB.out; have K4 := Lib.hid (Kp.trans K3.out hk4); clear hk4)
  go_wp2_with (go_at_call 11; (with_reducible refine (H3.out _ K4.out).mono ?_); rintro e w5 ⟨rfl, hk5⟩; have cb := kp_row hk5 CB.out; have CB := Lib.hid cb; clear cb; clear ca cc; obtain ⟨ca, cc⟩ := cell_two CB.out; have K5 := Lib.hid (Kp.trans K4.out hk5); clear hk5)
  go_wp2_with (go_at_call 12; (with_reducible refine (H4.out _ K5.out).mono ?_); rintro e w6 ⟨rfl, hk6⟩; have cb := kp_row hk6 CB.out; have CB := Lib.hid cb; clear cb; clear ca cc; obtain ⟨ca, cc⟩ := cell_two CB.out; have K6 := Lib.hid (Kp.trans K5.out hk6); clear hk6)
  go_wp2_with (go_at_call 13; (with_reducible refine (HD.out _).mono ?_); rintro e w7 ⟨rfl, hk7⟩; have cb := kp_row hk7 CB.out; have CB := Lib.hid cb; clear cb; clear ca cc; obtain ⟨ca, cc⟩ := cell_two CB.out; have K7 := Lib.hid (Kp.trans K6.out hk7); clear hk7)
  go_wp2_with (go_at_call 14; (with_reducible refine (HX.out _).mono ?_); rintro e w8 ⟨rfl, hk8⟩; have cb := kp_row hk8 CB.out; have CB := Lib.hid cb; clear cb; clear ca cc; obtain ⟨ca, cc⟩ := cell_two CB.out; have K8 := Lib.hid (Kp.trans K7.out hk8); clear hk8)
  go_wp2_with (go_at_call 17; (with_reducible refine (H5.out _ K8.out).mono ?_); rintro e w9 ⟨rfl, hk9⟩; have cb := kp_row hk9 CB.out; have CB := Lib.hid cb; clear cb; clear ca cc; obtain ⟨ca, cc⟩ := cell_two CB.out; have K9 := Lib.hid (Kp.trans K8.out hk9); clear hk9)
  have KT := K9
  go_wp2_with (first | (go_at_call 18; (with_reducible refine (HTT.out _ _).mono ?_); rintro e wt ⟨rfl, hkt⟩; have KT := Lib.hid (Kp.trans KT.out hkt); clear hkt) | (go_at_call 18; (with_reducible refine (HTE.out _ _ KT.out).mono ?_); rintro e wt ⟨rfl, hkt⟩; have KT := Lib.hid (Kp.trans KT.out hkt); clear hkt))
  go_ret
  exact ⟨rfl, KT.out⟩

set_option maxRecDepth 20000 in
set_option maxHeartbeats 2000000 in
theorem txt_t_lo_hi (ads : List Addr) (nn si ri pi : Int) (in_ : I64 nn) (is_ : I64 si) (ir_ : I64 ri) (ip_ : I64 pi) (w : World) (V : St ads w) (I : IdsC ads w) (n0 : 0 ≤ nn) (n4 : nn < 4) (s0 : 0 ≤ si ∧ si < 1000000) (r0 : ri < 0) (p0 : 8 ≤ pi) :
    Calls Tryd.prog 3 #[.agg #[.int .i64 nn, .int .i64 si], .int .i64 ri, .int .i64 pi] w fun e w' => e = .returned (.bool true) ∧ Kp w w' := by
  have hA : rightA nn si = true := decide_eq_true (by omega)
  have hN : nodeR nn = true := decide_eq_true (by omega)
  have eN : nodeO nn = some (nodeT nn.toNat) := by unfold nodeO; rw [hN]; rfl
  have eA : actO nn si = some (actT nn.toNat si.toNat) := by unfold actO; rw [hA]; rfl
  have hG : regR ri = false := decide_eq_false (by omega)
  have eG : regO nn si ri = none := by unfold regO; rw [hA, hG]; rfl
  have hP : partR pi = false := decide_eq_false (by omega)
  have eP : partO nn pi = none := by unfold partO; rw [hN, hP]; rfl
  have p00 : 0 ≤ pi := by omega
  have HAL := Lib.hid (fun w1 (hk : Kp w w1) => alive_any ads w1 (V.below hk) (I.kp hk))
  have HR := fun w1 => refRight_any nn si w1
  have H1 := fun w1 (hk : Kp w w1) => I.node w1 hk nn in_
  have H2 := fun w1 (hk : Kp w w1) => I.act w1 hk nn si in_ is_
  have H3 := fun w1 (hk : Kp w w1) => I.reg w1 hk nn si ri in_ is_ ir_
  have H4 := fun w1 (hk : Kp w w1) => I.part w1 hk nn pi in_ ip_
  have H5 := fun w1 (hk : Kp w w1) => I.right w1 hk nn si in_ is_
  simp only [hA, eN, eA, eG, eP, textR] at HR H1 H2 H3 H4 H5
  have HTE := fun t w1 (hk : Kp w w1) => told_e ads t w1 (V.below hk)
  obtain ⟨er, her⟩ : ∃ e, errI ads 1 = e := ⟨_, rfl⟩
  simp only [her] at H1 H2 H3 H4 HTE
  have HTT := Lib.hid (fun s w1 => told_t s w1)
  have HD := fun w1 => refDigits_any nn.toNat (by omega) nn (by omega) w1
  have HC1 := Lib.hid (show (⟨#[110]⟩ : ByteArray) ++ strOfNums (dec nn.toNat) = strOfNums (nodeT nn.toNat) by rw [c110]; exact str_append _ _)
  have z1 : 1 + (strOfNums (dec nn.toNat)).size ≤ 9223372036854775807 := by rw [str_size]; have := dec_len nn.toNat; omega
  have HX := fun w1 => refAct_any nn.toNat si.toNat (by omega) (by omega) nn si (by omega) (by omega) w1
  obtain ⟨d1, hd1⟩ : ∃ x, strOfNums (dec nn.toNat) = x := ⟨_, rfl⟩
  obtain ⟨tn, htn⟩ : ∃ x, strOfNums (nodeT nn.toNat) = x := ⟨_, rfl⟩
  simp only [hd1, htn] at H1 HD HC1 z1
  have q1 := HC1.out
  obtain ⟨ta, hta⟩ : ∃ x, strOfNums (actT nn.toNat si.toNat) = x := ⟨_, rfl⟩
  simp only [hta] at H2 HX
  have HTP := fun t w1 (hk : Kp w w1) => HTE t w1 hk
  rw [show false = decide (pi < 8) from (decide_eq_false (by omega)).symm] at HTP
  have HR := Lib.hid HR
  have H1 := Lib.hid H1
  have H2 := Lib.hid H2
  have H3 := Lib.hid H3
  have H4 := Lib.hid H4
  have H5 := Lib.hid H5
  have HTE := Lib.hid HTE
  have HD := Lib.hid HD
  have HX := Lib.hid HX
  have HTP := Lib.hid HTP
  clear hA hN eN eA eG eP her V I in_ is_ ir_ ip_ hG hP hd1 htn hta
  go_enter Tryd.func3, Tryd.ntmps3
  go_wp2_with (go_at_call 7; (with_reducible refine (HAL.out _ (kp_alloc _ _)).mono ?_); rintro e w1 ⟨rfl, hk1⟩; have K1 := Lib.hid (Kp.trans (kp_alloc _ _) hk1); have cb := kp_row hk1 (MapKept.heap_alloc w (.cells #[.int .i64 nn, .int .i64 si] 23)).1; have CB := Lib.hid cb; clear hk1 cb; obtain ⟨ca, cc⟩ := cell_two CB.out)
  go_wp2_with (go_at_call 8; (with_reducible refine (HR.out _).mono ?_); rintro e w2 ⟨rfl, hk2⟩; have cb := kp_row hk2 CB.out; have CB := Lib.hid cb; clear cb; clear ca cc; obtain ⟨ca, cc⟩ := cell_two CB.out; have K2 := Lib.hid (Kp.trans K1.out hk2); clear hk2)
  go_wp2_with (go_at_call 9; (with_reducible refine (H1.out _ K2.out).mono ?_); rintro e w3 ⟨rfl, hk3⟩; have cb := kp_row hk3 CB.out; have CB := Lib.hid cb; clear cb; clear ca cc; obtain ⟨ca, cc⟩ := cell_two CB.out; have K3 := Lib.hid (Kp.trans K2.out hk3); clear hk3)
  go_wp2_with (go_at_call 10; (with_reducible refine (H2.out _ K3.out).mono ?_); rintro e w4 ⟨rfl, hk4⟩; have cb := kp_row hk4 CB.out; have CB := Lib.hid cb; clear cb; clear ca cc; obtain ⟨ca, cc⟩ := cell_two CB.out; have K4 := Lib.hid (Kp.trans K3.out hk4); clear hk4)
  go_wp2_with (go_at_call 11; (with_reducible refine (H3.out _ K4.out).mono ?_); rintro e w5 ⟨rfl, hk5⟩; have cb := kp_row hk5 CB.out; have CB := Lib.hid cb; clear cb; clear ca cc; obtain ⟨ca, cc⟩ := cell_two CB.out; have K5 := Lib.hid (Kp.trans K4.out hk5); clear hk5)
  go_wp2_with (go_at_call 12; (with_reducible refine (H4.out _ K5.out).mono ?_); rintro e w6 ⟨rfl, hk6⟩; have cb := kp_row hk6 CB.out; have CB := Lib.hid cb; clear cb; clear ca cc; obtain ⟨ca, cc⟩ := cell_two CB.out; have K6 := Lib.hid (Kp.trans K5.out hk6); clear hk6)
  go_wp2_with (go_at_call 13; (with_reducible refine (HD.out _).mono ?_); rintro e w7 ⟨rfl, hk7⟩; have cb := kp_row hk7 CB.out; have CB := Lib.hid cb; clear cb; clear ca cc; obtain ⟨ca, cc⟩ := cell_two CB.out; have K7 := Lib.hid (Kp.trans K6.out hk7); clear hk7)
  go_wp2_with (go_at_call 14; (with_reducible refine (HX.out _).mono ?_); rintro e w8 ⟨rfl, hk8⟩; have cb := kp_row hk8 CB.out; have CB := Lib.hid cb; clear cb; clear ca cc; obtain ⟨ca, cc⟩ := cell_two CB.out; have K8 := Lib.hid (Kp.trans K7.out hk8); clear hk8)
  go_wp2_with (go_at_call 17; (with_reducible refine (H5.out _ K8.out).mono ?_); rintro e w9 ⟨rfl, hk9⟩; have cb := kp_row hk9 CB.out; have CB := Lib.hid cb; clear cb; clear ca cc; obtain ⟨ca, cc⟩ := cell_two CB.out; have K9 := Lib.hid (Kp.trans K8.out hk9); clear hk9)
  have KT := K9
  go_wp2_with (first | (go_at_call 18; (with_reducible refine (HTT.out _ _).mono ?_); rintro e wt ⟨rfl, hkt⟩; have KT := Lib.hid (Kp.trans KT.out hkt); clear hkt) | (go_at_call 18; (with_reducible refine (HTE.out _ _ KT.out).mono ?_); rintro e wt ⟨rfl, hkt⟩; have KT := Lib.hid (Kp.trans KT.out hkt); clear hkt) | (go_at_call 18; (with_reducible refine (HTP.out _ _ KT.out).mono ?_); rintro e wt ⟨rfl, hkt⟩; have KT := Lib.hid (Kp.trans KT.out hkt); clear hkt))
  go_ret
  exact ⟨rfl, KT.out⟩

set_option maxRecDepth 20000 in
set_option maxHeartbeats 2000000 in
theorem txt_t_lo_T (ads : List Addr) (nn si ri pi : Int) (in_ : I64 nn) (is_ : I64 si) (ir_ : I64 ri) (ip_ : I64 pi) (w : World) (V : St ads w) (I : IdsC ads w) (n0 : 0 ≤ nn) (n4 : nn < 4) (s0 : 0 ≤ si ∧ si < 1000000) (r0 : ri < 0) (p0 : 0 ≤ pi) (p8 : pi < 8) :
    Calls Tryd.prog 3 #[.agg #[.int .i64 nn, .int .i64 si], .int .i64 ri, .int .i64 pi] w fun e w' => e = .returned (.bool true) ∧ Kp w w' := by
  have hA : rightA nn si = true := decide_eq_true (by omega)
  have hN : nodeR nn = true := decide_eq_true (by omega)
  have eN : nodeO nn = some (nodeT nn.toNat) := by unfold nodeO; rw [hN]; rfl
  have eA : actO nn si = some (actT nn.toNat si.toNat) := by unfold actO; rw [hA]; rfl
  have hG : regR ri = false := decide_eq_false (by omega)
  have eG : regO nn si ri = none := by unfold regO; rw [hA, hG]; rfl
  have hP : partR pi = true := decide_eq_true (by omega)
  have eP : partO nn pi = some (partT nn.toNat pi.toNat) := by unfold partO; rw [hN, hP]; rfl
  have HAL := Lib.hid (fun w1 (hk : Kp w w1) => alive_any ads w1 (V.below hk) (I.kp hk))
  have HR := fun w1 => refRight_any nn si w1
  have H1 := fun w1 (hk : Kp w w1) => I.node w1 hk nn in_
  have H2 := fun w1 (hk : Kp w w1) => I.act w1 hk nn si in_ is_
  have H3 := fun w1 (hk : Kp w w1) => I.reg w1 hk nn si ri in_ is_ ir_
  have H4 := fun w1 (hk : Kp w w1) => I.part w1 hk nn pi in_ ip_
  have H5 := fun w1 (hk : Kp w w1) => I.right w1 hk nn si in_ is_
  simp only [hA, eN, eA, eG, eP, textR] at HR H1 H2 H3 H4 H5
  have HTE := fun t w1 (hk : Kp w w1) => told_e ads t w1 (V.below hk)
  obtain ⟨er, her⟩ : ∃ e, errI ads 1 = e := ⟨_, rfl⟩
  simp only [her] at H1 H2 H3 H4 HTE
  have HTT := Lib.hid (fun s w1 => told_t s w1)
  have HD := fun w1 => refDigits_any nn.toNat (by omega) nn (by omega) w1
  have HC1 := Lib.hid (show (⟨#[110]⟩ : ByteArray) ++ strOfNums (dec nn.toNat) = strOfNums (nodeT nn.toNat) by rw [c110]; exact str_append _ _)
  have z1 : 1 + (strOfNums (dec nn.toNat)).size ≤ 9223372036854775807 := by rw [str_size]; have := dec_len nn.toNat; omega
  have HX := fun w1 => refAct_any nn.toNat si.toNat (by omega) (by omega) nn si (by omega) (by omega) w1
  have HZ := fun w1 => refPart_any nn.toNat pi.toNat (by omega) (by omega) nn pi (by omega) (by omega) w1
  obtain ⟨d1, hd1⟩ : ∃ x, strOfNums (dec nn.toNat) = x := ⟨_, rfl⟩
  obtain ⟨tn, htn⟩ : ∃ x, strOfNums (nodeT nn.toNat) = x := ⟨_, rfl⟩
  simp only [hd1, htn] at H1 HD HC1 z1
  have q1 := HC1.out
  obtain ⟨ta, hta⟩ : ∃ x, strOfNums (actT nn.toNat si.toNat) = x := ⟨_, rfl⟩
  simp only [hta] at H2 HX
  obtain ⟨tp, htp⟩ : ∃ x, strOfNums (partT nn.toNat pi.toNat) = x := ⟨_, rfl⟩
  simp only [htp] at H4 HZ
  have HR := Lib.hid HR
  have H1 := Lib.hid H1
  have H2 := Lib.hid H2
  have H3 := Lib.hid H3
  have H4 := Lib.hid H4
  have H5 := Lib.hid H5
  have HTE := Lib.hid HTE
  have HD := Lib.hid HD
  have HX := Lib.hid HX
  have HZ := Lib.hid HZ
  clear hA hN eN eA eG eP her V I in_ is_ ir_ ip_ hG hP hd1 htn hta htp
  go_enter Tryd.func3, Tryd.ntmps3
  go_wp2_with (go_at_call 7; (with_reducible refine (HAL.out _ (kp_alloc _ _)).mono ?_); rintro e w1 ⟨rfl, hk1⟩; have K1 := Lib.hid (Kp.trans (kp_alloc _ _) hk1); have cb := kp_row hk1 (MapKept.heap_alloc w (.cells #[.int .i64 nn, .int .i64 si] 23)).1; have CB := Lib.hid cb; clear hk1 cb; obtain ⟨ca, cc⟩ := cell_two CB.out)
  go_wp2_with (go_at_call 8; (with_reducible refine (HR.out _).mono ?_); rintro e w2 ⟨rfl, hk2⟩; have cb := kp_row hk2 CB.out; have CB := Lib.hid cb; clear cb; clear ca cc; obtain ⟨ca, cc⟩ := cell_two CB.out; have K2 := Lib.hid (Kp.trans K1.out hk2); clear hk2)
  go_wp2_with (go_at_call 9; (with_reducible refine (H1.out _ K2.out).mono ?_); rintro e w3 ⟨rfl, hk3⟩; have cb := kp_row hk3 CB.out; have CB := Lib.hid cb; clear cb; clear ca cc; obtain ⟨ca, cc⟩ := cell_two CB.out; have K3 := Lib.hid (Kp.trans K2.out hk3); clear hk3)
  go_wp2_with (go_at_call 10; (with_reducible refine (H2.out _ K3.out).mono ?_); rintro e w4 ⟨rfl, hk4⟩; have cb := kp_row hk4 CB.out; have CB := Lib.hid cb; clear cb; clear ca cc; obtain ⟨ca, cc⟩ := cell_two CB.out; have K4 := Lib.hid (Kp.trans K3.out hk4); clear hk4)
  go_wp2_with (go_at_call 11; (with_reducible refine (H3.out _ K4.out).mono ?_); rintro e w5 ⟨rfl, hk5⟩; have cb := kp_row hk5 CB.out; have CB := Lib.hid cb; clear cb; clear ca cc; obtain ⟨ca, cc⟩ := cell_two CB.out; have K5 := Lib.hid (Kp.trans K4.out hk5); clear hk5)
  go_wp2_with (go_at_call 12; (with_reducible refine (H4.out _ K5.out).mono ?_); rintro e w6 ⟨rfl, hk6⟩; have cb := kp_row hk6 CB.out; have CB := Lib.hid cb; clear cb; clear ca cc; obtain ⟨ca, cc⟩ := cell_two CB.out; have K6 := Lib.hid (Kp.trans K5.out hk6); clear hk6)
  go_wp2_with (go_at_call 13; (with_reducible refine (HD.out _).mono ?_); rintro e w7 ⟨rfl, hk7⟩; have cb := kp_row hk7 CB.out; have CB := Lib.hid cb; clear cb; clear ca cc; obtain ⟨ca, cc⟩ := cell_two CB.out; have K7 := Lib.hid (Kp.trans K6.out hk7); clear hk7)
  go_wp2_with (go_at_call 14; (with_reducible refine (HX.out _).mono ?_); rintro e w8 ⟨rfl, hk8⟩; have cb := kp_row hk8 CB.out; have CB := Lib.hid cb; clear cb; clear ca cc; obtain ⟨ca, cc⟩ := cell_two CB.out; have K8 := Lib.hid (Kp.trans K7.out hk8); clear hk8)
  go_wp2_with (go_at_call 16; (with_reducible refine (HZ.out _).mono ?_); rintro e w9 ⟨rfl, hk9⟩; have cb := kp_row hk9 CB.out; have CB := Lib.hid cb; clear cb; clear ca cc; obtain ⟨ca, cc⟩ := cell_two CB.out; have K9 := Lib.hid (Kp.trans K8.out hk9); clear hk9)
  go_wp2_with (go_at_call 17; (with_reducible refine (H5.out _ K9.out).mono ?_); rintro e w10 ⟨rfl, hk10⟩; have cb := kp_row hk10 CB.out; have CB := Lib.hid cb; clear cb; clear ca cc; obtain ⟨ca, cc⟩ := cell_two CB.out; have K10 := Lib.hid (Kp.trans K9.out hk10); clear hk10)
  have KT := K10
  go_wp2_with (first | (go_at_call 18; (with_reducible refine (HTT.out _ _).mono ?_); rintro e wt ⟨rfl, hkt⟩; have KT := Lib.hid (Kp.trans KT.out hkt); clear hkt) | (go_at_call 18; (with_reducible refine (HTE.out _ _ KT.out).mono ?_); rintro e wt ⟨rfl, hkt⟩; have KT := Lib.hid (Kp.trans KT.out hkt); clear hkt))
  go_ret
  exact ⟨rfl, KT.out⟩

set_option maxRecDepth 20000 in
set_option maxHeartbeats 2000000 in
theorem txt_t_hi_lo (ads : List Addr) (nn si ri pi : Int) (in_ : I64 nn) (is_ : I64 si) (ir_ : I64 ri) (ip_ : I64 pi) (w : World) (V : St ads w) (I : IdsC ads w) (n0 : 0 ≤ nn) (n4 : nn < 4) (s0 : 0 ≤ si ∧ si < 1000000) (r0 : 6 ≤ ri) (p0 : pi < 0) :
    Calls Tryd.prog 3 #[.agg #[.int .i64 nn, .int .i64 si], .int .i64 ri, .int .i64 pi] w fun e w' => e = .returned (.bool true) ∧ Kp w w' := by
  have hA : rightA nn si = true := decide_eq_true (by omega)
  have hN : nodeR nn = true := decide_eq_true (by omega)
  have eN : nodeO nn = some (nodeT nn.toNat) := by unfold nodeO; rw [hN]; rfl
  have eA : actO nn si = some (actT nn.toNat si.toNat) := by unfold actO; rw [hA]; rfl
  have hG : regR ri = false := decide_eq_false (by omega)
  have eG : regO nn si ri = none := by unfold regO; rw [hA, hG]; rfl
  have hP : partR pi = false := decide_eq_false (by omega)
  have eP : partO nn pi = none := by unfold partO; rw [hN, hP]; rfl
  have r00 : 0 ≤ ri := by omega
  have HAL := Lib.hid (fun w1 (hk : Kp w w1) => alive_any ads w1 (V.below hk) (I.kp hk))
  have HR := fun w1 => refRight_any nn si w1
  have H1 := fun w1 (hk : Kp w w1) => I.node w1 hk nn in_
  have H2 := fun w1 (hk : Kp w w1) => I.act w1 hk nn si in_ is_
  have H3 := fun w1 (hk : Kp w w1) => I.reg w1 hk nn si ri in_ is_ ir_
  have H4 := fun w1 (hk : Kp w w1) => I.part w1 hk nn pi in_ ip_
  have H5 := fun w1 (hk : Kp w w1) => I.right w1 hk nn si in_ is_
  simp only [hA, eN, eA, eG, eP, textR] at HR H1 H2 H3 H4 H5
  have HTE := fun t w1 (hk : Kp w w1) => told_e ads t w1 (V.below hk)
  obtain ⟨er, her⟩ : ∃ e, errI ads 1 = e := ⟨_, rfl⟩
  simp only [her] at H1 H2 H3 H4 HTE
  have HTT := Lib.hid (fun s w1 => told_t s w1)
  have HD := fun w1 => refDigits_any nn.toNat (by omega) nn (by omega) w1
  have HC1 := Lib.hid (show (⟨#[110]⟩ : ByteArray) ++ strOfNums (dec nn.toNat) = strOfNums (nodeT nn.toNat) by rw [c110]; exact str_append _ _)
  have z1 : 1 + (strOfNums (dec nn.toNat)).size ≤ 9223372036854775807 := by rw [str_size]; have := dec_len nn.toNat; omega
  have HX := fun w1 => refAct_any nn.toNat si.toNat (by omega) (by omega) nn si (by omega) (by omega) w1
  obtain ⟨d1, hd1⟩ : ∃ x, strOfNums (dec nn.toNat) = x := ⟨_, rfl⟩
  obtain ⟨tn, htn⟩ : ∃ x, strOfNums (nodeT nn.toNat) = x := ⟨_, rfl⟩
  simp only [hd1, htn] at H1 HD HC1 z1
  have q1 := HC1.out
  obtain ⟨ta, hta⟩ : ∃ x, strOfNums (actT nn.toNat si.toNat) = x := ⟨_, rfl⟩
  simp only [hta] at H2 HX
  have HTG := fun t w1 (hk : Kp w w1) => HTE t w1 hk
  rw [show false = decide (ri < 6) from (decide_eq_false (by omega)).symm] at HTG
  have HR := Lib.hid HR
  have H1 := Lib.hid H1
  have H2 := Lib.hid H2
  have H3 := Lib.hid H3
  have H4 := Lib.hid H4
  have H5 := Lib.hid H5
  have HTE := Lib.hid HTE
  have HD := Lib.hid HD
  have HX := Lib.hid HX
  have HTG := Lib.hid HTG
  clear hA hN eN eA eG eP her V I in_ is_ ir_ ip_ hG hP hd1 htn hta
  go_enter Tryd.func3, Tryd.ntmps3
  go_wp2_with (go_at_call 7; (with_reducible refine (HAL.out _ (kp_alloc _ _)).mono ?_); rintro e w1 ⟨rfl, hk1⟩; have K1 := Lib.hid (Kp.trans (kp_alloc _ _) hk1); have cb := kp_row hk1 (MapKept.heap_alloc w (.cells #[.int .i64 nn, .int .i64 si] 23)).1; have CB := Lib.hid cb; clear hk1 cb; obtain ⟨ca, cc⟩ := cell_two CB.out)
  go_wp2_with (go_at_call 8; (with_reducible refine (HR.out _).mono ?_); rintro e w2 ⟨rfl, hk2⟩; have cb := kp_row hk2 CB.out; have CB := Lib.hid cb; clear cb; clear ca cc; obtain ⟨ca, cc⟩ := cell_two CB.out; have K2 := Lib.hid (Kp.trans K1.out hk2); clear hk2)
  go_wp2_with (go_at_call 9; (with_reducible refine (H1.out _ K2.out).mono ?_); rintro e w3 ⟨rfl, hk3⟩; have cb := kp_row hk3 CB.out; have CB := Lib.hid cb; clear cb; clear ca cc; obtain ⟨ca, cc⟩ := cell_two CB.out; have K3 := Lib.hid (Kp.trans K2.out hk3); clear hk3)
  go_wp2_with (go_at_call 10; (with_reducible refine (H2.out _ K3.out).mono ?_); rintro e w4 ⟨rfl, hk4⟩; have cb := kp_row hk4 CB.out; have CB := Lib.hid cb; clear cb; clear ca cc; obtain ⟨ca, cc⟩ := cell_two CB.out; have K4 := Lib.hid (Kp.trans K3.out hk4); clear hk4)
  go_wp2_with (go_at_call 11; (with_reducible refine (H3.out _ K4.out).mono ?_); rintro e w5 ⟨rfl, hk5⟩; have cb := kp_row hk5 CB.out; have CB := Lib.hid cb; clear cb; clear ca cc; obtain ⟨ca, cc⟩ := cell_two CB.out; have K5 := Lib.hid (Kp.trans K4.out hk5); clear hk5)
  go_wp2_with (go_at_call 12; (with_reducible refine (H4.out _ K5.out).mono ?_); rintro e w6 ⟨rfl, hk6⟩; have cb := kp_row hk6 CB.out; have CB := Lib.hid cb; clear cb; clear ca cc; obtain ⟨ca, cc⟩ := cell_two CB.out; have K6 := Lib.hid (Kp.trans K5.out hk6); clear hk6)
  go_wp2_with (go_at_call 13; (with_reducible refine (HD.out _).mono ?_); rintro e w7 ⟨rfl, hk7⟩; have cb := kp_row hk7 CB.out; have CB := Lib.hid cb; clear cb; clear ca cc; obtain ⟨ca, cc⟩ := cell_two CB.out; have K7 := Lib.hid (Kp.trans K6.out hk7); clear hk7)
  go_wp2_with (go_at_call 14; (with_reducible refine (HX.out _).mono ?_); rintro e w8 ⟨rfl, hk8⟩; have cb := kp_row hk8 CB.out; have CB := Lib.hid cb; clear cb; clear ca cc; obtain ⟨ca, cc⟩ := cell_two CB.out; have K8 := Lib.hid (Kp.trans K7.out hk8); clear hk8)
  go_wp2_with (go_at_call 17; (with_reducible refine (H5.out _ K8.out).mono ?_); rintro e w9 ⟨rfl, hk9⟩; have cb := kp_row hk9 CB.out; have CB := Lib.hid cb; clear cb; clear ca cc; obtain ⟨ca, cc⟩ := cell_two CB.out; have K9 := Lib.hid (Kp.trans K8.out hk9); clear hk9)
  have KT := K9
  go_wp2_with (first | (go_at_call 18; (with_reducible refine (HTT.out _ _).mono ?_); rintro e wt ⟨rfl, hkt⟩; have KT := Lib.hid (Kp.trans KT.out hkt); clear hkt) | (go_at_call 18; (with_reducible refine (HTE.out _ _ KT.out).mono ?_); rintro e wt ⟨rfl, hkt⟩; have KT := Lib.hid (Kp.trans KT.out hkt); clear hkt) | (go_at_call 18; (with_reducible refine (HTG.out _ _ KT.out).mono ?_); rintro e wt ⟨rfl, hkt⟩; have KT := Lib.hid (Kp.trans KT.out hkt); clear hkt))
  go_ret
  exact ⟨rfl, KT.out⟩

set_option maxRecDepth 20000 in
set_option maxHeartbeats 2000000 in
theorem txt_t_hi_hi (ads : List Addr) (nn si ri pi : Int) (in_ : I64 nn) (is_ : I64 si) (ir_ : I64 ri) (ip_ : I64 pi) (w : World) (V : St ads w) (I : IdsC ads w) (n0 : 0 ≤ nn) (n4 : nn < 4) (s0 : 0 ≤ si ∧ si < 1000000) (r0 : 6 ≤ ri) (p0 : 8 ≤ pi) :
    Calls Tryd.prog 3 #[.agg #[.int .i64 nn, .int .i64 si], .int .i64 ri, .int .i64 pi] w fun e w' => e = .returned (.bool true) ∧ Kp w w' := by
  have hA : rightA nn si = true := decide_eq_true (by omega)
  have hN : nodeR nn = true := decide_eq_true (by omega)
  have eN : nodeO nn = some (nodeT nn.toNat) := by unfold nodeO; rw [hN]; rfl
  have eA : actO nn si = some (actT nn.toNat si.toNat) := by unfold actO; rw [hA]; rfl
  have hG : regR ri = false := decide_eq_false (by omega)
  have eG : regO nn si ri = none := by unfold regO; rw [hA, hG]; rfl
  have hP : partR pi = false := decide_eq_false (by omega)
  have eP : partO nn pi = none := by unfold partO; rw [hN, hP]; rfl
  have r00 : 0 ≤ ri := by omega
  have p00 : 0 ≤ pi := by omega
  have HAL := Lib.hid (fun w1 (hk : Kp w w1) => alive_any ads w1 (V.below hk) (I.kp hk))
  have HR := fun w1 => refRight_any nn si w1
  have H1 := fun w1 (hk : Kp w w1) => I.node w1 hk nn in_
  have H2 := fun w1 (hk : Kp w w1) => I.act w1 hk nn si in_ is_
  have H3 := fun w1 (hk : Kp w w1) => I.reg w1 hk nn si ri in_ is_ ir_
  have H4 := fun w1 (hk : Kp w w1) => I.part w1 hk nn pi in_ ip_
  have H5 := fun w1 (hk : Kp w w1) => I.right w1 hk nn si in_ is_
  simp only [hA, eN, eA, eG, eP, textR] at HR H1 H2 H3 H4 H5
  have HTE := fun t w1 (hk : Kp w w1) => told_e ads t w1 (V.below hk)
  obtain ⟨er, her⟩ : ∃ e, errI ads 1 = e := ⟨_, rfl⟩
  simp only [her] at H1 H2 H3 H4 HTE
  have HTT := Lib.hid (fun s w1 => told_t s w1)
  have HD := fun w1 => refDigits_any nn.toNat (by omega) nn (by omega) w1
  have HC1 := Lib.hid (show (⟨#[110]⟩ : ByteArray) ++ strOfNums (dec nn.toNat) = strOfNums (nodeT nn.toNat) by rw [c110]; exact str_append _ _)
  have z1 : 1 + (strOfNums (dec nn.toNat)).size ≤ 9223372036854775807 := by rw [str_size]; have := dec_len nn.toNat; omega
  have HX := fun w1 => refAct_any nn.toNat si.toNat (by omega) (by omega) nn si (by omega) (by omega) w1
  obtain ⟨d1, hd1⟩ : ∃ x, strOfNums (dec nn.toNat) = x := ⟨_, rfl⟩
  obtain ⟨tn, htn⟩ : ∃ x, strOfNums (nodeT nn.toNat) = x := ⟨_, rfl⟩
  simp only [hd1, htn] at H1 HD HC1 z1
  have q1 := HC1.out
  obtain ⟨ta, hta⟩ : ∃ x, strOfNums (actT nn.toNat si.toNat) = x := ⟨_, rfl⟩
  simp only [hta] at H2 HX
  have HTG := fun t w1 (hk : Kp w w1) => HTE t w1 hk
  rw [show false = decide (ri < 6) from (decide_eq_false (by omega)).symm] at HTG
  have HTP := fun t w1 (hk : Kp w w1) => HTE t w1 hk
  rw [show false = decide (pi < 8) from (decide_eq_false (by omega)).symm] at HTP
  have HR := Lib.hid HR
  have H1 := Lib.hid H1
  have H2 := Lib.hid H2
  have H3 := Lib.hid H3
  have H4 := Lib.hid H4
  have H5 := Lib.hid H5
  have HTE := Lib.hid HTE
  have HD := Lib.hid HD
  have HX := Lib.hid HX
  have HTG := Lib.hid HTG
  have HTP := Lib.hid HTP
  clear hA hN eN eA eG eP her V I in_ is_ ir_ ip_ hG hP hd1 htn hta
  go_enter Tryd.func3, Tryd.ntmps3
  go_wp2_with (go_at_call 7; (with_reducible refine (HAL.out _ (kp_alloc _ _)).mono ?_); rintro e w1 ⟨rfl, hk1⟩; have K1 := Lib.hid (Kp.trans (kp_alloc _ _) hk1); have cb := kp_row hk1 (MapKept.heap_alloc w (.cells #[.int .i64 nn, .int .i64 si] 23)).1; have CB := Lib.hid cb; clear hk1 cb; obtain ⟨ca, cc⟩ := cell_two CB.out)
  go_wp2_with (go_at_call 8; (with_reducible refine (HR.out _).mono ?_); rintro e w2 ⟨rfl, hk2⟩; have cb := kp_row hk2 CB.out; have CB := Lib.hid cb; clear cb; clear ca cc; obtain ⟨ca, cc⟩ := cell_two CB.out; have K2 := Lib.hid (Kp.trans K1.out hk2); clear hk2)
  go_wp2_with (go_at_call 9; (with_reducible refine (H1.out _ K2.out).mono ?_); rintro e w3 ⟨rfl, hk3⟩; have cb := kp_row hk3 CB.out; have CB := Lib.hid cb; clear cb; clear ca cc; obtain ⟨ca, cc⟩ := cell_two CB.out; have K3 := Lib.hid (Kp.trans K2.out hk3); clear hk3)
  go_wp2_with (go_at_call 10; (with_reducible refine (H2.out _ K3.out).mono ?_); rintro e w4 ⟨rfl, hk4⟩; have cb := kp_row hk4 CB.out; have CB := Lib.hid cb; clear cb; clear ca cc; obtain ⟨ca, cc⟩ := cell_two CB.out; have K4 := Lib.hid (Kp.trans K3.out hk4); clear hk4)
  go_wp2_with (go_at_call 11; (with_reducible refine (H3.out _ K4.out).mono ?_); rintro e w5 ⟨rfl, hk5⟩; have cb := kp_row hk5 CB.out; have CB := Lib.hid cb; clear cb; clear ca cc; obtain ⟨ca, cc⟩ := cell_two CB.out; have K5 := Lib.hid (Kp.trans K4.out hk5); clear hk5)
  go_wp2_with (go_at_call 12; (with_reducible refine (H4.out _ K5.out).mono ?_); rintro e w6 ⟨rfl, hk6⟩; have cb := kp_row hk6 CB.out; have CB := Lib.hid cb; clear cb; clear ca cc; obtain ⟨ca, cc⟩ := cell_two CB.out; have K6 := Lib.hid (Kp.trans K5.out hk6); clear hk6)
  go_wp2_with (go_at_call 13; (with_reducible refine (HD.out _).mono ?_); rintro e w7 ⟨rfl, hk7⟩; have cb := kp_row hk7 CB.out; have CB := Lib.hid cb; clear cb; clear ca cc; obtain ⟨ca, cc⟩ := cell_two CB.out; have K7 := Lib.hid (Kp.trans K6.out hk7); clear hk7)
  go_wp2_with (go_at_call 14; (with_reducible refine (HX.out _).mono ?_); rintro e w8 ⟨rfl, hk8⟩; have cb := kp_row hk8 CB.out; have CB := Lib.hid cb; clear cb; clear ca cc; obtain ⟨ca, cc⟩ := cell_two CB.out; have K8 := Lib.hid (Kp.trans K7.out hk8); clear hk8)
  go_wp2_with (go_at_call 17; (with_reducible refine (H5.out _ K8.out).mono ?_); rintro e w9 ⟨rfl, hk9⟩; have cb := kp_row hk9 CB.out; have CB := Lib.hid cb; clear cb; clear ca cc; obtain ⟨ca, cc⟩ := cell_two CB.out; have K9 := Lib.hid (Kp.trans K8.out hk9); clear hk9)
  have KT := K9
  go_wp2_with (first | (go_at_call 18; (with_reducible refine (HTT.out _ _).mono ?_); rintro e wt ⟨rfl, hkt⟩; have KT := Lib.hid (Kp.trans KT.out hkt); clear hkt) | (go_at_call 18; (with_reducible refine (HTE.out _ _ KT.out).mono ?_); rintro e wt ⟨rfl, hkt⟩; have KT := Lib.hid (Kp.trans KT.out hkt); clear hkt) | (go_at_call 18; (with_reducible refine (HTG.out _ _ KT.out).mono ?_); rintro e wt ⟨rfl, hkt⟩; have KT := Lib.hid (Kp.trans KT.out hkt); clear hkt) | (go_at_call 18; (with_reducible refine (HTP.out _ _ KT.out).mono ?_); rintro e wt ⟨rfl, hkt⟩; have KT := Lib.hid (Kp.trans KT.out hkt); clear hkt))
  go_ret
  exact ⟨rfl, KT.out⟩

set_option maxRecDepth 20000 in
set_option maxHeartbeats 2000000 in
theorem txt_t_hi_T (ads : List Addr) (nn si ri pi : Int) (in_ : I64 nn) (is_ : I64 si) (ir_ : I64 ri) (ip_ : I64 pi) (w : World) (V : St ads w) (I : IdsC ads w) (n0 : 0 ≤ nn) (n4 : nn < 4) (s0 : 0 ≤ si ∧ si < 1000000) (r0 : 6 ≤ ri) (p0 : 0 ≤ pi) (p8 : pi < 8) :
    Calls Tryd.prog 3 #[.agg #[.int .i64 nn, .int .i64 si], .int .i64 ri, .int .i64 pi] w fun e w' => e = .returned (.bool true) ∧ Kp w w' := by
  have hA : rightA nn si = true := decide_eq_true (by omega)
  have hN : nodeR nn = true := decide_eq_true (by omega)
  have eN : nodeO nn = some (nodeT nn.toNat) := by unfold nodeO; rw [hN]; rfl
  have eA : actO nn si = some (actT nn.toNat si.toNat) := by unfold actO; rw [hA]; rfl
  have hG : regR ri = false := decide_eq_false (by omega)
  have eG : regO nn si ri = none := by unfold regO; rw [hA, hG]; rfl
  have hP : partR pi = true := decide_eq_true (by omega)
  have eP : partO nn pi = some (partT nn.toNat pi.toNat) := by unfold partO; rw [hN, hP]; rfl
  have r00 : 0 ≤ ri := by omega
  have HAL := Lib.hid (fun w1 (hk : Kp w w1) => alive_any ads w1 (V.below hk) (I.kp hk))
  have HR := fun w1 => refRight_any nn si w1
  have H1 := fun w1 (hk : Kp w w1) => I.node w1 hk nn in_
  have H2 := fun w1 (hk : Kp w w1) => I.act w1 hk nn si in_ is_
  have H3 := fun w1 (hk : Kp w w1) => I.reg w1 hk nn si ri in_ is_ ir_
  have H4 := fun w1 (hk : Kp w w1) => I.part w1 hk nn pi in_ ip_
  have H5 := fun w1 (hk : Kp w w1) => I.right w1 hk nn si in_ is_
  simp only [hA, eN, eA, eG, eP, textR] at HR H1 H2 H3 H4 H5
  have HTE := fun t w1 (hk : Kp w w1) => told_e ads t w1 (V.below hk)
  obtain ⟨er, her⟩ : ∃ e, errI ads 1 = e := ⟨_, rfl⟩
  simp only [her] at H1 H2 H3 H4 HTE
  have HTT := Lib.hid (fun s w1 => told_t s w1)
  have HD := fun w1 => refDigits_any nn.toNat (by omega) nn (by omega) w1
  have HC1 := Lib.hid (show (⟨#[110]⟩ : ByteArray) ++ strOfNums (dec nn.toNat) = strOfNums (nodeT nn.toNat) by rw [c110]; exact str_append _ _)
  have z1 : 1 + (strOfNums (dec nn.toNat)).size ≤ 9223372036854775807 := by rw [str_size]; have := dec_len nn.toNat; omega
  have HX := fun w1 => refAct_any nn.toNat si.toNat (by omega) (by omega) nn si (by omega) (by omega) w1
  have HZ := fun w1 => refPart_any nn.toNat pi.toNat (by omega) (by omega) nn pi (by omega) (by omega) w1
  obtain ⟨d1, hd1⟩ : ∃ x, strOfNums (dec nn.toNat) = x := ⟨_, rfl⟩
  obtain ⟨tn, htn⟩ : ∃ x, strOfNums (nodeT nn.toNat) = x := ⟨_, rfl⟩
  simp only [hd1, htn] at H1 HD HC1 z1
  have q1 := HC1.out
  obtain ⟨ta, hta⟩ : ∃ x, strOfNums (actT nn.toNat si.toNat) = x := ⟨_, rfl⟩
  simp only [hta] at H2 HX
  obtain ⟨tp, htp⟩ : ∃ x, strOfNums (partT nn.toNat pi.toNat) = x := ⟨_, rfl⟩
  simp only [htp] at H4 HZ
  have HTG := fun t w1 (hk : Kp w w1) => HTE t w1 hk
  rw [show false = decide (ri < 6) from (decide_eq_false (by omega)).symm] at HTG
  have HR := Lib.hid HR
  have H1 := Lib.hid H1
  have H2 := Lib.hid H2
  have H3 := Lib.hid H3
  have H4 := Lib.hid H4
  have H5 := Lib.hid H5
  have HTE := Lib.hid HTE
  have HD := Lib.hid HD
  have HX := Lib.hid HX
  have HZ := Lib.hid HZ
  have HTG := Lib.hid HTG
  clear hA hN eN eA eG eP her V I in_ is_ ir_ ip_ hG hP hd1 htn hta htp
  go_enter Tryd.func3, Tryd.ntmps3
  go_wp2_with (go_at_call 7; (with_reducible refine (HAL.out _ (kp_alloc _ _)).mono ?_); rintro e w1 ⟨rfl, hk1⟩; have K1 := Lib.hid (Kp.trans (kp_alloc _ _) hk1); have cb := kp_row hk1 (MapKept.heap_alloc w (.cells #[.int .i64 nn, .int .i64 si] 23)).1; have CB := Lib.hid cb; clear hk1 cb; obtain ⟨ca, cc⟩ := cell_two CB.out)
  go_wp2_with (go_at_call 8; (with_reducible refine (HR.out _).mono ?_); rintro e w2 ⟨rfl, hk2⟩; have cb := kp_row hk2 CB.out; have CB := Lib.hid cb; clear cb; clear ca cc; obtain ⟨ca, cc⟩ := cell_two CB.out; have K2 := Lib.hid (Kp.trans K1.out hk2); clear hk2)
  go_wp2_with (go_at_call 9; (with_reducible refine (H1.out _ K2.out).mono ?_); rintro e w3 ⟨rfl, hk3⟩; have cb := kp_row hk3 CB.out; have CB := Lib.hid cb; clear cb; clear ca cc; obtain ⟨ca, cc⟩ := cell_two CB.out; have K3 := Lib.hid (Kp.trans K2.out hk3); clear hk3)
  go_wp2_with (go_at_call 10; (with_reducible refine (H2.out _ K3.out).mono ?_); rintro e w4 ⟨rfl, hk4⟩; have cb := kp_row hk4 CB.out; have CB := Lib.hid cb; clear cb; clear ca cc; obtain ⟨ca, cc⟩ := cell_two CB.out; have K4 := Lib.hid (Kp.trans K3.out hk4); clear hk4)
  go_wp2_with (go_at_call 11; (with_reducible refine (H3.out _ K4.out).mono ?_); rintro e w5 ⟨rfl, hk5⟩; have cb := kp_row hk5 CB.out; have CB := Lib.hid cb; clear cb; clear ca cc; obtain ⟨ca, cc⟩ := cell_two CB.out; have K5 := Lib.hid (Kp.trans K4.out hk5); clear hk5)
  go_wp2_with (go_at_call 12; (with_reducible refine (H4.out _ K5.out).mono ?_); rintro e w6 ⟨rfl, hk6⟩; have cb := kp_row hk6 CB.out; have CB := Lib.hid cb; clear cb; clear ca cc; obtain ⟨ca, cc⟩ := cell_two CB.out; have K6 := Lib.hid (Kp.trans K5.out hk6); clear hk6)
  go_wp2_with (go_at_call 13; (with_reducible refine (HD.out _).mono ?_); rintro e w7 ⟨rfl, hk7⟩; have cb := kp_row hk7 CB.out; have CB := Lib.hid cb; clear cb; clear ca cc; obtain ⟨ca, cc⟩ := cell_two CB.out; have K7 := Lib.hid (Kp.trans K6.out hk7); clear hk7)
  go_wp2_with (go_at_call 14; (with_reducible refine (HX.out _).mono ?_); rintro e w8 ⟨rfl, hk8⟩; have cb := kp_row hk8 CB.out; have CB := Lib.hid cb; clear cb; clear ca cc; obtain ⟨ca, cc⟩ := cell_two CB.out; have K8 := Lib.hid (Kp.trans K7.out hk8); clear hk8)
  go_wp2_with (go_at_call 16; (with_reducible refine (HZ.out _).mono ?_); rintro e w9 ⟨rfl, hk9⟩; have cb := kp_row hk9 CB.out; have CB := Lib.hid cb; clear cb; clear ca cc; obtain ⟨ca, cc⟩ := cell_two CB.out; have K9 := Lib.hid (Kp.trans K8.out hk9); clear hk9)
  go_wp2_with (go_at_call 17; (with_reducible refine (H5.out _ K9.out).mono ?_); rintro e w10 ⟨rfl, hk10⟩; have cb := kp_row hk10 CB.out; have CB := Lib.hid cb; clear cb; clear ca cc; obtain ⟨ca, cc⟩ := cell_two CB.out; have K10 := Lib.hid (Kp.trans K9.out hk10); clear hk10)
  have KT := K10
  go_wp2_with (first | (go_at_call 18; (with_reducible refine (HTT.out _ _).mono ?_); rintro e wt ⟨rfl, hkt⟩; have KT := Lib.hid (Kp.trans KT.out hkt); clear hkt) | (go_at_call 18; (with_reducible refine (HTE.out _ _ KT.out).mono ?_); rintro e wt ⟨rfl, hkt⟩; have KT := Lib.hid (Kp.trans KT.out hkt); clear hkt) | (go_at_call 18; (with_reducible refine (HTG.out _ _ KT.out).mono ?_); rintro e wt ⟨rfl, hkt⟩; have KT := Lib.hid (Kp.trans KT.out hkt); clear hkt))
  go_ret
  exact ⟨rfl, KT.out⟩

set_option maxRecDepth 20000 in
set_option maxHeartbeats 2000000 in
theorem txt_t_T_lo (ads : List Addr) (nn si ri pi : Int) (in_ : I64 nn) (is_ : I64 si) (ir_ : I64 ri) (ip_ : I64 pi) (w : World) (V : St ads w) (I : IdsC ads w) (n0 : 0 ≤ nn) (n4 : nn < 4) (s0 : 0 ≤ si ∧ si < 1000000) (r0 : 0 ≤ ri) (r6 : ri < 6) (p0 : pi < 0) :
    Calls Tryd.prog 3 #[.agg #[.int .i64 nn, .int .i64 si], .int .i64 ri, .int .i64 pi] w fun e w' => e = .returned (.bool true) ∧ Kp w w' := by
  have hA : rightA nn si = true := decide_eq_true (by omega)
  have hN : nodeR nn = true := decide_eq_true (by omega)
  have eN : nodeO nn = some (nodeT nn.toNat) := by unfold nodeO; rw [hN]; rfl
  have eA : actO nn si = some (actT nn.toNat si.toNat) := by unfold actO; rw [hA]; rfl
  have hG : regR ri = true := decide_eq_true (by omega)
  have eG : regO nn si ri = some (regT nn.toNat si.toNat ri.toNat) := by unfold regO; rw [hA, hG]; rfl
  have hP : partR pi = false := decide_eq_false (by omega)
  have eP : partO nn pi = none := by unfold partO; rw [hN, hP]; rfl
  have HAL := Lib.hid (fun w1 (hk : Kp w w1) => alive_any ads w1 (V.below hk) (I.kp hk))
  have HR := fun w1 => refRight_any nn si w1
  have H1 := fun w1 (hk : Kp w w1) => I.node w1 hk nn in_
  have H2 := fun w1 (hk : Kp w w1) => I.act w1 hk nn si in_ is_
  have H3 := fun w1 (hk : Kp w w1) => I.reg w1 hk nn si ri in_ is_ ir_
  have H4 := fun w1 (hk : Kp w w1) => I.part w1 hk nn pi in_ ip_
  have H5 := fun w1 (hk : Kp w w1) => I.right w1 hk nn si in_ is_
  simp only [hA, eN, eA, eG, eP, textR] at HR H1 H2 H3 H4 H5
  have HTE := fun t w1 (hk : Kp w w1) => told_e ads t w1 (V.below hk)
  obtain ⟨er, her⟩ : ∃ e, errI ads 1 = e := ⟨_, rfl⟩
  simp only [her] at H1 H2 H3 H4 HTE
  have HTT := Lib.hid (fun s w1 => told_t s w1)
  have HD := fun w1 => refDigits_any nn.toNat (by omega) nn (by omega) w1
  have HC1 := Lib.hid (show (⟨#[110]⟩ : ByteArray) ++ strOfNums (dec nn.toNat) = strOfNums (nodeT nn.toNat) by rw [c110]; exact str_append _ _)
  have z1 : 1 + (strOfNums (dec nn.toNat)).size ≤ 9223372036854775807 := by rw [str_size]; have := dec_len nn.toNat; omega
  have HX := fun w1 => refAct_any nn.toNat si.toNat (by omega) (by omega) nn si (by omega) (by omega) w1
  have HY := fun w1 => refReg_any nn.toNat si.toNat ri.toNat (by omega) (by omega) (by omega) nn si ri (by omega) (by omega) (by omega) w1
  obtain ⟨d1, hd1⟩ : ∃ x, strOfNums (dec nn.toNat) = x := ⟨_, rfl⟩
  obtain ⟨tn, htn⟩ : ∃ x, strOfNums (nodeT nn.toNat) = x := ⟨_, rfl⟩
  simp only [hd1, htn] at H1 HD HC1 z1
  have q1 := HC1.out
  obtain ⟨ta, hta⟩ : ∃ x, strOfNums (actT nn.toNat si.toNat) = x := ⟨_, rfl⟩
  simp only [hta] at H2 HX
  obtain ⟨tg, htg⟩ : ∃ x, strOfNums (regT nn.toNat si.toNat ri.toNat) = x := ⟨_, rfl⟩
  simp only [htg] at H3 HY
  have HR := Lib.hid HR
  have H1 := Lib.hid H1
  have H2 := Lib.hid H2
  have H3 := Lib.hid H3
  have H4 := Lib.hid H4
  have H5 := Lib.hid H5
  have HTE := Lib.hid HTE
  have HD := Lib.hid HD
  have HX := Lib.hid HX
  have HY := Lib.hid HY
  clear hA hN eN eA eG eP her V I in_ is_ ir_ ip_ hG hP hd1 htn hta htg
  go_enter Tryd.func3, Tryd.ntmps3
  go_wp2_with (go_at_call 7; (with_reducible refine (HAL.out _ (kp_alloc _ _)).mono ?_); rintro e w1 ⟨rfl, hk1⟩; have K1 := Lib.hid (Kp.trans (kp_alloc _ _) hk1); have cb := kp_row hk1 (MapKept.heap_alloc w (.cells #[.int .i64 nn, .int .i64 si] 23)).1; have CB := Lib.hid cb; clear hk1 cb; obtain ⟨ca, cc⟩ := cell_two CB.out)
  go_wp2_with (go_at_call 8; (with_reducible refine (HR.out _).mono ?_); rintro e w2 ⟨rfl, hk2⟩; have cb := kp_row hk2 CB.out; have CB := Lib.hid cb; clear cb; clear ca cc; obtain ⟨ca, cc⟩ := cell_two CB.out; have K2 := Lib.hid (Kp.trans K1.out hk2); clear hk2)
  go_wp2_with (go_at_call 9; (with_reducible refine (H1.out _ K2.out).mono ?_); rintro e w3 ⟨rfl, hk3⟩; have cb := kp_row hk3 CB.out; have CB := Lib.hid cb; clear cb; clear ca cc; obtain ⟨ca, cc⟩ := cell_two CB.out; have K3 := Lib.hid (Kp.trans K2.out hk3); clear hk3)
  go_wp2_with (go_at_call 10; (with_reducible refine (H2.out _ K3.out).mono ?_); rintro e w4 ⟨rfl, hk4⟩; have cb := kp_row hk4 CB.out; have CB := Lib.hid cb; clear cb; clear ca cc; obtain ⟨ca, cc⟩ := cell_two CB.out; have K4 := Lib.hid (Kp.trans K3.out hk4); clear hk4)
  go_wp2_with (go_at_call 11; (with_reducible refine (H3.out _ K4.out).mono ?_); rintro e w5 ⟨rfl, hk5⟩; have cb := kp_row hk5 CB.out; have CB := Lib.hid cb; clear cb; clear ca cc; obtain ⟨ca, cc⟩ := cell_two CB.out; have K5 := Lib.hid (Kp.trans K4.out hk5); clear hk5)
  go_wp2_with (go_at_call 12; (with_reducible refine (H4.out _ K5.out).mono ?_); rintro e w6 ⟨rfl, hk6⟩; have cb := kp_row hk6 CB.out; have CB := Lib.hid cb; clear cb; clear ca cc; obtain ⟨ca, cc⟩ := cell_two CB.out; have K6 := Lib.hid (Kp.trans K5.out hk6); clear hk6)
  go_wp2_with (go_at_call 13; (with_reducible refine (HD.out _).mono ?_); rintro e w7 ⟨rfl, hk7⟩; have cb := kp_row hk7 CB.out; have CB := Lib.hid cb; clear cb; clear ca cc; obtain ⟨ca, cc⟩ := cell_two CB.out; have K7 := Lib.hid (Kp.trans K6.out hk7); clear hk7)
  go_wp2_with (go_at_call 14; (with_reducible refine (HX.out _).mono ?_); rintro e w8 ⟨rfl, hk8⟩; have cb := kp_row hk8 CB.out; have CB := Lib.hid cb; clear cb; clear ca cc; obtain ⟨ca, cc⟩ := cell_two CB.out; have K8 := Lib.hid (Kp.trans K7.out hk8); clear hk8)
  go_wp2_with (go_at_call 15; (with_reducible refine (HY.out _).mono ?_); rintro e w9 ⟨rfl, hk9⟩; have cb := kp_row hk9 CB.out; have CB := Lib.hid cb; clear cb; clear ca cc; obtain ⟨ca, cc⟩ := cell_two CB.out; have K9 := Lib.hid (Kp.trans K8.out hk9); clear hk9)
  go_wp2_with (go_at_call 17; (with_reducible refine (H5.out _ K9.out).mono ?_); rintro e w10 ⟨rfl, hk10⟩; have cb := kp_row hk10 CB.out; have CB := Lib.hid cb; clear cb; clear ca cc; obtain ⟨ca, cc⟩ := cell_two CB.out; have K10 := Lib.hid (Kp.trans K9.out hk10); clear hk10)
  have KT := K10
  go_wp2_with (first | (go_at_call 18; (with_reducible refine (HTT.out _ _).mono ?_); rintro e wt ⟨rfl, hkt⟩; have KT := Lib.hid (Kp.trans KT.out hkt); clear hkt) | (go_at_call 18; (with_reducible refine (HTE.out _ _ KT.out).mono ?_); rintro e wt ⟨rfl, hkt⟩; have KT := Lib.hid (Kp.trans KT.out hkt); clear hkt))
  go_ret
  exact ⟨rfl, KT.out⟩

set_option maxRecDepth 20000 in
set_option maxHeartbeats 2000000 in
theorem txt_t_T_hi (ads : List Addr) (nn si ri pi : Int) (in_ : I64 nn) (is_ : I64 si) (ir_ : I64 ri) (ip_ : I64 pi) (w : World) (V : St ads w) (I : IdsC ads w) (n0 : 0 ≤ nn) (n4 : nn < 4) (s0 : 0 ≤ si ∧ si < 1000000) (r0 : 0 ≤ ri) (r6 : ri < 6) (p0 : 8 ≤ pi) :
    Calls Tryd.prog 3 #[.agg #[.int .i64 nn, .int .i64 si], .int .i64 ri, .int .i64 pi] w fun e w' => e = .returned (.bool true) ∧ Kp w w' := by
  have hA : rightA nn si = true := decide_eq_true (by omega)
  have hN : nodeR nn = true := decide_eq_true (by omega)
  have eN : nodeO nn = some (nodeT nn.toNat) := by unfold nodeO; rw [hN]; rfl
  have eA : actO nn si = some (actT nn.toNat si.toNat) := by unfold actO; rw [hA]; rfl
  have hG : regR ri = true := decide_eq_true (by omega)
  have eG : regO nn si ri = some (regT nn.toNat si.toNat ri.toNat) := by unfold regO; rw [hA, hG]; rfl
  have hP : partR pi = false := decide_eq_false (by omega)
  have eP : partO nn pi = none := by unfold partO; rw [hN, hP]; rfl
  have p00 : 0 ≤ pi := by omega
  have HAL := Lib.hid (fun w1 (hk : Kp w w1) => alive_any ads w1 (V.below hk) (I.kp hk))
  have HR := fun w1 => refRight_any nn si w1
  have H1 := fun w1 (hk : Kp w w1) => I.node w1 hk nn in_
  have H2 := fun w1 (hk : Kp w w1) => I.act w1 hk nn si in_ is_
  have H3 := fun w1 (hk : Kp w w1) => I.reg w1 hk nn si ri in_ is_ ir_
  have H4 := fun w1 (hk : Kp w w1) => I.part w1 hk nn pi in_ ip_
  have H5 := fun w1 (hk : Kp w w1) => I.right w1 hk nn si in_ is_
  simp only [hA, eN, eA, eG, eP, textR] at HR H1 H2 H3 H4 H5
  have HTE := fun t w1 (hk : Kp w w1) => told_e ads t w1 (V.below hk)
  obtain ⟨er, her⟩ : ∃ e, errI ads 1 = e := ⟨_, rfl⟩
  simp only [her] at H1 H2 H3 H4 HTE
  have HTT := Lib.hid (fun s w1 => told_t s w1)
  have HD := fun w1 => refDigits_any nn.toNat (by omega) nn (by omega) w1
  have HC1 := Lib.hid (show (⟨#[110]⟩ : ByteArray) ++ strOfNums (dec nn.toNat) = strOfNums (nodeT nn.toNat) by rw [c110]; exact str_append _ _)
  have z1 : 1 + (strOfNums (dec nn.toNat)).size ≤ 9223372036854775807 := by rw [str_size]; have := dec_len nn.toNat; omega
  have HX := fun w1 => refAct_any nn.toNat si.toNat (by omega) (by omega) nn si (by omega) (by omega) w1
  have HY := fun w1 => refReg_any nn.toNat si.toNat ri.toNat (by omega) (by omega) (by omega) nn si ri (by omega) (by omega) (by omega) w1
  obtain ⟨d1, hd1⟩ : ∃ x, strOfNums (dec nn.toNat) = x := ⟨_, rfl⟩
  obtain ⟨tn, htn⟩ : ∃ x, strOfNums (nodeT nn.toNat) = x := ⟨_, rfl⟩
  simp only [hd1, htn] at H1 HD HC1 z1
  have q1 := HC1.out
  obtain ⟨ta, hta⟩ : ∃ x, strOfNums (actT nn.toNat si.toNat) = x := ⟨_, rfl⟩
  simp only [hta] at H2 HX
  obtain ⟨tg, htg⟩ : ∃ x, strOfNums (regT nn.toNat si.toNat ri.toNat) = x := ⟨_, rfl⟩
  simp only [htg] at H3 HY
  have HTP := fun t w1 (hk : Kp w w1) => HTE t w1 hk
  rw [show false = decide (pi < 8) from (decide_eq_false (by omega)).symm] at HTP
  have HR := Lib.hid HR
  have H1 := Lib.hid H1
  have H2 := Lib.hid H2
  have H3 := Lib.hid H3
  have H4 := Lib.hid H4
  have H5 := Lib.hid H5
  have HTE := Lib.hid HTE
  have HD := Lib.hid HD
  have HX := Lib.hid HX
  have HY := Lib.hid HY
  have HTP := Lib.hid HTP
  clear hA hN eN eA eG eP her V I in_ is_ ir_ ip_ hG hP hd1 htn hta htg
  go_enter Tryd.func3, Tryd.ntmps3
  go_wp2_with (go_at_call 7; (with_reducible refine (HAL.out _ (kp_alloc _ _)).mono ?_); rintro e w1 ⟨rfl, hk1⟩; have K1 := Lib.hid (Kp.trans (kp_alloc _ _) hk1); have cb := kp_row hk1 (MapKept.heap_alloc w (.cells #[.int .i64 nn, .int .i64 si] 23)).1; have CB := Lib.hid cb; clear hk1 cb; obtain ⟨ca, cc⟩ := cell_two CB.out)
  go_wp2_with (go_at_call 8; (with_reducible refine (HR.out _).mono ?_); rintro e w2 ⟨rfl, hk2⟩; have cb := kp_row hk2 CB.out; have CB := Lib.hid cb; clear cb; clear ca cc; obtain ⟨ca, cc⟩ := cell_two CB.out; have K2 := Lib.hid (Kp.trans K1.out hk2); clear hk2)
  go_wp2_with (go_at_call 9; (with_reducible refine (H1.out _ K2.out).mono ?_); rintro e w3 ⟨rfl, hk3⟩; have cb := kp_row hk3 CB.out; have CB := Lib.hid cb; clear cb; clear ca cc; obtain ⟨ca, cc⟩ := cell_two CB.out; have K3 := Lib.hid (Kp.trans K2.out hk3); clear hk3)
  go_wp2_with (go_at_call 10; (with_reducible refine (H2.out _ K3.out).mono ?_); rintro e w4 ⟨rfl, hk4⟩; have cb := kp_row hk4 CB.out; have CB := Lib.hid cb; clear cb; clear ca cc; obtain ⟨ca, cc⟩ := cell_two CB.out; have K4 := Lib.hid (Kp.trans K3.out hk4); clear hk4)
  go_wp2_with (go_at_call 11; (with_reducible refine (H3.out _ K4.out).mono ?_); rintro e w5 ⟨rfl, hk5⟩; have cb := kp_row hk5 CB.out; have CB := Lib.hid cb; clear cb; clear ca cc; obtain ⟨ca, cc⟩ := cell_two CB.out; have K5 := Lib.hid (Kp.trans K4.out hk5); clear hk5)
  go_wp2_with (go_at_call 12; (with_reducible refine (H4.out _ K5.out).mono ?_); rintro e w6 ⟨rfl, hk6⟩; have cb := kp_row hk6 CB.out; have CB := Lib.hid cb; clear cb; clear ca cc; obtain ⟨ca, cc⟩ := cell_two CB.out; have K6 := Lib.hid (Kp.trans K5.out hk6); clear hk6)
  go_wp2_with (go_at_call 13; (with_reducible refine (HD.out _).mono ?_); rintro e w7 ⟨rfl, hk7⟩; have cb := kp_row hk7 CB.out; have CB := Lib.hid cb; clear cb; clear ca cc; obtain ⟨ca, cc⟩ := cell_two CB.out; have K7 := Lib.hid (Kp.trans K6.out hk7); clear hk7)
  go_wp2_with (go_at_call 14; (with_reducible refine (HX.out _).mono ?_); rintro e w8 ⟨rfl, hk8⟩; have cb := kp_row hk8 CB.out; have CB := Lib.hid cb; clear cb; clear ca cc; obtain ⟨ca, cc⟩ := cell_two CB.out; have K8 := Lib.hid (Kp.trans K7.out hk8); clear hk8)
  go_wp2_with (go_at_call 15; (with_reducible refine (HY.out _).mono ?_); rintro e w9 ⟨rfl, hk9⟩; have cb := kp_row hk9 CB.out; have CB := Lib.hid cb; clear cb; clear ca cc; obtain ⟨ca, cc⟩ := cell_two CB.out; have K9 := Lib.hid (Kp.trans K8.out hk9); clear hk9)
  go_wp2_with (go_at_call 17; (with_reducible refine (H5.out _ K9.out).mono ?_); rintro e w10 ⟨rfl, hk10⟩; have cb := kp_row hk10 CB.out; have CB := Lib.hid cb; clear cb; clear ca cc; obtain ⟨ca, cc⟩ := cell_two CB.out; have K10 := Lib.hid (Kp.trans K9.out hk10); clear hk10)
  have KT := K10
  go_wp2_with (first | (go_at_call 18; (with_reducible refine (HTT.out _ _).mono ?_); rintro e wt ⟨rfl, hkt⟩; have KT := Lib.hid (Kp.trans KT.out hkt); clear hkt) | (go_at_call 18; (with_reducible refine (HTE.out _ _ KT.out).mono ?_); rintro e wt ⟨rfl, hkt⟩; have KT := Lib.hid (Kp.trans KT.out hkt); clear hkt) | (go_at_call 18; (with_reducible refine (HTP.out _ _ KT.out).mono ?_); rintro e wt ⟨rfl, hkt⟩; have KT := Lib.hid (Kp.trans KT.out hkt); clear hkt))
  go_ret
  exact ⟨rfl, KT.out⟩

set_option maxRecDepth 20000 in
set_option maxHeartbeats 2000000 in
theorem txt_t_T_T (ads : List Addr) (nn si ri pi : Int) (in_ : I64 nn) (is_ : I64 si) (ir_ : I64 ri) (ip_ : I64 pi) (w : World) (V : St ads w) (I : IdsC ads w) (n0 : 0 ≤ nn) (n4 : nn < 4) (s0 : 0 ≤ si ∧ si < 1000000) (r0 : 0 ≤ ri) (r6 : ri < 6) (p0 : 0 ≤ pi) (p8 : pi < 8) :
    Calls Tryd.prog 3 #[.agg #[.int .i64 nn, .int .i64 si], .int .i64 ri, .int .i64 pi] w fun e w' => e = .returned (.bool true) ∧ Kp w w' := by
  have hA : rightA nn si = true := decide_eq_true (by omega)
  have hN : nodeR nn = true := decide_eq_true (by omega)
  have eN : nodeO nn = some (nodeT nn.toNat) := by unfold nodeO; rw [hN]; rfl
  have eA : actO nn si = some (actT nn.toNat si.toNat) := by unfold actO; rw [hA]; rfl
  have hG : regR ri = true := decide_eq_true (by omega)
  have eG : regO nn si ri = some (regT nn.toNat si.toNat ri.toNat) := by unfold regO; rw [hA, hG]; rfl
  have hP : partR pi = true := decide_eq_true (by omega)
  have eP : partO nn pi = some (partT nn.toNat pi.toNat) := by unfold partO; rw [hN, hP]; rfl
  have HAL := Lib.hid (fun w1 (hk : Kp w w1) => alive_any ads w1 (V.below hk) (I.kp hk))
  have HR := fun w1 => refRight_any nn si w1
  have H1 := fun w1 (hk : Kp w w1) => I.node w1 hk nn in_
  have H2 := fun w1 (hk : Kp w w1) => I.act w1 hk nn si in_ is_
  have H3 := fun w1 (hk : Kp w w1) => I.reg w1 hk nn si ri in_ is_ ir_
  have H4 := fun w1 (hk : Kp w w1) => I.part w1 hk nn pi in_ ip_
  have H5 := fun w1 (hk : Kp w w1) => I.right w1 hk nn si in_ is_
  simp only [hA, eN, eA, eG, eP, textR] at HR H1 H2 H3 H4 H5
  have HTE := fun t w1 (hk : Kp w w1) => told_e ads t w1 (V.below hk)
  obtain ⟨er, her⟩ : ∃ e, errI ads 1 = e := ⟨_, rfl⟩
  simp only [her] at H1 H2 H3 H4 HTE
  have HTT := Lib.hid (fun s w1 => told_t s w1)
  have HD := fun w1 => refDigits_any nn.toNat (by omega) nn (by omega) w1
  have HC1 := Lib.hid (show (⟨#[110]⟩ : ByteArray) ++ strOfNums (dec nn.toNat) = strOfNums (nodeT nn.toNat) by rw [c110]; exact str_append _ _)
  have z1 : 1 + (strOfNums (dec nn.toNat)).size ≤ 9223372036854775807 := by rw [str_size]; have := dec_len nn.toNat; omega
  have HX := fun w1 => refAct_any nn.toNat si.toNat (by omega) (by omega) nn si (by omega) (by omega) w1
  have HY := fun w1 => refReg_any nn.toNat si.toNat ri.toNat (by omega) (by omega) (by omega) nn si ri (by omega) (by omega) (by omega) w1
  have HZ := fun w1 => refPart_any nn.toNat pi.toNat (by omega) (by omega) nn pi (by omega) (by omega) w1
  obtain ⟨d1, hd1⟩ : ∃ x, strOfNums (dec nn.toNat) = x := ⟨_, rfl⟩
  obtain ⟨tn, htn⟩ : ∃ x, strOfNums (nodeT nn.toNat) = x := ⟨_, rfl⟩
  simp only [hd1, htn] at H1 HD HC1 z1
  have q1 := HC1.out
  obtain ⟨ta, hta⟩ : ∃ x, strOfNums (actT nn.toNat si.toNat) = x := ⟨_, rfl⟩
  simp only [hta] at H2 HX
  obtain ⟨tg, htg⟩ : ∃ x, strOfNums (regT nn.toNat si.toNat ri.toNat) = x := ⟨_, rfl⟩
  simp only [htg] at H3 HY
  obtain ⟨tp, htp⟩ : ∃ x, strOfNums (partT nn.toNat pi.toNat) = x := ⟨_, rfl⟩
  simp only [htp] at H4 HZ
  have HR := Lib.hid HR
  have H1 := Lib.hid H1
  have H2 := Lib.hid H2
  have H3 := Lib.hid H3
  have H4 := Lib.hid H4
  have H5 := Lib.hid H5
  have HTE := Lib.hid HTE
  have HD := Lib.hid HD
  have HX := Lib.hid HX
  have HY := Lib.hid HY
  have HZ := Lib.hid HZ
  clear hA hN eN eA eG eP her V I in_ is_ ir_ ip_ hG hP hd1 htn hta htg htp
  go_enter Tryd.func3, Tryd.ntmps3
  go_wp2_with (go_at_call 7; (with_reducible refine (HAL.out _ (kp_alloc _ _)).mono ?_); rintro e w1 ⟨rfl, hk1⟩; have K1 := Lib.hid (Kp.trans (kp_alloc _ _) hk1); have cb := kp_row hk1 (MapKept.heap_alloc w (.cells #[.int .i64 nn, .int .i64 si] 23)).1; have CB := Lib.hid cb; clear hk1 cb; obtain ⟨ca, cc⟩ := cell_two CB.out)
  go_wp2_with (go_at_call 8; (with_reducible refine (HR.out _).mono ?_); rintro e w2 ⟨rfl, hk2⟩; have cb := kp_row hk2 CB.out; have CB := Lib.hid cb; clear cb; clear ca cc; obtain ⟨ca, cc⟩ := cell_two CB.out; have K2 := Lib.hid (Kp.trans K1.out hk2); clear hk2)
  go_wp2_with (go_at_call 9; (with_reducible refine (H1.out _ K2.out).mono ?_); rintro e w3 ⟨rfl, hk3⟩; have cb := kp_row hk3 CB.out; have CB := Lib.hid cb; clear cb; clear ca cc; obtain ⟨ca, cc⟩ := cell_two CB.out; have K3 := Lib.hid (Kp.trans K2.out hk3); clear hk3)
  go_wp2_with (go_at_call 10; (with_reducible refine (H2.out _ K3.out).mono ?_); rintro e w4 ⟨rfl, hk4⟩; have cb := kp_row hk4 CB.out; have CB := Lib.hid cb; clear cb; clear ca cc; obtain ⟨ca, cc⟩ := cell_two CB.out; have K4 := Lib.hid (Kp.trans K3.out hk4); clear hk4)
  go_wp2_with (go_at_call 11; (with_reducible refine (H3.out _ K4.out).mono ?_); rintro e w5 ⟨rfl, hk5⟩; have cb := kp_row hk5 CB.out; have CB := Lib.hid cb; clear cb; clear ca cc; obtain ⟨ca, cc⟩ := cell_two CB.out; have K5 := Lib.hid (Kp.trans K4.out hk5); clear hk5)
  go_wp2_with (go_at_call 12; (with_reducible refine (H4.out _ K5.out).mono ?_); rintro e w6 ⟨rfl, hk6⟩; have cb := kp_row hk6 CB.out; have CB := Lib.hid cb; clear cb; clear ca cc; obtain ⟨ca, cc⟩ := cell_two CB.out; have K6 := Lib.hid (Kp.trans K5.out hk6); clear hk6)
  go_wp2_with (go_at_call 13; (with_reducible refine (HD.out _).mono ?_); rintro e w7 ⟨rfl, hk7⟩; have cb := kp_row hk7 CB.out; have CB := Lib.hid cb; clear cb; clear ca cc; obtain ⟨ca, cc⟩ := cell_two CB.out; have K7 := Lib.hid (Kp.trans K6.out hk7); clear hk7)
  go_wp2_with (go_at_call 14; (with_reducible refine (HX.out _).mono ?_); rintro e w8 ⟨rfl, hk8⟩; have cb := kp_row hk8 CB.out; have CB := Lib.hid cb; clear cb; clear ca cc; obtain ⟨ca, cc⟩ := cell_two CB.out; have K8 := Lib.hid (Kp.trans K7.out hk8); clear hk8)
  go_wp2_with (go_at_call 15; (with_reducible refine (HY.out _).mono ?_); rintro e w9 ⟨rfl, hk9⟩; have cb := kp_row hk9 CB.out; have CB := Lib.hid cb; clear cb; clear ca cc; obtain ⟨ca, cc⟩ := cell_two CB.out; have K9 := Lib.hid (Kp.trans K8.out hk9); clear hk9)
  go_wp2_with (go_at_call 16; (with_reducible refine (HZ.out _).mono ?_); rintro e w10 ⟨rfl, hk10⟩; have cb := kp_row hk10 CB.out; have CB := Lib.hid cb; clear cb; clear ca cc; obtain ⟨ca, cc⟩ := cell_two CB.out; have K10 := Lib.hid (Kp.trans K9.out hk10); clear hk10)
  go_wp2_with (go_at_call 17; (with_reducible refine (H5.out _ K10.out).mono ?_); rintro e w11 ⟨rfl, hk11⟩; have cb := kp_row hk11 CB.out; have CB := Lib.hid cb; clear cb; clear ca cc; obtain ⟨ca, cc⟩ := cell_two CB.out; have K11 := Lib.hid (Kp.trans K10.out hk11); clear hk11)
  have KT := K11
  go_wp2_with (first | (go_at_call 18; (with_reducible refine (HTT.out _ _).mono ?_); rintro e wt ⟨rfl, hkt⟩; have KT := Lib.hid (Kp.trans KT.out hkt); clear hkt) | (go_at_call 18; (with_reducible refine (HTE.out _ _ KT.out).mono ?_); rintro e wt ⟨rfl, hkt⟩; have KT := Lib.hid (Kp.trans KT.out hkt); clear hkt))
  go_ret
  exact ⟨rfl, KT.out⟩

/-- IdsTexts, whatever the numbers. -/
theorem texts_any (ads : List Addr) (nn si ri pi : Int) (in_ : I64 nn) (is_ : I64 si) (ir_ : I64 ri) (ip_ : I64 pi) (w : World) (V : St ads w) (I : IdsC ads w) :
    Calls Tryd.prog 3 #[.agg #[.int .i64 nn, .int .i64 si], .int .i64 ri, .int .i64 pi] w fun e w' => e = .returned (.bool true) ∧ Kp w w' := by
  rcases (show nn < 0 ∨ 4 ≤ nn ∨ (0 ≤ nn ∧ nn < 4) by omega) with n | n | ⟨n, n'⟩
  · exact txt_nlo ads nn si ri pi in_ is_ ir_ ip_ w V I n
  · exact txt_nhi ads nn si ri pi in_ is_ ir_ ip_ w V I n
  · by_cases h : 0 ≤ si ∧ si < 1000000
    · rcases (show ri < 0 ∨ 6 ≤ ri ∨ (0 ≤ ri ∧ ri < 6) by omega) with r | r | ⟨r, r'⟩ <;> rcases (show pi < 0 ∨ 8 ≤ pi ∨ (0 ≤ pi ∧ pi < 8) by omega) with p | p | ⟨p, p'⟩
      · exact txt_t_lo_lo ads nn si ri pi in_ is_ ir_ ip_ w V I n n' h r p
      · exact txt_t_lo_hi ads nn si ri pi in_ is_ ir_ ip_ w V I n n' h r p
      · exact txt_t_lo_T ads nn si ri pi in_ is_ ir_ ip_ w V I n n' h r p p'
      · exact txt_t_hi_lo ads nn si ri pi in_ is_ ir_ ip_ w V I n n' h r p
      · exact txt_t_hi_hi ads nn si ri pi in_ is_ ir_ ip_ w V I n n' h r p
      · exact txt_t_hi_T ads nn si ri pi in_ is_ ir_ ip_ w V I n n' h r p p'
      · exact txt_t_T_lo ads nn si ri pi in_ is_ ir_ ip_ w V I n n' h r r' p
      · exact txt_t_T_hi ads nn si ri pi in_ is_ ir_ ip_ w V I n n' h r r' p
      · exact txt_t_T_T ads nn si ri pi in_ is_ ir_ ip_ w V I n n' h r r' p p'
    · rcases (show pi < 0 ∨ 8 ≤ pi ∨ (0 ≤ pi ∧ pi < 8) by omega) with p | p | ⟨p, p'⟩
      · exact txt_f_lo ads nn si ri pi in_ is_ ir_ ip_ w V I n n' h p
      · exact txt_f_hi ads nn si ri pi in_ is_ ir_ ip_ w V I n n' h p
      · exact txt_f_T ads nn si ri pi in_ is_ ir_ ip_ w V I n n' h p p'
end Go.Proofs.YtjilfkfhnbhjiaaDoor
