/-
  IdsBack's WALKS (own work).
-/
import Derived.Test.YtjilfkfhnbhjiaaDoorTxtB
import Derived.Test.YtjilfkfhnbhjiaaDoorTxtV
namespace Go.Proofs.YtjilfkfhnbhjiaaDoor
open Go.RowKit Go.ChangeShapes Go.WideShapes

theorem actT_in (n s : Nat) : InB (actT n s) := by
  intro x hx
  simp only [actT, List.mem_append, List.mem_singleton] at hx
  rcases hx with ((rfl | h) | rfl) | h
  · omega
  · exact dec_in n x h
  · omega
  · exact dec_in s x h
theorem regT_in (n s r : Nat) : InB (regT n s r) := by
  intro x hx
  simp only [regT, List.mem_append, List.mem_singleton] at hx
  rcases hx with (h | rfl) | h
  · exact actT_in n s x h
  · omega
  · exact dec_in r x h
theorem partT_in (n p : Nat) : InB (partT n p) := by
  intro x hx
  simp only [partT, List.mem_append, List.mem_singleton] at hx
  rcases hx with ((rfl | h) | rfl) | h
  · omega
  · exact dec_in n x h
  · omega
  · exact dec_in p x h
theorem actT_len (n s : Nat) : (strOfNums (actT n s)).size ≤ 200 := by
  rw [str_size]; simp only [actT, List.length_append, List.length_cons, List.length_nil]; have := dec_len n; have := dec_len s; omega
theorem regT_len (n s r : Nat) : (strOfNums (regT n s r)).size ≤ 200 := by
  rw [str_size]; simp only [regT, actT, List.length_append, List.length_cons, List.length_nil]; have := dec_len n; have := dec_len s; have := dec_len r; omega
theorem partT_len (n p : Nat) : (strOfNums (partT n p)).size ≤ 200 := by
  rw [str_size]; simp only [partT, List.length_append, List.length_cons, List.length_nil]; have := dec_len n; have := dec_len p; omega
theorem errI_some (ads : List Addr) (k : Int) (h : k ≠ 0) : ∃ o, errI ads k = .iface 132 (.pointer o) := ⟨_, by unfold errI; rw [if_neg h]⟩

set_option maxRecDepth 20000 in
set_option maxHeartbeats 2000000 in
theorem back_f_f (ads : List Addr) (nn si ri pi : Int) (in_ : I64 nn) (is_ : I64 si) (ir_ : I64 ri) (ip_ : I64 pi) (w : World) (V : St ads w) (I : IdsC ads w) (s0 : ¬ (0 ≤ nn ∧ nn < 4 ∧ 0 ≤ si ∧ si < 1000000)) (p0 : ¬ ((0 ≤ nn ∧ nn < 4) ∧ 0 ≤ pi ∧ pi < 8)) :
    Calls Tryd.prog 5 #[.agg #[.int .i64 nn, .int .i64 si], .int .i64 ri, .int .i64 pi] w fun e w' => e = .returned (.bool true) ∧ Kp w w' := by
  have hA : rightA nn si = false := decide_eq_false (by omega)
  have eA : actO nn si = none := by unfold actO; rw [hA]; rfl
  have eG : regO nn si ri = none := by unfold regO; rw [hA]; rfl
  have eP : partO nn pi = none := by
    unfold partO nodeR partR
    rw [if_neg]
    simp only [Bool.and_eq_true, decide_eq_true_eq]
    omega
  have HAL := Lib.hid (fun w1 (hk : Kp w w1) => alive_any ads w1 (V.below hk) (I.kp hk))
  obtain ⟨o1, ho1⟩ := errI_some ads 1 (by decide)
  obtain ⟨o4, ho4⟩ := errI_some ads 4 (by decide)
  have H2 := fun w1 (hk : Kp w w1) => I.act w1 hk nn si in_ is_
  have H3 := fun w1 (hk : Kp w w1) => I.reg w1 hk nn si ri in_ is_ ir_
  have H4 := fun w1 (hk : Kp w w1) => I.part w1 hk nn pi in_ ip_
  simp only [eA, eG, eP, textR, ho1] at H2 H3 H4
  have H2 := Lib.hid H2
  have H3 := Lib.hid H3
  have H4 := Lib.hid H4
  clear hA eA eG eP ho1 ho4 V I in_ is_ ir_ ip_ s0 p0
  go_enter Tryd.func5, Tryd.ntmps5
  go_wp2_with (go_at_call 7; (with_reducible refine (HAL.out _ (kp_alloc _ _)).mono ?_); rintro e w1 ⟨rfl, hk1⟩; have K1 := Lib.hid (Kp.trans (kp_alloc _ _) hk1); have cb := kp_row hk1 (MapKept.heap_alloc w (.cells #[.int .i64 nn, .int .i64 si] 23)).1; have CB := Lib.hid cb; clear hk1 cb; obtain ⟨ca, cc⟩ := cell_two CB.out)
  go_wp2_with (go_at_call 10; (with_reducible refine (H2.out _ K1.out).mono ?_); rintro e w2 ⟨rfl, hk2⟩; have cb := kp_row hk2 CB.out; have CB := Lib.hid cb; clear cb; clear ca cc; obtain ⟨ca, cc⟩ := cell_two CB.out; have K2 := Lib.hid (Kp.trans K1.out hk2); clear hk2)
  go_wp2_with (go_at_call 11; (with_reducible refine (H3.out _ K2.out).mono ?_); rintro e w3 ⟨rfl, hk3⟩; have cb := kp_row hk3 CB.out; have CB := Lib.hid cb; clear cb; clear ca cc; obtain ⟨ca, cc⟩ := cell_two CB.out; have K3 := Lib.hid (Kp.trans K2.out hk3); clear hk3)
  go_wp2_with (go_at_call 12; (with_reducible refine (H4.out _ K3.out).mono ?_); rintro e w4 ⟨rfl, hk4⟩; have cb := kp_row hk4 CB.out; have CB := Lib.hid cb; clear cb; clear ca cc; obtain ⟨ca, cc⟩ := cell_two CB.out; have K4 := Lib.hid (Kp.trans K3.out hk4); clear hk4)
  go_ret
  exact ⟨by simp, K4.out⟩

set_option maxRecDepth 20000 in
set_option maxHeartbeats 2000000 in
theorem back_f_t (ads : List Addr) (nn si ri pi : Int) (in_ : I64 nn) (is_ : I64 si) (ir_ : I64 ri) (ip_ : I64 pi) (w : World) (V : St ads w) (I : IdsC ads w) (s0 : ¬ (0 ≤ nn ∧ nn < 4 ∧ 0 ≤ si ∧ si < 1000000)) (p0 : (0 ≤ nn ∧ nn < 4) ∧ 0 ≤ pi ∧ pi < 8) :
    Calls Tryd.prog 5 #[.agg #[.int .i64 nn, .int .i64 si], .int .i64 ri, .int .i64 pi] w fun e w' => e = .returned (.bool true) ∧ Kp w w' := by
  have hA : rightA nn si = false := decide_eq_false (by omega)
  have eA : actO nn si = none := by unfold actO; rw [hA]; rfl
  have eG : regO nn si ri = none := by unfold regO; rw [hA]; rfl
  have eP : partO nn pi = some (partT nn.toNat pi.toNat) := by unfold partO nodeR partR; rw [decide_eq_true (show 0 ≤ nn ∧ nn < 4 by omega), decide_eq_true (show 0 ≤ pi ∧ pi < 8 by omega)]; rfl
  have HAL := Lib.hid (fun w1 (hk : Kp w w1) => alive_any ads w1 (V.below hk) (I.kp hk))
  obtain ⟨o1, ho1⟩ := errI_some ads 1 (by decide)
  obtain ⟨o4, ho4⟩ := errI_some ads 4 (by decide)
  have H2 := fun w1 (hk : Kp w w1) => I.act w1 hk nn si in_ is_
  have H3 := fun w1 (hk : Kp w w1) => I.reg w1 hk nn si ri in_ is_ ir_
  have H4 := fun w1 (hk : Kp w w1) => I.part w1 hk nn pi in_ ip_
  simp only [eA, eG, eP, textR, ho1] at H2 H3 H4
  have T7 := fun w1 (hk : Kp w w1) => I.toPart w1 hk (strOfNums (partT nn.toNat pi.toNat)) (partT_len _ _)
  have c4 : ((nn.toNat : Nat) : Int) = nn := by omega
  have c5 : ((pi.toNat : Nat) : Int) = pi := by omega
  have a1 : errI ads 0 = .nilIface := rfl
  simp only [strB_of (partT_in _ _), part_back (show nn.toNat < 4 by omega) (show pi.toNat < 8 by omega), List.getD_cons_zero, List.getD_cons_succ, c4, c5, a1] at T7
  obtain ⟨tp, htp⟩ : ∃ x, strOfNums (partT nn.toNat pi.toNat) = x := ⟨_, rfl⟩
  simp only [htp] at H4 T7
  have H2 := Lib.hid H2
  have H3 := Lib.hid H3
  have H4 := Lib.hid H4
  have T7 := Lib.hid T7
  clear hA eA eG eP ho1 ho4 V I in_ is_ ir_ ip_ s0 p0 htp c4 c5 a1
  go_enter Tryd.func5, Tryd.ntmps5
  go_wp2_with (go_at_call 7; (with_reducible refine (HAL.out _ (kp_alloc _ _)).mono ?_); rintro e w1 ⟨rfl, hk1⟩; have K1 := Lib.hid (Kp.trans (kp_alloc _ _) hk1); have cb := kp_row hk1 (MapKept.heap_alloc w (.cells #[.int .i64 nn, .int .i64 si] 23)).1; have CB := Lib.hid cb; clear hk1 cb; obtain ⟨ca, cc⟩ := cell_two CB.out)
  go_wp2_with (go_at_call 10; (with_reducible refine (H2.out _ K1.out).mono ?_); rintro e w2 ⟨rfl, hk2⟩; have cb := kp_row hk2 CB.out; have CB := Lib.hid cb; clear cb; clear ca cc; obtain ⟨ca, cc⟩ := cell_two CB.out; have K2 := Lib.hid (Kp.trans K1.out hk2); clear hk2)
  go_wp2_with (go_at_call 11; (with_reducible refine (H3.out _ K2.out).mono ?_); rintro e w3 ⟨rfl, hk3⟩; have cb := kp_row hk3 CB.out; have CB := Lib.hid cb; clear cb; clear ca cc; obtain ⟨ca, cc⟩ := cell_two CB.out; have K3 := Lib.hid (Kp.trans K2.out hk3); clear hk3)
  go_wp2_with (go_at_call 12; (with_reducible refine (H4.out _ K3.out).mono ?_); rintro e w4 ⟨rfl, hk4⟩; have cb := kp_row hk4 CB.out; have CB := Lib.hid cb; clear cb; clear ca cc; obtain ⟨ca, cc⟩ := cell_two CB.out; have K4 := Lib.hid (Kp.trans K3.out hk4); clear hk4)
  go_wp2_with (go_at_call 22; (with_reducible refine (T7.out _ K4.out).mono ?_); rintro e w5 ⟨rfl, hk5⟩; have cb := kp_row hk5 CB.out; have CB := Lib.hid cb; clear cb; clear ca cc; obtain ⟨ca, cc⟩ := cell_two CB.out; have K5 := Lib.hid (Kp.trans K4.out hk5); clear hk5)
  go_ret
  exact ⟨by simp, K5.out⟩

set_option maxRecDepth 20000 in
set_option maxHeartbeats 2000000 in
theorem back_t_f_f (ads : List Addr) (nn si ri pi : Int) (in_ : I64 nn) (is_ : I64 si) (ir_ : I64 ri) (ip_ : I64 pi) (w : World) (V : St ads w) (I : IdsC ads w) (s0 : 0 ≤ nn ∧ nn < 4 ∧ 0 ≤ si ∧ si < 1000000) (r0 : ¬ (0 ≤ ri ∧ ri < 6)) (p0 : ¬ ((0 ≤ nn ∧ nn < 4) ∧ 0 ≤ pi ∧ pi < 8)) :
    Calls Tryd.prog 5 #[.agg #[.int .i64 nn, .int .i64 si], .int .i64 ri, .int .i64 pi] w fun e w' => e = .returned (.bool true) ∧ Kp w w' := by
  have hA : rightA nn si = true := decide_eq_true (by omega)
  have eA : actO nn si = some (actT nn.toNat si.toNat) := by unfold actO; rw [hA]; rfl
  have hG : regR ri = false := decide_eq_false (by omega)
  have eG : regO nn si ri = none := by unfold regO; rw [hA, hG]; rfl
  have eP : partO nn pi = none := by
    unfold partO nodeR partR
    rw [if_neg]
    simp only [Bool.and_eq_true, decide_eq_true_eq]
    omega
  have HAL := Lib.hid (fun w1 (hk : Kp w w1) => alive_any ads w1 (V.below hk) (I.kp hk))
  obtain ⟨o1, ho1⟩ := errI_some ads 1 (by decide)
  obtain ⟨o4, ho4⟩ := errI_some ads 4 (by decide)
  have H2 := fun w1 (hk : Kp w w1) => I.act w1 hk nn si in_ is_
  have H3 := fun w1 (hk : Kp w w1) => I.reg w1 hk nn si ri in_ is_ ir_
  have H4 := fun w1 (hk : Kp w w1) => I.part w1 hk nn pi in_ ip_
  simp only [eA, eG, eP, textR, ho1] at H2 H3 H4
  have T1 := fun w1 (hk : Kp w w1) => I.toAct w1 hk (strOfNums (actT nn.toNat si.toNat)) (actT_len _ _)
  have T2 := fun w1 (hk : Kp w w1) => I.toReg w1 hk (strOfNums (actT nn.toNat si.toNat)) (actT_len _ _)
  have T3 := fun w1 (hk : Kp w w1) => I.toPart w1 hk (strOfNums (actT nn.toNat si.toNat)) (actT_len _ _)
  have T4 := fun w1 (hk : Kp w w1) => I.toNode w1 hk (strOfNums (actT nn.toNat si.toNat)) (actT_len _ _)
  have c1 : ((nn.toNat : Nat) : Int) = nn := by omega
  have c2 : ((si.toNat : Nat) : Int) = si := by omega
  have a0 : errI ads 0 = .nilIface := rfl
  simp only [strB_of (actT_in _ _), act_back (show nn.toNat < 4 by omega) (show si.toNat < 1000000 by omega), act_no_reg (show nn.toNat < 4 by omega) (show si.toNat < 1000000 by omega), act_no_part, act_no_node, List.getD_cons_zero, List.getD_cons_succ, List.getD_nil, c1, c2, a0, ho4] at T1 T2 T3 T4
  obtain ⟨ta, hta⟩ : ∃ x, strOfNums (actT nn.toNat si.toNat) = x := ⟨_, rfl⟩
  simp only [hta] at H2 T1 T2 T3 T4
  have H2 := Lib.hid H2
  have H3 := Lib.hid H3
  have H4 := Lib.hid H4
  have T1 := Lib.hid T1
  have T2 := Lib.hid T2
  have T3 := Lib.hid T3
  have T4 := Lib.hid T4
  clear hA eA eG eP ho1 ho4 V I in_ is_ ir_ ip_ s0 p0 hG r0 hta c1 c2 a0
  go_enter Tryd.func5, Tryd.ntmps5
  go_wp2_with (go_at_call 7; (with_reducible refine (HAL.out _ (kp_alloc _ _)).mono ?_); rintro e w1 ⟨rfl, hk1⟩; have K1 := Lib.hid (Kp.trans (kp_alloc _ _) hk1); have cb := kp_row hk1 (MapKept.heap_alloc w (.cells #[.int .i64 nn, .int .i64 si] 23)).1; have CB := Lib.hid cb; clear hk1 cb; obtain ⟨ca, cc⟩ := cell_two CB.out)
  go_wp2_with (go_at_call 10; (with_reducible refine (H2.out _ K1.out).mono ?_); rintro e w2 ⟨rfl, hk2⟩; have cb := kp_row hk2 CB.out; have CB := Lib.hid cb; clear cb; clear ca cc; obtain ⟨ca, cc⟩ := cell_two CB.out; have K2 := Lib.hid (Kp.trans K1.out hk2); clear hk2)
  go_wp2_with (go_at_call 20; (with_reducible refine (T1.out _ K2.out).mono ?_); rintro e w3 ⟨rfl, hk3⟩; have cb := kp_row hk3 CB.out; have CB := Lib.hid cb; clear cb; clear ca cc; obtain ⟨ca, cc⟩ := cell_two CB.out; have K3 := Lib.hid (Kp.trans K2.out hk3); clear hk3)
  go_wp2_with (go_at_call 21; (with_reducible refine (T2.out _ (Kp.trans K3.out (kp_alloc _ _))).mono ?_); rintro e w4 ⟨rfl, hk4⟩; have cb := kp_row (Kp.trans (kp_alloc _ _) hk4) CB.out; have CB := Lib.hid cb; clear cb; clear ca cc; obtain ⟨ca, cc⟩ := cell_two CB.out; have cd := kp_row hk4 (MapKept.heap_alloc w3 (.cells #[.int .i64 nn, .int .i64 si] 23)).1; have CD := Lib.hid cd; clear cd; obtain ⟨da, dc⟩ := cell_two CD.out; have K4 := Lib.hid (Kp.trans (Kp.trans K3.out (kp_alloc _ _)) hk4); clear hk4)
  go_wp2_with (go_at_call 22; (with_reducible refine (T3.out _ (Kp.trans K4.out (kp_alloc _ _))).mono ?_); rintro e w5 ⟨rfl, hk5⟩; have cb := kp_row (Kp.trans (kp_alloc _ _) hk5) CB.out; have CB := Lib.hid cb; clear cb; clear ca cc; obtain ⟨ca, cc⟩ := cell_two CB.out; have cd := kp_row (Kp.trans (kp_alloc _ _) hk5) CD.out; have CD := Lib.hid cd; clear cd; clear da dc; obtain ⟨da, dc⟩ := cell_two CD.out; have K5 := Lib.hid (Kp.trans (Kp.trans K4.out (kp_alloc _ _)) hk5); clear hk5)
  go_wp2_with (go_at_call 19; (with_reducible refine (T4.out _ K5.out).mono ?_); rintro e w6 ⟨rfl, hk6⟩; have cb := kp_row hk6 CB.out; have CB := Lib.hid cb; clear cb; clear ca cc; obtain ⟨ca, cc⟩ := cell_two CB.out; have cd := kp_row hk6 CD.out; have CD := Lib.hid cd; clear cd; clear da dc; obtain ⟨da, dc⟩ := cell_two CD.out; have K6 := Lib.hid (Kp.trans K5.out hk6); clear hk6)
  go_wp2_with (go_at_call 11; (with_reducible refine (H3.out _ K6.out).mono ?_); rintro e w7 ⟨rfl, hk7⟩; have cb := kp_row hk7 CB.out; have CB := Lib.hid cb; clear cb; clear ca cc; obtain ⟨ca, cc⟩ := cell_two CB.out; have K7 := Lib.hid (Kp.trans K6.out hk7); clear hk7)
  clear CD da dc
  go_wp2_with (go_at_call 12; (with_reducible refine (H4.out _ K7.out).mono ?_); rintro e w8 ⟨rfl, hk8⟩; have cb := kp_row hk8 CB.out; have CB := Lib.hid cb; clear cb; clear ca cc; obtain ⟨ca, cc⟩ := cell_two CB.out; have K8 := Lib.hid (Kp.trans K7.out hk8); clear hk8)
  go_ret
  exact ⟨by simp, K8.out⟩

set_option maxRecDepth 20000 in
set_option maxHeartbeats 2000000 in
theorem back_t_f_t (ads : List Addr) (nn si ri pi : Int) (in_ : I64 nn) (is_ : I64 si) (ir_ : I64 ri) (ip_ : I64 pi) (w : World) (V : St ads w) (I : IdsC ads w) (s0 : 0 ≤ nn ∧ nn < 4 ∧ 0 ≤ si ∧ si < 1000000) (r0 : ¬ (0 ≤ ri ∧ ri < 6)) (p0 : (0 ≤ nn ∧ nn < 4) ∧ 0 ≤ pi ∧ pi < 8) :
    Calls Tryd.prog 5 #[.agg #[.int .i64 nn, .int .i64 si], .int .i64 ri, .int .i64 pi] w fun e w' => e = .returned (.bool true) ∧ Kp w w' := by
  have hA : rightA nn si = true := decide_eq_true (by omega)
  have eA : actO nn si = some (actT nn.toNat si.toNat) := by unfold actO; rw [hA]; rfl
  have hG : regR ri = false := decide_eq_false (by omega)
  have eG : regO nn si ri = none := by unfold regO; rw [hA, hG]; rfl
  have eP : partO nn pi = some (partT nn.toNat pi.toNat) := by unfold partO nodeR partR; rw [decide_eq_true (show 0 ≤ nn ∧ nn < 4 by omega), decide_eq_true (show 0 ≤ pi ∧ pi < 8 by omega)]; rfl
  have HAL := Lib.hid (fun w1 (hk : Kp w w1) => alive_any ads w1 (V.below hk) (I.kp hk))
  obtain ⟨o1, ho1⟩ := errI_some ads 1 (by decide)
  obtain ⟨o4, ho4⟩ := errI_some ads 4 (by decide)
  have H2 := fun w1 (hk : Kp w w1) => I.act w1 hk nn si in_ is_
  have H3 := fun w1 (hk : Kp w w1) => I.reg w1 hk nn si ri in_ is_ ir_
  have H4 := fun w1 (hk : Kp w w1) => I.part w1 hk nn pi in_ ip_
  simp only [eA, eG, eP, textR, ho1] at H2 H3 H4
  have T1 := fun w1 (hk : Kp w w1) => I.toAct w1 hk (strOfNums (actT nn.toNat si.toNat)) (actT_len _ _)
  have T2 := fun w1 (hk : Kp w w1) => I.toReg w1 hk (strOfNums (actT nn.toNat si.toNat)) (actT_len _ _)
  have T3 := fun w1 (hk : Kp w w1) => I.toPart w1 hk (strOfNums (actT nn.toNat si.toNat)) (actT_len _ _)
  have T4 := fun w1 (hk : Kp w w1) => I.toNode w1 hk (strOfNums (actT nn.toNat si.toNat)) (actT_len _ _)
  have c1 : ((nn.toNat : Nat) : Int) = nn := by omega
  have c2 : ((si.toNat : Nat) : Int) = si := by omega
  have a0 : errI ads 0 = .nilIface := rfl
  simp only [strB_of (actT_in _ _), act_back (show nn.toNat < 4 by omega) (show si.toNat < 1000000 by omega), act_no_reg (show nn.toNat < 4 by omega) (show si.toNat < 1000000 by omega), act_no_part, act_no_node, List.getD_cons_zero, List.getD_cons_succ, List.getD_nil, c1, c2, a0, ho4] at T1 T2 T3 T4
  obtain ⟨ta, hta⟩ : ∃ x, strOfNums (actT nn.toNat si.toNat) = x := ⟨_, rfl⟩
  simp only [hta] at H2 T1 T2 T3 T4
  have T7 := fun w1 (hk : Kp w w1) => I.toPart w1 hk (strOfNums (partT nn.toNat pi.toNat)) (partT_len _ _)
  have c4 : ((nn.toNat : Nat) : Int) = nn := by omega
  have c5 : ((pi.toNat : Nat) : Int) = pi := by omega
  have a1 : errI ads 0 = .nilIface := rfl
  simp only [strB_of (partT_in _ _), part_back (show nn.toNat < 4 by omega) (show pi.toNat < 8 by omega), List.getD_cons_zero, List.getD_cons_succ, c4, c5, a1] at T7
  obtain ⟨tp, htp⟩ : ∃ x, strOfNums (partT nn.toNat pi.toNat) = x := ⟨_, rfl⟩
  simp only [htp] at H4 T7
  have H2 := Lib.hid H2
  have H3 := Lib.hid H3
  have H4 := Lib.hid H4
  have T1 := Lib.hid T1
  have T2 := Lib.hid T2
  have T3 := Lib.hid T3
  have T4 := Lib.hid T4
  have T7 := Lib.hid T7
  clear hA eA eG eP ho1 ho4 V I in_ is_ ir_ ip_ s0 p0 hG r0 hta c1 c2 a0 htp c4 c5 a1
  go_enter Tryd.func5, Tryd.ntmps5
  go_wp2_with (go_at_call 7; (with_reducible refine (HAL.out _ (kp_alloc _ _)).mono ?_); rintro e w1 ⟨rfl, hk1⟩; have K1 := Lib.hid (Kp.trans (kp_alloc _ _) hk1); have cb := kp_row hk1 (MapKept.heap_alloc w (.cells #[.int .i64 nn, .int .i64 si] 23)).1; have CB := Lib.hid cb; clear hk1 cb; obtain ⟨ca, cc⟩ := cell_two CB.out)
  go_wp2_with (go_at_call 10; (with_reducible refine (H2.out _ K1.out).mono ?_); rintro e w2 ⟨rfl, hk2⟩; have cb := kp_row hk2 CB.out; have CB := Lib.hid cb; clear cb; clear ca cc; obtain ⟨ca, cc⟩ := cell_two CB.out; have K2 := Lib.hid (Kp.trans K1.out hk2); clear hk2)
  go_wp2_with (go_at_call 20; (with_reducible refine (T1.out _ K2.out).mono ?_); rintro e w3 ⟨rfl, hk3⟩; have cb := kp_row hk3 CB.out; have CB := Lib.hid cb; clear cb; clear ca cc; obtain ⟨ca, cc⟩ := cell_two CB.out; have K3 := Lib.hid (Kp.trans K2.out hk3); clear hk3)
  go_wp2_with (go_at_call 21; (with_reducible refine (T2.out _ (Kp.trans K3.out (kp_alloc _ _))).mono ?_); rintro e w4 ⟨rfl, hk4⟩; have cb := kp_row (Kp.trans (kp_alloc _ _) hk4) CB.out; have CB := Lib.hid cb; clear cb; clear ca cc; obtain ⟨ca, cc⟩ := cell_two CB.out; have cd := kp_row hk4 (MapKept.heap_alloc w3 (.cells #[.int .i64 nn, .int .i64 si] 23)).1; have CD := Lib.hid cd; clear cd; obtain ⟨da, dc⟩ := cell_two CD.out; have K4 := Lib.hid (Kp.trans (Kp.trans K3.out (kp_alloc _ _)) hk4); clear hk4)
  go_wp2_with (go_at_call 22; (with_reducible refine (T3.out _ (Kp.trans K4.out (kp_alloc _ _))).mono ?_); rintro e w5 ⟨rfl, hk5⟩; have cb := kp_row (Kp.trans (kp_alloc _ _) hk5) CB.out; have CB := Lib.hid cb; clear cb; clear ca cc; obtain ⟨ca, cc⟩ := cell_two CB.out; have cd := kp_row (Kp.trans (kp_alloc _ _) hk5) CD.out; have CD := Lib.hid cd; clear cd; clear da dc; obtain ⟨da, dc⟩ := cell_two CD.out; have K5 := Lib.hid (Kp.trans (Kp.trans K4.out (kp_alloc _ _)) hk5); clear hk5)
  go_wp2_with (go_at_call 19; (with_reducible refine (T4.out _ K5.out).mono ?_); rintro e w6 ⟨rfl, hk6⟩; have cb := kp_row hk6 CB.out; have CB := Lib.hid cb; clear cb; clear ca cc; obtain ⟨ca, cc⟩ := cell_two CB.out; have cd := kp_row hk6 CD.out; have CD := Lib.hid cd; clear cd; clear da dc; obtain ⟨da, dc⟩ := cell_two CD.out; have K6 := Lib.hid (Kp.trans K5.out hk6); clear hk6)
  go_wp2_with (go_at_call 11; (with_reducible refine (H3.out _ K6.out).mono ?_); rintro e w7 ⟨rfl, hk7⟩; have cb := kp_row hk7 CB.out; have CB := Lib.hid cb; clear cb; clear ca cc; obtain ⟨ca, cc⟩ := cell_two CB.out; have K7 := Lib.hid (Kp.trans K6.out hk7); clear hk7)
  clear CD da dc
  go_wp2_with (go_at_call 12; (with_reducible refine (H4.out _ K7.out).mono ?_); rintro e w8 ⟨rfl, hk8⟩; have cb := kp_row hk8 CB.out; have CB := Lib.hid cb; clear cb; clear ca cc; obtain ⟨ca, cc⟩ := cell_two CB.out; have K8 := Lib.hid (Kp.trans K7.out hk8); clear hk8)
  go_wp2_with (go_at_call 22; (with_reducible refine (T7.out _ K8.out).mono ?_); rintro e w9 ⟨rfl, hk9⟩; have cb := kp_row hk9 CB.out; have CB := Lib.hid cb; clear cb; clear ca cc; obtain ⟨ca, cc⟩ := cell_two CB.out; have K9 := Lib.hid (Kp.trans K8.out hk9); clear hk9)
  go_ret
  exact ⟨by simp, K9.out⟩

set_option maxRecDepth 20000 in
set_option maxHeartbeats 2000000 in
theorem back_t_t_f (ads : List Addr) (nn si ri pi : Int) (in_ : I64 nn) (is_ : I64 si) (ir_ : I64 ri) (ip_ : I64 pi) (w : World) (V : St ads w) (I : IdsC ads w) (s0 : 0 ≤ nn ∧ nn < 4 ∧ 0 ≤ si ∧ si < 1000000) (r0 : 0 ≤ ri ∧ ri < 6) (p0 : ¬ ((0 ≤ nn ∧ nn < 4) ∧ 0 ≤ pi ∧ pi < 8)) :
    Calls Tryd.prog 5 #[.agg #[.int .i64 nn, .int .i64 si], .int .i64 ri, .int .i64 pi] w fun e w' => e = .returned (.bool true) ∧ Kp w w' := by
  have hA : rightA nn si = true := decide_eq_true (by omega)
  have eA : actO nn si = some (actT nn.toNat si.toNat) := by unfold actO; rw [hA]; rfl
  have hG : regR ri = true := decide_eq_true (by omega)
  have eG : regO nn si ri = some (regT nn.toNat si.toNat ri.toNat) := by unfold regO; rw [hA, hG]; rfl
  have eP : partO nn pi = none := by
    unfold partO nodeR partR
    rw [if_neg]
    simp only [Bool.and_eq_true, decide_eq_true_eq]
    omega
  have HAL := Lib.hid (fun w1 (hk : Kp w w1) => alive_any ads w1 (V.below hk) (I.kp hk))
  obtain ⟨o1, ho1⟩ := errI_some ads 1 (by decide)
  obtain ⟨o4, ho4⟩ := errI_some ads 4 (by decide)
  have H2 := fun w1 (hk : Kp w w1) => I.act w1 hk nn si in_ is_
  have H3 := fun w1 (hk : Kp w w1) => I.reg w1 hk nn si ri in_ is_ ir_
  have H4 := fun w1 (hk : Kp w w1) => I.part w1 hk nn pi in_ ip_
  simp only [eA, eG, eP, textR, ho1] at H2 H3 H4
  have T1 := fun w1 (hk : Kp w w1) => I.toAct w1 hk (strOfNums (actT nn.toNat si.toNat)) (actT_len _ _)
  have T2 := fun w1 (hk : Kp w w1) => I.toReg w1 hk (strOfNums (actT nn.toNat si.toNat)) (actT_len _ _)
  have T3 := fun w1 (hk : Kp w w1) => I.toPart w1 hk (strOfNums (actT nn.toNat si.toNat)) (actT_len _ _)
  have T4 := fun w1 (hk : Kp w w1) => I.toNode w1 hk (strOfNums (actT nn.toNat si.toNat)) (actT_len _ _)
  have c1 : ((nn.toNat : Nat) : Int) = nn := by omega
  have c2 : ((si.toNat : Nat) : Int) = si := by omega
  have a0 : errI ads 0 = .nilIface := rfl
  simp only [strB_of (actT_in _ _), act_back (show nn.toNat < 4 by omega) (show si.toNat < 1000000 by omega), act_no_reg (show nn.toNat < 4 by omega) (show si.toNat < 1000000 by omega), act_no_part, act_no_node, List.getD_cons_zero, List.getD_cons_succ, List.getD_nil, c1, c2, a0, ho4] at T1 T2 T3 T4
  obtain ⟨ta, hta⟩ : ∃ x, strOfNums (actT nn.toNat si.toNat) = x := ⟨_, rfl⟩
  simp only [hta] at H2 T1 T2 T3 T4
  have T5 := fun w1 (hk : Kp w w1) => I.toReg w1 hk (strOfNums (regT nn.toNat si.toNat ri.toNat)) (regT_len _ _ _)
  have T6 := fun w1 (hk : Kp w w1) => I.toAct w1 hk (strOfNums (regT nn.toNat si.toNat ri.toNat)) (regT_len _ _ _)
  have c3 : ((ri.toNat : Nat) : Int) = ri := by omega
  simp only [strB_of (regT_in _ _ _), reg_back (show nn.toNat < 4 by omega) (show si.toNat < 1000000 by omega) (show ri.toNat < 6 by omega), reg_no_act (show nn.toNat < 4 by omega) (show si.toNat < 1000000 by omega), List.getD_cons_zero, List.getD_cons_succ, List.getD_nil, c1, c2, c3, a0, ho4] at T5 T6
  obtain ⟨tg, htg⟩ : ∃ x, strOfNums (regT nn.toNat si.toNat ri.toNat) = x := ⟨_, rfl⟩
  simp only [htg] at H3 T5 T6
  have H2 := Lib.hid H2
  have H3 := Lib.hid H3
  have H4 := Lib.hid H4
  have T1 := Lib.hid T1
  have T2 := Lib.hid T2
  have T3 := Lib.hid T3
  have T4 := Lib.hid T4
  have T5 := Lib.hid T5
  have T6 := Lib.hid T6
  clear hA eA eG eP ho1 ho4 V I in_ is_ ir_ ip_ s0 p0 hG r0 hta c1 c2 a0 htg c3
  go_enter Tryd.func5, Tryd.ntmps5
  go_wp2_with (go_at_call 7; (with_reducible refine (HAL.out _ (kp_alloc _ _)).mono ?_); rintro e w1 ⟨rfl, hk1⟩; have K1 := Lib.hid (Kp.trans (kp_alloc _ _) hk1); have cb := kp_row hk1 (MapKept.heap_alloc w (.cells #[.int .i64 nn, .int .i64 si] 23)).1; have CB := Lib.hid cb; clear hk1 cb; obtain ⟨ca, cc⟩ := cell_two CB.out)
  go_wp2_with (go_at_call 10; (with_reducible refine (H2.out _ K1.out).mono ?_); rintro e w2 ⟨rfl, hk2⟩; have cb := kp_row hk2 CB.out; have CB := Lib.hid cb; clear cb; clear ca cc; obtain ⟨ca, cc⟩ := cell_two CB.out; have K2 := Lib.hid (Kp.trans K1.out hk2); clear hk2)
  go_wp2_with (go_at_call 20; (with_reducible refine (T1.out _ K2.out).mono ?_); rintro e w3 ⟨rfl, hk3⟩; have cb := kp_row hk3 CB.out; have CB := Lib.hid cb; clear cb; clear ca cc; obtain ⟨ca, cc⟩ := cell_two CB.out; have K3 := Lib.hid (Kp.trans K2.out hk3); clear hk3)
  go_wp2_with (go_at_call 21; (with_reducible refine (T2.out _ (Kp.trans K3.out (kp_alloc _ _))).mono ?_); rintro e w4 ⟨rfl, hk4⟩; have cb := kp_row (Kp.trans (kp_alloc _ _) hk4) CB.out; have CB := Lib.hid cb; clear cb; clear ca cc; obtain ⟨ca, cc⟩ := cell_two CB.out; have cd := kp_row hk4 (MapKept.heap_alloc w3 (.cells #[.int .i64 nn, .int .i64 si] 23)).1; have CD := Lib.hid cd; clear cd; obtain ⟨da, dc⟩ := cell_two CD.out; have K4 := Lib.hid (Kp.trans (Kp.trans K3.out (kp_alloc _ _)) hk4); clear hk4)
  go_wp2_with (go_at_call 22; (with_reducible refine (T3.out _ (Kp.trans K4.out (kp_alloc _ _))).mono ?_); rintro e w5 ⟨rfl, hk5⟩; have cb := kp_row (Kp.trans (kp_alloc _ _) hk5) CB.out; have CB := Lib.hid cb; clear cb; clear ca cc; obtain ⟨ca, cc⟩ := cell_two CB.out; have cd := kp_row (Kp.trans (kp_alloc _ _) hk5) CD.out; have CD := Lib.hid cd; clear cd; clear da dc; obtain ⟨da, dc⟩ := cell_two CD.out; have K5 := Lib.hid (Kp.trans (Kp.trans K4.out (kp_alloc _ _)) hk5); clear hk5)
  go_wp2_with (go_at_call 19; (with_reducible refine (T4.out _ K5.out).mono ?_); rintro e w6 ⟨rfl, hk6⟩; have cb := kp_row hk6 CB.out; have CB := Lib.hid cb; clear cb; clear ca cc; obtain ⟨ca, cc⟩ := cell_two CB.out; have cd := kp_row hk6 CD.out; have CD := Lib.hid cd; clear cd; clear da dc; obtain ⟨da, dc⟩ := cell_two CD.out; have K6 := Lib.hid (Kp.trans K5.out hk6); clear hk6)
  go_wp2_with (go_at_call 11; (with_reducible refine (H3.out _ K6.out).mono ?_); rintro e w7 ⟨rfl, hk7⟩; have cb := kp_row hk7 CB.out; have CB := Lib.hid cb; clear cb; clear ca cc; obtain ⟨ca, cc⟩ := cell_two CB.out; have K7 := Lib.hid (Kp.trans K6.out hk7); clear hk7)
  clear CD da dc
  go_wp2_with (go_at_call 21; (with_reducible refine (T5.out _ K7.out).mono ?_); rintro e w8 ⟨rfl, hk8⟩; have cb := kp_row hk8 CB.out; have CB := Lib.hid cb; clear cb; clear ca cc; obtain ⟨ca, cc⟩ := cell_two CB.out; have K8 := Lib.hid (Kp.trans K7.out hk8); clear hk8)
  go_wp2_with (go_at_call 20; (with_reducible refine (T6.out _ (Kp.trans K8.out (kp_alloc _ _))).mono ?_); rintro e w9 ⟨rfl, hk9⟩; have cb := kp_row (Kp.trans (kp_alloc _ _) hk9) CB.out; have CB := Lib.hid cb; clear cb; clear ca cc; obtain ⟨ca, cc⟩ := cell_two CB.out; have cd := kp_row hk9 (MapKept.heap_alloc w8 (.cells #[.int .i64 nn, .int .i64 si] 23)).1; have CD := Lib.hid cd; clear cd; obtain ⟨da, dc⟩ := cell_two CD.out; have ce := kp_row (kp_alloc w9 (.cells #[.int .i64 0, .int .i64 0] 23)) CB.out; obtain ⟨ea, ec⟩ := cell_two ce; clear ce; have cf := kp_row (kp_alloc w9 (.cells #[.int .i64 0, .int .i64 0] 23)) CD.out; obtain ⟨fa, fc⟩ := cell_two cf; clear cf; have K9 := Lib.hid (Kp.trans (Kp.trans K8.out (kp_alloc _ _)) hk9); clear hk9)
  go_wp2_with (go_at_call 12; (with_reducible refine (H4.out _ (Kp.trans K9.out (kp_alloc _ _))).mono ?_); rintro e w10 ⟨rfl, hk10⟩; have cb := kp_row (Kp.trans (kp_alloc _ _) hk10) CB.out; have CB := Lib.hid cb; clear cb; clear ca cc; obtain ⟨ca, cc⟩ := cell_two CB.out; have K10 := Lib.hid (Kp.trans (Kp.trans K9.out (kp_alloc _ _)) hk10); clear hk10)
  go_ret
  exact ⟨by simp, K10.out⟩

set_option maxRecDepth 20000 in
set_option maxHeartbeats 2000000 in
theorem back_t_t_t (ads : List Addr) (nn si ri pi : Int) (in_ : I64 nn) (is_ : I64 si) (ir_ : I64 ri) (ip_ : I64 pi) (w : World) (V : St ads w) (I : IdsC ads w) (s0 : 0 ≤ nn ∧ nn < 4 ∧ 0 ≤ si ∧ si < 1000000) (r0 : 0 ≤ ri ∧ ri < 6) (p0 : (0 ≤ nn ∧ nn < 4) ∧ 0 ≤ pi ∧ pi < 8) :
    Calls Tryd.prog 5 #[.agg #[.int .i64 nn, .int .i64 si], .int .i64 ri, .int .i64 pi] w fun e w' => e = .returned (.bool true) ∧ Kp w w' := by
  have hA : rightA nn si = true := decide_eq_true (by omega)
  have eA : actO nn si = some (actT nn.toNat si.toNat) := by unfold actO; rw [hA]; rfl
  have hG : regR ri = true := decide_eq_true (by omega)
  have eG : regO nn si ri = some (regT nn.toNat si.toNat ri.toNat) := by unfold regO; rw [hA, hG]; rfl
  have eP : partO nn pi = some (partT nn.toNat pi.toNat) := by unfold partO nodeR partR; rw [decide_eq_true (show 0 ≤ nn ∧ nn < 4 by omega), decide_eq_true (show 0 ≤ pi ∧ pi < 8 by omega)]; rfl
  have HAL := Lib.hid (fun w1 (hk : Kp w w1) => alive_any ads w1 (V.below hk) (I.kp hk))
  obtain ⟨o1, ho1⟩ := errI_some ads 1 (by decide)
  obtain ⟨o4, ho4⟩ := errI_some ads 4 (by decide)
  have H2 := fun w1 (hk : Kp w w1) => I.act w1 hk nn si in_ is_
  have H3 := fun w1 (hk : Kp w w1) => I.reg w1 hk nn si ri in_ is_ ir_
  have H4 := fun w1 (hk : Kp w w1) => I.part w1 hk nn pi in_ ip_
  simp only [eA, eG, eP, textR] at H2 H3 H4
  have T1 := fun w1 (hk : Kp w w1) => I.toAct w1 hk (strOfNums (actT nn.toNat si.toNat)) (actT_len _ _)
  have T2 := fun w1 (hk : Kp w w1) => I.toReg w1 hk (strOfNums (actT nn.toNat si.toNat)) (actT_len _ _)
  have T3 := fun w1 (hk : Kp w w1) => I.toPart w1 hk (strOfNums (actT nn.toNat si.toNat)) (actT_len _ _)
  have T4 := fun w1 (hk : Kp w w1) => I.toNode w1 hk (strOfNums (actT nn.toNat si.toNat)) (actT_len _ _)
  have c1 : ((nn.toNat : Nat) : Int) = nn := by omega
  have c2 : ((si.toNat : Nat) : Int) = si := by omega
  have a0 : errI ads 0 = .nilIface := rfl
  simp only [strB_of (actT_in _ _), act_back (show nn.toNat < 4 by omega) (show si.toNat < 1000000 by omega), act_no_reg (show nn.toNat < 4 by omega) (show si.toNat < 1000000 by omega), act_no_part, act_no_node, List.getD_cons_zero, List.getD_cons_succ, List.getD_nil, c1, c2, a0, ho4] at T1 T2 T3 T4
  obtain ⟨ta, hta⟩ : ∃ x, strOfNums (actT nn.toNat si.toNat) = x := ⟨_, rfl⟩
  simp only [hta] at H2 T1 T2 T3 T4
  have T5 := fun w1 (hk : Kp w w1) => I.toReg w1 hk (strOfNums (regT nn.toNat si.toNat ri.toNat)) (regT_len _ _ _)
  have T6 := fun w1 (hk : Kp w w1) => I.toAct w1 hk (strOfNums (regT nn.toNat si.toNat ri.toNat)) (regT_len _ _ _)
  have c3 : ((ri.toNat : Nat) : Int) = ri := by omega
  simp only [strB_of (regT_in _ _ _), reg_back (show nn.toNat < 4 by omega) (show si.toNat < 1000000 by omega) (show ri.toNat < 6 by omega), reg_no_act (show nn.toNat < 4 by omega) (show si.toNat < 1000000 by omega), List.getD_cons_zero, List.getD_cons_succ, List.getD_nil, c1, c2, c3, a0, ho4] at T5 T6
  obtain ⟨tg, htg⟩ : ∃ x, strOfNums (regT nn.toNat si.toNat ri.toNat) = x := ⟨_, rfl⟩
  simp only [htg] at H3 T5 T6
  have T7 := fun w1 (hk : Kp w w1) => I.toPart w1 hk (strOfNums (partT nn.toNat pi.toNat)) (partT_len _ _)
  have c4 : ((nn.toNat : Nat) : Int) = nn := by omega
  have c5 : ((pi.toNat : Nat) : Int) = pi := by omega
  have a1 : errI ads 0 = .nilIface := rfl
  simp only [strB_of (partT_in _ _), part_back (show nn.toNat < 4 by omega) (show pi.toNat < 8 by omega), List.getD_cons_zero, List.getD_cons_succ, c4, c5, a1] at T7
  obtain ⟨tp, htp⟩ : ∃ x, strOfNums (partT nn.toNat pi.toNat) = x := ⟨_, rfl⟩
  simp only [htp] at H4 T7
  have H2 := Lib.hid H2
  have H3 := Lib.hid H3
  have H4 := Lib.hid H4
  have T1 := Lib.hid T1
  have T2 := Lib.hid T2
  have T3 := Lib.hid T3
  have T4 := Lib.hid T4
  have T5 := Lib.hid T5
  have T6 := Lib.hid T6
  have T7 := Lib.hid T7
  clear hA eA eG eP ho1 ho4 V I in_ is_ ir_ ip_ s0 p0 hG r0 hta c1 c2 a0 htg c3 htp c4 c5 a1
  go_enter Tryd.func5, Tryd.ntmps5
  go_wp2_with (go_at_call 7; (with_reducible refine (HAL.out _ (kp_alloc _ _)).mono ?_); rintro e w1 ⟨rfl, hk1⟩; have K1 := Lib.hid (Kp.trans (kp_alloc _ _) hk1); have cb := kp_row hk1 (MapKept.heap_alloc w (.cells #[.int .i64 nn, .int .i64 si] 23)).1; have CB := Lib.hid cb; clear hk1 cb; obtain ⟨ca, cc⟩ := cell_two CB.out)
  go_wp2_with (go_at_call 10; (with_reducible refine (H2.out _ K1.out).mono ?_); rintro e w2 ⟨rfl, hk2⟩; have cb := kp_row hk2 CB.out; have CB := Lib.hid cb; clear cb; clear ca cc; obtain ⟨ca, cc⟩ := cell_two CB.out; have K2 := Lib.hid (Kp.trans K1.out hk2); clear hk2)
  go_wp2_with (go_at_call 20; (with_reducible refine (T1.out _ K2.out).mono ?_); rintro e w3 ⟨rfl, hk3⟩; have cb := kp_row hk3 CB.out; have CB := Lib.hid cb; clear cb; clear ca cc; obtain ⟨ca, cc⟩ := cell_two CB.out; have K3 := Lib.hid (Kp.trans K2.out hk3); clear hk3)
  go_wp2_with (go_at_call 21; (with_reducible refine (T2.out _ (Kp.trans K3.out (kp_alloc _ _))).mono ?_); rintro e w4 ⟨rfl, hk4⟩; have cb := kp_row (Kp.trans (kp_alloc _ _) hk4) CB.out; have CB := Lib.hid cb; clear cb; clear ca cc; obtain ⟨ca, cc⟩ := cell_two CB.out; have cd := kp_row hk4 (MapKept.heap_alloc w3 (.cells #[.int .i64 nn, .int .i64 si] 23)).1; have CD := Lib.hid cd; clear cd; obtain ⟨da, dc⟩ := cell_two CD.out; have K4 := Lib.hid (Kp.trans (Kp.trans K3.out (kp_alloc _ _)) hk4); clear hk4)
  go_wp2_with (go_at_call 22; (with_reducible refine (T3.out _ (Kp.trans K4.out (kp_alloc _ _))).mono ?_); rintro e w5 ⟨rfl, hk5⟩; have cb := kp_row (Kp.trans (kp_alloc _ _) hk5) CB.out; have CB := Lib.hid cb; clear cb; clear ca cc; obtain ⟨ca, cc⟩ := cell_two CB.out; have cd := kp_row (Kp.trans (kp_alloc _ _) hk5) CD.out; have CD := Lib.hid cd; clear cd; clear da dc; obtain ⟨da, dc⟩ := cell_two CD.out; have K5 := Lib.hid (Kp.trans (Kp.trans K4.out (kp_alloc _ _)) hk5); clear hk5)
  go_wp2_with (go_at_call 19; (with_reducible refine (T4.out _ K5.out).mono ?_); rintro e w6 ⟨rfl, hk6⟩; have cb := kp_row hk6 CB.out; have CB := Lib.hid cb; clear cb; clear ca cc; obtain ⟨ca, cc⟩ := cell_two CB.out; have cd := kp_row hk6 CD.out; have CD := Lib.hid cd; clear cd; clear da dc; obtain ⟨da, dc⟩ := cell_two CD.out; have K6 := Lib.hid (Kp.trans K5.out hk6); clear hk6)
  go_wp2_with (go_at_call 11; (with_reducible refine (H3.out _ K6.out).mono ?_); rintro e w7 ⟨rfl, hk7⟩; have cb := kp_row hk7 CB.out; have CB := Lib.hid cb; clear cb; clear ca cc; obtain ⟨ca, cc⟩ := cell_two CB.out; have K7 := Lib.hid (Kp.trans K6.out hk7); clear hk7)
  clear CD da dc
  go_wp2_with (go_at_call 21; (with_reducible refine (T5.out _ K7.out).mono ?_); rintro e w8 ⟨rfl, hk8⟩; have cb := kp_row hk8 CB.out; have CB := Lib.hid cb; clear cb; clear ca cc; obtain ⟨ca, cc⟩ := cell_two CB.out; have K8 := Lib.hid (Kp.trans K7.out hk8); clear hk8)
  go_wp2_with (go_at_call 20; (with_reducible refine (T6.out _ (Kp.trans K8.out (kp_alloc _ _))).mono ?_); rintro e w9 ⟨rfl, hk9⟩; have cb := kp_row (Kp.trans (kp_alloc _ _) hk9) CB.out; have CB := Lib.hid cb; clear cb; clear ca cc; obtain ⟨ca, cc⟩ := cell_two CB.out; have cd := kp_row hk9 (MapKept.heap_alloc w8 (.cells #[.int .i64 nn, .int .i64 si] 23)).1; have CD := Lib.hid cd; clear cd; obtain ⟨da, dc⟩ := cell_two CD.out; have ce := kp_row (kp_alloc w9 (.cells #[.int .i64 0, .int .i64 0] 23)) CB.out; obtain ⟨ea, ec⟩ := cell_two ce; clear ce; have cf := kp_row (kp_alloc w9 (.cells #[.int .i64 0, .int .i64 0] 23)) CD.out; obtain ⟨fa, fc⟩ := cell_two cf; clear cf; have K9 := Lib.hid (Kp.trans (Kp.trans K8.out (kp_alloc _ _)) hk9); clear hk9)
  go_wp2_with (go_at_call 12; (with_reducible refine (H4.out _ (Kp.trans K9.out (kp_alloc _ _))).mono ?_); rintro e w10 ⟨rfl, hk10⟩; have cb := kp_row (Kp.trans (kp_alloc _ _) hk10) CB.out; have CB := Lib.hid cb; clear cb; clear ca cc; obtain ⟨ca, cc⟩ := cell_two CB.out; have K10 := Lib.hid (Kp.trans (Kp.trans K9.out (kp_alloc _ _)) hk10); clear hk10)
  go_wp2_with (go_at_call 22; (with_reducible refine (T7.out _ K10.out).mono ?_); rintro e w11 ⟨rfl, hk11⟩; have cb := kp_row hk11 CB.out; have CB := Lib.hid cb; clear cb; clear ca cc; obtain ⟨ca, cc⟩ := cell_two CB.out; have K11 := Lib.hid (Kp.trans K10.out hk11); clear hk11)
  go_ret
  exact ⟨by simp, K11.out⟩

/-- IdsBack, whatever the numbers. -/
theorem back_any (ads : List Addr) (nn si ri pi : Int) (in_ : I64 nn) (is_ : I64 si) (ir_ : I64 ri) (ip_ : I64 pi) (w : World) (V : St ads w) (I : IdsC ads w) :
    Calls Tryd.prog 5 #[.agg #[.int .i64 nn, .int .i64 si], .int .i64 ri, .int .i64 pi] w fun e w' => e = .returned (.bool true) ∧ Kp w w' := by
  by_cases h : 0 ≤ nn ∧ nn < 4 ∧ 0 ≤ si ∧ si < 1000000 <;> by_cases p : (0 ≤ nn ∧ nn < 4) ∧ 0 ≤ pi ∧ pi < 8
  · by_cases r : 0 ≤ ri ∧ ri < 6
    · exact back_t_t_t ads nn si ri pi in_ is_ ir_ ip_ w V I h r p
    · exact back_t_f_t ads nn si ri pi in_ is_ ir_ ip_ w V I h r p
  · by_cases r : 0 ≤ ri ∧ ri < 6
    · exact back_t_t_f ads nn si ri pi in_ is_ ir_ ip_ w V I h r p
    · exact back_t_f_f ads nn si ri pi in_ is_ ir_ ip_ w V I h r p
  · exact back_f_t ads nn si ri pi in_ is_ ir_ ip_ w V I h p
  · exact back_f_f ads nn si ri pi in_ is_ ir_ ip_ w V I h p
end Go.Proofs.YtjilfkfhnbhjiaaDoor
