/- Parts of this proof (own work). -/
import Derived.Test.YtpemeenfhkgmpaaGreatDoorZr11
set_option maxRecDepth 100000
set_option maxHeartbeats 40000000
namespace Go.Proofs.YtpemeenfhkgmpaaGreatDoor
open Go.RowKit Go.ChangeShapes Go.WideShapes
def RuL (B : Nat) (v : Value) (rs : List RuM) (w : World) : Prop :=
 ∃ (b : Nat) (vs : List Value), v = .slice (some ⟨b, 0, none⟩) rs.length rs.length ∧ b ≠ B ∧ vs.length = rs.length ∧ (∃ t fr, w.heap[b]? = some (.cells vs.toArray t fr)) ∧ ∀ (j : Nat) (u : Value) (r : RuM), vs[j]? = some u → rs[j]? = some r → RuV B w u r
theorem RuL.xb {B : Nat} {v : Value} {rs : List RuM} {w w' : World} (h : RuL B v rs w) (hk : Xb B w w') : RuL B v rs w' := by
 obtain ⟨b, vs, h1, h2, h3, ⟨t, fr, h4⟩, h5⟩ := h; exact ⟨b, vs, h1, h2, h3, ⟨t, fr, hk.row h2 h4⟩, fun j u r hu hr => (h5 j u r hu hr).xb hk⟩
theorem rules_1 (B : Nat) (w : World) (hB : B < w.heap.size) : Calls Tryz.prog 63 #[.int .i64 1] w fun e w' => ∃ v, e = .returned v ∧ RuL B v (rulesM 1) w' ∧ Kp w w' := by
 have HS0 := hD hB; clear hB; go_enter Tryz.func63, Tryz.ntmps63; go_wp2_with (first
  | (go_at_call 102; (with_reducible refine (rA 4 4 0 5 rfl (by omega) B _ HS0.out).mono ?_); rintro e w1 ⟨v1, rfl, hv1, hk1⟩; obtain ⟨p1, q1, r1, rfl, hn1⟩ := hv1; have HV1 := hD hn1; have HK1 := hD hk1; have HS1 := hD (Nat.lt_of_lt_of_le HS0.out hk1.size); clear hn1 hk1)
  | (go_at_call 102; (with_reducible refine (rA 6 6 0 7 rfl (by omega) B _ HS1.out).mono ?_); rintro e w2 ⟨v2, rfl, hv2, hk2⟩; obtain ⟨p2, q2, r2, rfl, hn2⟩ := hv2; have HV2 := hD hn2; have HK2 := hD hk2; have HS2 := hD (Nat.lt_of_lt_of_le HS1.out hk2.size); clear hn2 hk2)
  | (go_at_call 102; (with_reducible refine (rA 7 7 1 2 rfl (by omega) B _ HS2.out).mono ?_); rintro e w3 ⟨v3, rfl, hv3, hk3⟩; obtain ⟨p3, q3, r3, rfl, hn3⟩ := hv3; have HV3 := hD hn3; have HK3 := hD hk3; have HS3 := hD (Nat.lt_of_lt_of_le HS2.out hk3.size); clear hn3 hk3)
  | (go_at_call 102; (with_reducible refine (rA 10 10 0 8 rfl (by omega) B _ HS3.out).mono ?_); rintro e w4 ⟨v4, rfl, hv4, hk4⟩; obtain ⟨p4, q4, r4, rfl, hn4⟩ := hv4; have HV4 := hD hn4; have HK4 := hD hk4; have HS4 := hD (Nat.lt_of_lt_of_le HS3.out hk4.size); clear hn4 hk4))
 go_ret; have KA := kA w4 (.cells #[.func (.func 103) #[] #[], .func (.func 142) #[] #[.pointer (some ⟨p4, 0, none⟩), .pointer (some ⟨q4, 0, none⟩), .pointer (some ⟨r4, 0, none⟩)]] 139); have hs := HS4.out; refine ⟨_, rfl, ⟨w4.heap.size, [.func (.func 103) #[] #[], .func (.func 142) #[] #[.pointer (some ⟨p4, 0, none⟩), .pointer (some ⟨q4, 0, none⟩), .pointer (some ⟨r4, 0, none⟩)]], rfl, by omega, rfl, ⟨_, _, (mH w4 _)⟩, ?_⟩, kT (kT (kT (kT (HK1.out) HK2.out) HK3.out) HK4.out) KA⟩
 intro j u r hu hr
 match j, u, r, hu, hr with
 | 0, u, r, hu, hr =>
  obtain rfl : .func (.func 103) #[] #[] = u := by simpa using hu
  obtain rfl : .ctx = r := by simpa [rulesM] using hr
  exact rfl
 | 1, u, r, hu, hr =>
  obtain rfl : .func (.func 142) #[] #[.pointer (some ⟨p4, 0, none⟩), .pointer (some ⟨q4, 0, none⟩), .pointer (some ⟨r4, 0, none⟩)] = u := by simpa using hu
  obtain rfl : (.rg 10 0 8) = r := by simpa [rulesM] using hr
  exact RuV.xb (show RuV B w4 _ (.rg _ _ _) from ⟨p4, q4, r4, rfl, HV4.out⟩) (Xb.of_kp (KA))
 | j + 2, u, r, hu, hr => simp at hu
theorem rules_2 (B : Nat) (w : World) (hB : B < w.heap.size) : Calls Tryz.prog 63 #[.int .i64 2] w fun e w' => ∃ v, e = .returned v ∧ RuL B v (rulesM 2) w' ∧ Kp w w' := by
 have HS0 := hD hB; clear hB; go_enter Tryz.func63, Tryz.ntmps63; go_wp2_with (first
  | (go_at_call 102; (with_reducible refine (rA 4 4 0 5 rfl (by omega) B _ HS0.out).mono ?_); rintro e w1 ⟨v1, rfl, hv1, hk1⟩; obtain ⟨p1, q1, r1, rfl, hn1⟩ := hv1; have HV1 := hD hn1; have HK1 := hD hk1; have HS1 := hD (Nat.lt_of_lt_of_le HS0.out hk1.size); clear hn1 hk1)
  | (go_at_call 102; (with_reducible refine (rA 6 6 0 7 rfl (by omega) B _ HS1.out).mono ?_); rintro e w2 ⟨v2, rfl, hv2, hk2⟩; obtain ⟨p2, q2, r2, rfl, hn2⟩ := hv2; have HV2 := hD hn2; have HK2 := hD hk2; have HS2 := hD (Nat.lt_of_lt_of_le HS1.out hk2.size); clear hn2 hk2)
  | (go_at_call 102; (with_reducible refine (rA 7 7 1 2 rfl (by omega) B _ HS2.out).mono ?_); rintro e w3 ⟨v3, rfl, hv3, hk3⟩; obtain ⟨p3, q3, r3, rfl, hn3⟩ := hv3; have HV3 := hD hn3; have HK3 := hD hk3; have HS3 := hD (Nat.lt_of_lt_of_le HS2.out hk3.size); clear hn3 hk3)
  | (go_at_call 102; (with_reducible refine (rA 5 5 0 3 rfl (by omega) B _ HS3.out).mono ?_); rintro e w4 ⟨v4, rfl, hv4, hk4⟩; obtain ⟨p4, q4, r4, rfl, hn4⟩ := hv4; have HV4 := hD hn4; have HK4 := hD hk4; have HS4 := hD (Nat.lt_of_lt_of_le HS3.out hk4.size); clear hn4 hk4))
 go_ret; have KA := kA w4 (.cells #[.func (.func 104) #[] #[], .func (.func 142) #[] #[.pointer (some ⟨p1, 0, none⟩), .pointer (some ⟨q1, 0, none⟩), .pointer (some ⟨r1, 0, none⟩)], .func (.func 142) #[] #[.pointer (some ⟨p4, 0, none⟩), .pointer (some ⟨q4, 0, none⟩), .pointer (some ⟨r4, 0, none⟩)], .func (.func 142) #[] #[.pointer (some ⟨p2, 0, none⟩), .pointer (some ⟨q2, 0, none⟩), .pointer (some ⟨r2, 0, none⟩)], .func (.func 142) #[] #[.pointer (some ⟨p3, 0, none⟩), .pointer (some ⟨q3, 0, none⟩), .pointer (some ⟨r3, 0, none⟩)]] 139); have hs := HS4.out; refine ⟨_, rfl, ⟨w4.heap.size, [.func (.func 104) #[] #[], .func (.func 142) #[] #[.pointer (some ⟨p1, 0, none⟩), .pointer (some ⟨q1, 0, none⟩), .pointer (some ⟨r1, 0, none⟩)], .func (.func 142) #[] #[.pointer (some ⟨p4, 0, none⟩), .pointer (some ⟨q4, 0, none⟩), .pointer (some ⟨r4, 0, none⟩)], .func (.func 142) #[] #[.pointer (some ⟨p2, 0, none⟩), .pointer (some ⟨q2, 0, none⟩), .pointer (some ⟨r2, 0, none⟩)], .func (.func 142) #[] #[.pointer (some ⟨p3, 0, none⟩), .pointer (some ⟨q3, 0, none⟩), .pointer (some ⟨r3, 0, none⟩)]], rfl, by omega, rfl, ⟨_, _, (mH w4 _)⟩, ?_⟩, kT (kT (kT (kT (HK1.out) HK2.out) HK3.out) HK4.out) KA⟩
 intro j u r hu hr
 match j, u, r, hu, hr with
 | 0, u, r, hu, hr =>
  obtain rfl : .func (.func 104) #[] #[] = u := by simpa using hu
  obtain rfl : .act = r := by simpa [rulesM] using hr
  exact rfl
 | 1, u, r, hu, hr =>
  obtain rfl : .func (.func 142) #[] #[.pointer (some ⟨p1, 0, none⟩), .pointer (some ⟨q1, 0, none⟩), .pointer (some ⟨r1, 0, none⟩)] = u := by simpa using hu
  obtain rfl : (.rg 4 0 5) = r := by simpa [rulesM] using hr
  exact RuV.xb (show RuV B w1 _ (.rg _ _ _) from ⟨p1, q1, r1, rfl, HV1.out⟩) (Xb.of_kp (kT (kT (kT (HK2.out) (HK3.out)) (HK4.out)) (KA)))
 | 2, u, r, hu, hr =>
  obtain rfl : .func (.func 142) #[] #[.pointer (some ⟨p4, 0, none⟩), .pointer (some ⟨q4, 0, none⟩), .pointer (some ⟨r4, 0, none⟩)] = u := by simpa using hu
  obtain rfl : (.rg 5 0 3) = r := by simpa [rulesM] using hr
  exact RuV.xb (show RuV B w4 _ (.rg _ _ _) from ⟨p4, q4, r4, rfl, HV4.out⟩) (Xb.of_kp (KA))
 | 3, u, r, hu, hr =>
  obtain rfl : .func (.func 142) #[] #[.pointer (some ⟨p2, 0, none⟩), .pointer (some ⟨q2, 0, none⟩), .pointer (some ⟨r2, 0, none⟩)] = u := by simpa using hu
  obtain rfl : (.rg 6 0 7) = r := by simpa [rulesM] using hr
  exact RuV.xb (show RuV B w2 _ (.rg _ _ _) from ⟨p2, q2, r2, rfl, HV2.out⟩) (Xb.of_kp (kT (kT (HK3.out) (HK4.out)) (KA)))
 | 4, u, r, hu, hr =>
  obtain rfl : .func (.func 142) #[] #[.pointer (some ⟨p3, 0, none⟩), .pointer (some ⟨q3, 0, none⟩), .pointer (some ⟨r3, 0, none⟩)] = u := by simpa using hu
  obtain rfl : (.rg 7 1 2) = r := by simpa [rulesM] using hr
  exact RuV.xb (show RuV B w3 _ (.rg _ _ _) from ⟨p3, q3, r3, rfl, HV3.out⟩) (Xb.of_kp (kT (HK4.out) (KA)))
 | j + 5, u, r, hu, hr => simp at hu
theorem rules_3 (B : Nat) (w : World) (hB : B < w.heap.size) : Calls Tryz.prog 63 #[.int .i64 3] w fun e w' => ∃ v, e = .returned v ∧ RuL B v (rulesM 3) w' ∧ Kp w w' := by
 have HS0 := hD hB; clear hB; go_enter Tryz.func63, Tryz.ntmps63; go_wp2_with (first
  | (go_at_call 102; (with_reducible refine (rA 4 4 0 5 rfl (by omega) B _ HS0.out).mono ?_); rintro e w1 ⟨v1, rfl, hv1, hk1⟩; obtain ⟨p1, q1, r1, rfl, hn1⟩ := hv1; have HV1 := hD hn1; have HK1 := hD hk1; have HS1 := hD (Nat.lt_of_lt_of_le HS0.out hk1.size); clear hn1 hk1)
  | (go_at_call 102; (with_reducible refine (rA 6 6 0 7 rfl (by omega) B _ HS1.out).mono ?_); rintro e w2 ⟨v2, rfl, hv2, hk2⟩; obtain ⟨p2, q2, r2, rfl, hn2⟩ := hv2; have HV2 := hD hn2; have HK2 := hD hk2; have HS2 := hD (Nat.lt_of_lt_of_le HS1.out hk2.size); clear hn2 hk2)
  | (go_at_call 102; (with_reducible refine (rA 7 7 1 2 rfl (by omega) B _ HS2.out).mono ?_); rintro e w3 ⟨v3, rfl, hv3, hk3⟩; obtain ⟨p3, q3, r3, rfl, hn3⟩ := hv3; have HV3 := hD hn3; have HK3 := hD hk3; have HS3 := hD (Nat.lt_of_lt_of_le HS2.out hk3.size); clear hn3 hk3))
 go_ret; have KA := kA w3 (.cells #[.func (.func 104) #[] #[], .func (.func 142) #[] #[.pointer (some ⟨p1, 0, none⟩), .pointer (some ⟨q1, 0, none⟩), .pointer (some ⟨r1, 0, none⟩)], .func (.func 105) #[] #[]] 139); have hs := HS3.out; refine ⟨_, rfl, ⟨w3.heap.size, [.func (.func 104) #[] #[], .func (.func 142) #[] #[.pointer (some ⟨p1, 0, none⟩), .pointer (some ⟨q1, 0, none⟩), .pointer (some ⟨r1, 0, none⟩)], .func (.func 105) #[] #[]], rfl, by omega, rfl, ⟨_, _, (mH w3 _)⟩, ?_⟩, kT (kT (kT (HK1.out) HK2.out) HK3.out) KA⟩
 intro j u r hu hr
 match j, u, r, hu, hr with
 | 0, u, r, hu, hr =>
  obtain rfl : .func (.func 104) #[] #[] = u := by simpa using hu
  obtain rfl : .act = r := by simpa [rulesM] using hr
  exact rfl
 | 1, u, r, hu, hr =>
  obtain rfl : .func (.func 142) #[] #[.pointer (some ⟨p1, 0, none⟩), .pointer (some ⟨q1, 0, none⟩), .pointer (some ⟨r1, 0, none⟩)] = u := by simpa using hu
  obtain rfl : (.rg 4 0 5) = r := by simpa [rulesM] using hr
  exact RuV.xb (show RuV B w1 _ (.rg _ _ _) from ⟨p1, q1, r1, rfl, HV1.out⟩) (Xb.of_kp (kT (kT (HK2.out) (HK3.out)) (KA)))
 | 2, u, r, hu, hr =>
  obtain rfl : .func (.func 105) #[] #[] = u := by simpa using hu
  obtain rfl : .seat = r := by simpa [rulesM] using hr
  exact rfl
 | j + 3, u, r, hu, hr => simp at hu
theorem rules_4 (B : Nat) (w : World) (hB : B < w.heap.size) : Calls Tryz.prog 63 #[.int .i64 4] w fun e w' => ∃ v, e = .returned v ∧ RuL B v (rulesM 4) w' ∧ Kp w w' := by
 have HS0 := hD hB; clear hB; go_enter Tryz.func63, Tryz.ntmps63; go_wp2_with (first
  | (go_at_call 102; (with_reducible refine (rA 4 4 0 5 rfl (by omega) B _ HS0.out).mono ?_); rintro e w1 ⟨v1, rfl, hv1, hk1⟩; obtain ⟨p1, q1, r1, rfl, hn1⟩ := hv1; have HV1 := hD hn1; have HK1 := hD hk1; have HS1 := hD (Nat.lt_of_lt_of_le HS0.out hk1.size); clear hn1 hk1)
  | (go_at_call 102; (with_reducible refine (rA 6 6 0 7 rfl (by omega) B _ HS1.out).mono ?_); rintro e w2 ⟨v2, rfl, hv2, hk2⟩; obtain ⟨p2, q2, r2, rfl, hn2⟩ := hv2; have HV2 := hD hn2; have HK2 := hD hk2; have HS2 := hD (Nat.lt_of_lt_of_le HS1.out hk2.size); clear hn2 hk2)
  | (go_at_call 102; (with_reducible refine (rA 7 7 1 2 rfl (by omega) B _ HS2.out).mono ?_); rintro e w3 ⟨v3, rfl, hv3, hk3⟩; obtain ⟨p3, q3, r3, rfl, hn3⟩ := hv3; have HV3 := hD hn3; have HK3 := hD hk3; have HS3 := hD (Nat.lt_of_lt_of_le HS2.out hk3.size); clear hn3 hk3)
  | (go_at_call 102; (with_reducible refine (rA 13 13 1 2 rfl (by omega) B _ HS3.out).mono ?_); rintro e w4 ⟨v4, rfl, hv4, hk4⟩; obtain ⟨p4, q4, r4, rfl, hn4⟩ := hv4; have HV4 := hD hn4; have HK4 := hD hk4; have HS4 := hD (Nat.lt_of_lt_of_le HS3.out hk4.size); clear hn4 hk4))
 go_ret; have KA := kA w4 (.cells #[.func (.func 104) #[] #[], .func (.func 142) #[] #[.pointer (some ⟨p4, 0, none⟩), .pointer (some ⟨q4, 0, none⟩), .pointer (some ⟨r4, 0, none⟩)]] 139); have hs := HS4.out; refine ⟨_, rfl, ⟨w4.heap.size, [.func (.func 104) #[] #[], .func (.func 142) #[] #[.pointer (some ⟨p4, 0, none⟩), .pointer (some ⟨q4, 0, none⟩), .pointer (some ⟨r4, 0, none⟩)]], rfl, by omega, rfl, ⟨_, _, (mH w4 _)⟩, ?_⟩, kT (kT (kT (kT (HK1.out) HK2.out) HK3.out) HK4.out) KA⟩
 intro j u r hu hr
 match j, u, r, hu, hr with
 | 0, u, r, hu, hr =>
  obtain rfl : .func (.func 104) #[] #[] = u := by simpa using hu
  obtain rfl : .act = r := by simpa [rulesM] using hr
  exact rfl
 | 1, u, r, hu, hr =>
  obtain rfl : .func (.func 142) #[] #[.pointer (some ⟨p4, 0, none⟩), .pointer (some ⟨q4, 0, none⟩), .pointer (some ⟨r4, 0, none⟩)] = u := by simpa using hu
  obtain rfl : (.rg 13 1 2) = r := by simpa [rulesM] using hr
  exact RuV.xb (show RuV B w4 _ (.rg _ _ _) from ⟨p4, q4, r4, rfl, HV4.out⟩) (Xb.of_kp (KA))
 | j + 2, u, r, hu, hr => simp at hu
theorem rules_5 (B : Nat) (w : World) (hB : B < w.heap.size) : Calls Tryz.prog 63 #[.int .i64 5] w fun e w' => ∃ v, e = .returned v ∧ RuL B v (rulesM 5) w' ∧ Kp w w' := by
 have HS0 := hD hB; clear hB; go_enter Tryz.func63, Tryz.ntmps63; go_wp2_with (first
  | (go_at_call 102; (with_reducible refine (rA 4 4 0 5 rfl (by omega) B _ HS0.out).mono ?_); rintro e w1 ⟨v1, rfl, hv1, hk1⟩; obtain ⟨p1, q1, r1, rfl, hn1⟩ := hv1; have HV1 := hD hn1; have HK1 := hD hk1; have HS1 := hD (Nat.lt_of_lt_of_le HS0.out hk1.size); clear hn1 hk1)
  | (go_at_call 102; (with_reducible refine (rA 6 6 0 7 rfl (by omega) B _ HS1.out).mono ?_); rintro e w2 ⟨v2, rfl, hv2, hk2⟩; obtain ⟨p2, q2, r2, rfl, hn2⟩ := hv2; have HV2 := hD hn2; have HK2 := hD hk2; have HS2 := hD (Nat.lt_of_lt_of_le HS1.out hk2.size); clear hn2 hk2)
  | (go_at_call 102; (with_reducible refine (rA 7 7 1 2 rfl (by omega) B _ HS2.out).mono ?_); rintro e w3 ⟨v3, rfl, hv3, hk3⟩; obtain ⟨p3, q3, r3, rfl, hn3⟩ := hv3; have HV3 := hD hn3; have HK3 := hD hk3; have HS3 := hD (Nat.lt_of_lt_of_le HS2.out hk3.size); clear hn3 hk3))
 go_ret; have KA := kA w3 (.cells #[.func (.func 104) #[] #[]] 139); have hs := HS3.out; refine ⟨_, rfl, ⟨w3.heap.size, [.func (.func 104) #[] #[]], rfl, by omega, rfl, ⟨_, _, (mH w3 _)⟩, ?_⟩, kT (kT (kT (HK1.out) HK2.out) HK3.out) KA⟩
 intro j u r hu hr
 match j, u, r, hu, hr with
 | 0, u, r, hu, hr =>
  obtain rfl : .func (.func 104) #[] #[] = u := by simpa using hu
  obtain rfl : .act = r := by simpa [rulesM] using hr
  exact rfl
 | j + 1, u, r, hu, hr => simp at hu
theorem rules_6 (B : Nat) (w : World) (hB : B < w.heap.size) : Calls Tryz.prog 63 #[.int .i64 6] w fun e w' => ∃ v, e = .returned v ∧ RuL B v (rulesM 6) w' ∧ Kp w w' := by
 have HS0 := hD hB; clear hB; go_enter Tryz.func63, Tryz.ntmps63; go_wp2_with (first
  | (go_at_call 102; (with_reducible refine (rA 4 4 0 5 rfl (by omega) B _ HS0.out).mono ?_); rintro e w1 ⟨v1, rfl, hv1, hk1⟩; obtain ⟨p1, q1, r1, rfl, hn1⟩ := hv1; have HV1 := hD hn1; have HK1 := hD hk1; have HS1 := hD (Nat.lt_of_lt_of_le HS0.out hk1.size); clear hn1 hk1)
  | (go_at_call 102; (with_reducible refine (rA 6 6 0 7 rfl (by omega) B _ HS1.out).mono ?_); rintro e w2 ⟨v2, rfl, hv2, hk2⟩; obtain ⟨p2, q2, r2, rfl, hn2⟩ := hv2; have HV2 := hD hn2; have HK2 := hD hk2; have HS2 := hD (Nat.lt_of_lt_of_le HS1.out hk2.size); clear hn2 hk2)
  | (go_at_call 102; (with_reducible refine (rA 7 7 1 2 rfl (by omega) B _ HS2.out).mono ?_); rintro e w3 ⟨v3, rfl, hv3, hk3⟩; obtain ⟨p3, q3, r3, rfl, hn3⟩ := hv3; have HV3 := hD hn3; have HK3 := hD hk3; have HS3 := hD (Nat.lt_of_lt_of_le HS2.out hk3.size); clear hn3 hk3))
 go_ret; have KA := kA w3 (.cells #[.func (.func 142) #[] #[.pointer (some ⟨p2, 0, none⟩), .pointer (some ⟨q2, 0, none⟩), .pointer (some ⟨r2, 0, none⟩)], .func (.func 104) #[] #[], .func (.func 142) #[] #[.pointer (some ⟨p3, 0, none⟩), .pointer (some ⟨q3, 0, none⟩), .pointer (some ⟨r3, 0, none⟩)]] 139); have hs := HS3.out; refine ⟨_, rfl, ⟨w3.heap.size, [.func (.func 142) #[] #[.pointer (some ⟨p2, 0, none⟩), .pointer (some ⟨q2, 0, none⟩), .pointer (some ⟨r2, 0, none⟩)], .func (.func 104) #[] #[], .func (.func 142) #[] #[.pointer (some ⟨p3, 0, none⟩), .pointer (some ⟨q3, 0, none⟩), .pointer (some ⟨r3, 0, none⟩)]], rfl, by omega, rfl, ⟨_, _, (mH w3 _)⟩, ?_⟩, kT (kT (kT (HK1.out) HK2.out) HK3.out) KA⟩
 intro j u r hu hr
 match j, u, r, hu, hr with
 | 0, u, r, hu, hr =>
  obtain rfl : .func (.func 142) #[] #[.pointer (some ⟨p2, 0, none⟩), .pointer (some ⟨q2, 0, none⟩), .pointer (some ⟨r2, 0, none⟩)] = u := by simpa using hu
  obtain rfl : (.rg 6 0 7) = r := by simpa [rulesM] using hr
  exact RuV.xb (show RuV B w2 _ (.rg _ _ _) from ⟨p2, q2, r2, rfl, HV2.out⟩) (Xb.of_kp (kT (HK3.out) (KA)))
 | 1, u, r, hu, hr =>
  obtain rfl : .func (.func 104) #[] #[] = u := by simpa using hu
  obtain rfl : .act = r := by simpa [rulesM] using hr
  exact rfl
 | 2, u, r, hu, hr =>
  obtain rfl : .func (.func 142) #[] #[.pointer (some ⟨p3, 0, none⟩), .pointer (some ⟨q3, 0, none⟩), .pointer (some ⟨r3, 0, none⟩)] = u := by simpa using hu
  obtain rfl : (.rg 7 1 2) = r := by simpa [rulesM] using hr
  exact RuV.xb (show RuV B w3 _ (.rg _ _ _) from ⟨p3, q3, r3, rfl, HV3.out⟩) (Xb.of_kp (KA))
 | j + 3, u, r, hu, hr => simp at hu
theorem rules_7 (B : Nat) (w : World) (hB : B < w.heap.size) : Calls Tryz.prog 63 #[.int .i64 7] w fun e w' => ∃ v, e = .returned v ∧ RuL B v (rulesM 7) w' ∧ Kp w w' := by
 have HS0 := hD hB; clear hB; go_enter Tryz.func63, Tryz.ntmps63; go_wp2_with (first
  | (go_at_call 102; (with_reducible refine (rA 4 4 0 5 rfl (by omega) B _ HS0.out).mono ?_); rintro e w1 ⟨v1, rfl, hv1, hk1⟩; obtain ⟨p1, q1, r1, rfl, hn1⟩ := hv1; have HV1 := hD hn1; have HK1 := hD hk1; have HS1 := hD (Nat.lt_of_lt_of_le HS0.out hk1.size); clear hn1 hk1)
  | (go_at_call 102; (with_reducible refine (rA 6 6 0 7 rfl (by omega) B _ HS1.out).mono ?_); rintro e w2 ⟨v2, rfl, hv2, hk2⟩; obtain ⟨p2, q2, r2, rfl, hn2⟩ := hv2; have HV2 := hD hn2; have HK2 := hD hk2; have HS2 := hD (Nat.lt_of_lt_of_le HS1.out hk2.size); clear hn2 hk2)
  | (go_at_call 102; (with_reducible refine (rA 7 7 1 2 rfl (by omega) B _ HS2.out).mono ?_); rintro e w3 ⟨v3, rfl, hv3, hk3⟩; obtain ⟨p3, q3, r3, rfl, hn3⟩ := hv3; have HV3 := hD hn3; have HK3 := hD hk3; have HS3 := hD (Nat.lt_of_lt_of_le HS2.out hk3.size); clear hn3 hk3))
 go_ret; have KA := kA w3 (.cells #[.func (.func 142) #[] #[.pointer (some ⟨p2, 0, none⟩), .pointer (some ⟨q2, 0, none⟩), .pointer (some ⟨r2, 0, none⟩)], .func (.func 142) #[] #[.pointer (some ⟨p1, 0, none⟩), .pointer (some ⟨q1, 0, none⟩), .pointer (some ⟨r1, 0, none⟩)]] 139); have hs := HS3.out; refine ⟨_, rfl, ⟨w3.heap.size, [.func (.func 142) #[] #[.pointer (some ⟨p2, 0, none⟩), .pointer (some ⟨q2, 0, none⟩), .pointer (some ⟨r2, 0, none⟩)], .func (.func 142) #[] #[.pointer (some ⟨p1, 0, none⟩), .pointer (some ⟨q1, 0, none⟩), .pointer (some ⟨r1, 0, none⟩)]], rfl, by omega, rfl, ⟨_, _, (mH w3 _)⟩, ?_⟩, kT (kT (kT (HK1.out) HK2.out) HK3.out) KA⟩
 intro j u r hu hr
 match j, u, r, hu, hr with
 | 0, u, r, hu, hr =>
  obtain rfl : .func (.func 142) #[] #[.pointer (some ⟨p2, 0, none⟩), .pointer (some ⟨q2, 0, none⟩), .pointer (some ⟨r2, 0, none⟩)] = u := by simpa using hu
  obtain rfl : (.rg 6 0 7) = r := by simpa [rulesM] using hr
  exact RuV.xb (show RuV B w2 _ (.rg _ _ _) from ⟨p2, q2, r2, rfl, HV2.out⟩) (Xb.of_kp (kT (HK3.out) (KA)))
 | 1, u, r, hu, hr =>
  obtain rfl : .func (.func 142) #[] #[.pointer (some ⟨p1, 0, none⟩), .pointer (some ⟨q1, 0, none⟩), .pointer (some ⟨r1, 0, none⟩)] = u := by simpa using hu
  obtain rfl : (.rg 4 0 5) = r := by simpa [rulesM] using hr
  exact RuV.xb (show RuV B w1 _ (.rg _ _ _) from ⟨p1, q1, r1, rfl, HV1.out⟩) (Xb.of_kp (kT (kT (HK2.out) (HK3.out)) (KA)))
 | j + 2, u, r, hu, hr => simp at hu
theorem rules_8 (B : Nat) (w : World) (hB : B < w.heap.size) : Calls Tryz.prog 63 #[.int .i64 8] w fun e w' => ∃ v, e = .returned v ∧ RuL B v (rulesM 8) w' ∧ Kp w w' := by
 have HS0 := hD hB; clear hB; go_enter Tryz.func63, Tryz.ntmps63; go_wp2_with (first
  | (go_at_call 102; (with_reducible refine (rA 4 4 0 5 rfl (by omega) B _ HS0.out).mono ?_); rintro e w1 ⟨v1, rfl, hv1, hk1⟩; obtain ⟨p1, q1, r1, rfl, hn1⟩ := hv1; have HV1 := hD hn1; have HK1 := hD hk1; have HS1 := hD (Nat.lt_of_lt_of_le HS0.out hk1.size); clear hn1 hk1)
  | (go_at_call 102; (with_reducible refine (rA 6 6 0 7 rfl (by omega) B _ HS1.out).mono ?_); rintro e w2 ⟨v2, rfl, hv2, hk2⟩; obtain ⟨p2, q2, r2, rfl, hn2⟩ := hv2; have HV2 := hD hn2; have HK2 := hD hk2; have HS2 := hD (Nat.lt_of_lt_of_le HS1.out hk2.size); clear hn2 hk2)
  | (go_at_call 102; (with_reducible refine (rA 7 7 1 2 rfl (by omega) B _ HS2.out).mono ?_); rintro e w3 ⟨v3, rfl, hv3, hk3⟩; obtain ⟨p3, q3, r3, rfl, hn3⟩ := hv3; have HV3 := hD hn3; have HK3 := hD hk3; have HS3 := hD (Nat.lt_of_lt_of_le HS2.out hk3.size); clear hn3 hk3))
 go_ret; have KA := kA w3 (.cells #[.func (.func 142) #[] #[.pointer (some ⟨p2, 0, none⟩), .pointer (some ⟨q2, 0, none⟩), .pointer (some ⟨r2, 0, none⟩)], .func (.func 105) #[] #[]] 139); have hs := HS3.out; refine ⟨_, rfl, ⟨w3.heap.size, [.func (.func 142) #[] #[.pointer (some ⟨p2, 0, none⟩), .pointer (some ⟨q2, 0, none⟩), .pointer (some ⟨r2, 0, none⟩)], .func (.func 105) #[] #[]], rfl, by omega, rfl, ⟨_, _, (mH w3 _)⟩, ?_⟩, kT (kT (kT (HK1.out) HK2.out) HK3.out) KA⟩
 intro j u r hu hr
 match j, u, r, hu, hr with
 | 0, u, r, hu, hr =>
  obtain rfl : .func (.func 142) #[] #[.pointer (some ⟨p2, 0, none⟩), .pointer (some ⟨q2, 0, none⟩), .pointer (some ⟨r2, 0, none⟩)] = u := by simpa using hu
  obtain rfl : (.rg 6 0 7) = r := by simpa [rulesM] using hr
  exact RuV.xb (show RuV B w2 _ (.rg _ _ _) from ⟨p2, q2, r2, rfl, HV2.out⟩) (Xb.of_kp (kT (HK3.out) (KA)))
 | 1, u, r, hu, hr =>
  obtain rfl : .func (.func 105) #[] #[] = u := by simpa using hu
  obtain rfl : .seat = r := by simpa [rulesM] using hr
  exact rfl
 | j + 2, u, r, hu, hr => simp at hu
theorem fct_fields : Tryz.prog.underlying 39 = some (.struct (Tryz.prog.fieldsOf 39)) := by
 unfold Program.fieldsOf; rw [Tryz.underlying39]
def feqF (x y : Nat) : Bool := FloatKind.f64.format.order x y == some .eq
theorem feqF_00 : feqF 0 0 = true := by decide
theorem run_equalIn_f64 (d : Nat) (t : TypeId) (x y : Nat) (w : World) (h : Tryz.prog.underlying t = some (.float .f64)) : (Op.equalIn (d + 1) t (.float .f64 x) (.float .f64 y)).run Tryz.prog w = .ok (feqF x y) w := by
 simp [Op.equalIn, run_underlying h, go_sem, feqF, Op.floatEq]
theorem fct_eq (a b : FX) (w : World) : (Op.equalIn 10000 39 (.agg a.cells) (.agg b.cells)).run Tryz.prog w = .ok (decide (a.nums = b.nums) && feqF a.x b.x) w := by
 obtain ⟨k, n, s, r, u, p, q, o, d, a, t, hh, c, x⟩ := a; obtain ⟨k', n', s', r', u', p', q', o', d', a', t', hh', c', x'⟩ := b; have hm : Tryz.prog.stoodInHeld 39 = false := by kernel_rfl
 have ha : Tryz.prog.stoodInHeld 36 = false := by kernel_rfl
 have hq := run_equalIn_f64 9998 37 x x' w Tryz.underlying37; obtain ⟨fq, hfq⟩ : ∃ y, feqF x x' = y := ⟨_, rfl⟩
 rw [hfq] at hq; dsimp only [FX.cells, FX.nums]; rw [hfq]; rw [show (10000 : Nat) = 9998 + 1 + 1 from rfl, run_equalIn_agg w (9998 + 1) 39 _ _ fct_fields hm]
 simp [Program.fieldsOf, Tryz.underlying39, Tryz.underlying36, Op.eqFields, part, go_sem]
 by_cases h0 : k = k'
 rotate_left
 ·simp [h0]
 subst h0
 by_cases h1 : n = n'
 rotate_left
 ·simp [h1]
 subst h1
 by_cases h2 : s = s'
 rotate_left
 ·simp [h2]
 subst h2
 by_cases h3 : r = r'
 rotate_left
 ·simp [h3]
 subst h3
 by_cases h4 : u = u'
 rotate_left
 ·simp [h4]
 subst h4
 by_cases h5 : p = p'
 rotate_left
 ·simp [h5]
 subst h5
 by_cases h6 : q = q'
 rotate_left
 ·simp [h6]
 subst h6
 by_cases h7 : o = o'
 rotate_left
 ·simp [h7]
 subst h7
 by_cases h8 : d = d'
 rotate_left
 ·simp [h8]
 subst h8
 by_cases h9 : a = a'
 rotate_left
 ·simp [h9]
 subst h9
 by_cases h10 : t = t'
 rotate_left
 ·simp [h10]
 subst h10
 by_cases h11 : hh = hh'
 rotate_left
 ·simp [h11]
 subst h11
 by_cases h12 : c = c'
 rotate_left
 ·simp [h12]
 subst h12
 simp [hq]
 cases fq <;> rfl
theorem fct_eql (a b : FX) (w : World) : (binOp .eql 39 (.agg a.cells) (.agg b.cells)).run Tryz.prog w = .ok (.bool (decide (a.nums = b.nums) && feqF a.x b.x)) w := by
 rw [run_eql_struct, fct_eq]; rfl
theorem fct_guard (op : BinOp) (x y : Operand) (a b : FX) (w : World) : (eqGuard op 39 x y (.agg a.cells) (.agg b.cells)).run Tryz.prog w = .ok () w := run_eqGuard_agg w op 39 x y _ _ (by kernel_rfl)
end Go.Proofs.YtpemeenfhkgmpaaGreatDoor
