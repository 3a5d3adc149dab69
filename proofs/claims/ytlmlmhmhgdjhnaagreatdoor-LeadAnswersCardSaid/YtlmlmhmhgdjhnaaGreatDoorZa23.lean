/- Parts of this proof (own work). -/
import Derived.Test.YtlmlmhmhgdjhnaaGreatDoorZa22
set_option maxRecDepth 100000
set_option maxHeartbeats 40000000
namespace Go.Proofs.YtlmlmhmhgdjhnaaGreatDoor
open Go.RowKit Go.ChangeShapes Go.WideShapes
theorem rightF_as (f : FX) (nm : List Int) (h : namedF f.k = nm) : rightF f = (restF nm 0 f.nums && (okF f && decide (f.k = 1 ∨ f.x = 0))) := by
 unfold rightF; rw [h]
theorem nam_none {k : Int} (h : ¬ (1 ≤ k ∧ k ≤ 8)) : namedF k = [] := by
 unfold namedF; rw [if_neg (by omega), if_neg (by omega), if_neg (by omega), if_neg (by omega), if_neg (by omega), if_neg (by omega), if_neg (by omega), if_neg (by omega)]
theorem namF_len (k : Int) : (namedF k).length ≤ 6 := by
 unfold namedF
 split
 ·decide
 split
 ·decide
 split
 ·decide
 split
 ·decide
 split
 ·decide
 split
 ·decide
 split
 ·decide
 split <;> decide
theorem refRight14_any (f : FX) (hf : f.wf) (w : World) : Calls Tryz.prog 87 #[.agg f.cells] w fun e w' => e = .returned (.bool (rightF f)) ∧ Kp w w' := by
 obtain ⟨k, n, s, r, u, p, q, o, d, a, t, hh, c, x⟩ := f
 replace hf : x < 18446744073709551616 := hf
 dsimp only [FX.cells]; have hrow := (mH w (.cells #[k, n, s, r, u, p, q, o, d, a, t, hh, c, x] 102))
 obtain ⟨B, hB⟩ : ∃ y, w.heap.size = y := ⟨_, rfl⟩
 rw [hB] at hrow; have HROW := hD hrow; have K0W := hD (kA w (.cells #[k, n, s, r, u, p, q, o, d, a, t, hh, c, x] 102)); have HA := hD (fun w1 => refActF_any n s w1); obtain ⟨vA, hvA⟩ : ∃ z, rightA n s = z := ⟨_, rfl⟩
 rw [hvA] at HA; have HVA := hD hvA; clear hvA; go_enter Tryz.func87, Tryz.ntmps87; refine wp_seq_k (fun Ka hKa => ?_)
 have HKa := hD hKa; clear hKa; go_wp2; refine HKa.out _ _ ?_
 clear HKa; refine wp_seq_k (fun Kb hKb => ?_)
 have HKb := hD hKb; clear hKb; obtain ⟨b0, b1, b2, b3, b4, b5, b6, b7, b8, b9, b10, b11, b12, b13⟩ := cZ hrow; go_wp2_with (go_at_call 98; (with_reducible refine (HA.out _).mono ?_); rintro e w2 ⟨rfl, hk2⟩; have R2 := hD (rZ hk2 HROW.out); have K2 := hD (kT K0W.out hk2); clear hk2)
 clear b0 b1 b2 b3 b4 b5 b6 b7 b8 b9 b10 b11 b12 b13 hrow; obtain ⟨b0, b1, b2, b3, b4, b5, b6, b7, b8, b9, b10, b11, b12, b13⟩ := cZ R2.out; refine HKb.out _ _ ?_
 clear HKb; refine wp_seq_k (fun Kc hKc => ?_)
 have HKc := hD hKc; clear hKc
 suffices cont : ∀ (u14 u15 u16 u17 u18 u19 u20 u21 : Value) (vR : Bool), decide (0 ≤ r ∧ r ≤ 5) = vR → Kc { tmps := #[.agg #[k, n, s, r, u, p, q, o, d, a, t, hh, c, x], .pointer (some ⟨B, 0, none⟩), .bool false, .bool vA, .bool vR, undef, undef, undef, undef, undef, undef, .pointer (some ⟨B, 1, none⟩), .agg #[n, s], .bool vA, u14, u15, u16, u17, u18, u19, u20, u21, undef, undef, undef, undef, undef, undef, undef, undef, undef, undef, undef, undef, undef, undef, undef, undef, undef, undef, undef, undef, undef, undef, undef, undef, undef, undef, undef, undef, undef, undef, undef, undef, undef, undef, undef, undef, undef, undef, undef, undef, undef, undef, undef, undef, undef, undef, undef, undef, undef, undef, undef, undef, undef, undef, undef, undef, undef, undef, undef, undef, undef, undef, undef, undef, undef, undef, undef, undef, undef, undef, undef, undef, undef, undef, undef, undef, undef, undef, undef, undef, undef, undef, undef, undef, undef, undef, undef, undef, undef, undef, undef, undef, undef, undef, undef, undef, undef, undef, undef, undef, undef, undef, undef, undef, undef, undef, undef, undef, undef, undef, undef, undef, undef, undef, undef, undef, undef, undef, undef, undef, undef, undef, undef, undef, undef, undef, undef, undef, undef, undef, undef, undef, undef, undef, undef, undef, undef, undef, undef, undef, undef, undef, undef, undef, undef, undef, undef, undef, undef, undef, undef, undef, undef, undef, undef, undef, undef, undef], defers := [] } w2 by
  have CONT := hD cont; clear cont
  by_cases hs : 0 ≤ r
  ·have h1 : decide (0 ≤ r) = true := dT hs; have HE : Hid (decide (0 ≤ r ∧ r ≤ 5) = (decide (r ≤ 5))) := hD (by simp [hs]); clear hs; go_wp2; exact CONT.out _ _ _ _ _ _ _ _ (decide (r ≤ 5)) HE.out
  ·have h1 : decide (0 ≤ r) = false := dF hs; have HE : Hid (decide (0 ≤ r ∧ r ≤ 5) = (false)) := hD (by simp [hs]); clear hs; go_wp2; exact CONT.out _ _ _ _ _ _ _ _ (false) HE.out
 intro u14 u15 u16 u17 u18 u19 u20 u21 vR hvR; have HvR := hD hvR; clear hvR; refine HKc.out _ _ ?_
 clear HKc; refine wp_seq_k (fun Kd hKd => ?_)
 have HKd := hD hKd; clear hKd
 suffices cont : ∀ (u22 u23 u24 u25 u26 u27 u28 u29 : Value) (vP : Bool), decide (0 ≤ p ∧ p ≤ 7) = vP → Kd { tmps := #[.agg #[k, n, s, r, u, p, q, o, d, a, t, hh, c, x], .pointer (some ⟨B, 0, none⟩), .bool false, .bool vA, .bool vR, .bool vP, undef, undef, undef, undef, undef, .pointer (some ⟨B, 1, none⟩), .agg #[n, s], .bool vA, u14, u15, u16, u17, u18, u19, u20, u21, u22, u23, u24, u25, u26, u27, u28, u29, undef, undef, undef, undef, undef, undef, undef, undef, undef, undef, undef, undef, undef, undef, undef, undef, undef, undef, undef, undef, undef, undef, undef, undef, undef, undef, undef, undef, undef, undef, undef, undef, undef, undef, undef, undef, undef, undef, undef, undef, undef, undef, undef, undef, undef, undef, undef, undef, undef, undef, undef, undef, undef, undef, undef, undef, undef, undef, undef, undef, undef, undef, undef, undef, undef, undef, undef, undef, undef, undef, undef, undef, undef, undef, undef, undef, undef, undef, undef, undef, undef, undef, undef, undef, undef, undef, undef, undef, undef, undef, undef, undef, undef, undef, undef, undef, undef, undef, undef, undef, undef, undef, undef, undef, undef, undef, undef, undef, undef, undef, undef, undef, undef, undef, undef, undef, undef, undef, undef, undef, undef, undef, undef, undef, undef, undef, undef, undef, undef, undef, undef, undef, undef, undef, undef, undef, undef, undef, undef, undef, undef, undef, undef, undef, undef, undef, undef, undef, undef, undef], defers := [] } w2 by
  have CONT := hD cont; clear cont
  by_cases hs : 0 ≤ p
  ·have h1 : decide (0 ≤ p) = true := dT hs; have HE : Hid (decide (0 ≤ p ∧ p ≤ 7) = (decide (p ≤ 7))) := hD (by simp [hs]); clear hs; go_wp2; exact CONT.out _ _ _ _ _ _ _ _ (decide (p ≤ 7)) HE.out
  ·have h1 : decide (0 ≤ p) = false := dF hs; have HE : Hid (decide (0 ≤ p ∧ p ≤ 7) = (false)) := hD (by simp [hs]); clear hs; go_wp2; exact CONT.out _ _ _ _ _ _ _ _ (false) HE.out
 intro u22 u23 u24 u25 u26 u27 u28 u29 vP hvP; have HvP := hD hvP; clear hvP; refine HKd.out _ _ ?_
 clear HKd; refine wp_seq_k (fun Ke hKe => ?_)
 have HKe := hD hKe; clear hKe
 suffices cont : ∀ (u30 u31 u32 u33 u34 u35 u36 u37 : Value) (vQ : Bool), decide (q = 1 ∨ q = 2) = vQ → Ke { tmps := #[.agg #[k, n, s, r, u, p, q, o, d, a, t, hh, c, x], .pointer (some ⟨B, 0, none⟩), .bool false, .bool vA, .bool vR, .bool vP, .bool vQ, undef, undef, undef, undef, .pointer (some ⟨B, 1, none⟩), .agg #[n, s], .bool vA, u14, u15, u16, u17, u18, u19, u20, u21, u22, u23, u24, u25, u26, u27, u28, u29, u30, u31, u32, u33, u34, u35, u36, u37, undef, undef, undef, undef, undef, undef, undef, undef, undef, undef, undef, undef, undef, undef, undef, undef, undef, undef, undef, undef, undef, undef, undef, undef, undef, undef, undef, undef, undef, undef, undef, undef, undef, undef, undef, undef, undef, undef, undef, undef, undef, undef, undef, undef, undef, undef, undef, undef, undef, undef, undef, undef, undef, undef, undef, undef, undef, undef, undef, undef, undef, undef, undef, undef, undef, undef, undef, undef, undef, undef, undef, undef, undef, undef, undef, undef, undef, undef, undef, undef, undef, undef, undef, undef, undef, undef, undef, undef, undef, undef, undef, undef, undef, undef, undef, undef, undef, undef, undef, undef, undef, undef, undef, undef, undef, undef, undef, undef, undef, undef, undef, undef, undef, undef, undef, undef, undef, undef, undef, undef, undef, undef, undef, undef, undef, undef, undef, undef, undef, undef, undef, undef, undef, undef, undef, undef, undef, undef, undef, undef, undef, undef], defers := [] } w2 by
  have CONT := hD cont; clear cont
  by_cases hs : q = 1
  ·have h1 : (q == 1) = true := by simpa using hs
   have HE : Hid (decide (q = 1 ∨ q = 2) = (true)) := hD (by simp [hs]); clear hs; go_wp2; exact CONT.out _ _ _ _ _ _ _ _ (true) HE.out
  ·have h1 : (q == 1) = false := by simpa using hs
   have HE : Hid (decide (q = 1 ∨ q = 2) = (q == 2)) := hD (by rw [Bool.eq_iff_iff]; simp [hs]); clear hs; go_wp2; exact CONT.out _ _ _ _ _ _ _ _ (q == 2) HE.out
 intro u30 u31 u32 u33 u34 u35 u36 u37 vQ hvQ; have HvQ := hD hvQ; clear hvQ; refine HKe.out _ _ ?_
 clear HKe; refine wp_seq_k (fun Kf hKf => ?_)
 have HKf := hD hKf; clear hKf; go_wp2; refine HKf.out _ _ ?_
 clear HKf; refine wp_seq_k (fun Kg hKg => ?_)
 have HKg := hD hKg; clear hKg; go_wp2; refine HKg.out _ _ ?_
 clear HKg; obtain ⟨w3, hw3⟩ : ∃ y, (w2.alloc (.cells #[] 3)) = y := ⟨_, rfl⟩
 have k23 : Kp w2 w3 := by rw [← hw3]; exact kA w2 _
 have hs3 : w3.heap.size = w2.heap.size + 1 := by rw [← hw3]; simp
 rw [hw3]; have R3 := hD (rZ k23 R2.out); have K3 := hD (kT K2.out k23); clear b0 b1 b2 b3 b4 b5 b6 b7 b8 b9 b10 b11 b12 b13 hw3 k23; obtain ⟨b0, b1, b2, b3, b4, b5, b6, b7, b8, b9, b10, b11, b12, b13⟩ := cZ R3.out; refine wp_seq_k (fun Kh hKh => ?_)
 have HKh := hD hKh; clear hKh
 suffices cont : ∀ (u39 u40 u41 u42 u43 u44 u45 u46 u47 u48 u49 u50 u51 u52 u53 u54 u55 u56 u57 u58 u59 u60 u61 u62 u63 u64 u65 u66 u67 u68 u69 u70 u71 u72 u73 u74 u75 u76 u77 u78 u79 u80 u81 u82 u83 u84 u85 u86 u87 u88 u89 u90 u91 u92 u93 u94 u95 u96 u97 u98 u99 u100 u101 u102 u103 u104 u105 u106 u107 u108 u109 u110 u111 u112 u113 u114 u115 u116 u117 u118 u119 u120 u121 u122 u123 u124 u125 u126 u127 u128 u129 u130 u131 u132 u133 u134 u135 u136 u137 u138 u139 u140 u141 u142 u143 u144 u145 u146 vN : Value) (vO : Bool) (w4 : World), Kp w3 w4 → SlI vN (namedF k) w4 → okF ⟨k, n, s, r, u, p, q, o, d, a, t, hh, c, x⟩ = vO → Kh { tmps := #[.agg #[k, n, s, r, u, p, q, o, d, a, t, hh, c, x], .pointer (some ⟨B, 0, none⟩), .bool false, .bool vA, .bool vR, .bool vP, .bool vQ, vN, .bool vO, undef, undef, .pointer (some ⟨B, 1, none⟩), .agg #[n, s], .bool vA, u14, u15, u16, u17, u18, u19, u20, u21, u22, u23, u24, u25, u26, u27, u28, u29, u30, u31, u32, u33, u34, u35, u36, u37, .slice (some ⟨w2.heap.size, 0, none⟩) 0 0, u39, u40, u41, u42, u43, u44, u45, u46, u47, u48, u49, u50, u51, u52, u53, u54, u55, u56, u57, u58, u59, u60, u61, u62, u63, u64, u65, u66, u67, u68, u69, u70, u71, u72, u73, u74, u75, u76, u77, u78, u79, u80, u81, u82, u83, u84, u85, u86, u87, u88, u89, u90, u91, u92, u93, u94, u95, u96, u97, u98, u99, u100, u101, u102, u103, u104, u105, u106, u107, u108, u109, u110, u111, u112, u113, u114, u115, u116, u117, u118, u119, u120, u121, u122, u123, u124, u125, u126, u127, u128, u129, u130, u131, u132, u133, u134, u135, u136, u137, u138, u139, u140, u141, u142, u143, u144, u145, u146, undef, undef, undef, undef, undef, undef, undef, undef, undef, undef, undef, undef, undef, undef, undef, undef, undef, undef, undef, undef, undef, undef, undef, undef, undef, undef, undef, undef, undef, undef, undef, undef, undef], defers := [] } w4 by
  have CONT := hD cont; clear cont
  by_cases h1 : k = 1
  ·subst h1; have HRX := hD (fun w1 => refRight9_any ⟨n, s, o, d, x⟩ hf w1); dsimp only [CX.cells] at HRX
   cases hX : rightX ⟨n, s, o, d, x⟩ with
   | false =>
    rw [hX] at HRX; have HE : Hid (okF ⟨1, n, s, r, u, p, q, o, d, a, t, hh, c, x⟩ = (false)) := hD (by simp [okF, ctxF, hX]); have hsl : SlI (.slice (some ⟨w2.heap.size + 1, 0, none⟩) 5 5) (namedF 1) (w3.alloc (.cells #[(1:Int), (2:Int), (7:Int), (8:Int), (9:Int)] 3)) := (by have h := own_sli (bs := [1, 2, 7, 8, 9]) (World.ownsRow_lit (base := 0) (e := 3) (size := 1) w3 #[.int .i64 1, .int .i64 2, .int .i64 7, .int .i64 8, .int .i64 9] 5 (Nat.zero_le _) (by decide) rfl); rw [hs3] at h; exact h)
    have HKN := hD (kA w3 (.cells #[(1:Int), (2:Int), (7:Int), (8:Int), (9:Int)] 3)); obtain ⟨m0, m1, m2, m3, m4, m5, m6, m7, m8, m9, m10, m11, m12, m13⟩ := cZ (rZ HKN.out R3.out); have HSL := hD hsl; clear hsl hX; go_wp2_with (go_at_call 54; (with_reducible refine (HRX.out _).mono ?_); rintro e w9 ⟨rfl, hk9⟩; have K9 := hD hk9; obtain ⟨e0, e1, e2, e3, e4, e5, e6, e7, e8, e9, e10, e11, e12, e13⟩ := cZ (rZ (kT HKN.out hk9) R3.out); clear hk9)
    exact CONT.out _ _ _ _ _ _ _ _ _ _ _ _ _ _ _ _ _ _ _ _ _ _ _ _ _ _ _ _ _ _ _ _ _ _ _ _ _ _ _ _ _ _ _ _ _ _ _ _ _ _ _ _ _ _ _ _ _ _ _ _ _ _ _ _ _ _ _ _ _ _ _ _ _ _ _ _ _ _ _ _ _ _ _ _ _ _ _ _ _ _ _ _ _ _ _ _ _ _ _ _ _ _ _ _ _ _ _ _ _ (false) _ (kT HKN.out K9.out) (HSL.out.kp K9.out) HE.out
   | true =>
    rw [hX] at HRX
    by_cases ha : 0 ≤ a
    ·have z1 : decide (0 ≤ a) = true := dT ha; have HE : Hid (okF ⟨1, n, s, r, u, p, q, o, d, a, t, hh, c, x⟩ = (decide (a ≤ 8))) := hD (by simp [okF, ctxF, hX, ha]); have hsl : SlI (.slice (some ⟨w2.heap.size + 1, 0, none⟩) 5 5) (namedF 1) (w3.alloc (.cells #[(1:Int), (2:Int), (7:Int), (8:Int), (9:Int)] 3)) := (by have h := own_sli (bs := [1, 2, 7, 8, 9]) (World.ownsRow_lit (base := 0) (e := 3) (size := 1) w3 #[.int .i64 1, .int .i64 2, .int .i64 7, .int .i64 8, .int .i64 9] 5 (Nat.zero_le _) (by decide) rfl); rw [hs3] at h; exact h)
     have HKN := hD (kA w3 (.cells #[(1:Int), (2:Int), (7:Int), (8:Int), (9:Int)] 3)); obtain ⟨m0, m1, m2, m3, m4, m5, m6, m7, m8, m9, m10, m11, m12, m13⟩ := cZ (rZ HKN.out R3.out); have HSL := hD hsl; clear hsl hX ha; go_wp2_with (go_at_call 54; (with_reducible refine (HRX.out _).mono ?_); rintro e w9 ⟨rfl, hk9⟩; have K9 := hD hk9; obtain ⟨e0, e1, e2, e3, e4, e5, e6, e7, e8, e9, e10, e11, e12, e13⟩ := cZ (rZ (kT HKN.out hk9) R3.out); clear hk9)
     exact CONT.out _ _ _ _ _ _ _ _ _ _ _ _ _ _ _ _ _ _ _ _ _ _ _ _ _ _ _ _ _ _ _ _ _ _ _ _ _ _ _ _ _ _ _ _ _ _ _ _ _ _ _ _ _ _ _ _ _ _ _ _ _ _ _ _ _ _ _ _ _ _ _ _ _ _ _ _ _ _ _ _ _ _ _ _ _ _ _ _ _ _ _ _ _ _ _ _ _ _ _ _ _ _ _ _ _ _ _ _ _ (decide (a ≤ 8)) _ (kT HKN.out K9.out) (HSL.out.kp K9.out) HE.out
    ·have z1 : decide (0 ≤ a) = false := dF ha; have HE : Hid (okF ⟨1, n, s, r, u, p, q, o, d, a, t, hh, c, x⟩ = (false)) := hD (by simp [okF, ctxF, hX, ha]); have hsl : SlI (.slice (some ⟨w2.heap.size + 1, 0, none⟩) 5 5) (namedF 1) (w3.alloc (.cells #[(1:Int), (2:Int), (7:Int), (8:Int), (9:Int)] 3)) := (by have h := own_sli (bs := [1, 2, 7, 8, 9]) (World.ownsRow_lit (base := 0) (e := 3) (size := 1) w3 #[.int .i64 1, .int .i64 2, .int .i64 7, .int .i64 8, .int .i64 9] 5 (Nat.zero_le _) (by decide) rfl); rw [hs3] at h; exact h)
     have HKN := hD (kA w3 (.cells #[(1:Int), (2:Int), (7:Int), (8:Int), (9:Int)] 3)); obtain ⟨m0, m1, m2, m3, m4, m5, m6, m7, m8, m9, m10, m11, m12, m13⟩ := cZ (rZ HKN.out R3.out); have HSL := hD hsl; clear hsl hX ha; go_wp2_with (go_at_call 54; (with_reducible refine (HRX.out _).mono ?_); rintro e w9 ⟨rfl, hk9⟩; have K9 := hD hk9; obtain ⟨e0, e1, e2, e3, e4, e5, e6, e7, e8, e9, e10, e11, e12, e13⟩ := cZ (rZ (kT HKN.out hk9) R3.out); clear hk9)
     exact CONT.out _ _ _ _ _ _ _ _ _ _ _ _ _ _ _ _ _ _ _ _ _ _ _ _ _ _ _ _ _ _ _ _ _ _ _ _ _ _ _ _ _ _ _ _ _ _ _ _ _ _ _ _ _ _ _ _ _ _ _ _ _ _ _ _ _ _ _ _ _ _ _ _ _ _ _ _ _ _ _ _ _ _ _ _ _ _ _ _ _ _ _ _ _ _ _ _ _ _ _ _ _ _ _ _ _ _ _ _ _ (false) _ (kT HKN.out K9.out) (HSL.out.kp K9.out) HE.out
  by_cases h2 : k = 2
  ·subst h2; have hA := HVA.out
   cases vA with
   | false =>
    have HE : Hid (okF ⟨2, n, s, r, u, p, q, o, d, a, t, hh, c, x⟩ = (false)) := hD (by simp [okF, hA]); have hsl : SlI (.slice (some ⟨w2.heap.size + 1, 0, none⟩) 6 6) (namedF 2) (w3.alloc (.cells #[(1:Int), (2:Int), (3:Int), (4:Int), (5:Int), (6:Int)] 3)) := (by have h := own_sli (bs := [1, 2, 3, 4, 5, 6]) (World.ownsRow_lit (base := 0) (e := 3) (size := 1) w3 #[.int .i64 1, .int .i64 2, .int .i64 3, .int .i64 4, .int .i64 5, .int .i64 6] 6 (Nat.zero_le _) (by decide) rfl); rw [hs3] at h; exact h)
    have HKN := hD (kA w3 (.cells #[(1:Int), (2:Int), (3:Int), (4:Int), (5:Int), (6:Int)] 3)); obtain ⟨m0, m1, m2, m3, m4, m5, m6, m7, m8, m9, m10, m11, m12, m13⟩ := cZ (rZ HKN.out R3.out); have HSL := hD hsl; clear hsl hA; go_wp2; exact CONT.out _ _ _ _ _ _ _ _ _ _ _ _ _ _ _ _ _ _ _ _ _ _ _ _ _ _ _ _ _ _ _ _ _ _ _ _ _ _ _ _ _ _ _ _ _ _ _ _ _ _ _ _ _ _ _ _ _ _ _ _ _ _ _ _ _ _ _ _ _ _ _ _ _ _ _ _ _ _ _ _ _ _ _ _ _ _ _ _ _ _ _ _ _ _ _ _ _ _ _ _ _ _ _ _ _ _ _ _ _ (false) _ HKN.out HSL.out HE.out
   | true =>
    cases vR with
    | false =>
     have hR := of_decide_eq_false HvR.out; have HE : Hid (okF ⟨2, n, s, r, u, p, q, o, d, a, t, hh, c, x⟩ = (false)) := hD (by unfold okF; simp only [hA, Bool.true_and, reduceIte, Int.reduceEq]; exact dF (by omega)); have hsl : SlI (.slice (some ⟨w2.heap.size + 1, 0, none⟩) 6 6) (namedF 2) (w3.alloc (.cells #[(1:Int), (2:Int), (3:Int), (4:Int), (5:Int), (6:Int)] 3)) := (by have h := own_sli (bs := [1, 2, 3, 4, 5, 6]) (World.ownsRow_lit (base := 0) (e := 3) (size := 1) w3 #[.int .i64 1, .int .i64 2, .int .i64 3, .int .i64 4, .int .i64 5, .int .i64 6] 6 (Nat.zero_le _) (by decide) rfl); rw [hs3] at h; exact h)
     have HKN := hD (kA w3 (.cells #[(1:Int), (2:Int), (3:Int), (4:Int), (5:Int), (6:Int)] 3)); obtain ⟨m0, m1, m2, m3, m4, m5, m6, m7, m8, m9, m10, m11, m12, m13⟩ := cZ (rZ HKN.out R3.out); have HSL := hD hsl; clear hsl hA hR; go_wp2; exact CONT.out _ _ _ _ _ _ _ _ _ _ _ _ _ _ _ _ _ _ _ _ _ _ _ _ _ _ _ _ _ _ _ _ _ _ _ _ _ _ _ _ _ _ _ _ _ _ _ _ _ _ _ _ _ _ _ _ _ _ _ _ _ _ _ _ _ _ _ _ _ _ _ _ _ _ _ _ _ _ _ _ _ _ _ _ _ _ _ _ _ _ _ _ _ _ _ _ _ _ _ _ _ _ _ _ _ _ _ _ _ (false) _ HKN.out HSL.out HE.out
    | true =>
     have hR := of_decide_eq_true HvR.out
     by_cases hu : 0 ≤ u
     ·by_cases hv : u ≤ 3
      ·cases vP with
       | false =>
         have hP := of_decide_eq_false HvP.out; have z1 : decide (0 ≤ u) = true := dT hu; have z2 : decide (u ≤ 3) = true := dT hv; have HE : Hid (okF ⟨2, n, s, r, u, p, q, o, d, a, t, hh, c, x⟩ = (false)) := hD (by unfold okF; simp only [hA, Bool.true_and, reduceIte, Int.reduceEq]; exact dF (by omega)); have hsl : SlI (.slice (some ⟨w2.heap.size + 1, 0, none⟩) 6 6) (namedF 2) (w3.alloc (.cells #[(1:Int), (2:Int), (3:Int), (4:Int), (5:Int), (6:Int)] 3)) := (by have h := own_sli (bs := [1, 2, 3, 4, 5, 6]) (World.ownsRow_lit (base := 0) (e := 3) (size := 1) w3 #[.int .i64 1, .int .i64 2, .int .i64 3, .int .i64 4, .int .i64 5, .int .i64 6] 6 (Nat.zero_le _) (by decide) rfl); rw [hs3] at h; exact h)
         have HKN := hD (kA w3 (.cells #[(1:Int), (2:Int), (3:Int), (4:Int), (5:Int), (6:Int)] 3)); obtain ⟨m0, m1, m2, m3, m4, m5, m6, m7, m8, m9, m10, m11, m12, m13⟩ := cZ (rZ HKN.out R3.out); have HSL := hD hsl; clear hsl hA hR hP hu hv; go_wp2; exact CONT.out _ _ _ _ _ _ _ _ _ _ _ _ _ _ _ _ _ _ _ _ _ _ _ _ _ _ _ _ _ _ _ _ _ _ _ _ _ _ _ _ _ _ _ _ _ _ _ _ _ _ _ _ _ _ _ _ _ _ _ _ _ _ _ _ _ _ _ _ _ _ _ _ _ _ _ _ _ _ _ _ _ _ _ _ _ _ _ _ _ _ _ _ _ _ _ _ _ _ _ _ _ _ _ _ _ _ _ _ _ (false) _ HKN.out HSL.out HE.out
       | true =>
         have hP := of_decide_eq_true HvP.out; have z1 : decide (0 ≤ u) = true := dT hu; have z2 : decide (u ≤ 3) = true := dT hv; have HE : Hid (okF ⟨2, n, s, r, u, p, q, o, d, a, t, hh, c, x⟩ = (vQ)) := hD (by unfold okF; simp only [hA, Bool.true_and, reduceIte, Int.reduceEq]; rw [← HvQ.out]; congr 1; simp only [eq_iff_iff]; omega); have hsl : SlI (.slice (some ⟨w2.heap.size + 1, 0, none⟩) 6 6) (namedF 2) (w3.alloc (.cells #[(1:Int), (2:Int), (3:Int), (4:Int), (5:Int), (6:Int)] 3)) := (by have h := own_sli (bs := [1, 2, 3, 4, 5, 6]) (World.ownsRow_lit (base := 0) (e := 3) (size := 1) w3 #[.int .i64 1, .int .i64 2, .int .i64 3, .int .i64 4, .int .i64 5, .int .i64 6] 6 (Nat.zero_le _) (by decide) rfl); rw [hs3] at h; exact h)
         have HKN := hD (kA w3 (.cells #[(1:Int), (2:Int), (3:Int), (4:Int), (5:Int), (6:Int)] 3)); obtain ⟨m0, m1, m2, m3, m4, m5, m6, m7, m8, m9, m10, m11, m12, m13⟩ := cZ (rZ HKN.out R3.out); have HSL := hD hsl; clear hsl hA hR hP hu hv; go_wp2; exact CONT.out _ _ _ _ _ _ _ _ _ _ _ _ _ _ _ _ _ _ _ _ _ _ _ _ _ _ _ _ _ _ _ _ _ _ _ _ _ _ _ _ _ _ _ _ _ _ _ _ _ _ _ _ _ _ _ _ _ _ _ _ _ _ _ _ _ _ _ _ _ _ _ _ _ _ _ _ _ _ _ _ _ _ _ _ _ _ _ _ _ _ _ _ _ _ _ _ _ _ _ _ _ _ _ _ _ _ _ _ _ (vQ) _ HKN.out HSL.out HE.out
      ·skip
       have z1 : decide (0 ≤ u) = true := dT hu; have z2 : decide (u ≤ 3) = false := dF hv; have HE : Hid (okF ⟨2, n, s, r, u, p, q, o, d, a, t, hh, c, x⟩ = (false)) := hD (by unfold okF; simp only [hA, Bool.true_and, reduceIte, Int.reduceEq]; exact dF (by omega)); have hsl : SlI (.slice (some ⟨w2.heap.size + 1, 0, none⟩) 6 6) (namedF 2) (w3.alloc (.cells #[(1:Int), (2:Int), (3:Int), (4:Int), (5:Int), (6:Int)] 3)) := (by have h := own_sli (bs := [1, 2, 3, 4, 5, 6]) (World.ownsRow_lit (base := 0) (e := 3) (size := 1) w3 #[.int .i64 1, .int .i64 2, .int .i64 3, .int .i64 4, .int .i64 5, .int .i64 6] 6 (Nat.zero_le _) (by decide) rfl); rw [hs3] at h; exact h)
       have HKN := hD (kA w3 (.cells #[(1:Int), (2:Int), (3:Int), (4:Int), (5:Int), (6:Int)] 3)); obtain ⟨m0, m1, m2, m3, m4, m5, m6, m7, m8, m9, m10, m11, m12, m13⟩ := cZ (rZ HKN.out R3.out); have HSL := hD hsl; clear hsl hA hR hu hv; go_wp2; exact CONT.out _ _ _ _ _ _ _ _ _ _ _ _ _ _ _ _ _ _ _ _ _ _ _ _ _ _ _ _ _ _ _ _ _ _ _ _ _ _ _ _ _ _ _ _ _ _ _ _ _ _ _ _ _ _ _ _ _ _ _ _ _ _ _ _ _ _ _ _ _ _ _ _ _ _ _ _ _ _ _ _ _ _ _ _ _ _ _ _ _ _ _ _ _ _ _ _ _ _ _ _ _ _ _ _ _ _ _ _ _ (false) _ HKN.out HSL.out HE.out
     ·skip
      have z1 : decide (0 ≤ u) = false := dF hu; have HE : Hid (okF ⟨2, n, s, r, u, p, q, o, d, a, t, hh, c, x⟩ = (false)) := hD (by unfold okF; simp only [hA, Bool.true_and, reduceIte, Int.reduceEq]; exact dF (by omega)); have hsl : SlI (.slice (some ⟨w2.heap.size + 1, 0, none⟩) 6 6) (namedF 2) (w3.alloc (.cells #[(1:Int), (2:Int), (3:Int), (4:Int), (5:Int), (6:Int)] 3)) := (by have h := own_sli (bs := [1, 2, 3, 4, 5, 6]) (World.ownsRow_lit (base := 0) (e := 3) (size := 1) w3 #[.int .i64 1, .int .i64 2, .int .i64 3, .int .i64 4, .int .i64 5, .int .i64 6] 6 (Nat.zero_le _) (by decide) rfl); rw [hs3] at h; exact h)
      have HKN := hD (kA w3 (.cells #[(1:Int), (2:Int), (3:Int), (4:Int), (5:Int), (6:Int)] 3)); obtain ⟨m0, m1, m2, m3, m4, m5, m6, m7, m8, m9, m10, m11, m12, m13⟩ := cZ (rZ HKN.out R3.out); have HSL := hD hsl; clear hsl hA hR hu; go_wp2; exact CONT.out _ _ _ _ _ _ _ _ _ _ _ _ _ _ _ _ _ _ _ _ _ _ _ _ _ _ _ _ _ _ _ _ _ _ _ _ _ _ _ _ _ _ _ _ _ _ _ _ _ _ _ _ _ _ _ _ _ _ _ _ _ _ _ _ _ _ _ _ _ _ _ _ _ _ _ _ _ _ _ _ _ _ _ _ _ _ _ _ _ _ _ _ _ _ _ _ _ _ _ _ _ _ _ _ _ _ _ _ _ (false) _ HKN.out HSL.out HE.out
  by_cases h3 : k = 3
  ·subst h3; have hA := HVA.out
   cases vA with
   | false =>
    have HE : Hid (okF ⟨3, n, s, r, u, p, q, o, d, a, t, hh, c, x⟩ = (false)) := hD (by simp [okF, hA]); have hsl : SlI (.slice (some ⟨w2.heap.size + 1, 0, none⟩) 5 5) (namedF 3) (w3.alloc (.cells #[(1:Int), (2:Int), (3:Int), (10:Int), (11:Int)] 3)) := (by have h := own_sli (bs := [1, 2, 3, 10, 11]) (World.ownsRow_lit (base := 0) (e := 3) (size := 1) w3 #[.int .i64 1, .int .i64 2, .int .i64 3, .int .i64 10, .int .i64 11] 5 (Nat.zero_le _) (by decide) rfl); rw [hs3] at h; exact h)
    have HKN := hD (kA w3 (.cells #[(1:Int), (2:Int), (3:Int), (10:Int), (11:Int)] 3)); obtain ⟨m0, m1, m2, m3, m4, m5, m6, m7, m8, m9, m10, m11, m12, m13⟩ := cZ (rZ HKN.out R3.out); have HSL := hD hsl; clear hsl hA; go_wp2; exact CONT.out _ _ _ _ _ _ _ _ _ _ _ _ _ _ _ _ _ _ _ _ _ _ _ _ _ _ _ _ _ _ _ _ _ _ _ _ _ _ _ _ _ _ _ _ _ _ _ _ _ _ _ _ _ _ _ _ _ _ _ _ _ _ _ _ _ _ _ _ _ _ _ _ _ _ _ _ _ _ _ _ _ _ _ _ _ _ _ _ _ _ _ _ _ _ _ _ _ _ _ _ _ _ _ _ _ _ _ _ _ (false) _ HKN.out HSL.out HE.out
   | true =>
    cases vR with
    | false =>
     have hR := of_decide_eq_false HvR.out; have HE : Hid (okF ⟨3, n, s, r, u, p, q, o, d, a, t, hh, c, x⟩ = (false)) := hD (by unfold okF; simp only [hA, Bool.true_and, reduceIte, Int.reduceEq]; rw [dF hR]; rfl); have hsl : SlI (.slice (some ⟨w2.heap.size + 1, 0, none⟩) 5 5) (namedF 3) (w3.alloc (.cells #[(1:Int), (2:Int), (3:Int), (10:Int), (11:Int)] 3)) := (by have h := own_sli (bs := [1, 2, 3, 10, 11]) (World.ownsRow_lit (base := 0) (e := 3) (size := 1) w3 #[.int .i64 1, .int .i64 2, .int .i64 3, .int .i64 10, .int .i64 11] 5 (Nat.zero_le _) (by decide) rfl); rw [hs3] at h; exact h)
     have HKN := hD (kA w3 (.cells #[(1:Int), (2:Int), (3:Int), (10:Int), (11:Int)] 3)); obtain ⟨m0, m1, m2, m3, m4, m5, m6, m7, m8, m9, m10, m11, m12, m13⟩ := cZ (rZ HKN.out R3.out); have HSL := hD hsl; clear hsl hA hR; go_wp2; exact CONT.out _ _ _ _ _ _ _ _ _ _ _ _ _ _ _ _ _ _ _ _ _ _ _ _ _ _ _ _ _ _ _ _ _ _ _ _ _ _ _ _ _ _ _ _ _ _ _ _ _ _ _ _ _ _ _ _ _ _ _ _ _ _ _ _ _ _ _ _ _ _ _ _ _ _ _ _ _ _ _ _ _ _ _ _ _ _ _ _ _ _ _ _ _ _ _ _ _ _ _ _ _ _ _ _ _ _ _ _ _ (false) _ HKN.out HSL.out HE.out
    | true =>
     have hR := of_decide_eq_true HvR.out; have HE : Hid (okF ⟨3, n, s, r, u, p, q, o, d, a, t, hh, c, x⟩ = (seatX t hh)) := hD (by unfold okF; simp only [hA, Bool.true_and, reduceIte, Int.reduceEq]; rw [dT hR]; rfl); have hsl : SlI (.slice (some ⟨w2.heap.size + 1, 0, none⟩) 5 5) (namedF 3) (w3.alloc (.cells #[(1:Int), (2:Int), (3:Int), (10:Int), (11:Int)] 3)) := (by have h := own_sli (bs := [1, 2, 3, 10, 11]) (World.ownsRow_lit (base := 0) (e := 3) (size := 1) w3 #[.int .i64 1, .int .i64 2, .int .i64 3, .int .i64 10, .int .i64 11] 5 (Nat.zero_le _) (by decide) rfl); rw [hs3] at h; exact h)
     have HKN := hD (kA w3 (.cells #[(1:Int), (2:Int), (3:Int), (10:Int), (11:Int)] 3)); obtain ⟨m0, m1, m2, m3, m4, m5, m6, m7, m8, m9, m10, m11, m12, m13⟩ := cZ (rZ HKN.out R3.out); have HSL := hD hsl; clear hsl hA hR; go_wp2_with (go_at_call 152; (with_reducible refine (refState_any _ _ _).mono ?_); rintro e w' ⟨rfl, rfl⟩)
     exact CONT.out _ _ _ _ _ _ _ _ _ _ _ _ _ _ _ _ _ _ _ _ _ _ _ _ _ _ _ _ _ _ _ _ _ _ _ _ _ _ _ _ _ _ _ _ _ _ _ _ _ _ _ _ _ _ _ _ _ _ _ _ _ _ _ _ _ _ _ _ _ _ _ _ _ _ _ _ _ _ _ _ _ _ _ _ _ _ _ _ _ _ _ _ _ _ _ _ _ _ _ _ _ _ _ _ _ _ _ _ _ (seatX t hh) _ HKN.out HSL.out HE.out
  by_cases h4 : k = 4
  ·subst h4; have hA := HVA.out
   cases vA with
   | false =>
    have HE : Hid (okF ⟨4, n, s, r, u, p, q, o, d, a, t, hh, c, x⟩ = (false)) := hD (by simp [okF, hA]); have hsl : SlI (.slice (some ⟨w2.heap.size + 1, 0, none⟩) 3 3) (namedF 4) (w3.alloc (.cells #[(1:Int), (2:Int), (12:Int)] 3)) := (by have h := own_sli (bs := [1, 2, 12]) (World.ownsRow_lit (base := 0) (e := 3) (size := 1) w3 #[.int .i64 1, .int .i64 2, .int .i64 12] 3 (Nat.zero_le _) (by decide) rfl); rw [hs3] at h; exact h)
    have HKN := hD (kA w3 (.cells #[(1:Int), (2:Int), (12:Int)] 3)); obtain ⟨m0, m1, m2, m3, m4, m5, m6, m7, m8, m9, m10, m11, m12, m13⟩ := cZ (rZ HKN.out R3.out); have HSL := hD hsl; clear hsl hA; go_wp2; exact CONT.out _ _ _ _ _ _ _ _ _ _ _ _ _ _ _ _ _ _ _ _ _ _ _ _ _ _ _ _ _ _ _ _ _ _ _ _ _ _ _ _ _ _ _ _ _ _ _ _ _ _ _ _ _ _ _ _ _ _ _ _ _ _ _ _ _ _ _ _ _ _ _ _ _ _ _ _ _ _ _ _ _ _ _ _ _ _ _ _ _ _ _ _ _ _ _ _ _ _ _ _ _ _ _ _ _ _ _ _ _ (false) _ HKN.out HSL.out HE.out
   | true =>
    by_cases hc : c = 1
    ·skip
     have z1 : (c == 1) = true := by simpa using hc
     have HE : Hid (okF ⟨4, n, s, r, u, p, q, o, d, a, t, hh, c, x⟩ = (true)) := hD (by simp [okF, hA, hc]); have hsl : SlI (.slice (some ⟨w2.heap.size + 1, 0, none⟩) 3 3) (namedF 4) (w3.alloc (.cells #[(1:Int), (2:Int), (12:Int)] 3)) := (by have h := own_sli (bs := [1, 2, 12]) (World.ownsRow_lit (base := 0) (e := 3) (size := 1) w3 #[.int .i64 1, .int .i64 2, .int .i64 12] 3 (Nat.zero_le _) (by decide) rfl); rw [hs3] at h; exact h)
     have HKN := hD (kA w3 (.cells #[(1:Int), (2:Int), (12:Int)] 3)); obtain ⟨m0, m1, m2, m3, m4, m5, m6, m7, m8, m9, m10, m11, m12, m13⟩ := cZ (rZ HKN.out R3.out); have HSL := hD hsl; clear hsl hA hc; go_wp2; exact CONT.out _ _ _ _ _ _ _ _ _ _ _ _ _ _ _ _ _ _ _ _ _ _ _ _ _ _ _ _ _ _ _ _ _ _ _ _ _ _ _ _ _ _ _ _ _ _ _ _ _ _ _ _ _ _ _ _ _ _ _ _ _ _ _ _ _ _ _ _ _ _ _ _ _ _ _ _ _ _ _ _ _ _ _ _ _ _ _ _ _ _ _ _ _ _ _ _ _ _ _ _ _ _ _ _ _ _ _ _ _ (true) _ HKN.out HSL.out HE.out
    ·skip
     have z1 : (c == 1) = false := by simpa using hc
     have HE : Hid (okF ⟨4, n, s, r, u, p, q, o, d, a, t, hh, c, x⟩ = (c == 2)) := hD (by rw [Bool.eq_iff_iff]; simp [okF, hA, hc]); have hsl : SlI (.slice (some ⟨w2.heap.size + 1, 0, none⟩) 3 3) (namedF 4) (w3.alloc (.cells #[(1:Int), (2:Int), (12:Int)] 3)) := (by have h := own_sli (bs := [1, 2, 12]) (World.ownsRow_lit (base := 0) (e := 3) (size := 1) w3 #[.int .i64 1, .int .i64 2, .int .i64 12] 3 (Nat.zero_le _) (by decide) rfl); rw [hs3] at h; exact h)
     have HKN := hD (kA w3 (.cells #[(1:Int), (2:Int), (12:Int)] 3)); obtain ⟨m0, m1, m2, m3, m4, m5, m6, m7, m8, m9, m10, m11, m12, m13⟩ := cZ (rZ HKN.out R3.out); have HSL := hD hsl; clear hsl hA hc; go_wp2; exact CONT.out _ _ _ _ _ _ _ _ _ _ _ _ _ _ _ _ _ _ _ _ _ _ _ _ _ _ _ _ _ _ _ _ _ _ _ _ _ _ _ _ _ _ _ _ _ _ _ _ _ _ _ _ _ _ _ _ _ _ _ _ _ _ _ _ _ _ _ _ _ _ _ _ _ _ _ _ _ _ _ _ _ _ _ _ _ _ _ _ _ _ _ _ _ _ _ _ _ _ _ _ _ _ _ _ _ _ _ _ _ (c == 2) _ HKN.out HSL.out HE.out
  by_cases h5 : k = 5
  ·subst h5; have HE : Hid (okF ⟨5, n, s, r, u, p, q, o, d, a, t, hh, c, x⟩ = (vA)) := hD (by simp [okF, HVA.out]); have hsl : SlI (.slice (some ⟨w2.heap.size + 1, 0, none⟩) 2 2) (namedF 5) (w3.alloc (.cells #[(1:Int), (2:Int)] 3)) := (by have h := own_sli (bs := [1, 2]) (World.ownsRow_lit (base := 0) (e := 3) (size := 1) w3 #[.int .i64 1, .int .i64 2] 2 (Nat.zero_le _) (by decide) rfl); rw [hs3] at h; exact h)
   have HKN := hD (kA w3 (.cells #[(1:Int), (2:Int)] 3)); obtain ⟨m0, m1, m2, m3, m4, m5, m6, m7, m8, m9, m10, m11, m12, m13⟩ := cZ (rZ HKN.out R3.out); have HSL := hD hsl; clear hsl; go_wp2; exact CONT.out _ _ _ _ _ _ _ _ _ _ _ _ _ _ _ _ _ _ _ _ _ _ _ _ _ _ _ _ _ _ _ _ _ _ _ _ _ _ _ _ _ _ _ _ _ _ _ _ _ _ _ _ _ _ _ _ _ _ _ _ _ _ _ _ _ _ _ _ _ _ _ _ _ _ _ _ _ _ _ _ _ _ _ _ _ _ _ _ _ _ _ _ _ _ _ _ _ _ _ _ _ _ _ _ _ _ _ _ _ (vA) _ HKN.out HSL.out HE.out
  by_cases h6 : k = 6
  ·subst h6; have hA := HVA.out
   cases vA with
   | false =>
    have HE : Hid (okF ⟨6, n, s, r, u, p, q, o, d, a, t, hh, c, x⟩ = (false)) := hD (by simp [okF, hA]); have hsl : SlI (.slice (some ⟨w2.heap.size + 1, 0, none⟩) 4 4) (namedF 6) (w3.alloc (.cells #[(1:Int), (2:Int), (5:Int), (6:Int)] 3)) := (by have h := own_sli (bs := [1, 2, 5, 6]) (World.ownsRow_lit (base := 0) (e := 3) (size := 1) w3 #[.int .i64 1, .int .i64 2, .int .i64 5, .int .i64 6] 4 (Nat.zero_le _) (by decide) rfl); rw [hs3] at h; exact h)
    have HKN := hD (kA w3 (.cells #[(1:Int), (2:Int), (5:Int), (6:Int)] 3)); obtain ⟨m0, m1, m2, m3, m4, m5, m6, m7, m8, m9, m10, m11, m12, m13⟩ := cZ (rZ HKN.out R3.out); have HSL := hD hsl; clear hsl hA; go_wp2; exact CONT.out _ _ _ _ _ _ _ _ _ _ _ _ _ _ _ _ _ _ _ _ _ _ _ _ _ _ _ _ _ _ _ _ _ _ _ _ _ _ _ _ _ _ _ _ _ _ _ _ _ _ _ _ _ _ _ _ _ _ _ _ _ _ _ _ _ _ _ _ _ _ _ _ _ _ _ _ _ _ _ _ _ _ _ _ _ _ _ _ _ _ _ _ _ _ _ _ _ _ _ _ _ _ _ _ _ _ _ _ _ (false) _ HKN.out HSL.out HE.out
   | true =>
    cases vP with
    | false =>
     have hP := of_decide_eq_false HvP.out; have HE : Hid (okF ⟨6, n, s, r, u, p, q, o, d, a, t, hh, c, x⟩ = (false)) := hD (by unfold okF; simp only [hA, Bool.true_and, reduceIte, Int.reduceEq]; exact dF (by omega)); have hsl : SlI (.slice (some ⟨w2.heap.size + 1, 0, none⟩) 4 4) (namedF 6) (w3.alloc (.cells #[(1:Int), (2:Int), (5:Int), (6:Int)] 3)) := (by have h := own_sli (bs := [1, 2, 5, 6]) (World.ownsRow_lit (base := 0) (e := 3) (size := 1) w3 #[.int .i64 1, .int .i64 2, .int .i64 5, .int .i64 6] 4 (Nat.zero_le _) (by decide) rfl); rw [hs3] at h; exact h)
     have HKN := hD (kA w3 (.cells #[(1:Int), (2:Int), (5:Int), (6:Int)] 3)); obtain ⟨m0, m1, m2, m3, m4, m5, m6, m7, m8, m9, m10, m11, m12, m13⟩ := cZ (rZ HKN.out R3.out); have HSL := hD hsl; clear hsl hA hP; go_wp2; exact CONT.out _ _ _ _ _ _ _ _ _ _ _ _ _ _ _ _ _ _ _ _ _ _ _ _ _ _ _ _ _ _ _ _ _ _ _ _ _ _ _ _ _ _ _ _ _ _ _ _ _ _ _ _ _ _ _ _ _ _ _ _ _ _ _ _ _ _ _ _ _ _ _ _ _ _ _ _ _ _ _ _ _ _ _ _ _ _ _ _ _ _ _ _ _ _ _ _ _ _ _ _ _ _ _ _ _ _ _ _ _ (false) _ HKN.out HSL.out HE.out
    | true =>
     have hP := of_decide_eq_true HvP.out; have HE : Hid (okF ⟨6, n, s, r, u, p, q, o, d, a, t, hh, c, x⟩ = (vQ)) := hD (by unfold okF; simp only [hA, Bool.true_and, reduceIte, Int.reduceEq]; rw [← HvQ.out]; congr 1; simp only [eq_iff_iff]; omega); have hsl : SlI (.slice (some ⟨w2.heap.size + 1, 0, none⟩) 4 4) (namedF 6) (w3.alloc (.cells #[(1:Int), (2:Int), (5:Int), (6:Int)] 3)) := (by have h := own_sli (bs := [1, 2, 5, 6]) (World.ownsRow_lit (base := 0) (e := 3) (size := 1) w3 #[.int .i64 1, .int .i64 2, .int .i64 5, .int .i64 6] 4 (Nat.zero_le _) (by decide) rfl); rw [hs3] at h; exact h)
     have HKN := hD (kA w3 (.cells #[(1:Int), (2:Int), (5:Int), (6:Int)] 3)); obtain ⟨m0, m1, m2, m3, m4, m5, m6, m7, m8, m9, m10, m11, m12, m13⟩ := cZ (rZ HKN.out R3.out); have HSL := hD hsl; clear hsl hA hP; go_wp2; exact CONT.out _ _ _ _ _ _ _ _ _ _ _ _ _ _ _ _ _ _ _ _ _ _ _ _ _ _ _ _ _ _ _ _ _ _ _ _ _ _ _ _ _ _ _ _ _ _ _ _ _ _ _ _ _ _ _ _ _ _ _ _ _ _ _ _ _ _ _ _ _ _ _ _ _ _ _ _ _ _ _ _ _ _ _ _ _ _ _ _ _ _ _ _ _ _ _ _ _ _ _ _ _ _ _ _ _ _ _ _ _ (vQ) _ HKN.out HSL.out HE.out
  by_cases h7 : k = 7
  ·subst h7
   cases vP with
   | false =>
    have hP := of_decide_eq_false HvP.out; have HE : Hid (okF ⟨7, n, s, r, u, p, q, o, d, a, t, hh, c, x⟩ = (false)) := hD (by unfold okF; simp only [reduceIte, Int.reduceEq]; exact dF (by omega)); have hsl : SlI (.slice (some ⟨w2.heap.size + 1, 0, none⟩) 2 2) (namedF 7) (w3.alloc (.cells #[(3:Int), (5:Int)] 3)) := (by have h := own_sli (bs := [3, 5]) (World.ownsRow_lit (base := 0) (e := 3) (size := 1) w3 #[.int .i64 3, .int .i64 5] 2 (Nat.zero_le _) (by decide) rfl); rw [hs3] at h; exact h)
    have HKN := hD (kA w3 (.cells #[(3:Int), (5:Int)] 3)); obtain ⟨m0, m1, m2, m3, m4, m5, m6, m7, m8, m9, m10, m11, m12, m13⟩ := cZ (rZ HKN.out R3.out); have HSL := hD hsl; clear hsl hP; go_wp2; exact CONT.out _ _ _ _ _ _ _ _ _ _ _ _ _ _ _ _ _ _ _ _ _ _ _ _ _ _ _ _ _ _ _ _ _ _ _ _ _ _ _ _ _ _ _ _ _ _ _ _ _ _ _ _ _ _ _ _ _ _ _ _ _ _ _ _ _ _ _ _ _ _ _ _ _ _ _ _ _ _ _ _ _ _ _ _ _ _ _ _ _ _ _ _ _ _ _ _ _ _ _ _ _ _ _ _ _ _ _ _ _ (false) _ HKN.out HSL.out HE.out
   | true =>
    have hP := of_decide_eq_true HvP.out; have HE : Hid (okF ⟨7, n, s, r, u, p, q, o, d, a, t, hh, c, x⟩ = (vR)) := hD (by unfold okF; simp only [reduceIte, Int.reduceEq]; rw [← HvR.out]; congr 1; simp only [eq_iff_iff]; omega); have hsl : SlI (.slice (some ⟨w2.heap.size + 1, 0, none⟩) 2 2) (namedF 7) (w3.alloc (.cells #[(3:Int), (5:Int)] 3)) := (by have h := own_sli (bs := [3, 5]) (World.ownsRow_lit (base := 0) (e := 3) (size := 1) w3 #[.int .i64 3, .int .i64 5] 2 (Nat.zero_le _) (by decide) rfl); rw [hs3] at h; exact h)
    have HKN := hD (kA w3 (.cells #[(3:Int), (5:Int)] 3)); obtain ⟨m0, m1, m2, m3, m4, m5, m6, m7, m8, m9, m10, m11, m12, m13⟩ := cZ (rZ HKN.out R3.out); have HSL := hD hsl; clear hsl hP; go_wp2; exact CONT.out _ _ _ _ _ _ _ _ _ _ _ _ _ _ _ _ _ _ _ _ _ _ _ _ _ _ _ _ _ _ _ _ _ _ _ _ _ _ _ _ _ _ _ _ _ _ _ _ _ _ _ _ _ _ _ _ _ _ _ _ _ _ _ _ _ _ _ _ _ _ _ _ _ _ _ _ _ _ _ _ _ _ _ _ _ _ _ _ _ _ _ _ _ _ _ _ _ _ _ _ _ _ _ _ _ _ _ _ _ (vR) _ HKN.out HSL.out HE.out
  by_cases h8 : k = 8
  ·subst h8
   cases vP with
   | false =>
    have hP := of_decide_eq_false HvP.out; have HE : Hid (okF ⟨8, n, s, r, u, p, q, o, d, a, t, hh, c, x⟩ = (false)) := hD (by unfold okF; simp only [reduceIte, Int.reduceEq]; rw [dF hP]; rfl); have hsl : SlI (.slice (some ⟨w2.heap.size + 1, 0, none⟩) 3 3) (namedF 8) (w3.alloc (.cells #[(5:Int), (10:Int), (11:Int)] 3)) := (by have h := own_sli (bs := [5, 10, 11]) (World.ownsRow_lit (base := 0) (e := 3) (size := 1) w3 #[.int .i64 5, .int .i64 10, .int .i64 11] 3 (Nat.zero_le _) (by decide) rfl); rw [hs3] at h; exact h)
    have HKN := hD (kA w3 (.cells #[(5:Int), (10:Int), (11:Int)] 3)); obtain ⟨m0, m1, m2, m3, m4, m5, m6, m7, m8, m9, m10, m11, m12, m13⟩ := cZ (rZ HKN.out R3.out); have HSL := hD hsl; clear hsl hP; go_wp2; exact CONT.out _ _ _ _ _ _ _ _ _ _ _ _ _ _ _ _ _ _ _ _ _ _ _ _ _ _ _ _ _ _ _ _ _ _ _ _ _ _ _ _ _ _ _ _ _ _ _ _ _ _ _ _ _ _ _ _ _ _ _ _ _ _ _ _ _ _ _ _ _ _ _ _ _ _ _ _ _ _ _ _ _ _ _ _ _ _ _ _ _ _ _ _ _ _ _ _ _ _ _ _ _ _ _ _ _ _ _ _ _ (false) _ HKN.out HSL.out HE.out
   | true =>
    have hP := of_decide_eq_true HvP.out; have HE : Hid (okF ⟨8, n, s, r, u, p, q, o, d, a, t, hh, c, x⟩ = (seatX t hh)) := hD (by unfold okF; simp only [reduceIte, Int.reduceEq]; rw [dT hP]; rfl); have hsl : SlI (.slice (some ⟨w2.heap.size + 1, 0, none⟩) 3 3) (namedF 8) (w3.alloc (.cells #[(5:Int), (10:Int), (11:Int)] 3)) := (by have h := own_sli (bs := [5, 10, 11]) (World.ownsRow_lit (base := 0) (e := 3) (size := 1) w3 #[.int .i64 5, .int .i64 10, .int .i64 11] 3 (Nat.zero_le _) (by decide) rfl); rw [hs3] at h; exact h)
    have HKN := hD (kA w3 (.cells #[(5:Int), (10:Int), (11:Int)] 3)); obtain ⟨m0, m1, m2, m3, m4, m5, m6, m7, m8, m9, m10, m11, m12, m13⟩ := cZ (rZ HKN.out R3.out); have HSL := hD hsl; clear hsl hP; go_wp2_with (go_at_call 152; (with_reducible refine (refState_any _ _ _).mono ?_); rintro e w' ⟨rfl, rfl⟩)
    exact CONT.out _ _ _ _ _ _ _ _ _ _ _ _ _ _ _ _ _ _ _ _ _ _ _ _ _ _ _ _ _ _ _ _ _ _ _ _ _ _ _ _ _ _ _ _ _ _ _ _ _ _ _ _ _ _ _ _ _ _ _ _ _ _ _ _ _ _ _ _ _ _ _ _ _ _ _ _ _ _ _ _ _ _ _ _ _ _ _ _ _ _ _ _ _ _ _ _ _ _ _ _ _ _ _ _ _ _ _ _ _ (seatX t hh) _ HKN.out HSL.out HE.out
  have hk : ¬ (1 ≤ k ∧ k ≤ 8) := by omega
  have z1 : (k == 1) = false := by simpa using h1
  have z2 : (k == 2) = false := by simpa using h2
  have z3 : (k == 3) = false := by simpa using h3
  have z4 : (k == 4) = false := by simpa using h4
  have z5 : (k == 5) = false := by simpa using h5
  have z6 : (k == 6) = false := by simpa using h6
  have z7 : (k == 7) = false := by simpa using h7
  have z8 : (k == 8) = false := by simpa using h8
  have HE : Hid (okF ⟨k, n, s, r, u, p, q, o, d, a, t, hh, c, x⟩ = (false)) := hD (by unfold okF; rw [if_neg h1, if_neg h2, if_neg h3, if_neg h4, if_neg h5, if_neg h6, if_neg h7, if_neg h8]); have hsl : SlI (.slice (some ⟨w2.heap.size, 0, none⟩) 0 0) (namedF k) w3 := (by rw [nam_none hk]; exact .inl ⟨rfl, _, _, rfl⟩)
  have HKN := hD (Kp.refl w3); have HSL := hD hsl; clear hsl hk h1 h2 h3 h4 h5 h6 h7 h8; go_wp2; exact CONT.out _ _ _ _ _ _ _ _ _ _ _ _ _ _ _ _ _ _ _ _ _ _ _ _ _ _ _ _ _ _ _ _ _ _ _ _ _ _ _ _ _ _ _ _ _ _ _ _ _ _ _ _ _ _ _ _ _ _ _ _ _ _ _ _ _ _ _ _ _ _ _ _ _ _ _ _ _ _ _ _ _ _ _ _ _ _ _ _ _ _ _ _ _ _ _ _ _ _ _ _ _ _ _ _ _ _ _ _ _ (false) _ HKN.out HSL.out HE.out
 intro u39 u40 u41 u42 u43 u44 u45 u46 u47 u48 u49 u50 u51 u52 u53 u54 u55 u56 u57 u58 u59 u60 u61 u62 u63 u64 u65 u66 u67 u68 u69 u70 u71 u72 u73 u74 u75 u76 u77 u78 u79 u80 u81 u82 u83 u84 u85 u86 u87 u88 u89 u90 u91 u92 u93 u94 u95 u96 u97 u98 u99 u100 u101 u102 u103 u104 u105 u106 u107 u108 u109 u110 u111 u112 u113 u114 u115 u116 u117 u118 u119 u120 u121 u122 u123 u124 u125 u126 u127 u128 u129 u130 u131 u132 u133 u134 u135 u136 u137 u138 u139 u140 u141 u142 u143 u144 u145 u146 vN vO w4 hk34 hsl hok; have hnl := namF_len k; obtain ⟨nm, hnm⟩ : ∃ z, namedF k = z := ⟨_, rfl⟩
 have HRF : Hid (rightF ⟨k, n, s, r, u, p, q, o, d, a, t, hh, c, x⟩ = (restF nm 0 (FX.nums ⟨k, n, s, r, u, p, q, o, d, a, t, hh, c, x⟩) && (vO && decide (k = 1 ∨ x = 0)))) := hD (by
  rw [← hok]; exact rightF_as ⟨k, n, s, r, u, p, q, o, d, a, t, hh, c, x⟩ nm hnm)
 rw [hnm] at hsl hnl; have HNU := hD (fun w1 => refNumbers_any ⟨k, n, s, r, u, p, q, o, d, a, t, hh, c, x⟩ w1); have hn13 : (FX.nums ⟨k, n, s, r, u, p, q, o, d, a, t, hh, c, x⟩).length = 13 := rfl; obtain ⟨nl, hnn⟩ : ∃ z, FX.nums ⟨k, n, s, r, u, p, q, o, d, a, t, hh, c, x⟩ = z := ⟨_, rfl⟩
 rw [hnn] at HNU HRF hn13; dsimp only [FX.cells] at HNU; obtain ⟨aN, cN, rfl⟩ := hsl.form; obtain ⟨nn, hnmn⟩ : ∃ z, nm.length = z := ⟨_, rfl⟩
 rw [hnmn] at hsl hnl ⊢; obtain ⟨HNM, HNL, HLE, HSN⟩ := hD4 hnmn hn13 hnl hsl; have R4 := hD (rZ hk34 R3.out); have K4 := hD (kT K3.out hk34); clear b0 b1 b2 b3 b4 b5 b6 b7 b8 b9 b10 b11 b12 b13 hk34 hsl hok hnm hnl hn13 hnn hnmn hs3 HA HVA HvR HvP HvQ; obtain ⟨b0, b1, b2, b3, b4, b5, b6, b7, b8, b9, b10, b11, b12, b13⟩ := cZ R4.out; refine HKh.out _ _ ?_
 clear HKh; go_wp2_with (go_at_call 102; (with_reducible refine (HNU.out _).mono ?_); rintro e w5 ⟨g, rfl, ho, hk5⟩; obtain ⟨HO, K5⟩ := hD2 ho hk5; clear ho hk5)
 have HNX := hD (own_sli HO.out); clear HO HNU b0 b1 b2 b3 b4 b5 b6 b7 b8 b9 b10 b11 b12 b13; go_loopw [150] (fun i wr => ∃ j : Nat, j ≤ 13 ∧ i = .int .i64 j ∧ Kp w5 wr ∧ restF nm 0 nl = restF nm j (nl.drop j)) (fun i _ => 13 - (intOf i).toNat)
 case atStart => exact ⟨0, Nat.zero_le _, rfl, Kp.refl _, rfl⟩
 case round =>
  obtain ⟨j, hj, rfl, hk, hre⟩ := hrel; obtain ⟨jj, hjj⟩ : ∃ jj : Int, (j : Int) = jj := ⟨_, rfl⟩
  rw [hjj]; have K := hD hk; have hnl := HNL.out
  by_cases hlt : j < 13
  ·have hjl : j < nl.length := by omega
   obtain ⟨b, off, hbo, cy⟩ := (HNX.out.kp hk).at j hjl; injection hbo with hbo
   injection hbo with h7 h8 _
   subst h7 h8; rw [Nat.zero_add] at cy; have hg0 : nl.getD j 0 = nl[j] := by simp [List.getD, hjl]
   rw [hg0] at cy; have hdr : nl.drop j = nl[j] :: nl.drop (j + 1) := List.drop_eq_getElem_cons hjl; rw [hdr, rest_cons] at hre; obtain ⟨y, hy⟩ : ∃ y, nl[j] = y := ⟨_, rfl⟩
   rw [hy] at cy hre; have ej : jj.toNat = j := by omega
   rw [← ej] at cy; have j0 : 0 ≤ jj := by omega
   have hltj : jj < 13 := by omega
   have HJ := hD hjj; have hle := HLE.out; have HIN := hD (fun w1 (h : Kp wr w1) => in_any aN cN nn nm HNM.out (by omega) jj w1 (HSN.out.kp (kT K5.out (kT hk h)))); rw [hjj] at hre; have hgo : (jj = 0 ∨ y = 0 ∨ jj ∈ nm) → restF nm 0 nl = restF nm ((j : Int) + 1) (nl.drop (j + 1)) := fun q => by rw [hre, dT q, Bool.true_and, hjj]
   by_cases q0 : jj = 0
   ·have HGO := hD (hgo (.inl q0)); have g1 : decide (0 < jj) = false := dF (by omega); have g2 : ¬ jj > 0 := by omega
    clear hgo hre hdr hg0 hy hjl hnl hlt ej hjj hk q0 hle; go_wp2; have hjj := HJ.out; go_roundw
    case rel => exact ⟨j + 1, by omega, by congr 1; omega, K.out, by rw [HGO.out]; congr 1⟩
    case measure => simp [intOf]; omega
   ·have g1 : decide (0 < jj) = true := dT (by omega); have g2 : jj > 0 := by omega
    by_cases q1 : y = 0
    ·have HGO := hD (hgo (.inr (.inl q1))); subst q1; clear hgo hre hdr hg0 hy hjl hnl hlt ej hjj hk q0 hle; go_wp2; have hjj := HJ.out; go_roundw
     case rel => exact ⟨j + 1, by omega, by congr 1; omega, K.out, by rw [HGO.out]; congr 1⟩
     case measure => simp [intOf]; omega
    ·have g3 : (y != 0) = true := by simpa using q1
     by_cases q2 : jj ∈ nm
     ·have HGO := hD (hgo (.inr (.inr q2))); rw [dT q2] at HIN; clear hgo hre hdr hg0 hy hjl hnl hlt ej hjj q1 q2 q0 hle; go_wp2_with (go_at_call 153; (with_reducible refine (HIN.out _ (Kp.refl _)).mono ?_); rintro e w6 ⟨rfl, hk6⟩; have K6 := hD (kT K.out hk6); clear hk6)
      have hjj := HJ.out; go_roundw
      case rel => exact ⟨j + 1, by omega, by congr 1; omega, K6.out, by rw [HGO.out]; congr 1⟩
      case measure => simp [intOf]; omega
     ·have HFA := hD (show rightF ⟨k, n, s, r, u, p, q, o, d, a, t, hh, c, x⟩ = false by
       rw [HRF.out, hre, dF (by rintro (h | h | h); exact q0 h; exact q1 h; exact q2 h)]; rfl)
      rw [dF q2] at HIN; clear hgo hre hdr hg0 hy hjl hnl hlt ej hjj q1 q2 q0 hle; go_wp2_with (go_at_call 153; (with_reducible refine (HIN.out _ (Kp.refl _)).mono ?_); rintro e w6 ⟨rfl, hk6⟩; have K6 := hD (kT K.out hk6); clear hk6)
      go_ret; exact ⟨by rw [HFA.out]; rfl, kT K4.out (kT K5.out K6.out)⟩
  ·obtain rfl : j = 13 := by omega
   rw [List.drop_of_length_le (by omega)] at hre; have hrf := HRF.out; rw [hre, show restF nm ((13 : Nat) : Int) [] = true from rfl, Bool.true_and] at hrf; have HR2 := hD hrf; obtain ⟨m0, m1, m2, m3, m4, m5, m6, m7, m8, m9, m10, m11, m12, m13⟩ := cZ (rZ (kT K5.out hk) R4.out); have hex : ¬ jj < 13 := by omega
   have e1 := raw_any; clear hre hrf hk hnl hlt hjj
   cases vO with
   | false =>
    go_wp2; go_ret; exact ⟨by rw [HR2.out]; rfl, kT K4.out (kT K5.out K.out)⟩
   | true =>
    by_cases hk1 : k = 1
    ·have z1 : (k == 1) = true := by simpa using hk1
     have HD := hD (show decide (k = 1 ∨ x = 0) = true from dT (.inl hk1)); clear hk1; go_wp2; go_ret; exact ⟨by rw [HR2.out, HD.out]; rfl, kT K4.out (kT K5.out K.out)⟩
    ·have z1 : (k == 1) = false := by simpa using hk1
     have HD := hD (show decide (k = 1 ∨ x = 0) = ((x : Int) == 0) by rw [Bool.eq_iff_iff]; simp [hk1]); clear hk1; go_wp2_with (go_at_call 104; (with_reducible refine (e1 _ _).mono ?_); rintro e w' ⟨rfl, rfl⟩)
     go_ret; exact ⟨by rw [HR2.out, HD.out]; rfl, kT K4.out (kT K5.out K.out)⟩
end Go.Proofs.YtlmlmhmhgdjhnaaGreatDoor
