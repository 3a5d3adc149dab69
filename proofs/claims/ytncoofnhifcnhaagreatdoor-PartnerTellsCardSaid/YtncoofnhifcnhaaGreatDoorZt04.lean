/- Parts of this proof (own work). -/
import Derived.Test.YtncoofnhifcnhaaGreatDoorZt02
import Derived.WalkLawsBesides
import Derived.Laws.BitsAllLaws
import Derived.Deep.QuietTactic
import Derived.Recover
import Derived.Laws.Pointers
import Derived.StillTailTactics
import Derived.Laws.Cover1
set_option maxRecDepth 100000
set_option maxHeartbeats 40000000
namespace Go.Proofs.YtncoofnhifcnhaaGreatDoor
open Go.RowKit
theorem ext_bits (b : Nat) (w : World) : (callFunc 108 #[.float .f64 b]).run Tryz.prog w = .ok (.value (.int .u64 b)) w := by
 rw [run_callFunc_extern (e := Extern.MathFloatBits.float64bits) Tryz.func108 (by kernel_rfl) (by kernel_rfl) (by kernel_rfl) (by kernel_rfl)]
 rfl
theorem and62 {b : Nat} (hb : b < 18446744073709551616) : bits .and .u64 (b : Int) 9223372036854775807 = ((b % 9223372036854775808 : Nat) : Int) := by
 rw [show (9223372036854775807 : Int) = ((9223372036854775807 : Nat) : Int) from rfl, u64_and_nat b _ hb (by omega), show (9223372036854775807 : Nat) = 2 ^ 63 - 1 from rfl, Nat.and_two_pow_sub_one_eq_mod]
theorem isNaN_any (b : Nat) (w : World) (hb : b < 18446744073709551616) :
  Calls Tryz.prog 170 #[.float .f64 b] w fun e w' => e = .returned (.bool (Fl.isNan b)) ∧ w = w' := by
 go_enter Tryz.func170, Tryz.ntmps170; go_wp2; go_ret; exact ⟨by rw [← Fl.test_self hb]; rfl, rfl⟩
theorem isNaN_t (b : Nat) (w : World) (hb : b < 18446744073709551616) (h : Fl.isNan b = true) :
  Calls Tryz.prog 170 #[.float .f64 b] w fun e w' => e = .returned (.bool true) ∧ w = w' := by
 rw [← h]; exact isNaN_any b w hb
theorem isNaN_f (b : Nat) (w : World) (hb : b < 18446744073709551616) (h : Fl.isNan b = false) :
  Calls Tryz.prog 170 #[.float .f64 b] w fun e w' => e = .returned (.bool false) ∧ w = w' := by
 rw [← h]; exact isNaN_any b w hb
theorem u64_ret {a b : Int} (h : a = b) : Ending.returned (.int .u64 a) = .returned (.int .u64 b) := by rw [h]
theorem bool_ret {a b : Bool} (h : a = b) : Ending.returned (.bool a) = .returned (.bool b) := by rw [h]
theorem raw_any (b : Nat) (w : World) :
  Calls Tryz.prog 102 #[.float .f64 b] w fun e w' => e = .returned (.int .u64 b) ∧ w = w' := by
 have e1 := ext_bits; go_enter Tryz.func102, Tryz.ntmps102; go_wp2; go_ret; exact ⟨rfl, rfl⟩
theorem refNaN_any (b : Nat) (w : World) (hb : b < 18446744073709551616) :
  Calls Tryz.prog 121 #[.float .f64 b] w fun e w' => e = .returned (.bool (Fl.isNan b)) ∧ w = w' := by
 have e1 := hD (and62 hb); go_enter Tryz.func121, Tryz.ntmps121; go_wp2_with (go_at_call 102; refine (raw_any _ _).mono ?_; rintro e w' ⟨rfl, rfl⟩)
 go_ret; exact ⟨bool_ret (by rw [e1.out]; unfold Fl.isNan; rw [Bool.eq_iff_iff]; simp; omega), rfl⟩
theorem refNaN_t (b : Nat) (w : World) (hb : b < 18446744073709551616) (h : Fl.isNan b = true) :
  Calls Tryz.prog 121 #[.float .f64 b] w fun e w' => e = .returned (.bool true) ∧ w = w' := by
 rw [← h]; exact refNaN_any b w hb
theorem refNaN_f (b : Nat) (w : World) (hb : b < 18446744073709551616) (h : Fl.isNan b = false) :
  Calls Tryz.prog 121 #[.float .f64 b] w fun e w' => e = .returned (.bool false) ∧ w = w' := by
 rw [← h]; exact refNaN_any b w hb
theorem ext_fromI (n : Int) (w : World) : (callFunc 141 #[.int .u64 n]).run Tryz.prog w = .ok (.value (.float .f64 n.toNat)) w := by
 rw [run_callFunc_extern (e := Extern.MathFloatBits.float64frombits) Tryz.func141 (by kernel_rfl) (by kernel_rfl) (by kernel_rfl) (by kernel_rfl)]
 rfl
theorem f64_ret {a b : Nat} (h : a = b) : Ending.returned (.float .f64 a) = .returned (.float .f64 b) := by rw [h]
theorem eq0 {b : Nat} (hb : b < 18446744073709551616) : (FloatKind.f64.format.order b 0 == some .eq) = (decide (b = 0) || decide (b = 9223372036854775808)) := by
 rw [← Fl.isEq0 hb]; exact Fl.test_eq hb (by omega)
theorem ge0 {b : Nat} (hb : b < 18446744073709551616) : (FloatKind.f64.format.order b 0 == some .gt || FloatKind.f64.format.order b 0 == some .eq) = Fl.dl b := by
 rw [← Fl.isGe0 hb]; have e1 := Fl.test_gt hb (show 0 < 18446744073709551616 by omega); have e2 := Fl.test_eq hb (show 0 < 18446744073709551616 by omega); rw [← e1, ← e2]; rfl
theorem plain_any (b : Nat) (w : World) (hb : b < 18446744073709551616) :
  Calls Tryz.prog 139 #[.float .f64 b] w fun e w' => e = .returned (.float .f64 (Fl.plain b)) ∧ w = w' := by
 have e1 := ext_fromI
 cases hn : Fl.isNan b
 ·cases ht : (decide (b = 0) || decide (b = 9223372036854775808))
  ·have t1 : (FloatKind.f64.format.order b 0 == some .eq) = false := by rw [eq0 hb]; exact ht
   obtain ⟨HT, HB⟩ := hD2 ht hb; clear ht hb; go_enter Tryz.func139, Tryz.ntmps139; go_wp2_with (go_at_call 170; refine (isNaN_f _ _ HB.out hn).mono ?_; rintro e w' ⟨rfl, rfl⟩)
   go_ret; exact ⟨f64_ret (by have := HT.out; simp at this; unfold Fl.plain; rw [hn, if_neg (by simp), if_neg (by omega)]), rfl⟩
  ·have t1 : (FloatKind.f64.format.order b 0 == some .eq) = true := by rw [eq0 hb]; exact ht
   obtain ⟨HT, HB⟩ := hD2 ht hb; clear ht hb; go_enter Tryz.func139, Tryz.ntmps139; go_wp2_with (go_at_call 170; refine (isNaN_f _ _ HB.out hn).mono ?_; rintro e w' ⟨rfl, rfl⟩)
   go_ret; exact ⟨f64_ret (by have := HT.out; simp at this; unfold Fl.plain; rw [hn, if_neg (by simp)]; split <;> omega), rfl⟩
 ·go_enter Tryz.func139, Tryz.ntmps139; go_wp2_with (go_at_call 170; refine (isNaN_t _ _ hb hn).mono ?_; rintro e w' ⟨rfl, rfl⟩)
  go_ret; exact ⟨f64_ret (by unfold Fl.plain; rw [if_pos hn]), rfl⟩
theorem isDelay_any (b : Nat) (w : World) (hb : b < 18446744073709551616) :
  Calls Tryz.prog 138 #[.float .f64 b] w fun e w' => e = .returned (.bool (Fl.dl b)) ∧ w = w' := by
 go_enter Tryz.func138, Tryz.ntmps138; go_wp2; go_ret; exact ⟨bool_ret (ge0 hb), rfl⟩
theorem isDelay_t (b : Nat) (w : World) (hb : b < 18446744073709551616) (h : Fl.dl b = true) :
  Calls Tryz.prog 138 #[.float .f64 b] w fun e w' => e = .returned (.bool true) ∧ w = w' := by
 rw [← h]; exact isDelay_any b w hb
theorem isDelay_f (b : Nat) (w : World) (hb : b < 18446744073709551616) (h : Fl.dl b = false) :
  Calls Tryz.prog 138 #[.float .f64 b] w fun e w' => e = .returned (.bool false) ∧ w = w' := by
 rw [← h]; exact isDelay_any b w hb
theorem refBits_any (b : Nat) (w : World) (hb : b < 18446744073709551616) :
  Calls Tryz.prog 83 #[.float .f64 b] w fun e w' => e = .returned (.int .u64 (Fl.plain b)) ∧ w = w' := by
 cases hn : Fl.isNan b
 ·obtain ⟨n, hbn⟩ : ∃ n : Int, (b : Int) = n := ⟨_, rfl⟩
  obtain ⟨HB, HN⟩ := hD2 hb hbn; have R : ∀ w, Calls Tryz.prog 102 #[.float .f64 b] w fun e w' => e = .returned (.int .u64 n) ∧ w = w' := by
   intro w; rw [← hbn]; exact raw_any b w
  cases ht : (n == 9223372036854775808)
  ·clear hb hbn; go_enter Tryz.func83, Tryz.ntmps83; go_wp2_with (first | (go_at_call 121; (with_reducible refine (refNaN_f _ _ HB.out hn).mono ?_); rintro e w' ⟨rfl, rfl⟩) | (go_at_call 102; (with_reducible refine (R _).mono ?_); rintro e w' ⟨rfl, rfl⟩))
   go_ret; exact ⟨u64_ret (by (have := HN.out; have hz : n ≠ 9223372036854775808 := by simpa using ht); unfold Fl.plain; rw [hn, if_neg (by simp), if_neg (by omega)]; omega), rfl⟩
  ·clear hb hbn; go_enter Tryz.func83, Tryz.ntmps83; go_wp2_with (first | (go_at_call 121; (with_reducible refine (refNaN_f _ _ HB.out hn).mono ?_); rintro e w' ⟨rfl, rfl⟩) | (go_at_call 102; (with_reducible refine (R _).mono ?_); rintro e w' ⟨rfl, rfl⟩))
   go_ret; exact ⟨u64_ret (by (have := HN.out; have hz : n = 9223372036854775808 := by simpa using ht); unfold Fl.plain; rw [hn, if_neg (by simp), if_pos (by omega)]; rfl), rfl⟩
 ·go_enter Tryz.func83, Tryz.ntmps83; go_wp2_with (go_at_call 121; (with_reducible refine (refNaN_t _ _ hb hn).mono ?_); rintro e w' ⟨rfl, rfl⟩)
  go_ret; exact ⟨u64_ret (by unfold Fl.plain; rw [if_pos hn]; rfl), rfl⟩
theorem refDelay_any (b : Nat) (w : World) (hb : b < 18446744073709551616) :
  Calls Tryz.prog 101 #[.float .f64 b] w fun e w' => e = .returned (.bool (Fl.dl b)) ∧ w = w' := by
 cases hn : Fl.isNan b
 ·obtain ⟨n, hbn⟩ : ∃ n : Int, (b : Int) = n := ⟨_, rfl⟩
  obtain ⟨HB, HN⟩ := hD2 hb hbn; have R : ∀ w, Calls Tryz.prog 102 #[.float .f64 b] w fun e w' => e = .returned (.int .u64 n) ∧ w = w' := by
   intro w; rw [← hbn]; exact raw_any b w
  have D : Fl.dl b = decide (n ≤ 9223372036854775808) := by
   unfold Fl.dl; rw [hn, Bool.eq_iff_iff]; simp; omega
  rw [D]
  by_cases hs : n < 9223372036854775808
  ·clear hb hbn; go_enter Tryz.func101, Tryz.ntmps101; go_wp2_with (first | (go_at_call 121; (with_reducible refine (refNaN_f _ _ HB.out hn).mono ?_); rintro e w' ⟨rfl, rfl⟩) | (go_at_call 102; (with_reducible refine (R _).mono ?_); rintro e w' ⟨rfl, rfl⟩))
   go_ret; exact ⟨bool_ret (by simp; omega), rfl⟩
  ·cases ht : (n == 9223372036854775808)
   ·clear hb hbn; go_enter Tryz.func101, Tryz.ntmps101; go_wp2_with (first | (go_at_call 121; (with_reducible refine (refNaN_f _ _ HB.out hn).mono ?_); rintro e w' ⟨rfl, rfl⟩) | (go_at_call 102; (with_reducible refine (R _).mono ?_); rintro e w' ⟨rfl, rfl⟩))
    go_ret; exact ⟨bool_ret (by (have hz : n ≠ 9223372036854775808 := by simpa using ht); rw [Bool.eq_iff_iff]; simp; omega), rfl⟩
   ·clear hb hbn; go_enter Tryz.func101, Tryz.ntmps101; go_wp2_with (first | (go_at_call 121; (with_reducible refine (refNaN_f _ _ HB.out hn).mono ?_); rintro e w' ⟨rfl, rfl⟩) | (go_at_call 102; (with_reducible refine (R _).mono ?_); rintro e w' ⟨rfl, rfl⟩))
    go_ret; exact ⟨bool_ret (by (have hz : n = 9223372036854775808 := by simpa using ht); rw [Bool.eq_iff_iff]; simp; omega), rfl⟩
 ·have D : Fl.dl b = false := by unfold Fl.dl; rw [hn]; rfl
  rw [D]; go_enter Tryz.func101, Tryz.ntmps101; go_wp2_with (go_at_call 121; (with_reducible refine (refNaN_t _ _ hb hn).mono ?_); rintro e w' ⟨rfl, rfl⟩)
  go_ret; exact ⟨rfl, rfl⟩
theorem delay_ok (b : Nat) (w : World) (h : Fl.dl b = true) :
  Calls Tryz.prog 99 #[.float .f64 b] w fun e w' => e = .returned (.tuple #[.float .f64 (Fl.plain b), .nilIface]) ∧ w = w' := by
 have H := hD h; clear h; go_enter Tryz.func99, Tryz.ntmps99; go_wp2_with (first | (go_at_call 138; (with_reducible refine (isDelay_t b _ (Fl.dl_lt H.out) H.out).mono ?_); rintro e w' ⟨rfl, rfl⟩) | (go_at_call 139; (with_reducible refine (plain_any b _ (Fl.dl_lt H.out)).mono ?_); rintro e w' ⟨rfl, rfl⟩))
 go_ret2
 exact ⟨rfl, rfl⟩
theorem delay_err (b : Nat) (v : Value) (w : World) (hb : b < 18446744073709551616) (h : Fl.dl b = false) (hc : w.cell? ⟨5, 0, none⟩ = some v) :
  Calls Tryz.prog 99 #[.float .f64 b] w fun e w' => e = .returned (.tuple #[.float .f64 0, v]) ∧ Kp w w' := by
 have H := hD h; clear h; go_enter Tryz.func99, Tryz.ntmps99; go_wp2_with (first | (go_at_call 138; (with_reducible refine (isDelay_f b _ hb H.out).mono ?_); rintro e w' ⟨rfl, rfl⟩))
 go_region
 all_goals go_wp2
 all_goals go_ret2
 all_goals exact ⟨rfl, (Kp.refl _).drew⟩
open Go.RowKit Go.ChangeShapes Go.WideShapes
theorem cells5 {b : Nat} {t : TypeId} {w : World} {x0 x1 x2 x3 x4 : Value} (h : w.heap[b]? = some (.cells #[x0, x1, x2, x3, x4] t (0, 0))) : w.cell? ⟨b, 0, none⟩ = some x0 ∧ w.cell? ⟨b, 1, none⟩ = some x1 ∧ w.cell? ⟨b, 2, none⟩ = some x2 ∧ w.cell? ⟨b, 3, none⟩ = some x3 ∧ w.cell? ⟨b, 4, none⟩ = some x4 := by
 refine ⟨?_, ?_, ?_, ?_, ?_⟩ <;> (unfold World.cell?; dsimp only; rw [h]; rfl)
theorem right_parts9 (c : CX) : rightX c = (rightA c.n c.s && (((c.o == 1) || (c.o == 2)) && (decide (0 ≤ c.d) && (decide (c.d ≤ 3) && (Fl.dl c.x && ((c.x : Int) == ((Fl.plain c.x : Nat) : Int))))))) := by
 unfold rightX outX tmX; have e1 : decide (c.o = 1 ∨ c.o = 2) = ((c.o == 1) || (c.o == 2)) := by
  rw [Bool.eq_iff_iff]; simp
 have e2 : decide (0 ≤ c.d ∧ c.d ≤ 3) = (decide (0 ≤ c.d) && decide (c.d ≤ 3)) := by
  rw [Bool.eq_iff_iff]; simp
 have e3 : decide (Fl.plain c.x = c.x) = ((c.x : Int) == ((Fl.plain c.x : Nat) : Int)) := by
  rw [Bool.eq_iff_iff]; simp; omega
 rw [e1, e2, e3, Bool.and_assoc]
theorem refRight9_any (c : CX) (hc : c.wf) (w : World) :
  Calls Tryz.prog 62 #[.agg c.cells] w fun e w' => e = .returned (.bool (rightX c)) ∧ Kp w w' := by
 rw [right_parts9]; obtain ⟨n, s, o, d, x⟩ := c
 replace hc : x < 18446744073709551616 := hc
 dsimp only [CX.cells]; have HA := fun w1 => refRight_any n s w1
 have HDL := fun w1 => refDelay_any x w1 hc
 have HRW := fun w1 => raw_any x w1
 have HBI := fun w1 => refBits_any x w1 hc
 obtain ⟨x0, hx0⟩ : ∃ b, rightA n s = b := ⟨_, rfl⟩
 obtain ⟨o1, ho1⟩ : ∃ b, (o == 1) = b := ⟨_, rfl⟩
 obtain ⟨o2, ho2⟩ : ∃ b, (o == 2) = b := ⟨_, rfl⟩
 obtain ⟨d1, hd1⟩ : ∃ b, decide (0 ≤ d) = b := ⟨_, rfl⟩
 obtain ⟨d2, hd2⟩ : ∃ b, decide (d ≤ 3) = b := ⟨_, rfl⟩
 obtain ⟨dx, hdx⟩ : ∃ b, Fl.dl x = b := ⟨_, rfl⟩
 obtain ⟨xi, hxi⟩ : ∃ y : Int, (x : Int) = y := ⟨_, rfl⟩
 obtain ⟨pi, hpi⟩ : ∃ y : Int, ((Fl.plain x : Nat) : Int) = y := ⟨_, rfl⟩
 rw [hx0] at HA ⊢; rw [hdx] at HDL ⊢; rw [hxi] at HRW; rw [hpi] at HBI; rw [ho1, ho2, hd1, hd2, hxi, hpi]; obtain ⟨pe, hpe⟩ : ∃ b, (xi == pi) = b := ⟨_, rfl⟩
 rw [hpe]; obtain ⟨HA, HDL, HRW, HBI⟩ := hD4 HA HDL HRW HBI; have kb := kA w (.cells #[n, s, o, d, x] 60); have hr := (mH w (.cells #[n, s, o, d, x] 60))
 clear hx0 hdx hxi hpi hc; go_enter Tryz.func62, Tryz.ntmps62; go_wp2; obtain ⟨w0, hw0⟩ : ∃ y, w.alloc (.cells #[n, s, o, d, x] 60) = y := ⟨_, rfl⟩
 obtain ⟨p0, hp0⟩ : ∃ y, w.heap.size = y := ⟨_, rfl⟩
 rw [hw0] at kb hr ⊢; rw [hp0] at hr ⊢; obtain ⟨b0, b1, b2, b3, b4⟩ := cells5 (hr); have K0 := hD kb; clear hr hw0 kb hp0; refine rgW (fun w' => Kp w0 w') ?_ fun hH => ?_
 ·exact (Kp.refl w0).drew
 refine tkP 0 ?_
 go_simp; refine tkP 1 ?_ (y := by intro w hZ; obtain ⟨qb0, qb1, qb2, qb3, qb4⟩ := kZ5 hZ b0 b1 b2 b3 b4; go_simp; try rfl)
 go_simp; refine rdW 2 fun K hK => ?_
 go_simp; go_wp2_with (go_at_call 100; (with_reducible refine (HA.out _).mono ?_); rintro e w' ⟨rfl, hk4⟩; have K4 := hD (kT hH hk4); clear hk4)
 refine hK.out _ _ (K4.out) fun hH => ?_
 clear hK K; refine tkP 3 ?_
 go_simp
 cases x0 with
 | false =>
  refine skW 4 ?_
  go_simp; refine skW 5 ?_
  go_simp; refine skW 6 ?_
  go_simp; refine skW 7 ?_
  go_simp; refine skW 8 ?_
  go_simp; refine skW 9 ?_
  go_simp; refine skW 10 ?_
  go_simp; refine skW 11 ?_
  go_simp; refine tkP 12 ?_
  go_simp; refine tkP 13 ?_
  go_simp; refine skW 14 ?_
  go_simp; refine skW 15 ?_
  go_simp; refine skW 16 ?_
  go_simp; refine tkP 17 ?_
  go_simp; refine tkP 18 ?_
  go_simp; refine skW 19 ?_
  go_simp; refine skW 20 ?_
  go_simp; refine skW 21 ?_
  go_simp; refine tkP 22 ?_
  go_simp; refine tkP 23 ?_
  go_simp; refine skW 24 ?_
  go_simp; refine skW 25 ?_
  go_simp; refine skW 26 ?_
  go_simp; refine tkP 27 ?_
  go_simp; refine tkP 28 ?_
  go_simp; refine skW 29 ?_
  go_simp; refine skW 30 ?_
  go_simp; refine skW 31 ?_
  go_simp; refine skW 32 ?_
  go_simp; refine skW 33 ?_
  go_simp; refine skW 34 ?_
  go_simp; refine skW 35 ?_
  go_simp; refine tkP 36 ?_
  go_simp; refine tkP 37 ?_
  go_simp; refine dnW ?_ _
  go_wp2; go_ret; exact ⟨by first | rfl | simp, kT K0.out hH⟩
 | true =>
  refine tkP 4 ?_
  go_simp; refine tkP 5 ?_ (y := by intro w hZ; obtain ⟨qb0, qb1, qb2, qb3, qb4⟩ := kZ5 hZ b0 b1 b2 b3 b4; go_simp; try rfl)
  go_simp; refine tkP 6 ?_
  go_simp; refine tkP 7 ?_
  go_simp
  cases o1 with
  | false =>
   refine tkP 8 ?_
   go_simp; refine tkP 9 ?_ (y := by intro w hZ; obtain ⟨qb0, qb1, qb2, qb3, qb4⟩ := kZ5 hZ b0 b1 b2 b3 b4; go_simp; try rfl)
   go_simp; refine tkP 10 ?_
   go_simp; refine tkP 11 ?_
   go_simp; refine tkP 12 ?_
   go_simp; refine tkP 13 ?_
   go_simp
   cases o2 with
   | false =>
    refine skW 14 ?_
    go_simp; refine skW 15 ?_
    go_simp; refine skW 16 ?_
    go_simp; refine tkP 17 ?_
    go_simp; refine tkP 18 ?_
    go_simp; refine skW 19 ?_
    go_simp; refine skW 20 ?_
    go_simp; refine skW 21 ?_
    go_simp; refine tkP 22 ?_
    go_simp; refine tkP 23 ?_
    go_simp; refine skW 24 ?_
    go_simp; refine skW 25 ?_
    go_simp; refine skW 26 ?_
    go_simp; refine tkP 27 ?_
    go_simp; refine tkP 28 ?_
    go_simp; refine skW 29 ?_
    go_simp; refine skW 30 ?_
    go_simp; refine skW 31 ?_
    go_simp; refine skW 32 ?_
    go_simp; refine skW 33 ?_
    go_simp; refine skW 34 ?_
    go_simp; refine skW 35 ?_
    go_simp; refine tkP 36 ?_
    go_simp; refine tkP 37 ?_
    go_simp; refine dnW ?_ _
    go_wp2; go_ret; exact ⟨by first | rfl | simp, kT K0.out hH⟩
   | true =>
    refine tkP 14 ?_
    go_simp; refine tkP 15 ?_ (y := by intro w hZ; obtain ⟨qb0, qb1, qb2, qb3, qb4⟩ := kZ5 hZ b0 b1 b2 b3 b4; go_simp; try rfl)
    go_simp; refine tkP 16 ?_
    go_simp; refine tkP 17 ?_
    go_simp; refine tkP 18 ?_
    go_simp
    cases d1 with
    | false =>
     refine skW 19 ?_
     go_simp; refine skW 20 ?_
     go_simp; refine skW 21 ?_
     go_simp; refine tkP 22 ?_
     go_simp; refine tkP 23 ?_
     go_simp; refine skW 24 ?_
     go_simp; refine skW 25 ?_
     go_simp; refine skW 26 ?_
     go_simp; refine tkP 27 ?_
     go_simp; refine tkP 28 ?_
     go_simp; refine skW 29 ?_
     go_simp; refine skW 30 ?_
     go_simp; refine skW 31 ?_
     go_simp; refine skW 32 ?_
     go_simp; refine skW 33 ?_
     go_simp; refine skW 34 ?_
     go_simp; refine skW 35 ?_
     go_simp; refine tkP 36 ?_
     go_simp; refine tkP 37 ?_
     go_simp; refine dnW ?_ _
     go_wp2; go_ret; exact ⟨by first | rfl | simp, kT K0.out hH⟩
    | true =>
     refine tkP 19 ?_
     go_simp; refine tkP 20 ?_ (y := by intro w hZ; obtain ⟨qb0, qb1, qb2, qb3, qb4⟩ := kZ5 hZ b0 b1 b2 b3 b4; go_simp; try rfl)
     go_simp; refine tkP 21 ?_
     go_simp; refine tkP 22 ?_
     go_simp; refine tkP 23 ?_
     go_simp
     cases d2 with
     | false =>
      refine skW 24 ?_
      go_simp; refine skW 25 ?_
      go_simp; refine skW 26 ?_
      go_simp; refine tkP 27 ?_
      go_simp; refine tkP 28 ?_
      go_simp; refine skW 29 ?_
      go_simp; refine skW 30 ?_
      go_simp; refine skW 31 ?_
      go_simp; refine skW 32 ?_
      go_simp; refine skW 33 ?_
      go_simp; refine skW 34 ?_
      go_simp; refine skW 35 ?_
      go_simp; refine tkP 36 ?_
      go_simp; refine tkP 37 ?_
      go_simp; refine dnW ?_ _
      go_wp2; go_ret; exact ⟨by first | rfl | simp, kT K0.out hH⟩
     | true =>
      refine tkP 24 ?_
      go_simp; refine tkP 25 ?_ (y := by intro w hZ; obtain ⟨qb0, qb1, qb2, qb3, qb4⟩ := kZ5 hZ b0 b1 b2 b3 b4; go_simp; try rfl)
      go_simp; refine rdW 26 fun K hK => ?_
      go_simp; go_wp2_with (go_at_call 101; (with_reducible refine (HDL.out _).mono ?_); rintro e w' ⟨rfl, rfl⟩)
      refine hK.out _ _ (hH) fun hH => ?_
      clear hK K; refine tkP 27 ?_
      go_simp; refine tkP 28 ?_
      go_simp
      cases dx with
      | false =>
       refine skW 29 ?_
       go_simp; refine skW 30 ?_
       go_simp; refine skW 31 ?_
       go_simp; refine skW 32 ?_
       go_simp; refine skW 33 ?_
       go_simp; refine skW 34 ?_
       go_simp; refine skW 35 ?_
       go_simp; refine tkP 36 ?_
       go_simp; refine tkP 37 ?_
       go_simp; refine dnW ?_ _
       go_wp2; go_ret; exact ⟨by first | rfl | simp, kT K0.out hH⟩
      | true =>
       refine tkP 29 ?_
       go_simp; refine tkP 30 ?_ (y := by intro w hZ; obtain ⟨qb0, qb1, qb2, qb3, qb4⟩ := kZ5 hZ b0 b1 b2 b3 b4; go_simp; try rfl)
       go_simp; refine tkP 32 ?_
       go_simp; refine tkP 33 ?_ (y := by intro w hZ; obtain ⟨qb0, qb1, qb2, qb3, qb4⟩ := kZ5 hZ b0 b1 b2 b3 b4; go_simp; try rfl)
       go_simp; refine rdW 31 fun K hK => ?_
       go_simp; go_wp2_with (go_at_call 102; (with_reducible refine (HRW.out _).mono ?_); rintro e w' ⟨rfl, rfl⟩)
       refine hK.out _ _ (hH) fun hH => ?_
       clear hK K; refine rdW 34 fun K hK => ?_
       go_simp; go_wp2_with (go_at_call 83; (with_reducible refine (HBI.out _).mono ?_); rintro e w' ⟨rfl, rfl⟩)
       refine hK.out _ _ (hH) fun hH => ?_
       clear hK K; refine tkP 35 ?_
       go_simp; refine tkP 36 ?_
       go_simp; refine tkP 37 ?_
       go_simp; refine dnW ?_ _
       go_wp2; go_ret; exact ⟨by first | rfl | simp, kT K0.out hH⟩
  | true =>
   refine skW 8 ?_
   go_simp; refine skW 9 ?_
   go_simp; refine skW 10 ?_
   go_simp; refine tkP 11 ?_
   go_simp; refine tkP 12 ?_
   go_simp; refine tkP 13 ?_
   go_simp; refine tkP 14 ?_
   go_simp; refine tkP 15 ?_ (y := by intro w hZ; obtain ⟨qb0, qb1, qb2, qb3, qb4⟩ := kZ5 hZ b0 b1 b2 b3 b4; go_simp; try rfl)
   go_simp; refine tkP 16 ?_
   go_simp; refine tkP 17 ?_
   go_simp; refine tkP 18 ?_
   go_simp
   cases d1 with
   | false =>
    refine skW 19 ?_
    go_simp; refine skW 20 ?_
    go_simp; refine skW 21 ?_
    go_simp; refine tkP 22 ?_
    go_simp; refine tkP 23 ?_
    go_simp; refine skW 24 ?_
    go_simp; refine skW 25 ?_
    go_simp; refine skW 26 ?_
    go_simp; refine tkP 27 ?_
    go_simp; refine tkP 28 ?_
    go_simp; refine skW 29 ?_
    go_simp; refine skW 30 ?_
    go_simp; refine skW 31 ?_
    go_simp; refine skW 32 ?_
    go_simp; refine skW 33 ?_
    go_simp; refine skW 34 ?_
    go_simp; refine skW 35 ?_
    go_simp; refine tkP 36 ?_
    go_simp; refine tkP 37 ?_
    go_simp; refine dnW ?_ _
    go_wp2; go_ret; exact ⟨by first | rfl | simp, kT K0.out hH⟩
   | true =>
    refine tkP 19 ?_
    go_simp; refine tkP 20 ?_ (y := by intro w hZ; obtain ⟨qb0, qb1, qb2, qb3, qb4⟩ := kZ5 hZ b0 b1 b2 b3 b4; go_simp; try rfl)
    go_simp; refine tkP 21 ?_
    go_simp; refine tkP 22 ?_
    go_simp; refine tkP 23 ?_
    go_simp
    cases d2 with
    | false =>
     refine skW 24 ?_
     go_simp; refine skW 25 ?_
     go_simp; refine skW 26 ?_
     go_simp; refine tkP 27 ?_
     go_simp; refine tkP 28 ?_
     go_simp; refine skW 29 ?_
     go_simp; refine skW 30 ?_
     go_simp; refine skW 31 ?_
     go_simp; refine skW 32 ?_
     go_simp; refine skW 33 ?_
     go_simp; refine skW 34 ?_
     go_simp; refine skW 35 ?_
     go_simp; refine tkP 36 ?_
     go_simp; refine tkP 37 ?_
     go_simp; refine dnW ?_ _
     go_wp2; go_ret; exact ⟨by first | rfl | simp, kT K0.out hH⟩
    | true =>
     refine tkP 24 ?_
     go_simp; refine tkP 25 ?_ (y := by intro w hZ; obtain ⟨qb0, qb1, qb2, qb3, qb4⟩ := kZ5 hZ b0 b1 b2 b3 b4; go_simp; try rfl)
     go_simp; refine rdW 26 fun K hK => ?_
     go_simp; go_wp2_with (go_at_call 101; (with_reducible refine (HDL.out _).mono ?_); rintro e w' ⟨rfl, rfl⟩)
     refine hK.out _ _ (hH) fun hH => ?_
     clear hK K; refine tkP 27 ?_
     go_simp; refine tkP 28 ?_
     go_simp
     cases dx with
     | false =>
      refine skW 29 ?_
      go_simp; refine skW 30 ?_
      go_simp; refine skW 31 ?_
      go_simp; refine skW 32 ?_
      go_simp; refine skW 33 ?_
      go_simp; refine skW 34 ?_
      go_simp; refine skW 35 ?_
      go_simp; refine tkP 36 ?_
      go_simp; refine tkP 37 ?_
      go_simp; refine dnW ?_ _
      go_wp2; go_ret; exact ⟨by first | rfl | simp, kT K0.out hH⟩
     | true =>
      refine tkP 29 ?_
      go_simp; refine tkP 30 ?_ (y := by intro w hZ; obtain ⟨qb0, qb1, qb2, qb3, qb4⟩ := kZ5 hZ b0 b1 b2 b3 b4; go_simp; try rfl)
      go_simp; refine tkP 32 ?_
      go_simp; refine tkP 33 ?_ (y := by intro w hZ; obtain ⟨qb0, qb1, qb2, qb3, qb4⟩ := kZ5 hZ b0 b1 b2 b3 b4; go_simp; try rfl)
      go_simp; refine rdW 31 fun K hK => ?_
      go_simp; go_wp2_with (go_at_call 102; (with_reducible refine (HRW.out _).mono ?_); rintro e w' ⟨rfl, rfl⟩)
      refine hK.out _ _ (hH) fun hH => ?_
      clear hK K; refine rdW 34 fun K hK => ?_
      go_simp; go_wp2_with (go_at_call 83; (with_reducible refine (HBI.out _).mono ?_); rintro e w' ⟨rfl, rfl⟩)
      refine hK.out _ _ (hH) fun hH => ?_
      clear hK K; refine tkP 35 ?_
      go_simp; refine tkP 36 ?_
      go_simp; refine tkP 37 ?_
      go_simp; refine dnW ?_ _
      go_wp2; go_ret; exact ⟨by first | rfl | simp, kT K0.out hH⟩
theorem sF (w : World) (a : Addr) (x : Nat) : (store a (.float .f64 x)).run Tryz.prog w = match w.cell? a with
   | some _ => if w.frozen? a then .halt (.unsupported (.unsafePointer "a write to bytes that a string shares")) w else .ok () (w.setCell a (.float .f64 x))
   | none => match w.farStore Tryz.prog a (.float .f64 x) (Mode.plain == .atomic) with
    | .ok (w', _) => .ok () w'
    | .error h => .halt h w := run_store Tryz.prog w a (.float .f64 x) .plain rfl
open Go.RowKit Go.Extern.Stop Go.Stop Go.Extern
theorem isErrorE (v : Value) (w : World) : (Instr.typeAssert (.iface 257 v) 20 48 true).run Tryz.prog w = .ok (.tuple #[.iface 257 v, .bool true]) w := run_typeAssert_hasB Tryz.underlying48 (by kernel_rfl) v _ w
theorem is_door (w : World) :
  CallsD Tryz.prog 185 #[] .returning w fun e u' w' => e = .returned (.tuple #[]) ∧ u' = .returning ∧ w' = w := by
 refine callsD_of_wpS Tryz.func185 rfl fun c₀ cs hu => ?_
 apply wpS_region
 cases c₀
 simp_all [wpOpsS, go_sem, recoverD, Tryz.ntmps185, bodyPostS, results, Tryz.results185]
theorem cis_of {v t : Value} {b : Bool} {w : World} (h : Calls Tryz.prog 47 #[v, t] w fun e w' => e = .returned (.bool b) ∧ w = w') :
  Calls Tryz.prog 169 #[v, t] w fun e w' => e = .returned (.bool b) ∧ w = w' := by
 go_enter_defers Tryz.func169, Tryz.ntmps169
 go_wp2_with (go_at_call 47; (with_reducible refine h.mono ?_); rintro e w' ⟨rfl, rfl⟩)
 refine leaves_cons (f := 185) (args := #[]) (by simp) (by simp [go_sem]) ?_
 refine (is_door _).mono ?_
 rintro e u' w'' ⟨rfl, rfl, rfl⟩
 simp [Leaves, settle, results, Tryz.results169, go_sem]
theorem named_gen (ads : List Addr) (w : World) (E : Errs gs14 ads w) (v r : Value) (K : Nat) (hK : K ≤ 14)
  (H0 : ∀ (j : Nat) (h : j < ads.length), j < K → ∀ w1, Kp w w1 → Calls Tryz.prog 169 #[v, snt ads[j]] w1 fun e w' => e = .returned (.bool false) ∧ w1 = w')
  (H1 : ∀ (h : K < ads.length), ∀ w1, Kp w w1 → Calls Tryz.prog 169 #[v, snt ads[K]] w1 fun e w' => e = .returned (.bool true) ∧ w1 = w')
  (hr : (∃ h : K < ads.length, r = snt ads[K]) ∨ (K = 14 ∧ ∃ h : 12 < ads.length, r = snt ads[12])) :
  Calls Tryz.prog 137 #[v] w fun e w' => e = .returned r ∧ Kp w w' := by
 match ads, E, H0, H1, hr with
 | [a0, a1, a2, a3, a4, a5, a6, a7, a8, a9, a10, a11, a12, a13], E, H0, H1, hr =>
  have c0 : w.cell? ⟨2, 0, none⟩ = some (.iface 257 (.pointer (some a0))) := E.cell 0 (by decide); have c1 : w.cell? ⟨3, 0, none⟩ = some (.iface 257 (.pointer (some a1))) := E.cell 1 (by decide); have c2 : w.cell? ⟨4, 0, none⟩ = some (.iface 257 (.pointer (some a2))) := E.cell 2 (by decide); have c3 : w.cell? ⟨5, 0, none⟩ = some (.iface 257 (.pointer (some a3))) := E.cell 3 (by decide); have c4 : w.cell? ⟨6, 0, none⟩ = some (.iface 257 (.pointer (some a4))) := E.cell 4 (by decide); have c5 : w.cell? ⟨7, 0, none⟩ = some (.iface 257 (.pointer (some a5))) := E.cell 5 (by decide); have c6 : w.cell? ⟨8, 0, none⟩ = some (.iface 257 (.pointer (some a6))) := E.cell 6 (by decide); have c7 : w.cell? ⟨0, 0, none⟩ = some (.iface 257 (.pointer (some a7))) := E.cell 7 (by decide); have c8 : w.cell? ⟨1, 0, none⟩ = some (.iface 257 (.pointer (some a8))) := E.cell 8 (by decide); have c9 : w.cell? ⟨9, 0, none⟩ = some (.iface 257 (.pointer (some a9))) := E.cell 9 (by decide)
  have c10 : w.cell? ⟨10, 0, none⟩ = some (.iface 257 (.pointer (some a10))) := E.cell 10 (by decide); have c11 : w.cell? ⟨11, 0, none⟩ = some (.iface 257 (.pointer (some a11))) := E.cell 11 (by decide); have c12 : w.cell? ⟨12, 0, none⟩ = some (.iface 257 (.pointer (some a12))) := E.cell 12 (by decide); have c13 : w.cell? ⟨13, 0, none⟩ = some (.iface 257 (.pointer (some a13))) := E.cell 13 (by decide); have hnew : Kp w (w.alloc (.cells #[.iface 257 (.pointer (some a0)), .iface 257 (.pointer (some a1)), .iface 257 (.pointer (some a2)), .iface 257 (.pointer (some a3)), .iface 257 (.pointer (some a4)), .iface 257 (.pointer (some a5)), .iface 257 (.pointer (some a6)), .iface 257 (.pointer (some a7)), .iface 257 (.pointer (some a8)), .iface 257 (.pointer (some a9)), .iface 257 (.pointer (some a10)), .iface 257 (.pointer (some a11)), .iface 257 (.pointer (some a12)), .iface 257 (.pointer (some a13))] 48)) := (Below.refl _ _).alloc (Nat.le_refl _) _
  have hlt : 12 < w.heap.size := E.old.1 12 (by decide); have c12' : (w.alloc (.cells #[.iface 257 (.pointer (some a0)), .iface 257 (.pointer (some a1)), .iface 257 (.pointer (some a2)), .iface 257 (.pointer (some a3)), .iface 257 (.pointer (some a4)), .iface 257 (.pointer (some a5)), .iface 257 (.pointer (some a6)), .iface 257 (.pointer (some a7)), .iface 257 (.pointer (some a8)), .iface 257 (.pointer (some a9)), .iface 257 (.pointer (some a10)), .iface 257 (.pointer (some a11)), .iface 257 (.pointer (some a12)), .iface 257 (.pointer (some a13))] 48)).cell? ⟨12, 0, none⟩ = some (.iface 257 (.pointer (some a12))) := by rw [Below.cell hnew hlt]; exact c12
  obtain ⟨HE, HR, HH0, HH1, HN⟩ := hD5 E hr H0 H1 hnew; clear E hr H0 H1 hnew; go_enter Tryz.func137, Tryz.ntmps137; go_wp2; go_loop [23] (fun i => ∃ j : Nat, j ≤ K ∧ i = .int .i64 j) (fun i => 14 - (intOf i).toNat)
  case atStart => exact ⟨0, Nat.zero_le _, rfl⟩
  case round =>
   obtain ⟨j, hj, rfl⟩ := hrel
   by_cases hj14 : j = 14
   ·subst hj14; obtain rfl : K = 14 := by omega
    go_wp2; go_ret; refine ⟨?_, HN.out⟩
    rcases HR.out with ⟨h, _⟩ | ⟨_, h, rfl⟩
    ·exact absurd h (by simp)
    ·rfl
   ·have hj14' : j < 14 := by omega
    obtain ⟨x, hx⟩ : ∃ x, ([a0, a1, a2, a3, a4, a5, a6, a7, a8, a9, a10, a11, a12, a13] : List Addr)[j]'(by simpa using hj14') = x := ⟨_, rfl⟩
    have hel : (w.alloc (.cells #[.iface 257 (.pointer (some a0)), .iface 257 (.pointer (some a1)), .iface 257 (.pointer (some a2)), .iface 257 (.pointer (some a3)), .iface 257 (.pointer (some a4)), .iface 257 (.pointer (some a5)), .iface 257 (.pointer (some a6)), .iface 257 (.pointer (some a7)), .iface 257 (.pointer (some a8)), .iface 257 (.pointer (some a9)), .iface 257 (.pointer (some a10)), .iface 257 (.pointer (some a11)), .iface 257 (.pointer (some a12)), .iface 257 (.pointer (some a13))] 48)).cell? ⟨w.heap.size, j, none⟩ = some (.iface 257 (.pointer (some x))) := by
     rw [← hx]; exact cells_new w [a0, a1, a2, a3, a4, a5, a6, a7, a8, a9, a10, a11, a12, a13] 48 j (by simpa using hj14')
    by_cases hjk : j = K
    ·subst hjk; have h1 := HH1.out (by simpa using hj14') _ HN.out; rw [hx] at h1; have hrx : r = snt x := by
      rcases HR.out with ⟨h, rfl⟩ | ⟨h, _⟩
      ·rw [hx]
      ·exact absurd h (by omega)
     obtain ⟨HX, HC, HRX⟩ := hD3 hx h1 hrx; clear hx h1 hrx; go_wp2_with (go_at_call 169; (with_reducible refine HC.out.mono ?_); rintro e w' ⟨rfl, rfl⟩)
     go_ret; exact ⟨by rw [HRX.out]; rfl, HN.out⟩
    ·have h0 := HH0.out j (by simpa using hj14') (by omega) _ HN.out; rw [hx] at h0; obtain ⟨HX, HC⟩ := hD2 hx h0; clear hx h0; go_wp2_with (go_at_call 169; (with_reducible refine HC.out.mono ?_); rintro e w' ⟨rfl, rfl⟩)
     go_round
     case rel => exact ⟨j + 1, by omega, by go_num⟩
     case measure => simp [intOf]; omega
theorem named_any (ads : List Addr) (w : World) (V : St ads w) (k : Nat) (hk : k < ads.length) :
  Calls Tryz.prog 137 #[snt ads[k]] w fun e w' => e = .returned (snt ads[k]) ∧ Kp w w' := by
 have hl : ads.length = 14 := V.len; refine named_gen ads w V _ _ k (by omega) (fun j hj hjk w1 hw => ?_) (fun _ w1 hw => ?_) (.inl ⟨hk, rfl⟩)
 ·have V1 := V.below hw; obtain ⟨ca, ta, ra⟩ := V1.row _ (List.getElem_mem hk); obtain ⟨cb, tb, rb⟩ := V1.row _ (List.getElem_mem hj); refine cis_of (is_other _ _ ca cb ta tb w1 (fun e => ?_) ra rb)
  exact List.pairwise_iff_getElem.1 V.nodup j k hj hk hjk e.symm
 ·exact cis_of (is_same _ w1)
theorem errorOf_any (ads : List Addr) (w : World) (V : St ads w) (k : Nat) (hk : k < ads.length) :
  Calls Tryz.prog 96 #[snt ads[k]] w fun e w' => e = .returned (snt ads[k]) ∧ Kp w w' := by
 have hn := named_any ads w V k hk; obtain ⟨r, hr⟩ : ∃ r, ads[k] = r := ⟨_, rfl⟩
 rw [hr] at hn ⊢; have HN := hD hn; have ha := isErrorE (.pointer (some r)) w; clear hn hr; go_enter Tryz.func96, Tryz.ntmps96; go_wp2_with (go_at_call 137; (with_reducible refine HN.out.mono ?_); rintro e w' ⟨rfl, hw⟩)
 go_ret; exact ⟨rfl, hw⟩
theorem panic_some {P : Program} (t : TypeId) (v : Value) (w : World) : (Instr.panic (.iface t v)).run P w = .halt (.panic (.iface t v)) w := rfl
theorem idemand_t (v : Value) (w : World) : Calls Tryz.prog 173 #[.bool true, v] w fun e w' => e = .returned (.tuple #[]) ∧ w = w' := by
 go_enter Tryz.func173, Tryz.ntmps173; go_wp2; go_end0
 exact ⟨rfl, rfl⟩
theorem idemand_f (a : Addr) (w : World) : Calls Tryz.prog 173 #[.bool false, snt a] w fun e w' => e = .panicked [{ v := snt a, recovered := false }] ∧ w = w' := by
 have hpn := panic_some (P := Tryz.prog) 257 (.pointer (some a)) w; go_enter Tryz.func173, Tryz.ntmps173; go_wp2; exact ⟨rfl, rfl, rfl⟩
theorem l0 : (strOfNums []).toList = [] := by rw [Lib.toList_data]; rfl
def PlC (v : Value) (ps : List (Int × Int)) (w : World) : Prop :=
 ∃ g cap, v = .slice (some ⟨g, 0, none⟩) ps.length cap ∧ ∀ j, j < ps.length → w.cell? ⟨g, 2 * j, none⟩ = some (.string (strOfNums [(ps.getD j (0, 0)).1])) ∧ w.cell? ⟨g, 2 * j + 1, none⟩ = some (.int .i64 (ps.getD j (0, 0)).2)
theorem PlC.kp {v : Value} {ps : List (Int × Int)} {w w' : World} (h : PlC v ps w) (hk : Kp w w') : PlC v ps w' := by
 obtain ⟨g, cap, h1, h2⟩ := h; exact ⟨g, cap, h1, fun j hj => ⟨kZ hk (h2 j hj).1, kZ hk (h2 j hj).2⟩⟩
def actL : List (Int × Int) := [(97, 4), (46, 1000000)]
theorem two_pl (w : World) (a b c d : Int) : PlC (.slice (some ⟨w.heap.size, 0, none⟩) 2 2) [(a, b), (c, d)] (w.alloc (.cells #[.string (strOfNums [a]), .int .i64 b, .string (strOfNums [c]), .int .i64 d] 227)) := by
 refine ⟨w.heap.size, 2, rfl, fun j hj => ?_⟩
 have hj1 : j < 2 := hj; have hr := (mH w (.cells #[.string (strOfNums [a]), .int .i64 b, .string (strOfNums [c]), .int .i64 d] 227))
 match j, hj1 with
 | 0, _ | 1, _ => constructor <;> (unfold World.cell?; dsimp only; rw [hr]; rfl)
theorem actPl_own (w : World) : Calls Tryz.prog 143 #[] w fun e w' => e = .returned (.slice (some ⟨w.heap.size, 0, none⟩) 2 2) ∧ w' = w.alloc (.cells #[.string (strOfNums [97]), .int .i64 4, .string (strOfNums [46]), .int .i64 1000000] 227) := by
 go_enter Tryz.func143, Tryz.ntmps143; go_wp2; go_ret; exact ⟨rfl, rfl⟩
theorem actPl_any (w : World) : Calls Tryz.prog 143 #[] w fun e w' => ∃ v, e = .returned v ∧ PlC v actL w' ∧ Kp w w' := by
 refine (actPl_own w).mono ?_
 rintro e w' ⟨rfl, rfl⟩; exact ⟨_, rfl, two_pl w 97 4 46 1000000, kA _ _⟩
end Go.Proofs.YtncoofnhifcnhaaGreatDoor
