/- Parts of this proof (own work). -/
import Derived.Test.YtncoofnhifcnhaaGreatDoorZa03
import Derived.Deep.SlicePairs
import Derived.Lib.SlBytesRow
import Derived.WalkLawsBesides
import Derived.Laws.BitsAllLaws
import Derived.Deep.QuietTactic
set_option maxRecDepth 100000
set_option maxHeartbeats 40000000
namespace Go.Proofs.YtncoofnhifcnhaaGreatDoor
open Go.RowKit Go.ChangeShapes Go.WideShapes
theorem cells9 {b : Nat} {t : TypeId} {w : World} {x0 x1 x2 x3 x4 x5 x6 x7 x8 : Value} (h : w.heap[b]? = some (.cells #[x0, x1, x2, x3, x4, x5, x6, x7, x8] t (0, 0))) : w.cell? ⟨b, 0, none⟩ = some x0 ∧ w.cell? ⟨b, 1, none⟩ = some x1 ∧ w.cell? ⟨b, 2, none⟩ = some x2 ∧ w.cell? ⟨b, 3, none⟩ = some x3 ∧ w.cell? ⟨b, 4, none⟩ = some x4 ∧ w.cell? ⟨b, 5, none⟩ = some x5 ∧ w.cell? ⟨b, 6, none⟩ = some x6 ∧ w.cell? ⟨b, 7, none⟩ = some x7 ∧ w.cell? ⟨b, 8, none⟩ = some x8 := by
 refine ⟨?_, ?_, ?_, ?_, ?_, ?_, ?_, ?_, ?_⟩ <;> (unfold World.cell?; dsimp only; rw [h]; rfl)
theorem set9 {b : Nat} {t : TypeId} {w : World} {x0 x1 x2 x3 x4 x5 x6 x7 x8 : Value} (y0 y1 y2 y3 y4 y5 y6 y7 y8 : Value) (h : w.heap[b]? = some (.cells #[x0, x1, x2, x3, x4, x5, x6, x7, x8] t (0, 0))) : (((((((((w.setCell ⟨b, 0, none⟩ y0).setCell ⟨b, 1, none⟩ y1).setCell ⟨b, 2, none⟩ y2).setCell ⟨b, 3, none⟩ y3).setCell ⟨b, 4, none⟩ y4).setCell ⟨b, 5, none⟩ y5).setCell ⟨b, 6, none⟩ y6).setCell ⟨b, 7, none⟩ y7).setCell ⟨b, 8, none⟩ y8).heap[b]? = some (.cells #[y0, y1, y2, y3, y4, y5, y6, y7, y8] t (0, 0)) := by
 have h1 : (w.setCell ⟨b, 0, none⟩ y0).heap[b]? = some (.cells #[y0, x1, x2, x3, x4, x5, x6, x7, x8] t (0, 0)) := (Joins.block_setCell h _).trans rfl; have h2 : ((w.setCell ⟨b, 0, none⟩ y0).setCell ⟨b, 1, none⟩ y1).heap[b]? = some (.cells #[y0, y1, x2, x3, x4, x5, x6, x7, x8] t (0, 0)) := (Joins.block_setCell h1 _).trans rfl; have h3 : (((w.setCell ⟨b, 0, none⟩ y0).setCell ⟨b, 1, none⟩ y1).setCell ⟨b, 2, none⟩ y2).heap[b]? = some (.cells #[y0, y1, y2, x3, x4, x5, x6, x7, x8] t (0, 0)) := (Joins.block_setCell h2 _).trans rfl; have h4 : ((((w.setCell ⟨b, 0, none⟩ y0).setCell ⟨b, 1, none⟩ y1).setCell ⟨b, 2, none⟩ y2).setCell ⟨b, 3, none⟩ y3).heap[b]? = some (.cells #[y0, y1, y2, y3, x4, x5, x6, x7, x8] t (0, 0)) := (Joins.block_setCell h3 _).trans rfl; have h5 : (((((w.setCell ⟨b, 0, none⟩ y0).setCell ⟨b, 1, none⟩ y1).setCell ⟨b, 2, none⟩ y2).setCell ⟨b, 3, none⟩ y3).setCell ⟨b, 4, none⟩ y4).heap[b]? = some (.cells #[y0, y1, y2, y3, y4, x5, x6, x7, x8] t (0, 0)) := (Joins.block_setCell h4 _).trans rfl
 have h6 : ((((((w.setCell ⟨b, 0, none⟩ y0).setCell ⟨b, 1, none⟩ y1).setCell ⟨b, 2, none⟩ y2).setCell ⟨b, 3, none⟩ y3).setCell ⟨b, 4, none⟩ y4).setCell ⟨b, 5, none⟩ y5).heap[b]? = some (.cells #[y0, y1, y2, y3, y4, y5, x6, x7, x8] t (0, 0)) := (Joins.block_setCell h5 _).trans rfl; have h7 : (((((((w.setCell ⟨b, 0, none⟩ y0).setCell ⟨b, 1, none⟩ y1).setCell ⟨b, 2, none⟩ y2).setCell ⟨b, 3, none⟩ y3).setCell ⟨b, 4, none⟩ y4).setCell ⟨b, 5, none⟩ y5).setCell ⟨b, 6, none⟩ y6).heap[b]? = some (.cells #[y0, y1, y2, y3, y4, y5, y6, x7, x8] t (0, 0)) := (Joins.block_setCell h6 _).trans rfl; have h8 : ((((((((w.setCell ⟨b, 0, none⟩ y0).setCell ⟨b, 1, none⟩ y1).setCell ⟨b, 2, none⟩ y2).setCell ⟨b, 3, none⟩ y3).setCell ⟨b, 4, none⟩ y4).setCell ⟨b, 5, none⟩ y5).setCell ⟨b, 6, none⟩ y6).setCell ⟨b, 7, none⟩ y7).heap[b]? = some (.cells #[y0, y1, y2, y3, y4, y5, y6, y7, x8] t (0, 0)) := (Joins.block_setCell h7 _).trans rfl
 have h9 : (((((((((w.setCell ⟨b, 0, none⟩ y0).setCell ⟨b, 1, none⟩ y1).setCell ⟨b, 2, none⟩ y2).setCell ⟨b, 3, none⟩ y3).setCell ⟨b, 4, none⟩ y4).setCell ⟨b, 5, none⟩ y5).setCell ⟨b, 6, none⟩ y6).setCell ⟨b, 7, none⟩ y7).setCell ⟨b, 8, none⟩ y8).heap[b]? = some (.cells #[y0, y1, y2, y3, y4, y5, y6, y7, y8] t (0, 0)) := (Joins.block_setCell h8 _).trans rfl; exact h9
theorem set9_kp {b : Nat} {w0 w : World} (hk : Kp w0 w) (hb : w0.heap.size ≤ b) (y0 y1 y2 y3 y4 y5 y6 y7 y8 : Value) : Kp w0 (((((((((w.setCell ⟨b, 0, none⟩ y0).setCell ⟨b, 1, none⟩ y1).setCell ⟨b, 2, none⟩ y2).setCell ⟨b, 3, none⟩ y3).setCell ⟨b, 4, none⟩ y4).setCell ⟨b, 5, none⟩ y5).setCell ⟨b, 6, none⟩ y6).setCell ⟨b, 7, none⟩ y7).setCell ⟨b, 8, none⟩ y8) := by
 refine Below.setCell ?_ hb _
 refine Below.setCell ?_ hb _
 refine Below.setCell ?_ hb _
 refine Below.setCell ?_ hb _
 refine Below.setCell ?_ hb _
 refine Below.setCell ?_ hb _
 refine Below.setCell ?_ hb _
 refine Below.setCell ?_ hb _
 refine Below.setCell ?_ hb _
 exact hk
open Go.RowKit
theorem ext_bits (b : Nat) (w : World) : (callFunc 108 #[.float .f64 b]).run Tryz.prog w = .ok (.value (.int .u64 b)) w := by
 rw [run_callFunc_extern (e := Extern.MathFloatBits.float64bits) Tryz.func108 (by kernel_rfl) (by kernel_rfl) (by kernel_rfl) (by kernel_rfl)]
 rfl
theorem and62 {b : Nat} (hb : b < 18446744073709551616) : bits .and .u64 (b : Int) 9223372036854775807 = ((b % 9223372036854775808 : Nat) : Int) := by
 rw [show (9223372036854775807 : Int) = ((9223372036854775807 : Nat) : Int) from rfl, u64_and_nat b _ hb (by omega), show (9223372036854775807 : Nat) = 2 ^ 63 - 1 from rfl, Nat.and_two_pow_sub_one_eq_mod]
theorem isNaN_any (b : Nat) (w : World) (hb : b < 18446744073709551616) :
  Calls Tryz.prog 170 #[.float .f64 b] w fun e w' => e = .returned (.bool (Fl.isNan b)) ∧ w = w' := by
 go_enter Tryz.func170, Tryz.ntmps170; go_wp2; go_ret; exact ⟨by rw [← Fl.test_self hb]; rfl, rfl⟩
theorem isNaN_t (b : Nat) (w : World) (hb : b < 18446744073709551616) (h : Fl.isNan b = true) :
  Calls Tryz.prog 170 #[.float .f64 b] w fun e w' => e = .returned (.bool true) ∧ w = w' := by
 rw [← h]; exact isNaN_any b w hb
theorem isNaN_f (b : Nat) (w : World) (hb : b < 18446744073709551616) (h : Fl.isNan b = false) :
  Calls Tryz.prog 170 #[.float .f64 b] w fun e w' => e = .returned (.bool false) ∧ w = w' := by
 rw [← h]; exact isNaN_any b w hb
theorem u64_ret {a b : Int} (h : a = b) : Ending.returned (.int .u64 a) = .returned (.int .u64 b) := by rw [h]
theorem i64_ret {a b : Int} (h : a = b) : Ending.returned (.int .i64 a) = .returned (.int .i64 b) := by rw [h]
theorem bool_ret {a b : Bool} (h : a = b) : Ending.returned (.bool a) = .returned (.bool b) := by rw [h]
theorem raw_any (b : Nat) (w : World) :
  Calls Tryz.prog 102 #[.float .f64 b] w fun e w' => e = .returned (.int .u64 b) ∧ w = w' := by
 have e1 := ext_bits; go_enter Tryz.func102, Tryz.ntmps102; go_wp2; go_ret; exact ⟨rfl, rfl⟩
theorem refNaN_any (b : Nat) (w : World) (hb : b < 18446744073709551616) :
  Calls Tryz.prog 121 #[.float .f64 b] w fun e w' => e = .returned (.bool (Fl.isNan b)) ∧ w = w' := by
 have e1 := hD (and62 hb); go_enter Tryz.func121, Tryz.ntmps121; go_wp2_with (go_at_call 102; refine (raw_any _ _).mono ?_; rintro e w' ⟨rfl, rfl⟩)
 go_ret; exact ⟨bool_ret (by rw [e1.out]; unfold Fl.isNan; rw [Bool.eq_iff_iff]; simp; omega), rfl⟩
theorem refNaN_t (b : Nat) (w : World) (hb : b < 18446744073709551616) (h : Fl.isNan b = true) :
  Calls Tryz.prog 121 #[.float .f64 b] w fun e w' => e = .returned (.bool true) ∧ w = w' := by
 rw [← h]; exact refNaN_any b w hb
theorem refNaN_f (b : Nat) (w : World) (hb : b < 18446744073709551616) (h : Fl.isNan b = false) :
  Calls Tryz.prog 121 #[.float .f64 b] w fun e w' => e = .returned (.bool false) ∧ w = w' := by
 rw [← h]; exact refNaN_any b w hb
theorem ext_fromI (n : Int) (w : World) : (callFunc 141 #[.int .u64 n]).run Tryz.prog w = .ok (.value (.float .f64 n.toNat)) w := by
 rw [run_callFunc_extern (e := Extern.MathFloatBits.float64frombits) Tryz.func141 (by kernel_rfl) (by kernel_rfl) (by kernel_rfl) (by kernel_rfl)]
 rfl
theorem f64_ret {a b : Nat} (h : a = b) : Ending.returned (.float .f64 a) = .returned (.float .f64 b) := by rw [h]
theorem eq0 {b : Nat} (hb : b < 18446744073709551616) : (FloatKind.f64.format.order b 0 == some .eq) = (decide (b = 0) || decide (b = 9223372036854775808)) := by
 rw [← Fl.isEq0 hb]; exact Fl.test_eq hb (by omega)
theorem ge0 {b : Nat} (hb : b < 18446744073709551616) : (FloatKind.f64.format.order b 0 == some .gt || FloatKind.f64.format.order b 0 == some .eq) = Fl.dl b := by
 rw [← Fl.isGe0 hb]; have e1 := Fl.test_gt hb (show 0 < 18446744073709551616 by omega); have e2 := Fl.test_eq hb (show 0 < 18446744073709551616 by omega); rw [← e1, ← e2]; rfl
theorem rank_any (b : Nat) (w : World) (hb : b < 18446744073709551616) :
  Calls Tryz.prog 140 #[.float .f64 b] w fun e w' => e = .returned (.tuple #[.bool (Fl.rkp b), .int .u64 (Fl.rkm b)]) ∧ w = w' := by
 cases hn : Fl.isNan b
 ·obtain ⟨n, hbn⟩ : ∃ n : Int, (b : Int) = n := ⟨_, rfl⟩
  obtain ⟨HB, HN⟩ := hD2 hb hbn; have R : ∀ w, Calls Tryz.prog 102 #[.float .f64 b] w fun e w' => e = .returned (.int .u64 n) ∧ w = w' := by
   intro w; rw [← hbn]; exact raw_any b w
  by_cases hs : 9223372036854775808 ≤ n
  ·have h2 : n ≤ 18446744073709551615 := by omega
   clear hb hbn; go_enter Tryz.func140, Tryz.ntmps140; go_wp2_with (first | (go_at_call 121; refine (refNaN_f _ _ HB.out hn).mono ?_; rintro e w' ⟨rfl, rfl⟩) | (go_at_call 102; refine (R _).mono ?_; rintro e w' ⟨rfl, rfl⟩))
   go_ret2
   have e1 : Fl.rkp b = false := by unfold Fl.rkp; rw [hn]; have := HN.out; simp; omega
   have e2 : ((Fl.rkm b : Nat) : Int) = 9223372036854775807 - (n - 9223372036854775808) := by have := HN.out; unfold Fl.rkm; rw [hn, if_neg (by simp), if_pos (by omega)]; omega
   rw [e1, e2]; exact ⟨rfl, rfl⟩
  ·have h2 : n < 9223372036854775808 := by omega
   have h3 : 0 ≤ n := by omega
   clear hb hbn; go_enter Tryz.func140, Tryz.ntmps140; go_wp2_with (first | (go_at_call 121; refine (refNaN_f _ _ HB.out hn).mono ?_; rintro e w' ⟨rfl, rfl⟩) | (go_at_call 102; refine (R _).mono ?_; rintro e w' ⟨rfl, rfl⟩))
   go_ret2
   have e1 : Fl.rkp b = true := by unfold Fl.rkp; rw [hn]; have := HN.out; simp; omega
   have e2 : ((Fl.rkm b : Nat) : Int) = n := by have := HN.out; unfold Fl.rkm; rw [hn, if_neg (by simp), if_neg (by omega)]; exact this
   rw [e1, e2]; exact ⟨rfl, rfl⟩
 ·go_enter Tryz.func140, Tryz.ntmps140; go_wp2_with (first | (go_at_call 121; refine (refNaN_t _ _ hb hn).mono ?_; rintro e w' ⟨rfl, rfl⟩))
  go_ret2
  rw [Fl.rkp_nan hn, Fl.rkm_nan hn]; exact ⟨rfl, rfl⟩
theorem rank_t (b : Nat) (w : World) (hb : b < 18446744073709551616) (h : Fl.rkp b = true) :
  Calls Tryz.prog 140 #[.float .f64 b] w fun e w' => e = .returned (.tuple #[.bool true, .int .u64 (Fl.rkm b)]) ∧ w = w' := by
 rw [← h]; exact rank_any b w hb
theorem rank_f (b : Nat) (w : World) (hb : b < 18446744073709551616) (h : Fl.rkp b = false) :
  Calls Tryz.prog 140 #[.float .f64 b] w fun e w' => e = .returned (.tuple #[.bool false, .int .u64 (Fl.rkm b)]) ∧ w = w' := by
 rw [← h]; exact rank_any b w hb
theorem refOrder_any (a b : Nat) (w : World) (ha : a < 18446744073709551616) (hb : b < 18446744073709551616) :
  Calls Tryz.prog 103 #[.float .f64 a, .float .f64 b] w fun e w' => e = .returned (.int .i64 (Fl.ord a b)) ∧ w = w' := by
 cases hp : Fl.rkp a <;> cases hq : Fl.rkp b
 ·rw [Fl.ord_same ha hb (hp.trans hq.symm)]
  by_cases h1 : Fl.rkm a < Fl.rkm b
  ·go_enter Tryz.func103, Tryz.ntmps103; go_wp2_with (first | (go_at_call 140; (with_reducible refine (rank_f a _ ha hp).mono ?_); rintro e w' ⟨rfl, rfl⟩) | (go_at_call 140; (with_reducible refine (rank_f b _ hb hq).mono ?_); rintro e w' ⟨rfl, rfl⟩))
   go_ret; exact ⟨i64_ret (by unfold Fl.cmpN; rw [if_pos h1]), rfl⟩
  ·by_cases h2 : Fl.rkm b < Fl.rkm a
   ·go_enter Tryz.func103, Tryz.ntmps103; go_wp2_with (first | (go_at_call 140; (with_reducible refine (rank_f a _ ha hp).mono ?_); rintro e w' ⟨rfl, rfl⟩) | (go_at_call 140; (with_reducible refine (rank_f b _ hb hq).mono ?_); rintro e w' ⟨rfl, rfl⟩))
    go_ret; exact ⟨i64_ret (by unfold Fl.cmpN; rw [if_neg h1, if_pos h2]), rfl⟩
   ·go_enter Tryz.func103, Tryz.ntmps103; go_wp2_with (first | (go_at_call 140; (with_reducible refine (rank_f a _ ha hp).mono ?_); rintro e w' ⟨rfl, rfl⟩) | (go_at_call 140; (with_reducible refine (rank_f b _ hb hq).mono ?_); rintro e w' ⟨rfl, rfl⟩))
    go_ret; exact ⟨i64_ret (by unfold Fl.cmpN; rw [if_neg h1, if_neg h2]), rfl⟩
 ·rw [Fl.ord_ft ha hb hp hq]; go_enter Tryz.func103, Tryz.ntmps103; go_wp2_with (first | (go_at_call 140; (with_reducible refine (rank_f a _ ha hp).mono ?_); rintro e w' ⟨rfl, rfl⟩) | (go_at_call 140; (with_reducible refine (rank_t b _ hb hq).mono ?_); rintro e w' ⟨rfl, rfl⟩))
  go_ret; exact ⟨rfl, rfl⟩
 ·rw [Fl.ord_tf ha hb hp hq]; go_enter Tryz.func103, Tryz.ntmps103; go_wp2_with (first | (go_at_call 140; (with_reducible refine (rank_t a _ ha hp).mono ?_); rintro e w' ⟨rfl, rfl⟩) | (go_at_call 140; (with_reducible refine (rank_f b _ hb hq).mono ?_); rintro e w' ⟨rfl, rfl⟩))
  go_ret; exact ⟨rfl, rfl⟩
 ·rw [Fl.ord_same ha hb (hp.trans hq.symm)]
  by_cases h1 : Fl.rkm a < Fl.rkm b
  ·go_enter Tryz.func103, Tryz.ntmps103; go_wp2_with (first | (go_at_call 140; (with_reducible refine (rank_t a _ ha hp).mono ?_); rintro e w' ⟨rfl, rfl⟩) | (go_at_call 140; (with_reducible refine (rank_t b _ hb hq).mono ?_); rintro e w' ⟨rfl, rfl⟩))
   go_ret; exact ⟨i64_ret (by unfold Fl.cmpN; rw [if_pos h1]), rfl⟩
  ·by_cases h2 : Fl.rkm b < Fl.rkm a
   ·go_enter Tryz.func103, Tryz.ntmps103; go_wp2_with (first | (go_at_call 140; (with_reducible refine (rank_t a _ ha hp).mono ?_); rintro e w' ⟨rfl, rfl⟩) | (go_at_call 140; (with_reducible refine (rank_t b _ hb hq).mono ?_); rintro e w' ⟨rfl, rfl⟩))
    go_ret; exact ⟨i64_ret (by unfold Fl.cmpN; rw [if_neg h1, if_pos h2]), rfl⟩
   ·go_enter Tryz.func103, Tryz.ntmps103; go_wp2_with (first | (go_at_call 140; (with_reducible refine (rank_t a _ ha hp).mono ?_); rintro e w' ⟨rfl, rfl⟩) | (go_at_call 140; (with_reducible refine (rank_t b _ hb hq).mono ?_); rintro e w' ⟨rfl, rfl⟩))
    go_ret; exact ⟨i64_ret (by unfold Fl.cmpN; rw [if_neg h1, if_neg h2]), rfl⟩
theorem plain_any (b : Nat) (w : World) (hb : b < 18446744073709551616) :
  Calls Tryz.prog 139 #[.float .f64 b] w fun e w' => e = .returned (.float .f64 (Fl.plain b)) ∧ w = w' := by
 have e1 := ext_fromI
 cases hn : Fl.isNan b
 ·cases ht : (decide (b = 0) || decide (b = 9223372036854775808))
  ·have t1 : (FloatKind.f64.format.order b 0 == some .eq) = false := by rw [eq0 hb]; exact ht
   obtain ⟨HT, HB⟩ := hD2 ht hb; clear ht hb; go_enter Tryz.func139, Tryz.ntmps139; go_wp2_with (go_at_call 170; refine (isNaN_f _ _ HB.out hn).mono ?_; rintro e w' ⟨rfl, rfl⟩)
   go_ret; exact ⟨f64_ret (by have := HT.out; simp at this; unfold Fl.plain; rw [hn, if_neg (by simp), if_neg (by omega)]), rfl⟩
  ·have t1 : (FloatKind.f64.format.order b 0 == some .eq) = true := by rw [eq0 hb]; exact ht
   obtain ⟨HT, HB⟩ := hD2 ht hb; clear ht hb; go_enter Tryz.func139, Tryz.ntmps139; go_wp2_with (go_at_call 170; refine (isNaN_f _ _ HB.out hn).mono ?_; rintro e w' ⟨rfl, rfl⟩)
   go_ret; exact ⟨f64_ret (by have := HT.out; simp at this; unfold Fl.plain; rw [hn, if_neg (by simp)]; split <;> omega), rfl⟩
 ·go_enter Tryz.func139, Tryz.ntmps139; go_wp2_with (go_at_call 170; refine (isNaN_t _ _ hb hn).mono ?_; rintro e w' ⟨rfl, rfl⟩)
  go_ret; exact ⟨f64_ret (by unfold Fl.plain; rw [if_pos hn]), rfl⟩
theorem isDelay_any (b : Nat) (w : World) (hb : b < 18446744073709551616) :
  Calls Tryz.prog 138 #[.float .f64 b] w fun e w' => e = .returned (.bool (Fl.dl b)) ∧ w = w' := by
 go_enter Tryz.func138, Tryz.ntmps138; go_wp2; go_ret; exact ⟨bool_ret (ge0 hb), rfl⟩
theorem isDelay_t (b : Nat) (w : World) (hb : b < 18446744073709551616) (h : Fl.dl b = true) :
  Calls Tryz.prog 138 #[.float .f64 b] w fun e w' => e = .returned (.bool true) ∧ w = w' := by
 rw [← h]; exact isDelay_any b w hb
theorem isDelay_f (b : Nat) (w : World) (hb : b < 18446744073709551616) (h : Fl.dl b = false) :
  Calls Tryz.prog 138 #[.float .f64 b] w fun e w' => e = .returned (.bool false) ∧ w = w' := by
 rw [← h]; exact isDelay_any b w hb
theorem refBits_any (b : Nat) (w : World) (hb : b < 18446744073709551616) :
  Calls Tryz.prog 83 #[.float .f64 b] w fun e w' => e = .returned (.int .u64 (Fl.plain b)) ∧ w = w' := by
 cases hn : Fl.isNan b
 ·obtain ⟨n, hbn⟩ : ∃ n : Int, (b : Int) = n := ⟨_, rfl⟩
  obtain ⟨HB, HN⟩ := hD2 hb hbn; have R : ∀ w, Calls Tryz.prog 102 #[.float .f64 b] w fun e w' => e = .returned (.int .u64 n) ∧ w = w' := by
   intro w; rw [← hbn]; exact raw_any b w
  cases ht : (n == 9223372036854775808)
  ·clear hb hbn; go_enter Tryz.func83, Tryz.ntmps83; go_wp2_with (first | (go_at_call 121; (with_reducible refine (refNaN_f _ _ HB.out hn).mono ?_); rintro e w' ⟨rfl, rfl⟩) | (go_at_call 102; (with_reducible refine (R _).mono ?_); rintro e w' ⟨rfl, rfl⟩))
   go_ret; exact ⟨u64_ret (by (have := HN.out; have hz : n ≠ 9223372036854775808 := by simpa using ht); unfold Fl.plain; rw [hn, if_neg (by simp), if_neg (by omega)]; omega), rfl⟩
  ·clear hb hbn; go_enter Tryz.func83, Tryz.ntmps83; go_wp2_with (first | (go_at_call 121; (with_reducible refine (refNaN_f _ _ HB.out hn).mono ?_); rintro e w' ⟨rfl, rfl⟩) | (go_at_call 102; (with_reducible refine (R _).mono ?_); rintro e w' ⟨rfl, rfl⟩))
   go_ret; exact ⟨u64_ret (by (have := HN.out; have hz : n = 9223372036854775808 := by simpa using ht); unfold Fl.plain; rw [hn, if_neg (by simp), if_pos (by omega)]; rfl), rfl⟩
 ·go_enter Tryz.func83, Tryz.ntmps83; go_wp2_with (go_at_call 121; (with_reducible refine (refNaN_t _ _ hb hn).mono ?_); rintro e w' ⟨rfl, rfl⟩)
  go_ret; exact ⟨u64_ret (by unfold Fl.plain; rw [if_pos hn]; rfl), rfl⟩
theorem refPlain_any (b : Nat) (w : World) (hb : b < 18446744073709551616) :
  Calls Tryz.prog 104 #[.float .f64 b] w fun e w' => e = .returned (.float .f64 (Fl.plain b)) ∧ w = w' := by
 have e1 := ext_fromI; go_enter Tryz.func104, Tryz.ntmps104; go_wp2_with (go_at_call 83; (with_reducible refine (refBits_any _ _ hb).mono ?_); rintro e w' ⟨rfl, rfl⟩)
 go_ret; exact ⟨rfl, rfl⟩
theorem refDelay_any (b : Nat) (w : World) (hb : b < 18446744073709551616) :
  Calls Tryz.prog 101 #[.float .f64 b] w fun e w' => e = .returned (.bool (Fl.dl b)) ∧ w = w' := by
 cases hn : Fl.isNan b
 ·obtain ⟨n, hbn⟩ : ∃ n : Int, (b : Int) = n := ⟨_, rfl⟩
  obtain ⟨HB, HN⟩ := hD2 hb hbn; have R : ∀ w, Calls Tryz.prog 102 #[.float .f64 b] w fun e w' => e = .returned (.int .u64 n) ∧ w = w' := by
   intro w; rw [← hbn]; exact raw_any b w
  have D : Fl.dl b = decide (n ≤ 9223372036854775808) := by
   unfold Fl.dl; rw [hn, Bool.eq_iff_iff]; simp; omega
  rw [D]
  by_cases hs : n < 9223372036854775808
  ·clear hb hbn; go_enter Tryz.func101, Tryz.ntmps101; go_wp2_with (first | (go_at_call 121; (with_reducible refine (refNaN_f _ _ HB.out hn).mono ?_); rintro e w' ⟨rfl, rfl⟩) | (go_at_call 102; (with_reducible refine (R _).mono ?_); rintro e w' ⟨rfl, rfl⟩))
   go_ret; exact ⟨bool_ret (by simp; omega), rfl⟩
  ·cases ht : (n == 9223372036854775808)
   ·clear hb hbn; go_enter Tryz.func101, Tryz.ntmps101; go_wp2_with (first | (go_at_call 121; (with_reducible refine (refNaN_f _ _ HB.out hn).mono ?_); rintro e w' ⟨rfl, rfl⟩) | (go_at_call 102; (with_reducible refine (R _).mono ?_); rintro e w' ⟨rfl, rfl⟩))
    go_ret; exact ⟨bool_ret (by (have hz : n ≠ 9223372036854775808 := by simpa using ht); rw [Bool.eq_iff_iff]; simp; omega), rfl⟩
   ·clear hb hbn; go_enter Tryz.func101, Tryz.ntmps101; go_wp2_with (first | (go_at_call 121; (with_reducible refine (refNaN_f _ _ HB.out hn).mono ?_); rintro e w' ⟨rfl, rfl⟩) | (go_at_call 102; (with_reducible refine (R _).mono ?_); rintro e w' ⟨rfl, rfl⟩))
    go_ret; exact ⟨bool_ret (by (have hz : n = 9223372036854775808 := by simpa using ht); rw [Bool.eq_iff_iff]; simp; omega), rfl⟩
 ·have D : Fl.dl b = false := by unfold Fl.dl; rw [hn]; rfl
  rw [D]; go_enter Tryz.func101, Tryz.ntmps101; go_wp2_with (go_at_call 121; (with_reducible refine (refNaN_t _ _ hb hn).mono ?_); rintro e w' ⟨rfl, rfl⟩)
  go_ret; exact ⟨rfl, rfl⟩
theorem delay_ok (b : Nat) (w : World) (h : Fl.dl b = true) :
  Calls Tryz.prog 99 #[.float .f64 b] w fun e w' => e = .returned (.tuple #[.float .f64 (Fl.plain b), .nilIface]) ∧ w = w' := by
 have H := hD h; clear h; go_enter Tryz.func99, Tryz.ntmps99; go_wp2_with (first | (go_at_call 138; (with_reducible refine (isDelay_t b _ (Fl.dl_lt H.out) H.out).mono ?_); rintro e w' ⟨rfl, rfl⟩) | (go_at_call 139; (with_reducible refine (plain_any b _ (Fl.dl_lt H.out)).mono ?_); rintro e w' ⟨rfl, rfl⟩))
 go_ret2
 exact ⟨rfl, rfl⟩
theorem delay_err (b : Nat) (v : Value) (w : World) (hb : b < 18446744073709551616) (h : Fl.dl b = false) (hc : w.cell? ⟨5, 0, none⟩ = some v) :
  Calls Tryz.prog 99 #[.float .f64 b] w fun e w' => e = .returned (.tuple #[.float .f64 0, v]) ∧ Kp w w' := by
 have H := hD h; clear h; go_enter Tryz.func99, Tryz.ntmps99; go_wp2_with (first | (go_at_call 138; (with_reducible refine (isDelay_f b _ hb H.out).mono ?_); rintro e w' ⟨rfl, rfl⟩))
 go_region
 all_goals go_wp2
 all_goals go_ret2
 all_goals exact ⟨rfl, (Kp.refl _).drew⟩
theorem cells5 {b : Nat} {t : TypeId} {w : World} {x0 x1 x2 x3 x4 : Value} (h : w.heap[b]? = some (.cells #[x0, x1, x2, x3, x4] t (0, 0))) : w.cell? ⟨b, 0, none⟩ = some x0 ∧ w.cell? ⟨b, 1, none⟩ = some x1 ∧ w.cell? ⟨b, 2, none⟩ = some x2 ∧ w.cell? ⟨b, 3, none⟩ = some x3 ∧ w.cell? ⟨b, 4, none⟩ = some x4 := by
 refine ⟨?_, ?_, ?_, ?_, ?_⟩ <;> (unfold World.cell?; dsimp only; rw [h]; rfl)
theorem right_parts9 (c : CX) : rightX c = (rightA c.n c.s && (((c.o == 1) || (c.o == 2)) && (decide (0 ≤ c.d) && (decide (c.d ≤ 3) && (Fl.dl c.x && ((c.x : Int) == ((Fl.plain c.x : Nat) : Int))))))) := by
 unfold rightX outX tmX; have e1 : decide (c.o = 1 ∨ c.o = 2) = ((c.o == 1) || (c.o == 2)) := by
  rw [Bool.eq_iff_iff]; simp
 have e2 : decide (0 ≤ c.d ∧ c.d ≤ 3) = (decide (0 ≤ c.d) && decide (c.d ≤ 3)) := by
  rw [Bool.eq_iff_iff]; simp
 have e3 : decide (Fl.plain c.x = c.x) = ((c.x : Int) == ((Fl.plain c.x : Nat) : Int)) := by
  rw [Bool.eq_iff_iff]; simp; omega
 rw [e1, e2, e3, Bool.and_assoc]
theorem refRight9_any (c : CX) (hc : c.wf) (w : World) :
  Calls Tryz.prog 62 #[.agg c.cells] w fun e w' => e = .returned (.bool (rightX c)) ∧ Kp w w' := by
 rw [right_parts9]; obtain ⟨n, s, o, d, x⟩ := c
 replace hc : x < 18446744073709551616 := hc
 dsimp only [CX.cells]; have HA := fun w1 => refRight_any n s w1
 have HDL := fun w1 => refDelay_any x w1 hc
 have HRW := fun w1 => raw_any x w1
 have HBI := fun w1 => refBits_any x w1 hc
 obtain ⟨x0, hx0⟩ : ∃ b, rightA n s = b := ⟨_, rfl⟩
 obtain ⟨o1, ho1⟩ : ∃ b, (o == 1) = b := ⟨_, rfl⟩
 obtain ⟨o2, ho2⟩ : ∃ b, (o == 2) = b := ⟨_, rfl⟩
 obtain ⟨d1, hd1⟩ : ∃ b, decide (0 ≤ d) = b := ⟨_, rfl⟩
 obtain ⟨d2, hd2⟩ : ∃ b, decide (d ≤ 3) = b := ⟨_, rfl⟩
 obtain ⟨dx, hdx⟩ : ∃ b, Fl.dl x = b := ⟨_, rfl⟩
 obtain ⟨xi, hxi⟩ : ∃ y : Int, (x : Int) = y := ⟨_, rfl⟩
 obtain ⟨pi, hpi⟩ : ∃ y : Int, ((Fl.plain x : Nat) : Int) = y := ⟨_, rfl⟩
 rw [hx0] at HA ⊢; rw [hdx] at HDL ⊢; rw [hxi] at HRW; rw [hpi] at HBI; rw [ho1, ho2, hd1, hd2, hxi, hpi]; obtain ⟨pe, hpe⟩ : ∃ b, (xi == pi) = b := ⟨_, rfl⟩
 rw [hpe]; obtain ⟨HA, HDL, HRW, HBI⟩ := hD4 HA HDL HRW HBI; have kb := kA w (.cells #[n, s, o, d, x] 60); have hr := (mH w (.cells #[n, s, o, d, x] 60))
 clear hx0 hdx hxi hpi hc; go_enter Tryz.func62, Tryz.ntmps62; go_wp2; obtain ⟨w0, hw0⟩ : ∃ y, w.alloc (.cells #[n, s, o, d, x] 60) = y := ⟨_, rfl⟩
 obtain ⟨p0, hp0⟩ : ∃ y, w.heap.size = y := ⟨_, rfl⟩
 rw [hw0] at kb hr ⊢; rw [hp0] at hr ⊢; obtain ⟨b0, b1, b2, b3, b4⟩ := cells5 (hr); have K0 := hD kb; clear hr hw0 kb hp0; refine rgW (fun w' => Kp w0 w') ?_ fun hH => ?_
 ·exact (Kp.refl w0).drew
 refine tkP 0 ?_
 go_simp; refine tkP 1 ?_ (y := by intro w hZ; obtain ⟨qb0, qb1, qb2, qb3, qb4⟩ := kZ5 hZ b0 b1 b2 b3 b4; go_simp; try rfl)
 go_simp; refine rdW 2 fun K hK => ?_
 go_simp; go_wp2_with (go_at_call 100; (with_reducible refine (HA.out _).mono ?_); rintro e w' ⟨rfl, hk4⟩; have K4 := hD (kT hH hk4); clear hk4)
 refine hK.out _ _ (K4.out) fun hH => ?_
 clear hK K; refine tkP 3 ?_
 go_simp
 cases x0 with
 | false =>
  refine skW 4 ?_
  go_simp; refine skW 5 ?_
  go_simp; refine skW 6 ?_
  go_simp; refine skW 7 ?_
  go_simp; refine skW 8 ?_
  go_simp; refine skW 9 ?_
  go_simp; refine skW 10 ?_
  go_simp; refine skW 11 ?_
  go_simp; refine tkP 12 ?_
  go_simp; refine tkP 13 ?_
  go_simp; refine skW 14 ?_
  go_simp; refine skW 15 ?_
  go_simp; refine skW 16 ?_
  go_simp; refine tkP 17 ?_
  go_simp; refine tkP 18 ?_
  go_simp; refine skW 19 ?_
  go_simp; refine skW 20 ?_
  go_simp; refine skW 21 ?_
  go_simp; refine tkP 22 ?_
  go_simp; refine tkP 23 ?_
  go_simp; refine skW 24 ?_
  go_simp; refine skW 25 ?_
  go_simp; refine skW 26 ?_
  go_simp; refine tkP 27 ?_
  go_simp; refine tkP 28 ?_
  go_simp; refine skW 29 ?_
  go_simp; refine skW 30 ?_
  go_simp; refine skW 31 ?_
  go_simp; refine skW 32 ?_
  go_simp; refine skW 33 ?_
  go_simp; refine skW 34 ?_
  go_simp; refine skW 35 ?_
  go_simp; refine tkP 36 ?_
  go_simp; refine tkP 37 ?_
  go_simp; refine dnW ?_ _
  go_wp2; go_ret; exact ⟨by first | rfl | simp, kT K0.out hH⟩
 | true =>
  refine tkP 4 ?_
  go_simp; refine tkP 5 ?_ (y := by intro w hZ; obtain ⟨qb0, qb1, qb2, qb3, qb4⟩ := kZ5 hZ b0 b1 b2 b3 b4; go_simp; try rfl)
  go_simp; refine tkP 6 ?_
  go_simp; refine tkP 7 ?_
  go_simp
  cases o1 with
  | false =>
   refine tkP 8 ?_
   go_simp; refine tkP 9 ?_ (y := by intro w hZ; obtain ⟨qb0, qb1, qb2, qb3, qb4⟩ := kZ5 hZ b0 b1 b2 b3 b4; go_simp; try rfl)
   go_simp; refine tkP 10 ?_
   go_simp; refine tkP 11 ?_
   go_simp; refine tkP 12 ?_
   go_simp; refine tkP 13 ?_
   go_simp
   cases o2 with
   | false =>
    refine skW 14 ?_
    go_simp; refine skW 15 ?_
    go_simp; refine skW 16 ?_
    go_simp; refine tkP 17 ?_
    go_simp; refine tkP 18 ?_
    go_simp; refine skW 19 ?_
    go_simp; refine skW 20 ?_
    go_simp; refine skW 21 ?_
    go_simp; refine tkP 22 ?_
    go_simp; refine tkP 23 ?_
    go_simp; refine skW 24 ?_
    go_simp; refine skW 25 ?_
    go_simp; refine skW 26 ?_
    go_simp; refine tkP 27 ?_
    go_simp; refine tkP 28 ?_
    go_simp; refine skW 29 ?_
    go_simp; refine skW 30 ?_
    go_simp; refine skW 31 ?_
    go_simp; refine skW 32 ?_
    go_simp; refine skW 33 ?_
    go_simp; refine skW 34 ?_
    go_simp; refine skW 35 ?_
    go_simp; refine tkP 36 ?_
    go_simp; refine tkP 37 ?_
    go_simp; refine dnW ?_ _
    go_wp2; go_ret; exact ⟨by first | rfl | simp, kT K0.out hH⟩
   | true =>
    refine tkP 14 ?_
    go_simp; refine tkP 15 ?_ (y := by intro w hZ; obtain ⟨qb0, qb1, qb2, qb3, qb4⟩ := kZ5 hZ b0 b1 b2 b3 b4; go_simp; try rfl)
    go_simp; refine tkP 16 ?_
    go_simp; refine tkP 17 ?_
    go_simp; refine tkP 18 ?_
    go_simp
    cases d1 with
    | false =>
     refine skW 19 ?_
     go_simp; refine skW 20 ?_
     go_simp; refine skW 21 ?_
     go_simp; refine tkP 22 ?_
     go_simp; refine tkP 23 ?_
     go_simp; refine skW 24 ?_
     go_simp; refine skW 25 ?_
     go_simp; refine skW 26 ?_
     go_simp; refine tkP 27 ?_
     go_simp; refine tkP 28 ?_
     go_simp; refine skW 29 ?_
     go_simp; refine skW 30 ?_
     go_simp; refine skW 31 ?_
     go_simp; refine skW 32 ?_
     go_simp; refine skW 33 ?_
     go_simp; refine skW 34 ?_
     go_simp; refine skW 35 ?_
     go_simp; refine tkP 36 ?_
     go_simp; refine tkP 37 ?_
     go_simp; refine dnW ?_ _
     go_wp2; go_ret; exact ⟨by first | rfl | simp, kT K0.out hH⟩
    | true =>
     refine tkP 19 ?_
     go_simp; refine tkP 20 ?_ (y := by intro w hZ; obtain ⟨qb0, qb1, qb2, qb3, qb4⟩ := kZ5 hZ b0 b1 b2 b3 b4; go_simp; try rfl)
     go_simp; refine tkP 21 ?_
     go_simp; refine tkP 22 ?_
     go_simp; refine tkP 23 ?_
     go_simp
     cases d2 with
     | false =>
      refine skW 24 ?_
      go_simp; refine skW 25 ?_
      go_simp; refine skW 26 ?_
      go_simp; refine tkP 27 ?_
      go_simp; refine tkP 28 ?_
      go_simp; refine skW 29 ?_
      go_simp; refine skW 30 ?_
      go_simp; refine skW 31 ?_
      go_simp; refine skW 32 ?_
      go_simp; refine skW 33 ?_
      go_simp; refine skW 34 ?_
      go_simp; refine skW 35 ?_
      go_simp; refine tkP 36 ?_
      go_simp; refine tkP 37 ?_
      go_simp; refine dnW ?_ _
      go_wp2; go_ret; exact ⟨by first | rfl | simp, kT K0.out hH⟩
     | true =>
      refine tkP 24 ?_
      go_simp; refine tkP 25 ?_ (y := by intro w hZ; obtain ⟨qb0, qb1, qb2, qb3, qb4⟩ := kZ5 hZ b0 b1 b2 b3 b4; go_simp; try rfl)
      go_simp; refine rdW 26 fun K hK => ?_
      go_simp; go_wp2_with (go_at_call 101; (with_reducible refine (HDL.out _).mono ?_); rintro e w' ⟨rfl, rfl⟩)
      refine hK.out _ _ (hH) fun hH => ?_
      clear hK K; refine tkP 27 ?_
      go_simp; refine tkP 28 ?_
      go_simp
      cases dx with
      | false =>
       refine skW 29 ?_
       go_simp; refine skW 30 ?_
       go_simp; refine skW 31 ?_
       go_simp; refine skW 32 ?_
       go_simp; refine skW 33 ?_
       go_simp; refine skW 34 ?_
       go_simp; refine skW 35 ?_
       go_simp; refine tkP 36 ?_
       go_simp; refine tkP 37 ?_
       go_simp; refine dnW ?_ _
       go_wp2; go_ret; exact ⟨by first | rfl | simp, kT K0.out hH⟩
      | true =>
       refine tkP 29 ?_
       go_simp; refine tkP 30 ?_ (y := by intro w hZ; obtain ⟨qb0, qb1, qb2, qb3, qb4⟩ := kZ5 hZ b0 b1 b2 b3 b4; go_simp; try rfl)
       go_simp; refine tkP 32 ?_
       go_simp; refine tkP 33 ?_ (y := by intro w hZ; obtain ⟨qb0, qb1, qb2, qb3, qb4⟩ := kZ5 hZ b0 b1 b2 b3 b4; go_simp; try rfl)
       go_simp; refine rdW 31 fun K hK => ?_
       go_simp; go_wp2_with (go_at_call 102; (with_reducible refine (HRW.out _).mono ?_); rintro e w' ⟨rfl, rfl⟩)
       refine hK.out _ _ (hH) fun hH => ?_
       clear hK K; refine rdW 34 fun K hK => ?_
       go_simp; go_wp2_with (go_at_call 83; (with_reducible refine (HBI.out _).mono ?_); rintro e w' ⟨rfl, rfl⟩)
       refine hK.out _ _ (hH) fun hH => ?_
       clear hK K; refine tkP 35 ?_
       go_simp; refine tkP 36 ?_
       go_simp; refine tkP 37 ?_
       go_simp; refine dnW ?_ _
       go_wp2; go_ret; exact ⟨by first | rfl | simp, kT K0.out hH⟩
  | true =>
   refine skW 8 ?_
   go_simp; refine skW 9 ?_
   go_simp; refine skW 10 ?_
   go_simp; refine tkP 11 ?_
   go_simp; refine tkP 12 ?_
   go_simp; refine tkP 13 ?_
   go_simp; refine tkP 14 ?_
   go_simp; refine tkP 15 ?_ (y := by intro w hZ; obtain ⟨qb0, qb1, qb2, qb3, qb4⟩ := kZ5 hZ b0 b1 b2 b3 b4; go_simp; try rfl)
   go_simp; refine tkP 16 ?_
   go_simp; refine tkP 17 ?_
   go_simp; refine tkP 18 ?_
   go_simp
   cases d1 with
   | false =>
    refine skW 19 ?_
    go_simp; refine skW 20 ?_
    go_simp; refine skW 21 ?_
    go_simp; refine tkP 22 ?_
    go_simp; refine tkP 23 ?_
    go_simp; refine skW 24 ?_
    go_simp; refine skW 25 ?_
    go_simp; refine skW 26 ?_
    go_simp; refine tkP 27 ?_
    go_simp; refine tkP 28 ?_
    go_simp; refine skW 29 ?_
    go_simp; refine skW 30 ?_
    go_simp; refine skW 31 ?_
    go_simp; refine skW 32 ?_
    go_simp; refine skW 33 ?_
    go_simp; refine skW 34 ?_
    go_simp; refine skW 35 ?_
    go_simp; refine tkP 36 ?_
    go_simp; refine tkP 37 ?_
    go_simp; refine dnW ?_ _
    go_wp2; go_ret; exact ⟨by first | rfl | simp, kT K0.out hH⟩
   | true =>
    refine tkP 19 ?_
    go_simp; refine tkP 20 ?_ (y := by intro w hZ; obtain ⟨qb0, qb1, qb2, qb3, qb4⟩ := kZ5 hZ b0 b1 b2 b3 b4; go_simp; try rfl)
    go_simp; refine tkP 21 ?_
    go_simp; refine tkP 22 ?_
    go_simp; refine tkP 23 ?_
    go_simp
    cases d2 with
    | false =>
     refine skW 24 ?_
     go_simp; refine skW 25 ?_
     go_simp; refine skW 26 ?_
     go_simp; refine tkP 27 ?_
     go_simp; refine tkP 28 ?_
     go_simp; refine skW 29 ?_
     go_simp; refine skW 30 ?_
     go_simp; refine skW 31 ?_
     go_simp; refine skW 32 ?_
     go_simp; refine skW 33 ?_
     go_simp; refine skW 34 ?_
     go_simp; refine skW 35 ?_
     go_simp; refine tkP 36 ?_
     go_simp; refine tkP 37 ?_
     go_simp; refine dnW ?_ _
     go_wp2; go_ret; exact ⟨by first | rfl | simp, kT K0.out hH⟩
    | true =>
     refine tkP 24 ?_
     go_simp; refine tkP 25 ?_ (y := by intro w hZ; obtain ⟨qb0, qb1, qb2, qb3, qb4⟩ := kZ5 hZ b0 b1 b2 b3 b4; go_simp; try rfl)
     go_simp; refine rdW 26 fun K hK => ?_
     go_simp; go_wp2_with (go_at_call 101; (with_reducible refine (HDL.out _).mono ?_); rintro e w' ⟨rfl, rfl⟩)
     refine hK.out _ _ (hH) fun hH => ?_
     clear hK K; refine tkP 27 ?_
     go_simp; refine tkP 28 ?_
     go_simp
     cases dx with
     | false =>
      refine skW 29 ?_
      go_simp; refine skW 30 ?_
      go_simp; refine skW 31 ?_
      go_simp; refine skW 32 ?_
      go_simp; refine skW 33 ?_
      go_simp; refine skW 34 ?_
      go_simp; refine skW 35 ?_
      go_simp; refine tkP 36 ?_
      go_simp; refine tkP 37 ?_
      go_simp; refine dnW ?_ _
      go_wp2; go_ret; exact ⟨by first | rfl | simp, kT K0.out hH⟩
     | true =>
      refine tkP 29 ?_
      go_simp; refine tkP 30 ?_ (y := by intro w hZ; obtain ⟨qb0, qb1, qb2, qb3, qb4⟩ := kZ5 hZ b0 b1 b2 b3 b4; go_simp; try rfl)
      go_simp; refine tkP 32 ?_
      go_simp; refine tkP 33 ?_ (y := by intro w hZ; obtain ⟨qb0, qb1, qb2, qb3, qb4⟩ := kZ5 hZ b0 b1 b2 b3 b4; go_simp; try rfl)
      go_simp; refine rdW 31 fun K hK => ?_
      go_simp; go_wp2_with (go_at_call 102; (with_reducible refine (HRW.out _).mono ?_); rintro e w' ⟨rfl, rfl⟩)
      refine hK.out _ _ (hH) fun hH => ?_
      clear hK K; refine rdW 34 fun K hK => ?_
      go_simp; go_wp2_with (go_at_call 83; (with_reducible refine (HBI.out _).mono ?_); rintro e w' ⟨rfl, rfl⟩)
      refine hK.out _ _ (hH) fun hH => ?_
      clear hK K; refine tkP 35 ?_
      go_simp; refine tkP 36 ?_
      go_simp; refine tkP 37 ?_
      go_simp; refine dnW ?_ _
      go_wp2; go_ret; exact ⟨by first | rfl | simp, kT K0.out hH⟩
theorem ord_lt9 {a b : Nat} (ha : Fl.dl a = true) (hb : tmX b = true) : decide (Fl.ord (Fl.plain a) b < 0) = decide (Fl.plain a < b) := by
 rw [Fl.ord_of_le (Fl.dl_plain ha).1 (tmX_le hb)]
 rcases Fl.cmpN_spec (Fl.plain a) b with ⟨h, h2⟩ | ⟨h, h2⟩ | ⟨h, h2⟩ <;> rw [h] <;> rw [Bool.eq_iff_iff] <;> simp <;> omega
theorem rightX_tm {c : CX} (h : rightX c = true) : tmX c.x = true := by
 unfold rightX at h; simp only [Bool.and_eq_true] at h
 exact h.2.2.2
theorem open_parts9 (c : CX) (t : Nat) : openX c t = (rightX c && (Fl.dl t && decide (Fl.ord (Fl.plain t) c.x < 0))) := by
 unfold openX
 cases h : rightX c with
 | false => rfl
 | true =>
  cases g : Fl.dl t with
  | false => rfl
  | true => rw [ord_lt9 g (rightX_tm h)]
theorem refOpen9_any (c : CX) (hc : c.wf) (t : Nat) (ht : t < 18446744073709551616) (w : World) :
  Calls Tryz.prog 63 #[.agg c.cells, .float .f64 t] w fun e w' => e = .returned (.bool (openX c t)) ∧ Kp w w' := by
 rw [open_parts9]; have HRT := fun w1 => refRight9_any c hc w1
 have HDL := fun w1 => refDelay_any t w1 ht
 have HPL := fun w1 => refPlain_any t w1 ht
 have HOR := fun w1 => refOrder_any (Fl.plain t) c.x w1 (Fl.plain_lt ht) hc
 obtain ⟨x0, hx0⟩ : ∃ b, rightX c = b := ⟨_, rfl⟩
 obtain ⟨dt, hdt⟩ : ∃ b, Fl.dl t = b := ⟨_, rfl⟩
 obtain ⟨pt, hpt⟩ : ∃ b, Fl.plain t = b := ⟨_, rfl⟩
 rw [hx0] at HRT ⊢; rw [hdt] at HDL ⊢; rw [hpt] at HPL HOR ⊢; obtain ⟨oo, hoo⟩ : ∃ b, Fl.ord pt c.x = b := ⟨_, rfl⟩
 rw [hoo] at HOR ⊢; obtain ⟨ob, hob⟩ : ∃ b, decide (oo < 0) = b := ⟨_, rfl⟩
 rw [hob]; obtain ⟨n, s, o, d, x⟩ := c; dsimp only [CX.cells] at HRT HOR ⊢; obtain ⟨HRT, HDL, HPL, HOR⟩ := hD4 HRT HDL HPL HOR; have kb := kA w (.cells #[n, s, o, d, x] 60); have hr := (mH w (.cells #[n, s, o, d, x] 60))
 clear hx0 hdt hpt hoo hc ht; go_enter Tryz.func63, Tryz.ntmps63; go_wp2; obtain ⟨w0, hw0⟩ : ∃ y, w.alloc (.cells #[n, s, o, d, x] 60) = y := ⟨_, rfl⟩
 obtain ⟨p0, hp0⟩ : ∃ y, w.heap.size = y := ⟨_, rfl⟩
 rw [hw0] at kb hr ⊢; rw [hp0] at hr ⊢; obtain ⟨b0, b1, b2, b3, b4⟩ := cells5 (hr); have K0 := hD kb; clear hr hw0 kb hp0; refine rgW (fun w' => Kp w0 w') ?_ fun hH => ?_
 ·exact (Kp.refl w0).drew
 refine tkP 0 ?_ (y := by intro w hZ; obtain ⟨qb0, qb1, qb2, qb3, qb4⟩ := kZ5 hZ b0 b1 b2 b3 b4; go_simp; try rfl)
 go_simp; refine rdW 1 fun K hK => ?_
 go_simp; go_wp2_with (go_at_call 62; (with_reducible refine (HRT.out _).mono ?_); rintro e w' ⟨rfl, hk4⟩; have K4 := hD (kT hH hk4); clear hk4)
 refine hK.out _ _ (K4.out) fun hH => ?_
 clear hK K; refine tkP 2 ?_
 go_simp
 cases x0 with
 | false =>
  refine skW 3 ?_
  go_simp; refine skW 4 ?_
  go_simp; refine tkP 5 ?_
  go_simp; refine tkP 6 ?_
  go_simp; refine skW 7 ?_
  go_simp; refine skW 8 ?_
  go_simp; refine skW 9 ?_
  go_simp; refine skW 10 ?_
  go_simp; refine skW 11 ?_
  go_simp; refine skW 12 ?_
  go_simp; refine tkP 13 ?_
  go_simp; refine tkP 14 ?_
  go_simp; refine dnW ?_ _
  go_wp2; go_ret; exact ⟨by first | rfl | simp, kT K0.out hH⟩
 | true =>
  refine tkP 3 ?_
  go_simp; refine rdW 4 fun K hK => ?_
  go_simp; go_wp2_with (go_at_call 101; (with_reducible refine (HDL.out _).mono ?_); rintro e w' ⟨rfl, rfl⟩)
  refine hK.out _ _ (hH) fun hH => ?_
  clear hK K; refine tkP 5 ?_
  go_simp; refine tkP 6 ?_
  go_simp
  cases dt with
  | false =>
   refine skW 7 ?_
   go_simp; refine skW 8 ?_
   go_simp; refine skW 9 ?_
   go_simp; refine skW 10 ?_
   go_simp; refine skW 11 ?_
   go_simp; refine skW 12 ?_
   go_simp; refine tkP 13 ?_
   go_simp; refine tkP 14 ?_
   go_simp; refine dnW ?_ _
   go_wp2; go_ret; exact ⟨by first | rfl | simp, kT K0.out hH⟩
  | true =>
   refine tkP 7 ?_
   go_simp; refine tkP 9 ?_
   go_simp; refine tkP 10 ?_ (y := by intro w hZ; obtain ⟨qb0, qb1, qb2, qb3, qb4⟩ := kZ5 hZ b0 b1 b2 b3 b4; go_simp; try rfl)
   go_simp; refine rdW 8 fun K hK => ?_
   go_simp; go_wp2_with (go_at_call 104; (with_reducible refine (HPL.out _).mono ?_); rintro e w' ⟨rfl, rfl⟩)
   refine hK.out _ _ (hH) fun hH => ?_
   clear hK K; refine rdW 11 fun K hK => ?_
   go_simp; go_wp2_with (go_at_call 103; (with_reducible refine (HOR.out _).mono ?_); rintro e w' ⟨rfl, rfl⟩)
   refine hK.out _ _ (hH) fun hH => ?_
   clear hK K; refine tkP 12 ?_
   go_simp; refine tkP 13 ?_
   go_simp; refine tkP 14 ?_
   go_simp; refine dnW ?_ _
   go_wp2; go_ret; exact ⟨by first | rfl | simp, kT K0.out hH⟩
theorem sF (w : World) (a : Addr) (x : Nat) : (store a (.float .f64 x)).run Tryz.prog w = match w.cell? a with
   | some _ => if w.frozen? a then .halt (.unsupported (.unsafePointer "a write to bytes that a string shares")) w else .ok () (w.setCell a (.float .f64 x))
   | none => match w.farStore Tryz.prog a (.float .f64 x) (Mode.plain == .atomic) with
    | .ok (w', _) => .ok () w'
    | .error h => .halt h w := run_store Tryz.prog w a (.float .f64 x) .plain rfl
end Go.Proofs.YtncoofnhifcnhaaGreatDoor
