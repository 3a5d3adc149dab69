/-
  WALKS OF THE DOCUMENT's OWN ANSWERS for layer 1, and of floats' plain forms (own work).
-/
import Derived.Test.YtanbeaebdingeaaDoorFw
import Derived.BigQuiet
import Derived.Deep.QuietTactic
namespace Go.Proofs.YtanbeaebdingeaaDoor
open Go.RowKit

theorem ext_fromI (n : Int) (w : World) : (callFunc 60 #[.int .u64 n]).run Tryd.prog w = .ok (.value (.float .f64 n.toNat)) w := by
  rw [run_callFunc_extern (e := Extern.MathFloatBits.float64frombits) Tryd.func60 (by kernel_rfl) (by kernel_rfl) (by kernel_rfl) (by kernel_rfl)]
  rfl
theorem f64_ret {a b : Nat} (h : a = b) : Ending.returned (.float .f64 a) = .returned (.float .f64 b) := by rw [h]

theorem eq0 {b : Nat} (hb : b < 18446744073709551616) : (FloatKind.f64.format.order b 0 == some .eq) = (decide (b = 0) || decide (b = 9223372036854775808)) := by
  rw [← Fl.isEq0 hb]; exact Fl.test_eq hb (by omega)
theorem ge0 {b : Nat} (hb : b < 18446744073709551616) : (FloatKind.f64.format.order b 0 == some .gt || FloatKind.f64.format.order b 0 == some .eq) = Fl.dl b := by
  rw [← Fl.isGe0 hb]
  have e1 := Fl.test_gt hb (show 0 < 18446744073709551616 by omega)
  have e2 := Fl.test_eq hb (show 0 < 18446744073709551616 by omega)
  rw [← e1, ← e2]; rfl

set_option maxRecDepth 100000 in
theorem rank_any (b : Nat) (w : World) (hb : b < 18446744073709551616) :
    Calls Tryd.prog 53 #[.float .f64 b] w fun e w' => e = .returned (.tuple #[.bool (Fl.rkp b), .int .u64 (Fl.rkm b)]) ∧ w = w' := by
  cases hn : Fl.isNan b
  · obtain ⟨n, hbn⟩ : ∃ n : Int, (b : Int) = n := ⟨_, rfl⟩
    have HB := Lib.hid hb
    have HN := Lib.hid hbn
    have R : ∀ w, Calls Tryd.prog 31 #[.float .f64 b] w fun e w' => e = .returned (.int .u64 n) ∧ w = w' := by
      intro w; rw [← hbn]; exact raw_any b w
    by_cases hs : 9223372036854775808 ≤ n
    · have h2 : n ≤ 18446744073709551615 := by omega
      clear hb hbn
      go_enter Tryd.func53, Tryd.ntmps53
      go_wp2_with (first | (go_at_call 59; refine (refNaN_f _ _ HB.out hn).mono ?_; rintro e w' ⟨rfl, rfl⟩) | (go_at_call 31; refine (R _).mono ?_; rintro e w' ⟨rfl, rfl⟩))
      go_ret2
      have e1 : Fl.rkp b = false := by unfold Fl.rkp; rw [hn]; have := HN.out; simp; omega
      have e2 : ((Fl.rkm b : Nat) : Int) = 9223372036854775807 - (n - 9223372036854775808) := by have := HN.out; unfold Fl.rkm; rw [hn, if_neg (by simp), if_pos (by omega)]; omega
      rw [e1, e2]
      exact ⟨rfl, rfl⟩
    · have h2 : n < 9223372036854775808 := by omega
      have h3 : 0 ≤ n := by omega
      clear hb hbn
      go_enter Tryd.func53, Tryd.ntmps53
      go_wp2_with (first | (go_at_call 59; refine (refNaN_f _ _ HB.out hn).mono ?_; rintro e w' ⟨rfl, rfl⟩) | (go_at_call 31; refine (R _).mono ?_; rintro e w' ⟨rfl, rfl⟩))
      go_ret2
      have e1 : Fl.rkp b = true := by unfold Fl.rkp; rw [hn]; have := HN.out; simp; omega
      have e2 : ((Fl.rkm b : Nat) : Int) = n := by have := HN.out; unfold Fl.rkm; rw [hn, if_neg (by simp), if_neg (by omega)]; exact this
      rw [e1, e2]
      exact ⟨rfl, rfl⟩
  · go_enter Tryd.func53, Tryd.ntmps53
    go_wp2_with (first | (go_at_call 59; refine (refNaN_t _ _ hb hn).mono ?_; rintro e w' ⟨rfl, rfl⟩))
    go_ret2
    rw [Fl.rkp_nan hn, Fl.rkm_nan hn]
    exact ⟨rfl, rfl⟩
theorem rank_t (b : Nat) (w : World) (hb : b < 18446744073709551616) (h : Fl.rkp b = true) :
    Calls Tryd.prog 53 #[.float .f64 b] w fun e w' => e = .returned (.tuple #[.bool true, .int .u64 (Fl.rkm b)]) ∧ w = w' := by
  rw [← h]; exact rank_any b w hb
theorem rank_f (b : Nat) (w : World) (hb : b < 18446744073709551616) (h : Fl.rkp b = false) :
    Calls Tryd.prog 53 #[.float .f64 b] w fun e w' => e = .returned (.tuple #[.bool false, .int .u64 (Fl.rkm b)]) ∧ w = w' := by
  rw [← h]; exact rank_any b w hb

set_option maxHeartbeats 1000000 in
theorem refOrder_any (a b : Nat) (w : World) (ha : a < 18446744073709551616) (hb : b < 18446744073709551616) :
    Calls Tryd.prog 38 #[.float .f64 a, .float .f64 b] w fun e w' => e = .returned (.int .i64 (Fl.ord a b)) ∧ w = w' := by
  cases hp : Fl.rkp a <;> cases hq : Fl.rkp b
  · rw [Fl.ord_same ha hb (hp.trans hq.symm)]
    by_cases h1 : Fl.rkm a < Fl.rkm b
    · go_enter Tryd.func38, Tryd.ntmps38
      go_wp2_with (first | (go_at_call 53; (with_reducible refine (rank_f a _ ha hp).mono ?_); rintro e w' ⟨rfl, rfl⟩) | (go_at_call 53; (with_reducible refine (rank_f b _ hb hq).mono ?_); rintro e w' ⟨rfl, rfl⟩))
      go_ret
      exact ⟨i64_ret (by unfold Fl.cmpN; rw [if_pos h1]), rfl⟩
    · by_cases h2 : Fl.rkm b < Fl.rkm a
      · go_enter Tryd.func38, Tryd.ntmps38
        go_wp2_with (first | (go_at_call 53; (with_reducible refine (rank_f a _ ha hp).mono ?_); rintro e w' ⟨rfl, rfl⟩) | (go_at_call 53; (with_reducible refine (rank_f b _ hb hq).mono ?_); rintro e w' ⟨rfl, rfl⟩))
        go_ret
        exact ⟨i64_ret (by unfold Fl.cmpN; rw [if_neg h1, if_pos h2]), rfl⟩
      · go_enter Tryd.func38, Tryd.ntmps38
        go_wp2_with (first | (go_at_call 53; (with_reducible refine (rank_f a _ ha hp).mono ?_); rintro e w' ⟨rfl, rfl⟩) | (go_at_call 53; (with_reducible refine (rank_f b _ hb hq).mono ?_); rintro e w' ⟨rfl, rfl⟩))
        go_ret
        exact ⟨i64_ret (by unfold Fl.cmpN; rw [if_neg h1, if_neg h2]), rfl⟩
  · rw [Fl.ord_ft ha hb hp hq]
    go_enter Tryd.func38, Tryd.ntmps38
    go_wp2_with (first | (go_at_call 53; (with_reducible refine (rank_f a _ ha hp).mono ?_); rintro e w' ⟨rfl, rfl⟩) | (go_at_call 53; (with_reducible refine (rank_t b _ hb hq).mono ?_); rintro e w' ⟨rfl, rfl⟩))
    go_ret
    exact ⟨rfl, rfl⟩
  · rw [Fl.ord_tf ha hb hp hq]
    go_enter Tryd.func38, Tryd.ntmps38
    go_wp2_with (first | (go_at_call 53; (with_reducible refine (rank_t a _ ha hp).mono ?_); rintro e w' ⟨rfl, rfl⟩) | (go_at_call 53; (with_reducible refine (rank_f b _ hb hq).mono ?_); rintro e w' ⟨rfl, rfl⟩))
    go_ret
    exact ⟨rfl, rfl⟩
  · rw [Fl.ord_same ha hb (hp.trans hq.symm)]
    by_cases h1 : Fl.rkm a < Fl.rkm b
    · go_enter Tryd.func38, Tryd.ntmps38
      go_wp2_with (first | (go_at_call 53; (with_reducible refine (rank_t a _ ha hp).mono ?_); rintro e w' ⟨rfl, rfl⟩) | (go_at_call 53; (with_reducible refine (rank_t b _ hb hq).mono ?_); rintro e w' ⟨rfl, rfl⟩))
      go_ret
      exact ⟨i64_ret (by unfold Fl.cmpN; rw [if_pos h1]), rfl⟩
    · by_cases h2 : Fl.rkm b < Fl.rkm a
      · go_enter Tryd.func38, Tryd.ntmps38
        go_wp2_with (first | (go_at_call 53; (with_reducible refine (rank_t a _ ha hp).mono ?_); rintro e w' ⟨rfl, rfl⟩) | (go_at_call 53; (with_reducible refine (rank_t b _ hb hq).mono ?_); rintro e w' ⟨rfl, rfl⟩))
        go_ret
        exact ⟨i64_ret (by unfold Fl.cmpN; rw [if_neg h1, if_pos h2]), rfl⟩
      · go_enter Tryd.func38, Tryd.ntmps38
        go_wp2_with (first | (go_at_call 53; (with_reducible refine (rank_t a _ ha hp).mono ?_); rintro e w' ⟨rfl, rfl⟩) | (go_at_call 53; (with_reducible refine (rank_t b _ hb hq).mono ?_); rintro e w' ⟨rfl, rfl⟩))
        go_ret
        exact ⟨i64_ret (by unfold Fl.cmpN; rw [if_neg h1, if_neg h2]), rfl⟩

theorem plain_any (b : Nat) (w : World) (hb : b < 18446744073709551616) :
    Calls Tryd.prog 55 #[.float .f64 b] w fun e w' => e = .returned (.float .f64 (Fl.plain b)) ∧ w = w' := by
  have e1 := ext_fromI
  cases hn : Fl.isNan b
  · cases ht : (decide (b = 0) || decide (b = 9223372036854775808))
    · have t1 : (FloatKind.f64.format.order b 0 == some .eq) = false := by rw [eq0 hb]; exact ht
      have HT := Lib.hid ht
      have HB := Lib.hid hb
      clear ht hb
      go_enter Tryd.func55, Tryd.ntmps55
      go_wp2_with (go_at_call 73; refine (isNaN_f _ _ HB.out hn).mono ?_; rintro e w' ⟨rfl, rfl⟩)
      go_ret
      exact ⟨f64_ret (by have := HT.out; simp at this; unfold Fl.plain; rw [hn, if_neg (by simp), if_neg (by omega)]), rfl⟩
    · have t1 : (FloatKind.f64.format.order b 0 == some .eq) = true := by rw [eq0 hb]; exact ht
      have HT := Lib.hid ht
      have HB := Lib.hid hb
      clear ht hb
      go_enter Tryd.func55, Tryd.ntmps55
      go_wp2_with (go_at_call 73; refine (isNaN_f _ _ HB.out hn).mono ?_; rintro e w' ⟨rfl, rfl⟩)
      go_ret
      exact ⟨f64_ret (by have := HT.out; simp at this; unfold Fl.plain; rw [hn, if_neg (by simp)]; split <;> omega), rfl⟩
  · go_enter Tryd.func55, Tryd.ntmps55
    go_wp2_with (go_at_call 73; refine (isNaN_t _ _ hb hn).mono ?_; rintro e w' ⟨rfl, rfl⟩)
    go_ret
    exact ⟨f64_ret (by unfold Fl.plain; rw [if_pos hn]), rfl⟩

theorem isDelay_any (b : Nat) (w : World) (hb : b < 18446744073709551616) :
    Calls Tryd.prog 47 #[.float .f64 b] w fun e w' => e = .returned (.bool (Fl.dl b)) ∧ w = w' := by
  go_enter Tryd.func47, Tryd.ntmps47
  go_wp2
  go_ret
  exact ⟨bool_ret (ge0 hb), rfl⟩
end Go.Proofs.YtanbeaebdingeaaDoor
