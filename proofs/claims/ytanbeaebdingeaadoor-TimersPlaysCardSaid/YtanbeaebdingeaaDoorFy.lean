/-
  WALKS (own work): the builtin min at floats, Backoff, and the chapter's examples ('alive').
-/
import Derived.Test.YtanbeaebdingeaaDoorFx
import Derived.Test.YtanbeaebdingeaaDoorFn
namespace Go.Proofs.YtanbeaebdingeaaDoor
open Go.RowKit

/-- THE BUILTIN min AT TWO FLOATS THAT ARE DELAYS. -/
theorem run_min_float (P : Program) (ts : Array TypeId) (t : TypeId) {a b : Nat} (ha : Fl.dl a = true) (hb : Fl.dl b = true) (w : World) :
    (Builtin.min_ ts t #[.float .f64 a, .float .f64 b]).run P w = .ok (.float .f64 (Fl.mn2 a b)) w := by
  have ho : FloatKind.f64.format.order a b = some (compare (Fl.key a) (Fl.key b)) :=
    Fl.order_eq (Fl.dl_lt ha) (Fl.dl_lt hb) (Fl.dl_key ha).2 (Fl.dl_key hb).2
  have hr : Builtin.min_ ts t #[.float .f64 a, .float .f64 b] = Builtin.min2 (.float .f64 a) (.float .f64 b) := by
    simp [Builtin.min_]
  rw [hr]
  unfold Builtin.min2 Fl.mn2
  simp only [ho]
  by_cases h1 : Fl.key a < Fl.key b
  · rw [(Fl.compare_eq_lt _ _).2 h1, if_pos h1]; rfl
  · rw [if_neg h1]
    by_cases h2 : Fl.key b < Fl.key a
    · rw [(Fl.compare_eq_gt _ _).2 h2, if_pos h2]; rfl
    · rw [(Fl.compare_eq_eq _ _).2 (by omega), if_neg h2]
      have e : (FloatKind.f64.decode a).neg = decide (9223372036854775808 ≤ a) := by
        rcases (Fl.dl_plain ha).2 with g | g
        · rcases Nat.lt_or_eq_of_le g with g1 | g1
          · show (Ieee.double.read a).neg = _
            rw [Fl.read_pos_fin g1]
            show false = _
            rw [decide_eq_false (by omega)]
          · subst g1; kernel_rfl
        · subst g; kernel_rfl
      simp only [e]
      by_cases h3 : 9223372036854775808 ≤ a
      · rw [if_pos h3, decide_eq_true h3]; rfl
      · rw [if_neg h3, decide_eq_false h3]; rfl

theorem isDelay_t (b : Nat) (w : World) (hb : b < 18446744073709551616) (h : Fl.dl b = true) :
    Calls Tryd.prog 47 #[.float .f64 b] w fun e w' => e = .returned (.bool true) ∧ w = w' := by
  rw [← h]; exact isDelay_any b w hb
theorem isDelay_f (b : Nat) (w : World) (hb : b < 18446744073709551616) (h : Fl.dl b = false) :
    Calls Tryd.prog 47 #[.float .f64 b] w fun e w' => e = .returned (.bool false) ∧ w = w' := by
  rw [← h]; exact isDelay_any b w hb

theorem fzero {x : Nat} (h : Fl.dl x = true) : (FloatKind.f64.format.order x 0 == some .eq) = decide (Fl.plain x = 0) := by
  have e : (FloatKind.f64.format.order x 0 == some .eq) = Fl.isEq x 0 := Fl.test_eq (Fl.dl_lt h) (by omega)
  rw [e, Fl.dl_isEq h (show Fl.dl 0 = true from rfl)]; rfl
theorem fge {x m : Nat} (h : Fl.dl x = true) (g : Fl.dl m = true) : (FloatKind.f64.format.order x m == some .gt || FloatKind.f64.format.order x m == some .eq) = decide (Fl.plain m ≤ Fl.plain x) := by
  have e1 : (FloatKind.f64.format.order x m == some .gt) = Fl.isLt m x := Fl.test_gt (Fl.dl_lt h) (Fl.dl_lt g)
  have e2 : (FloatKind.f64.format.order x m == some .eq) = Fl.isEq x m := Fl.test_eq (Fl.dl_lt h) (Fl.dl_lt g)
  rw [e1, e2, Fl.dl_isEq h g, Fl.dl_isLt g h, Bool.eq_iff_iff]; simp; omega

theorem backoff_ok (a m : Nat) (n : Nat) (w : World) (ha : Fl.dl a = true) (hm : Fl.dl m = true) (hn : n ≤ 9223372036854775807) :
    Calls Tryd.prog 56 #[.float .f64 a, .int .i64 n, .float .f64 m] w fun e w' => e = .returned (.tuple #[.float .f64 (Fl.backR a n m), .nilIface]) ∧ w = w' := by
  have HA := Lib.hid ha
  have HM := Lib.hid hm
  have I0 := Fl.inv_start ha
  clear ha hm
  go_enter Tryd.func56, Tryd.ntmps56
  go_wp2_with (first | (go_at_call 47; (with_reducible refine (isDelay_t a _ (Fl.dl_lt HA.out) HA.out).mono ?_); rintro e w' ⟨rfl, rfl⟩) | (go_at_call 47; (with_reducible refine (isDelay_t m _ (Fl.dl_lt HM.out) HM.out).mono ?_); rintro e w' ⟨rfl, rfl⟩))
  go_loop [8, 23] (fun x i => ∃ k y : Nat, k ≤ n ∧ Fl.Inv a k y ∧ i = .int .i64 k ∧ x = .float .f64 y) (fun _ i => n - (intOf i).toNat)
  case atStart => exact ⟨0, a, Nat.zero_le _, I0, rfl, rfl⟩
  case round =>
    obtain ⟨k, y, hk, hi, rfl, rfl⟩ := hrel
    have hmin : ∀ (ts : Array TypeId) (t : TypeId) (w : World), (Builtin.min_ ts t #[.float .f64 y, .float .f64 m]).run Tryd.prog w = .ok (.float .f64 (Fl.mn2 y m)) w := fun ts t w => run_min_float _ ts t hi.1 HM.out w
    have hpl : Fl.mn2 y m < 18446744073709551616 := Fl.dl_lt (Fl.mn2_plain hi.1 HM.out).2
    have HI := Lib.hid hi
    by_cases hlt : k < n
    · cases hz : decide (Fl.plain y = 0)
      · have t1 : (FloatKind.f64.format.order y 0 == some .eq) = false := by rw [fzero hi.1]; exact hz
        cases hg : decide (Fl.plain m ≤ Fl.plain y)
        · have t2 : (FloatKind.f64.format.order y m == some .gt || FloatKind.f64.format.order y m == some .eq) = false := by rw [fge hi.1 HM.out]; exact hg
          obtain ⟨hy, hs⟩ := Fl.inv_step hi (of_decide_eq_false hz)
          have hmul : ∀ w, (binOp .mul 28 (.float .f64 y) (.float .f64 4611686018427387904)).run Tryd.prog w = .ok (.float .f64 (Fl.dblR y)) w :=
            fun w => run_float_arith w .mul 28 .f64 y _ _ (Fl.mul_two hy)
          clear hi hz hg hy
          go_wp2
          go_round
          case rel => exact ⟨k + 1, _, by omega, hs, by go_num, rfl⟩
          case measure => simp [intOf]; omega
        · have t2 : (FloatKind.f64.format.order y m == some .gt || FloatKind.f64.format.order y m == some .eq) = true := by rw [fge hi.1 HM.out]; exact hg
          have R := Lib.hid (Fl.back_most HA.out hi hk HM.out (of_decide_eq_true hg))
          clear hi hz hg
          go_wp2_with (go_at_call 55; (with_reducible refine (plain_any (Fl.mn2 y m) _ hpl).mono ?_); rintro e w' ⟨rfl, rfl⟩)
          go_ret2
          exact ⟨by rw [← R.out]; rfl, rfl⟩
      · have t1 : (FloatKind.f64.format.order y 0 == some .eq) = true := by rw [fzero hi.1]; exact hz
        have R := Lib.hid (Fl.back_zero hi hk HM.out (of_decide_eq_true hz))
        clear hi hz
        go_wp2_with (go_at_call 55; (with_reducible refine (plain_any (Fl.mn2 y m) _ hpl).mono ?_); rintro e w' ⟨rfl, rfl⟩)
        go_ret2
        exact ⟨by rw [← R.out]; rfl, rfl⟩
    · obtain rfl : k = n := by omega
      have R := Lib.hid (Fl.back_end hi HM.out)
      clear hi
      go_wp2_with (go_at_call 55; (with_reducible refine (plain_any (Fl.mn2 y m) _ hpl).mono ?_); rintro e w' ⟨rfl, rfl⟩)
      go_ret2
      exact ⟨by rw [← R.out]; rfl, rfl⟩

end Go.Proofs.YtanbeaebdingeaaDoor
