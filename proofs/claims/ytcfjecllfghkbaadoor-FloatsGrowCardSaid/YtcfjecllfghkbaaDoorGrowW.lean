/-
  THE WALK OF FloatsGrow (own work).
-/
import Derived.Test.YtcfjecllfghkbaaDoorRows
import Derived.Test.YtcfjecllfghkbaaDoorFz
import Derived.Test.YtcfjecllfghkbaaDoorLaid
namespace Go.Proofs.YtcfjecllfghkbaaDoor
open Go.RowKit

theorem grow_err (a b : Nat) (n : Int) (p : Addr) (w : World)
    (h1 : Calls Tryd.prog 29 #[.float .f64 a, .float .f64 b] w fun e w' => e = .returned (.tuple #[.float .f64 0, .iface 72 (.pointer (some p))]) ∧ Kp w w') :
    Calls Tryd.prog 8 #[.float .f64 a, .float .f64 b, .int .i64 n] w fun e w' => e = .returned (.bool true) ∧ Below w.heap.size w w' := by
  have hif : Tryd.prog.isIface 29 = true := by kernel_rfl
  go_enter Tryd.func8, Tryd.ntmps8
  go_wp2_with (first | (go_at_call 10; (with_reducible refine (alive_any _).mono ?_); rintro e w' ⟨rfl, rfl⟩) | (go_at_call 29; (with_reducible refine h1.mono ?_); rintro e w1 ⟨rfl, hk1⟩))
  go_ret
  exact ⟨rfl, hk1⟩

theorem backoff_okI (a m : Nat) (n : Int) (w : World) (ha : Fl.dl a = true) (hm : Fl.dl m = true) (h0 : 0 ≤ n) (hn : n ≤ 9223372036854775807) :
    Calls Tryd.prog 27 #[.float .f64 a, .int .i64 n, .float .f64 m] w fun e w' => e = .returned (.tuple #[.float .f64 (Fl.backR a n.toNat m), .nilIface]) ∧ w = w' := by
  obtain ⟨k, rfl⟩ := Int.eq_ofNat_of_zero_le h0
  exact backoff_ok a m k w ha hm (by omega)

theorem grow_ok (a b r x y k : Nat) (v n : Int) (w : World) (hk : k ≤ 99) (hT : wrap64 ((IntKind.u64.wrap n).tmod 100) = (k : Int)) (hv : v ≤ 0)
    (h1 : ∀ w, Calls Tryd.prog 29 #[.float .f64 a, .float .f64 b] w fun e w' => e = .returned (.tuple #[.float .f64 r, .nilIface]) ∧ w = w')
    (d1 : ∀ w, Calls Tryd.prog 30 #[.float .f64 r, .float .f64 a] w fun e w' => e = .returned (.bool true) ∧ w = w')
    (d2 : ∀ w, Calls Tryd.prog 30 #[.float .f64 r, .float .f64 b] w fun e w' => e = .returned (.bool true) ∧ w = w')
    (d3 : ∀ w, Calls Tryd.prog 30 #[.float .f64 y, .float .f64 x] w fun e w' => e = .returned (.bool true) ∧ w = w')
    (b1 : ∀ w, Calls Tryd.prog 27 #[.float .f64 b, .int .i64 k, .float .f64 9218868437227405312] w fun e w' => e = .returned (.tuple #[.float .f64 x, .nilIface]) ∧ w = w')
    (b2 : ∀ w, Calls Tryd.prog 27 #[.float .f64 b, .int .i64 (k + 1), .float .f64 9218868437227405312] w fun e w' => e = .returned (.tuple #[.float .f64 y, .nilIface]) ∧ w = w')
    (o1 : ∀ w, Calls Tryd.prog 11 #[.float .f64 x, .float .f64 y] w fun e w' => e = .returned (.int .i64 v) ∧ w = w') :
    Calls Tryd.prog 8 #[.float .f64 a, .float .f64 b, .int .i64 n] w fun e w' => e = .returned (.bool true) ∧ Below w.heap.size w w' := by
  go_enter Tryd.func8, Tryd.ntmps8
  go_wp2_with (first | (go_at_call 10; (with_reducible refine (alive_any _).mono ?_); rintro e w' ⟨rfl, rfl⟩) | (go_at_call 29; (with_reducible refine (h1 _).mono ?_); rintro e w' ⟨rfl, rfl⟩) | (go_at_call 24; (with_reducible refine (inf_one _).mono ?_); rintro e w' ⟨rfl, rfl⟩) | (go_at_call 27; (with_reducible refine (b1 _).mono ?_); rintro e w' ⟨rfl, rfl⟩) | (go_at_call 27; (with_reducible refine (b2 _).mono ?_); rintro e w' ⟨rfl, rfl⟩) | (go_at_call 30; (with_reducible refine (d1 _).mono ?_); rintro e w' ⟨rfl, rfl⟩) | (go_at_call 30; (with_reducible refine (d2 _).mono ?_); rintro e w' ⟨rfl, rfl⟩) | (go_at_call 30; (with_reducible refine (d3 _).mono ?_); rintro e w' ⟨rfl, rfl⟩) | (go_at_call 11; (with_reducible refine (o1 _).mono ?_); rintro e w' ⟨rfl, rfl⟩))
  go_ret
  exact ⟨rfl, Kp.refl _⟩

theorem due_yes (a b : Nat) (w : World) (ha : Fl.dl a = true) (hb : Fl.dl b = true) (h : Fl.plain b ≤ Fl.plain a) :
    Calls Tryd.prog 30 #[.float .f64 a, .float .f64 b] w fun e w' => e = .returned (.bool true) ∧ w = w' := by
  have g := due_ok a b w ha hb
  rw [decide_eq_true h] at g
  exact g

theorem floatsGrow_walk (a b : Nat) (n : Int) (W : World) (ha : a < 18446744073709551616) (hb : b < 18446744073709551616) (_hn : -9223372036854775808 ≤ n ∧ n ≤ 9223372036854775807)
    (hL : laidMetH Tryd.prog Rows.floatsGrowRow.laid W) :
    Calls Tryd.prog 8 #[.float .f64 a, .float .f64 b, .int .i64 n] W fun e w' => e = .returned (.bool true) ∧ Below W.heap.size W w' := by
  obtain ⟨ads, E⟩ := errs2_of_laid rfl hL
  by_cases hd : Fl.dl a = false ∨ Fl.dl b = false
  · exact grow_err a b n _ W (later_err a b _ W ha hb hd (E.cell 1 (by decide)))
  · have da : Fl.dl a = true := by cases g : Fl.dl a; exact absurd (Or.inl g) hd; rfl
    have db : Fl.dl b = true := by cases g : Fl.dl b; exact absurd (Or.inr g) hd; rfl
    obtain ⟨r, hr, dr, ra, rb⟩ := Fl.add_delay da db
    have hu : 0 ≤ (IntKind.u64.wrap n).tmod 100 ∧ (IntKind.u64.wrap n).tmod 100 ≤ 99 := by
      rw [IntKind.wrap_u64, Int.tmod_eq_emod_of_nonneg (by omega)]; omega
    obtain ⟨k, hk⟩ := Int.eq_ofNat_of_zero_le hu.1
    have hT : wrap64 ((IntKind.u64.wrap n).tmod 100) = (k : Int) := by rw [IntWalk.wrap64_in _ (by omega)]; exact hk
    have dinf : Fl.dl 9218868437227405312 = true := by kernel_rfl
    have pb := (Fl.dl_plain db).1
    have bk : ∀ j, Fl.backR b j 9218868437227405312 = Fl.dbls j (Fl.plain b) := by
      intro j
      have := Fl.dbls_le pb j
      have e : Fl.plain 9218868437227405312 = 9218868437227405312 := by kernel_rfl
      unfold Fl.backR
      rw [e]; omega
    have hx := Fl.dbls_le pb k
    have hy := Fl.dbls_le pb (k + 1)
    have hxy := Fl.dbls_mono pb (Nat.le_succ k)
    have cs := Fl.cmpN_spec (Fl.dbls k (Fl.plain b)) (Fl.dbls (k + 1) (Fl.plain b))
    refine grow_ok a b r (Fl.dbls k (Fl.plain b)) (Fl.dbls (k + 1) (Fl.plain b)) k (Fl.cmpN (Fl.dbls k (Fl.plain b)) (Fl.dbls (k + 1) (Fl.plain b))) n W (by omega) hT ?_
      (fun w => later_ok a b r w da db hr) (fun w => due_yes r a w dr da ra) (fun w => due_yes r b w dr db rb)
      (fun w => due_yes _ _ w (Fl.dl_of_le hy).1 (Fl.dl_of_le hx).1 (by rw [(Fl.dl_of_le hy).2.2, (Fl.dl_of_le hx).2.2]; exact hxy))
      (fun w => ?_) (fun w => ?_) (fun w => ?_)
    · have hxy' : Fl.dbls k (Fl.plain b) ≤ Fl.dbls (k + 1) (Fl.plain b) := hxy
      generalize Fl.dbls (k + 1) (Fl.plain b) = y at *
      generalize Fl.dbls k (Fl.plain b) = x at *
      rcases cs with ⟨c, _⟩ | ⟨_, c⟩ | ⟨c, _⟩
      · rw [c]; decide
      · omega
      · rw [c]; decide
    · rw [← bk]; exact backoff_ok b _ k w db dinf (by omega)
    · rw [← bk]
      have := backoff_ok b 9218868437227405312 (k + 1) w db dinf (by omega)
      simpa using this
    · rw [← Fl.ord_of_le hx hy]; exact order_any _ _ w (by omega) (by omega)

end Go.Proofs.YtcfjecllfghkbaaDoor
