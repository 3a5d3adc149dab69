/-
  FloatsOne: for every three floats the law returns true, and its arguments read as before (the two listed error variables hold what the program's text lays).
-/
import Derived.Test.YtcfjecllfghkbaaDoorCards
import Derived.Test.YtcfjecllfghkbaaDoorTie
import Derived.Test.YtcfjecllfghkbaaDoorFrame
import Derived.Test.YtcfjecllfghkbaaDoorFy
import Derived.SevenTiedAt
namespace Go.Proofs.YtcfjecllfghkbaaDoor
open Go.ChangeShapes Go.WideShapes Go.ChangeAt Go.WideMaps Go.WideElems Go.RowKit

theorem bits_any (b : Nat) (w : World) (hb : b < 18446744073709551616) :
    Calls Tryd.prog 18 #[.float .f64 b] w fun e w' => e = .returned (.int .u64 (Fl.plain b)) ∧ w = w' := by
  have e1 := ext_bits
  go_enter Tryd.func18, Tryd.ntmps18
  go_wp2_with (go_at_call 13; refine (plain_any _ _ hb).mono ?_; rintro e w' ⟨rfl, rfl⟩)
  go_ret
  exact ⟨rfl, rfl⟩

set_option maxHeartbeats 1000000 in
theorem one_p_f (a b c : Nat) (y z : Int) (m n : Int) (w : World)
    (o1 : ∀ w, Calls Tryd.prog 11 #[.float .f64 a, .float .f64 b] w fun e w' => e = .returned (.int .i64 1) ∧ w = w')
    (o2 : ∀ w, Calls Tryd.prog 11 #[.float .f64 b, .float .f64 c] w fun e w' => e = .returned (.int .i64 y) ∧ w = w')
    (o3 : ∀ w, Calls Tryd.prog 11 #[.float .f64 a, .float .f64 c] w fun e w' => e = .returned (.int .i64 z) ∧ w = w')
    (o4 : ∀ w, Calls Tryd.prog 11 #[.float .f64 a, .float .f64 a] w fun e w' => e = .returned (.int .i64 0) ∧ w = w')
    (b1 : ∀ w, Calls Tryd.prog 18 #[.float .f64 a] w fun e w' => e = .returned (.int .u64 m) ∧ w = w')
    (b2 : ∀ w, Calls Tryd.prog 18 #[.float .f64 b] w fun e w' => e = .returned (.int .u64 n) ∧ w = w')
    (q1 : (FloatKind.f64.format.order a b == some .lt) = false) (z1 : (FloatKind.f64.format.order a 0 == some .eq) = false) (hmn : (m == n) = false) :
    Calls Tryd.prog 7 #[.float .f64 a, .float .f64 b, .float .f64 c] w fun e w' => e = .returned (.bool true) ∧ w = w' := by
  go_enter Tryd.func7, Tryd.ntmps7
  go_wp2_with (first | (go_at_call 10; (with_reducible refine (alive_any _).mono ?_); rintro e w' ⟨rfl, rfl⟩) | (go_at_call 11; (with_reducible refine (o1 _).mono ?_); rintro e w' ⟨rfl, rfl⟩) | (go_at_call 11; (with_reducible refine (o2 _).mono ?_); rintro e w' ⟨rfl, rfl⟩) | (go_at_call 11; (with_reducible refine (o3 _).mono ?_); rintro e w' ⟨rfl, rfl⟩) | (go_at_call 11; (with_reducible refine (o4 _).mono ?_); rintro e w' ⟨rfl, rfl⟩) | (go_at_call 18; (with_reducible refine (b1 _).mono ?_); rintro e w' ⟨rfl, rfl⟩) | (go_at_call 18; (with_reducible refine (b2 _).mono ?_); rintro e w' ⟨rfl, rfl⟩))
  all_goals (go_ret; exact ⟨rfl, rfl⟩)

set_option maxHeartbeats 1000000 in
theorem one_p_tf (a b c : Nat) (y z : Int) (m n : Int) (w : World)
    (o1 : ∀ w, Calls Tryd.prog 11 #[.float .f64 a, .float .f64 b] w fun e w' => e = .returned (.int .i64 1) ∧ w = w')
    (o2 : ∀ w, Calls Tryd.prog 11 #[.float .f64 b, .float .f64 c] w fun e w' => e = .returned (.int .i64 y) ∧ w = w')
    (o3 : ∀ w, Calls Tryd.prog 11 #[.float .f64 a, .float .f64 c] w fun e w' => e = .returned (.int .i64 z) ∧ w = w')
    (o4 : ∀ w, Calls Tryd.prog 11 #[.float .f64 a, .float .f64 a] w fun e w' => e = .returned (.int .i64 0) ∧ w = w')
    (b1 : ∀ w, Calls Tryd.prog 18 #[.float .f64 a] w fun e w' => e = .returned (.int .u64 m) ∧ w = w')
    (b2 : ∀ w, Calls Tryd.prog 18 #[.float .f64 b] w fun e w' => e = .returned (.int .u64 n) ∧ w = w')
    (q1 : (FloatKind.f64.format.order a b == some .lt) = false) (z1 : (FloatKind.f64.format.order a 0 == some .eq) = true) (z2 : (FloatKind.f64.format.order b 0 == some .eq) = false) (hmn : (m == n) = false) :
    Calls Tryd.prog 7 #[.float .f64 a, .float .f64 b, .float .f64 c] w fun e w' => e = .returned (.bool true) ∧ w = w' := by
  go_enter Tryd.func7, Tryd.ntmps7
  go_wp2_with (first | (go_at_call 10; (with_reducible refine (alive_any _).mono ?_); rintro e w' ⟨rfl, rfl⟩) | (go_at_call 11; (with_reducible refine (o1 _).mono ?_); rintro e w' ⟨rfl, rfl⟩) | (go_at_call 11; (with_reducible refine (o2 _).mono ?_); rintro e w' ⟨rfl, rfl⟩) | (go_at_call 11; (with_reducible refine (o3 _).mono ?_); rintro e w' ⟨rfl, rfl⟩) | (go_at_call 11; (with_reducible refine (o4 _).mono ?_); rintro e w' ⟨rfl, rfl⟩) | (go_at_call 18; (with_reducible refine (b1 _).mono ?_); rintro e w' ⟨rfl, rfl⟩) | (go_at_call 18; (with_reducible refine (b2 _).mono ?_); rintro e w' ⟨rfl, rfl⟩))
  all_goals (go_ret; exact ⟨rfl, rfl⟩)

set_option maxHeartbeats 1000000 in
theorem one_p_tt (a b c : Nat) (y z : Int)  (w : World)
    (o1 : ∀ w, Calls Tryd.prog 11 #[.float .f64 a, .float .f64 b] w fun e w' => e = .returned (.int .i64 1) ∧ w = w')
    (o2 : ∀ w, Calls Tryd.prog 11 #[.float .f64 b, .float .f64 c] w fun e w' => e = .returned (.int .i64 y) ∧ w = w')
    (o3 : ∀ w, Calls Tryd.prog 11 #[.float .f64 a, .float .f64 c] w fun e w' => e = .returned (.int .i64 z) ∧ w = w')
    (o4 : ∀ w, Calls Tryd.prog 11 #[.float .f64 a, .float .f64 a] w fun e w' => e = .returned (.int .i64 0) ∧ w = w')
    
    (q1 : (FloatKind.f64.format.order a b == some .lt) = false) (z1 : (FloatKind.f64.format.order a 0 == some .eq) = true) (z2 : (FloatKind.f64.format.order b 0 == some .eq) = true) :
    Calls Tryd.prog 7 #[.float .f64 a, .float .f64 b, .float .f64 c] w fun e w' => e = .returned (.bool true) ∧ w = w' := by
  go_enter Tryd.func7, Tryd.ntmps7
  go_wp2_with (first | (go_at_call 10; (with_reducible refine (alive_any _).mono ?_); rintro e w' ⟨rfl, rfl⟩) | (go_at_call 11; (with_reducible refine (o1 _).mono ?_); rintro e w' ⟨rfl, rfl⟩) | (go_at_call 11; (with_reducible refine (o2 _).mono ?_); rintro e w' ⟨rfl, rfl⟩) | (go_at_call 11; (with_reducible refine (o3 _).mono ?_); rintro e w' ⟨rfl, rfl⟩) | (go_at_call 11; (with_reducible refine (o4 _).mono ?_); rintro e w' ⟨rfl, rfl⟩))
  all_goals (go_ret; exact ⟨rfl, rfl⟩)

set_option maxHeartbeats 1000000 in
theorem one_mp_f (a b c : Nat) (z : Int) (m n : Int) (w : World)
    (o1 : ∀ w, Calls Tryd.prog 11 #[.float .f64 a, .float .f64 b] w fun e w' => e = .returned (.int .i64 (-1)) ∧ w = w')
    (o2 : ∀ w, Calls Tryd.prog 11 #[.float .f64 b, .float .f64 c] w fun e w' => e = .returned (.int .i64 1) ∧ w = w')
    (o3 : ∀ w, Calls Tryd.prog 11 #[.float .f64 a, .float .f64 c] w fun e w' => e = .returned (.int .i64 z) ∧ w = w')
    (o4 : ∀ w, Calls Tryd.prog 11 #[.float .f64 a, .float .f64 a] w fun e w' => e = .returned (.int .i64 0) ∧ w = w')
    (b1 : ∀ w, Calls Tryd.prog 18 #[.float .f64 a] w fun e w' => e = .returned (.int .u64 m) ∧ w = w')
    (b2 : ∀ w, Calls Tryd.prog 18 #[.float .f64 b] w fun e w' => e = .returned (.int .u64 n) ∧ w = w')
    (q2 : (FloatKind.f64.format.order a b == some .gt) = false) (z1 : (FloatKind.f64.format.order a 0 == some .eq) = false) (hmn : (m == n) = false) :
    Calls Tryd.prog 7 #[.float .f64 a, .float .f64 b, .float .f64 c] w fun e w' => e = .returned (.bool true) ∧ w = w' := by
  go_enter Tryd.func7, Tryd.ntmps7
  go_wp2_with (first | (go_at_call 10; (with_reducible refine (alive_any _).mono ?_); rintro e w' ⟨rfl, rfl⟩) | (go_at_call 11; (with_reducible refine (o1 _).mono ?_); rintro e w' ⟨rfl, rfl⟩) | (go_at_call 11; (with_reducible refine (o2 _).mono ?_); rintro e w' ⟨rfl, rfl⟩) | (go_at_call 11; (with_reducible refine (o3 _).mono ?_); rintro e w' ⟨rfl, rfl⟩) | (go_at_call 11; (with_reducible refine (o4 _).mono ?_); rintro e w' ⟨rfl, rfl⟩) | (go_at_call 18; (with_reducible refine (b1 _).mono ?_); rintro e w' ⟨rfl, rfl⟩) | (go_at_call 18; (with_reducible refine (b2 _).mono ?_); rintro e w' ⟨rfl, rfl⟩))
  all_goals (go_ret; exact ⟨rfl, rfl⟩)

set_option maxHeartbeats 1000000 in
theorem one_mp_tf (a b c : Nat) (z : Int) (m n : Int) (w : World)
    (o1 : ∀ w, Calls Tryd.prog 11 #[.float .f64 a, .float .f64 b] w fun e w' => e = .returned (.int .i64 (-1)) ∧ w = w')
    (o2 : ∀ w, Calls Tryd.prog 11 #[.float .f64 b, .float .f64 c] w fun e w' => e = .returned (.int .i64 1) ∧ w = w')
    (o3 : ∀ w, Calls Tryd.prog 11 #[.float .f64 a, .float .f64 c] w fun e w' => e = .returned (.int .i64 z) ∧ w = w')
    (o4 : ∀ w, Calls Tryd.prog 11 #[.float .f64 a, .float .f64 a] w fun e w' => e = .returned (.int .i64 0) ∧ w = w')
    (b1 : ∀ w, Calls Tryd.prog 18 #[.float .f64 a] w fun e w' => e = .returned (.int .u64 m) ∧ w = w')
    (b2 : ∀ w, Calls Tryd.prog 18 #[.float .f64 b] w fun e w' => e = .returned (.int .u64 n) ∧ w = w')
    (q2 : (FloatKind.f64.format.order a b == some .gt) = false) (z1 : (FloatKind.f64.format.order a 0 == some .eq) = true) (z2 : (FloatKind.f64.format.order b 0 == some .eq) = false) (hmn : (m == n) = false) :
    Calls Tryd.prog 7 #[.float .f64 a, .float .f64 b, .float .f64 c] w fun e w' => e = .returned (.bool true) ∧ w = w' := by
  go_enter Tryd.func7, Tryd.ntmps7
  go_wp2_with (first | (go_at_call 10; (with_reducible refine (alive_any _).mono ?_); rintro e w' ⟨rfl, rfl⟩) | (go_at_call 11; (with_reducible refine (o1 _).mono ?_); rintro e w' ⟨rfl, rfl⟩) | (go_at_call 11; (with_reducible refine (o2 _).mono ?_); rintro e w' ⟨rfl, rfl⟩) | (go_at_call 11; (with_reducible refine (o3 _).mono ?_); rintro e w' ⟨rfl, rfl⟩) | (go_at_call 11; (with_reducible refine (o4 _).mono ?_); rintro e w' ⟨rfl, rfl⟩) | (go_at_call 18; (with_reducible refine (b1 _).mono ?_); rintro e w' ⟨rfl, rfl⟩) | (go_at_call 18; (with_reducible refine (b2 _).mono ?_); rintro e w' ⟨rfl, rfl⟩))
  all_goals (go_ret; exact ⟨rfl, rfl⟩)

set_option maxHeartbeats 1000000 in
theorem one_mp_tt (a b c : Nat) (z : Int)  (w : World)
    (o1 : ∀ w, Calls Tryd.prog 11 #[.float .f64 a, .float .f64 b] w fun e w' => e = .returned (.int .i64 (-1)) ∧ w = w')
    (o2 : ∀ w, Calls Tryd.prog 11 #[.float .f64 b, .float .f64 c] w fun e w' => e = .returned (.int .i64 1) ∧ w = w')
    (o3 : ∀ w, Calls Tryd.prog 11 #[.float .f64 a, .float .f64 c] w fun e w' => e = .returned (.int .i64 z) ∧ w = w')
    (o4 : ∀ w, Calls Tryd.prog 11 #[.float .f64 a, .float .f64 a] w fun e w' => e = .returned (.int .i64 0) ∧ w = w')
    
    (q2 : (FloatKind.f64.format.order a b == some .gt) = false) (z1 : (FloatKind.f64.format.order a 0 == some .eq) = true) (z2 : (FloatKind.f64.format.order b 0 == some .eq) = true) :
    Calls Tryd.prog 7 #[.float .f64 a, .float .f64 b, .float .f64 c] w fun e w' => e = .returned (.bool true) ∧ w = w' := by
  go_enter Tryd.func7, Tryd.ntmps7
  go_wp2_with (first | (go_at_call 10; (with_reducible refine (alive_any _).mono ?_); rintro e w' ⟨rfl, rfl⟩) | (go_at_call 11; (with_reducible refine (o1 _).mono ?_); rintro e w' ⟨rfl, rfl⟩) | (go_at_call 11; (with_reducible refine (o2 _).mono ?_); rintro e w' ⟨rfl, rfl⟩) | (go_at_call 11; (with_reducible refine (o3 _).mono ?_); rintro e w' ⟨rfl, rfl⟩) | (go_at_call 11; (with_reducible refine (o4 _).mono ?_); rintro e w' ⟨rfl, rfl⟩))
  all_goals (go_ret; exact ⟨rfl, rfl⟩)

set_option maxHeartbeats 1000000 in
theorem one_zp_f (a b c : Nat) (z : Int) (m : Int) (w : World)
    (o1 : ∀ w, Calls Tryd.prog 11 #[.float .f64 a, .float .f64 b] w fun e w' => e = .returned (.int .i64 0) ∧ w = w')
    (o2 : ∀ w, Calls Tryd.prog 11 #[.float .f64 b, .float .f64 c] w fun e w' => e = .returned (.int .i64 1) ∧ w = w')
    (o3 : ∀ w, Calls Tryd.prog 11 #[.float .f64 a, .float .f64 c] w fun e w' => e = .returned (.int .i64 z) ∧ w = w')
    (o4 : ∀ w, Calls Tryd.prog 11 #[.float .f64 a, .float .f64 a] w fun e w' => e = .returned (.int .i64 0) ∧ w = w')
    (b1 : ∀ w, Calls Tryd.prog 18 #[.float .f64 a] w fun e w' => e = .returned (.int .u64 m) ∧ w = w')
    (b2 : ∀ w, Calls Tryd.prog 18 #[.float .f64 b] w fun e w' => e = .returned (.int .u64 m) ∧ w = w')
    (q1 : (FloatKind.f64.format.order a b == some .lt) = false) (q2 : (FloatKind.f64.format.order a b == some .gt) = false) (z1 : (FloatKind.f64.format.order a 0 == some .eq) = false) :
    Calls Tryd.prog 7 #[.float .f64 a, .float .f64 b, .float .f64 c] w fun e w' => e = .returned (.bool true) ∧ w = w' := by
  go_enter Tryd.func7, Tryd.ntmps7
  go_wp2_with (first | (go_at_call 10; (with_reducible refine (alive_any _).mono ?_); rintro e w' ⟨rfl, rfl⟩) | (go_at_call 11; (with_reducible refine (o1 _).mono ?_); rintro e w' ⟨rfl, rfl⟩) | (go_at_call 11; (with_reducible refine (o2 _).mono ?_); rintro e w' ⟨rfl, rfl⟩) | (go_at_call 11; (with_reducible refine (o3 _).mono ?_); rintro e w' ⟨rfl, rfl⟩) | (go_at_call 11; (with_reducible refine (o4 _).mono ?_); rintro e w' ⟨rfl, rfl⟩) | (go_at_call 18; (with_reducible refine (b1 _).mono ?_); rintro e w' ⟨rfl, rfl⟩) | (go_at_call 18; (with_reducible refine (b2 _).mono ?_); rintro e w' ⟨rfl, rfl⟩))
  all_goals (go_ret; exact ⟨rfl, rfl⟩)

set_option maxHeartbeats 1000000 in
theorem one_zp_tf (a b c : Nat) (z : Int) (m : Int) (w : World)
    (o1 : ∀ w, Calls Tryd.prog 11 #[.float .f64 a, .float .f64 b] w fun e w' => e = .returned (.int .i64 0) ∧ w = w')
    (o2 : ∀ w, Calls Tryd.prog 11 #[.float .f64 b, .float .f64 c] w fun e w' => e = .returned (.int .i64 1) ∧ w = w')
    (o3 : ∀ w, Calls Tryd.prog 11 #[.float .f64 a, .float .f64 c] w fun e w' => e = .returned (.int .i64 z) ∧ w = w')
    (o4 : ∀ w, Calls Tryd.prog 11 #[.float .f64 a, .float .f64 a] w fun e w' => e = .returned (.int .i64 0) ∧ w = w')
    (b1 : ∀ w, Calls Tryd.prog 18 #[.float .f64 a] w fun e w' => e = .returned (.int .u64 m) ∧ w = w')
    (b2 : ∀ w, Calls Tryd.prog 18 #[.float .f64 b] w fun e w' => e = .returned (.int .u64 m) ∧ w = w')
    (q1 : (FloatKind.f64.format.order a b == some .lt) = false) (q2 : (FloatKind.f64.format.order a b == some .gt) = false) (z1 : (FloatKind.f64.format.order a 0 == some .eq) = true) (z2 : (FloatKind.f64.format.order b 0 == some .eq) = false) :
    Calls Tryd.prog 7 #[.float .f64 a, .float .f64 b, .float .f64 c] w fun e w' => e = .returned (.bool true) ∧ w = w' := by
  go_enter Tryd.func7, Tryd.ntmps7
  go_wp2_with (first | (go_at_call 10; (with_reducible refine (alive_any _).mono ?_); rintro e w' ⟨rfl, rfl⟩) | (go_at_call 11; (with_reducible refine (o1 _).mono ?_); rintro e w' ⟨rfl, rfl⟩) | (go_at_call 11; (with_reducible refine (o2 _).mono ?_); rintro e w' ⟨rfl, rfl⟩) | (go_at_call 11; (with_reducible refine (o3 _).mono ?_); rintro e w' ⟨rfl, rfl⟩) | (go_at_call 11; (with_reducible refine (o4 _).mono ?_); rintro e w' ⟨rfl, rfl⟩) | (go_at_call 18; (with_reducible refine (b1 _).mono ?_); rintro e w' ⟨rfl, rfl⟩) | (go_at_call 18; (with_reducible refine (b2 _).mono ?_); rintro e w' ⟨rfl, rfl⟩))
  all_goals (go_ret; exact ⟨rfl, rfl⟩)

set_option maxHeartbeats 1000000 in
theorem one_zp_tt (a b c : Nat) (z : Int)  (w : World)
    (o1 : ∀ w, Calls Tryd.prog 11 #[.float .f64 a, .float .f64 b] w fun e w' => e = .returned (.int .i64 0) ∧ w = w')
    (o2 : ∀ w, Calls Tryd.prog 11 #[.float .f64 b, .float .f64 c] w fun e w' => e = .returned (.int .i64 1) ∧ w = w')
    (o3 : ∀ w, Calls Tryd.prog 11 #[.float .f64 a, .float .f64 c] w fun e w' => e = .returned (.int .i64 z) ∧ w = w')
    (o4 : ∀ w, Calls Tryd.prog 11 #[.float .f64 a, .float .f64 a] w fun e w' => e = .returned (.int .i64 0) ∧ w = w')
    
    (q1 : (FloatKind.f64.format.order a b == some .lt) = false) (q2 : (FloatKind.f64.format.order a b == some .gt) = false) (z1 : (FloatKind.f64.format.order a 0 == some .eq) = true) (z2 : (FloatKind.f64.format.order b 0 == some .eq) = true) :
    Calls Tryd.prog 7 #[.float .f64 a, .float .f64 b, .float .f64 c] w fun e w' => e = .returned (.bool true) ∧ w = w' := by
  go_enter Tryd.func7, Tryd.ntmps7
  go_wp2_with (first | (go_at_call 10; (with_reducible refine (alive_any _).mono ?_); rintro e w' ⟨rfl, rfl⟩) | (go_at_call 11; (with_reducible refine (o1 _).mono ?_); rintro e w' ⟨rfl, rfl⟩) | (go_at_call 11; (with_reducible refine (o2 _).mono ?_); rintro e w' ⟨rfl, rfl⟩) | (go_at_call 11; (with_reducible refine (o3 _).mono ?_); rintro e w' ⟨rfl, rfl⟩) | (go_at_call 11; (with_reducible refine (o4 _).mono ?_); rintro e w' ⟨rfl, rfl⟩))
  all_goals (go_ret; exact ⟨rfl, rfl⟩)

set_option maxHeartbeats 1000000 in
theorem one_mm_f (a b c : Nat) (m n : Int) (w : World)
    (o1 : ∀ w, Calls Tryd.prog 11 #[.float .f64 a, .float .f64 b] w fun e w' => e = .returned (.int .i64 (-1)) ∧ w = w')
    (o2 : ∀ w, Calls Tryd.prog 11 #[.float .f64 b, .float .f64 c] w fun e w' => e = .returned (.int .i64 (-1)) ∧ w = w')
    (o3 : ∀ w, Calls Tryd.prog 11 #[.float .f64 a, .float .f64 c] w fun e w' => e = .returned (.int .i64 (-1)) ∧ w = w')
    (o4 : ∀ w, Calls Tryd.prog 11 #[.float .f64 a, .float .f64 a] w fun e w' => e = .returned (.int .i64 0) ∧ w = w')
    (b1 : ∀ w, Calls Tryd.prog 18 #[.float .f64 a] w fun e w' => e = .returned (.int .u64 m) ∧ w = w')
    (b2 : ∀ w, Calls Tryd.prog 18 #[.float .f64 b] w fun e w' => e = .returned (.int .u64 n) ∧ w = w')
    (q2 : (FloatKind.f64.format.order a b == some .gt) = false) (z1 : (FloatKind.f64.format.order a 0 == some .eq) = false) (hmn : (m == n) = false) :
    Calls Tryd.prog 7 #[.float .f64 a, .float .f64 b, .float .f64 c] w fun e w' => e = .returned (.bool true) ∧ w = w' := by
  go_enter Tryd.func7, Tryd.ntmps7
  go_wp2_with (first | (go_at_call 10; (with_reducible refine (alive_any _).mono ?_); rintro e w' ⟨rfl, rfl⟩) | (go_at_call 11; (with_reducible refine (o1 _).mono ?_); rintro e w' ⟨rfl, rfl⟩) | (go_at_call 11; (with_reducible refine (o2 _).mono ?_); rintro e w' ⟨rfl, rfl⟩) | (go_at_call 11; (with_reducible refine (o3 _).mono ?_); rintro e w' ⟨rfl, rfl⟩) | (go_at_call 11; (with_reducible refine (o4 _).mono ?_); rintro e w' ⟨rfl, rfl⟩) | (go_at_call 18; (with_reducible refine (b1 _).mono ?_); rintro e w' ⟨rfl, rfl⟩) | (go_at_call 18; (with_reducible refine (b2 _).mono ?_); rintro e w' ⟨rfl, rfl⟩))
  all_goals (go_ret; exact ⟨rfl, rfl⟩)

set_option maxHeartbeats 1000000 in
theorem one_mm_tf (a b c : Nat) (m n : Int) (w : World)
    (o1 : ∀ w, Calls Tryd.prog 11 #[.float .f64 a, .float .f64 b] w fun e w' => e = .returned (.int .i64 (-1)) ∧ w = w')
    (o2 : ∀ w, Calls Tryd.prog 11 #[.float .f64 b, .float .f64 c] w fun e w' => e = .returned (.int .i64 (-1)) ∧ w = w')
    (o3 : ∀ w, Calls Tryd.prog 11 #[.float .f64 a, .float .f64 c] w fun e w' => e = .returned (.int .i64 (-1)) ∧ w = w')
    (o4 : ∀ w, Calls Tryd.prog 11 #[.float .f64 a, .float .f64 a] w fun e w' => e = .returned (.int .i64 0) ∧ w = w')
    (b1 : ∀ w, Calls Tryd.prog 18 #[.float .f64 a] w fun e w' => e = .returned (.int .u64 m) ∧ w = w')
    (b2 : ∀ w, Calls Tryd.prog 18 #[.float .f64 b] w fun e w' => e = .returned (.int .u64 n) ∧ w = w')
    (q2 : (FloatKind.f64.format.order a b == some .gt) = false) (z1 : (FloatKind.f64.format.order a 0 == some .eq) = true) (z2 : (FloatKind.f64.format.order b 0 == some .eq) = false) (hmn : (m == n) = false) :
    Calls Tryd.prog 7 #[.float .f64 a, .float .f64 b, .float .f64 c] w fun e w' => e = .returned (.bool true) ∧ w = w' := by
  go_enter Tryd.func7, Tryd.ntmps7
  go_wp2_with (first | (go_at_call 10; (with_reducible refine (alive_any _).mono ?_); rintro e w' ⟨rfl, rfl⟩) | (go_at_call 11; (with_reducible refine (o1 _).mono ?_); rintro e w' ⟨rfl, rfl⟩) | (go_at_call 11; (with_reducible refine (o2 _).mono ?_); rintro e w' ⟨rfl, rfl⟩) | (go_at_call 11; (with_reducible refine (o3 _).mono ?_); rintro e w' ⟨rfl, rfl⟩) | (go_at_call 11; (with_reducible refine (o4 _).mono ?_); rintro e w' ⟨rfl, rfl⟩) | (go_at_call 18; (with_reducible refine (b1 _).mono ?_); rintro e w' ⟨rfl, rfl⟩) | (go_at_call 18; (with_reducible refine (b2 _).mono ?_); rintro e w' ⟨rfl, rfl⟩))
  all_goals (go_ret; exact ⟨rfl, rfl⟩)

set_option maxHeartbeats 1000000 in
theorem one_mm_tt (a b c : Nat)  (w : World)
    (o1 : ∀ w, Calls Tryd.prog 11 #[.float .f64 a, .float .f64 b] w fun e w' => e = .returned (.int .i64 (-1)) ∧ w = w')
    (o2 : ∀ w, Calls Tryd.prog 11 #[.float .f64 b, .float .f64 c] w fun e w' => e = .returned (.int .i64 (-1)) ∧ w = w')
    (o3 : ∀ w, Calls Tryd.prog 11 #[.float .f64 a, .float .f64 c] w fun e w' => e = .returned (.int .i64 (-1)) ∧ w = w')
    (o4 : ∀ w, Calls Tryd.prog 11 #[.float .f64 a, .float .f64 a] w fun e w' => e = .returned (.int .i64 0) ∧ w = w')
    
    (q2 : (FloatKind.f64.format.order a b == some .gt) = false) (z1 : (FloatKind.f64.format.order a 0 == some .eq) = true) (z2 : (FloatKind.f64.format.order b 0 == some .eq) = true) :
    Calls Tryd.prog 7 #[.float .f64 a, .float .f64 b, .float .f64 c] w fun e w' => e = .returned (.bool true) ∧ w = w' := by
  go_enter Tryd.func7, Tryd.ntmps7
  go_wp2_with (first | (go_at_call 10; (with_reducible refine (alive_any _).mono ?_); rintro e w' ⟨rfl, rfl⟩) | (go_at_call 11; (with_reducible refine (o1 _).mono ?_); rintro e w' ⟨rfl, rfl⟩) | (go_at_call 11; (with_reducible refine (o2 _).mono ?_); rintro e w' ⟨rfl, rfl⟩) | (go_at_call 11; (with_reducible refine (o3 _).mono ?_); rintro e w' ⟨rfl, rfl⟩) | (go_at_call 11; (with_reducible refine (o4 _).mono ?_); rintro e w' ⟨rfl, rfl⟩))
  all_goals (go_ret; exact ⟨rfl, rfl⟩)

set_option maxHeartbeats 1000000 in
theorem one_mz_f (a b c : Nat) (m n : Int) (w : World)
    (o1 : ∀ w, Calls Tryd.prog 11 #[.float .f64 a, .float .f64 b] w fun e w' => e = .returned (.int .i64 (-1)) ∧ w = w')
    (o2 : ∀ w, Calls Tryd.prog 11 #[.float .f64 b, .float .f64 c] w fun e w' => e = .returned (.int .i64 0) ∧ w = w')
    (o3 : ∀ w, Calls Tryd.prog 11 #[.float .f64 a, .float .f64 c] w fun e w' => e = .returned (.int .i64 (-1)) ∧ w = w')
    (o4 : ∀ w, Calls Tryd.prog 11 #[.float .f64 a, .float .f64 a] w fun e w' => e = .returned (.int .i64 0) ∧ w = w')
    (b1 : ∀ w, Calls Tryd.prog 18 #[.float .f64 a] w fun e w' => e = .returned (.int .u64 m) ∧ w = w')
    (b2 : ∀ w, Calls Tryd.prog 18 #[.float .f64 b] w fun e w' => e = .returned (.int .u64 n) ∧ w = w')
    (q2 : (FloatKind.f64.format.order a b == some .gt) = false) (z1 : (FloatKind.f64.format.order a 0 == some .eq) = false) (hmn : (m == n) = false) :
    Calls Tryd.prog 7 #[.float .f64 a, .float .f64 b, .float .f64 c] w fun e w' => e = .returned (.bool true) ∧ w = w' := by
  go_enter Tryd.func7, Tryd.ntmps7
  go_wp2_with (first | (go_at_call 10; (with_reducible refine (alive_any _).mono ?_); rintro e w' ⟨rfl, rfl⟩) | (go_at_call 11; (with_reducible refine (o1 _).mono ?_); rintro e w' ⟨rfl, rfl⟩) | (go_at_call 11; (with_reducible refine (o2 _).mono ?_); rintro e w' ⟨rfl, rfl⟩) | (go_at_call 11; (with_reducible refine (o3 _).mono ?_); rintro e w' ⟨rfl, rfl⟩) | (go_at_call 11; (with_reducible refine (o4 _).mono ?_); rintro e w' ⟨rfl, rfl⟩) | (go_at_call 18; (with_reducible refine (b1 _).mono ?_); rintro e w' ⟨rfl, rfl⟩) | (go_at_call 18; (with_reducible refine (b2 _).mono ?_); rintro e w' ⟨rfl, rfl⟩))
  all_goals (go_ret; exact ⟨rfl, rfl⟩)

set_option maxHeartbeats 1000000 in
theorem one_mz_tf (a b c : Nat) (m n : Int) (w : World)
    (o1 : ∀ w, Calls Tryd.prog 11 #[.float .f64 a, .float .f64 b] w fun e w' => e = .returned (.int .i64 (-1)) ∧ w = w')
    (o2 : ∀ w, Calls Tryd.prog 11 #[.float .f64 b, .float .f64 c] w fun e w' => e = .returned (.int .i64 0) ∧ w = w')
    (o3 : ∀ w, Calls Tryd.prog 11 #[.float .f64 a, .float .f64 c] w fun e w' => e = .returned (.int .i64 (-1)) ∧ w = w')
    (o4 : ∀ w, Calls Tryd.prog 11 #[.float .f64 a, .float .f64 a] w fun e w' => e = .returned (.int .i64 0) ∧ w = w')
    (b1 : ∀ w, Calls Tryd.prog 18 #[.float .f64 a] w fun e w' => e = .returned (.int .u64 m) ∧ w = w')
    (b2 : ∀ w, Calls Tryd.prog 18 #[.float .f64 b] w fun e w' => e = .returned (.int .u64 n) ∧ w = w')
    (q2 : (FloatKind.f64.format.order a b == some .gt) = false) (z1 : (FloatKind.f64.format.order a 0 == some .eq) = true) (z2 : (FloatKind.f64.format.order b 0 == some .eq) = false) (hmn : (m == n) = false) :
    Calls Tryd.prog 7 #[.float .f64 a, .float .f64 b, .float .f64 c] w fun e w' => e = .returned (.bool true) ∧ w = w' := by
  go_enter Tryd.func7, Tryd.ntmps7
  go_wp2_with (first | (go_at_call 10; (with_reducible refine (alive_any _).mono ?_); rintro e w' ⟨rfl, rfl⟩) | (go_at_call 11; (with_reducible refine (o1 _).mono ?_); rintro e w' ⟨rfl, rfl⟩) | (go_at_call 11; (with_reducible refine (o2 _).mono ?_); rintro e w' ⟨rfl, rfl⟩) | (go_at_call 11; (with_reducible refine (o3 _).mono ?_); rintro e w' ⟨rfl, rfl⟩) | (go_at_call 11; (with_reducible refine (o4 _).mono ?_); rintro e w' ⟨rfl, rfl⟩) | (go_at_call 18; (with_reducible refine (b1 _).mono ?_); rintro e w' ⟨rfl, rfl⟩) | (go_at_call 18; (with_reducible refine (b2 _).mono ?_); rintro e w' ⟨rfl, rfl⟩))
  all_goals (go_ret; exact ⟨rfl, rfl⟩)

set_option maxHeartbeats 1000000 in
theorem one_mz_tt (a b c : Nat)  (w : World)
    (o1 : ∀ w, Calls Tryd.prog 11 #[.float .f64 a, .float .f64 b] w fun e w' => e = .returned (.int .i64 (-1)) ∧ w = w')
    (o2 : ∀ w, Calls Tryd.prog 11 #[.float .f64 b, .float .f64 c] w fun e w' => e = .returned (.int .i64 0) ∧ w = w')
    (o3 : ∀ w, Calls Tryd.prog 11 #[.float .f64 a, .float .f64 c] w fun e w' => e = .returned (.int .i64 (-1)) ∧ w = w')
    (o4 : ∀ w, Calls Tryd.prog 11 #[.float .f64 a, .float .f64 a] w fun e w' => e = .returned (.int .i64 0) ∧ w = w')
    
    (q2 : (FloatKind.f64.format.order a b == some .gt) = false) (z1 : (FloatKind.f64.format.order a 0 == some .eq) = true) (z2 : (FloatKind.f64.format.order b 0 == some .eq) = true) :
    Calls Tryd.prog 7 #[.float .f64 a, .float .f64 b, .float .f64 c] w fun e w' => e = .returned (.bool true) ∧ w = w' := by
  go_enter Tryd.func7, Tryd.ntmps7
  go_wp2_with (first | (go_at_call 10; (with_reducible refine (alive_any _).mono ?_); rintro e w' ⟨rfl, rfl⟩) | (go_at_call 11; (with_reducible refine (o1 _).mono ?_); rintro e w' ⟨rfl, rfl⟩) | (go_at_call 11; (with_reducible refine (o2 _).mono ?_); rintro e w' ⟨rfl, rfl⟩) | (go_at_call 11; (with_reducible refine (o3 _).mono ?_); rintro e w' ⟨rfl, rfl⟩) | (go_at_call 11; (with_reducible refine (o4 _).mono ?_); rintro e w' ⟨rfl, rfl⟩))
  all_goals (go_ret; exact ⟨rfl, rfl⟩)

set_option maxHeartbeats 1000000 in
theorem one_zm_f (a b c : Nat) (m : Int) (w : World)
    (o1 : ∀ w, Calls Tryd.prog 11 #[.float .f64 a, .float .f64 b] w fun e w' => e = .returned (.int .i64 0) ∧ w = w')
    (o2 : ∀ w, Calls Tryd.prog 11 #[.float .f64 b, .float .f64 c] w fun e w' => e = .returned (.int .i64 (-1)) ∧ w = w')
    (o3 : ∀ w, Calls Tryd.prog 11 #[.float .f64 a, .float .f64 c] w fun e w' => e = .returned (.int .i64 (-1)) ∧ w = w')
    (o4 : ∀ w, Calls Tryd.prog 11 #[.float .f64 a, .float .f64 a] w fun e w' => e = .returned (.int .i64 0) ∧ w = w')
    (b1 : ∀ w, Calls Tryd.prog 18 #[.float .f64 a] w fun e w' => e = .returned (.int .u64 m) ∧ w = w')
    (b2 : ∀ w, Calls Tryd.prog 18 #[.float .f64 b] w fun e w' => e = .returned (.int .u64 m) ∧ w = w')
    (q1 : (FloatKind.f64.format.order a b == some .lt) = false) (q2 : (FloatKind.f64.format.order a b == some .gt) = false) (z1 : (FloatKind.f64.format.order a 0 == some .eq) = false) :
    Calls Tryd.prog 7 #[.float .f64 a, .float .f64 b, .float .f64 c] w fun e w' => e = .returned (.bool true) ∧ w = w' := by
  go_enter Tryd.func7, Tryd.ntmps7
  go_wp2_with (first | (go_at_call 10; (with_reducible refine (alive_any _).mono ?_); rintro e w' ⟨rfl, rfl⟩) | (go_at_call 11; (with_reducible refine (o1 _).mono ?_); rintro e w' ⟨rfl, rfl⟩) | (go_at_call 11; (with_reducible refine (o2 _).mono ?_); rintro e w' ⟨rfl, rfl⟩) | (go_at_call 11; (with_reducible refine (o3 _).mono ?_); rintro e w' ⟨rfl, rfl⟩) | (go_at_call 11; (with_reducible refine (o4 _).mono ?_); rintro e w' ⟨rfl, rfl⟩) | (go_at_call 18; (with_reducible refine (b1 _).mono ?_); rintro e w' ⟨rfl, rfl⟩) | (go_at_call 18; (with_reducible refine (b2 _).mono ?_); rintro e w' ⟨rfl, rfl⟩))
  all_goals (go_ret; exact ⟨rfl, rfl⟩)

set_option maxHeartbeats 1000000 in
theorem one_zm_tf (a b c : Nat) (m : Int) (w : World)
    (o1 : ∀ w, Calls Tryd.prog 11 #[.float .f64 a, .float .f64 b] w fun e w' => e = .returned (.int .i64 0) ∧ w = w')
    (o2 : ∀ w, Calls Tryd.prog 11 #[.float .f64 b, .float .f64 c] w fun e w' => e = .returned (.int .i64 (-1)) ∧ w = w')
    (o3 : ∀ w, Calls Tryd.prog 11 #[.float .f64 a, .float .f64 c] w fun e w' => e = .returned (.int .i64 (-1)) ∧ w = w')
    (o4 : ∀ w, Calls Tryd.prog 11 #[.float .f64 a, .float .f64 a] w fun e w' => e = .returned (.int .i64 0) ∧ w = w')
    (b1 : ∀ w, Calls Tryd.prog 18 #[.float .f64 a] w fun e w' => e = .returned (.int .u64 m) ∧ w = w')
    (b2 : ∀ w, Calls Tryd.prog 18 #[.float .f64 b] w fun e w' => e = .returned (.int .u64 m) ∧ w = w')
    (q1 : (FloatKind.f64.format.order a b == some .lt) = false) (q2 : (FloatKind.f64.format.order a b == some .gt) = false) (z1 : (FloatKind.f64.format.order a 0 == some .eq) = true) (z2 : (FloatKind.f64.format.order b 0 == some .eq) = false) :
    Calls Tryd.prog 7 #[.float .f64 a, .float .f64 b, .float .f64 c] w fun e w' => e = .returned (.bool true) ∧ w = w' := by
  go_enter Tryd.func7, Tryd.ntmps7
  go_wp2_with (first | (go_at_call 10; (with_reducible refine (alive_any _).mono ?_); rintro e w' ⟨rfl, rfl⟩) | (go_at_call 11; (with_reducible refine (o1 _).mono ?_); rintro e w' ⟨rfl, rfl⟩) | (go_at_call 11; (with_reducible refine (o2 _).mono ?_); rintro e w' ⟨rfl, rfl⟩) | (go_at_call 11; (with_reducible refine (o3 _).mono ?_); rintro e w' ⟨rfl, rfl⟩) | (go_at_call 11; (with_reducible refine (o4 _).mono ?_); rintro e w' ⟨rfl, rfl⟩) | (go_at_call 18; (with_reducible refine (b1 _).mono ?_); rintro e w' ⟨rfl, rfl⟩) | (go_at_call 18; (with_reducible refine (b2 _).mono ?_); rintro e w' ⟨rfl, rfl⟩))
  all_goals (go_ret; exact ⟨rfl, rfl⟩)

set_option maxHeartbeats 1000000 in
theorem one_zm_tt (a b c : Nat)  (w : World)
    (o1 : ∀ w, Calls Tryd.prog 11 #[.float .f64 a, .float .f64 b] w fun e w' => e = .returned (.int .i64 0) ∧ w = w')
    (o2 : ∀ w, Calls Tryd.prog 11 #[.float .f64 b, .float .f64 c] w fun e w' => e = .returned (.int .i64 (-1)) ∧ w = w')
    (o3 : ∀ w, Calls Tryd.prog 11 #[.float .f64 a, .float .f64 c] w fun e w' => e = .returned (.int .i64 (-1)) ∧ w = w')
    (o4 : ∀ w, Calls Tryd.prog 11 #[.float .f64 a, .float .f64 a] w fun e w' => e = .returned (.int .i64 0) ∧ w = w')
    
    (q1 : (FloatKind.f64.format.order a b == some .lt) = false) (q2 : (FloatKind.f64.format.order a b == some .gt) = false) (z1 : (FloatKind.f64.format.order a 0 == some .eq) = true) (z2 : (FloatKind.f64.format.order b 0 == some .eq) = true) :
    Calls Tryd.prog 7 #[.float .f64 a, .float .f64 b, .float .f64 c] w fun e w' => e = .returned (.bool true) ∧ w = w' := by
  go_enter Tryd.func7, Tryd.ntmps7
  go_wp2_with (first | (go_at_call 10; (with_reducible refine (alive_any _).mono ?_); rintro e w' ⟨rfl, rfl⟩) | (go_at_call 11; (with_reducible refine (o1 _).mono ?_); rintro e w' ⟨rfl, rfl⟩) | (go_at_call 11; (with_reducible refine (o2 _).mono ?_); rintro e w' ⟨rfl, rfl⟩) | (go_at_call 11; (with_reducible refine (o3 _).mono ?_); rintro e w' ⟨rfl, rfl⟩) | (go_at_call 11; (with_reducible refine (o4 _).mono ?_); rintro e w' ⟨rfl, rfl⟩))
  all_goals (go_ret; exact ⟨rfl, rfl⟩)

set_option maxHeartbeats 1000000 in
theorem one_zz_f (a b c : Nat) (m : Int) (w : World)
    (o1 : ∀ w, Calls Tryd.prog 11 #[.float .f64 a, .float .f64 b] w fun e w' => e = .returned (.int .i64 0) ∧ w = w')
    (o2 : ∀ w, Calls Tryd.prog 11 #[.float .f64 b, .float .f64 c] w fun e w' => e = .returned (.int .i64 0) ∧ w = w')
    (o3 : ∀ w, Calls Tryd.prog 11 #[.float .f64 a, .float .f64 c] w fun e w' => e = .returned (.int .i64 0) ∧ w = w')
    (o4 : ∀ w, Calls Tryd.prog 11 #[.float .f64 a, .float .f64 a] w fun e w' => e = .returned (.int .i64 0) ∧ w = w')
    (b1 : ∀ w, Calls Tryd.prog 18 #[.float .f64 a] w fun e w' => e = .returned (.int .u64 m) ∧ w = w')
    (b2 : ∀ w, Calls Tryd.prog 18 #[.float .f64 b] w fun e w' => e = .returned (.int .u64 m) ∧ w = w')
    (q1 : (FloatKind.f64.format.order a b == some .lt) = false) (q2 : (FloatKind.f64.format.order a b == some .gt) = false) (z1 : (FloatKind.f64.format.order a 0 == some .eq) = false) :
    Calls Tryd.prog 7 #[.float .f64 a, .float .f64 b, .float .f64 c] w fun e w' => e = .returned (.bool true) ∧ w = w' := by
  go_enter Tryd.func7, Tryd.ntmps7
  go_wp2_with (first | (go_at_call 10; (with_reducible refine (alive_any _).mono ?_); rintro e w' ⟨rfl, rfl⟩) | (go_at_call 11; (with_reducible refine (o1 _).mono ?_); rintro e w' ⟨rfl, rfl⟩) | (go_at_call 11; (with_reducible refine (o2 _).mono ?_); rintro e w' ⟨rfl, rfl⟩) | (go_at_call 11; (with_reducible refine (o3 _).mono ?_); rintro e w' ⟨rfl, rfl⟩) | (go_at_call 11; (with_reducible refine (o4 _).mono ?_); rintro e w' ⟨rfl, rfl⟩) | (go_at_call 18; (with_reducible refine (b1 _).mono ?_); rintro e w' ⟨rfl, rfl⟩) | (go_at_call 18; (with_reducible refine (b2 _).mono ?_); rintro e w' ⟨rfl, rfl⟩))
  all_goals (go_ret; exact ⟨rfl, rfl⟩)

set_option maxHeartbeats 1000000 in
theorem one_zz_tf (a b c : Nat) (m : Int) (w : World)
    (o1 : ∀ w, Calls Tryd.prog 11 #[.float .f64 a, .float .f64 b] w fun e w' => e = .returned (.int .i64 0) ∧ w = w')
    (o2 : ∀ w, Calls Tryd.prog 11 #[.float .f64 b, .float .f64 c] w fun e w' => e = .returned (.int .i64 0) ∧ w = w')
    (o3 : ∀ w, Calls Tryd.prog 11 #[.float .f64 a, .float .f64 c] w fun e w' => e = .returned (.int .i64 0) ∧ w = w')
    (o4 : ∀ w, Calls Tryd.prog 11 #[.float .f64 a, .float .f64 a] w fun e w' => e = .returned (.int .i64 0) ∧ w = w')
    (b1 : ∀ w, Calls Tryd.prog 18 #[.float .f64 a] w fun e w' => e = .returned (.int .u64 m) ∧ w = w')
    (b2 : ∀ w, Calls Tryd.prog 18 #[.float .f64 b] w fun e w' => e = .returned (.int .u64 m) ∧ w = w')
    (q1 : (FloatKind.f64.format.order a b == some .lt) = false) (q2 : (FloatKind.f64.format.order a b == some .gt) = false) (z1 : (FloatKind.f64.format.order a 0 == some .eq) = true) (z2 : (FloatKind.f64.format.order b 0 == some .eq) = false) :
    Calls Tryd.prog 7 #[.float .f64 a, .float .f64 b, .float .f64 c] w fun e w' => e = .returned (.bool true) ∧ w = w' := by
  go_enter Tryd.func7, Tryd.ntmps7
  go_wp2_with (first | (go_at_call 10; (with_reducible refine (alive_any _).mono ?_); rintro e w' ⟨rfl, rfl⟩) | (go_at_call 11; (with_reducible refine (o1 _).mono ?_); rintro e w' ⟨rfl, rfl⟩) | (go_at_call 11; (with_reducible refine (o2 _).mono ?_); rintro e w' ⟨rfl, rfl⟩) | (go_at_call 11; (with_reducible refine (o3 _).mono ?_); rintro e w' ⟨rfl, rfl⟩) | (go_at_call 11; (with_reducible refine (o4 _).mono ?_); rintro e w' ⟨rfl, rfl⟩) | (go_at_call 18; (with_reducible refine (b1 _).mono ?_); rintro e w' ⟨rfl, rfl⟩) | (go_at_call 18; (with_reducible refine (b2 _).mono ?_); rintro e w' ⟨rfl, rfl⟩))
  all_goals (go_ret; exact ⟨rfl, rfl⟩)

set_option maxHeartbeats 1000000 in
theorem one_zz_tt (a b c : Nat)  (w : World)
    (o1 : ∀ w, Calls Tryd.prog 11 #[.float .f64 a, .float .f64 b] w fun e w' => e = .returned (.int .i64 0) ∧ w = w')
    (o2 : ∀ w, Calls Tryd.prog 11 #[.float .f64 b, .float .f64 c] w fun e w' => e = .returned (.int .i64 0) ∧ w = w')
    (o3 : ∀ w, Calls Tryd.prog 11 #[.float .f64 a, .float .f64 c] w fun e w' => e = .returned (.int .i64 0) ∧ w = w')
    (o4 : ∀ w, Calls Tryd.prog 11 #[.float .f64 a, .float .f64 a] w fun e w' => e = .returned (.int .i64 0) ∧ w = w')
    
    (q1 : (FloatKind.f64.format.order a b == some .lt) = false) (q2 : (FloatKind.f64.format.order a b == some .gt) = false) (z1 : (FloatKind.f64.format.order a 0 == some .eq) = true) (z2 : (FloatKind.f64.format.order b 0 == some .eq) = true) :
    Calls Tryd.prog 7 #[.float .f64 a, .float .f64 b, .float .f64 c] w fun e w' => e = .returned (.bool true) ∧ w = w' := by
  go_enter Tryd.func7, Tryd.ntmps7
  go_wp2_with (first | (go_at_call 10; (with_reducible refine (alive_any _).mono ?_); rintro e w' ⟨rfl, rfl⟩) | (go_at_call 11; (with_reducible refine (o1 _).mono ?_); rintro e w' ⟨rfl, rfl⟩) | (go_at_call 11; (with_reducible refine (o2 _).mono ?_); rintro e w' ⟨rfl, rfl⟩) | (go_at_call 11; (with_reducible refine (o3 _).mono ?_); rintro e w' ⟨rfl, rfl⟩) | (go_at_call 11; (with_reducible refine (o4 _).mono ?_); rintro e w' ⟨rfl, rfl⟩))
  all_goals (go_ret; exact ⟨rfl, rfl⟩)

theorem floatsOne_walk (a b c : Nat) (w : World) (ha : a < 18446744073709551616) (hb : b < 18446744073709551616) (hc : c < 18446744073709551616) :
    Calls Tryd.prog 7 #[.float .f64 a, .float .f64 b, .float .f64 c] w fun e w' => e = .returned (.bool true) ∧ Below w.heap.size w w' := by
  suffices h : Calls Tryd.prog 7 #[.float .f64 a, .float .f64 b, .float .f64 c] w fun e w' => e = .returned (.bool true) ∧ w = w' from
    h.mono fun e w' ⟨he, hw⟩ => ⟨he, hw ▸ Below.refl _ _⟩
  have o1 := fun w => order_any a b w ha hb
  have o2 := fun w => order_any b c w hb hc
  have o3 := fun w => order_any a c w ha hc
  have o4 : ∀ w, Calls Tryd.prog 11 #[.float .f64 a, .float .f64 a] w fun e w' => e = .returned (.int .i64 0) ∧ w = w' := by
    intro w; rw [← Fl.ord_self a]; exact order_any a a w ha ha
  have b1 := fun w => bits_any a w ha
  have b2 := fun w => bits_any b w hb
  have tr := Fl.ord_trans a b c
  have r1 := Fl.ord_range a b
  have r2 := Fl.ord_range b c
  have l1 : Fl.ord a b ≠ -1 → (FloatKind.f64.format.order a b == some .lt) = false := by
    intro h
    have e : (FloatKind.f64.format.order a b == some .lt) = Fl.isLt a b := Fl.test_lt ha hb
    rw [e]; cases g : Fl.isLt a b
    · rfl
    · exact absurd (Fl.lt_ord ha hb g) h
  have l2 : Fl.ord a b ≠ 1 → (FloatKind.f64.format.order a b == some .gt) = false := by
    intro h
    have e : (FloatKind.f64.format.order a b == some .gt) = Fl.isLt b a := Fl.test_gt ha hb
    rw [e]; cases g : Fl.isLt b a
    · rfl
    · exact absurd (by rw [Fl.ord_swap b a, Fl.lt_ord hb ha g]; rfl) h
  have za : (FloatKind.f64.format.order a 0 == some .eq) = Fl.isEq a 0 := Fl.test_eq ha (by omega)
  have zb : (FloatKind.f64.format.order b 0 == some .eq) = Fl.isEq b 0 := Fl.test_eq hb (by omega)
  have pl := @Fl.ord_plain a b ha hb
  have ne : Fl.ord a b ≠ 0 → (Fl.isEq a 0 = false ∨ Fl.isEq b 0 = false) → (((Fl.plain a : Nat) : Int) == ((Fl.plain b : Nat) : Int)) = false := by
    intro h hz
    have := fun g => h ((pl hz).2 g)
    rw [beq_eq_false_iff_ne]; intro e; exact this (by exact_mod_cast e)
  generalize hx : Fl.ord a b = x at *
  generalize hy : Fl.ord b c = y at *
  generalize hz : Fl.ord a c = z at *
  cases ga : Fl.isEq a 0 <;> cases gb : Fl.isEq b 0
  · by_cases hx1 : x = 1
    · subst hx1; exact one_p_f a b c y z _ _ w o1 o2 o3 o4  b1 b2 (l1 (by omega)) (za.trans ga) (ne (by omega) (Or.inl ga))
    · by_cases hx0 : x = 0
      · subst hx0
        rw [← (pl (Or.inl ga)).1 rfl] at b2
        by_cases hy1 : y = 1
        · subst hy1; exact one_zp_f a b c z _ w o1 o2 o3 o4  b1 b2 (l1 (by omega)) (l2 (by omega)) (za.trans ga)
        · by_cases hy0 : y = 0
          · subst hy0; obtain rfl : z = 0 := by have := tr (by omega) (by omega); omega
            exact one_zz_f a b c _ w o1 o2 o3 o4  b1 b2 (l1 (by omega)) (l2 (by omega)) (za.trans ga)
          · obtain rfl : y = -1 := by omega
            obtain rfl : z = -1 := by have := tr (by omega) (by omega); omega
            exact one_zm_f a b c _ w o1 o2 o3 o4  b1 b2 (l1 (by omega)) (l2 (by omega)) (za.trans ga)
      · obtain rfl : x = -1 := by omega
        by_cases hy1 : y = 1
        · subst hy1; exact one_mp_f a b c z _ _ w o1 o2 o3 o4  b1 b2 (l2 (by omega)) (za.trans ga) (ne (by omega) (Or.inl ga))
        · by_cases hy0 : y = 0
          · subst hy0; obtain rfl : z = -1 := by have := tr (by omega) (by omega); omega
            exact one_mz_f a b c _ _ w o1 o2 o3 o4  b1 b2 (l2 (by omega)) (za.trans ga) (ne (by omega) (Or.inl ga))
          · obtain rfl : y = -1 := by omega
            obtain rfl : z = -1 := by have := tr (by omega) (by omega); omega
            exact one_mm_f a b c _ _ w o1 o2 o3 o4  b1 b2 (l2 (by omega)) (za.trans ga) (ne (by omega) (Or.inl ga))
  · by_cases hx1 : x = 1
    · subst hx1; exact one_p_f a b c y z _ _ w o1 o2 o3 o4  b1 b2 (l1 (by omega)) (za.trans ga) (ne (by omega) (Or.inl ga))
    · by_cases hx0 : x = 0
      · subst hx0
        rw [← (pl (Or.inl ga)).1 rfl] at b2
        by_cases hy1 : y = 1
        · subst hy1; exact one_zp_f a b c z _ w o1 o2 o3 o4  b1 b2 (l1 (by omega)) (l2 (by omega)) (za.trans ga)
        · by_cases hy0 : y = 0
          · subst hy0; obtain rfl : z = 0 := by have := tr (by omega) (by omega); omega
            exact one_zz_f a b c _ w o1 o2 o3 o4  b1 b2 (l1 (by omega)) (l2 (by omega)) (za.trans ga)
          · obtain rfl : y = -1 := by omega
            obtain rfl : z = -1 := by have := tr (by omega) (by omega); omega
            exact one_zm_f a b c _ w o1 o2 o3 o4  b1 b2 (l1 (by omega)) (l2 (by omega)) (za.trans ga)
      · obtain rfl : x = -1 := by omega
        by_cases hy1 : y = 1
        · subst hy1; exact one_mp_f a b c z _ _ w o1 o2 o3 o4  b1 b2 (l2 (by omega)) (za.trans ga) (ne (by omega) (Or.inl ga))
        · by_cases hy0 : y = 0
          · subst hy0; obtain rfl : z = -1 := by have := tr (by omega) (by omega); omega
            exact one_mz_f a b c _ _ w o1 o2 o3 o4  b1 b2 (l2 (by omega)) (za.trans ga) (ne (by omega) (Or.inl ga))
          · obtain rfl : y = -1 := by omega
            obtain rfl : z = -1 := by have := tr (by omega) (by omega); omega
            exact one_mm_f a b c _ _ w o1 o2 o3 o4  b1 b2 (l2 (by omega)) (za.trans ga) (ne (by omega) (Or.inl ga))
  · by_cases hx1 : x = 1
    · subst hx1; exact one_p_tf a b c y z _ _ w o1 o2 o3 o4  b1 b2 (l1 (by omega)) (za.trans ga) (zb.trans gb) (ne (by omega) (Or.inr gb))
    · by_cases hx0 : x = 0
      · subst hx0
        rw [← (pl (Or.inr gb)).1 rfl] at b2
        by_cases hy1 : y = 1
        · subst hy1; exact one_zp_tf a b c z _ w o1 o2 o3 o4  b1 b2 (l1 (by omega)) (l2 (by omega)) (za.trans ga) (zb.trans gb)
        · by_cases hy0 : y = 0
          · subst hy0; obtain rfl : z = 0 := by have := tr (by omega) (by omega); omega
            exact one_zz_tf a b c _ w o1 o2 o3 o4  b1 b2 (l1 (by omega)) (l2 (by omega)) (za.trans ga) (zb.trans gb)
          · obtain rfl : y = -1 := by omega
            obtain rfl : z = -1 := by have := tr (by omega) (by omega); omega
            exact one_zm_tf a b c _ w o1 o2 o3 o4  b1 b2 (l1 (by omega)) (l2 (by omega)) (za.trans ga) (zb.trans gb)
      · obtain rfl : x = -1 := by omega
        by_cases hy1 : y = 1
        · subst hy1; exact one_mp_tf a b c z _ _ w o1 o2 o3 o4  b1 b2 (l2 (by omega)) (za.trans ga) (zb.trans gb) (ne (by omega) (Or.inr gb))
        · by_cases hy0 : y = 0
          · subst hy0; obtain rfl : z = -1 := by have := tr (by omega) (by omega); omega
            exact one_mz_tf a b c _ _ w o1 o2 o3 o4  b1 b2 (l2 (by omega)) (za.trans ga) (zb.trans gb) (ne (by omega) (Or.inr gb))
          · obtain rfl : y = -1 := by omega
            obtain rfl : z = -1 := by have := tr (by omega) (by omega); omega
            exact one_mm_tf a b c _ _ w o1 o2 o3 o4  b1 b2 (l2 (by omega)) (za.trans ga) (zb.trans gb) (ne (by omega) (Or.inr gb))
  · by_cases hx1 : x = 1
    · subst hx1; exact one_p_tt a b c y z  w o1 o2 o3 o4  (l1 (by omega)) (za.trans ga) (zb.trans gb)
    · by_cases hx0 : x = 0
      · subst hx0
        by_cases hy1 : y = 1
        · subst hy1; exact one_zp_tt a b c z  w o1 o2 o3 o4  (l1 (by omega)) (l2 (by omega)) (za.trans ga) (zb.trans gb)
        · by_cases hy0 : y = 0
          · subst hy0; obtain rfl : z = 0 := by have := tr (by omega) (by omega); omega
            exact one_zz_tt a b c  w o1 o2 o3 o4  (l1 (by omega)) (l2 (by omega)) (za.trans ga) (zb.trans gb)
          · obtain rfl : y = -1 := by omega
            obtain rfl : z = -1 := by have := tr (by omega) (by omega); omega
            exact one_zm_tt a b c  w o1 o2 o3 o4  (l1 (by omega)) (l2 (by omega)) (za.trans ga) (zb.trans gb)
      · obtain rfl : x = -1 := by omega
        by_cases hy1 : y = 1
        · subst hy1; exact one_mp_tt a b c z  w o1 o2 o3 o4  (l2 (by omega)) (za.trans ga) (zb.trans gb)
        · by_cases hy0 : y = 0
          · subst hy0; obtain rfl : z = -1 := by have := tr (by omega) (by omega); omega
            exact one_mz_tt a b c  w o1 o2 o3 o4  (l2 (by omega)) (za.trans ga) (zb.trans gb)
          · obtain rfl : y = -1 := by omega
            obtain rfl : z = -1 := by have := tr (by omega) (by omega); omega
            exact one_mm_tt a b c  w o1 o2 o3 o4  (l2 (by omega)) (za.trans ga) (zb.trans gb)

theorem floatsOne_met (os : Os) (args : Array Value) : laidMetH Tryd.prog Rows.floatsOneRow.laid ((World.doorLaid Tryd.prog 4000 os).forCall (fun _ _ => 0) ⟨#[], args, []⟩).memory :=
  laidMetH_of_parts3 (fuel := 8) (laidMet_of_run' 8 (by kernel_rfl) (by kernel_rfl)) (by kernel_rfl) (by kernel_rfl)

set_option maxRecDepth 100000 in
theorem floatsOne_lifted (os : Os) (started : os.Started) (H : Type) (enc : TypeId × Value → H) :
    ReturnsInHanded {} Tryd.checked os 7 .any (fun w args => (Rows.floatsOneSpec.pre enc Tryd.prog Tryd.f7 [] false w args ∧ laidMetH Tryd.prog Rows.floatsOneRow.laid w) ∧ sizedMet enc Tryd.prog Tryd.f7 (OpenSpec.ofChange Rows.floatsOneSpec) false w args)
      (Rows.floatsOneSpec.post enc Tryd.prog Tryd.f7 false true false false) := by
  refine returnsInHanded_of_change_and (C := Tryd.checked) (X := fun w _ => laidMetH Tryd.prog Rows.floatsOneRow.laid w) (fun _ _ _ hh h => h.of_heap hh) own started (by kernel_rfl) Tryd.func7
    (ChangeSpec.witness_shaped (enc := enc) (C := Tryd.checked) (os := os) (X := fun w _ => laidMetH Tryd.prog Rows.floatsOneRow.laid w) false (World.doorLaid Tryd.prog 4000 os) #[.float .f64 0, .float .f64 0, .float .f64 0] 8 rfl (World.shaped_of_RefB (by kernel_rfl) (by kernel_rfl)) (by kernel_rfl) (by kernel_rfl) (by kernel_rfl) (floatsOne_met os _)) ?_
  intro W base args ds gs before hval0 hW _ hsz hL _
  have hval : ∀ (j : Nat) t v, Tryd.f7.params[j]? = some t → args[j]? = some v → Value.okWide Tryd.prog W .any base t v := hval0
  have hW' := hW
  obtain ⟨p, q, hA0, hV, rfl, hfz, hnd⟩ := hW
  have hA : DataW.TrodAll enc Tryd.prog W 0 (fun _ => true) true Tryd.f7.params.toList args.toList ds p := hA0
  rw [Tryd.params7] at hA hval
  obtain ⟨v0, vs0, d0, ds0, p0, q0, e0, rfl, rfl, h0, r0⟩ := trodAll_cons hA
  obtain ⟨v1, vs1, d1, ds1, p1, q1, e1, rfl, rfl, h1, r1⟩ := trodAll_cons r0
  obtain ⟨v2, vs2, d2, ds2, p2, q2, e2, rfl, rfl, h2, r2⟩ := trodAll_cons r1
  obtain ⟨rfl, rfl, rfl⟩ := trodAll_nil r2
  obtain rfl : args = #[v0, v1, v2] := by cases args; simp_all
  obtain ⟨rfl, rfl⟩ := trodVars_none hV
  obtain ⟨a, rfl, rfl, rfl, ha⟩ := open_float Tryd.underlying22 (hval 0 22 v0 rfl rfl) h0
  obtain ⟨b, rfl, rfl, rfl, hb⟩ := open_float Tryd.underlying22 (hval 1 22 v1 rfl rfl) h1
  obtain ⟨c, rfl, rfl, rfl, hc⟩ := open_float Tryd.underlying22 (hval 2 22 v2 rfl rfl) h2
  clear hA0 hval0
  have ka : a < 18446744073709551616 := by simpa [Lit.wf] using ha
  have kb : b < 18446744073709551616 := by simpa [Lit.wf] using hb
  have kc : c < 18446744073709551616 := by simpa [Lit.wf] using hc
  refine (floatsOne_walk a b c W ka kb kc).mono fun e W' ⟨he, hw⟩ => ?_
  subst he
  exact ⟨_, rfl, law_post laidOut hW' rfl rfl rfl Tryd.underlying4 (par_ok (by kernel_rfl)) hw⟩

theorem floatsOne_said : Rows.FloatsOneSaid :=
  OpenClaim.holds_of_wide 7 Tryd.f7 rfl rfl rfl rfl rfl rfl rfl ⟨rfl, rfl, rfl, rfl, rfl⟩ rfl rfl rfl rfl rfl (by kernel_rfl) Tryd.func7 (by kernel_rfl)
    (of_decide_eq_true (by kernel_rfl)) (by unfold Func.isWrapper; first | (rw [if_pos (by decide +kernel)]; kernel_rfl) | (rw [if_neg (by decide +kernel)]; exact ⟨rfl, rfl⟩))
    (fun os started H enc _ => floatsOne_lifted os started H enc)

theorem floatsOne_holds : Rows.FloatsOneCardSaid :=
  Claim7.holds_tied_plain_at .later [] _ _ _ _ floatsOne_said (fun _ h => by cases h) (by kernel_rfl) (fun _ h => by cases h) floatsOne_row_tie rfl ⟨rfl, rfl⟩ (by kernel_rfl) rfl
    (fun f fn hf hfn => by
      obtain rfl : f = 7 := Option.some.inj ((show Tryd.prog.funcNamed "liaison/liaisonlaw01.FloatsOne" = some 7 by kernel_rfl).symm.trans hf) |>.symm
      obtain rfl : fn = Tryd.f7 := (Option.some.inj (Tryd.func7.symm.trans hfn)).symm
      exact ⟨by kernel_rfl, stand_ok (P := Tryd.prog) (by kernel_rfl)⟩)
    (by kernel_rfl)
end Go.Proofs.YtcfjecllfghkbaaDoor
