/-
  FieldsUnlike's WALKS (own work).
-/
import Derived.Test.YtfealdllicicnaaDoorNumL
import Derived.Test.YtfealdllicicnaaDoorFlagF
import Derived.Laws.Strings
namespace Go.Proofs.YtfealdllicicnaaDoor
open Go.RowKit Go.ChangeShapes Go.WideShapes

theorem beNum_from (xs : List Int) : ∀ u, xs.foldl (fun u c => 256 * u + c) u = u * 256 ^ xs.length + beNum xs := by
  induction xs with
  | nil => intro u; simp [beNum]
  | cons x xs ih =>
    intro u
    have h1 := ih (256 * u + x)
    have h2 := ih (256 * 0 + x)
    simp only [List.foldl_cons, beNum, List.length_cons] at h1 h2 ⊢
    rw [h1, h2, Int.pow_succ]
    generalize (256 : Int) ^ xs.length = p
    simp only [Int.add_mul, Int.mul_assoc, Int.mul_zero, Int.zero_add]
    rw [show u * (p * 256) = 256 * (u * p) by rw [← Int.mul_assoc, Int.mul_comm]]
    omega
theorem beNum_cons (x : Int) (xs : List Int) : beNum (x :: xs) = x * 256 ^ xs.length + beNum xs := by
  have := beNum_from xs (256 * 0 + x)
  unfold beNum at *
  simpa using this

theorem less_bytes : ∀ (xs ys : List Int), InB xs → InB ys → xs.length = ys.length → Op.bytesLess (strOfNums xs).toList (strOfNums ys).toList = decide (beNum xs < beNum ys) := by
  intro xs ys
  rw [ByteArray.toList_eq, ByteArray.toList_eq, strOfNums_data, strOfNums_data]
  induction xs generalizing ys with
  | nil =>
    intro _ _ hl
    obtain rfl : ys = [] := by cases ys; rfl; cases hl
    simp [Op.bytesLess, beNum]
  | cons x xs ih =>
    intro hx hy hl
    match ys, hy, hl with
    | y :: ys, hy, hl =>
      have hl' : xs.length = ys.length := by simpa using hl
      have hx0 := hx x (by simp)
      have hy0 := hy y (by simp)
      have hx' : InB xs := fun z hz => hx z (by simp [hz])
      have hy' : InB ys := fun z hz => hy z (by simp [hz])
      have ih' := ih ys hx' hy' hl'
      have bx := beNum_range hx' xs.length (Nat.le_refl _)
      have by' := beNum_range hy' ys.length (Nat.le_refl _)
      rw [List.take_length] at bx by'
      simp only [List.map_cons, Op.bytesLess, ih', beNum_cons]
      have e1 : (UInt8.ofNat x.toNat < UInt8.ofNat y.toNat) ↔ x < y := by
        rw [UInt8.lt_iff_toNat_lt]
        simp
        omega
      have e2 : (UInt8.ofNat x.toNat == UInt8.ofNat y.toNat) = decide (x = y) := by
        rw [Bool.eq_iff_iff]
        simp only [beq_iff_eq, decide_eq_true_eq]
        constructor
        · intro h
          have := congrArg UInt8.toNat h
          simp at this
          omega
        · intro h; rw [h]
      rw [e2, hl']
      rw [hl'] at bx
      simp only [e1]
      generalize (256 : Int) ^ ys.length = p at *
      have q : ∀ d : Int, 1 ≤ d → p ≤ d * p := by
        intro d hd
        have := Int.mul_le_mul_of_nonneg_right hd (show 0 ≤ p by omega)
        simpa using this
      by_cases hxy : x < y
      · have := q (y - x) (by omega)
        rw [Int.sub_mul] at this
        rw [decide_eq_true hxy, Bool.true_or, decide_eq_true]
        omega
      · rw [decide_eq_false hxy, Bool.false_or]
        by_cases hxe : x = y
        · subst hxe
          rw [decide_eq_true rfl, Bool.true_and]
          congr 1
          simp
        · have := q (x - y) (by omega)
          rw [Int.sub_mul] at this
          rw [decide_eq_false hxe, Bool.false_and, decide_eq_false]
          omega

theorem beF_lt {k : Nat} : ∀ {a b : Nat}, a < 256 ^ k → b < 256 ^ k → (beF k a).length < (beF k b).length → a < b := by
  induction k with
  | zero => intro a b _ _ h; simp [beF] at h
  | succ k ih =>
    intro a b ha hb h
    rw [Nat.pow_succ] at ha hb
    unfold beF at h
    by_cases h0 : a = 0
    · subst h0
      by_cases h1 : b = 0
      · subst h1; simp at h
      · omega
    · by_cases h1 : b = 0
      · subst h1; simp [h0] at h
      · rw [if_neg h0, if_neg h1] at h
        simp at h
        have := ih (a := a / 256) (b := b / 256) (by omega) (by omega) h
        omega

theorem isFlag_fl (b : Bool) : isFlag (flB b) = true ∧ decide ((flB b).length = 1) = b := by cases b <;> decide
theorem flag_back (ads : List Addr) (b : Bool) (a : Option Addr) (c : Nat) (w : World) (V : St ads w) (hs : SlB (.slice a (flB b).length c) (flB b) w) :
    Calls Tryd.prog 32 #[.slice a (flB b).length c] w fun e w' => e = .returned (.tuple #[.bool b, .nilIface]) ∧ Kp w w' := by
  have h3 : 3 < ads.length := by rw [V.len]; decide
  have h := toFlag_any ads a c (flB b) _ rfl h3 w V hs
  rw [(isFlag_fl b).1, (isFlag_fl b).2] at h
  exact h
theorem flB_in (b : Bool) : InB (flB b) := by
  intro x hx
  cases b <;> simp [flB] at hx
  omega

set_option maxRecDepth 20000 in
theorem unl_a (ads : List Addr) (x y : Int) (hy : y ≤ 9223372036854775807) (is : Bool) (hx : x < 0) (w : World) (V : St ads w) :
    Calls Tryd.prog 8 #[.int .i64 x, .int .i64 y, .bool is] w fun e w' => e = .returned (.bool true) ∧ Kp w w' := by
  have h0 : 0 < ads.length := by rw [V.len]; decide
  have HA := Lib.hid (alive_any ads w V)
  have HN := Lib.hid (fun w1 (hk : Kp w w1) => number_err ads h0 x hx w1 (V.below hk))
  have HM : Hid (∀ w1, Kp w w1 → Calls Tryd.prog 22 #[.int .i64 y] w1 fun e w' => ∃ v E, e = .returned (.tuple #[v, E]) ∧ Kp w1 w') := Lib.hid fun w1 hk => by
    by_cases hy0 : y < 0
    · exact (number_err ads h0 y hy0 w1 (V.below hk)).mono fun e w' ⟨h1, h2⟩ => ⟨_, _, h1, h2⟩
    · exact (number_any ads y.toNat (by omega) y (by omega) w1 (V.below hk)).mono fun e w' ⟨v, h1, _, h2⟩ => ⟨_, _, h1, h2⟩
  clear V hy
  go_enter Tryd.func8, Tryd.ntmps8
  go_wp2_with (first | (go_at_call 9; (with_reducible refine HA.out.mono ?_); rintro e w1 ⟨rfl, hw1⟩; have K1 := Lib.hid hw1; clear hw1) | (go_at_call 22; (with_reducible refine (HN.out _ K1.out).mono ?_); rintro e w2 ⟨rfl, hw2⟩; have K2 := Lib.hid (Kp.trans K1.out hw2); clear hw2) | (go_at_call 22; (with_reducible refine (HM.out _ K2.out).mono ?_); rintro e w3 ⟨v3, E3, rfl, hw3⟩; have K3 := Lib.hid (Kp.trans K2.out hw3); clear hw3))
  go_ret
  exact ⟨rfl, K3.out⟩

set_option maxRecDepth 20000 in
theorem unl_b (ads : List Addr) (x y : Int) (hx' : x ≤ 9223372036854775807) (is : Bool) (hx : ¬ x < 0) (hy : y < 0) (w : World) (V : St ads w) :
    Calls Tryd.prog 8 #[.int .i64 x, .int .i64 y, .bool is] w fun e w' => e = .returned (.bool true) ∧ Kp w w' := by
  have h0 : 0 < ads.length := by rw [V.len]; decide
  have HA := Lib.hid (alive_any ads w V)
  have HN : Hid (∀ w1, Kp w w1 → Calls Tryd.prog 22 #[.int .i64 x] w1 fun e w' => ∃ v, e = .returned (.tuple #[v, .nilIface]) ∧ Kp w1 w') := Lib.hid fun w1 hk =>
    (number_any ads x.toNat (by omega) x (by omega) w1 (V.below hk)).mono fun e w' ⟨v, h1, _, h2⟩ => ⟨_, h1, h2⟩
  have HM := Lib.hid (fun w1 (hk : Kp w w1) => number_err ads h0 y hy w1 (V.below hk))
  have hxb : decide (x < 0) = false := decide_eq_false hx
  clear V hx'
  go_enter Tryd.func8, Tryd.ntmps8
  go_wp2_with (first | (go_at_call 9; (with_reducible refine HA.out.mono ?_); rintro e w1 ⟨rfl, hw1⟩; have K1 := Lib.hid hw1; clear hw1) | (go_at_call 22; (with_reducible refine (HN.out _ K1.out).mono ?_); rintro e w2 ⟨v2, rfl, hw2⟩; have K2 := Lib.hid (Kp.trans K1.out hw2); clear hw2) | (go_at_call 22; (with_reducible refine (HM.out _ K2.out).mono ?_); rintro e w3 ⟨rfl, hw3⟩; have K3 := Lib.hid (Kp.trans K2.out hw3); clear hw3))
  go_ret
  exact ⟨rfl, K3.out⟩

set_option maxRecDepth 20000 in
set_option maxHeartbeats 2000000 in
theorem unl_ok (ads : List Addr) (m n : Nat) (hm : m < 9223372036854775808) (hn : n < 9223372036854775808) (x y : Int) (hx : (m : Int) = x) (hy : (n : Int) = y) (is : Bool) (w : World) (V : St ads w) :
    Calls Tryd.prog 8 #[.int .i64 x, .int .i64 y, .bool is] w fun e w' => e = .returned (.bool true) ∧ Kp w w' := by
  have m8 : m < 256 ^ 8 := Nat.lt_trans hm (by decide)
  have n8 : n < 256 ^ 8 := Nat.lt_trans hn (by decide)
  have HA := Lib.hid (alive_any ads w V)
  have HN := Lib.hid (fun w1 (hk : Kp w w1) => number_any ads m hm x hx w1 (V.below hk))
  have HM := Lib.hid (fun w1 (hk : Kp w w1) => number_any ads n hn y hy w1 (V.below hk))
  have HF := Lib.hid (fun w1 => flag_any is w1)
  have HG := Lib.hid (fun w1 (hk : Kp w w1) (a : Option Addr) (c : Nat) (hs : SlB (.slice a (flB is).length c) (flB is) w1) => flag_back ads is a c w1 (V.below hk) hs)
  have hin1 := beF_inB 8 m
  have hin2 := beF_inB 8 n
  have hb1 := beNum_beF 8 m m8
  have hb2 := beNum_beF 8 n n8
  have key : (decide (((beF 8 m).length : Int) < ((beF 8 n).length : Int)) = true ∧ decide (x < y) = true ∧ ((strOfNums (beF 8 m)).toList == (strOfNums (beF 8 n)).toList) = false ∧ (x == y) = false) ∨
      (decide (((beF 8 m).length : Int) < ((beF 8 n).length : Int)) = false ∧ (((beF 8 m).length : Int) == ((beF 8 n).length : Int)) = false ∧ decide (x < y) = false ∧ ((strOfNums (beF 8 m)).toList == (strOfNums (beF 8 n)).toList) = false ∧ (x == y) = false) ∨
      (decide (((beF 8 m).length : Int) < ((beF 8 n).length : Int)) = false ∧ (((beF 8 m).length : Int) == ((beF 8 n).length : Int)) = true ∧ ∃ L Q : Bool, Op.bytesLess (strOfNums (beF 8 m)).toList (strOfNums (beF 8 n)).toList = L ∧ decide (x < y) = L ∧ ((strOfNums (beF 8 m)).toList == (strOfNums (beF 8 n)).toList) = Q ∧ (x == y) = Q) := by
    have hne : (beF 8 m).length ≠ (beF 8 n).length → ((strOfNums (beF 8 m)).toList == (strOfNums (beF 8 n)).toList) = false := by
      intro h
      rw [beq_eq_false_iff_ne]
      intro h2
      rw [ByteArray.toList_eq, ByteArray.toList_eq, strOfNums_data, strOfNums_data] at h2
      have := congrArg List.length h2
      simp at this
      exact h this
    rcases Nat.lt_trichotomy (beF 8 m).length (beF 8 n).length with h | h | h
    · have hlt := beF_lt m8 n8 h
      refine .inl ⟨decide_eq_true (by omega), decide_eq_true (by omega), hne (by omega), ?_⟩
      simp only [beq_eq_false_iff_ne]
      omega
    · refine .inr (.inr ⟨decide_eq_false (by omega), by simp only [beq_iff_eq]; omega, decide (x < y), (x == y), ?_, rfl, ?_, rfl⟩)
      · rw [less_bytes _ _ hin1 hin2 h, hb1, hb2, hx, hy]
      · rw [Bool.eq_iff_iff]
        simp only [beq_iff_eq]
        constructor
        · intro h2
          have h3 : strOfNums (beF 8 m) = strOfNums (beF 8 n) := by
            rw [ByteArray.toList_eq, ByteArray.toList_eq] at h2
            exact bytes_inj h2
          have h4 := str_inj hin1 hin2 h3
          rw [← hx, ← hy, ← hb1, ← hb2, h4]
        · intro h2
          obtain rfl : m = n := by omega
          rfl
    · have hlt := beF_lt n8 m8 h
      refine .inr (.inl ⟨decide_eq_false (by omega), ?_, decide_eq_false (by omega), hne (by omega), ?_⟩)
      · simp only [beq_eq_false_iff_ne]; omega
      · simp only [beq_eq_false_iff_ne]; omega
  obtain ⟨xs, hxs⟩ : ∃ xs, beF 8 m = xs := ⟨_, rfl⟩
  obtain ⟨ys, hys⟩ : ∃ ys, beF 8 n = ys := ⟨_, rfl⟩
  simp only [hxs, hys] at HN HM key
  obtain ⟨xl, hxl⟩ : ∃ l, xs.length = l := ⟨_, rfl⟩
  obtain ⟨yl, hyl⟩ : ∃ l, ys.length = l := ⟨_, rfl⟩
  simp only [hxl, hyl] at HN HM key
  obtain ⟨X, hX⟩ : ∃ X, strOfNums xs = X := ⟨_, rfl⟩
  obtain ⟨Y, hY⟩ : ∃ Y, strOfNums ys = Y := ⟨_, rfl⟩
  simp only [hX, hY] at key
  have HX := Lib.hid hX
  have HY := Lib.hid hY
  have HXL := Lib.hid hxl
  have HYL := Lib.hid hyl
  obtain ⟨xi, hxi⟩ : ∃ xi : Int, (xl : Int) = xi := ⟨_, rfl⟩
  obtain ⟨yi, hyi⟩ : ∃ yi : Int, (yl : Int) = yi := ⟨_, rfl⟩
  rw [hxi, hyi] at key
  have hx0 : ¬ x < 0 := by omega
  have hy0 : ¬ y < 0 := by omega
  clear V hin1 hin2 hb1 hb2 m8 n8 hxs hys hX hY hxl hyl hm hn hx hy
  have goal : Calls Tryd.prog 8 #[.int .i64 x, .int .i64 y, .bool is] w fun e w' => e = .returned (.bool true) ∧ Kp w w' := by
    rcases key with ⟨q1, q2, q3, q4⟩ | ⟨q1, q2, q3, q4, q5⟩ | ⟨q1, q2, L, Q, q3, q4, q5, q6⟩
    case' inr.inr => cases L <;> cases Q
    all_goals
      go_enter Tryd.func8, Tryd.ntmps8
      go_wp2_with (first | (go_at_call 9; (with_reducible refine HA.out.mono ?_); rintro e w1 ⟨rfl, hw1⟩; have K1 := Lib.hid hw1; clear hw1) | (go_at_call 22; (with_reducible refine (HN.out _ K1.out).mono ?_); rintro e w2 ⟨v2, rfl, ho2, hw2⟩; have K2 := Lib.hid (Kp.trans K1.out hw2); have s2 := own_slb ho2; have hfm := s2.form; rw [HXL.out] at hfm; obtain ⟨a2, c2, rfl⟩ := hfm; have S2 := Lib.hid s2; clear ho2 hw2 s2) | (go_at_call 22; (with_reducible refine (HM.out _ K2.out).mono ?_); rintro e w3 ⟨v3, rfl, ho3, hw3⟩; have K3 := Lib.hid (Kp.trans K2.out hw3); have s3 := own_slb ho3; have hfm := s3.form; rw [HYL.out] at hfm; obtain ⟨a3, c3, rfl⟩ := hfm; have S3 := Lib.hid s3; have R3 := Lib.hid (S2.out.kp hw3); have cx3 := conv_slb R3.out; rw [HX.out] at cx3; have cy3 := conv_slb S3.out; rw [HY.out] at cy3; clear ho3 hw3 s3) | (go_at_call 33; (with_reducible refine (HF.out _).mono ?_); rintro e w4 ⟨v4, rfl, ho4, hw4⟩; have K4 := Lib.hid (Kp.trans K3.out hw4); have s4 := own_slb ho4; have hfm := s4.form; obtain ⟨a4, c4, rfl⟩ := hfm; have HG4 := Lib.hid (HG.out _ K4.out _ _ s4); have S4 := Lib.hid (S3.out.kp hw4); have R4 := Lib.hid (R3.out.kp hw4); clear ho4 hw4 s4) | (go_at_call 32; (with_reducible refine HG4.out.mono ?_); rintro e w5 ⟨rfl, hw5⟩; have K5 := Lib.hid (Kp.trans K4.out hw5); have cx5 := conv_slb (R4.out.kp hw5); rw [HX.out] at cx5; have cy5 := conv_slb (S4.out.kp hw5); rw [HY.out] at cy5; clear hw5))
      go_ret
      exact ⟨by simp, K5.out⟩
  exact goal
end Go.Proofs.YtfealdllicicnaaDoor
