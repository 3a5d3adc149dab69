/- Parts of this proof (own work). -/
import Derived.Test.YtncoofnhifcnhaaGreatDoorZb06
set_option maxRecDepth 100000
set_option maxHeartbeats 40000000
namespace Go.Proofs.YtncoofnhifcnhaaGreatDoor
open Go.RowKit Go.ChangeShapes Go.WideShapes
theorem letWithin_any (n l m : Int) (w : World) : Calls Tryz.prog 64 #[.int .i64 n, .int .i64 l, .int .i64 m] w fun e w' => e = .returned (.bool (decide (l ≤ n ∧ n ≤ m))) ∧ w = w' := by
 by_cases h : l ≤ n
 ·by_cases g : n ≤ m
  ·rw [dT (And.intro h g)]; go_enter Tryz.func64, Tryz.ntmps64; go_wp2; go_ret; exact ⟨rfl, rfl⟩
  ·rw [dF (fun q => g q.2)]; go_enter Tryz.func64, Tryz.ntmps64; go_wp2; go_ret; exact ⟨rfl, rfl⟩
 ·rw [dF (fun q => h q.1)]; go_enter Tryz.func64, Tryz.ntmps64; go_wp2; go_ret; exact ⟨rfl, rfl⟩
theorem mostReg_any (k : Int) (w : World) : Calls Tryz.prog 66 #[.int .i64 k] w fun e w' => e = .returned (.int .i64 (if k = 17 then 0 else 5)) ∧ w = w' := by
 by_cases h : k = 17
 ·rw [if_pos h]; go_enter Tryz.func66, Tryz.ntmps66; go_wp2; go_ret; exact ⟨rfl, rfl⟩
 ·rw [if_neg h]; go_enter Tryz.func66, Tryz.ntmps66; go_wp2; go_ret; exact ⟨rfl, rfl⟩
def protM (k p : Int) : Bool := if k = 17 ∨ k = 18 then decide (1 ≤ p ∧ p ≤ 2) else decide (p = 0)
def codeM (k c : Int) : Bool := if k = 19 then decide (1 ≤ c ∧ c ≤ 5) else if k = 16 then decide (1 ≤ c ∧ c ≤ 14) else decide (c = 0)
theorem rightProtocol_any (k p : Int) (w : World) : Calls Tryz.prog 67 #[.int .i64 k, .int .i64 p] w fun e w' => e = .returned (.bool (protM k p)) ∧ w = w' := by
 by_cases h : k = 17
 ·subst h; rw [show protM 17 p = decide (1 ≤ p ∧ p ≤ 2) from if_pos (.inl rfl)]; go_enter Tryz.func67, Tryz.ntmps67; go_wp2_with (go_at_call 64; (with_reducible refine (letWithin_any _ 1 2 _).mono ?_); rintro e w' ⟨rfl, rfl⟩)
  go_ret; exact ⟨by first | rfl | simp [*], rfl⟩
 by_cases g : k = 18
 ·subst g; rw [show protM 18 p = decide (1 ≤ p ∧ p ≤ 2) from if_pos (.inr rfl)]; go_enter Tryz.func67, Tryz.ntmps67; go_wp2_with (go_at_call 64; (with_reducible refine (letWithin_any _ 1 2 _).mono ?_); rintro e w' ⟨rfl, rfl⟩)
  go_ret; exact ⟨by first | rfl | simp [*], rfl⟩
 rw [show protM k p = decide (p = 0) from if_neg (fun q => q.elim h g)]
 by_cases z : p = 0
 ·subst z; go_enter Tryz.func67, Tryz.ntmps67; go_wp2; go_ret; exact ⟨by first | rfl | simp [*], rfl⟩
 ·rw [dF z]; go_enter Tryz.func67, Tryz.ntmps67; go_wp2; go_ret; exact ⟨by first | rfl | simp [*], rfl⟩
theorem rightCode_any (k p : Int) (w : World) : Calls Tryz.prog 68 #[.int .i64 k, .int .i64 p] w fun e w' => e = .returned (.bool (codeM k p)) ∧ w = w' := by
 by_cases h : k = 19
 ·subst h; rw [show codeM 19 p = decide (1 ≤ p ∧ p ≤ 5) from if_pos rfl]; go_enter Tryz.func68, Tryz.ntmps68; go_wp2_with (go_at_call 64; (with_reducible refine (letWithin_any _ 1 5 _).mono ?_); rintro e w' ⟨rfl, rfl⟩)
  go_ret; exact ⟨by first | rfl | simp [*], rfl⟩
 by_cases g : k = 16
 ·subst g; rw [show codeM 16 p = decide (1 ≤ p ∧ p ≤ 14) by unfold codeM; rw [if_neg (by decide), if_pos rfl]]; go_enter Tryz.func68, Tryz.ntmps68; go_wp2_with (go_at_call 64; (with_reducible refine (letWithin_any _ 1 14 _).mono ?_); rintro e w' ⟨rfl, rfl⟩)
  go_ret; exact ⟨by first | rfl | simp [*], rfl⟩
 rw [show codeM k p = decide (p = 0) by unfold codeM; rw [if_neg h, if_neg g]]
 by_cases z : p = 0
 ·subst z; go_enter Tryz.func68, Tryz.ntmps68; go_wp2; go_ret; exact ⟨by first | rfl | simp [*], rfl⟩
 ·rw [dF z]; go_enter Tryz.func68, Tryz.ntmps68; go_wp2; go_ret; exact ⟨by first | rfl | simp [*], rfl⟩
theorem down_any (k : Int) (w : World) : Calls Tryz.prog 35 #[.int .i64 k] w fun e w' => e = .returned (.bool (downM k)) ∧ w = w' := by
 by_cases h2 : k = 2
 ·subst h2; rw [show downM 2 = true by decide]; go_enter Tryz.func35, Tryz.ntmps35; go_wp2; go_ret; exact ⟨by first | rfl | simp [*], rfl⟩
 by_cases h9 : k = 9
 ·subst h9; rw [show downM 9 = true by decide]; go_enter Tryz.func35, Tryz.ntmps35; go_wp2; go_ret; exact ⟨by first | rfl | simp [*], rfl⟩
 by_cases h10 : k = 10
 ·subst h10; rw [show downM 10 = true by decide]; go_enter Tryz.func35, Tryz.ntmps35; go_wp2; go_ret; exact ⟨by first | rfl | simp [*], rfl⟩
 by_cases h11 : k = 11
 ·subst h11; rw [show downM 11 = true by decide]; go_enter Tryz.func35, Tryz.ntmps35; go_wp2; go_ret; exact ⟨by first | rfl | simp [*], rfl⟩
 by_cases h12 : k = 12
 ·subst h12; rw [show downM 12 = true by decide]; go_enter Tryz.func35, Tryz.ntmps35; go_wp2; go_ret; exact ⟨by first | rfl | simp [*], rfl⟩
 by_cases h13 : k = 13
 ·subst h13; rw [show downM 13 = true by decide]; go_enter Tryz.func35, Tryz.ntmps35; go_wp2; go_ret; exact ⟨by first | rfl | simp [*], rfl⟩
 by_cases h14 : k = 14
 ·subst h14; rw [show downM 14 = true by decide]; go_enter Tryz.func35, Tryz.ntmps35; go_wp2; go_ret; exact ⟨by first | rfl | simp [*], rfl⟩
 rw [show downM k = false from dF (by omega)]; go_enter Tryz.func35, Tryz.ntmps35; go_wp2; go_ret; exact ⟨by first | rfl | simp [*], rfl⟩
theorem right_parts (m : MM) : rightM m = (decide (1 ≤ m.k ∧ m.k ≤ 19) && (decide (0 ≤ m.f ∧ m.f ≤ 3) && (decide (0 ≤ m.t ∧ m.t ≤ 3) && (rightA m.n m.s && (decide (0 ≤ m.r ∧ m.r ≤ (if m.k = 17 then 0 else 5)) && (decide (0 ≤ m.p ∧ m.p ≤ 7) && (protM m.k m.o && codeM m.k m.c))))))) := by
 obtain ⟨k, f, t, n, s, r, p, o, c⟩ := m; unfold rightM protM codeM; dsimp only; rw [Bool.eq_iff_iff]
 generalize rightA n s = ra
 simp only [Bool.and_eq_true, decide_eq_true_eq]
 by_cases h17 : k = 17
 ·subst h17; simp only [if_true, true_or, decide_eq_true_eq, show ¬ (17 : Int) = 19 by decide, show ¬ (17 : Int) = 16 by decide, if_false]
  constructor
  ·rintro ⟨⟨⟨h1, h2⟩, h3⟩, h4⟩; exact ⟨by omega, by omega, by omega, h2, by omega, by omega, by omega, by omega⟩
  ·rintro ⟨h1, h2, h3, h4, h5, h6, h7, h8⟩; exact ⟨⟨⟨by omega, h4⟩, by omega⟩, by omega⟩
 by_cases h18 : k = 18
 ·subst h18; simp only [if_true, or_true, decide_eq_true_eq, show ¬ (18 : Int) = 17 by decide, show ¬ (18 : Int) = 19 by decide, show ¬ (18 : Int) = 16 by decide, if_false]
  constructor
  ·rintro ⟨⟨⟨h1, h2⟩, h3⟩, h4⟩; exact ⟨by omega, by omega, by omega, h2, by omega, by omega, by omega, by omega⟩
  ·rintro ⟨h1, h2, h3, h4, h5, h6, h7, h8⟩; exact ⟨⟨⟨by omega, h4⟩, by omega⟩, by omega⟩
 simp only [h17, h18, or_self, if_false]
 by_cases h19 : k = 19
 ·subst h19; simp only [if_true, decide_eq_true_eq]
  constructor
  ·rintro ⟨⟨⟨h1, h2⟩, h3⟩, h4⟩; exact ⟨by omega, by omega, by omega, h2, by omega, by omega, by omega, by omega⟩
  ·rintro ⟨h1, h2, h3, h4, h5, h6, h7, h8⟩; exact ⟨⟨⟨by omega, h4⟩, by omega⟩, by omega⟩
 by_cases h16 : k = 16
 ·subst h16; simp only [if_true, decide_eq_true_eq, show ¬ (16 : Int) = 19 by decide, if_false]
  constructor
  ·rintro ⟨⟨⟨h1, h2⟩, h3⟩, h4⟩; exact ⟨by omega, by omega, by omega, h2, by omega, by omega, by omega, by omega⟩
  ·rintro ⟨h1, h2, h3, h4, h5, h6, h7, h8⟩; exact ⟨⟨⟨by omega, h4⟩, by omega⟩, by omega⟩
 simp only [h19, h16, if_false, decide_eq_true_eq]
 constructor
 ·rintro ⟨⟨⟨h1, h2⟩, h3⟩, h4⟩; exact ⟨by omega, by omega, by omega, h2, by omega, by omega, by omega, by omega⟩
 ·rintro ⟨h1, h2, h3, h4, h5, h6, h7, h8⟩; exact ⟨⟨⟨by omega, h4⟩, by omega⟩, by omega⟩
theorem letRight_any (ads : List Addr) (m : MM) (w : World) (V : St ads w) (T : Tab w) :
  Calls Tryz.prog 24 #[.agg m.cells] w fun e w' => e = .returned (.bool (rightM m)) ∧ Kp w w' := by
 have hp := right_parts m; obtain ⟨k, f, t, n, s, r, p, o, c⟩ := m; dsimp only at hp; rw [hp]; clear hp; dsimp only [MM.cells]; have HW1 := fun w1 => letWithin_any k 1 19 w1
 have HW2 := fun w1 => letWithin_any f 0 3 w1
 have HW3 := fun w1 => letWithin_any t 0 3 w1
 have HWM := fun w1 => mostReg_any k w1
 obtain ⟨mr, hmr⟩ : ∃ x : Int, (if k = 17 then 0 else 5) = x := ⟨_, rfl⟩
 rw [hmr] at HWM ⊢; have HW5 := fun w1 => letWithin_any r 0 mr w1
 have HW6 := fun w1 => letWithin_any p 0 7 w1
 have HW7 := fun w1 => rightProtocol_any k o w1
 have HW8 := fun w1 => rightCode_any k c w1
 have kb := kA w (.cells #[k, f, t, n, s, r, p, o, c] 26); have HW4 := fun w1 (hk : Kp (w.alloc (.cells #[k, f, t, n, s, r, p, o, c] 26)) w1) => right_any ads w1 (V.below (kT kb hk)) (T.kp (kT kb hk)) n s
 obtain ⟨x0, hx0⟩ : ∃ b, decide (1 ≤ k ∧ k ≤ 19) = b := ⟨_, rfl⟩
 obtain ⟨x1, hx1⟩ : ∃ b, decide (0 ≤ f ∧ f ≤ 3) = b := ⟨_, rfl⟩
 obtain ⟨x2, hx2⟩ : ∃ b, decide (0 ≤ t ∧ t ≤ 3) = b := ⟨_, rfl⟩
 obtain ⟨x3, hx3⟩ : ∃ b, rightA n s = b := ⟨_, rfl⟩
 obtain ⟨x4, hx4⟩ : ∃ b, decide (0 ≤ r ∧ r ≤ mr) = b := ⟨_, rfl⟩
 obtain ⟨x5, hx5⟩ : ∃ b, decide (0 ≤ p ∧ p ≤ 7) = b := ⟨_, rfl⟩
 obtain ⟨x6, hx6⟩ : ∃ b, protM k o = b := ⟨_, rfl⟩
 obtain ⟨x7, hx7⟩ : ∃ b, codeM k c = b := ⟨_, rfl⟩
 rw [hx0] at HW1 ⊢; rw [hx1] at HW2 ⊢; rw [hx2] at HW3 ⊢; rw [hx3] at HW4 ⊢; rw [hx4] at HW5 ⊢; rw [hx5] at HW6 ⊢; rw [hx6] at HW7 ⊢; rw [hx7] at HW8 ⊢; have hr := (mH w (.cells #[k, f, t, n, s, r, p, o, c] 26))
 go_enter Tryz.func24, Tryz.ntmps24; go_wp2; obtain ⟨w0, hw0⟩ : ∃ x, w.alloc (.cells #[k, f, t, n, s, r, p, o, c] 26) = x := ⟨_, rfl⟩
 obtain ⟨p0, hp0⟩ : ∃ x, w.heap.size = x := ⟨_, rfl⟩
 rw [hw0] at kb hr HW4 ⊢; rw [hp0] at hr ⊢; have b0 : w0.cell? ⟨p0, 0, none⟩ = some (.int .i64 k) := by unfold World.cell?; dsimp only; rw [hr]; rfl
 have b1 : w0.cell? ⟨p0, 1, none⟩ = some (.int .i64 f) := by unfold World.cell?; dsimp only; rw [hr]; rfl
 have b2 : w0.cell? ⟨p0, 2, none⟩ = some (.int .i64 t) := by unfold World.cell?; dsimp only; rw [hr]; rfl
 have b3 : w0.cell? ⟨p0, 3, none⟩ = some (.int .i64 n) := by unfold World.cell?; dsimp only; rw [hr]; rfl
 have b4 : w0.cell? ⟨p0, 4, none⟩ = some (.int .i64 s) := by unfold World.cell?; dsimp only; rw [hr]; rfl
 have b5 : w0.cell? ⟨p0, 5, none⟩ = some (.int .i64 r) := by unfold World.cell?; dsimp only; rw [hr]; rfl
 have b6 : w0.cell? ⟨p0, 6, none⟩ = some (.int .i64 p) := by unfold World.cell?; dsimp only; rw [hr]; rfl
 have b7 : w0.cell? ⟨p0, 7, none⟩ = some (.int .i64 o) := by unfold World.cell?; dsimp only; rw [hr]; rfl
 have b8 : w0.cell? ⟨p0, 8, none⟩ = some (.int .i64 c) := by unfold World.cell?; dsimp only; rw [hr]; rfl
 obtain ⟨K0, HW1, HW2, HW3, HW4, HW5, HW6, HW7⟩ := hD8 kb HW1 HW2 HW3 HW4 HW5 HW6 HW7; obtain ⟨HW8, HWM⟩ := hD2 HW8 HWM; clear hr hw0 kb hp0 hx0 hx1 hx2 hx3 hx4 hx5 hx6 hx7 hmr V T; refine rgW (fun w' => Kp w0 w') ?_ fun hH => ?_
 ·exact (Kp.refl w0).drew
 refine tkP 0 ?_
 go_simp; refine tkP 1 ?_ (y := by intro w hZ; have q := kZ hZ b0; go_simp; try rfl)
 go_simp; refine rdW 2 fun K hK => ?_
 go_simp; go_wp2_with (go_at_call 64; (with_reducible refine (HW1.out _).mono ?_); rintro e w' ⟨rfl, rfl⟩)
 refine hK.out _ _ (hH) fun hH => ?_
 clear hK K; refine tkP 3 ?_
 go_simp
 cases x0 with
 | false =>
  refine skW 4 ?_
  go_simp; refine skW 5 ?_
  go_simp; refine skW 6 ?_
  go_simp; refine tkP 7 ?_
  go_simp; refine tkP 8 ?_
  go_simp; refine skW 9 ?_
  go_simp; refine skW 10 ?_
  go_simp; refine skW 11 ?_
  go_simp; refine tkP 12 ?_
  go_simp; refine tkP 13 ?_
  go_simp; refine skW 14 ?_
  go_simp; refine skW 15 ?_
  go_simp; refine skW 16 ?_
  go_simp; refine tkP 17 ?_
  go_simp; refine tkP 18 ?_
  go_simp; refine skW 19 ?_
  go_simp; refine skW 20 ?_
  go_simp; refine skW 21 ?_
  go_simp; refine skW 22 ?_
  go_simp; refine skW 23 ?_
  go_simp; refine skW 24 ?_
  go_simp; refine tkP 25 ?_
  go_simp; refine tkP 26 ?_
  go_simp; refine skW 27 ?_
  go_simp; refine skW 28 ?_
  go_simp; refine skW 29 ?_
  go_simp; refine tkP 30 ?_
  go_simp; refine tkP 31 ?_
  go_simp; refine skW 32 ?_
  go_simp; refine skW 33 ?_
  go_simp; refine skW 34 ?_
  go_simp; refine skW 35 ?_
  go_simp; refine skW 36 ?_
  go_simp; refine tkP 37 ?_
  go_simp; refine tkP 38 ?_
  go_simp; refine skW 39 ?_
  go_simp; refine skW 40 ?_
  go_simp; refine skW 41 ?_
  go_simp; refine skW 42 ?_
  go_simp; refine skW 43 ?_
  go_simp; refine tkP 44 ?_
  go_simp; refine tkP 45 ?_
  go_simp; refine dnW ?_ _
  go_wp2; go_ret; exact ⟨rfl, kT K0.out hH⟩
 | true =>
  refine tkP 4 ?_
  go_simp; refine tkP 5 ?_ (y := by intro w hZ; have q := kZ hZ b1; go_simp; try rfl)
  go_simp; refine rdW 6 fun K hK => ?_
  go_simp; go_wp2_with (go_at_call 64; (with_reducible refine (HW2.out _).mono ?_); rintro e w' ⟨rfl, rfl⟩)
  refine hK.out _ _ (hH) fun hH => ?_
  clear hK K; refine tkP 7 ?_
  go_simp; refine tkP 8 ?_
  go_simp
  cases x1 with
  | false =>
   refine skW 9 ?_
   go_simp; refine skW 10 ?_
   go_simp; refine skW 11 ?_
   go_simp; refine tkP 12 ?_
   go_simp; refine tkP 13 ?_
   go_simp; refine skW 14 ?_
   go_simp; refine skW 15 ?_
   go_simp; refine skW 16 ?_
   go_simp; refine tkP 17 ?_
   go_simp; refine tkP 18 ?_
   go_simp; refine skW 19 ?_
   go_simp; refine skW 20 ?_
   go_simp; refine skW 21 ?_
   go_simp; refine skW 22 ?_
   go_simp; refine skW 23 ?_
   go_simp; refine skW 24 ?_
   go_simp; refine tkP 25 ?_
   go_simp; refine tkP 26 ?_
   go_simp; refine skW 27 ?_
   go_simp; refine skW 28 ?_
   go_simp; refine skW 29 ?_
   go_simp; refine tkP 30 ?_
   go_simp; refine tkP 31 ?_
   go_simp; refine skW 32 ?_
   go_simp; refine skW 33 ?_
   go_simp; refine skW 34 ?_
   go_simp; refine skW 35 ?_
   go_simp; refine skW 36 ?_
   go_simp; refine tkP 37 ?_
   go_simp; refine tkP 38 ?_
   go_simp; refine skW 39 ?_
   go_simp; refine skW 40 ?_
   go_simp; refine skW 41 ?_
   go_simp; refine skW 42 ?_
   go_simp; refine skW 43 ?_
   go_simp; refine tkP 44 ?_
   go_simp; refine tkP 45 ?_
   go_simp; refine dnW ?_ _
   go_wp2; go_ret; exact ⟨rfl, kT K0.out hH⟩
  | true =>
   refine tkP 9 ?_
   go_simp; refine tkP 10 ?_ (y := by intro w hZ; have q := kZ hZ b2; go_simp; try rfl)
   go_simp; refine rdW 11 fun K hK => ?_
   go_simp; go_wp2_with (go_at_call 64; (with_reducible refine (HW3.out _).mono ?_); rintro e w' ⟨rfl, rfl⟩)
   refine hK.out _ _ (hH) fun hH => ?_
   clear hK K; refine tkP 12 ?_
   go_simp; refine tkP 13 ?_
   go_simp
   cases x2 with
   | false =>
    refine skW 14 ?_
    go_simp; refine skW 15 ?_
    go_simp; refine skW 16 ?_
    go_simp; refine tkP 17 ?_
    go_simp; refine tkP 18 ?_
    go_simp; refine skW 19 ?_
    go_simp; refine skW 20 ?_
    go_simp; refine skW 21 ?_
    go_simp; refine skW 22 ?_
    go_simp; refine skW 23 ?_
    go_simp; refine skW 24 ?_
    go_simp; refine tkP 25 ?_
    go_simp; refine tkP 26 ?_
    go_simp; refine skW 27 ?_
    go_simp; refine skW 28 ?_
    go_simp; refine skW 29 ?_
    go_simp; refine tkP 30 ?_
    go_simp; refine tkP 31 ?_
    go_simp; refine skW 32 ?_
    go_simp; refine skW 33 ?_
    go_simp; refine skW 34 ?_
    go_simp; refine skW 35 ?_
    go_simp; refine skW 36 ?_
    go_simp; refine tkP 37 ?_
    go_simp; refine tkP 38 ?_
    go_simp; refine skW 39 ?_
    go_simp; refine skW 40 ?_
    go_simp; refine skW 41 ?_
    go_simp; refine skW 42 ?_
    go_simp; refine skW 43 ?_
    go_simp; refine tkP 44 ?_
    go_simp; refine tkP 45 ?_
    go_simp; refine dnW ?_ _
    go_wp2; go_ret; exact ⟨rfl, kT K0.out hH⟩
   | true =>
    refine tkP 14 ?_
    go_simp; refine tkP 15 ?_ (y := by intro w hZ; obtain ⟨q, q2⟩ := kZ2 hZ b3 b4; go_simp; try rfl)
    go_simp; refine rdW 16 fun K hK => ?_
    go_simp; go_wp2_with (go_at_call 65; (with_reducible refine (HW4.out _ hH).mono ?_); rintro e w' ⟨rfl, hk4⟩; have K4 := hD (kT hH hk4); clear hk4)
    refine hK.out _ _ (K4.out) fun hH => ?_
    clear hK K; refine tkP 17 ?_
    go_simp; refine tkP 18 ?_
    go_simp
    cases x3 with
    | false =>
     refine skW 19 ?_
     go_simp; refine skW 20 ?_
     go_simp; refine skW 21 ?_
     go_simp; refine skW 22 ?_
     go_simp; refine skW 23 ?_
     go_simp; refine skW 24 ?_
     go_simp; refine tkP 25 ?_
     go_simp; refine tkP 26 ?_
     go_simp; refine skW 27 ?_
     go_simp; refine skW 28 ?_
     go_simp; refine skW 29 ?_
     go_simp; refine tkP 30 ?_
     go_simp; refine tkP 31 ?_
     go_simp; refine skW 32 ?_
     go_simp; refine skW 33 ?_
     go_simp; refine skW 34 ?_
     go_simp; refine skW 35 ?_
     go_simp; refine skW 36 ?_
     go_simp; refine tkP 37 ?_
     go_simp; refine tkP 38 ?_
     go_simp; refine skW 39 ?_
     go_simp; refine skW 40 ?_
     go_simp; refine skW 41 ?_
     go_simp; refine skW 42 ?_
     go_simp; refine skW 43 ?_
     go_simp; refine tkP 44 ?_
     go_simp; refine tkP 45 ?_
     go_simp; refine dnW ?_ _
     go_wp2; go_ret; exact ⟨rfl, kT K0.out hH⟩
    | true =>
     refine tkP 19 ?_
     go_simp; refine tkP 20 ?_ (y := by intro w hZ; have q := kZ hZ b5; go_simp; try rfl)
     go_simp; refine tkP 21 ?_
     go_simp; refine tkP 22 ?_ (y := by intro w hZ; have q := kZ hZ b0; go_simp; try rfl)
     go_simp; refine rdW 23 fun K hK => ?_
     go_simp; go_wp2_with (go_at_call 66; (with_reducible refine (HWM.out _).mono ?_); rintro e w' ⟨rfl, rfl⟩)
     refine hK.out _ _ (hH) fun hH => ?_
     clear hK K; refine rdW 24 fun K hK => ?_
     go_simp; go_wp2_with (go_at_call 64; (with_reducible refine (HW5.out _).mono ?_); rintro e w' ⟨rfl, rfl⟩)
     refine hK.out _ _ (hH) fun hH => ?_
     clear hK K; refine tkP 25 ?_
     go_simp; refine tkP 26 ?_
     go_simp
     cases x4 with
     | false =>
      refine skW 27 ?_
      go_simp; refine skW 28 ?_
      go_simp; refine skW 29 ?_
      go_simp; refine tkP 30 ?_
      go_simp; refine tkP 31 ?_
      go_simp; refine skW 32 ?_
      go_simp; refine skW 33 ?_
      go_simp; refine skW 34 ?_
      go_simp; refine skW 35 ?_
      go_simp; refine skW 36 ?_
      go_simp; refine tkP 37 ?_
      go_simp; refine tkP 38 ?_
      go_simp; refine skW 39 ?_
      go_simp; refine skW 40 ?_
      go_simp; refine skW 41 ?_
      go_simp; refine skW 42 ?_
      go_simp; refine skW 43 ?_
      go_simp; refine tkP 44 ?_
      go_simp; refine tkP 45 ?_
      go_simp; refine dnW ?_ _
      go_wp2; go_ret; exact ⟨rfl, kT K0.out hH⟩
     | true =>
      refine tkP 27 ?_
      go_simp; refine tkP 28 ?_ (y := by intro w hZ; have q := kZ hZ b6; go_simp; try rfl)
      go_simp; refine rdW 29 fun K hK => ?_
      go_simp; go_wp2_with (go_at_call 64; (with_reducible refine (HW6.out _).mono ?_); rintro e w' ⟨rfl, rfl⟩)
      refine hK.out _ _ (hH) fun hH => ?_
      clear hK K; refine tkP 30 ?_
      go_simp; refine tkP 31 ?_
      go_simp
      cases x5 with
      | false =>
       refine skW 32 ?_
       go_simp; refine skW 33 ?_
       go_simp; refine skW 34 ?_
       go_simp; refine skW 35 ?_
       go_simp; refine skW 36 ?_
       go_simp; refine tkP 37 ?_
       go_simp; refine tkP 38 ?_
       go_simp; refine skW 39 ?_
       go_simp; refine skW 40 ?_
       go_simp; refine skW 41 ?_
       go_simp; refine skW 42 ?_
       go_simp; refine skW 43 ?_
       go_simp; refine tkP 44 ?_
       go_simp; refine tkP 45 ?_
       go_simp; refine dnW ?_ _
       go_wp2; go_ret; exact ⟨rfl, kT K0.out hH⟩
      | true =>
       refine tkP 32 ?_
       go_simp; refine tkP 33 ?_ (y := by intro w hZ; have q := kZ hZ b0; go_simp; try rfl)
       go_simp; refine tkP 34 ?_
       go_simp; refine tkP 35 ?_ (y := by intro w hZ; have q := kZ hZ b7; go_simp; try rfl)
       go_simp; refine rdW 36 fun K hK => ?_
       go_simp; go_wp2_with (go_at_call 67; (with_reducible refine (HW7.out _).mono ?_); rintro e w' ⟨rfl, rfl⟩)
       refine hK.out _ _ (hH) fun hH => ?_
       clear hK K; refine tkP 37 ?_
       go_simp; refine tkP 38 ?_
       go_simp
       cases x6 with
       | false =>
        refine skW 39 ?_
        go_simp; refine skW 40 ?_
        go_simp; refine skW 41 ?_
        go_simp; refine skW 42 ?_
        go_simp; refine skW 43 ?_
        go_simp; refine tkP 44 ?_
        go_simp; refine tkP 45 ?_
        go_simp; refine dnW ?_ _
        go_wp2; go_ret; exact ⟨rfl, kT K0.out hH⟩
       | true =>
        refine tkP 39 ?_
        go_simp; refine tkP 40 ?_ (y := by intro w hZ; have q := kZ hZ b0; go_simp; try rfl)
        go_simp; refine tkP 41 ?_
        go_simp; refine tkP 42 ?_ (y := by intro w hZ; have q := kZ hZ b8; go_simp; try rfl)
        go_simp; refine rdW 43 fun K hK => ?_
        go_simp; go_wp2_with (go_at_call 68; (with_reducible refine (HW8.out _).mono ?_); rintro e w' ⟨rfl, rfl⟩)
        refine hK.out _ _ (hH) fun hH => ?_
        clear hK K; refine tkP 44 ?_
        go_simp; refine tkP 45 ?_
        go_simp; refine dnW ?_ _
        go_wp2; go_ret; exact ⟨rfl, kT K0.out hH⟩
variable {w0 w w' W w3 : World} {ads : List Addr}
theorem p3_0 (w : World) (o o' o'' : Obj) : (((w.alloc o).alloc o').alloc o'').heap[w.heap.size]? = some o := rZ (kA _ o'') (nX0 w o o')
theorem p3_1 (w : World) (o o' o'' : Obj) : (((w.alloc o).alloc o').alloc o'').heap[w.heap.size + 1]? = some o' := rZ (kA _ o'') (nX1 w o o')
theorem p3_2 (w : World) (o o' o'' : Obj) : (((w.alloc o).alloc o').alloc o'').heap[w.heap.size + 1 + 1]? = some o'' := by
 have := (mH ((w.alloc o).alloc o') o'')
 rwa [show ((w.alloc o).alloc o').heap.size = w.heap.size + 1 + 1 by simp] at this
theorem pk2 (w : World) (o o' : Obj) : Kp w ((w.alloc o).alloc o') := kT (kA _ _) (kA _ _)
theorem pk3 (w : World) (o o' o'' : Obj) : Kp w (((w.alloc o).alloc o').alloc o'') := kT (pk2 w o o') (kA _ _)
theorem cellsR3 {b : Nat} {t : TypeId} {w : World} {x0 x1 x2 : Value} (h : w.heap[b]? = some (.cells #[x0, x1, x2] t (0, 0))) : w.cell? ⟨b, 0, none⟩ = some x0 ∧ w.cell? ⟨b, 1, none⟩ = some x1 ∧ w.cell? ⟨b, 2, none⟩ = some x2 := by
 refine ⟨?_, ?_, ?_⟩ <;> (unfold World.cell?; dsimp only; rw [h]; rfl)
theorem setR3 {b : Nat} {t : TypeId} {w : World} {x0 x1 x2 : Value} (y0 y1 y2 : Value) (h : w.heap[b]? = some (.cells #[x0, x1, x2] t (0, 0))) : (((w.setCell ⟨b, 0, none⟩ y0).setCell ⟨b, 1, none⟩ y1).setCell ⟨b, 2, none⟩ y2).heap[b]? = some (.cells #[y0, y1, y2] t (0, 0)) := by
 have h1 : (w.setCell ⟨b, 0, none⟩ y0).heap[b]? = some (.cells #[y0, x1, x2] t (0, 0)) := (Joins.block_setCell h _).trans rfl; have h2 : ((w.setCell ⟨b, 0, none⟩ y0).setCell ⟨b, 1, none⟩ y1).heap[b]? = some (.cells #[y0, y1, x2] t (0, 0)) := (Joins.block_setCell h1 _).trans rfl; exact (Joins.block_setCell h2 _).trans rfl
theorem setR3_kp {b : Nat} {w0 w : World} (hk : Kp w0 w) (hb : w0.heap.size ≤ b) (y0 y1 y2 : Value) : Kp w0 (((w.setCell ⟨b, 0, none⟩ y0).setCell ⟨b, 1, none⟩ y1).setCell ⟨b, 2, none⟩ y2) :=
 Below.setCell (Below.setCell (Below.setCell hk hb _) hb _) hb _
theorem setR3_ne {b c : Nat} {w : World} (y0 y1 y2 : Value) (hne : c ≠ b) : (((w.setCell ⟨b, 0, none⟩ y0).setCell ⟨b, 1, none⟩ y1).setCell ⟨b, 2, none⟩ y2).heap[c]? = w.heap[c]? := by
 rw [bS _ _ _ _ hne, bS _ _ _ _ hne, bS _ _ _ _ hne]
theorem pdemand_t (v : Value) (w : World) : Calls Tryz.prog 55 #[.bool true, v] w fun e w' => e = .returned (.tuple #[]) ∧ w = w' := by
 go_enter Tryz.func55, Tryz.ntmps55; go_wp2; go_end0
 exact ⟨rfl, rfl⟩
theorem pdemand_f (a : Addr) (w : World) : Calls Tryz.prog 55 #[.bool false, snt a] w fun e w' => e = .panicked [{ v := snt a, recovered := false }] ∧ w = w' := by
 have hpn := panic_some (P := Tryz.prog) 257 (.pointer (some a)) w; go_enter Tryz.func55, Tryz.ntmps55; go_wp2; exact ⟨rfl, rfl, rfl⟩
theorem kPlaced (xn xs xr y1 y2 y3 y4 nd i : Int) (b : Bool) (hb : (xr != -1) = b) : Calls Tryz.prog 43 #[.agg #[xn, xs, xr, y1, y2, y3, y4, nd, i]] w fun r w' => r = .returned (.bool b) ∧ Kp w w' := by
 obtain ⟨c0, c1, c2, c3, c4, c5, c6, c7, c8⟩ := cells9 (mH w (.cells #[xn, xs, xr, y1, y2, y3, y4, nd, i] 84)); have KB := hD (kA w (.cells #[xn, xs, xr, y1, y2, y3, y4, nd, i] 84)); go_enter Tryz.func43, Tryz.ntmps43; go_wp2; go_ret; exact ⟨rfl, KB.out⟩
theorem kAsks (k : Int) : Calls Tryz.prog 31 #[.int .i64 k] w fun r w' => r = .returned (.bool (decide (k = 15) || downM k)) ∧ w = w' := by
 have HD := hD (fun w => down_any k w)
 by_cases h : k = 15
 ·subst h; go_enter Tryz.func31, Tryz.ntmps31; go_wp2; go_ret; exact ⟨rfl, rfl⟩
 ·rw [dF h, Bool.false_or]; have g1 : (k == 15) = false := by simpa using h
  clear h; go_enter Tryz.func31, Tryz.ntmps31; go_wp2_with (go_at_call 35; (with_reducible refine (HD.out _).mono ?_); rintro e' w1 ⟨rfl, rfl⟩)
  go_ret; exact ⟨rfl, rfl⟩
theorem kMessage (xn xs xr y1 y2 y3 y4 nd i : Int) (k rg : Int) : Calls Tryz.prog 50 #[.agg #[xn, xs, xr, y1, y2, y3, y4, nd, i], .int .i64 k, .int .i64 rg] w fun r w' => r = .returned (.agg #[k, nd, xn, xn, xs, rg, i, (0:Int), (0:Int)]) ∧ Kp w w' := by
 obtain ⟨a0, a1, a2, a3, a4, a5, a6, a7, a8⟩ := cells9 (nX0 w (.cells #[xn, xs, xr, y1, y2, y3, y4, nd, i] 84) (.cells #[(0:Int), (0:Int), (0:Int), (0:Int), (0:Int), (0:Int), (0:Int), (0:Int), (0:Int)] 26)); have K2 := hD (pk2 w (.cells #[xn, xs, xr, y1, y2, y3, y4, nd, i] 84) (.cells #[k, nd, xn, xn, xs, rg, i, (0:Int), (0:Int)] 26)); go_enter Tryz.func50, Tryz.ntmps50; go_wp2; refine bodyPost_ret (results_cell_row (p := 6) rfl _ _ (w.heap.size + 1) 26 _ (0, 0) _ rfl (nX1 w _ _) Tryz.underlying26 rfl (by kernel_rfl)) rfl ?_
 exact ⟨rfl, K2.out⟩
theorem kRegister (xn xs xr y1 y2 y3 y4 nd i : Int) : Calls Tryz.prog 61 #[.agg #[xn, xs, xr, y1, y2, y3, y4, nd, i]] w fun r w' => r = .returned (.agg #[(17:Int), nd, xn, xn, xs, (0:Int), i, y1, (0:Int)]) ∧ Kp w w' := by
 have HM := hD (fun w => kMessage (w := w) xn xs xr y1 y2 y3 y4 nd i 17 0); have r0 := hD (nX0 w (.cells #[xn, xs, xr, y1, y2, y3, y4, nd, i] 84) (.cells #[(0:Int), (0:Int), (0:Int), (0:Int), (0:Int), (0:Int), (0:Int), (0:Int), (0:Int)] 26)); have r1 := hD (nX1 w (.cells #[xn, xs, xr, y1, y2, y3, y4, nd, i] 84) (.cells #[(0:Int), (0:Int), (0:Int), (0:Int), (0:Int), (0:Int), (0:Int), (0:Int), (0:Int)] 26)); have K2 := hD (pk2 w (.cells #[xn, xs, xr, y1, y2, y3, y4, nd, i] 84) (.cells #[(0:Int), (0:Int), (0:Int), (0:Int), (0:Int), (0:Int), (0:Int), (0:Int), (0:Int)] 26)); obtain ⟨a0, a1, a2, a3, a4, a5, a6, a7, a8⟩ := cells9 r0.out; go_enter Tryz.func61, Tryz.ntmps61; go_wp2_with (go_at_call 50; (with_reducible refine (HM.out _).mono ?_); rintro e' w3 ⟨rfl, hk3⟩; have K3 := hD (kT K2.out (kT hk3 (kA w3 (.cells #[(17:Int), nd, xn, xn, xs, (0:Int), i, y1, (0:Int)] 26)))); have R0 := hD (rZ (kT hk3 (kA w3 (.cells #[(17:Int), nd, xn, xn, xs, (0:Int), i, (0:Int), (0:Int)] 26))) r0.out); have R1 := hD (rZ (kT hk3 (kA w3 (.cells #[(17:Int), nd, xn, xn, xs, (0:Int), i, y1, (0:Int)] 26))) r1.out); have R2 := hD (mH w3 (.cells #[(17:Int), nd, xn, xn, xs, (0:Int), i, y1, (0:Int)] 26)); obtain ⟨m0, m1, m2, m3, m4, m5, m6, m7, m8⟩ := cells9 (mH w3 (.cells #[(17:Int), nd, xn, xn, xs, (0:Int), i, (0:Int), (0:Int)] 26)); have B3 := hD (kS (kT K2.out hk3)); have hne := hD (show w3.heap.size ≠ w.heap.size + 1 from fun e => by have := oZ (rZ hk3 r1.out); omega); obtain ⟨c0, c1, c2, c3, c4, c5, c6, c7, c8⟩ := cells9 R0.out; obtain ⟨d0, d1, d2, d3, d4, d5, d6, d7, d8⟩ := cells9 R2.out; obtain ⟨h10, h11, h12, h13, h14, h15, h16, h17, h18⟩ := cells9 R1.out; have f1 := frozN R1.out; have f2 := frozN R2.out; clear hk3)
 refine bodyPost_ret (results_cell_row (p := 2) rfl _ _ (w.heap.size + 1) 26 _ (0, 0) _ rfl (set9 (.int .i64 17) (.int .i64 nd) (.int .i64 xn) (.int .i64 xn) (.int .i64 xs) (.int .i64 0) (.int .i64 i) (.int .i64 y1) (.int .i64 0) R1.out) Tryz.underlying26 rfl (by kernel_rfl)) rfl ?_
 exact ⟨rfl, set9_kp K3.out (by simp) _ _ _ _ _ _ _ _ _⟩
theorem kJoins (xn xs xr y1 y2 y3 y4 nd i : Int) : Calls Tryz.prog 60 #[.agg #[xn, xs, xr, y1, y2, y3, y4, nd, i]] w fun r w' => r = .returned (.agg #[(6:Int), xn, xs, (0:Int), (0:Int), i, y1, (0:Int), (0:Int), (0:Int), (0:Int), (0:Int), (0:Int), .float .f64 0]) ∧ Kp w w' := by
 obtain ⟨a0, a1, a2, a3, a4, a5, a6, a7, a8⟩ := cells9 (nX0 w (.cells #[xn, xs, xr, y1, y2, y3, y4, nd, i] 84) (.cells #[(0:Int), (0:Int), (0:Int), (0:Int), (0:Int), (0:Int), (0:Int), (0:Int), (0:Int), (0:Int), (0:Int), (0:Int), (0:Int), .float .f64 0] 73)); have K2 := hD (pk2 w (.cells #[xn, xs, xr, y1, y2, y3, y4, nd, i] 84) (.cells #[(6:Int), xn, xs, (0:Int), (0:Int), i, y1, (0:Int), (0:Int), (0:Int), (0:Int), (0:Int), (0:Int), .float .f64 0] 73)); have hsf := sF; go_enter Tryz.func60, Tryz.ntmps60; go_wp2; refine bodyPost_ret (results_cell_row (p := 2) rfl _ _ (w.heap.size + 1) 73 _ (0, 0) _ rfl (nX1 w _ _) Tryz.underlying73 rfl (by kernel_rfl)) rfl ?_
 exact ⟨rfl, K2.out⟩
theorem kTurns (xn xs xr y1 y2 y3 y4 nd i : Int) (t1 t2 t3 t4 : Int) : Calls Tryz.prog 79 #[.agg #[xn, xs, xr, y1, y2, y3, y4, nd, i], .agg #[t1, t2, t3, t4]] w fun r w' => r = .returned (.agg #[(8:Int), (0:Int), (0:Int), (0:Int), (0:Int), i, (0:Int), (0:Int), (0:Int), (0:Int), t3, t4, (0:Int), .float .f64 0]) ∧ Kp w w' := by
 obtain ⟨a0, a1, a2, a3, a4, a5, a6, a7, a8⟩ := cells9 (p3_0 w (.cells #[xn, xs, xr, y1, y2, y3, y4, nd, i] 84) (.cells #[t1, t2, t3, t4] 69) (.cells #[(0:Int), (0:Int), (0:Int), (0:Int), (0:Int), (0:Int), (0:Int), (0:Int), (0:Int), (0:Int), (0:Int), (0:Int), (0:Int), .float .f64 0] 73)); obtain ⟨b0, b1, b2, b3⟩ := cells_4 (p3_1 w (.cells #[xn, xs, xr, y1, y2, y3, y4, nd, i] 84) (.cells #[t1, t2, t3, t4] 69) (.cells #[(0:Int), (0:Int), (0:Int), (0:Int), (0:Int), (0:Int), (0:Int), (0:Int), (0:Int), (0:Int), (0:Int), (0:Int), (0:Int), .float .f64 0] 73)); have K2 := hD (pk3 w (.cells #[xn, xs, xr, y1, y2, y3, y4, nd, i] 84) (.cells #[t1, t2, t3, t4] 69) (.cells #[(8:Int), (0:Int), (0:Int), (0:Int), (0:Int), i, (0:Int), (0:Int), (0:Int), (0:Int), t3, t4, (0:Int), .float .f64 0] 73)); have hsf := sF; go_enter Tryz.func79, Tryz.ntmps79; go_wp2; refine bodyPost_ret (results_cell_row (p := 4) rfl _ _ (w.heap.size + 1 + 1) 73 _ (0, 0) _ rfl (p3_2 w _ _ _) Tryz.underlying73 rfl (by kernel_rfl)) rfl ?_
 exact ⟨rfl, K2.out⟩
theorem kRegAgain (xn xs xr y1 y2 y3 y4 nd i : Int) (g : MM) (hg : g = if y3 = 1 then ⟨17, nd, xn, xn, xs, 0, i, y1, 0⟩ else ⟨0, 0, 0, 0, 0, 0, 0, 0, 0⟩) : Calls Tryz.prog 48 #[.agg #[xn, xs, xr, y1, y2, y3, y4, nd, i]] w fun r w' => r = .returned (.tuple #[.agg g.cells, .bool (decide (y3 = 1))]) ∧ Kp w w' := by
 have HM := hD (fun w => kRegister (w := w) xn xs xr y1 y2 y3 y4 nd i); have r0 := hD (nX0 w (.cells #[xn, xs, xr, y1, y2, y3, y4, nd, i] 84) (.cells #[(0:Int), (0:Int), (0:Int), (0:Int), (0:Int), (0:Int), (0:Int), (0:Int), (0:Int)] 26)); have r1 := hD (nX1 w (.cells #[xn, xs, xr, y1, y2, y3, y4, nd, i] 84) (.cells #[(0:Int), (0:Int), (0:Int), (0:Int), (0:Int), (0:Int), (0:Int), (0:Int), (0:Int)] 26)); have K2 := hD (pk2 w (.cells #[xn, xs, xr, y1, y2, y3, y4, nd, i] 84) (.cells #[(0:Int), (0:Int), (0:Int), (0:Int), (0:Int), (0:Int), (0:Int), (0:Int), (0:Int)] 26)); obtain ⟨a0, a1, a2, a3, a4, a5, a6, a7, a8⟩ := cells9 r0.out; have f1 := frozN r1.out
 by_cases h1 : y3 = 1
 ·rw [if_pos h1] at hg; subst hg; rw [dT h1]; have g1 : (y3 == 1) = true := beq_iff_eq.2 h1; have g2 : (y3 != 1) = false := by simp [h1]
  clear h1; go_enter Tryz.func48, Tryz.ntmps48; go_wp2_with (go_at_call 61; (with_reducible refine (HM.out _).mono ?_); rintro e' w3 ⟨rfl, hk3⟩; have K3 := hD (kT K2.out hk3); have R1 := hD (rZ hk3 r1.out); obtain ⟨h10, h11, h12, h13, h14, h15, h16, h17, h18⟩ := cells9 R1.out; have f3 := frozN R1.out; clear hk3)
  refine bodyPost_ret (rQ (p := 2) (u := 3) rfl _ _ (w.heap.size + 1) 26 _ (0, 0) _ rfl (set9 (.int .i64 17) (.int .i64 nd) (.int .i64 xn) (.int .i64 xn) (.int .i64 xs) (.int .i64 0) (.int .i64 i) (.int .i64 y1) (.int .i64 0) R1.out) Tryz.underlying26 rfl (by kernel_rfl)) rfl ?_
  exact ⟨rfl, set9_kp K3.out (by simp) _ _ _ _ _ _ _ _ _⟩
 ·rw [if_neg h1] at hg; subst hg; rw [dF h1]; have g1 : (y3 == 1) = false := by simpa using h1
  have g2 : (y3 != 1) = true := by simp [h1]
  clear h1; go_enter Tryz.func48, Tryz.ntmps48; go_wp2; refine bodyPost_ret (rQ (p := 2) (u := 3) rfl _ _ (w.heap.size + 1) 26 _ (0, 0) _ rfl (nX1 w _ _) Tryz.underlying26 rfl (by kernel_rfl)) rfl ?_
  exact ⟨rfl, K2.out⟩
theorem kFits (xn xs xr y1 y2 y3 y4 nd i : Int) (gk gf gt gn gs gr gp go gc : Int) (b : Bool) (hb : (decide (gn = xn ∧ gs = xs) && (gf == xn && (gt == nd && (decide (xr = -1) || gr == xr)))) = b) : Calls Tryz.prog 30 #[.agg #[xn, xs, xr, y1, y2, y3, y4, nd, i], .agg #[gk, gf, gt, gn, gs, gr, gp, go, gc]] w fun r w' => r = .returned (.bool b) ∧ Kp w w' := by
 have HPL := hD (fun w b hb => kPlaced (w := w) xn xs xr y1 y2 y3 y4 nd i b hb); have r0 := hD (nX0 w (.cells #[xn, xs, xr, y1, y2, y3, y4, nd, i] 84) (.cells #[gk, gf, gt, gn, gs, gr, gp, go, gc] 26)); have r1 := hD (nX1 w (.cells #[xn, xs, xr, y1, y2, y3, y4, nd, i] 84) (.cells #[gk, gf, gt, gn, gs, gr, gp, go, gc] 26)); have K2 := hD (pk2 w (.cells #[xn, xs, xr, y1, y2, y3, y4, nd, i] 84) (.cells #[gk, gf, gt, gn, gs, gr, gp, go, gc] 26)); obtain ⟨a0, a1, a2, a3, a4, a5, a6, a7, a8⟩ := cells9 r0.out; obtain ⟨b0, b1, b2, b3, b4, b5, b6, b7, b8⟩ := cells9 r1.out; have heq : ∀ w, (binOp .eql 24 (.agg #[gn, gs]) (.agg #[xn, xs])).run Tryz.prog w = .ok (.bool (decide (gn = xn ∧ gs = xs))) w := fun w => act_eql9 gn gs xn xs w
 have heg := fun op x y (w : World) => act_guard9 op x y gn gs xn xs w
 obtain ⟨t1, h1⟩ : ∃ x, decide (gn = xn ∧ gs = xs) = x := ⟨_, rfl⟩
 obtain ⟨t2, h2⟩ : ∃ x, (gf == xn) = x := ⟨_, rfl⟩
 obtain ⟨t3, h3⟩ : ∃ x, (gt == nd) = x := ⟨_, rfl⟩
 obtain ⟨t5, h5⟩ : ∃ x, (gr == xr) = x := ⟨_, rfl⟩
 rw [h1] at heq; rw [h1, h2, h3, h5] at hb; clear h1
 cases t1
 ·have hb : false = b := hb; subst hb; go_enter Tryz.func30, Tryz.ntmps30; go_wp2; go_ret; exact ⟨rfl, K2.out⟩
 cases t2
 ·have hb : false = b := hb; subst hb; go_enter Tryz.func30, Tryz.ntmps30; go_wp2; go_ret; exact ⟨rfl, K2.out⟩
 cases t3
 ·have hb : false = b := hb; subst hb; go_enter Tryz.func30, Tryz.ntmps30; go_wp2; go_ret; exact ⟨rfl, K2.out⟩
 by_cases hx : xr = -1
 ·have hb : true = b := by rw [← hb, dT hx]; rfl
  subst hb; have hp : (xr != -1) = false := by simp [hx]
  clear hx h5; go_enter Tryz.func30, Tryz.ntmps30; go_wp2_with (go_at_call 43; (with_reducible refine (HPL.out _ _ hp).mono ?_); rintro e' w3 ⟨rfl, hk3⟩; have K3 := hD (kT K2.out hk3); obtain ⟨c0, c1, c2, c3, c4, c5, c6, c7, c8⟩ := cells9 (rZ hk3 r0.out); obtain ⟨d0, d1, d2, d3, d4, d5, d6, d7, d8⟩ := cells9 (rZ hk3 r1.out); clear hk3)
  go_ret; exact ⟨rfl, K3.out⟩
 ·have hb : t5 = b := by rw [← hb, dF hx]; simp
  subst hb; have hp : (xr != -1) = true := by simp [hx]
  clear hx; go_enter Tryz.func30, Tryz.ntmps30; go_wp2_with (go_at_call 43; (with_reducible refine (HPL.out _ _ hp).mono ?_); rintro e' w3 ⟨rfl, hk3⟩; have K3 := hD (kT K2.out hk3); obtain ⟨c0, c1, c2, c3, c4, c5, c6, c7, c8⟩ := cells9 (rZ hk3 r0.out); obtain ⟨d0, d1, d2, d3, d4, d5, d6, d7, d8⟩ := cells9 (rZ hk3 r1.out); clear hk3)
  go_ret; exact ⟨rfl, K3.out⟩
end Go.Proofs.YtncoofnhifcnhaaGreatDoor
