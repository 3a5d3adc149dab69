/- Parts of this proof (own work). -/
import Derived.ChangeKeysEq
import Derived.Test.YtlmlmhmhgdjhnaaGreatDoorZa14
set_option maxRecDepth 100000
set_option maxHeartbeats 40000000
namespace Go.Proofs.YtlmlmhmhgdjhnaaGreatDoor
open Go.RowKit Go.ChangeShapes Go.WideShapes
theorem arrInt : ∃ i : TypeInfo, Tryz.prog.info? 3 = some i := by
 have h : (Tryz.prog.info? 3).isSome = true := by kernel_rfl
 exact Option.isSome_iff_exists.1 h
theorem a2X {t : TypeId} (hu : Tryz.prog.underlying t = some (.array 2 3)) (a0 a1 b0 b1 : Int) (w : World) : (binOp .eql t (.agg #[a0, a1]) (.agg #[b0, b1])).run Tryz.prog w = .ok (.bool (a0 == b0 && (a1 == b1))) w := by
 obtain ⟨i, hi⟩ := arrInt; have hc : Tryz.prog.cellsOf 3 = 1 := by kernel_rfl
 rw [run_eql_struct, show (10000 : Nat) = 9999 + 1 from rfl, run_equalIn_array w 9999 _ _ hu hi, hc]
 simp [Op.eqItems, part, go_sem, List.range, List.range.loop, Tryz.underlying3]
 by_cases h0 : a0 = b0
 rotate_left
 ·simp [h0]
 subst h0
 by_cases h1 : a1 = b1
 ·simp [h1]
 ·simp [h1]
theorem aX (t : TypeId) (h : Tryz.prog.eqGuardType Tryz.prog.depth t = false) (op : BinOp) (x y : Operand) (xs ys : Array Value) (w : World) : (eqGuard op t x y (.agg xs) (.agg ys)).run Tryz.prog w = .ok () w := run_eqGuard_agg w op t x y _ _ h
theorem letUp_any (k : Int) (w : World) : Calls Tryz.prog 75 #[.int .i64 k] w fun e' w' => e' = .returned (.bool (upT k)) ∧ w = w' := by
 by_cases h1 : k = 1
 ·subst h1; rw [show (upT 1) = true by decide]
  (go_enter Tryz.func75, Tryz.ntmps75; go_wp2; go_ret; exact ⟨by first | rfl | (simp [*]; done), rfl⟩)
 by_cases h3 : k = 3
 ·subst h3; rw [show (upT 3) = true by decide]
  (go_enter Tryz.func75, Tryz.ntmps75; go_wp2; go_ret; exact ⟨by first | rfl | (simp [*]; done), rfl⟩)
 by_cases h4 : k = 4
 ·subst h4; rw [show (upT 4) = true by decide]
  (go_enter Tryz.func75, Tryz.ntmps75; go_wp2; go_ret; exact ⟨by first | rfl | (simp [*]; done), rfl⟩)
 by_cases h5 : k = 5
 ·subst h5; rw [show (upT 5) = true by decide]
  (go_enter Tryz.func75, Tryz.ntmps75; go_wp2; go_ret; exact ⟨by first | rfl | (simp [*]; done), rfl⟩)
 by_cases h6 : k = 6
 ·subst h6; rw [show (upT 6) = true by decide]
  (go_enter Tryz.func75, Tryz.ntmps75; go_wp2; go_ret; exact ⟨by first | rfl | (simp [*]; done), rfl⟩)
 by_cases h7 : k = 7
 ·subst h7; rw [show (upT 7) = true by decide]
  (go_enter Tryz.func75, Tryz.ntmps75; go_wp2; go_ret; exact ⟨by first | rfl | (simp [*]; done), rfl⟩)
 by_cases h8 : k = 8
 ·subst h8; rw [show (upT 8) = true by decide]
  (go_enter Tryz.func75, Tryz.ntmps75; go_wp2; go_ret; exact ⟨by first | rfl | (simp [*]; done), rfl⟩)
 rw [show (upT k) = false from by unfold upT; exact dF (by omega)]; have b1 : (k == 1) = false := by simpa using h1
 have b3 : (k == 3) = false := by simpa using h3
 have b4 : (k == 4) = false := by simpa using h4
 have b5 : (k == 5) = false := by simpa using h5
 have b6 : (k == 6) = false := by simpa using h6
 have b7 : (k == 7) = false := by simpa using h7
 have b8 : (k == 8) = false := by simpa using h8
 clear h1 h3 h4 h5 h6 h7 h8
 (go_enter Tryz.func75, Tryz.ntmps75; go_wp2; go_ret; exact ⟨by first | rfl | (simp [*]; done), rfl⟩)
theorem letDown_any (k : Int) (w : World) : Calls Tryz.prog 209 #[.int .i64 k] w fun e' w' => e' = .returned (.bool (downT 2 k)) ∧ w = w' := by
 by_cases h2 : k = 2
 ·subst h2; rw [show (downT 2 2) = true by decide]
  (go_enter Tryz.func209, Tryz.ntmps209; go_wp2; go_ret; exact ⟨by first | rfl | (simp [*]; done), rfl⟩)
 by_cases h9 : k = 9
 ·subst h9; rw [show (downT 2 9) = true by decide]
  (go_enter Tryz.func209, Tryz.ntmps209; go_wp2; go_ret; exact ⟨by first | rfl | (simp [*]; done), rfl⟩)
 by_cases h10 : k = 10
 ·subst h10; rw [show (downT 2 10) = true by decide]
  (go_enter Tryz.func209, Tryz.ntmps209; go_wp2; go_ret; exact ⟨by first | rfl | (simp [*]; done), rfl⟩)
 by_cases h11 : k = 11
 ·subst h11; rw [show (downT 2 11) = true by decide]
  (go_enter Tryz.func209, Tryz.ntmps209; go_wp2; go_ret; exact ⟨by first | rfl | (simp [*]; done), rfl⟩)
 by_cases h12 : k = 12
 ·subst h12; rw [show (downT 2 12) = true by decide]
  (go_enter Tryz.func209, Tryz.ntmps209; go_wp2; go_ret; exact ⟨by first | rfl | (simp [*]; done), rfl⟩)
 by_cases h13 : k = 13
 ·subst h13; rw [show (downT 2 13) = true by decide]
  (go_enter Tryz.func209, Tryz.ntmps209; go_wp2; go_ret; exact ⟨by first | rfl | (simp [*]; done), rfl⟩)
 by_cases h14 : k = 14
 ·subst h14; rw [show (downT 2 14) = true by decide]
  (go_enter Tryz.func209, Tryz.ntmps209; go_wp2; go_ret; exact ⟨by first | rfl | (simp [*]; done), rfl⟩)
 rw [show (downT 2 k) = false from by unfold downT; exact dF (by omega)]; have b2 : (k == 2) = false := by simpa using h2
 have b9 : (k == 9) = false := by simpa using h9
 have b10 : (k == 10) = false := by simpa using h10
 have b11 : (k == 11) = false := by simpa using h11
 have b12 : (k == 12) = false := by simpa using h12
 have b13 : (k == 13) = false := by simpa using h13
 have b14 : (k == 14) = false := by simpa using h14
 clear h2 h9 h10 h11 h12 h13 h14
 (go_enter Tryz.func209, Tryz.ntmps209; go_wp2; go_ret; exact ⟨by first | rfl | (simp [*]; done), rfl⟩)
theorem known_any (p e : Int) (w : World) : Calls Tryz.prog 138 #[.int .i64 p, .int .i64 e] w fun e' w' => e' = .returned (.bool (rightT p e)) ∧ w = w' := by
 by_cases hp1 : p = 1
 ·subst hp1
  by_cases he1 : e = 1
  ·subst he1; rw [show rightT 1 1 = true by decide]
   (go_enter Tryz.func138, Tryz.ntmps138; go_wp2; go_ret; exact ⟨by first | rfl | (simp [*]; done), rfl⟩)
  by_cases he2 : e = 2
  ·subst he2; rw [show rightT 1 2 = true by decide]
   (go_enter Tryz.func138, Tryz.ntmps138; go_wp2; go_ret; exact ⟨by first | rfl | (simp [*]; done), rfl⟩)
  rw [show rightT 1 e = false from dF (by omega)]; have c1 : (e == 1) = false := by simpa using he1
  have c2 : (e == 2) = false := by simpa using he2
  clear he1 he2
  (go_enter Tryz.func138, Tryz.ntmps138; go_wp2; go_ret; exact ⟨by first | rfl | (simp [*]; done), rfl⟩)
 by_cases hp2 : p = 2
 ·subst hp2
  by_cases he1 : e = 1
  ·subst he1; rw [show rightT 2 1 = true by decide]
   (go_enter Tryz.func138, Tryz.ntmps138; go_wp2; go_ret; exact ⟨by first | rfl | (simp [*]; done), rfl⟩)
  by_cases he2 : e = 2
  ·subst he2; rw [show rightT 2 2 = true by decide]
   (go_enter Tryz.func138, Tryz.ntmps138; go_wp2; go_ret; exact ⟨by first | rfl | (simp [*]; done), rfl⟩)
  rw [show rightT 2 e = false from dF (by omega)]; have c1 : (e == 1) = false := by simpa using he1
  have c2 : (e == 2) = false := by simpa using he2
  clear he1 he2
  (go_enter Tryz.func138, Tryz.ntmps138; go_wp2; go_ret; exact ⟨by first | rfl | (simp [*]; done), rfl⟩)
 rw [show rightT p e = false from dF (by omega)]; have c1 : (p == 1) = false := by simpa using hp1
 have c2 : (p == 2) = false := by simpa using hp2
 clear hp1 hp2
 (go_enter Tryz.func138, Tryz.ntmps138; go_wp2; go_ret; exact ⟨by first | rfl | (simp [*]; done), rfl⟩)
theorem has_any (p e s : Int) (w : World) : Calls Tryz.prog 139 #[.int .i64 p, .int .i64 e, .int .i64 s] w fun e' w' => e' = .returned (.bool (hasT p e s)) ∧ w = w' := by
 by_cases h4 : s = 4
 ·subst h4; rw [show hasT p e 4 = (p == 2) by simp [hasT]; rw [Bool.eq_iff_iff]; simp]
  (go_enter Tryz.func139, Tryz.ntmps139; go_wp2; go_ret; exact ⟨by first | rfl | (simp [*]; done), rfl⟩)
 by_cases h10 : s = 10
 ·subst h10; rw [show hasT p e 10 = (p == 2) by simp [hasT]; rw [Bool.eq_iff_iff]; simp]
  (go_enter Tryz.func139, Tryz.ntmps139; go_wp2; go_ret; exact ⟨by first | rfl | (simp [*]; done), rfl⟩)
 have b4 : (s == 4) = false := by simpa using h4
 have b10 : (s == 10) = false := by simpa using h10
 by_cases h3 : s = 3
 ·subst h3
  by_cases hp : p = 2
  ·subst hp; rw [show hasT 2 e 3 = (e == 1) by simp [hasT]; rw [Bool.eq_iff_iff]; simp]
   (go_enter Tryz.func139, Tryz.ntmps139; go_wp2; go_ret; exact ⟨by first | rfl | (simp [*]; done), rfl⟩)
  ·rw [show hasT p e 3 = false by simp [hasT, hp]]; have bp : (p == 2) = false := by simpa using hp
   (go_enter Tryz.func139, Tryz.ntmps139; go_wp2; go_ret; exact ⟨by first | rfl | (simp [*]; done), rfl⟩)
 have b3 : (s == 3) = false := by simpa using h3
 by_cases h1 : 1 ≤ s
 ·by_cases h2 : s ≤ 14
  ·rw [show hasT p e s = true by simp [hasT, h4, h10, h3, h1, h2]]
   (go_enter Tryz.func139, Tryz.ntmps139; go_wp2; go_ret; exact ⟨by first | rfl | (simp [*]; done), rfl⟩)
  ·rw [show hasT p e s = false by simp [hasT, h4, h10, h3, h2]]
   (go_enter Tryz.func139, Tryz.ntmps139; go_wp2; go_ret; exact ⟨by first | rfl | (simp [*]; done), rfl⟩)
 ·rw [show hasT p e s = false by simp [hasT, h4, h10, h3, h1]]
  (go_enter Tryz.func139, Tryz.ntmps139; go_wp2; go_ret; exact ⟨by first | rfl | (simp [*]; done), rfl⟩)
theorem down_2 (p k : Int) (h : ¬ k = 2) : downT p k = downT 2 k := by
 unfold downT; rw [decide_eq_decide]; omega
theorem takes_any (p e k : Int) (w : World) : Calls Tryz.prog 195 #[.int .i64 p, .int .i64 e, .int .i64 k] w fun e' w' => e' = .returned (.bool (takesT p e k)) ∧ w = w' := by
 have HU := hD (fun w => letUp_any k w); have HD := hD (fun w => letDown_any k w)
 by_cases he : e = 1
 ·subst he; rw [show takesT p 1 k = upT k from rfl]
  (go_enter Tryz.func195, Tryz.ntmps195; go_wp2_with (go_at_call 75; (with_reducible refine (HU.out _).mono ?_); rintro e' w' ⟨rfl, rfl⟩); go_ret; exact ⟨by first | rfl | (simp [*]; done), rfl⟩)
 ·have be : (e == 1) = false := by simpa using he
  rw [show takesT p e k = downT p k from if_neg he]
  by_cases h2 : k = 2
  ·subst h2; rw [show downT p 2 = (p == 2) by unfold downT; rw [Bool.eq_iff_iff]; simp]; clear he
   (go_enter Tryz.func195, Tryz.ntmps195; go_wp2; go_ret; exact ⟨by first | rfl | (simp [*]; done), rfl⟩)
  ·have b2 : (k == 2) = false := by simpa using h2
   rw [down_2 p k h2]; clear he h2
   (go_enter Tryz.func195, Tryz.ntmps195; go_wp2_with (go_at_call 209; (with_reducible refine (HD.out _).mono ?_); rintro e' w' ⟨rfl, rfl⟩); go_ret; exact ⟨by first | rfl | (simp [*]; done), rfl⟩)
theorem sends_any (p e k : Int) (he : e = 1 ∨ e = 2) (w : World) : Calls Tryz.prog 162 #[.int .i64 p, .int .i64 e, .int .i64 k] w fun e' w' => e' = .returned (.bool (sendsT p e k)) ∧ w = w' := by
 have HT := hD (fun e w => takes_any p e k w)
 rcases he with rfl | rfl
 ·rw [show sendsT p 1 k = takesT p 2 k from rfl]
  (go_enter Tryz.func162, Tryz.ntmps162; go_wp2_with (go_at_call 195; (with_reducible refine (HT.out _ _).mono ?_); rintro e' w' ⟨rfl, rfl⟩); go_ret; exact ⟨by first | rfl | (simp [*]; done), rfl⟩)
 ·rw [show sendsT p 2 k = takesT p 1 k from rfl]
  (go_enter Tryz.func162, Tryz.ntmps162; go_wp2_with (go_at_call 195; (with_reducible refine (HT.out _ _).mono ?_); rintro e' w' ⟨rfl, rfl⟩); go_ret; exact ⟨by first | rfl | (simp [*]; done), rfl⟩)
theorem twaits_1 (s : Int) (hs : s = 1 ∨ s = 2 ∨ s = 3 ∨ s = 4 ∨ s = 5 ∨ s = 6 ∨ s = 7 ∨ s = 8 ∨ s = 9 ∨ s = 10 ∨ s = 11 ∨ s = 12 ∨ s = 13 ∨ s = 14) (w : World) : Calls Tryz.prog 140 #[.int .i64 1, .int .i64 s] w fun e' w' => e' = .returned (.int .i64 (waitT 1 s)) ∧ w = w' := by
 rcases hs with rfl | rfl | rfl | rfl | rfl | rfl | rfl | rfl | rfl | rfl | rfl | rfl | rfl | rfl
 ·(have hq := a2X Tryz.underlying245 1 1; have hg := aX 245 (by kernel_rfl); (go_enter Tryz.func140, Tryz.ntmps140; go_wp2; go_ret; exact ⟨rfl, rfl⟩))
 ·(have hq := a2X Tryz.underlying245 1 2; have hg := aX 245 (by kernel_rfl); (go_enter Tryz.func140, Tryz.ntmps140; go_wp2; go_ret; exact ⟨rfl, rfl⟩))
 ·(have hq := a2X Tryz.underlying245 1 3; have hg := aX 245 (by kernel_rfl); (go_enter Tryz.func140, Tryz.ntmps140; go_wp2; go_ret; exact ⟨rfl, rfl⟩))
 ·(have hq := a2X Tryz.underlying245 1 4; have hg := aX 245 (by kernel_rfl); (go_enter Tryz.func140, Tryz.ntmps140; go_wp2; go_ret; exact ⟨rfl, rfl⟩))
 ·(have hq := a2X Tryz.underlying245 1 5; have hg := aX 245 (by kernel_rfl); (go_enter Tryz.func140, Tryz.ntmps140; go_wp2; go_ret; exact ⟨rfl, rfl⟩))
 ·(have hq := a2X Tryz.underlying245 1 6; have hg := aX 245 (by kernel_rfl); (go_enter Tryz.func140, Tryz.ntmps140; go_wp2; go_ret; exact ⟨rfl, rfl⟩))
 ·(have hq := a2X Tryz.underlying245 1 7; have hg := aX 245 (by kernel_rfl); (go_enter Tryz.func140, Tryz.ntmps140; go_wp2; go_ret; exact ⟨rfl, rfl⟩))
 ·(have hq := a2X Tryz.underlying245 1 8; have hg := aX 245 (by kernel_rfl); (go_enter Tryz.func140, Tryz.ntmps140; go_wp2; go_ret; exact ⟨rfl, rfl⟩))
 ·(have hq := a2X Tryz.underlying245 1 9; have hg := aX 245 (by kernel_rfl); (go_enter Tryz.func140, Tryz.ntmps140; go_wp2; go_ret; exact ⟨rfl, rfl⟩))
 ·(have hq := a2X Tryz.underlying245 1 10; have hg := aX 245 (by kernel_rfl); (go_enter Tryz.func140, Tryz.ntmps140; go_wp2; go_ret; exact ⟨rfl, rfl⟩))
 ·(have hq := a2X Tryz.underlying245 1 11; have hg := aX 245 (by kernel_rfl); (go_enter Tryz.func140, Tryz.ntmps140; go_wp2; go_ret; exact ⟨rfl, rfl⟩))
 ·(have hq := a2X Tryz.underlying245 1 12; have hg := aX 245 (by kernel_rfl); (go_enter Tryz.func140, Tryz.ntmps140; go_wp2; go_ret; exact ⟨rfl, rfl⟩))
 ·(have hq := a2X Tryz.underlying245 1 13; have hg := aX 245 (by kernel_rfl); (go_enter Tryz.func140, Tryz.ntmps140; go_wp2; go_ret; exact ⟨rfl, rfl⟩))
 ·(have hq := a2X Tryz.underlying245 1 14; have hg := aX 245 (by kernel_rfl); (go_enter Tryz.func140, Tryz.ntmps140; go_wp2; go_ret; exact ⟨rfl, rfl⟩))
theorem twaits_2 (s : Int) (hs : s = 1 ∨ s = 2 ∨ s = 3 ∨ s = 4 ∨ s = 5 ∨ s = 6 ∨ s = 7 ∨ s = 8 ∨ s = 9 ∨ s = 10 ∨ s = 11 ∨ s = 12 ∨ s = 13 ∨ s = 14) (w : World) : Calls Tryz.prog 140 #[.int .i64 2, .int .i64 s] w fun e' w' => e' = .returned (.int .i64 (waitT 2 s)) ∧ w = w' := by
 rcases hs with rfl | rfl | rfl | rfl | rfl | rfl | rfl | rfl | rfl | rfl | rfl | rfl | rfl | rfl
 ·(have hq := a2X Tryz.underlying245 2 1; have hg := aX 245 (by kernel_rfl); (go_enter Tryz.func140, Tryz.ntmps140; go_wp2; go_ret; exact ⟨rfl, rfl⟩))
 ·(have hq := a2X Tryz.underlying245 2 2; have hg := aX 245 (by kernel_rfl); (go_enter Tryz.func140, Tryz.ntmps140; go_wp2; go_ret; exact ⟨rfl, rfl⟩))
 ·(have hq := a2X Tryz.underlying245 2 3; have hg := aX 245 (by kernel_rfl); (go_enter Tryz.func140, Tryz.ntmps140; go_wp2; go_ret; exact ⟨rfl, rfl⟩))
 ·(have hq := a2X Tryz.underlying245 2 4; have hg := aX 245 (by kernel_rfl); (go_enter Tryz.func140, Tryz.ntmps140; go_wp2; go_ret; exact ⟨rfl, rfl⟩))
 ·(have hq := a2X Tryz.underlying245 2 5; have hg := aX 245 (by kernel_rfl); (go_enter Tryz.func140, Tryz.ntmps140; go_wp2; go_ret; exact ⟨rfl, rfl⟩))
 ·(have hq := a2X Tryz.underlying245 2 6; have hg := aX 245 (by kernel_rfl); (go_enter Tryz.func140, Tryz.ntmps140; go_wp2; go_ret; exact ⟨rfl, rfl⟩))
 ·(have hq := a2X Tryz.underlying245 2 7; have hg := aX 245 (by kernel_rfl); (go_enter Tryz.func140, Tryz.ntmps140; go_wp2; go_ret; exact ⟨rfl, rfl⟩))
 ·(have hq := a2X Tryz.underlying245 2 8; have hg := aX 245 (by kernel_rfl); (go_enter Tryz.func140, Tryz.ntmps140; go_wp2; go_ret; exact ⟨rfl, rfl⟩))
 ·(have hq := a2X Tryz.underlying245 2 9; have hg := aX 245 (by kernel_rfl); (go_enter Tryz.func140, Tryz.ntmps140; go_wp2; go_ret; exact ⟨rfl, rfl⟩))
 ·(have hq := a2X Tryz.underlying245 2 10; have hg := aX 245 (by kernel_rfl); (go_enter Tryz.func140, Tryz.ntmps140; go_wp2; go_ret; exact ⟨rfl, rfl⟩))
 ·(have hq := a2X Tryz.underlying245 2 11; have hg := aX 245 (by kernel_rfl); (go_enter Tryz.func140, Tryz.ntmps140; go_wp2; go_ret; exact ⟨rfl, rfl⟩))
 ·(have hq := a2X Tryz.underlying245 2 12; have hg := aX 245 (by kernel_rfl); (go_enter Tryz.func140, Tryz.ntmps140; go_wp2; go_ret; exact ⟨rfl, rfl⟩))
 ·(have hq := a2X Tryz.underlying245 2 13; have hg := aX 245 (by kernel_rfl); (go_enter Tryz.func140, Tryz.ntmps140; go_wp2; go_ret; exact ⟨rfl, rfl⟩))
 ·(have hq := a2X Tryz.underlying245 2 14; have hg := aX 245 (by kernel_rfl); (go_enter Tryz.func140, Tryz.ntmps140; go_wp2; go_ret; exact ⟨rfl, rfl⟩))
theorem tgoes_any (s : Int) (w : World) : Calls Tryz.prog 210 #[.int .i64 s] w fun e' w' => e' = .returned (.agg #[(1:Int), s, (0:Int)]) ∧ Kp w w' := by
 have K1 := hD (kA w (.cells #[(0:Int), (0:Int), (0:Int)] 238)); have HZ := hD (mH w (.cells #[(0:Int), (0:Int), (0:Int)] 238)); obtain ⟨z0, z1, z2⟩ := cells3 HZ.out; have fz := froz3 HZ.out; clear K1 HZ z0 z1 z2 fz; go_enter Tryz.func210, Tryz.ntmps210; go_wp2; refine bodyPost_ret (results_cell_row (p := 2) rfl _ _ w.heap.size 238 _ (0, 0) _ rfl (mH w (.cells #[(1:Int), s, (0:Int)] 238)) Tryz.underlying238 rfl (by kernel_rfl)) rfl ?_; exact ⟨rfl, kA _ _⟩
theorem tresends_any (s : Int) (w : World) : Calls Tryz.prog 211 #[.int .i64 s] w fun e' w' => e' = .returned (.agg #[(3:Int), (0:Int), s]) ∧ Kp w w' := by
 have K1 := hD (kA w (.cells #[(0:Int), (0:Int), (0:Int)] 238)); have HZ := hD (mH w (.cells #[(0:Int), (0:Int), (0:Int)] 238)); obtain ⟨z0, z1, z2⟩ := cells3 HZ.out; have fz := froz3 HZ.out; clear K1 HZ z0 z1 z2 fz; go_enter Tryz.func211, Tryz.ntmps211; go_wp2; refine bodyPost_ret (results_cell_row (p := 2) rfl _ _ w.heap.size 238 _ (0, 0) _ rfl (mH w (.cells #[(3:Int), (0:Int), s] 238)) Tryz.underlying238 rfl (by kernel_rfl)) rfl ?_; exact ⟨rfl, kA _ _⟩
theorem kp_drewU {a b : World} (h : Kp a b) : Kp a b.drew := ⟨h.os, h.tape, h.output, h.size, h.block⟩
theorem kp_drewT {a b : World} (h : Kp a b) (n : Nat) : Kp a (b.drewN n) := ⟨h.os, h.tape, h.output, h.size, h.block⟩
theorem look_known (ads : List Addr) (p e k s : Int) (h : rightT p e = false) (w : World) (ce : w.cell? ⟨13, 0, none⟩ = some (errI ads 14)) : Calls Tryz.prog 172 #[.int .i64 p, .int .i64 e, .int .i64 k, .int .i64 s] w fun e' w' => e' = .returned (.tuple #[.agg (cellV (0, 0, 0)), errI ads 14]) ∧ Kp w w' := by
 have HK := hD (fun w => h ▸ known_any p e w); obtain ⟨q, hq⟩ : ∃ x, errI ads 14 = x := ⟨_, rfl⟩
 rw [hq] at ce ⊢; have K1 := hD (kA w (.cells #[(0:Int), (0:Int), (0:Int)] 238)); have HZ := hD (mH w (.cells #[(0:Int), (0:Int), (0:Int)] 238)); obtain ⟨z0, z1, z2⟩ := cells3 HZ.out; have fz := froz3 HZ.out; have cq := kZ K1.out ce; clear hq ce h; go_enter Tryz.func172, Tryz.ntmps172; go_wp2_with (go_at_call 138; (with_reducible refine (HK.out _).mono ?_); rintro e' w' ⟨rfl, rfl⟩)
 go_region
 go_wp2; refine bodyPost_ret (results_row_tmpT (p := 8) (u := 9) rfl _ _ w.heap.size 238 _ (0, 0) _ rfl HZ.out Tryz.underlying238 rfl (by kernel_rfl)) rfl ?_
 exact ⟨rfl, kp_drewU K1.out⟩
theorem look_takes (ads : List Addr) (p e k s : Int) (h : rightT p e = true) (h2 : takesT p e k = false) (w : World) (ce : w.cell? ⟨3, 0, none⟩ = some (errI ads 4)) : Calls Tryz.prog 172 #[.int .i64 p, .int .i64 e, .int .i64 k, .int .i64 s] w fun e' w' => e' = .returned (.tuple #[.agg (cellV (0, 0, 0)), errI ads 4]) ∧ Kp w w' := by
 have HK := hD (fun w => h ▸ known_any p e w); have HT := hD (fun w => h2 ▸ takes_any p e k w); obtain ⟨q, hq⟩ : ∃ x, errI ads 4 = x := ⟨_, rfl⟩
 rw [hq] at ce ⊢; have K1 := hD (kA w (.cells #[(0:Int), (0:Int), (0:Int)] 238)); have HZ := hD (mH w (.cells #[(0:Int), (0:Int), (0:Int)] 238)); obtain ⟨z0, z1, z2⟩ := cells3 HZ.out; have fz := froz3 HZ.out; have cq := kZ K1.out ce; clear hq ce h h2; go_enter Tryz.func172, Tryz.ntmps172; go_wp2_with (first | (go_at_call 138; (with_reducible refine (HK.out _).mono ?_); rintro e' w' ⟨rfl, rfl⟩) | (go_at_call 195; (with_reducible refine (HT.out _).mono ?_); rintro e' w' ⟨rfl, rfl⟩))
 go_region
 go_wp2; refine bodyPost_ret (results_row_tmpT (p := 8) (u := 9) rfl _ _ w.heap.size 238 _ (0, 0) _ rfl HZ.out Tryz.underlying238 rfl (by kernel_rfl)) rfl ?_
 exact ⟨rfl, kp_drewU K1.out⟩
theorem look_has (ads : List Addr) (p e k s : Int) (h : rightT p e = true) (h2 : takesT p e k = true) (h3 : hasT p e s = false) (w : World) (ce : w.cell? ⟨0, 0, none⟩ = some (errI ads 1)) : Calls Tryz.prog 172 #[.int .i64 p, .int .i64 e, .int .i64 k, .int .i64 s] w fun e' w' => e' = .returned (.tuple #[.agg (cellV (0, 0, 0)), errI ads 1]) ∧ Kp w w' := by
 have HK := hD (fun w => h ▸ known_any p e w); have HT := hD (fun w => h2 ▸ takes_any p e k w); have HH := hD (fun w => h3 ▸ has_any p e s w); obtain ⟨q, hq⟩ : ∃ x, errI ads 1 = x := ⟨_, rfl⟩
 rw [hq] at ce ⊢; have K1 := hD (kA w (.cells #[(0:Int), (0:Int), (0:Int)] 238)); have HZ := hD (mH w (.cells #[(0:Int), (0:Int), (0:Int)] 238)); obtain ⟨z0, z1, z2⟩ := cells3 HZ.out; have fz := froz3 HZ.out; have cq := kZ K1.out ce; clear hq ce h h2 h3; go_enter Tryz.func172, Tryz.ntmps172; go_wp2_with (first | (go_at_call 138; (with_reducible refine (HK.out _).mono ?_); rintro e' w' ⟨rfl, rfl⟩) | (go_at_call 195; (with_reducible refine (HT.out _).mono ?_); rintro e' w' ⟨rfl, rfl⟩) | (go_at_call 139; (with_reducible refine (HH.out _).mono ?_); rintro e' w' ⟨rfl, rfl⟩))
 go_region
 go_wp2; refine bodyPost_ret (results_row_tmpT (p := 8) (u := 9) rfl _ _ w.heap.size 238 _ (0, 0) _ rfl HZ.out Tryz.underlying238 rfl (by kernel_rfl)) rfl ?_
 exact ⟨rfl, kp_drewU K1.out⟩
theorem step_known (ads : List Addr) (p e k s : Int) (h : rightT p e = false) (w : World) (ce : w.cell? ⟨13, 0, none⟩ = some (errI ads 14)) : Calls Tryz.prog 118 #[.int .i64 p, .int .i64 e, .int .i64 k, .int .i64 s] w fun e' w' => e' = .returned (.tuple #[(0:Int), errI ads 14]) ∧ Kp w w' := by
 have HK := hD (fun w => h ▸ known_any p e w); obtain ⟨q, hq⟩ : ∃ x, errI ads 14 = x := ⟨_, rfl⟩
 rw [hq] at ce ⊢; clear hq h; go_enter Tryz.func118, Tryz.ntmps118; go_wp2_with (go_at_call 138; (with_reducible refine (HK.out _).mono ?_); rintro e' w' ⟨rfl, rfl⟩)
 go_quiet (fail)
 go_wp2; go_ret2
 exact ⟨rfl, kp_drewT (Kp.refl _) _⟩
theorem step_sends (ads : List Addr) (p e k s : Int) (h : rightT p e = true) (h2 : sendsT p e k = false) (w : World) (ce : w.cell? ⟨3, 0, none⟩ = some (errI ads 4)) : Calls Tryz.prog 118 #[.int .i64 p, .int .i64 e, .int .i64 k, .int .i64 s] w fun e' w' => e' = .returned (.tuple #[(0:Int), errI ads 4]) ∧ Kp w w' := by
 have HK := hD (fun w => h ▸ known_any p e w); have HT := hD (fun w => h2 ▸ sends_any p e k (rightT_rng h).2 w); obtain ⟨q, hq⟩ : ∃ x, errI ads 4 = x := ⟨_, rfl⟩
 rw [hq] at ce ⊢; clear hq h h2; go_enter Tryz.func118, Tryz.ntmps118; go_wp2_with (first | (go_at_call 138; (with_reducible refine (HK.out _).mono ?_); rintro e' w' ⟨rfl, rfl⟩) | (go_at_call 162; (with_reducible refine (HT.out _).mono ?_); rintro e' w' ⟨rfl, rfl⟩))
 go_quiet (fail)
 go_wp2; go_ret2
 exact ⟨rfl, kp_drewT (Kp.refl _) _⟩
theorem step_has (ads : List Addr) (p e k s : Int) (h : rightT p e = true) (h2 : sendsT p e k = true) (h3 : hasT p e s = false) (w : World) (ce : w.cell? ⟨0, 0, none⟩ = some (errI ads 1)) : Calls Tryz.prog 118 #[.int .i64 p, .int .i64 e, .int .i64 k, .int .i64 s] w fun e' w' => e' = .returned (.tuple #[(0:Int), errI ads 1]) ∧ Kp w w' := by
 have HK := hD (fun w => h ▸ known_any p e w); have HT := hD (fun w => h2 ▸ sends_any p e k (rightT_rng h).2 w); have HH := hD (fun w => h3 ▸ has_any p e s w); obtain ⟨q, hq⟩ : ∃ x, errI ads 1 = x := ⟨_, rfl⟩
 rw [hq] at ce ⊢; clear hq h h2 h3; go_enter Tryz.func118, Tryz.ntmps118; go_wp2_with (first | (go_at_call 138; (with_reducible refine (HK.out _).mono ?_); rintro e' w' ⟨rfl, rfl⟩) | (go_at_call 162; (with_reducible refine (HT.out _).mono ?_); rintro e' w' ⟨rfl, rfl⟩) | (go_at_call 139; (with_reducible refine (HH.out _).mono ?_); rintro e' w' ⟨rfl, rfl⟩))
 go_quiet (fail)
 go_wp2; go_ret2
 exact ⟨rfl, kp_drewT (Kp.refl _) _⟩
theorem wt_known (ads : List Addr) (p e s : Int) (h : rightT p e = false) (w : World) (ce : w.cell? ⟨13, 0, none⟩ = some (errI ads 14)) : Calls Tryz.prog 84 #[.int .i64 p, .int .i64 e, .int .i64 s] w fun e' w' => e' = .returned (.tuple #[(0:Int), errI ads 14]) ∧ Kp w w' := by
 have HK := hD (fun w => h ▸ known_any p e w); obtain ⟨q, hq⟩ : ∃ x, errI ads 14 = x := ⟨_, rfl⟩
 rw [hq] at ce ⊢; clear hq h; go_enter Tryz.func84, Tryz.ntmps84; go_wp2_with (go_at_call 138; (with_reducible refine (HK.out _).mono ?_); rintro e' w' ⟨rfl, rfl⟩)
 go_quiet (fail)
 go_wp2; go_ret2
 exact ⟨rfl, kp_drewT (Kp.refl _) _⟩
theorem wt_has (ads : List Addr) (p e s : Int) (h : rightT p e = true) (h3 : hasT p e s = false) (w : World) (ce : w.cell? ⟨0, 0, none⟩ = some (errI ads 1)) : Calls Tryz.prog 84 #[.int .i64 p, .int .i64 e, .int .i64 s] w fun e' w' => e' = .returned (.tuple #[(0:Int), errI ads 1]) ∧ Kp w w' := by
 have HK := hD (fun w => h ▸ known_any p e w); have HH := hD (fun w => h3 ▸ has_any p e s w); obtain ⟨q, hq⟩ : ∃ x, errI ads 1 = x := ⟨_, rfl⟩
 rw [hq] at ce ⊢; clear hq h h3; go_enter Tryz.func84, Tryz.ntmps84; go_wp2_with (first | (go_at_call 138; (with_reducible refine (HK.out _).mono ?_); rintro e' w' ⟨rfl, rfl⟩) | (go_at_call 139; (with_reducible refine (HH.out _).mono ?_); rintro e' w' ⟨rfl, rfl⟩))
 go_quiet (fail)
 go_wp2; go_ret2
 exact ⟨rfl, kp_drewT (Kp.refl _) _⟩
theorem tcoord_1 (p s : Int) (hs : s = 1 ∨ s = 2 ∨ s = 3 ∨ s = 4 ∨ s = 5 ∨ s = 6 ∨ s = 7 ∨ s = 8 ∨ s = 9 ∨ s = 10 ∨ s = 11 ∨ s = 12 ∨ s = 13 ∨ s = 14) (w : World) : Calls Tryz.prog 196 #[.int .i64 p, .int .i64 1, .int .i64 s] w fun e' w' => e' = .returned (.agg (cellV (coordT p 1 s))) ∧ Kp w w' := by
 have HW := hD (fun w => twaits_1 s hs w); have HT := hD (fun s w => tgoes_any s w); have HG := hD (fun s w => tresends_any s w); have K1 := hD (kA w (.cells #[(0:Int), (0:Int), (0:Int)] 238)); have HZ := hD (mH w (.cells #[(0:Int), (0:Int), (0:Int)] 238)); obtain ⟨z0, z1, z2⟩ := cells3 HZ.out; have fz := froz3 HZ.out; have hq := a2X Tryz.underlying245 1 s; have hg := aX 245 (by kernel_rfl); have HK := hD hs; clear hs; go_enter Tryz.func196, Tryz.ntmps196; go_wp2_with (first | (go_at_call 210; (with_reducible refine (HT.out _ _).mono ?_); rintro e' w2 ⟨rfl, hk⟩; have K2 := hD (kT K1.out hk); have R2 := hD (rZ hk HZ.out); obtain ⟨y0, y1, y2⟩ := cells3 R2.out; have fy := froz3 R2.out; clear hk) | (go_at_call 211; (with_reducible refine (HG.out _ _).mono ?_); rintro e' w2 ⟨rfl, hk⟩; have K2 := hD (kT K1.out hk); have R2 := hD (rZ hk HZ.out); obtain ⟨y0, y1, y2⟩ := cells3 R2.out; have fy := froz3 R2.out; clear hk) | (go_at_call 140; (with_reducible refine (HW.out _).mono ?_); rintro e' w' ⟨rfl, rfl⟩))
 all_goals clear hq hg HT HG HW
 all_goals first
  | (refine bodyPost_ret (results_cell_row (p := 6) rfl _ _ w.heap.size 238 _ (0, 0) _ rfl (set3 _ _ _ R2.out) Tryz.underlying238 rfl (by kernel_rfl)) rfl ?_; refine ⟨?_, set3_kp K2.out (Nat.le_refl _) _ _ _⟩; clear R2 K2)
  | (refine bodyPost_ret (results_cell_row (p := 6) rfl _ _ w.heap.size 238 _ (0, 0) _ rfl (mH w (.cells #[(2:Int), (0:Int), (0:Int)] 238)) Tryz.underlying238 rfl (by kernel_rfl)) rfl ?_; refine ⟨?_, kA _ _⟩)
  | (refine bodyPost_ret (results_cell_row (p := 6) rfl _ _ w.heap.size 238 _ (0, 0) _ rfl (mH w (.cells #[(4:Int), (0:Int), (0:Int)] 238)) Tryz.underlying238 rfl (by kernel_rfl)) rfl ?_; refine ⟨?_, kA _ _⟩)
 all_goals first
  | (rename_i h; obtain rfl := eq_of_beq h; first | rfl | exact absurd HK.out (by decide) | kernel_rfl)
  | (have hs := HK.out; clear HK; rcases hs with rfl | rfl | rfl | rfl | rfl | rfl | rfl | rfl | rfl | rfl | rfl | rfl | rfl | rfl <;> first | rfl | (exfalso; contradiction))
theorem tcoord_3_1 (s : Int) (hs : s = 1 ∨ s = 2 ∨ s = 3 ∨ s = 4 ∨ s = 5 ∨ s = 6 ∨ s = 7 ∨ s = 8 ∨ s = 9 ∨ s = 10 ∨ s = 11 ∨ s = 12 ∨ s = 13 ∨ s = 14) (w : World) : Calls Tryz.prog 196 #[.int .i64 1, .int .i64 3, .int .i64 s] w fun e' w' => e' = .returned (.agg (cellV (coordT 1 3 s))) ∧ Kp w w' := by
 have HW := hD (fun w => twaits_1 s hs w); have HT := hD (fun s w => tgoes_any s w); have HG := hD (fun s w => tresends_any s w); have K1 := hD (kA w (.cells #[(0:Int), (0:Int), (0:Int)] 238)); have HZ := hD (mH w (.cells #[(0:Int), (0:Int), (0:Int)] 238)); obtain ⟨z0, z1, z2⟩ := cells3 HZ.out; have fz := froz3 HZ.out; have hq := a2X Tryz.underlying245 3 s; have hg := aX 245 (by kernel_rfl); have HK := hD hs; clear hs; go_enter Tryz.func196, Tryz.ntmps196; go_wp2_with (first | (go_at_call 210; (with_reducible refine (HT.out _ _).mono ?_); rintro e' w2 ⟨rfl, hk⟩; have K2 := hD (kT K1.out hk); have R2 := hD (rZ hk HZ.out); obtain ⟨y0, y1, y2⟩ := cells3 R2.out; have fy := froz3 R2.out; clear hk) | (go_at_call 211; (with_reducible refine (HG.out _ _).mono ?_); rintro e' w2 ⟨rfl, hk⟩; have K2 := hD (kT K1.out hk); have R2 := hD (rZ hk HZ.out); obtain ⟨y0, y1, y2⟩ := cells3 R2.out; have fy := froz3 R2.out; clear hk) | (go_at_call 140; (with_reducible refine (HW.out _).mono ?_); rintro e' w' ⟨rfl, rfl⟩))
 all_goals clear hq hg HT HG HW
 all_goals first
  | (refine bodyPost_ret (results_cell_row (p := 6) rfl _ _ w.heap.size 238 _ (0, 0) _ rfl (set3 _ _ _ R2.out) Tryz.underlying238 rfl (by kernel_rfl)) rfl ?_; refine ⟨?_, set3_kp K2.out (Nat.le_refl _) _ _ _⟩; clear R2 K2)
  | (refine bodyPost_ret (results_cell_row (p := 6) rfl _ _ w.heap.size 238 _ (0, 0) _ rfl (mH w (.cells #[(2:Int), (0:Int), (0:Int)] 238)) Tryz.underlying238 rfl (by kernel_rfl)) rfl ?_; refine ⟨?_, kA _ _⟩)
  | (refine bodyPost_ret (results_cell_row (p := 6) rfl _ _ w.heap.size 238 _ (0, 0) _ rfl (mH w (.cells #[(4:Int), (0:Int), (0:Int)] 238)) Tryz.underlying238 rfl (by kernel_rfl)) rfl ?_; refine ⟨?_, kA _ _⟩)
 all_goals first
  | (rename_i h; obtain rfl := eq_of_beq h; first | rfl | exact absurd HK.out (by decide) | kernel_rfl)
  | (have hs := HK.out; clear HK; rcases hs with rfl | rfl | rfl | rfl | rfl | rfl | rfl | rfl | rfl | rfl | rfl | rfl | rfl | rfl <;> first | rfl | (exfalso; contradiction))
theorem tcoord_3_2 (s : Int) (hs : s = 1 ∨ s = 2 ∨ s = 3 ∨ s = 4 ∨ s = 5 ∨ s = 6 ∨ s = 7 ∨ s = 8 ∨ s = 9 ∨ s = 10 ∨ s = 11 ∨ s = 12 ∨ s = 13 ∨ s = 14) (w : World) : Calls Tryz.prog 196 #[.int .i64 2, .int .i64 3, .int .i64 s] w fun e' w' => e' = .returned (.agg (cellV (coordT 2 3 s))) ∧ Kp w w' := by
 have HW := hD (fun w => twaits_1 s hs w); have HT := hD (fun s w => tgoes_any s w); have HG := hD (fun s w => tresends_any s w); have K1 := hD (kA w (.cells #[(0:Int), (0:Int), (0:Int)] 238)); have HZ := hD (mH w (.cells #[(0:Int), (0:Int), (0:Int)] 238)); obtain ⟨z0, z1, z2⟩ := cells3 HZ.out; have fz := froz3 HZ.out; have hq := a2X Tryz.underlying245 3 s; have hg := aX 245 (by kernel_rfl); have HK := hD hs; clear hs; go_enter Tryz.func196, Tryz.ntmps196; go_wp2_with (first | (go_at_call 210; (with_reducible refine (HT.out _ _).mono ?_); rintro e' w2 ⟨rfl, hk⟩; have K2 := hD (kT K1.out hk); have R2 := hD (rZ hk HZ.out); obtain ⟨y0, y1, y2⟩ := cells3 R2.out; have fy := froz3 R2.out; clear hk) | (go_at_call 211; (with_reducible refine (HG.out _ _).mono ?_); rintro e' w2 ⟨rfl, hk⟩; have K2 := hD (kT K1.out hk); have R2 := hD (rZ hk HZ.out); obtain ⟨y0, y1, y2⟩ := cells3 R2.out; have fy := froz3 R2.out; clear hk) | (go_at_call 140; (with_reducible refine (HW.out _).mono ?_); rintro e' w' ⟨rfl, rfl⟩))
 all_goals clear hq hg HT HG HW
 all_goals first
  | (refine bodyPost_ret (results_cell_row (p := 6) rfl _ _ w.heap.size 238 _ (0, 0) _ rfl (set3 _ _ _ R2.out) Tryz.underlying238 rfl (by kernel_rfl)) rfl ?_; refine ⟨?_, set3_kp K2.out (Nat.le_refl _) _ _ _⟩; clear R2 K2)
  | (refine bodyPost_ret (results_cell_row (p := 6) rfl _ _ w.heap.size 238 _ (0, 0) _ rfl (mH w (.cells #[(2:Int), (0:Int), (0:Int)] 238)) Tryz.underlying238 rfl (by kernel_rfl)) rfl ?_; refine ⟨?_, kA _ _⟩)
  | (refine bodyPost_ret (results_cell_row (p := 6) rfl _ _ w.heap.size 238 _ (0, 0) _ rfl (mH w (.cells #[(4:Int), (0:Int), (0:Int)] 238)) Tryz.underlying238 rfl (by kernel_rfl)) rfl ?_; refine ⟨?_, kA _ _⟩)
 all_goals first
  | (rename_i h; obtain rfl := eq_of_beq h; first | rfl | exact absurd HK.out (by decide) | kernel_rfl)
  | (have hs := HK.out; clear HK; rcases hs with rfl | rfl | rfl | rfl | rfl | rfl | rfl | rfl | rfl | rfl | rfl | rfl | rfl | rfl <;> first | rfl | (exfalso; contradiction))
theorem tcoord_4 (p s : Int) (hs : s = 1 ∨ s = 2 ∨ s = 3 ∨ s = 4 ∨ s = 5 ∨ s = 6 ∨ s = 7 ∨ s = 8 ∨ s = 9 ∨ s = 10 ∨ s = 11 ∨ s = 12 ∨ s = 13 ∨ s = 14) (w : World) : Calls Tryz.prog 196 #[.int .i64 p, .int .i64 4, .int .i64 s] w fun e' w' => e' = .returned (.agg (cellV (coordT p 4 s))) ∧ Kp w w' := by
 have HW := hD (fun w => twaits_1 s hs w); have HT := hD (fun s w => tgoes_any s w); have HG := hD (fun s w => tresends_any s w); have K1 := hD (kA w (.cells #[(0:Int), (0:Int), (0:Int)] 238)); have HZ := hD (mH w (.cells #[(0:Int), (0:Int), (0:Int)] 238)); obtain ⟨z0, z1, z2⟩ := cells3 HZ.out; have fz := froz3 HZ.out; have hq := a2X Tryz.underlying245 4 s; have hg := aX 245 (by kernel_rfl); have HK := hD hs; clear hs; go_enter Tryz.func196, Tryz.ntmps196; go_wp2_with (first | (go_at_call 210; (with_reducible refine (HT.out _ _).mono ?_); rintro e' w2 ⟨rfl, hk⟩; have K2 := hD (kT K1.out hk); have R2 := hD (rZ hk HZ.out); obtain ⟨y0, y1, y2⟩ := cells3 R2.out; have fy := froz3 R2.out; clear hk) | (go_at_call 211; (with_reducible refine (HG.out _ _).mono ?_); rintro e' w2 ⟨rfl, hk⟩; have K2 := hD (kT K1.out hk); have R2 := hD (rZ hk HZ.out); obtain ⟨y0, y1, y2⟩ := cells3 R2.out; have fy := froz3 R2.out; clear hk) | (go_at_call 140; (with_reducible refine (HW.out _).mono ?_); rintro e' w' ⟨rfl, rfl⟩))
 all_goals clear hq hg HT HG HW
 all_goals first
  | (refine bodyPost_ret (results_cell_row (p := 6) rfl _ _ w.heap.size 238 _ (0, 0) _ rfl (set3 _ _ _ R2.out) Tryz.underlying238 rfl (by kernel_rfl)) rfl ?_; refine ⟨?_, set3_kp K2.out (Nat.le_refl _) _ _ _⟩; clear R2 K2)
  | (refine bodyPost_ret (results_cell_row (p := 6) rfl _ _ w.heap.size 238 _ (0, 0) _ rfl (mH w (.cells #[(2:Int), (0:Int), (0:Int)] 238)) Tryz.underlying238 rfl (by kernel_rfl)) rfl ?_; refine ⟨?_, kA _ _⟩)
  | (refine bodyPost_ret (results_cell_row (p := 6) rfl _ _ w.heap.size 238 _ (0, 0) _ rfl (mH w (.cells #[(4:Int), (0:Int), (0:Int)] 238)) Tryz.underlying238 rfl (by kernel_rfl)) rfl ?_; refine ⟨?_, kA _ _⟩)
 all_goals first
  | (rename_i h; obtain rfl := eq_of_beq h; first | rfl | exact absurd HK.out (by decide) | kernel_rfl)
  | (have hs := HK.out; clear HK; rcases hs with rfl | rfl | rfl | rfl | rfl | rfl | rfl | rfl | rfl | rfl | rfl | rfl | rfl | rfl <;> first | rfl | (exfalso; contradiction))
end Go.Proofs.YtlmlmhmhgdjhnaaGreatDoor
