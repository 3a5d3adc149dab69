/-
  PACKAGE tables (own work): the small functions.
-/
import Derived.Test.YtghjnhdepeiloaaDoorRefT
import Derived.Test.YtghjnhdepeiloaaDoorArrE
namespace Go.Proofs.YtghjnhdepeiloaaDoor
open Go.RowKit Go.ChangeShapes Go.WideShapes

theorem letUp_any (k : Int) (w : World) : Calls Tryd.prog 75 #[.int .i64 k] w fun e' w' => e' = .returned (.bool (upT k)) ∧ w = w' := by
  by_cases h1 : k = 1
  · subst h1
    rw [show (upT 1) = true by decide]
    (go_enter Tryd.func75, Tryd.ntmps75; go_wp2; go_ret; exact ⟨by first | rfl | (simp [*]; done), rfl⟩)
  by_cases h3 : k = 3
  · subst h3
    rw [show (upT 3) = true by decide]
    (go_enter Tryd.func75, Tryd.ntmps75; go_wp2; go_ret; exact ⟨by first | rfl | (simp [*]; done), rfl⟩)
  by_cases h4 : k = 4
  · subst h4
    rw [show (upT 4) = true by decide]
    (go_enter Tryd.func75, Tryd.ntmps75; go_wp2; go_ret; exact ⟨by first | rfl | (simp [*]; done), rfl⟩)
  by_cases h5 : k = 5
  · subst h5
    rw [show (upT 5) = true by decide]
    (go_enter Tryd.func75, Tryd.ntmps75; go_wp2; go_ret; exact ⟨by first | rfl | (simp [*]; done), rfl⟩)
  by_cases h6 : k = 6
  · subst h6
    rw [show (upT 6) = true by decide]
    (go_enter Tryd.func75, Tryd.ntmps75; go_wp2; go_ret; exact ⟨by first | rfl | (simp [*]; done), rfl⟩)
  by_cases h7 : k = 7
  · subst h7
    rw [show (upT 7) = true by decide]
    (go_enter Tryd.func75, Tryd.ntmps75; go_wp2; go_ret; exact ⟨by first | rfl | (simp [*]; done), rfl⟩)
  by_cases h8 : k = 8
  · subst h8
    rw [show (upT 8) = true by decide]
    (go_enter Tryd.func75, Tryd.ntmps75; go_wp2; go_ret; exact ⟨by first | rfl | (simp [*]; done), rfl⟩)
  rw [show (upT k) = false from by unfold upT; exact decide_eq_false (by omega)]
  have b1 : (k == 1) = false := by simpa using h1
  have b3 : (k == 3) = false := by simpa using h3
  have b4 : (k == 4) = false := by simpa using h4
  have b5 : (k == 5) = false := by simpa using h5
  have b6 : (k == 6) = false := by simpa using h6
  have b7 : (k == 7) = false := by simpa using h7
  have b8 : (k == 8) = false := by simpa using h8
  clear h1 h3 h4 h5 h6 h7 h8
  (go_enter Tryd.func75, Tryd.ntmps75; go_wp2; go_ret; exact ⟨by first | rfl | (simp [*]; done), rfl⟩)
theorem letDown_any (k : Int) (w : World) : Calls Tryd.prog 76 #[.int .i64 k] w fun e' w' => e' = .returned (.bool (downT 2 k)) ∧ w = w' := by
  by_cases h2 : k = 2
  · subst h2
    rw [show (downT 2 2) = true by decide]
    (go_enter Tryd.func76, Tryd.ntmps76; go_wp2; go_ret; exact ⟨by first | rfl | (simp [*]; done), rfl⟩)
  by_cases h9 : k = 9
  · subst h9
    rw [show (downT 2 9) = true by decide]
    (go_enter Tryd.func76, Tryd.ntmps76; go_wp2; go_ret; exact ⟨by first | rfl | (simp [*]; done), rfl⟩)
  by_cases h10 : k = 10
  · subst h10
    rw [show (downT 2 10) = true by decide]
    (go_enter Tryd.func76, Tryd.ntmps76; go_wp2; go_ret; exact ⟨by first | rfl | (simp [*]; done), rfl⟩)
  by_cases h11 : k = 11
  · subst h11
    rw [show (downT 2 11) = true by decide]
    (go_enter Tryd.func76, Tryd.ntmps76; go_wp2; go_ret; exact ⟨by first | rfl | (simp [*]; done), rfl⟩)
  by_cases h12 : k = 12
  · subst h12
    rw [show (downT 2 12) = true by decide]
    (go_enter Tryd.func76, Tryd.ntmps76; go_wp2; go_ret; exact ⟨by first | rfl | (simp [*]; done), rfl⟩)
  by_cases h13 : k = 13
  · subst h13
    rw [show (downT 2 13) = true by decide]
    (go_enter Tryd.func76, Tryd.ntmps76; go_wp2; go_ret; exact ⟨by first | rfl | (simp [*]; done), rfl⟩)
  by_cases h14 : k = 14
  · subst h14
    rw [show (downT 2 14) = true by decide]
    (go_enter Tryd.func76, Tryd.ntmps76; go_wp2; go_ret; exact ⟨by first | rfl | (simp [*]; done), rfl⟩)
  rw [show (downT 2 k) = false from by unfold downT; exact decide_eq_false (by omega)]
  have b2 : (k == 2) = false := by simpa using h2
  have b9 : (k == 9) = false := by simpa using h9
  have b10 : (k == 10) = false := by simpa using h10
  have b11 : (k == 11) = false := by simpa using h11
  have b12 : (k == 12) = false := by simpa using h12
  have b13 : (k == 13) = false := by simpa using h13
  have b14 : (k == 14) = false := by simpa using h14
  clear h2 h9 h10 h11 h12 h13 h14
  (go_enter Tryd.func76, Tryd.ntmps76; go_wp2; go_ret; exact ⟨by first | rfl | (simp [*]; done), rfl⟩)
theorem known_any (p e : Int) (w : World) : Calls Tryd.prog 55 #[.int .i64 p, .int .i64 e] w fun e' w' => e' = .returned (.bool (rightT p e)) ∧ w = w' := by
  by_cases hp1 : p = 1
  · subst hp1
    by_cases he1 : e = 1
    · subst he1
      rw [show rightT 1 1 = true by decide]
      (go_enter Tryd.func55, Tryd.ntmps55; go_wp2; go_ret; exact ⟨by first | rfl | (simp [*]; done), rfl⟩)
    by_cases he2 : e = 2
    · subst he2
      rw [show rightT 1 2 = true by decide]
      (go_enter Tryd.func55, Tryd.ntmps55; go_wp2; go_ret; exact ⟨by first | rfl | (simp [*]; done), rfl⟩)
    rw [show rightT 1 e = false from decide_eq_false (by omega)]
    have c1 : (e == 1) = false := by simpa using he1
    have c2 : (e == 2) = false := by simpa using he2
    clear he1 he2
    (go_enter Tryd.func55, Tryd.ntmps55; go_wp2; go_ret; exact ⟨by first | rfl | (simp [*]; done), rfl⟩)
  by_cases hp2 : p = 2
  · subst hp2
    by_cases he1 : e = 1
    · subst he1
      rw [show rightT 2 1 = true by decide]
      (go_enter Tryd.func55, Tryd.ntmps55; go_wp2; go_ret; exact ⟨by first | rfl | (simp [*]; done), rfl⟩)
    by_cases he2 : e = 2
    · subst he2
      rw [show rightT 2 2 = true by decide]
      (go_enter Tryd.func55, Tryd.ntmps55; go_wp2; go_ret; exact ⟨by first | rfl | (simp [*]; done), rfl⟩)
    rw [show rightT 2 e = false from decide_eq_false (by omega)]
    have c1 : (e == 1) = false := by simpa using he1
    have c2 : (e == 2) = false := by simpa using he2
    clear he1 he2
    (go_enter Tryd.func55, Tryd.ntmps55; go_wp2; go_ret; exact ⟨by first | rfl | (simp [*]; done), rfl⟩)
  rw [show rightT p e = false from decide_eq_false (by omega)]
  have c1 : (p == 1) = false := by simpa using hp1
  have c2 : (p == 2) = false := by simpa using hp2
  clear hp1 hp2
  (go_enter Tryd.func55, Tryd.ntmps55; go_wp2; go_ret; exact ⟨by first | rfl | (simp [*]; done), rfl⟩)
theorem has_any (p e s : Int) (w : World) : Calls Tryd.prog 57 #[.int .i64 p, .int .i64 e, .int .i64 s] w fun e' w' => e' = .returned (.bool (hasT p e s)) ∧ w = w' := by
  by_cases h4 : s = 4
  · subst h4
    rw [show hasT p e 4 = (p == 2) by simp [hasT]; rw [Bool.eq_iff_iff]; simp]
    (go_enter Tryd.func57, Tryd.ntmps57; go_wp2; go_ret; exact ⟨by first | rfl | (simp [*]; done), rfl⟩)
  by_cases h10 : s = 10
  · subst h10
    rw [show hasT p e 10 = (p == 2) by simp [hasT]; rw [Bool.eq_iff_iff]; simp]
    (go_enter Tryd.func57, Tryd.ntmps57; go_wp2; go_ret; exact ⟨by first | rfl | (simp [*]; done), rfl⟩)
  have b4 : (s == 4) = false := by simpa using h4
  have b10 : (s == 10) = false := by simpa using h10
  by_cases h3 : s = 3
  · subst h3
    by_cases hp : p = 2
    · subst hp
      rw [show hasT 2 e 3 = (e == 1) by simp [hasT]; rw [Bool.eq_iff_iff]; simp]
      (go_enter Tryd.func57, Tryd.ntmps57; go_wp2; go_ret; exact ⟨by first | rfl | (simp [*]; done), rfl⟩)
    · rw [show hasT p e 3 = false by simp [hasT, hp]]
      have bp : (p == 2) = false := by simpa using hp
      (go_enter Tryd.func57, Tryd.ntmps57; go_wp2; go_ret; exact ⟨by first | rfl | (simp [*]; done), rfl⟩)
  have b3 : (s == 3) = false := by simpa using h3
  by_cases h1 : 1 ≤ s
  · by_cases h2 : s ≤ 14
    · rw [show hasT p e s = true by simp [hasT, h4, h10, h3, h1, h2]]
      (go_enter Tryd.func57, Tryd.ntmps57; go_wp2; go_ret; exact ⟨by first | rfl | (simp [*]; done), rfl⟩)
    · rw [show hasT p e s = false by simp [hasT, h4, h10, h3, h2]]
      (go_enter Tryd.func57, Tryd.ntmps57; go_wp2; go_ret; exact ⟨by first | rfl | (simp [*]; done), rfl⟩)
  · rw [show hasT p e s = false by simp [hasT, h4, h10, h3, h1]]
    (go_enter Tryd.func57, Tryd.ntmps57; go_wp2; go_ret; exact ⟨by first | rfl | (simp [*]; done), rfl⟩)
theorem down_2 (p k : Int) (h : ¬ k = 2) : downT p k = downT 2 k := by
  unfold downT
  rw [decide_eq_decide]
  omega
theorem takes_any (p e k : Int) (w : World) : Calls Tryd.prog 56 #[.int .i64 p, .int .i64 e, .int .i64 k] w fun e' w' => e' = .returned (.bool (takesT p e k)) ∧ w = w' := by
  have HU := Lib.hid (fun w => letUp_any k w)
  have HD := Lib.hid (fun w => letDown_any k w)
  by_cases he : e = 1
  · subst he
    rw [show takesT p 1 k = upT k from rfl]
    (go_enter Tryd.func56, Tryd.ntmps56; go_wp2_with (go_at_call 75; (with_reducible refine (HU.out _).mono ?_); rintro e' w' ⟨rfl, rfl⟩); go_ret; exact ⟨by first | rfl | (simp [*]; done), rfl⟩)
  · have be : (e == 1) = false := by simpa using he
    rw [show takesT p e k = downT p k from if_neg he]
    by_cases h2 : k = 2
    · subst h2
      rw [show downT p 2 = (p == 2) by unfold downT; rw [Bool.eq_iff_iff]; simp]
      clear he
      (go_enter Tryd.func56, Tryd.ntmps56; go_wp2; go_ret; exact ⟨by first | rfl | (simp [*]; done), rfl⟩)
    · have b2 : (k == 2) = false := by simpa using h2
      rw [down_2 p k h2]
      clear he h2
      (go_enter Tryd.func56, Tryd.ntmps56; go_wp2_with (go_at_call 76; (with_reducible refine (HD.out _).mono ?_); rintro e' w' ⟨rfl, rfl⟩); go_ret; exact ⟨by first | rfl | (simp [*]; done), rfl⟩)
theorem sends_any (p e k : Int) (he : e = 1 ∨ e = 2) (w : World) : Calls Tryd.prog 64 #[.int .i64 p, .int .i64 e, .int .i64 k] w fun e' w' => e' = .returned (.bool (sendsT p e k)) ∧ w = w' := by
  have HT := Lib.hid (fun e w => takes_any p e k w)
  rcases he with rfl | rfl
  · rw [show sendsT p 1 k = takesT p 2 k from rfl]
    (go_enter Tryd.func64, Tryd.ntmps64; go_wp2_with (go_at_call 56; (with_reducible refine (HT.out _ _).mono ?_); rintro e' w' ⟨rfl, rfl⟩); go_ret; exact ⟨by first | rfl | (simp [*]; done), rfl⟩)
  · rw [show sendsT p 2 k = takesT p 1 k from rfl]
    (go_enter Tryd.func64, Tryd.ntmps64; go_wp2_with (go_at_call 56; (with_reducible refine (HT.out _ _).mono ?_); rintro e' w' ⟨rfl, rfl⟩); go_ret; exact ⟨by first | rfl | (simp [*]; done), rfl⟩)
set_option maxRecDepth 100000 in
set_option maxHeartbeats 4000000 in
theorem twaits_1 (s : Int) (hs : s = 1 ∨ s = 2 ∨ s = 3 ∨ s = 4 ∨ s = 5 ∨ s = 6 ∨ s = 7 ∨ s = 8 ∨ s = 9 ∨ s = 10 ∨ s = 11 ∨ s = 12 ∨ s = 13 ∨ s = 14) (w : World) : Calls Tryd.prog 71 #[.int .i64 1, .int .i64 s] w fun e' w' => e' = .returned (.int .i64 (waitT 1 s)) ∧ w = w' := by
  rcases hs with rfl | rfl | rfl | rfl | rfl | rfl | rfl | rfl | rfl | rfl | rfl | rfl | rfl | rfl
  · (have hq := arr2_eql Tryd.underlying113 1 1; have hg := arr_guard 113 (by kernel_rfl); (go_enter Tryd.func71, Tryd.ntmps71; go_wp2; go_ret; exact ⟨rfl, rfl⟩))
  · (have hq := arr2_eql Tryd.underlying113 1 2; have hg := arr_guard 113 (by kernel_rfl); (go_enter Tryd.func71, Tryd.ntmps71; go_wp2; go_ret; exact ⟨rfl, rfl⟩))
  · (have hq := arr2_eql Tryd.underlying113 1 3; have hg := arr_guard 113 (by kernel_rfl); (go_enter Tryd.func71, Tryd.ntmps71; go_wp2; go_ret; exact ⟨rfl, rfl⟩))
  · (have hq := arr2_eql Tryd.underlying113 1 4; have hg := arr_guard 113 (by kernel_rfl); (go_enter Tryd.func71, Tryd.ntmps71; go_wp2; go_ret; exact ⟨rfl, rfl⟩))
  · (have hq := arr2_eql Tryd.underlying113 1 5; have hg := arr_guard 113 (by kernel_rfl); (go_enter Tryd.func71, Tryd.ntmps71; go_wp2; go_ret; exact ⟨rfl, rfl⟩))
  · (have hq := arr2_eql Tryd.underlying113 1 6; have hg := arr_guard 113 (by kernel_rfl); (go_enter Tryd.func71, Tryd.ntmps71; go_wp2; go_ret; exact ⟨rfl, rfl⟩))
  · (have hq := arr2_eql Tryd.underlying113 1 7; have hg := arr_guard 113 (by kernel_rfl); (go_enter Tryd.func71, Tryd.ntmps71; go_wp2; go_ret; exact ⟨rfl, rfl⟩))
  · (have hq := arr2_eql Tryd.underlying113 1 8; have hg := arr_guard 113 (by kernel_rfl); (go_enter Tryd.func71, Tryd.ntmps71; go_wp2; go_ret; exact ⟨rfl, rfl⟩))
  · (have hq := arr2_eql Tryd.underlying113 1 9; have hg := arr_guard 113 (by kernel_rfl); (go_enter Tryd.func71, Tryd.ntmps71; go_wp2; go_ret; exact ⟨rfl, rfl⟩))
  · (have hq := arr2_eql Tryd.underlying113 1 10; have hg := arr_guard 113 (by kernel_rfl); (go_enter Tryd.func71, Tryd.ntmps71; go_wp2; go_ret; exact ⟨rfl, rfl⟩))
  · (have hq := arr2_eql Tryd.underlying113 1 11; have hg := arr_guard 113 (by kernel_rfl); (go_enter Tryd.func71, Tryd.ntmps71; go_wp2; go_ret; exact ⟨rfl, rfl⟩))
  · (have hq := arr2_eql Tryd.underlying113 1 12; have hg := arr_guard 113 (by kernel_rfl); (go_enter Tryd.func71, Tryd.ntmps71; go_wp2; go_ret; exact ⟨rfl, rfl⟩))
  · (have hq := arr2_eql Tryd.underlying113 1 13; have hg := arr_guard 113 (by kernel_rfl); (go_enter Tryd.func71, Tryd.ntmps71; go_wp2; go_ret; exact ⟨rfl, rfl⟩))
  · (have hq := arr2_eql Tryd.underlying113 1 14; have hg := arr_guard 113 (by kernel_rfl); (go_enter Tryd.func71, Tryd.ntmps71; go_wp2; go_ret; exact ⟨rfl, rfl⟩))
set_option maxRecDepth 100000 in
set_option maxHeartbeats 4000000 in
theorem twaits_2 (s : Int) (hs : s = 1 ∨ s = 2 ∨ s = 3 ∨ s = 4 ∨ s = 5 ∨ s = 6 ∨ s = 7 ∨ s = 8 ∨ s = 9 ∨ s = 10 ∨ s = 11 ∨ s = 12 ∨ s = 13 ∨ s = 14) (w : World) : Calls Tryd.prog 71 #[.int .i64 2, .int .i64 s] w fun e' w' => e' = .returned (.int .i64 (waitT 2 s)) ∧ w = w' := by
  rcases hs with rfl | rfl | rfl | rfl | rfl | rfl | rfl | rfl | rfl | rfl | rfl | rfl | rfl | rfl
  · (have hq := arr2_eql Tryd.underlying113 2 1; have hg := arr_guard 113 (by kernel_rfl); (go_enter Tryd.func71, Tryd.ntmps71; go_wp2; go_ret; exact ⟨rfl, rfl⟩))
  · (have hq := arr2_eql Tryd.underlying113 2 2; have hg := arr_guard 113 (by kernel_rfl); (go_enter Tryd.func71, Tryd.ntmps71; go_wp2; go_ret; exact ⟨rfl, rfl⟩))
  · (have hq := arr2_eql Tryd.underlying113 2 3; have hg := arr_guard 113 (by kernel_rfl); (go_enter Tryd.func71, Tryd.ntmps71; go_wp2; go_ret; exact ⟨rfl, rfl⟩))
  · (have hq := arr2_eql Tryd.underlying113 2 4; have hg := arr_guard 113 (by kernel_rfl); (go_enter Tryd.func71, Tryd.ntmps71; go_wp2; go_ret; exact ⟨rfl, rfl⟩))
  · (have hq := arr2_eql Tryd.underlying113 2 5; have hg := arr_guard 113 (by kernel_rfl); (go_enter Tryd.func71, Tryd.ntmps71; go_wp2; go_ret; exact ⟨rfl, rfl⟩))
  · (have hq := arr2_eql Tryd.underlying113 2 6; have hg := arr_guard 113 (by kernel_rfl); (go_enter Tryd.func71, Tryd.ntmps71; go_wp2; go_ret; exact ⟨rfl, rfl⟩))
  · (have hq := arr2_eql Tryd.underlying113 2 7; have hg := arr_guard 113 (by kernel_rfl); (go_enter Tryd.func71, Tryd.ntmps71; go_wp2; go_ret; exact ⟨rfl, rfl⟩))
  · (have hq := arr2_eql Tryd.underlying113 2 8; have hg := arr_guard 113 (by kernel_rfl); (go_enter Tryd.func71, Tryd.ntmps71; go_wp2; go_ret; exact ⟨rfl, rfl⟩))
  · (have hq := arr2_eql Tryd.underlying113 2 9; have hg := arr_guard 113 (by kernel_rfl); (go_enter Tryd.func71, Tryd.ntmps71; go_wp2; go_ret; exact ⟨rfl, rfl⟩))
  · (have hq := arr2_eql Tryd.underlying113 2 10; have hg := arr_guard 113 (by kernel_rfl); (go_enter Tryd.func71, Tryd.ntmps71; go_wp2; go_ret; exact ⟨rfl, rfl⟩))
  · (have hq := arr2_eql Tryd.underlying113 2 11; have hg := arr_guard 113 (by kernel_rfl); (go_enter Tryd.func71, Tryd.ntmps71; go_wp2; go_ret; exact ⟨rfl, rfl⟩))
  · (have hq := arr2_eql Tryd.underlying113 2 12; have hg := arr_guard 113 (by kernel_rfl); (go_enter Tryd.func71, Tryd.ntmps71; go_wp2; go_ret; exact ⟨rfl, rfl⟩))
  · (have hq := arr2_eql Tryd.underlying113 2 13; have hg := arr_guard 113 (by kernel_rfl); (go_enter Tryd.func71, Tryd.ntmps71; go_wp2; go_ret; exact ⟨rfl, rfl⟩))
  · (have hq := arr2_eql Tryd.underlying113 2 14; have hg := arr_guard 113 (by kernel_rfl); (go_enter Tryd.func71, Tryd.ntmps71; go_wp2; go_ret; exact ⟨rfl, rfl⟩))
theorem tgoes_any (s : Int) (w : World) : Calls Tryd.prog 77 #[.int .i64 s] w fun e' w' => e' = .returned (.agg #[.int .i64 1, .int .i64 s, .int .i64 0]) ∧ Kp w w' := by
  have K1 := Lib.hid (kp_alloc w (.cells #[.int .i64 0, .int .i64 0, .int .i64 0] 70))
  have HZ := Lib.hid (MapKept.heap_alloc w (.cells #[.int .i64 0, .int .i64 0, .int .i64 0] 70)).1
  obtain ⟨z0, z1, z2⟩ := cells3 HZ.out
  have fz := froz3 HZ.out
  clear K1 HZ z0 z1 z2 fz
  go_enter Tryd.func77, Tryd.ntmps77
  go_wp2
  refine bodyPost_ret (results_cell_row (p := 2) rfl _ _ w.heap.size 70 _ (0, 0) _ rfl (MapKept.heap_alloc w (.cells #[.int .i64 1, .int .i64 s, .int .i64 0] 70)).1 Tryd.underlying70 rfl (by kernel_rfl)) rfl ?_; exact ⟨rfl, kp_alloc _ _⟩
theorem tresends_any (s : Int) (w : World) : Calls Tryd.prog 78 #[.int .i64 s] w fun e' w' => e' = .returned (.agg #[.int .i64 3, .int .i64 0, .int .i64 s]) ∧ Kp w w' := by
  have K1 := Lib.hid (kp_alloc w (.cells #[.int .i64 0, .int .i64 0, .int .i64 0] 70))
  have HZ := Lib.hid (MapKept.heap_alloc w (.cells #[.int .i64 0, .int .i64 0, .int .i64 0] 70)).1
  obtain ⟨z0, z1, z2⟩ := cells3 HZ.out
  have fz := froz3 HZ.out
  clear K1 HZ z0 z1 z2 fz
  go_enter Tryd.func78, Tryd.ntmps78
  go_wp2
  refine bodyPost_ret (results_cell_row (p := 2) rfl _ _ w.heap.size 70 _ (0, 0) _ rfl (MapKept.heap_alloc w (.cells #[.int .i64 3, .int .i64 0, .int .i64 s] 70)).1 Tryd.underlying70 rfl (by kernel_rfl)) rfl ?_; exact ⟨rfl, kp_alloc _ _⟩
end Go.Proofs.YtghjnhdepeiloaaDoor
