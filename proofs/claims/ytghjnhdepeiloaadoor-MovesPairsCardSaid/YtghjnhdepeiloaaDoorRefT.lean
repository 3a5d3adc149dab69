/-
  THE TABLES AS THE DOCUMENT HAS THEM (own work): liaisonref10's Has, failing, Waits, Takes, Sends, to, again, coordinator, participant, goes, Look, Step.
-/
import Derived.Test.YtghjnhdepeiloaaDoorTabM
import Derived.LoopTactic
import Derived.BigQuiet
import Derived.Lib.SmallJoins
namespace Go.Proofs.YtghjnhdepeiloaaDoor
open Go.RowKit Go.ChangeShapes Go.WideShapes

theorem refFailing_any (s : Int) (w : World) : Calls Tryd.prog 81 #[.int .i64 s] w fun e' w' => e' = .returned (.bool (failT s)) ∧ w = w' := by
  unfold failT
  by_cases h1 : 8 ≤ s
  · by_cases h2 : s ≤ 11
    · rw [decide_eq_true (And.intro h1 h2)]
      (go_enter Tryd.func81, Tryd.ntmps81; go_wp2; go_ret; exact ⟨rfl, rfl⟩)
    · rw [decide_eq_false (fun q => h2 q.2)]
      (go_enter Tryd.func81, Tryd.ntmps81; go_wp2; go_ret; exact ⟨rfl, rfl⟩)
  · rw [decide_eq_false (fun q => h1 q.1)]
    (go_enter Tryd.func81, Tryd.ntmps81; go_wp2; go_ret; exact ⟨rfl, rfl⟩)
theorem refHas_any (p e s : Int) (w : World) : Calls Tryd.prog 42 #[.int .i64 p, .int .i64 e, .int .i64 s] w fun e' w' => e' = .returned (.bool (hasT p e s)) ∧ w = w' := by
  by_cases h4 : s = 4
  · subst h4
    rw [show hasT p e 4 = (p == 2) by simp [hasT]; rw [Bool.eq_iff_iff]; simp]
    (go_enter Tryd.func42, Tryd.ntmps42; go_wp2; go_ret; exact ⟨rfl, rfl⟩)
  by_cases h10 : s = 10
  · subst h10
    rw [show hasT p e 10 = (p == 2) by simp [hasT]; rw [Bool.eq_iff_iff]; simp]
    (go_enter Tryd.func42, Tryd.ntmps42; go_wp2; go_ret; exact ⟨rfl, rfl⟩)
  have b4 : (s == 4) = false := by simpa using h4
  have b10 : (s == 10) = false := by simpa using h10
  by_cases h3 : s = 3
  · subst h3
    by_cases hp : p = 2
    · subst hp
      rw [show hasT 2 e 3 = (e == 1) by simp [hasT]; rw [Bool.eq_iff_iff]; simp]
      (go_enter Tryd.func42, Tryd.ntmps42; go_wp2; go_ret; exact ⟨rfl, rfl⟩)
    · rw [show hasT p e 3 = false by simp [hasT, hp]]
      have bp : (p == 2) = false := by simpa using hp
      (go_enter Tryd.func42, Tryd.ntmps42; go_wp2; go_ret; exact ⟨rfl, rfl⟩)
  have b3 : (s == 3) = false := by simpa using h3
  by_cases h1 : 1 ≤ s
  · by_cases h2 : s ≤ 14
    · rw [show hasT p e s = true by simp [hasT, h4, h10, h3, h1, h2]]
      (go_enter Tryd.func42, Tryd.ntmps42; go_wp2; go_ret; exact ⟨rfl, rfl⟩)
    · rw [show hasT p e s = false by simp [hasT, h4, h10, h3, h2]]
      (go_enter Tryd.func42, Tryd.ntmps42; go_wp2; go_ret; exact ⟨rfl, rfl⟩)
  · rw [show hasT p e s = false by simp [hasT, h4, h10, h3, h1]]
    (go_enter Tryd.func42, Tryd.ntmps42; go_wp2; go_ret; exact ⟨rfl, rfl⟩)
theorem refTakes_any (p e k : Int) (w : World) : Calls Tryd.prog 61 #[.int .i64 p, .int .i64 e, .int .i64 k] w fun e' w' => e' = .returned (.bool (takesT p e k)) ∧ w = w' := by
  by_cases he : e = 1
  · subst he
    rw [show takesT p 1 k = upT k from rfl]
    unfold upT
    by_cases h1 : k = 1
    · subst h1
      rw [decide_eq_true (Or.inl rfl)]
      (go_enter Tryd.func61, Tryd.ntmps61; go_wp2; go_ret; exact ⟨rfl, rfl⟩)
    have b1 : (k == 1) = false := by simpa using h1
    by_cases h2 : 3 ≤ k
    · by_cases h3 : k ≤ 8
      · rw [decide_eq_true (Or.inr (And.intro h2 h3))]
        (go_enter Tryd.func61, Tryd.ntmps61; go_wp2; go_ret; exact ⟨rfl, rfl⟩)
      · rw [decide_eq_false (by omega)]
        (go_enter Tryd.func61, Tryd.ntmps61; go_wp2; go_ret; exact ⟨rfl, rfl⟩)
    · rw [decide_eq_false (by omega)]
      (go_enter Tryd.func61, Tryd.ntmps61; go_wp2; go_ret; exact ⟨rfl, rfl⟩)
  · have be : (e == 1) = false := by simpa using he
    rw [show takesT p e k = downT p k from if_neg he]
    unfold downT
    by_cases h2 : k = 2
    · subst h2
      by_cases hp : p = 2
      · subst hp
        rw [decide_eq_true (Or.inl ⟨rfl, rfl⟩)]
        (go_enter Tryd.func61, Tryd.ntmps61; go_wp2; go_ret; exact ⟨rfl, rfl⟩)
      · have bp : (p == 2) = false := by simpa using hp
        rw [decide_eq_false (by omega)]
        (go_enter Tryd.func61, Tryd.ntmps61; go_wp2; go_ret; exact ⟨rfl, rfl⟩)
    have b2 : (k == 2) = false := by simpa using h2
    by_cases h9 : 9 ≤ k
    · by_cases h14 : k ≤ 14
      · rw [decide_eq_true (Or.inr (And.intro h9 h14))]
        (go_enter Tryd.func61, Tryd.ntmps61; go_wp2; go_ret; exact ⟨rfl, rfl⟩)
      · rw [decide_eq_false (by omega)]
        (go_enter Tryd.func61, Tryd.ntmps61; go_wp2; go_ret; exact ⟨rfl, rfl⟩)
    · rw [decide_eq_false (by omega)]
      (go_enter Tryd.func61, Tryd.ntmps61; go_wp2; go_ret; exact ⟨rfl, rfl⟩)
theorem refSends_any (p e k : Int) (w : World) : Calls Tryd.prog 67 #[.int .i64 p, .int .i64 e, .int .i64 k] w fun e' w' => e' = .returned (.bool (sendsT p e k)) ∧ w = w' := by
  by_cases he : e = 2
  · subst he
    rw [show sendsT p 2 k = upT k from rfl]
    unfold upT
    by_cases h1 : k = 1
    · subst h1
      rw [decide_eq_true (Or.inl rfl)]
      (go_enter Tryd.func67, Tryd.ntmps67; go_wp2; go_ret; exact ⟨rfl, rfl⟩)
    have b1 : (k == 1) = false := by simpa using h1
    by_cases h2 : 3 ≤ k
    · by_cases h3 : k ≤ 8
      · rw [decide_eq_true (Or.inr (And.intro h2 h3))]
        (go_enter Tryd.func67, Tryd.ntmps67; go_wp2; go_ret; exact ⟨rfl, rfl⟩)
      · rw [decide_eq_false (by omega)]
        (go_enter Tryd.func67, Tryd.ntmps67; go_wp2; go_ret; exact ⟨rfl, rfl⟩)
    · rw [decide_eq_false (by omega)]
      (go_enter Tryd.func67, Tryd.ntmps67; go_wp2; go_ret; exact ⟨rfl, rfl⟩)
  · have be : (e == 2) = false := by simpa using he
    rw [show sendsT p e k = downT p k from if_neg he]
    unfold downT
    by_cases h2 : k = 2
    · subst h2
      by_cases hp : p = 2
      · subst hp
        rw [decide_eq_true (Or.inl ⟨rfl, rfl⟩)]
        (go_enter Tryd.func67, Tryd.ntmps67; go_wp2; go_ret; exact ⟨rfl, rfl⟩)
      · have bp : (p == 2) = false := by simpa using hp
        rw [decide_eq_false (by omega)]
        (go_enter Tryd.func67, Tryd.ntmps67; go_wp2; go_ret; exact ⟨rfl, rfl⟩)
    have b2 : (k == 2) = false := by simpa using h2
    by_cases h9 : 9 ≤ k
    · by_cases h14 : k ≤ 14
      · rw [decide_eq_true (Or.inr (And.intro h9 h14))]
        (go_enter Tryd.func67, Tryd.ntmps67; go_wp2; go_ret; exact ⟨rfl, rfl⟩)
      · rw [decide_eq_false (by omega)]
        (go_enter Tryd.func67, Tryd.ntmps67; go_wp2; go_ret; exact ⟨rfl, rfl⟩)
    · rw [decide_eq_false (by omega)]
      (go_enter Tryd.func67, Tryd.ntmps67; go_wp2; go_ret; exact ⟨rfl, rfl⟩)
theorem refWaits_any (e s : Int) (w : World) : Calls Tryd.prog 73 #[.int .i64 e, .int .i64 s] w fun e' w' => e' = .returned (.int .i64 (waitT e s)) ∧ w = w' := by
  have HF := Lib.hid (fun s w => refFailing_any s w)
  by_cases he : e = 1
  · subst he
    by_cases h : s = 2 ∨ s = 3 ∨ s = 4 ∨ s = 6 ∨ s = 7
    · rcases h with rfl | rfl | rfl | rfl | rfl <;> (go_enter Tryd.func73, Tryd.ntmps73; go_wp2; go_ret; exact ⟨rfl, rfl⟩)
    · have b2 : (s == 2) = false := by simp; omega
      have b3 : (s == 3) = false := by simp; omega
      have b4 : (s == 4) = false := by simp; omega
      have b6 : (s == 6) = false := by simp; omega
      have b7 : (s == 7) = false := by simp; omega
      rw [show waitT 1 s = 0 by unfold waitT; rw [if_pos rfl, if_neg (by omega), if_neg (by omega), if_neg (by omega), if_neg (by omega)]]
      (go_enter Tryd.func73, Tryd.ntmps73; go_wp2; go_ret; exact ⟨rfl, rfl⟩)
  · have be : (e == 1) = false := by simpa using he
    by_cases h5 : s = 5
    · subst h5
      rw [show waitT e 5 = 3 by unfold waitT; rw [if_neg he]; rfl]
      (go_enter Tryd.func73, Tryd.ntmps73; go_wp2; go_ret; exact ⟨rfl, rfl⟩)
    have b5 : (s == 5) = false := by simpa using h5
    cases hf : failT s with
    | true =>
      have HF1 := Lib.hid (fun w => hf ▸ refFailing_any s w)
      rw [show waitT e s = 4 by unfold waitT; rw [if_neg he, if_neg h5, if_pos hf]]
      (go_enter Tryd.func73, Tryd.ntmps73; go_wp2_with (go_at_call 81; (with_reducible refine (HF1.out _).mono ?_); rintro e' w' ⟨rfl, rfl⟩); go_ret; exact ⟨rfl, rfl⟩)
    | false =>
      have HF1 := Lib.hid (fun w => hf ▸ refFailing_any s w)
      by_cases h12 : s = 12
      · subst h12
        rw [show waitT e 12 = 5 by unfold waitT; rw [if_neg he]; rfl]
        (go_enter Tryd.func73, Tryd.ntmps73; go_wp2_with (go_at_call 81; (with_reducible refine (HF1.out _).mono ?_); rintro e' w' ⟨rfl, rfl⟩); go_ret; exact ⟨rfl, rfl⟩)
      have b12 : (s == 12) = false := by simpa using h12
      by_cases h13 : s = 13
      · subst h13
        rw [show waitT e 13 = 1 by unfold waitT; rw [if_neg he]; rfl]
        (go_enter Tryd.func73, Tryd.ntmps73; go_wp2_with (go_at_call 81; (with_reducible refine (HF1.out _).mono ?_); rintro e' w' ⟨rfl, rfl⟩); go_ret; exact ⟨rfl, rfl⟩)
      have b13 : (s == 13) = false := by simpa using h13
      rw [show waitT e s = 0 by unfold waitT; rw [if_neg he, if_neg h5, if_neg (by rw [hf]; decide), if_neg h12, if_neg h13]]
      (go_enter Tryd.func73, Tryd.ntmps73; go_wp2_with (go_at_call 81; (with_reducible refine (HF1.out _).mono ?_); rintro e' w' ⟨rfl, rfl⟩); go_ret; exact ⟨rfl, rfl⟩)
theorem cells3 {b : Nat} {t : TypeId} {w : World} {x0 x1 x2 : Value} (h : w.heap[b]? = some (.cells #[x0, x1, x2] t (0, 0))) : w.cell? ⟨b, 0, none⟩ = some x0 ∧ w.cell? ⟨b, 1, none⟩ = some x1 ∧ w.cell? ⟨b, 2, none⟩ = some x2 := by
  refine ⟨?_, ?_, ?_⟩ <;> (unfold World.cell?; dsimp only; rw [h]; rfl)
theorem froz3 {b : Nat} {t : TypeId} {w : World} {cs : Array Value} (h : w.heap[b]? = some (.cells cs t (0, 0))) (i : Nat) : w.frozen? ⟨b, i, none⟩ = false := by
  unfold World.frozen?
  dsimp only
  rw [h]
  simp
theorem set3 {b : Nat} {t : TypeId} {w : World} {x0 x1 x2 : Value} (y0 y1 y2 : Value) (h : w.heap[b]? = some (.cells #[x0, x1, x2] t (0, 0))) : (((w.setCell ⟨b, 0, none⟩ y0).setCell ⟨b, 1, none⟩ y1).setCell ⟨b, 2, none⟩ y2).heap[b]? = some (.cells #[y0, y1, y2] t (0, 0)) := by
  have h1 : (w.setCell ⟨b, 0, none⟩ y0).heap[b]? = some (.cells #[y0, x1, x2] t (0, 0)) := (Joins.block_setCell h _).trans rfl
  have h2 : ((w.setCell ⟨b, 0, none⟩ y0).setCell ⟨b, 1, none⟩ y1).heap[b]? = some (.cells #[y0, y1, x2] t (0, 0)) := (Joins.block_setCell h1 _).trans rfl
  have h3 : (((w.setCell ⟨b, 0, none⟩ y0).setCell ⟨b, 1, none⟩ y1).setCell ⟨b, 2, none⟩ y2).heap[b]? = some (.cells #[y0, y1, y2] t (0, 0)) := (Joins.block_setCell h2 _).trans rfl
  exact h3
theorem set3_kp {b : Nat} {w0 w : World} (hk : Kp w0 w) (hb : w0.heap.size ≤ b) (y0 y1 y2 : Value) : Kp w0 (((w.setCell ⟨b, 0, none⟩ y0).setCell ⟨b, 1, none⟩ y1).setCell ⟨b, 2, none⟩ y2) := by
  refine Below.setCell ?_ hb _
  refine Below.setCell ?_ hb _
  refine Below.setCell ?_ hb _
  exact hk
theorem refTo_any (s : Int) (w : World) : Calls Tryd.prog 79 #[.int .i64 s] w fun e' w' => e' = .returned (.agg #[.int .i64 1, .int .i64 s, .int .i64 0]) ∧ Kp w w' := by
  go_enter Tryd.func79, Tryd.ntmps79
  go_wp2
  refine bodyPost_ret (results_cell_row (p := 2) rfl _ _ w.heap.size 74 _ (0, 0) _ rfl (MapKept.heap_alloc w (.cells #[.int .i64 1, .int .i64 s, .int .i64 0] 74)).1 Tryd.underlying74 rfl (by kernel_rfl)) rfl ?_; exact ⟨rfl, kp_alloc _ _⟩
theorem refAgain_any (s : Int) (w : World) : Calls Tryd.prog 80 #[.int .i64 s] w fun e' w' => e' = .returned (.agg #[.int .i64 3, .int .i64 0, .int .i64 s]) ∧ Kp w w' := by
  go_enter Tryd.func80, Tryd.ntmps80
  go_wp2
  refine bodyPost_ret (results_cell_row (p := 2) rfl _ _ w.heap.size 74 _ (0, 0) _ rfl (MapKept.heap_alloc w (.cells #[.int .i64 3, .int .i64 0, .int .i64 s] 74)).1 Tryd.underlying74 rfl (by kernel_rfl)) rfl ?_; exact ⟨rfl, kp_alloc _ _⟩
end Go.Proofs.YtghjnhdepeiloaaDoor
