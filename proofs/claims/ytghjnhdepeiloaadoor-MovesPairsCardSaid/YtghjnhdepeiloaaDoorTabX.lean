/-
  PACKAGE tables (own work): Look, Step, Waits; what package tables must answer is answered.
-/
import Derived.Test.YtghjnhdepeiloaaDoorTabC
import Derived.Test.YtghjnhdepeiloaaDoorLaidE
import Derived.Test.YtghjnhdepeiloaaDoorTbF
import Derived.Test.YtghjnhdepeiloaaDoorTbB
import Derived.Test.YtghjnhdepeiloaaDoorTbG
import Derived.Test.YtghjnhdepeiloaaDoorTbC
import Derived.Test.YtghjnhdepeiloaaDoorTbH
import Derived.Test.YtghjnhdepeiloaaDoorTbD
namespace Go.Proofs.YtghjnhdepeiloaaDoor
open Go.RowKit Go.ChangeShapes Go.WideShapes

theorem coordTold_any (p k s : Int) (hp : p = 1 ∨ p = 2) (hk : upT k = true) (hs : s = 1 ∨ s = 2 ∨ s = 3 ∨ s = 4 ∨ s = 5 ∨ s = 6 ∨ s = 7 ∨ s = 8 ∨ s = 9 ∨ s = 10 ∨ s = 11 ∨ s = 12 ∨ s = 13 ∨ s = 14) (w : World) : Calls Tryd.prog 58 #[.int .i64 p, .int .i64 k, .int .i64 s] w fun e' w' => e' = .returned (.agg (cellV (coordT p k s))) ∧ Kp w w' := by
  rcases upT_rng hk with rfl | rfl | rfl | rfl | rfl | rfl | rfl
  · exact tcoord_1 p s hs w
  · rcases hp with rfl | rfl
    · exact tcoord_3_1 s hs w
    · exact tcoord_3_2 s hs w
  · exact tcoord_4 p s hs w
  · exact tcoord_5 p s hs w
  · exact tcoord_6 p s hs w
  · exact tcoord_7 p s hs w
  · exact tcoord_8 p s hs w
theorem hasT_pc {p e s : Int} (h : hasT p e s = true) : ¬ (p = 1 ∧ s = 4) := by
  rintro ⟨rfl, rfl⟩
  unfold hasT at h
  rw [if_pos (.inl rfl)] at h
  exact absurd h (by decide)
theorem hasT_rng2 {p s : Int} (h : hasT p 2 s = true) : s = 1 ∨ s = 2 ∨ s = 4 ∨ s = 5 ∨ s = 6 ∨ s = 7 ∨ s = 8 ∨ s = 9 ∨ s = 10 ∨ s = 11 ∨ s = 12 ∨ s = 13 ∨ s = 14 := by
  have h1 := hasT_rng h
  have h3 : ¬ s = 3 := by
    rintro rfl
    unfold hasT at h
    rw [if_neg (by decide), if_pos rfl] at h
    have := of_decide_eq_true h
    omega
  omega
theorem partTold_any (p k s : Int) (hk : downT p k = true) (hs : s = 1 ∨ s = 2 ∨ s = 4 ∨ s = 5 ∨ s = 6 ∨ s = 7 ∨ s = 8 ∨ s = 9 ∨ s = 10 ∨ s = 11 ∨ s = 12 ∨ s = 13 ∨ s = 14) (w : World) : Calls Tryd.prog 59 #[.int .i64 k, .int .i64 s] w fun e' w' => e' = .returned (.agg (cellV (partT k s))) ∧ Kp w w' := by
  rcases downT_rng hk with rfl | rfl | rfl | rfl | rfl | rfl | rfl
  · exact tpart_2 s hs w
  · exact tpart_9 s hs w
  · exact tpart_10 s hs w
  · exact tpart_11 s hs w
  · exact tpart_12 s hs w
  · exact tpart_13 s hs w
  · exact tpart_14 s hs w
theorem done_any (p k s : Int) (hp : p = 1 ∨ p = 2) (hn : ¬ (p = 1 ∧ s = 4)) (hk : upT k = true ∨ downT p k = true) (hs : s = 1 ∨ s = 2 ∨ s = 3 ∨ s = 4 ∨ s = 5 ∨ s = 6 ∨ s = 7 ∨ s = 8 ∨ s = 9 ∨ s = 10 ∨ s = 11 ∨ s = 12 ∨ s = 13 ∨ s = 14) (w : World) : Calls Tryd.prog 65 #[.int .i64 p, .int .i64 k, .int .i64 s] w fun e' w' => e' = .returned (.int .i64 (goesT p k s)) ∧ w = w' := by
  rcases hk with hk | hk
  · rcases upT_rng hk with rfl | rfl | rfl | rfl | rfl | rfl | rfl
    · exact tdone_1 p s hs w
    · rcases hp with rfl | rfl
      · exact tdone_3_1 s (by omega) w
      · exact tdone_3_2 s hs w
    · exact tdone_4 p s hs w
    · exact tdone_5 p s hs w
    · exact tdone_6 p s hs w
    · exact tdone_7 p s hs w
    · exact tdone_8 p s hs w
  · rcases downT_rng hk with rfl | rfl | rfl | rfl | rfl | rfl | rfl
    · exact tdone_2 p s hs w
    · exact tdone_9 p s hs w
    · exact tdone_10 p s hs w
    · exact tdone_11 p s hs w
    · exact tdone_12 p s hs w
    · exact tdone_13 p s hs w
    · exact tdone_14 p s hs w
theorem waits_any (e s : Int) (he : e = 1 ∨ e = 2) (hs : s = 1 ∨ s = 2 ∨ s = 3 ∨ s = 4 ∨ s = 5 ∨ s = 6 ∨ s = 7 ∨ s = 8 ∨ s = 9 ∨ s = 10 ∨ s = 11 ∨ s = 12 ∨ s = 13 ∨ s = 14) (w : World) : Calls Tryd.prog 71 #[.int .i64 e, .int .i64 s] w fun e' w' => e' = .returned (.int .i64 (waitT e s)) ∧ w = w' := by
  rcases he with rfl | rfl
  · exact twaits_1 s hs w
  · exact twaits_2 s hs w
set_option maxRecDepth 100000 in
theorem look_ok1 (p k s : Int) (h : rightT p 1 = true) (h2 : takesT p 1 k = true) (h3 : hasT p 1 s = true) (w : World) : Calls Tryd.prog 32 #[.int .i64 p, .int .i64 1, .int .i64 k, .int .i64 s] w fun e' w' => e' = .returned (.tuple #[.agg (cellV (cellT p 1 k s)), .nilIface]) ∧ Kp w w' := by
  have hs := hasT_rng h3
  have hp := (rightT_rng h).1
  have HC := fun w => coordTold_any p k s hp h2 hs w
  have HK := Lib.hid (fun w => h ▸ known_any p 1 w)
  have HT := Lib.hid (fun w => h2 ▸ takes_any p 1 k w)
  have HH := Lib.hid (fun w => h3 ▸ has_any p 1 s w)
  rw [show cellT p 1 k s = coordT p k s from rfl]
  obtain ⟨⟨c0, c1, c2⟩, hm⟩ : ∃ y, coordT p k s = y := ⟨_, rfl⟩
  rw [hm] at HC ⊢
  dsimp only [cellV] at HC ⊢
  have HC := Lib.hid HC
  have K1 := Lib.hid (kp_alloc w (.cells #[.int .i64 0, .int .i64 0, .int .i64 0] 70))
  have HZ := Lib.hid (MapKept.heap_alloc w (.cells #[.int .i64 0, .int .i64 0, .int .i64 0] 70)).1
  obtain ⟨z0, z1, z2⟩ := cells3 HZ.out
  have fz := froz3 HZ.out
  clear h h2 h3 hs hm hp
  go_enter Tryd.func32, Tryd.ntmps32
  go_wp2_with (first | (go_at_call 55; (with_reducible refine (HK.out _).mono ?_); rintro e' w' ⟨rfl, rfl⟩) | (go_at_call 56; (with_reducible refine (HT.out _).mono ?_); rintro e' w' ⟨rfl, rfl⟩) | (go_at_call 57; (with_reducible refine (HH.out _).mono ?_); rintro e' w' ⟨rfl, rfl⟩) | (go_at_call 58; (with_reducible refine (HC.out _).mono ?_); rintro e' w2 ⟨rfl, hk⟩; have K2 := Lib.hid (Kp.trans K1.out hk); have R2 := Lib.hid (kp_row hk HZ.out); obtain ⟨y0, y1, y2⟩ := cells3 R2.out; have fy := froz3 R2.out; clear hk))
  refine bodyPost_ret (results_row_tmpT (p := 8) (u := 9) rfl _ _ w.heap.size 70 _ (0, 0) _ rfl (set3 (.int .i64 c0) (.int .i64 c1) (.int .i64 c2) R2.out) Tryd.underlying70 rfl (by kernel_rfl)) rfl ?_; exact ⟨rfl, set3_kp K2.out (Nat.le_refl _) _ _ _⟩
set_option maxRecDepth 100000 in
theorem look_ok2 (p k s : Int) (h : rightT p 2 = true) (h2 : takesT p 2 k = true) (h3 : hasT p 2 s = true) (w : World) : Calls Tryd.prog 32 #[.int .i64 p, .int .i64 2, .int .i64 k, .int .i64 s] w fun e' w' => e' = .returned (.tuple #[.agg (cellV (cellT p 2 k s)), .nilIface]) ∧ Kp w w' := by
  have hs := hasT_rng2 h3

  have HC := fun w => partTold_any p k s h2 hs w
  have HK := Lib.hid (fun w => h ▸ known_any p 2 w)
  have HT := Lib.hid (fun w => h2 ▸ takes_any p 2 k w)
  have HH := Lib.hid (fun w => h3 ▸ has_any p 2 s w)
  rw [show cellT p 2 k s = partT k s from rfl]
  obtain ⟨⟨c0, c1, c2⟩, hm⟩ : ∃ y, partT k s = y := ⟨_, rfl⟩
  rw [hm] at HC ⊢
  dsimp only [cellV] at HC ⊢
  have HC := Lib.hid HC
  have K1 := Lib.hid (kp_alloc w (.cells #[.int .i64 0, .int .i64 0, .int .i64 0] 70))
  have HZ := Lib.hid (MapKept.heap_alloc w (.cells #[.int .i64 0, .int .i64 0, .int .i64 0] 70)).1
  obtain ⟨z0, z1, z2⟩ := cells3 HZ.out
  have fz := froz3 HZ.out
  clear h h2 h3 hs hm
  go_enter Tryd.func32, Tryd.ntmps32
  go_wp2_with (first | (go_at_call 55; (with_reducible refine (HK.out _).mono ?_); rintro e' w' ⟨rfl, rfl⟩) | (go_at_call 56; (with_reducible refine (HT.out _).mono ?_); rintro e' w' ⟨rfl, rfl⟩) | (go_at_call 57; (with_reducible refine (HH.out _).mono ?_); rintro e' w' ⟨rfl, rfl⟩) | (go_at_call 59; (with_reducible refine (HC.out _).mono ?_); rintro e' w2 ⟨rfl, hk⟩; have K2 := Lib.hid (Kp.trans K1.out hk); have R2 := Lib.hid (kp_row hk HZ.out); obtain ⟨y0, y1, y2⟩ := cells3 R2.out; have fy := froz3 R2.out; clear hk))
  refine bodyPost_ret (results_row_tmpT (p := 8) (u := 9) rfl _ _ w.heap.size 70 _ (0, 0) _ rfl (set3 (.int .i64 c0) (.int .i64 c1) (.int .i64 c2) R2.out) Tryd.underlying70 rfl (by kernel_rfl)) rfl ?_; exact ⟨rfl, set3_kp K2.out (Nat.le_refl _) _ _ _⟩
theorem look_any (ads : List Addr) (p e k s : Int) (w : World) (E : EP [0, 3, 13] ads w) : Calls Tryd.prog 32 #[.int .i64 p, .int .i64 e, .int .i64 k, .int .i64 s] w fun e' w' => e' = .returned (.tuple #[.agg (cellV (lookT p e k s).2), errI ads (lookT p e k s).1]) ∧ Kp w w' := by
  have c1 : w.cell? ⟨1, 0, none⟩ = some (errI ads 1) := E.cell 0 (by decide)
  have c4 : w.cell? ⟨0, 0, none⟩ = some (errI ads 4) := E.cell 3 (by decide)
  have c14 : w.cell? ⟨13, 0, none⟩ = some (errI ads 14) := E.cell 13 (by decide)
  unfold lookT
  cases h : rightT p e with
  | false => rw [if_pos rfl]; exact look_known ads p e k s h w c14
  | true =>
    rw [if_neg (by decide)]
    cases h2 : takesT p e k with
    | false => rw [if_pos rfl]; exact look_takes ads p e k s h h2 w c4
    | true =>
      rw [if_neg (by decide)]
      cases h3 : hasT p e s with
      | false => rw [if_pos rfl]; exact look_has ads p e k s h h2 h3 w c1
      | true =>
        rw [if_neg (by decide)]
        dsimp only
        rw [errI_nil]
        rcases (rightT_rng h).2 with rfl | rfl
        · exact look_ok1 p k s h h2 h3 w
        · exact look_ok2 p k s h h2 h3 w
set_option maxRecDepth 100000 in
theorem step_none (ads : List Addr) (p e k s : Int) (h : rightT p e = true) (h2 : sendsT p e k = true) (h3 : hasT p e s = true) (h4 : goesT p k s = 0) (w : World) (ce : w.cell? ⟨8, 0, none⟩ = some (errI ads 9)) : Calls Tryd.prog 36 #[.int .i64 p, .int .i64 e, .int .i64 k, .int .i64 s] w fun e' w' => e' = .returned (.tuple #[.int .i64 0, errI ads 9]) ∧ Kp w w' := by
  have HK := Lib.hid (fun w => h ▸ known_any p e w)
  have HT := Lib.hid (fun w => h2 ▸ sends_any p e k (rightT_rng h).2 w)
  have HH := Lib.hid (fun w => h3 ▸ has_any p e s w)
  have HD := fun w => done_any p k s (rightT_rng h).1 (hasT_pc h3) (sendsT_or h2) (hasT_rng h3) w
  rw [h4] at HD
  have HD := Lib.hid HD
  obtain ⟨q, hq⟩ : ∃ x, errI ads 9 = x := ⟨_, rfl⟩
  rw [hq] at ce ⊢
  clear hq h h2 h3 h4
  go_enter Tryd.func36, Tryd.ntmps36
  go_wp2_with (first | (go_at_call 55; (with_reducible refine (HK.out _).mono ?_); rintro e' w' ⟨rfl, rfl⟩) | (go_at_call 64; (with_reducible refine (HT.out _).mono ?_); rintro e' w' ⟨rfl, rfl⟩) | (go_at_call 57; (with_reducible refine (HH.out _).mono ?_); rintro e' w' ⟨rfl, rfl⟩) | (go_at_call 65; (with_reducible refine (HD.out _).mono ?_); rintro e' w' ⟨rfl, rfl⟩))
  go_quiet (fail)
  go_wp2
  go_ret2
  exact ⟨rfl, kp_drewT (Kp.refl _) _⟩
set_option maxRecDepth 100000 in
theorem step_ok (p e k s n : Int) (h : rightT p e = true) (h2 : sendsT p e k = true) (h3 : hasT p e s = true) (hn : goesT p k s = n) (h4 : (n == 0) = false) (w : World) : Calls Tryd.prog 36 #[.int .i64 p, .int .i64 e, .int .i64 k, .int .i64 s] w fun e' w' => e' = .returned (.tuple #[.int .i64 n, .nilIface]) ∧ Kp w w' := by
  have HK := Lib.hid (fun w => h ▸ known_any p e w)
  have HT := Lib.hid (fun w => h2 ▸ sends_any p e k (rightT_rng h).2 w)
  have HH := Lib.hid (fun w => h3 ▸ has_any p e s w)
  have HD := fun w => done_any p k s (rightT_rng h).1 (hasT_pc h3) (sendsT_or h2) (hasT_rng h3) w
  rw [hn] at HD
  have HD := Lib.hid HD
  clear h h2 h3 hn
  go_enter Tryd.func36, Tryd.ntmps36
  go_wp2_with (first | (go_at_call 55; (with_reducible refine (HK.out _).mono ?_); rintro e' w' ⟨rfl, rfl⟩) | (go_at_call 64; (with_reducible refine (HT.out _).mono ?_); rintro e' w' ⟨rfl, rfl⟩) | (go_at_call 57; (with_reducible refine (HH.out _).mono ?_); rintro e' w' ⟨rfl, rfl⟩) | (go_at_call 65; (with_reducible refine (HD.out _).mono ?_); rintro e' w' ⟨rfl, rfl⟩))
  go_ret2
  exact ⟨rfl, Kp.refl _⟩
theorem step_any (ads : List Addr) (p e k s : Int) (w : World) (E : EP [0, 3, 8, 13] ads w) : Calls Tryd.prog 36 #[.int .i64 p, .int .i64 e, .int .i64 k, .int .i64 s] w fun e' w' => e' = .returned (.tuple #[.int .i64 (stepT p e k s).2, errI ads (stepT p e k s).1]) ∧ Kp w w' := by
  have c1 : w.cell? ⟨1, 0, none⟩ = some (errI ads 1) := E.cell 0 (by decide)
  have c4 : w.cell? ⟨0, 0, none⟩ = some (errI ads 4) := E.cell 3 (by decide)
  have c9 : w.cell? ⟨8, 0, none⟩ = some (errI ads 9) := E.cell 8 (by decide)
  have c14 : w.cell? ⟨13, 0, none⟩ = some (errI ads 14) := E.cell 13 (by decide)
  unfold stepT
  cases h : rightT p e with
  | false => rw [if_pos rfl]; exact step_known ads p e k s h w c14
  | true =>
    rw [if_neg (by decide)]
    cases h2 : sendsT p e k with
    | false => rw [if_pos rfl]; exact step_sends ads p e k s h h2 w c4
    | true =>
      rw [if_neg (by decide)]
      cases h3 : hasT p e s with
      | false => rw [if_pos rfl]; exact step_has ads p e k s h h2 h3 w c1
      | true =>
        rw [if_neg (by decide)]
        by_cases h4 : goesT p k s = 0
        · rw [if_pos h4]; exact step_none ads p e k s h h2 h3 h4 w c9
        · rw [if_neg h4]
          dsimp only
          rw [errI_nil]
          exact step_ok p e k s _ h h2 h3 rfl (by simpa using h4) w
theorem wt_ok (p e s : Int) (h : rightT p e = true) (h3 : hasT p e s = true) (w : World) : Calls Tryd.prog 40 #[.int .i64 p, .int .i64 e, .int .i64 s] w fun e' w' => e' = .returned (.tuple #[.int .i64 (waitT e s), .nilIface]) ∧ Kp w w' := by
  have HK := Lib.hid (fun w => h ▸ known_any p e w)
  have HH := Lib.hid (fun w => h3 ▸ has_any p e s w)
  have HW := Lib.hid (fun w => waits_any e s (rightT_rng h).2 (hasT_rng h3) w)
  clear h h3
  go_enter Tryd.func40, Tryd.ntmps40
  go_wp2_with (first | (go_at_call 55; (with_reducible refine (HK.out _).mono ?_); rintro e' w' ⟨rfl, rfl⟩) | (go_at_call 57; (with_reducible refine (HH.out _).mono ?_); rintro e' w' ⟨rfl, rfl⟩) | (go_at_call 71; (with_reducible refine (HW.out _).mono ?_); rintro e' w' ⟨rfl, rfl⟩))
  go_ret2
  exact ⟨rfl, Kp.refl _⟩
theorem waitsT_any (ads : List Addr) (p e s : Int) (w : World) (E : EP [0, 3, 13] ads w) : Calls Tryd.prog 40 #[.int .i64 p, .int .i64 e, .int .i64 s] w fun e' w' => e' = .returned (.tuple #[.int .i64 (waitsT p e s).2, errI ads (waitsT p e s).1]) ∧ Kp w w' := by
  have c1 : w.cell? ⟨1, 0, none⟩ = some (errI ads 1) := E.cell 0 (by decide)
  have c14 : w.cell? ⟨13, 0, none⟩ = some (errI ads 14) := E.cell 13 (by decide)
  unfold waitsT
  cases h : rightT p e with
  | false => rw [if_pos rfl]; exact wt_known ads p e s h w c14
  | true =>
    rw [if_neg (by decide)]
    cases h3 : hasT p e s with
    | false => rw [if_pos rfl]; exact wt_has ads p e s h h3 w c1
    | true =>
      rw [if_neg (by decide)]
      dsimp only
      rw [errI_nil]
      exact wt_ok p e s h h3 w
/-- WHAT PACKAGE tables MUST ANSWER IS ANSWERED -/
theorem tabC_of (ads : List Addr) (W : World) (E : EP [0, 3, 13] ads W) : TabC ads W where
  look := fun w1 hk p e k s _ _ _ _ => look_any ads p e k s w1 (E.kp hk)
  waits := fun w1 hk p e s _ _ _ => waitsT_any ads p e s w1 (E.kp hk)
theorem tabS_of (ads : List Addr) (W : World) (E : EP [0, 3, 8, 13] ads W) : TabS ads W where
  step := fun w1 hk p e k s _ _ _ _ => step_any ads p e k s w1 (E.kp hk)
end Go.Proofs.YtghjnhdepeiloaaDoor
