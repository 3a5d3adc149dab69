/- Parts of this proof (own work). -/
import Derived.Test.YtncoofnhifcnhaaGreatDoorZa10
set_option maxRecDepth 100000
set_option maxHeartbeats 40000000
namespace Go.Proofs.YtncoofnhifcnhaaGreatDoor
open Go.RowKit Go.ChangeShapes Go.WideShapes
theorem results_row_tmpT {P : Program} {fn : Func} {p u : Tmp} {ty : TypeId} (h : fn.results = #[.cell p ty, .tmp u]) (tmps : Array Value) (w : World) (g : Nat) (t : TypeId) (cs : Array Value) (fr : Nat × Nat) (d : TypeDesc)
  (hp : tmps.getD p undef = .pointer (some ⟨g, 0, none⟩)) (hg : w.heap[g]? = some (.cells cs t fr))
  (hu : P.underlying ty = some d) (hd : (match d with | .struct _ | .array _ _ => true | _ => false) = true) (hi : (P.info? ty).map (·.size) = some cs.size) :
  (results fn tmps).run P w = .ok (.tuple #[.agg cs, tmps.getD u undef]) w := by
 have hp' : tmps[p]?.getD undef = .pointer (some ⟨g, 0, none⟩) := by simpa using hp
 simp [results, h, hp', asAddr, run_loadVar_row w g t ty cs fr d hg hu hd hi]
theorem hasT_rng {p e s : Int} (h : hasT p e s = true) : s = 1 ∨ s = 2 ∨ s = 3 ∨ s = 4 ∨ s = 5 ∨ s = 6 ∨ s = 7 ∨ s = 8 ∨ s = 9 ∨ s = 10 ∨ s = 11 ∨ s = 12 ∨ s = 13 ∨ s = 14 := by
 unfold hasT at h
 split at h
 ·omega
 split at h
 ·omega
 ·have := of_decide_eq_true h; omega
theorem upT_rng {k : Int} (h : upT k = true) : k = 1 ∨ k = 3 ∨ k = 4 ∨ k = 5 ∨ k = 6 ∨ k = 7 ∨ k = 8 := by
 have := of_decide_eq_true h; omega
theorem downT_rng {p k : Int} (h : downT p k = true) : k = 2 ∨ k = 9 ∨ k = 10 ∨ k = 11 ∨ k = 12 ∨ k = 13 ∨ k = 14 := by
 have := of_decide_eq_true h; omega
theorem refGoes_any (p e k s : Int) (hp : p = 1 ∨ p = 2) (hk : upT k = true ∨ downT p k = true) (hs : s = 1 ∨ s = 2 ∨ s = 3 ∨ s = 4 ∨ s = 5 ∨ s = 6 ∨ s = 7 ∨ s = 8 ∨ s = 9 ∨ s = 10 ∨ s = 11 ∨ s = 12 ∨ s = 13 ∨ s = 14) (w : World) : Calls Tryz.prog 135 #[.int .i64 p, .int .i64 e, .int .i64 k, .int .i64 s] w fun e' w' => e' = .returned (.int .i64 (goesT p k s)) ∧ w = w' := by
 rcases hk with hk | hk
 ·rcases upT_rng hk with rfl | rfl | rfl | rfl | rfl | rfl | rfl
  ·exact refGoes_1 p e s hs w
  ·exact refGoes_3 p e s hp hs w
  ·exact refGoes_4 p e s hs w
  ·exact refGoes_5 p e s hs w
  ·exact refGoes_6 p e s hs w
  ·exact refGoes_7 p e s hs w
  ·exact refGoes_8 p e s hs w
 ·rcases downT_rng hk with rfl | rfl | rfl | rfl | rfl | rfl | rfl
  ·exact refGoes_2 p e s hs w
  ·exact refGoes_9 p e s hs w
  ·exact refGoes_10 p e s hs w
  ·exact refGoes_11 p e s hs w
  ·exact refGoes_12 p e s hs w
  ·exact refGoes_13 p e s hs w
  ·exact refGoes_14 p e s hs w
theorem refLook_right (p e k s : Int) (h : rightT p e = false) (w : World) : Calls Tryz.prog 85 #[.int .i64 p, .int .i64 e, .int .i64 k, .int .i64 s] w fun e' w' => e' = .returned (.tuple #[.agg (cellV (0, 0, 0)), (14:Int)]) ∧ Kp w w' := by
 by_cases h1 : p < 1
 ·(go_enter Tryz.func85, Tryz.ntmps85; go_wp2; refine bodyPost_ret (results_row_tmpT (p := 8) (u := 9) rfl _ _ w.heap.size 149 _ (0, 0) _ rfl (mH w (.cells #[(0:Int), (0:Int), (0:Int)] 149)) Tryz.underlying149 rfl (by kernel_rfl)) rfl ?_; exact ⟨rfl, kA _ _⟩)
 by_cases h2 : p > 2
 ·(go_enter Tryz.func85, Tryz.ntmps85; go_wp2; refine bodyPost_ret (results_row_tmpT (p := 8) (u := 9) rfl _ _ w.heap.size 149 _ (0, 0) _ rfl (mH w (.cells #[(0:Int), (0:Int), (0:Int)] 149)) Tryz.underlying149 rfl (by kernel_rfl)) rfl ?_; exact ⟨rfl, kA _ _⟩)
 by_cases h3 : e < 1
 ·(go_enter Tryz.func85, Tryz.ntmps85; go_wp2; refine bodyPost_ret (results_row_tmpT (p := 8) (u := 9) rfl _ _ w.heap.size 149 _ (0, 0) _ rfl (mH w (.cells #[(0:Int), (0:Int), (0:Int)] 149)) Tryz.underlying149 rfl (by kernel_rfl)) rfl ?_; exact ⟨rfl, kA _ _⟩)
 by_cases h4 : e > 2
 ·(go_enter Tryz.func85, Tryz.ntmps85; go_wp2; refine bodyPost_ret (results_row_tmpT (p := 8) (u := 9) rfl _ _ w.heap.size 149 _ (0, 0) _ rfl (mH w (.cells #[(0:Int), (0:Int), (0:Int)] 149)) Tryz.underlying149 rfl (by kernel_rfl)) rfl ?_; exact ⟨rfl, kA _ _⟩)
 ·exact absurd h (by rw [show rightT p e = true from dT (by omega)]; decide)
theorem rightT_rng {p e : Int} (h : rightT p e = true) : (p = 1 ∨ p = 2) ∧ (e = 1 ∨ e = 2) := of_decide_eq_true h
theorem refStep_right (p e k s : Int) (h : rightT p e = false) (w : World) : Calls Tryz.prog 90 #[.int .i64 p, .int .i64 e, .int .i64 k, .int .i64 s] w fun e' w' => e' = .returned (.tuple #[(0:Int), (14:Int)]) ∧ w = w' := by
 by_cases h1 : p < 1
 ·(go_enter Tryz.func90, Tryz.ntmps90; go_wp2; go_ret2; exact ⟨rfl, rfl⟩)
 by_cases h2 : p > 2
 ·(go_enter Tryz.func90, Tryz.ntmps90; go_wp2; go_ret2; exact ⟨rfl, rfl⟩)
 by_cases h3 : e < 1
 ·(go_enter Tryz.func90, Tryz.ntmps90; go_wp2; go_ret2; exact ⟨rfl, rfl⟩)
 by_cases h4 : e > 2
 ·(go_enter Tryz.func90, Tryz.ntmps90; go_wp2; go_ret2; exact ⟨rfl, rfl⟩)
 ·exact absurd h (by rw [show rightT p e = true from dT (by omega)]; decide)
theorem refStep_sends (p e k s : Int) (h : rightT p e = true) (h2 : sendsT p e k = false) (w : World) : Calls Tryz.prog 90 #[.int .i64 p, .int .i64 e, .int .i64 k, .int .i64 s] w fun e' w' => e' = .returned (.tuple #[(0:Int), (4:Int)]) ∧ w = w' := by
 have HT := fun w => refSends_any p e k w
 rw [h2] at HT; have HT := hD HT; clear h2; obtain ⟨rfl | rfl, rfl | rfl⟩ := rightT_rng h <;> (go_enter Tryz.func90, Tryz.ntmps90; go_wp2_with (first | (go_at_call 134; (with_reducible refine (HT.out _).mono ?_); rintro e' w' ⟨rfl, rfl⟩)); go_ret2; exact ⟨rfl, rfl⟩)
theorem refStep_has (p e k s : Int) (h : rightT p e = true) (h2 : sendsT p e k = true) (h3 : hasT p e s = false) (w : World) : Calls Tryz.prog 90 #[.int .i64 p, .int .i64 e, .int .i64 k, .int .i64 s] w fun e' w' => e' = .returned (.tuple #[(0:Int), (1:Int)]) ∧ w = w' := by
 have HT := fun w => refSends_any p e k w
 rw [h2] at HT; have HT := hD HT; have HH := fun w => refHas_any p e s w
 rw [h3] at HH; have HH := hD HH; clear h2 h3; obtain ⟨rfl | rfl, rfl | rfl⟩ := rightT_rng h <;> (go_enter Tryz.func90, Tryz.ntmps90; go_wp2_with (first | (go_at_call 134; (with_reducible refine (HT.out _).mono ?_); rintro e' w' ⟨rfl, rfl⟩) | (go_at_call 122; (with_reducible refine (HH.out _).mono ?_); rintro e' w' ⟨rfl, rfl⟩)); go_ret2; exact ⟨rfl, rfl⟩)
theorem sendsT_or {p e k : Int} (h : sendsT p e k = true) : upT k = true ∨ downT p k = true := by
 unfold sendsT at h
 split at h
 ·exact .inl h
 ·exact .inr h
theorem refStep_none (p e k s : Int) (h : rightT p e = true) (h2 : sendsT p e k = true) (h3 : hasT p e s = true) (h4 : goesT p k s = 0) (w : World) : Calls Tryz.prog 90 #[.int .i64 p, .int .i64 e, .int .i64 k, .int .i64 s] w fun e' w' => e' = .returned (.tuple #[(0:Int), (9:Int)]) ∧ w = w' := by
 have HT := fun w => refSends_any p e k w
 rw [h2] at HT; have HT := hD HT; have HH := fun w => refHas_any p e s w
 rw [h3] at HH; have HH := hD HH; have HG := fun w => refGoes_any p e k s (rightT_rng h).1 (sendsT_or h2) (hasT_rng h3) w
 rw [h4] at HG; have HG := hD HG; clear h2 h3 h4; obtain ⟨rfl | rfl, rfl | rfl⟩ := rightT_rng h <;> (go_enter Tryz.func90, Tryz.ntmps90; go_wp2_with (first | (go_at_call 134; (with_reducible refine (HT.out _).mono ?_); rintro e' w' ⟨rfl, rfl⟩) | (go_at_call 122; (with_reducible refine (HH.out _).mono ?_); rintro e' w' ⟨rfl, rfl⟩) | (go_at_call 135; (with_reducible refine (HG.out _).mono ?_); rintro e' w' ⟨rfl, rfl⟩)); go_ret2; exact ⟨rfl, rfl⟩)
theorem refStep_ok (p e k s : Int) (h : rightT p e = true) (h2 : sendsT p e k = true) (h3 : hasT p e s = true) (n : Int) (hn : goesT p k s = n) (h4 : (n == 0) = false) (w : World) : Calls Tryz.prog 90 #[.int .i64 p, .int .i64 e, .int .i64 k, .int .i64 s] w fun e' w' => e' = .returned (.tuple #[n, (0:Int)]) ∧ w = w' := by
 have HT := fun w => refSends_any p e k w
 rw [h2] at HT; have HT := hD HT; have HH := fun w => refHas_any p e s w
 rw [h3] at HH; have HH := hD HH; have HG := fun w => refGoes_any p e k s (rightT_rng h).1 (sendsT_or h2) (hasT_rng h3) w
 rw [hn] at HG; have HG := hD HG; clear h2 h3 hn; obtain ⟨rfl | rfl, rfl | rfl⟩ := rightT_rng h <;> (go_enter Tryz.func90, Tryz.ntmps90; go_wp2_with (first | (go_at_call 134; (with_reducible refine (HT.out _).mono ?_); rintro e' w' ⟨rfl, rfl⟩) | (go_at_call 122; (with_reducible refine (HH.out _).mono ?_); rintro e' w' ⟨rfl, rfl⟩) | (go_at_call 135; (with_reducible refine (HG.out _).mono ?_); rintro e' w' ⟨rfl, rfl⟩)); go_ret2; exact ⟨rfl, rfl⟩)
theorem refStep_any (p e k s : Int) (w : World) : Calls Tryz.prog 90 #[.int .i64 p, .int .i64 e, .int .i64 k, .int .i64 s] w fun e' w' => e' = .returned (.tuple #[.int .i64 (stepT p e k s).2, .int .i64 (stepT p e k s).1]) ∧ w = w' := by
 unfold stepT
 cases h : rightT p e with
 | false => rw [if_pos rfl]; exact refStep_right p e k s h w
 | true =>
  rw [if_neg (by decide)]
  cases h2 : sendsT p e k with
  | false => rw [if_pos rfl]; exact refStep_sends p e k s h h2 w
  | true =>
   rw [if_neg (by decide)]
   cases h3 : hasT p e s with
   | false => rw [if_pos rfl]; exact refStep_has p e k s h h2 h3 w
   | true =>
    rw [if_neg (by decide)]
    by_cases h4 : goesT p k s = 0
    ·rw [if_pos h4]; exact refStep_none p e k s h h2 h3 h4 w
    ·rw [if_neg h4]; exact refStep_ok p e k s h h2 h3 _ rfl (by simpa using h4) w
end Go.Proofs.YtncoofnhifcnhaaGreatDoor
