/- Parts of this proof (own work). -/
import Derived.Test.YtlmlmhmhgdjhnaaGreatDoorZa17
import Derived.Test.YtlmlmhmhgdjhnaaGreatDoorZa15
set_option maxRecDepth 100000
set_option maxHeartbeats 40000000
namespace Go.Proofs.YtlmlmhmhgdjhnaaGreatDoor
open Go.RowKit Go.ChangeShapes Go.WideShapes
theorem coordTold_any (p k s : Int) (hp : p = 1 ∨ p = 2) (hk : upT k = true) (hs : s = 1 ∨ s = 2 ∨ s = 3 ∨ s = 4 ∨ s = 5 ∨ s = 6 ∨ s = 7 ∨ s = 8 ∨ s = 9 ∨ s = 10 ∨ s = 11 ∨ s = 12 ∨ s = 13 ∨ s = 14) (w : World) : Calls Tryz.prog 196 #[.int .i64 p, .int .i64 k, .int .i64 s] w fun e' w' => e' = .returned (.agg (cellV (coordT p k s))) ∧ Kp w w' := by
 rcases upT_rng hk with rfl | rfl | rfl | rfl | rfl | rfl | rfl
 ·exact tcoord_1 p s hs w
 ·rcases hp with rfl | rfl
  ·exact tcoord_3_1 s hs w
  ·exact tcoord_3_2 s hs w
 ·exact tcoord_4 p s hs w
 ·exact tcoord_5 p s hs w
 ·exact tcoord_6 p s hs w
 ·exact tcoord_7 p s hs w
 ·exact tcoord_8 p s hs w
theorem hasT_pc {p e s : Int} (h : hasT p e s = true) : ¬ (p = 1 ∧ s = 4) := by
 rintro ⟨rfl, rfl⟩; unfold hasT at h; rw [if_pos (.inl rfl)] at h; exact absurd h (by decide)
theorem hasT_rng2 {p s : Int} (h : hasT p 2 s = true) : s = 1 ∨ s = 2 ∨ s = 4 ∨ s = 5 ∨ s = 6 ∨ s = 7 ∨ s = 8 ∨ s = 9 ∨ s = 10 ∨ s = 11 ∨ s = 12 ∨ s = 13 ∨ s = 14 := by
 have h1 := hasT_rng h; have h3 : ¬ s = 3 := by
  rintro rfl; unfold hasT at h; rw [if_neg (by decide), if_pos rfl] at h; have := of_decide_eq_true h; omega
 omega
theorem partTold_any (p k s : Int) (hk : downT p k = true) (hs : s = 1 ∨ s = 2 ∨ s = 4 ∨ s = 5 ∨ s = 6 ∨ s = 7 ∨ s = 8 ∨ s = 9 ∨ s = 10 ∨ s = 11 ∨ s = 12 ∨ s = 13 ∨ s = 14) (w : World) : Calls Tryz.prog 197 #[.int .i64 k, .int .i64 s] w fun e' w' => e' = .returned (.agg (cellV (prtT k s))) ∧ Kp w w' := by
 rcases downT_rng hk with rfl | rfl | rfl | rfl | rfl | rfl | rfl
 ·exact tpart_2 s hs w
 ·exact tpart_9 s hs w
 ·exact tpart_10 s hs w
 ·exact tpart_11 s hs w
 ·exact tpart_12 s hs w
 ·exact tpart_13 s hs w
 ·exact tpart_14 s hs w
theorem done_any (p k s : Int) (hp : p = 1 ∨ p = 2) (hn : ¬ (p = 1 ∧ s = 4)) (hk : upT k = true ∨ downT p k = true) (hs : s = 1 ∨ s = 2 ∨ s = 3 ∨ s = 4 ∨ s = 5 ∨ s = 6 ∨ s = 7 ∨ s = 8 ∨ s = 9 ∨ s = 10 ∨ s = 11 ∨ s = 12 ∨ s = 13 ∨ s = 14) (w : World) : Calls Tryz.prog 163 #[.int .i64 p, .int .i64 k, .int .i64 s] w fun e' w' => e' = .returned (.int .i64 (goesT p k s)) ∧ w = w' := by
 rcases hk with hk | hk
 ·rcases upT_rng hk with rfl | rfl | rfl | rfl | rfl | rfl | rfl
  ·exact tdone_1 p s hs w
  ·rcases hp with rfl | rfl
   ·exact tdone_3_1 s (by omega) w
   ·exact tdone_3_2 s hs w
  ·exact tdone_4 p s hs w
  ·exact tdone_5 p s hs w
  ·exact tdone_6 p s hs w
  ·exact tdone_7 p s hs w
  ·exact tdone_8 p s hs w
 ·rcases downT_rng hk with rfl | rfl | rfl | rfl | rfl | rfl | rfl
  ·exact tdone_2 p s hs w
  ·exact tdone_9 p s hs w
  ·exact tdone_10 p s hs w
  ·exact tdone_11 p s hs w
  ·exact tdone_12 p s hs w
  ·exact tdone_13 p s hs w
  ·exact tdone_14 p s hs w
theorem waits_any (e s : Int) (he : e = 1 ∨ e = 2) (hs : s = 1 ∨ s = 2 ∨ s = 3 ∨ s = 4 ∨ s = 5 ∨ s = 6 ∨ s = 7 ∨ s = 8 ∨ s = 9 ∨ s = 10 ∨ s = 11 ∨ s = 12 ∨ s = 13 ∨ s = 14) (w : World) : Calls Tryz.prog 140 #[.int .i64 e, .int .i64 s] w fun e' w' => e' = .returned (.int .i64 (waitT e s)) ∧ w = w' := by
 rcases he with rfl | rfl
 ·exact twaits_1 s hs w
 ·exact twaits_2 s hs w
theorem look_ok1 (p k s : Int) (h : rightT p 1 = true) (h2 : takesT p 1 k = true) (h3 : hasT p 1 s = true) (w : World) : Calls Tryz.prog 172 #[.int .i64 p, .int .i64 1, .int .i64 k, .int .i64 s] w fun e' w' => e' = .returned (.tuple #[.agg (cellV (cellT p 1 k s)), .nilIface]) ∧ Kp w w' := by
 have hs := hasT_rng h3; have hp := (rightT_rng h).1; have HC := fun w => coordTold_any p k s hp h2 hs w
 have HK := hD (fun w => h ▸ known_any p 1 w); have HT := hD (fun w => h2 ▸ takes_any p 1 k w); have HH := hD (fun w => h3 ▸ has_any p 1 s w); rw [show cellT p 1 k s = coordT p k s from rfl]; obtain ⟨⟨c0, c1, c2⟩, hm⟩ : ∃ y, coordT p k s = y := ⟨_, rfl⟩
 rw [hm] at HC ⊢; dsimp only [cellV] at HC ⊢; have HC := hD HC; have K1 := hD (kA w (.cells #[(0:Int), (0:Int), (0:Int)] 238)); have HZ := hD (mH w (.cells #[(0:Int), (0:Int), (0:Int)] 238)); obtain ⟨z0, z1, z2⟩ := cells3 HZ.out; have fz := froz3 HZ.out; clear h h2 h3 hs hm hp; go_enter Tryz.func172, Tryz.ntmps172; go_wp2_with (first | (go_at_call 138; (with_reducible refine (HK.out _).mono ?_); rintro e' w' ⟨rfl, rfl⟩) | (go_at_call 195; (with_reducible refine (HT.out _).mono ?_); rintro e' w' ⟨rfl, rfl⟩) | (go_at_call 139; (with_reducible refine (HH.out _).mono ?_); rintro e' w' ⟨rfl, rfl⟩) | (go_at_call 196; (with_reducible refine (HC.out _).mono ?_); rintro e' w2 ⟨rfl, hk⟩; have K2 := hD (kT K1.out hk); have R2 := hD (rZ hk HZ.out); obtain ⟨y0, y1, y2⟩ := cells3 R2.out; have fy := froz3 R2.out; clear hk))
 refine bodyPost_ret (results_row_tmpT (p := 8) (u := 9) rfl _ _ w.heap.size 238 _ (0, 0) _ rfl (set3 (.int .i64 c0) (.int .i64 c1) (.int .i64 c2) R2.out) Tryz.underlying238 rfl (by kernel_rfl)) rfl ?_; exact ⟨rfl, set3_kp K2.out (Nat.le_refl _) _ _ _⟩
theorem look_ok2 (p k s : Int) (h : rightT p 2 = true) (h2 : takesT p 2 k = true) (h3 : hasT p 2 s = true) (w : World) : Calls Tryz.prog 172 #[.int .i64 p, .int .i64 2, .int .i64 k, .int .i64 s] w fun e' w' => e' = .returned (.tuple #[.agg (cellV (cellT p 2 k s)), .nilIface]) ∧ Kp w w' := by
 have hs := hasT_rng2 h3; have HC := fun w => partTold_any p k s h2 hs w
 have HK := hD (fun w => h ▸ known_any p 2 w); have HT := hD (fun w => h2 ▸ takes_any p 2 k w); have HH := hD (fun w => h3 ▸ has_any p 2 s w); rw [show cellT p 2 k s = prtT k s from rfl]; obtain ⟨⟨c0, c1, c2⟩, hm⟩ : ∃ y, prtT k s = y := ⟨_, rfl⟩
 rw [hm] at HC ⊢; dsimp only [cellV] at HC ⊢; have HC := hD HC; have K1 := hD (kA w (.cells #[(0:Int), (0:Int), (0:Int)] 238)); have HZ := hD (mH w (.cells #[(0:Int), (0:Int), (0:Int)] 238)); obtain ⟨z0, z1, z2⟩ := cells3 HZ.out; have fz := froz3 HZ.out; clear h h2 h3 hs hm; go_enter Tryz.func172, Tryz.ntmps172; go_wp2_with (first | (go_at_call 138; (with_reducible refine (HK.out _).mono ?_); rintro e' w' ⟨rfl, rfl⟩) | (go_at_call 195; (with_reducible refine (HT.out _).mono ?_); rintro e' w' ⟨rfl, rfl⟩) | (go_at_call 139; (with_reducible refine (HH.out _).mono ?_); rintro e' w' ⟨rfl, rfl⟩) | (go_at_call 197; (with_reducible refine (HC.out _).mono ?_); rintro e' w2 ⟨rfl, hk⟩; have K2 := hD (kT K1.out hk); have R2 := hD (rZ hk HZ.out); obtain ⟨y0, y1, y2⟩ := cells3 R2.out; have fy := froz3 R2.out; clear hk))
 refine bodyPost_ret (results_row_tmpT (p := 8) (u := 9) rfl _ _ w.heap.size 238 _ (0, 0) _ rfl (set3 (.int .i64 c0) (.int .i64 c1) (.int .i64 c2) R2.out) Tryz.underlying238 rfl (by kernel_rfl)) rfl ?_; exact ⟨rfl, set3_kp K2.out (Nat.le_refl _) _ _ _⟩
theorem look_any (ads : List Addr) (p e k s : Int) (w : World) (E : EP [0, 3, 13] ads w) : Calls Tryz.prog 172 #[.int .i64 p, .int .i64 e, .int .i64 k, .int .i64 s] w fun e' w' => e' = .returned (.tuple #[.agg (cellV (lookT p e k s).2), errI ads (lookT p e k s).1]) ∧ Kp w w' := by
 have c1 : w.cell? ⟨0, 0, none⟩ = some (errI ads 1) := E.cell 0 (by decide); have c4 : w.cell? ⟨3, 0, none⟩ = some (errI ads 4) := E.cell 3 (by decide); have c14 : w.cell? ⟨13, 0, none⟩ = some (errI ads 14) := E.cell 13 (by decide); unfold lookT
 cases h : rightT p e with
 | false => rw [if_pos rfl]; exact look_known ads p e k s h w c14
 | true =>
  rw [if_neg (by decide)]
  cases h2 : takesT p e k with
  | false => rw [if_pos rfl]; exact look_takes ads p e k s h h2 w c4
  | true =>
   rw [if_neg (by decide)]
   cases h3 : hasT p e s with
   | false => rw [if_pos rfl]; exact look_has ads p e k s h h2 h3 w c1
   | true =>
    rw [if_neg (by decide)]; dsimp only; rw [eN]
    rcases (rightT_rng h).2 with rfl | rfl
    ·exact look_ok1 p k s h h2 h3 w
    ·exact look_ok2 p k s h h2 h3 w
theorem step_none (ads : List Addr) (p e k s : Int) (h : rightT p e = true) (h2 : sendsT p e k = true) (h3 : hasT p e s = true) (h4 : goesT p k s = 0) (w : World) (ce : w.cell? ⟨8, 0, none⟩ = some (errI ads 9)) : Calls Tryz.prog 118 #[.int .i64 p, .int .i64 e, .int .i64 k, .int .i64 s] w fun e' w' => e' = .returned (.tuple #[(0:Int), errI ads 9]) ∧ Kp w w' := by
 have HK := hD (fun w => h ▸ known_any p e w); have HT := hD (fun w => h2 ▸ sends_any p e k (rightT_rng h).2 w); have HH := hD (fun w => h3 ▸ has_any p e s w); have HD := fun w => done_any p k s (rightT_rng h).1 (hasT_pc h3) (sendsT_or h2) (hasT_rng h3) w
 rw [h4] at HD; have HD := hD HD; obtain ⟨q, hq⟩ : ∃ x, errI ads 9 = x := ⟨_, rfl⟩
 rw [hq] at ce ⊢; clear hq h h2 h3 h4; go_enter Tryz.func118, Tryz.ntmps118; go_wp2_with (first | (go_at_call 138; (with_reducible refine (HK.out _).mono ?_); rintro e' w' ⟨rfl, rfl⟩) | (go_at_call 162; (with_reducible refine (HT.out _).mono ?_); rintro e' w' ⟨rfl, rfl⟩) | (go_at_call 139; (with_reducible refine (HH.out _).mono ?_); rintro e' w' ⟨rfl, rfl⟩) | (go_at_call 163; (with_reducible refine (HD.out _).mono ?_); rintro e' w' ⟨rfl, rfl⟩))
 go_quiet (fail)
 go_wp2; go_ret2
 exact ⟨rfl, kp_drewT (Kp.refl _) _⟩
theorem step_ok (p e k s n : Int) (h : rightT p e = true) (h2 : sendsT p e k = true) (h3 : hasT p e s = true) (hn : goesT p k s = n) (h4 : (n == 0) = false) (w : World) : Calls Tryz.prog 118 #[.int .i64 p, .int .i64 e, .int .i64 k, .int .i64 s] w fun e' w' => e' = .returned (.tuple #[n, .nilIface]) ∧ Kp w w' := by
 have HK := hD (fun w => h ▸ known_any p e w); have HT := hD (fun w => h2 ▸ sends_any p e k (rightT_rng h).2 w); have HH := hD (fun w => h3 ▸ has_any p e s w); have HD := fun w => done_any p k s (rightT_rng h).1 (hasT_pc h3) (sendsT_or h2) (hasT_rng h3) w
 rw [hn] at HD; have HD := hD HD; clear h h2 h3 hn; go_enter Tryz.func118, Tryz.ntmps118; go_wp2_with (first | (go_at_call 138; (with_reducible refine (HK.out _).mono ?_); rintro e' w' ⟨rfl, rfl⟩) | (go_at_call 162; (with_reducible refine (HT.out _).mono ?_); rintro e' w' ⟨rfl, rfl⟩) | (go_at_call 139; (with_reducible refine (HH.out _).mono ?_); rintro e' w' ⟨rfl, rfl⟩) | (go_at_call 163; (with_reducible refine (HD.out _).mono ?_); rintro e' w' ⟨rfl, rfl⟩))
 go_ret2
 exact ⟨rfl, Kp.refl _⟩
theorem step_any (ads : List Addr) (p e k s : Int) (w : World) (E : EP [0, 3, 8, 13] ads w) : Calls Tryz.prog 118 #[.int .i64 p, .int .i64 e, .int .i64 k, .int .i64 s] w fun e' w' => e' = .returned (.tuple #[.int .i64 (stepT p e k s).2, errI ads (stepT p e k s).1]) ∧ Kp w w' := by
 have c1 : w.cell? ⟨0, 0, none⟩ = some (errI ads 1) := E.cell 0 (by decide); have c4 : w.cell? ⟨3, 0, none⟩ = some (errI ads 4) := E.cell 3 (by decide); have c9 : w.cell? ⟨8, 0, none⟩ = some (errI ads 9) := E.cell 8 (by decide); have c14 : w.cell? ⟨13, 0, none⟩ = some (errI ads 14) := E.cell 13 (by decide); unfold stepT
 cases h : rightT p e with
 | false => rw [if_pos rfl]; exact step_known ads p e k s h w c14
 | true =>
  rw [if_neg (by decide)]
  cases h2 : sendsT p e k with
  | false => rw [if_pos rfl]; exact step_sends ads p e k s h h2 w c4
  | true =>
   rw [if_neg (by decide)]
   cases h3 : hasT p e s with
   | false => rw [if_pos rfl]; exact step_has ads p e k s h h2 h3 w c1
   | true =>
    rw [if_neg (by decide)]
    by_cases h4 : goesT p k s = 0
    ·rw [if_pos h4]; exact step_none ads p e k s h h2 h3 h4 w c9
    ·rw [if_neg h4]; dsimp only; rw [eN]; exact step_ok p e k s _ h h2 h3 rfl (by simpa using h4) w
theorem wt_ok (p e s : Int) (h : rightT p e = true) (h3 : hasT p e s = true) (w : World) : Calls Tryz.prog 84 #[.int .i64 p, .int .i64 e, .int .i64 s] w fun e' w' => e' = .returned (.tuple #[.int .i64 (waitT e s), .nilIface]) ∧ Kp w w' := by
 have HK := hD (fun w => h ▸ known_any p e w); have HH := hD (fun w => h3 ▸ has_any p e s w); have HW := hD (fun w => waits_any e s (rightT_rng h).2 (hasT_rng h3) w); clear h h3; go_enter Tryz.func84, Tryz.ntmps84; go_wp2_with (first | (go_at_call 138; (with_reducible refine (HK.out _).mono ?_); rintro e' w' ⟨rfl, rfl⟩) | (go_at_call 139; (with_reducible refine (HH.out _).mono ?_); rintro e' w' ⟨rfl, rfl⟩) | (go_at_call 140; (with_reducible refine (HW.out _).mono ?_); rintro e' w' ⟨rfl, rfl⟩))
 go_ret2
 exact ⟨rfl, Kp.refl _⟩
theorem waitsT_any (ads : List Addr) (p e s : Int) (w : World) (E : EP [0, 3, 13] ads w) : Calls Tryz.prog 84 #[.int .i64 p, .int .i64 e, .int .i64 s] w fun e' w' => e' = .returned (.tuple #[.int .i64 (waitsT p e s).2, errI ads (waitsT p e s).1]) ∧ Kp w w' := by
 have c1 : w.cell? ⟨0, 0, none⟩ = some (errI ads 1) := E.cell 0 (by decide); have c14 : w.cell? ⟨13, 0, none⟩ = some (errI ads 14) := E.cell 13 (by decide); unfold waitsT
 cases h : rightT p e with
 | false => rw [if_pos rfl]; exact wt_known ads p e s h w c14
 | true =>
  rw [if_neg (by decide)]
  cases h3 : hasT p e s with
  | false => rw [if_pos rfl]; exact wt_has ads p e s h h3 w c1
  | true =>
   rw [if_neg (by decide)]; dsimp only; rw [eN]; exact wt_ok p e s h h3 w
theorem tabC_of (ads : List Addr) (W : World) (E : EP [0, 3, 13] ads W) : TabC ads W where
 look := fun w1 hk p e k s _ _ _ _ => look_any ads p e k s w1 (E.kp hk)
 waits := fun w1 hk p e s _ _ _ => waitsT_any ads p e s w1 (E.kp hk)
theorem tabS_of (ads : List Addr) (W : World) (E : EP [0, 3, 8, 13] ads W) : TabS ads W where
 step := fun w1 hk p e k s _ _ _ _ => step_any ads p e k s w1 (E.kp hk)
variable {w0 w w' W w3 : World} {B q : Nat} {m : StM} {gs : List AcG} {va vp : Value}
variable {ads : List Addr}
theorem lsActivity (H : GS tyL B q m gs va vp w) (h8 : gs.length ≤ 8) (fk : Int) (fn fs fr fe fp fq fo fd fa ft fh fc : Int) (fx : Nat) : Calls Tryz.prog 182 #[.pointer (some ⟨q, 0, none⟩), .agg #[fk, fn, fs, fr, fe, fp, fq, fo, fd, fa, ft, fh, fc, fx]] w fun r w' => ∃ p, r = .returned (.pointer p) ∧ (findS m.acts fn fs = none → p = none) ∧ (∀ i, findS m.acts fn fs = some i → ∃ ga cp, va = .slice (some ⟨ga, 0, none⟩) gs.length cp ∧ p = some ⟨ga, i * 8, none⟩) ∧ Kp w w' := by
 have hfs : findS m.acts fn fs = gs.findIdx? (fun g => (fun a : AcM => decide (a.c.n = fn ∧ a.c.s = fs)) g.a) := by unfold findS; rw [H.acts, fi_map]
 rw [hfs]; obtain ⟨FS, hFS⟩ : ∃ x, gs.findIdx? (fun g => (fun a : AcM => decide (a.c.n = fn ∧ a.c.s = fs)) g.a) = x := ⟨_, rfl⟩
 rw [hFS]; have HFS := hD hFS; clear hFS; obtain ⟨a0, c0, eva⟩ := H.vForm; subst eva; obtain ⟨len, hl⟩ : ∃ x, gs.length = x := ⟨_, rfl⟩
 have e0 : w.cell? ⟨q, 2, none⟩ = some (.slice a0 len c0) := by rw [← hl]; exact cU (i := 2) H.row rfl
 have ho : w.ownsRow B 92 8 (.slice a0 len c0) len (acE.row gs) := by have := H.oa; rw [hl] at this; exact this
 obtain ⟨L, hL⟩ : ∃ L : Int, (len : Int) = L := ⟨_, rfl⟩
 have kb := kA w (.cells #[fk, fn, fs, fr, fe, fp, fq, fo, fd, fa, ft, fh, fc, fx] 87); have rb := (mH w (.cells #[fk, fn, fs, fr, fe, fp, fq, fo, fd, fa, ft, fh, fc, fx] 87))
 obtain ⟨W, hW⟩ : ∃ W, w.alloc (.cells #[fk, fn, fs, fr, fe, fp, fq, fo, fd, fa, ft, fh, fc, fx] 87) = W := ⟨_, rfl⟩
 rw [hW] at kb rb; have e1 := kZ kb e0; have HO := hD (oK ho kb); obtain ⟨HL, H8, HLL, KB, RB, E1⟩ := hD6 hl h8 hL kb rb e1; rw [hl]; clear H h8 ho hl kb rb hfs; go_enter Tryz.func182, Tryz.ntmps182; go_wp2; go_loopw [11] (fun i wr => ∃ j : Nat, j ≤ len ∧ i = .int .i64 j ∧ (∀ k (hk : k < gs.length), k < j → ¬ (fun a : AcM => a.c.n = fn ∧ a.c.s = fs) gs[k].a) ∧ Kp W wr) (fun i _ => len - (intOf i).toNat)
 case atStart => exact ⟨0, Nat.zero_le _, rfl, fun k _ h => by omega, Kp.refl _⟩
 case round =>
  obtain ⟨j, hj, rfl, hq, hk⟩ := hrel; obtain ⟨KR, HQ⟩ := hD2 hk hq; obtain ⟨jj, hjj⟩ : ∃ jj : Int, (j : Int) = jj := ⟨_, rfl⟩
  rw [hjj]; have HJ := hD hjj
  by_cases hlt : j < len
  ·have hjl : jj < L := by omega
   have hj0 : 0 ≤ jj := by omega
   have hL8 : L ≤ 8 := by have := H8.out; have := HL.out; omega
   have htn : jj.toNat = j := by omega
   have ow := oK HO.out hk; obtain ⟨g, cp, ev, hcp, hgB, hgl, hfz, hcell⟩ := cQ (E := acE) ow HL.out hlt; have ev := congrArg (fun v => match v with | Value.slice a _ _ => a | _ => none) ev; dsimp only at ev; subst ev; have hjo : j < gs.length := by have := HL.out; omega
   obtain ⟨⟨⟨⟨xn, xs, xo, xd, xx⟩, xp, xc, xr⟩, xb, xk⟩, hx⟩ : ∃ x, gs[j]'hjo = x := ⟨_, rfl⟩
   rw [hx, show acE.k = 8 from rfl, ← htn] at hcell; obtain ⟨xv, hxv⟩ : ∃ v, (⟨⟨⟨xn, xs, xo, xd, xx⟩, xp, xc, xr⟩, xb, xk⟩ : AcG).v = v := ⟨_, rfl⟩
   obtain ⟨x0, x1, x2, x3, x4, x5, x6, -⟩ := cW8 hcell; have x7 : wr.cell? ⟨g, jj.toNat * 8 + 7, none⟩ = some xv := by rw [← hxv]; exact hcell 7 _ (by decide) rfl
   obtain ⟨av, nv, cv, exv⟩ : ∃ a n c, xv = .slice a n c := ⟨_, _, _, hxv.symm⟩
   subst exv; have e2 := kZ hk e1; have b1 : wr.cell? ⟨w.heap.size, 1, none⟩ = some (.int .i64 fn) := kZ hk (cU (i := 1) RB.out rfl); have b2 : wr.cell? ⟨w.heap.size, 2, none⟩ = some (.int .i64 fs) := kZ hk (cU (i := 2) RB.out rfl); have heq : ∀ w, (binOp .eql 25 (.agg #[xn, xs]) (.agg #[fn, fs])).run Tryz.prog w = .ok (.bool (decide (xn = fn ∧ xs = fs))) w := fun w => act_eql9 xn xs fn fs w
   have heg := fun op x y (w : World) => act_guard9 op x y xn xs fn fs w
   obtain ⟨HLT, HX⟩ := hD2 hlt hx
   by_cases he : xn = fn ∧ xs = fs
   ·have HF := hD (fi_at (p := (fun g : AcG => (fun a : AcM => decide (a.c.n = fn ∧ a.c.s = fs)) g.a)) hjo (fun i hi hij => dF (hq i hi hij)) (by show decide _ = true; rw [hx]; exact dT he)); have hd := dT he; rw [hd] at heq; have HTN := hD htn; clear hcell hx hk hq hjj hj hlt he htn hxv ow hd; go_wp2_with fail
    go_region
    go_wp2; go_ret; refine ⟨_, rfl, fun e => ?_, fun i e => ?_, kT KB.out (dQ KR.out)⟩
    ·have e := HFS.out.trans e; rw [HF.out] at e; cases e
    ·have e := HFS.out.trans e; rw [HF.out] at e; injection e with e
     exact ⟨_, _, rfl, by rw [← e, HTN.out]⟩
   ·have HE := hD he; have hd := dF he; rw [hd] at heq; have hw1 : wrap64 (jj + 1) = jj + 1 := IntWalk.wrap64_in _ (by omega); clear hcell hx hk hq hjj hj hlt he htn hxv ow hd; go_wp2_with fail
    go_region
    go_wp2; go_roundw
    case rel => exact ⟨j + 1, by have := HLT.out; omega, by have := HJ.out; rw [show ((j + 1 : Nat) : Int) = jj + 1 by omega], fun k hk hk2 => by
     rcases Nat.lt_or_eq_of_le (Nat.le_of_lt_succ hk2) with g | rfl
     ·exact HQ.out k hk g
     ·rw [HX.out]; exact HE.out, dQ KR.out⟩
    case measure => have := HJ.out; have := HLT.out; simp [intOf]; omega
  ·have hje : ¬ jj < L := by omega
   have HN := hD (fi_no (p := (fun g : AcG => (fun a : AcM => decide (a.c.n = fn ∧ a.c.s = fs)) g.a)) (l := gs) (fun i hi => dF (hq i hi (by have := HL.out; omega)))); clear hk hq hjj hj hlt; go_wp2; go_ret; exact ⟨_, rfl, fun _ => rfl, fun i e => by (have e := HFS.out.trans e; rw [HN.out] at e; cases e), kT KB.out KR.out⟩
theorem lsFree (H : GS tyL B q m gs va vp w) (h8 : gs.length ≤ 8) (p8 : m.parts.length ≤ 8) (h6 : ∀ a ∈ m.acts, a.regs.length ≤ 6) (hp : ∀ a ∈ m.acts, 0 ≤ a.par ∧ a.par ≤ 8) (a : Int) (ha : 0 ≤ a ∧ a ≤ 8) :
  Calls Tryz.prog 180 #[.pointer (some ⟨q, 0, none⟩), .int .i64 a] w fun r w' => r = .returned (.bool (decide (a = 0) || ((partQ m (a - 1)).isSome && !(childS m.acts (a - 1)).isSome))) ∧ Kp w w' := by
 have _u := p8; clear _u
 by_cases h0 : a = 0
 ·subst h0; clear H h8 p8 h6 hp ha; go_enter Tryz.func180, Tryz.ntmps180; go_wp2; go_ret; exact ⟨rfl, Kp.refl _⟩
 ·have g0 : (a == 0) = false := by simpa using h0
  rw [dF h0]; obtain ⟨p, hpp⟩ : ∃ p, a - 1 = p := ⟨_, rfl⟩
  rw [hpp]; have hw : IntKind.i64.wrap p = p := IntWalk.i64_in p (by omega); have hw2 : wrap64 p = p := IntWalk.wrap64_in p (by omega); have HPA := hD (stPart H p); have HCH := hD (fun w1 (hk : Kp w w1) => stChild (H.kp hk) h8 h6 p hp); obtain ⟨t1, ht1⟩ : ∃ b, (partQ m p).isSome = b := ⟨_, rfl⟩
  obtain ⟨t2, ht2⟩ : ∃ b, (childS m.acts p).isSome = b := ⟨_, rfl⟩
  rw [ht1] at HPA ⊢; rw [ht2] at HCH ⊢; have hsf := sF; clear H h8 p8 h6 hp ha h0 ht1 ht2
  cases t1 <;> cases t2 <;> (go_enter Tryz.func180, Tryz.ntmps180; go_wp2_with (first | (go_at_call 107; (with_reducible refine HPA.out.mono ?_); rintro e' w2 ⟨⟨yn, ys, yr, ⟨y1, y2, y3, y4⟩⟩, rfl, -, hk⟩; have K2 := hD (kT hk (kA w2 (.cells #[yn, ys, yr, y1, y2, y3, y4] 119))); dsimp only [paV]; clear hk) | (go_at_call 51; (with_reducible refine (HCH.out _ K2.out).mono ?_); rintro e' w3 ⟨v, rfl, hO, hk⟩; obtain ⟨xn, xs, xo, xd, xx, xp, xc, av, nv, cv, rfl⟩ := hO.form; have K3 := hD (kT K2.out (kT hk (kA w3 (.cells #[xn, xs, xo, xd, xx, xp, xc, .slice av nv cv] 92)))); clear hk hO)); go_ret; exact ⟨rfl, K3.out⟩)
theorem lsBegun (E : EP [0, 3, 4, 8, 13] ads w) (fk : Int) (fn fs fr fe fp fq fo fd fa ft fh fc : Int) (fx : Nat) (e : Int) (hq : fq = 1 ∨ fq = 2) (he : e = 1 ∨ e = 2) : Calls Tryz.prog 185 #[.agg #[fk, fn, fs, fr, fe, fp, fq, fo, fd, fa, ft, fh, fc, fx], .int .i64 e] w fun r w' => r = .returned (.agg #[fq, e, (1:Int), (0:Int)]) ∧ Kp w w' := by
 have k1 : Kp w ((w.alloc (.cells #[fk, fn, fs, fr, fe, fp, fq, fo, fd, fa, ft, fh, fc, fx] 87)).alloc (.cells #[(0:Int), (0:Int), (0:Int), (0:Int)] 94)) := kT (kA _ _) (kA _ _); have r1 := nX0 w (.cells #[fk, fn, fs, fr, fe, fp, fq, fo, fd, fa, ft, fh, fc, fx] 87) (.cells #[(0:Int), (0:Int), (0:Int), (0:Int)] 94); have r2 := nX1 w (.cells #[fk, fn, fs, fr, fe, fp, fq, fo, fd, fa, ft, fh, fc, fx] 87) (.cells #[(0:Int), (0:Int), (0:Int), (0:Int)] 94); obtain ⟨W, hW⟩ : ∃ W, ((w.alloc (.cells #[fk, fn, fs, fr, fe, fp, fq, fo, fd, fa, ft, fh, fc, fx] 87)).alloc (.cells #[(0:Int), (0:Int), (0:Int), (0:Int)] 94)) = W := ⟨_, rfl⟩
 rw [hW] at k1 r1 r2; have hr : rightT fq e = true := by unfold rightT; simp [hq, he]
 have hnew := msNew_any (ads := ads) fq e (by unfold i64M; omega) (by unfold i64M; omega) W (tabC_of ads W ((E.kp k1).sub (by decide))) ((E.kp k1).cell 13 (by decide)); rw [show newS fq e = ⟨fq, e, 1, 0⟩ by simp [newS, hr], if_pos hr, eN] at hnew; dsimp only [seatV] at hnew; obtain ⟨HNEW, K1, R2⟩ := hD3 hnew k1 r2; have f6 : W.cell? ⟨w.heap.size, 6, none⟩ = some (.int .i64 fq) := cU (i := 6) r1 rfl; clear E hq he hr hnew k1 r1 r2; go_enter Tryz.func185, Tryz.ntmps185; go_wp2_with (go_at_call 206; (with_reducible refine HNEW.out.mono ?_); rintro e' w3 ⟨rfl, hk⟩; have K3 := hD (kT K1.out (kT hk (kA w3 (.cells #[fq, e, (1:Int), (0:Int)] 94)))); have r3 := rZ (kT hk (kA w3 (.cells #[fq, e, (1:Int), (0:Int)] 94))) R2.out; obtain ⟨u0, u1, u2, u3⟩ := cells_4 r3; have fz3 := fQ r3; obtain ⟨x0, x1, x2, x3⟩ := cells_4 (mH w3 (.cells #[fq, e, (1:Int), (0:Int)] 94)); have R3 := hD r3; clear hk r3)
 refine bodyPost_ret (results_cell_row (p := 4) rfl _ _ (w.heap.size + 1) 94 _ (0, 0) _ rfl (set_4 (.int .i64 fq) (.int .i64 e) (.int .i64 1) (.int .i64 0) R3.out) Tryz.underlying94 rfl (by kernel_rfl)) rfl ?_
 exact ⟨rfl, set_4_kp K3.out (by omega) _ _ _ _⟩
theorem lsSits (E : EP [0, 3, 4, 8, 13] ads w) {g off : Nat} {zp ze zt zh : Int} (c0 : w.cell? ⟨g, off, none⟩ = some (.int .i64 zp)) (c1 : w.cell? ⟨g, off + 1, none⟩ = some (.int .i64 ze)) (c2 : w.cell? ⟨g, off + 2, none⟩ = some (.int .i64 zt)) (fk : Int) (fn fs fr fe fp fq fo fd fa ft fh fc : Int) (fx : Nat) (hz : SeatM.ok ⟨zp, ze, ft, fh⟩) :
  Calls Tryz.prog 186 #[.agg #[fk, fn, fs, fr, fe, fp, fq, fo, fd, fa, ft, fh, fc, fx], .pointer (some ⟨g, off, none⟩)] w fun r w' => ∃ v, r = .returned v ∧ Kp w w' ∧ (turnOk ⟨zp, ze, zt, zh⟩ ft fh = false → v = .nilFunc) ∧ (turnOk ⟨zp, ze, zt, zh⟩ ft fh = true → ∃ b5 b3, v = .func (.func 207) #[] #[.pointer (some ⟨b5, 0, none⟩), .pointer (some ⟨b3, 0, none⟩)] ∧ w'.heap[b5]? = some (.cells #[zp, ze, ft, fh] 94) ∧ w'.heap[b3]? = some (.cells #[.pointer (some ⟨g, off, none⟩)] 251) ∧ w.heap.size ≤ b5 ∧ w.heap.size ≤ b3) := by
 have k1 : Kp w ((w.alloc (.cells #[fk, fn, fs, fr, fe, fp, fq, fo, fd, fa, ft, fh, fc, fx] 87)).alloc (.cells #[.pointer (some ⟨g, off, none⟩)] 251)) := kT (kA _ _) (kA _ _); have r1 := nX0 w (.cells #[fk, fn, fs, fr, fe, fp, fq, fo, fd, fa, ft, fh, fc, fx] 87) (.cells #[.pointer (some ⟨g, off, none⟩)] 251); have r2 := nX1 w (.cells #[fk, fn, fs, fr, fe, fp, fq, fo, fd, fa, ft, fh, fc, fx] 87) (.cells #[.pointer (some ⟨g, off, none⟩)] 251); obtain ⟨W, hW⟩ : ∃ W, ((w.alloc (.cells #[fk, fn, fs, fr, fe, fp, fq, fo, fd, fa, ft, fh, fc, fx] 87)).alloc (.cells #[.pointer (some ⟨g, off, none⟩)] 251)) = W := ⟨_, rfl⟩
 have hsz : w.heap.size ≤ W.heap.size := by rw [← hW]; simp; omega
 rw [hW] at k1 r1 r2; have f10 : W.cell? ⟨w.heap.size, 10, none⟩ = some (.int .i64 ft) := cU (i := 10) r1 rfl; have f11 : W.cell? ⟨w.heap.size, 11, none⟩ = some (.int .i64 fh) := cU (i := 11) r1 rfl; have b3 : W.cell? ⟨w.heap.size + 1, 0, none⟩ = some (.pointer (some ⟨g, off, none⟩)) := cU (i := 0) r2 rfl; obtain ⟨x0, x1, x2⟩ := kZ3 k1 c0 c1 c2; have hri := fun w1 (hk : Kp w w1) => msRight_any (ads := ads) ⟨zp, ze, ft, fh⟩ hz w1 (tabC_of ads w1 ((E.kp hk).sub (by decide)))
 dsimp only [seatV] at hri; obtain ⟨rt, hrt⟩ : ∃ b, SeatM.right ⟨zp, ze, ft, fh⟩ = b := ⟨_, rfl⟩
 rw [hrt] at hri; have htk : turnOk ⟨zp, ze, zt, zh⟩ ft fh = (decide (zt ≠ 14) && rt) := by unfold turnOk; rw [hrt]
 rw [htk]; obtain ⟨HRI, K1, R2, HSZ⟩ := hD4 hri k1 r2 hsz; clear E c0 c1 c2 hz hri k1 r1 r2 hsz htk hrt; go_enter Tryz.func186, Tryz.ntmps186; go_wp2_with fail
 obtain ⟨WD, hWD⟩ : ∃ x, W.drew = x := ⟨_, rfl⟩
 have kD : Kp W WD := by rw [← hWD]; exact dQ (Kp.refl W)
 have HWD := hD hWD; clear hWD; refine rgW (fun w' => Kp W w') ?_ fun hH => ?_
 ·exact by rw [HWD.out]; exact kD
 rw [HWD.out] at hH ⊢; have hDD : Kp W WD := hH; refine tkP 0 ?_ (y := by intro w hZ; obtain ⟨a0, a1, a2, a3, a4⟩ := kZ5 hZ x0 x1 b3 f10 f11; go_simp; try rfl)
 go_simp; refine tkP 1 ?_
 go_simp; refine tkP 2 ?_
 go_simp; refine tkP 3 ?_ (y := by intro w hZ; obtain ⟨a0, a1, a2, a3, a4⟩ := kZ5 hZ x0 x1 b3 f10 f11; go_simp; try rfl)
 go_simp; refine tkP 4 ?_ (y := by intro w hZ; obtain ⟨a0, a1, a2, a3, a4⟩ := kZ5 hZ x0 x1 b3 f10 f11; go_simp; try rfl)
 go_simp; refine tkP 5 ?_
 go_simp; refine tkP 6 ?_
 go_simp; refine tkP 7 ?_ (y := by intro w hZ; obtain ⟨a0, a1, a2, a3, a4⟩ := kZ5 hZ x0 x1 b3 f10 f11; go_simp; try rfl)
 go_simp; refine tkP 8 ?_
 go_simp; refine tkP 9 ?_ (y := by intro w hZ; obtain ⟨a0, a1, a2, a3, a4⟩ := kZ5 hZ x0 x1 b3 f10 f11; go_simp; try rfl)
 go_simp; refine tkP 10 ?_
 go_simp; refine tkP 11 ?_ (y := by intro w hZ; obtain ⟨a0, a1, a2, a3, a4⟩ := kZ5 hZ x0 x1 b3 f10 f11; go_simp; try rfl)
 go_simp; refine tkP 12 ?_
 go_simp; refine rdW 13 fun K hK => ?_
 go_simp; refine hK.out _ _ (kT hH (kA _ _)) fun hH => ?_
 clear hK K; obtain ⟨Y13, hY13⟩ : ∃ x, WD.alloc (.cells #[(0:Int), (0:Int), (0:Int), (0:Int)] 94) = x := ⟨_, rfl⟩
 have r13 : Y13.heap[WD.heap.size]? = some (.cells #[(0:Int), (0:Int), (0:Int), (0:Int)] 94) := by rw [← hY13]; exact (mH WD (.cells #[(0:Int), (0:Int), (0:Int), (0:Int)] 94))
 have b13 : W.heap.size ≤ WD.heap.size := kS hDD; obtain ⟨p13, hp13⟩ : ∃ x, WD.heap.size = x := ⟨_, rfl⟩
 rw [hp13] at r13 b13; rw [hY13] at hH ⊢
 try rw [hp13]
 clear hY13 hp13; refine rdW 14 fun K hK => ?_
 obtain ⟨v0, v1, v2, v3⟩ := cells_4 r13; have fz5 := fQ r13; go_simp; refine hK.out _ _ (set_4_kp hH b13 _ _ _ _) fun hH => ?_
 clear hK K; obtain ⟨w6, hw6⟩ : ∃ x, (((Y13.setCell ⟨p13, 0, none⟩ (.int .i64 zp)).setCell ⟨p13, 1, none⟩ (.int .i64 ze)).setCell ⟨p13, 2, none⟩ (.int .i64 ft)).setCell ⟨p13, 3, none⟩ (.int .i64 fh) = x := ⟨_, rfl⟩
 have r10 : w6.heap[p13]? = some (.cells #[zp, ze, ft, fh] 94) := by rw [← hw6]; exact set_4 _ _ _ _ r13
 rw [hw6] at hH ⊢; have kw6 : Kp W w6 := hH; clear hw6 v0 v1 v2 v3 fz5; refine dnW ?_ _
 obtain ⟨x2, b3⟩ := kZ2 kw6 x2 b3; obtain ⟨s0, s1, s2, s3⟩ := cells_4 r10; obtain ⟨KW6, R10, B13⟩ := hD3 kw6 r10 b13; clear kw6 hH hDD r13 r10
 by_cases h14 : zt = 14
 ·subst h14; go_wp2; go_ret; exact ⟨_, rfl, kT K1.out KW6.out, fun _ => rfl, fun e => by (simp at e)⟩
 ·have g1 : (zt == 14) = false := by simpa using h14
  have g2 : decide (zt ≠ 14) = true := dT h14; have G2 := hD g2; clear g2 h14
  cases rt with
  | false =>
   go_wp2_with (go_at_call 83; (with_reducible refine (HRI.out _ (kT K1.out KW6.out)).mono ?_); rintro e' w7 ⟨rfl, hk⟩; have K7 := hD (kT K1.out (kT KW6.out hk)); clear hk)
   go_ret; exact ⟨_, rfl, K7.out, fun _ => rfl, fun e => by (simp at e)⟩
  | true =>
   go_wp2_with (go_at_call 83; (with_reducible refine (HRI.out _ (kT K1.out KW6.out)).mono ?_); rintro e' w7 ⟨rfl, hk⟩; have K7 := hD (kT K1.out (kT KW6.out hk)); have R7 := hD (rZ hk R10.out); have Q7 := hD (rZ (kT KW6.out hk) R2.out); clear hk)
   go_ret; exact ⟨_, rfl, K7.out, fun e => by (rw [G2.out] at e; cases e), fun _ => ⟨p13, w.heap.size + 1, rfl, R7.out, Q7.out, Nat.le_trans HSZ.out B13.out, Nat.le_succ _⟩⟩
theorem lsSit1 {b5 b3 g off : Nat} {zp ze ft fh : Int} {u0 u1 u2 u3 : Value} (r5 : w.heap[b5]? = some (.cells #[zp, ze, ft, fh] 94)) (r3 : w.heap[b3]? = some (.cells #[.pointer (some ⟨g, off, none⟩)] 251))
  (c0 : w.cell? ⟨g, off, none⟩ = some u0) (c1 : w.cell? ⟨g, off + 1, none⟩ = some u1) (c2 : w.cell? ⟨g, off + 2, none⟩ = some u2) (c3 : w.cell? ⟨g, off + 3, none⟩ = some u3) (hz : ∀ i, w.frozen? ⟨g, i, none⟩ = false) :
  Calls Tryz.prog 207 #[.pointer (some ⟨b5, 0, none⟩), .pointer (some ⟨b3, 0, none⟩)] w fun r w' => r = .returned (.tuple #[]) ∧ w' = set4Q w g off ⟨zp, ze, ft, fh⟩ := by
 obtain ⟨y0, y1, y2, y3⟩ := cells_4 r5; have p0 : w.cell? ⟨b3, 0, none⟩ = some (.pointer (some ⟨g, off, none⟩)) := cU (i := 0) r3 rfl; have z0 := hz off; have z1 := hz (off + 1); have z2 := hz (off + 2); have z3 := hz (off + 3); clear r5 r3; go_enter Tryz.func207, Tryz.ntmps207; go_wp2; go_end0
 exact ⟨rfl, rfl⟩
def applyQ (m : StM) (f : FX) : Int × StM :=
 if rightF f = false then (4, m) else match doS m f with
  | none => (9, m)
  | some m2 => (0, m2)
theorem aS {m m2 : StM} {f : FX} (hr : rightF f = true) (h : doS m f = some m2) : applyQ m f = (0, m2) := by unfold applyQ; rw [if_neg (by rw [hr]; decide), h]
theorem aZ {m : StM} {f : FX} (hr : rightF f = true) (h : doS m f = none) : applyQ m f = (9, m) := by unfold applyQ; rw [if_neg (by rw [hr]; decide), h]
theorem applyQ_bad {m : StM} {f : FX} (hr : rightF f = false) : applyQ m f = (4, m) := by unfold applyQ; rw [if_pos hr]
theorem applyQ_ok {m : StM} {f : FX} (h : OkS m) : OkS (applyQ m f).2 := by
 cases hr : rightF f with
 | false => rw [applyQ_bad hr]; exact h
 | true =>
  cases hd : doS m f with
  | none => rw [aZ hr hd]; exact h
  | some m2 => rw [aS hr hd]; exact keepS h hr hd
theorem doS_act0 {m : StM} {f : FX} (hk : f.k = 2 ∨ f.k = 3 ∨ f.k = 4 ∨ f.k = 5) (h : findS m.acts f.n f.s = none) : doS m f = none := by
 unfold doS; rw [if_neg (by omega), if_neg (by omega), if_neg (by omega), if_neg (by omega), h]
theorem doS_act1 {m : StM} {f : FX} {i : Nat} {a : AcM} (hk : f.k = 2 ∨ f.k = 3 ∨ f.k = 4 ∨ f.k = 5) (h : findS m.acts f.n f.s = some i) (ha : m.acts[i]? = some a) : doS m f = actS m i a f := by
 unfold doS; rw [if_neg (by omega), if_neg (by omega), if_neg (by omega), if_neg (by omega), h]; dsimp only; rw [ha]
theorem right_wf {f : FX} (h : rightF f = true) : f.wf := by
 have h2 := h; unfold rightF at h2; simp only [Bool.and_eq_true, decide_eq_true_eq] at h2
 unfold FX.wf
 rcases h2.2.2 with q | q
 ·have := (inv_open h q).1; unfold rightX at this; simp only [Bool.and_eq_true] at this
  have := tmX_le this.2.2.2; have e : (ctxF f).x = f.x := rfl; omega
 ·omega
theorem dis_app {gs : List AcG} {g' : AcG} (hd : ∀ (i j : Nat) (g h : AcG), gs[i]? = some g → gs[j]? = some h → i ≠ j → ∀ b, g.v.ownBlock = some b → h.v.ownBlock ≠ some b) (hn : g'.v.ownBlock = none) :
  ∀ (k j : Nat) (g h : AcG), (gs ++ [g'])[k]? = some g → (gs ++ [g'])[j]? = some h → k ≠ j → ∀ b, g.v.ownBlock = some b → h.v.ownBlock ≠ some b := by
 have at' : ∀ (k : Nat) (x : AcG), (gs ++ [g'])[k]? = some x → gs[k]? = some x ∨ x = g' := by
  intro k x h; rw [List.getElem?_append] at h
  split at h
  ·exact .inl h
  ·right
   have := List.mem_of_getElem? h
   simpa using this
 intro k j g h hk hj hne b e1 e2
 rcases at' k g hk with hk2 | rfl
 ·rcases at' j h hj with hj2 | rfl
  ·exact hd k j g h hk2 hj2 hne b e1 e2
  ·rw [hn] at e2; cases e2
 ·rw [hn] at e1; cases e1
theorem mem_app {gs : List AcG} {g' : AcG} (hn : g'.a.regs = [] ∧ g'.o = none ∧ g'.c = 0) : ∀ g ∈ gs ++ [g'], g ∈ gs ∨ (g.a.regs = [] ∧ g.o = none ∧ g.c = 0) := by
 intro g hg
 rcases List.mem_append.1 hg with h | h
 ·exact .inl h
 ·obtain rfl := List.mem_singleton.1 h; exact .inr hn
end Go.Proofs.YtlmlmhmhgdjhnaaGreatDoor
