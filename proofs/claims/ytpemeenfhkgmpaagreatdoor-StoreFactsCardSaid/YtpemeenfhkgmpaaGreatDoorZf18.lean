/- Parts of this proof (own work). -/
import Derived.Test.YtpemeenfhkgmpaaGreatDoorZf17
set_option maxRecDepth 100000
set_option maxHeartbeats 40000000
namespace Go.Proofs.YtpemeenfhkgmpaaGreatDoor
open Go.RowKit Go.ChangeShapes Go.WideShapes
theorem refHas_any (p e s : Int) (w : World) : Calls Tryz.prog 122 #[.int .i64 p, .int .i64 e, .int .i64 s] w fun e' w' => e' = .returned (.bool (hasT p e s)) ∧ w = w' := by
 by_cases h4 : s = 4
 ·subst h4; rw [show hasT p e 4 = (p == 2) by simp [hasT]; rw [Bool.eq_iff_iff]; simp]
  (go_enter Tryz.func122, Tryz.ntmps122; go_wp2; go_ret; exact ⟨rfl, rfl⟩)
 by_cases h10 : s = 10
 ·subst h10; rw [show hasT p e 10 = (p == 2) by simp [hasT]; rw [Bool.eq_iff_iff]; simp]
  (go_enter Tryz.func122, Tryz.ntmps122; go_wp2; go_ret; exact ⟨rfl, rfl⟩)
 have b4 : (s == 4) = false := by simpa using h4
 have b10 : (s == 10) = false := by simpa using h10
 by_cases h3 : s = 3
 ·subst h3
  by_cases hp : p = 2
  ·subst hp; rw [show hasT 2 e 3 = (e == 1) by simp [hasT]; rw [Bool.eq_iff_iff]; simp]
   (go_enter Tryz.func122, Tryz.ntmps122; go_wp2; go_ret; exact ⟨rfl, rfl⟩)
  ·rw [show hasT p e 3 = false by simp [hasT, hp]]; have bp : (p == 2) = false := by simpa using hp
   (go_enter Tryz.func122, Tryz.ntmps122; go_wp2; go_ret; exact ⟨rfl, rfl⟩)
 have b3 : (s == 3) = false := by simpa using h3
 by_cases h1 : 1 ≤ s
 ·by_cases h2 : s ≤ 14
  ·rw [show hasT p e s = true by simp [hasT, h4, h10, h3, h1, h2]]
   (go_enter Tryz.func122, Tryz.ntmps122; go_wp2; go_ret; exact ⟨rfl, rfl⟩)
  ·rw [show hasT p e s = false by simp [hasT, h4, h10, h3, h2]]
   (go_enter Tryz.func122, Tryz.ntmps122; go_wp2; go_ret; exact ⟨rfl, rfl⟩)
 ·rw [show hasT p e s = false by simp [hasT, h4, h10, h3, h1]]
  (go_enter Tryz.func122, Tryz.ntmps122; go_wp2; go_ret; exact ⟨rfl, rfl⟩)
theorem cells_4 {b : Nat} {t : TypeId} {w : World} {x0 x1 x2 x3 : Value} (h : w.heap[b]? = some (.cells #[x0, x1, x2, x3] t (0, 0))) : w.cell? ⟨b, 0, none⟩ = some x0 ∧ w.cell? ⟨b, 1, none⟩ = some x1 ∧ w.cell? ⟨b, 2, none⟩ = some x2 ∧ w.cell? ⟨b, 3, none⟩ = some x3 := by
 refine ⟨?_, ?_, ?_, ?_⟩ <;> (unfold World.cell?; dsimp only; rw [h]; rfl)
theorem set_4 {b : Nat} {t : TypeId} {w : World} {x0 x1 x2 x3 : Value} (y0 y1 y2 y3 : Value) (h : w.heap[b]? = some (.cells #[x0, x1, x2, x3] t (0, 0))) : ((((w.setCell ⟨b, 0, none⟩ y0).setCell ⟨b, 1, none⟩ y1).setCell ⟨b, 2, none⟩ y2).setCell ⟨b, 3, none⟩ y3).heap[b]? = some (.cells #[y0, y1, y2, y3] t (0, 0)) := by
 have h0 : (w.setCell ⟨b, 0, none⟩ y0).heap[b]? = some (.cells #[y0, x1, x2, x3] t (0, 0)) := (Joins.block_setCell h _).trans rfl; have h1 : ((w.setCell ⟨b, 0, none⟩ y0).setCell ⟨b, 1, none⟩ y1).heap[b]? = some (.cells #[y0, y1, x2, x3] t (0, 0)) := (Joins.block_setCell h0 _).trans rfl; have h2 : (((w.setCell ⟨b, 0, none⟩ y0).setCell ⟨b, 1, none⟩ y1).setCell ⟨b, 2, none⟩ y2).heap[b]? = some (.cells #[y0, y1, y2, x3] t (0, 0)) := (Joins.block_setCell h1 _).trans rfl; have h3 : ((((w.setCell ⟨b, 0, none⟩ y0).setCell ⟨b, 1, none⟩ y1).setCell ⟨b, 2, none⟩ y2).setCell ⟨b, 3, none⟩ y3).heap[b]? = some (.cells #[y0, y1, y2, y3] t (0, 0)) := (Joins.block_setCell h2 _).trans rfl; exact h3
theorem set_4_kp {b : Nat} {w0 w : World} (hk : Kp w0 w) (hb : w0.heap.size ≤ b) (y0 y1 y2 y3 : Value) : Kp w0 ((((w.setCell ⟨b, 0, none⟩ y0).setCell ⟨b, 1, none⟩ y1).setCell ⟨b, 2, none⟩ y2).setCell ⟨b, 3, none⟩ y3) := by
 refine Below.setCell ?_ hb _
 refine Below.setCell ?_ hb _
 refine Below.setCell ?_ hb _
 refine Below.setCell ?_ hb _
 exact hk
theorem cells_5 {b : Nat} {t : TypeId} {w : World} {x0 x1 x2 x3 x4 : Value} (h : w.heap[b]? = some (.cells #[x0, x1, x2, x3, x4] t (0, 0))) : w.cell? ⟨b, 0, none⟩ = some x0 ∧ w.cell? ⟨b, 1, none⟩ = some x1 ∧ w.cell? ⟨b, 2, none⟩ = some x2 ∧ w.cell? ⟨b, 3, none⟩ = some x3 ∧ w.cell? ⟨b, 4, none⟩ = some x4 := by
 refine ⟨?_, ?_, ?_, ?_, ?_⟩ <;> (unfold World.cell?; dsimp only; rw [h]; rfl)
theorem c8X {b : Nat} {t : TypeId} {w : World} {x0 x1 x2 x3 x4 x5 x6 x7 : Value} (h : w.heap[b]? = some (.cells #[x0, x1, x2, x3, x4, x5, x6, x7] t (0, 0))) : w.cell? ⟨b, 0, none⟩ = some x0 ∧ w.cell? ⟨b, 1, none⟩ = some x1 ∧ w.cell? ⟨b, 2, none⟩ = some x2 ∧ w.cell? ⟨b, 3, none⟩ = some x3 ∧ w.cell? ⟨b, 4, none⟩ = some x4 ∧ w.cell? ⟨b, 5, none⟩ = some x5 ∧ w.cell? ⟨b, 6, none⟩ = some x6 ∧ w.cell? ⟨b, 7, none⟩ = some x7 := by
 refine ⟨?_, ?_, ?_, ?_, ?_, ?_, ?_, ?_⟩ <;> (unfold World.cell?; dsimp only; rw [h]; rfl)
theorem set_8 {b : Nat} {t : TypeId} {w : World} {x0 x1 x2 x3 x4 x5 x6 x7 : Value} (y0 y1 y2 y3 y4 y5 y6 y7 : Value) (h : w.heap[b]? = some (.cells #[x0, x1, x2, x3, x4, x5, x6, x7] t (0, 0))) : ((((((((w.setCell ⟨b, 0, none⟩ y0).setCell ⟨b, 1, none⟩ y1).setCell ⟨b, 2, none⟩ y2).setCell ⟨b, 3, none⟩ y3).setCell ⟨b, 4, none⟩ y4).setCell ⟨b, 5, none⟩ y5).setCell ⟨b, 6, none⟩ y6).setCell ⟨b, 7, none⟩ y7).heap[b]? = some (.cells #[y0, y1, y2, y3, y4, y5, y6, y7] t (0, 0)) := by
 have h0 : (w.setCell ⟨b, 0, none⟩ y0).heap[b]? = some (.cells #[y0, x1, x2, x3, x4, x5, x6, x7] t (0, 0)) := (Joins.block_setCell h _).trans rfl; have h1 : ((w.setCell ⟨b, 0, none⟩ y0).setCell ⟨b, 1, none⟩ y1).heap[b]? = some (.cells #[y0, y1, x2, x3, x4, x5, x6, x7] t (0, 0)) := (Joins.block_setCell h0 _).trans rfl; have h2 : (((w.setCell ⟨b, 0, none⟩ y0).setCell ⟨b, 1, none⟩ y1).setCell ⟨b, 2, none⟩ y2).heap[b]? = some (.cells #[y0, y1, y2, x3, x4, x5, x6, x7] t (0, 0)) := (Joins.block_setCell h1 _).trans rfl; have h3 : ((((w.setCell ⟨b, 0, none⟩ y0).setCell ⟨b, 1, none⟩ y1).setCell ⟨b, 2, none⟩ y2).setCell ⟨b, 3, none⟩ y3).heap[b]? = some (.cells #[y0, y1, y2, y3, x4, x5, x6, x7] t (0, 0)) := (Joins.block_setCell h2 _).trans rfl; have h4 : (((((w.setCell ⟨b, 0, none⟩ y0).setCell ⟨b, 1, none⟩ y1).setCell ⟨b, 2, none⟩ y2).setCell ⟨b, 3, none⟩ y3).setCell ⟨b, 4, none⟩ y4).heap[b]? = some (.cells #[y0, y1, y2, y3, y4, x5, x6, x7] t (0, 0)) := (Joins.block_setCell h3 _).trans rfl
 have h5 : ((((((w.setCell ⟨b, 0, none⟩ y0).setCell ⟨b, 1, none⟩ y1).setCell ⟨b, 2, none⟩ y2).setCell ⟨b, 3, none⟩ y3).setCell ⟨b, 4, none⟩ y4).setCell ⟨b, 5, none⟩ y5).heap[b]? = some (.cells #[y0, y1, y2, y3, y4, y5, x6, x7] t (0, 0)) := (Joins.block_setCell h4 _).trans rfl; have h6 : (((((((w.setCell ⟨b, 0, none⟩ y0).setCell ⟨b, 1, none⟩ y1).setCell ⟨b, 2, none⟩ y2).setCell ⟨b, 3, none⟩ y3).setCell ⟨b, 4, none⟩ y4).setCell ⟨b, 5, none⟩ y5).setCell ⟨b, 6, none⟩ y6).heap[b]? = some (.cells #[y0, y1, y2, y3, y4, y5, y6, x7] t (0, 0)) := (Joins.block_setCell h5 _).trans rfl; have h7 : ((((((((w.setCell ⟨b, 0, none⟩ y0).setCell ⟨b, 1, none⟩ y1).setCell ⟨b, 2, none⟩ y2).setCell ⟨b, 3, none⟩ y3).setCell ⟨b, 4, none⟩ y4).setCell ⟨b, 5, none⟩ y5).setCell ⟨b, 6, none⟩ y6).setCell ⟨b, 7, none⟩ y7).heap[b]? = some (.cells #[y0, y1, y2, y3, y4, y5, y6, y7] t (0, 0)) := (Joins.block_setCell h6 _).trans rfl
 exact h7
theorem set_8_kp {b : Nat} {w0 w : World} (hk : Kp w0 w) (hb : w0.heap.size ≤ b) (y0 y1 y2 y3 y4 y5 y6 y7 : Value) : Kp w0 ((((((((w.setCell ⟨b, 0, none⟩ y0).setCell ⟨b, 1, none⟩ y1).setCell ⟨b, 2, none⟩ y2).setCell ⟨b, 3, none⟩ y3).setCell ⟨b, 4, none⟩ y4).setCell ⟨b, 5, none⟩ y5).setCell ⟨b, 6, none⟩ y6).setCell ⟨b, 7, none⟩ y7) := by
 refine Below.setCell ?_ hb _
 refine Below.setCell ?_ hb _
 refine Below.setCell ?_ hb _
 refine Below.setCell ?_ hb _
 refine Below.setCell ?_ hb _
 refine Below.setCell ?_ hb _
 refine Below.setCell ?_ hb _
 refine Below.setCell ?_ hb _
 exact hk
theorem frozN {b : Nat} {t : TypeId} {w : World} {cs : Array Value} (h : w.heap[b]? = some (.cells cs t (0, 0))) (i : Nat) : w.frozen? ⟨b, i, none⟩ = false := by
 unfold World.frozen?; dsimp only; rw [h]
 simp
theorem kp_drewM {a b : World} (h : Kp a b) : Kp a b.drew := ⟨h.os, h.tape, h.output, h.size, h.block⟩
theorem drew_heapM (w : World) : w.drew.heap = w.heap := rfl
theorem refSeatRt_any (z : SeatM) (w : World) : Calls Tryz.prog 78 #[.agg (seatV z)] w fun r w' => r = .returned (.bool z.right) ∧ Kp w w' := by
 obtain ⟨p, e, s, h⟩ := z; dsimp only [seatV]; have KB := hD (kA w (.cells #[p, e, s, h] 90)); have HR := hD (mH w (.cells #[p, e, s, h] 90)); obtain ⟨g0, g1, g2, g3⟩ := cells_4 HR.out
 cases hr : rightT p e with
 | false =>
  rw [show SeatM.right ⟨p, e, s, h⟩ = false by simp [SeatM.right, hr]]; have hn := of_decide_eq_false hr
  by_cases h1 : p < 1
  ·clear hn hr; (go_enter Tryz.func78, Tryz.ntmps78; go_wp2; go_ret; exact ⟨rfl, KB.out⟩)
  by_cases h2 : p > 2
  ·clear hn hr; (go_enter Tryz.func78, Tryz.ntmps78; go_wp2; go_ret; exact ⟨rfl, KB.out⟩)
  by_cases h3 : e < 1
  ·clear hn hr; (go_enter Tryz.func78, Tryz.ntmps78; go_wp2; go_ret; exact ⟨rfl, KB.out⟩)
  by_cases h4 : e > 2
  ·clear hn hr; (go_enter Tryz.func78, Tryz.ntmps78; go_wp2; go_ret; exact ⟨rfl, KB.out⟩)
  ·exact absurd ⟨by omega, by omega⟩ hn
 | true =>
  have hh := fun w => refHas_any p e s w
  cases hs : hasT p e s with
  | false =>
   rw [hs] at hh; have HH := hD hh; rw [show SeatM.right ⟨p, e, s, h⟩ = false by simp [SeatM.right, hr, hs]]; obtain ⟨hp, he⟩ := of_decide_eq_true hr; clear hr hs hh
   rcases hp with rfl | rfl <;> rcases he with rfl | rfl <;> (go_enter Tryz.func78, Tryz.ntmps78; go_wp2_with (go_at_call 122; (with_reducible refine (HH.out _).mono ?_); rintro e' w' ⟨rfl, rfl⟩); go_ret; exact ⟨rfl, KB.out⟩)
  | true =>
   rw [hs] at hh; have HH := hD hh; have hp := (of_decide_eq_true hr).1; have he := (of_decide_eq_true hr).2
   by_cases h14 : s = 14
   ·subst h14; rw [show SeatM.right ⟨p, e, 14, h⟩ = decide (h = 1 ∨ (4 ≤ h ∧ h ≤ 8)) by simp [SeatM.right, hr, hs]]; clear hr hs hh
    by_cases h1 : h = 1
    ·subst h1
     rcases hp with rfl | rfl <;> rcases he with rfl | rfl <;> (go_enter Tryz.func78, Tryz.ntmps78; go_wp2_with (go_at_call 122; (with_reducible refine (HH.out _).mono ?_); rintro e' w' ⟨rfl, rfl⟩); go_ret; exact ⟨rfl, KB.out⟩)
    ·have b1 : (h == 1) = false := by simpa using h1
     by_cases h4 : 4 ≤ h
     ·by_cases h8 : h ≤ 8
      ·rw [dT (Or.inr (And.intro h4 h8))]; have q4 : decide (h ≥ 4) = true := dT h4; have q8 : decide (h ≤ 8) = true := dT h8
       rcases hp with rfl | rfl <;> rcases he with rfl | rfl <;> (go_enter Tryz.func78, Tryz.ntmps78; go_wp2_with (go_at_call 122; (with_reducible refine (HH.out _).mono ?_); rintro e' w' ⟨rfl, rfl⟩); go_ret; exact ⟨rfl, KB.out⟩)
      ·rw [dF (by omega)]; have q4 : decide (h ≥ 4) = true := dT h4; have q8 : decide (h ≤ 8) = false := dF h8
       rcases hp with rfl | rfl <;> rcases he with rfl | rfl <;> (go_enter Tryz.func78, Tryz.ntmps78; go_wp2_with (go_at_call 122; (with_reducible refine (HH.out _).mono ?_); rintro e' w' ⟨rfl, rfl⟩); go_ret; exact ⟨rfl, KB.out⟩)
     ·rw [dF (by omega)]; have q4 : decide (h ≥ 4) = false := dF h4
      rcases hp with rfl | rfl <;> rcases he with rfl | rfl <;> (go_enter Tryz.func78, Tryz.ntmps78; go_wp2_with (go_at_call 122; (with_reducible refine (HH.out _).mono ?_); rintro e' w' ⟨rfl, rfl⟩); go_ret; exact ⟨rfl, KB.out⟩)
   ·rw [show SeatM.right ⟨p, e, s, h⟩ = (h == 0) by simp [SeatM.right, hr, hs, h14]; rw [Bool.eq_iff_iff]; simp]; have b14 : (s == 14) = false := by simpa using h14
    clear hr hs hh
    rcases hp with rfl | rfl <;> rcases he with rfl | rfl <;> (go_enter Tryz.func78, Tryz.ntmps78; go_wp2_with (go_at_call 122; (with_reducible refine (HH.out _).mono ?_); rintro e' w' ⟨rfl, rfl⟩); go_ret; exact ⟨rfl, KB.out⟩)
theorem rQ {P : Program} {fn : Func} {p u : Tmp} {ty : TypeId} (h : fn.results = #[.cell p ty, .tmp u]) (tmps : Array Value) (w : World) (g : Nat) (t : TypeId) (cs : Array Value) (fr : Nat × Nat) (d : TypeDesc)
  (hp : tmps.getD p undef = .pointer (some ⟨g, 0, none⟩)) (hg : w.heap[g]? = some (.cells cs t fr))
  (hu : P.underlying ty = some d) (hd : (match d with | .struct _ | .array _ _ => true | _ => false) = true) (hi : (P.info? ty).map (·.size) = some cs.size) :
  (results fn tmps).run P w = .ok (.tuple #[.agg cs, tmps.getD u undef]) w := by
 have hp' : tmps[p]?.getD undef = .pointer (some ⟨g, 0, none⟩) := by simpa using hp
 simp [results, h, hp', asAddr, run_loadVar_row w g t ty cs fr d hg hu hd hi]
def tyD : TyQ := ⟨34, 89, 92, 103⟩
theorem tyD_ok : tyD.Ok := ⟨by decide, by decide, by decide, by decide, by decide, by decide⟩
theorem fi_at {α : Type} {p : α → Bool} {l : List α} {j : Nat} (hj : j < l.length) (h1 : ∀ i (hi : i < l.length), i < j → p l[i] = false) (h2 : p l[j] = true) : l.findIdx? p = some j := by
 rw [List.findIdx?_eq_some_iff_getElem]; exact ⟨hj, h2, fun i hi => by rw [h1 i (by omega) hi]; simp⟩
theorem fi_no {α : Type} {p : α → Bool} {l : List α} (h : ∀ i (hi : i < l.length), p l[i] = false) : l.findIdx? p = none := by
 rw [List.findIdx?_eq_none_iff]; intro x hx; obtain ⟨i, hi, rfl⟩ := List.getElem_of_mem hx; exact h i hi
def placeQ : Option Nat → Int
 | some i => i
 | none => -1
variable {w0 w w' W w3 : World} {B q : Nat} {m : StM} {gs : List AcG} {va vp : Value}
theorem refFind15 (H : GS tyD B q m gs va vp w) (h8 : gs.length ≤ 8) (n s : Int) : Calls Tryz.prog 32 #[.pointer (some ⟨q, 0, none⟩), .agg #[n, s]] w fun r w' => r = .returned (.int .i64 (placeQ (findS m.acts n s))) ∧ Kp w w' := by
 unfold findS; rw [H.acts, List.findIdx?_map]; obtain ⟨R, hR⟩ : ∃ R, placeQ (List.findIdx? ((fun a : AcM => decide (a.c.n = n ∧ a.c.s = s)) ∘ AcG.a) gs) = R := ⟨_, rfl⟩
 rw [hR]; have HR := hD hR; clear hR; obtain ⟨a0, c0, rfl⟩ := H.vForm; obtain ⟨len, hl⟩ : ∃ x, gs.length = x := ⟨_, rfl⟩
 have e0 : w.cell? ⟨q, 2, none⟩ = some (.slice a0 len c0) := by rw [← hl]; exact cU (i := 2) H.row rfl
 obtain ⟨L, hL⟩ : ∃ L : Int, (len : Int) = L := ⟨_, rfl⟩
 obtain ⟨HH, HL, HLL, H8⟩ := hD4 H hl hL h8; have hsf := sF; have KB := hD (kA w (.cells #[n, s] 36)); have HB := hD (mH w (.cells #[n, s] 36)); have e1 := kZ KB.out e0; have WB := hD (rfl : w.alloc (.cells #[n, s] 36) = w.alloc (.cells #[n, s] 36)); clear H hl h8; go_enter Tryz.func32, Tryz.ntmps32; go_wp2; go_loopw [12] (fun i wr => ∃ j : Nat, j ≤ len ∧ i = .int .i64 j ∧ (∀ k (hk : k < gs.length), k < j → ¬ (gs[k].a.c.n = n ∧ gs[k].a.c.s = s)) ∧ Kp (w.alloc (.cells #[n, s] 36)) wr) (fun i _ => len - (intOf i).toNat)
 case atStart => exact ⟨0, Nat.zero_le _, rfl, fun k _ h => by omega, Kp.refl _⟩
 case round =>
  obtain ⟨j, hj, rfl, hq, hk⟩ := hrel; obtain ⟨KR, HQ⟩ := hD2 hk hq; obtain ⟨jj, hjj⟩ : ∃ jj : Int, (j : Int) = jj := ⟨_, rfl⟩
  rw [hjj]; have HJ := hD hjj; have hLL := HLL.out
  by_cases hlt : j < len
  ·have hjl : jj < L := by omega
   have hj0 : 0 ≤ jj := by omega
   have hL8 : L ≤ 8 := by have := HL.out; have := H8.out; omega
   have htn : jj.toNat = j := by omega
   have ow := (HH.out.kp (kT KB.out hk)).oa; rw [HL.out] at ow; obtain ⟨g, cp, ev, hcp, hgB, hgl, hfz, hcell⟩ := cQ (E := acE) ow HL.out hlt; injection ev with ev _ _
   subst ev; have hjo : j < gs.length := by have := HL.out; omega
   obtain ⟨⟨⟨⟨xn, xs, xo, xd, xx⟩, xp, xc, xr⟩, xb, xk⟩, hx⟩ : ∃ x, gs[j]'hjo = x := ⟨_, rfl⟩
   rw [hx, show acE.k = 8 from rfl, ← htn] at hcell; obtain ⟨xv, hxv⟩ : ∃ v, (⟨⟨⟨xn, xs, xo, xd, xx⟩, xp, xc, xr⟩, xb, xk⟩ : AcG).v = v := ⟨_, rfl⟩
   obtain ⟨x0, x1, x2, x3, x4, x5, x6, -⟩ := cW8 hcell; have x7 : wr.cell? ⟨g, jj.toNat * 8 + 7, none⟩ = some xv := by rw [← hxv]; exact hcell 7 _ (by decide) rfl
   obtain ⟨av, nv, cv, exv⟩ : ∃ a n c, xv = .slice a n c := ⟨_, _, _, hxv.symm⟩
   subst exv; have hbox := (mH wr (.cells #[xn, xs, xo, xd, xx, xp, xc, .slice av nv cv] 89))
   have y0 : (wr.alloc (.cells #[xn, xs, xo, xd, xx, xp, xc, .slice av nv cv] 89)).cell? ⟨wr.heap.size, 0, none⟩ = some (.int .i64 xn) := cU (i := 0) hbox rfl; have y1 : (wr.alloc (.cells #[xn, xs, xo, xd, xx, xp, xc, .slice av nv cv] 89)).cell? ⟨wr.heap.size, 1, none⟩ = some (.int .i64 xs) := cU (i := 1) hbox rfl; have y5 : (wr.alloc (.cells #[xn, xs, xo, xd, xx, xp, xc, .slice av nv cv] 89)).cell? ⟨wr.heap.size, 5, none⟩ = some (.int .i64 xp) := cU (i := 5) hbox rfl; clear hbox; have b0 : wr.cell? ⟨w.heap.size, 0, none⟩ = some (.int .i64 n) := kZ hk (cU (i := 0) HB.out rfl); have b1 : wr.cell? ⟨w.heap.size, 1, none⟩ = some (.int .i64 s) := kZ hk (cU (i := 1) HB.out rfl); have c0 := kZ (kA wr (.cells #[xn, xs, xo, xd, xx, xp, xc, .slice av nv cv] 89)) b0; have c1 := kZ (kA wr (.cells #[xn, xs, xo, xd, xx, xp, xc, .slice av nv cv] 89)) b1; have KN := hD (kT hk (kA wr (.cells #[xn, xs, xo, xd, xx, xp, xc, .slice av nv cv] 89)))
   obtain ⟨HX, HLT⟩ := hD2 hx hlt
   by_cases he : xn = n ∧ xs = s
   ·have HE := hD he; have heq : ∀ w, (binOp .eql 36 (.agg #[xn, xs]) (.agg #[n, s])).run Tryz.prog w = .ok (.bool true) w := fun w => by rw [act_eql9]; exact congrArg (fun b => Result.ok (Value.bool b) w) (dT he)
    have heg := fun op x y (w : World) => act_guard9 op x y xn xs n s w
    have HF : Hid (placeQ (List.findIdx? ((fun a : AcM => decide (a.c.n = n ∧ a.c.s = s)) ∘ AcG.a) gs) = jj) := hD (by
     rw [fi_at (p := (fun a : AcM => decide (a.c.n = n ∧ a.c.s = s)) ∘ AcG.a) hjo (fun i hi hij => dF (hq i hi hij)) (by show decide _ = true; rw [hx]; exact dT he)]; exact hjj)
    clear hcell hx hk hq hjj hj hlt he hLL htn hxv ow; go_wp2; go_ret; refine ⟨?_, kT KB.out KN.out⟩
    rw [← HR.out, HF.out]
    rfl
   ·have HE := hD he; have heq : ∀ w, (binOp .eql 36 (.agg #[xn, xs]) (.agg #[n, s])).run Tryz.prog w = .ok (.bool false) w := fun w => by rw [act_eql9]; exact congrArg (fun b => Result.ok (Value.bool b) w) (dF he)
    have heg := fun op x y (w : World) => act_guard9 op x y xn xs n s w
    have hw1 : wrap64 (jj + 1) = jj + 1 := IntWalk.wrap64_in _ (by omega); clear hcell hx hk hq hjj hj hlt he hLL htn hxv ow; go_wp2; go_roundw
    case rel => exact ⟨j + 1, by have := HLT.out; omega, by have := HJ.out; rw [show ((j + 1 : Nat) : Int) = jj + 1 by omega], fun k hk hk2 => by
     rcases Nat.lt_or_eq_of_le (Nat.le_of_lt_succ hk2) with g | rfl
     ·exact HQ.out k hk g
     ·rw [HX.out]; exact HE.out, KN.out⟩
    case measure => have := HJ.out; have := HLT.out; simp [intOf]; omega
  ·have hje : ¬ jj < L := by omega
   have HN := hD (fi_no (p := (fun a => decide (a.c.n = n ∧ a.c.s = s)) ∘ AcG.a) (l := gs) (fun i hi => dF (hq i hi (by have := HL.out; omega)))); clear hk hq hjj hj hlt hLL; go_wp2; go_ret; refine ⟨?_, kT KB.out KR.out⟩
   rw [← HR.out, HN.out]
   rfl
theorem refChild15 (H : GS tyD B q m gs va vp w) (h8 : gs.length ≤ 8) (p : Int) (hp : 0 ≤ p ∧ p ≤ 1000) : Calls Tryz.prog 30 #[.pointer (some ⟨q, 0, none⟩), .int .i64 p] w fun r w' => r = .returned (.int .i64 (placeQ (childS m.acts p))) ∧ Kp w w' := by
 obtain ⟨p1, hp1⟩ : ∃ x, p + 1 = x := ⟨_, rfl⟩
 have gp : decide (p ≥ 0) = true := dT hp.1; have wp : wrap64 (p + 1) = p1 := by rw [IntWalk.wrap64_in _ (by omega)]; exact hp1
 have HP := hD hp1; have hch : childS m.acts p = m.acts.findIdx? (fun a => decide (a.par = p + 1)) := by unfold childS; rw [if_neg (by omega)]
 rw [hch, hp1]; have hp2 : 0 ≤ p := hp.1; clear hp hch hp1
 skip
 rw [H.acts, List.findIdx?_map]; obtain ⟨R, hR⟩ : ∃ R, placeQ (List.findIdx? ((fun a : AcM => decide (a.par = p1)) ∘ AcG.a) gs) = R := ⟨_, rfl⟩
 rw [hR]; have HR := hD hR; clear hR; obtain ⟨a0, c0, rfl⟩ := H.vForm; obtain ⟨len, hl⟩ : ∃ x, gs.length = x := ⟨_, rfl⟩
 have e0 : w.cell? ⟨q, 2, none⟩ = some (.slice a0 len c0) := by rw [← hl]; exact cU (i := 2) H.row rfl
 obtain ⟨L, hL⟩ : ∃ L : Int, (len : Int) = L := ⟨_, rfl⟩
 obtain ⟨HH, HL, HLL, H8⟩ := hD4 H hl hL h8; have hsf := sF; clear H hl h8; go_enter Tryz.func30, Tryz.ntmps30; go_wp2; go_loopw [12] (fun i wr => ∃ j : Nat, j ≤ len ∧ i = .int .i64 j ∧ (∀ k (hk : k < gs.length), k < j → ¬ gs[k].a.par = p1) ∧ Kp w wr) (fun i _ => len - (intOf i).toNat)
 case atStart => exact ⟨0, Nat.zero_le _, rfl, fun k _ h => by omega, Kp.refl _⟩
 case round =>
  obtain ⟨j, hj, rfl, hq, hk⟩ := hrel; obtain ⟨KR, HQ⟩ := hD2 hk hq; obtain ⟨jj, hjj⟩ : ∃ jj : Int, (j : Int) = jj := ⟨_, rfl⟩
  rw [hjj]; have HJ := hD hjj; have hLL := HLL.out
  by_cases hlt : j < len
  ·have hjl : jj < L := by omega
   have hj0 : 0 ≤ jj := by omega
   have hL8 : L ≤ 8 := by have := HL.out; have := H8.out; omega
   have htn : jj.toNat = j := by omega
   have ow := (HH.out.kp (hk)).oa; rw [HL.out] at ow; obtain ⟨g, cp, ev, hcp, hgB, hgl, hfz, hcell⟩ := cQ (E := acE) ow HL.out hlt; injection ev with ev _ _
   subst ev; have hjo : j < gs.length := by have := HL.out; omega
   obtain ⟨⟨⟨⟨xn, xs, xo, xd, xx⟩, xp, xc, xr⟩, xb, xk⟩, hx⟩ : ∃ x, gs[j]'hjo = x := ⟨_, rfl⟩
   rw [hx, show acE.k = 8 from rfl, ← htn] at hcell; obtain ⟨xv, hxv⟩ : ∃ v, (⟨⟨⟨xn, xs, xo, xd, xx⟩, xp, xc, xr⟩, xb, xk⟩ : AcG).v = v := ⟨_, rfl⟩
   obtain ⟨x0, x1, x2, x3, x4, x5, x6, -⟩ := cW8 hcell; have x7 : wr.cell? ⟨g, jj.toNat * 8 + 7, none⟩ = some xv := by rw [← hxv]; exact hcell 7 _ (by decide) rfl
   obtain ⟨av, nv, cv, exv⟩ : ∃ a n c, xv = .slice a n c := ⟨_, _, _, hxv.symm⟩
   subst exv; have hbox := (mH wr (.cells #[xn, xs, xo, xd, xx, xp, xc, .slice av nv cv] 89))
   have y0 : (wr.alloc (.cells #[xn, xs, xo, xd, xx, xp, xc, .slice av nv cv] 89)).cell? ⟨wr.heap.size, 0, none⟩ = some (.int .i64 xn) := cU (i := 0) hbox rfl; have y1 : (wr.alloc (.cells #[xn, xs, xo, xd, xx, xp, xc, .slice av nv cv] 89)).cell? ⟨wr.heap.size, 1, none⟩ = some (.int .i64 xs) := cU (i := 1) hbox rfl; have y5 : (wr.alloc (.cells #[xn, xs, xo, xd, xx, xp, xc, .slice av nv cv] 89)).cell? ⟨wr.heap.size, 5, none⟩ = some (.int .i64 xp) := cU (i := 5) hbox rfl; clear hbox; have KN := hD (kT hk (kA wr (.cells #[xn, xs, xo, xd, xx, xp, xc, .slice av nv cv] 89))); obtain ⟨HX, HLT⟩ := hD2 hx hlt
   by_cases he : xp = p1
   ·have HE := hD he; have hpt : (xp == p1) = true := beq_iff_eq.2 he; have HF : Hid (placeQ (List.findIdx? ((fun a : AcM => decide (a.par = p1)) ∘ AcG.a) gs) = jj) := hD (by
     rw [fi_at (p := (fun a : AcM => decide (a.par = p1)) ∘ AcG.a) hjo (fun i hi hij => dF (hq i hi hij)) (by show decide _ = true; rw [hx]; exact dT he)]; exact hjj)
    clear hcell hx hk hq hjj hj hlt he hLL htn hxv ow; go_wp2; go_ret; refine ⟨?_, KN.out⟩
    rw [← HR.out, HF.out]
    rfl
   ·have HE := hD he; have hpt : (xp == p1) = false := by simpa using he
    have hw1 : wrap64 (jj + 1) = jj + 1 := IntWalk.wrap64_in _ (by omega); clear hcell hx hk hq hjj hj hlt he hLL htn hxv ow; go_wp2; go_roundw
    case rel => exact ⟨j + 1, by have := HLT.out; omega, by have := HJ.out; rw [show ((j + 1 : Nat) : Int) = jj + 1 by omega], fun k hk hk2 => by
     rcases Nat.lt_or_eq_of_le (Nat.le_of_lt_succ hk2) with g | rfl
     ·exact HQ.out k hk g
     ·rw [HX.out]; exact HE.out, KN.out⟩
    case measure => have := HJ.out; have := HLT.out; simp [intOf]; omega
  ·have hje : ¬ jj < L := by omega
   have HN := hD (fi_no (p := (fun a => decide (a.par = p1)) ∘ AcG.a) (l := gs) (fun i hi => dF (hq i hi (by have := HL.out; omega)))); clear hk hq hjj hj hlt hLL; go_wp2; go_ret; refine ⟨?_, KR.out⟩
   rw [← HR.out, HN.out]
   rfl
theorem al4_0 (w : World) (o1 o2 o3 o4 : Obj) : ((((w.alloc o1).alloc o2).alloc o3).alloc o4).heap[w.heap.size]? = some o1 := by
 rw [Below.heap_alloc _ _ _ (by simp <;> omega), Below.heap_alloc _ _ _ (by simp <;> omega), Below.heap_alloc _ _ _ (by simp)]; exact (mH w o1)
theorem al4_1 (w : World) (o1 o2 o3 o4 : Obj) : ((((w.alloc o1).alloc o2).alloc o3).alloc o4).heap[w.heap.size + 1]? = some o2 := by
 rw [Below.heap_alloc _ _ _ (by simp <;> omega), Below.heap_alloc _ _ _ (by simp)]; have := (mH (w.alloc o1) o2)
 simpa using this
theorem al4_2 (w : World) (o1 o2 o3 o4 : Obj) : ((((w.alloc o1).alloc o2).alloc o3).alloc o4).heap[w.heap.size + 1 + 1]? = some o3 := by
 rw [Below.heap_alloc _ _ _ (by simp)]; have := (mH ((w.alloc o1).alloc o2) o3)
 simpa using this
theorem al4_3 (w : World) (o1 o2 o3 o4 : Obj) : ((((w.alloc o1).alloc o2).alloc o3).alloc o4).heap[w.heap.size + 1 + 1 + 1]? = some o4 := by
 have := (mH (((w.alloc o1).alloc o2).alloc o3) o4)
 simpa using this
def turnOk (z : SeatM) (t h : Int) : Bool := decide (z.s ≠ 14) && SeatM.right ⟨z.p, z.e, t, h⟩
theorem turnS_eq (z : SeatM) (t h : Int) : turnS z t h = if turnOk z t h = true then some ⟨z.p, z.e, t, h⟩ else none := by
 unfold turnS turnOk
 simp
theorem refTurned15 (z : SeatM) (f : FX) (w : World) : Calls Tryz.prog 31 #[.agg (seatV z), .agg f.cells] w fun r w' => r = .returned (.tuple #[.agg (seatV ⟨z.p, z.e, f.t, f.h⟩), .bool (turnOk z f.t f.h)]) ∧ Kp w w' := by
 obtain ⟨p, e, s, h⟩ := z; obtain ⟨fk, fn, fs, fr, fe, fp, fq, fo, fd, fa, ft, fh, fc, fx⟩ := f; dsimp only [seatV, FX.cells]; have HR := hD (fun w => refSeatRt_any ⟨p, e, ft, fh⟩ w); dsimp only [seatV] at HR; obtain ⟨b, hb⟩ : ∃ b, SeatM.right ⟨p, e, ft, fh⟩ = b := ⟨_, rfl⟩
 rw [hb] at HR; have hk : Kp w ((((w.alloc (.cells #[p, e, s, h] 90)).alloc (.cells #[fk, fn, fs, fr, fe, fp, fq, fo, fd, fa, ft, fh, fc, fx] 42)).alloc (.cells #[(0:Int), (0:Int), (0:Int), (0:Int)] 90)).alloc (.cells #[p, e, ft, fh] 90)) := kT (kT (kT (kA _ _) (kA _ _)) (kA _ _)) (kA _ _); have r0 := al4_0 w (.cells #[p, e, s, h] 90) (.cells #[fk, fn, fs, fr, fe, fp, fq, fo, fd, fa, ft, fh, fc, fx] 42) (.cells #[(0:Int), (0:Int), (0:Int), (0:Int)] 90) (.cells #[p, e, ft, fh] 90); have r2 := al4_2 w (.cells #[p, e, s, h] 90) (.cells #[fk, fn, fs, fr, fe, fp, fq, fo, fd, fa, ft, fh, fc, fx] 42) (.cells #[(0:Int), (0:Int), (0:Int), (0:Int)] 90) (.cells #[p, e, ft, fh] 90); have r3 := al4_3 w (.cells #[p, e, s, h] 90) (.cells #[fk, fn, fs, fr, fe, fp, fq, fo, fd, fa, ft, fh, fc, fx] 42) (.cells #[(0:Int), (0:Int), (0:Int), (0:Int)] 90) (.cells #[p, e, ft, fh] 90); obtain ⟨f0, f1, f2, f3, f4, f5, f6, f7, f8, f9, f10, f11, f12, f13⟩ := cZ (al4_1 w (.cells #[p, e, s, h] 90) (.cells #[fk, fn, fs, fr, fe, fp, fq, fo, fd, fa, ft, fh, fc, fx] 42) (.cells #[(0:Int), (0:Int), (0:Int), (0:Int)] 90) (.cells #[p, e, ft, fh] 90))
 obtain ⟨c0, c1, c2, c3⟩ := cells_4 r0; obtain ⟨d0, d1, d2, d3⟩ := cells_4 r3; obtain ⟨W, hW⟩ : ∃ W, ((((w.alloc (.cells #[p, e, s, h] 90)).alloc (.cells #[fk, fn, fs, fr, fe, fp, fq, fo, fd, fa, ft, fh, fc, fx] 42)).alloc (.cells #[(0:Int), (0:Int), (0:Int), (0:Int)] 90)).alloc (.cells #[p, e, ft, fh] 90)) = W := ⟨_, rfl⟩
 rw [hW] at hk r2 r3 c0 c1 c2 c3 d0 d1 d2 d3 f0 f1 f2 f3 f4 f5 f6 f7 f8 f9 f10 f11 f12 f13; have K4 := hD hk; have R2 : Hid (W.drew.heap[w.heap.size + 1 + 1]? = some (.cells #[(0:Int), (0:Int), (0:Int), (0:Int)] 90)) := hD r2; have fz := fQ r2; obtain ⟨v0, v1, v2, v3⟩ := cells_4 r2; have R3 : Hid (W.drew.heap[w.heap.size + 1 + 1 + 1]? = some (.cells #[p, e, ft, fh] 90)) := hD r3; unfold turnOk; dsimp only; rw [hb]; have hsf := sF; clear hk r0 r2 r3 hb
 by_cases hs : s = 14
 ·subst hs; have n14 : decide ((14 : Int) ≠ 14) = false := rfl; rw [n14]; clear n14; go_enter Tryz.func31, Tryz.ntmps31; go_wp2_with fail
  go_region
  all_goals go_wp2
  all_goals refine bodyPost_ret (rQ (p := 4) (u := 5) rfl _ _ (w.heap.size + 1 + 1) 90 _ (0, 0) _ rfl (set_4 (.int .i64 p) (.int .i64 e) (.int .i64 ft) (.int .i64 fh) R2.out) Tryz.underlying90 rfl (by kernel_rfl)) rfl ?_
  all_goals exact ⟨rfl, set_4_kp (dQ K4.out) (by omega) _ _ _ _⟩
 ·have b14 : (s == 14) = false := by simpa using hs
  have n14 : decide (s ≠ 14) = true := dT hs; rw [n14]; have m14 : (s != 14) = true := by simp [hs]
  clear n14; go_enter Tryz.func31, Tryz.ntmps31; go_wp2_with fail
  go_region_with (go_at_call 78; (with_reducible refine (HR.out _).mono ?_); rintro e' w5 ⟨rfl, hk5⟩; have K5 := hD hk5; have R5 := hD (rZ hk5 (show W.drew.heap[_]? = _ from R2.out)); have fz5 := fQ R5.out; obtain ⟨z0, z1, z2, z3⟩ := cells_4 R5.out; obtain ⟨y0, y1, y2, y3⟩ := cells_4 (rZ hk5 (show W.drew.heap[_]? = _ from R3.out)); clear hk5)
  all_goals go_wp2
  all_goals refine bodyPost_ret (rQ (p := 4) (u := 5) rfl _ _ (w.heap.size + 1 + 1) 90 _ (0, 0) _ rfl (set_4 (.int .i64 p) (.int .i64 e) (.int .i64 ft) (.int .i64 fh) R5.out) Tryz.underlying90 rfl (by kernel_rfl)) rfl ?_
  all_goals exact ⟨rfl, set_4_kp (kT (dQ K4.out) K5.out) (by omega) _ _ _ _⟩
def set4Q (w : World) (g i : Nat) (z : SeatM) : World := (((w.setCell ⟨g, i, none⟩ (.int .i64 z.p)).setCell ⟨g, i + 1, none⟩ (.int .i64 z.e)).setCell ⟨g, i + 2, none⟩ (.int .i64 z.s)).setCell ⟨g, i + 3, none⟩ (.int .i64 z.h)
variable {T : TyQ} {B q : Nat} {m : StM} {gs gs' : List AcG} {va vp va' vp' : Value} {w w' W w3 : World}
theorem set_set' {α : Type} (l : List α) (i : Nat) (x y : α) : (l.set i x).set i y = l.set i y := by simp
theorem GS.seatP {g n cp j : Nat} {x : PaM} (h : GS T B q m gs va (.slice (some ⟨g, 0, none⟩) n cp) w) (ok : T.Ok) (hx : m.parts[j]? = some x) (z : SeatM) :
  GS T B q { m with parts := m.parts.set j { x with z := z } } gs va (.slice (some ⟨g, 0, none⟩) n cp) (set4Q w g (j * 7 + 3) z) ∧ Asd (Ow q gs va (.slice (some ⟨g, 0, none⟩) n cp)) (Ow q gs va (.slice (some ⟨g, 0, none⟩) n cp)) w (set4Q w g (j * 7 + 3) z) := by
 obtain ⟨hj, hxj⟩ := List.getElem?_eq_some_iff.1 hx; obtain ⟨xn, xs, xr, ⟨xp, xe, xt, xh⟩⟩ := x; have a1 := h.setP ok hx (i := 3) (x' := ⟨xn, xs, xr, ⟨z.p, xe, xt, xh⟩⟩) (y := .int .i64 z.p) (by decide) rfl; have a2 := a1.1.setP ok (j := j) (x := ⟨xn, xs, xr, ⟨z.p, xe, xt, xh⟩⟩) (by simp [hj]) (i := 4) (x' := ⟨xn, xs, xr, ⟨z.p, z.e, xt, xh⟩⟩) (y := .int .i64 z.e) (by decide) rfl; have a3 := a2.1.setP ok (j := j) (x := ⟨xn, xs, xr, ⟨z.p, z.e, xt, xh⟩⟩) (by simp [hj]) (i := 5) (x' := ⟨xn, xs, xr, ⟨z.p, z.e, z.s, xh⟩⟩) (y := .int .i64 z.s) (by decide) rfl; have a4 := a3.1.setP ok (j := j) (x := ⟨xn, xs, xr, ⟨z.p, z.e, z.s, xh⟩⟩) (by simp [hj]) (i := 6) (x' := ⟨xn, xs, xr, z⟩) (y := .int .i64 z.h) (by decide) rfl; refine ⟨?_, ((a1.2.trans a2.2).trans a3.2).trans a4.2⟩
 have := a4.1; simp only [set_set'] at this
 exact this
theorem GS.seatR {gr cr j k : Nat} {a : AcM} {r : RgM} (h : GS T B q m gs va vp w) (ok : T.Ok) (hx : gs[j]? = some ⟨a, some ⟨gr, 0, none⟩, cr⟩) (hk : a.regs[k]? = some r) (z : SeatM) :
  GS T B q { m with acts := m.acts.set j { a with regs := a.regs.set k { r with z := z } } } (gs.set j ⟨{ a with regs := a.regs.set k { r with z := z } }, some ⟨gr, 0, none⟩, cr⟩) va vp (set4Q w gr (k * 6 + 2) z) ∧
   Asd (Ow q gs va vp) (Ow q (gs.set j ⟨{ a with regs := a.regs.set k { r with z := z } }, some ⟨gr, 0, none⟩, cr⟩) va vp) w (set4Q w gr (k * 6 + 2) z) := by
 obtain ⟨hj, hxj⟩ := List.getElem?_eq_some_iff.1 hx; obtain ⟨hk2, hkk⟩ := List.getElem?_eq_some_iff.1 hk; obtain ⟨c, par, dec, regs⟩ := a; obtain ⟨xn, xs, ⟨xp, xe, xt, xh⟩⟩ := r; dsimp only at hk hk2 hkk; have a1 := h.setR ok hx hk (i := 2) (r' := ⟨xn, xs, ⟨z.p, xe, xt, xh⟩⟩) (y := .int .i64 z.p) (by decide) rfl; have a2 := a1.1.setR ok (j := j) (k := k) (a := ⟨c, par, dec, regs.set k ⟨xn, xs, ⟨z.p, xe, xt, xh⟩⟩⟩) (gr := gr) (cr := cr) (by simp [hj]) (r := ⟨xn, xs, ⟨z.p, xe, xt, xh⟩⟩) (by simp [hk2]) (i := 3) (r' := ⟨xn, xs, ⟨z.p, z.e, xt, xh⟩⟩) (y := .int .i64 z.e) (by decide) rfl; have a3 := a2.1.setR ok (j := j) (k := k) (a := ⟨c, par, dec, (regs.set k ⟨xn, xs, ⟨z.p, xe, xt, xh⟩⟩).set k ⟨xn, xs, ⟨z.p, z.e, xt, xh⟩⟩⟩) (gr := gr) (cr := cr) (by simp [hj]) (r := ⟨xn, xs, ⟨z.p, z.e, xt, xh⟩⟩) (by simp [hk2]) (i := 4) (r' := ⟨xn, xs, ⟨z.p, z.e, z.s, xh⟩⟩) (y := .int .i64 z.s) (by decide) rfl
 have a4 := a3.1.setR ok (j := j) (k := k) (a := ⟨c, par, dec, ((regs.set k ⟨xn, xs, ⟨z.p, xe, xt, xh⟩⟩).set k ⟨xn, xs, ⟨z.p, z.e, xt, xh⟩⟩).set k ⟨xn, xs, ⟨z.p, z.e, z.s, xh⟩⟩⟩) (gr := gr) (cr := cr) (by simp [hj]) (r := ⟨xn, xs, ⟨z.p, z.e, z.s, xh⟩⟩) (by simp [hk2]) (i := 5) (r' := ⟨xn, xs, z⟩) (y := .int .i64 z.h) (by decide) rfl; simp only [set_set'] at a1 a2 a3 a4
 exact ⟨a4.1, ((a1.2.trans a2.2).trans a3.2).trans a4.2⟩
end Go.Proofs.YtpemeenfhkgmpaaGreatDoor
