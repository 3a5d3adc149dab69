/- Parts of this proof (own work). -/
import Derived.Test.YtpemeenfhkgmpaaGreatDoorZf22
import Derived.ChangeKeysEq
set_option maxRecDepth 100000
set_option maxHeartbeats 40000000
namespace Go.Proofs.YtpemeenfhkgmpaaGreatDoor
open Go.RowKit Go.ChangeShapes Go.WideShapes
def i64T (x : Int) : Prop := -9223372036854775808 ≤ x ∧ x ≤ 9223372036854775807
instance (x : Int) : Decidable (i64T x) := by unfold i64T; infer_instance
structure TabC (ads : List Addr) (w : World) : Prop where
 waits : ∀ w1, Kp w w1 → ∀ p e s : Int, i64T p → i64T e → i64T s → Calls Tryz.prog 160 #[.int .i64 p, .int .i64 e, .int .i64 s] w1 fun e' w' => e' = .returned (.tuple #[.int .i64 (waitsT p e s).2, errI ads (waitsT p e s).1]) ∧ Kp w1 w'
theorem TabC.kp {ads : List Addr} {w w' : World} (C : TabC ads w) (hk : Kp w w') : TabC ads w' where
 waits := fun w1 h => C.waits w1 (kT hk h)
theorem errI_ifaceM (ads : List Addr) (k : Int) (h : k ≠ 0) : ∃ q, errI ads k = .iface 240 (.pointer q) := ⟨_, if_neg h⟩
def howOk (z : SeatM) : Bool := if z.s = 14 then decide (z.h = 1 ∨ (4 ≤ z.h ∧ z.h ≤ 8)) else decide (z.h = 0)
theorem right_how (z : SeatM) : z.right = (rightT z.p z.e && hasT z.p z.e z.s && howOk z) := rfl
theorem msHow_any (z : SeatM) (w : World) : Calls Tryz.prog 161 #[.agg (seatV z)] w fun r w' => r = .returned (.bool (howOk z)) ∧ Kp w w' := by
 obtain ⟨p, e, s, h⟩ := z; dsimp only [seatV]; have KB := hD (kA w (.cells #[p, e, s, h] 67)); have HR := hD (mH w (.cells #[p, e, s, h] 67)); obtain ⟨g0, g1, g2, g3⟩ := cells_4 HR.out
 by_cases h14 : s = 14
 ·subst h14
  by_cases h1 : h = 1
  ·subst h1; rw [show howOk ⟨p, e, 14, 1⟩ = true by simp [howOk]]; (go_enter Tryz.func161, Tryz.ntmps161; go_wp2; go_ret; exact ⟨rfl, KB.out⟩)
  by_cases h4 : h = 4
  ·subst h4; rw [show howOk ⟨p, e, 14, 4⟩ = true by simp [howOk]]; (go_enter Tryz.func161, Tryz.ntmps161; go_wp2; go_ret; exact ⟨rfl, KB.out⟩)
  by_cases h5 : h = 5
  ·subst h5; rw [show howOk ⟨p, e, 14, 5⟩ = true by simp [howOk]]; (go_enter Tryz.func161, Tryz.ntmps161; go_wp2; go_ret; exact ⟨rfl, KB.out⟩)
  by_cases h6 : h = 6
  ·subst h6; rw [show howOk ⟨p, e, 14, 6⟩ = true by simp [howOk]]; (go_enter Tryz.func161, Tryz.ntmps161; go_wp2; go_ret; exact ⟨rfl, KB.out⟩)
  by_cases h7 : h = 7
  ·subst h7; rw [show howOk ⟨p, e, 14, 7⟩ = true by simp [howOk]]; (go_enter Tryz.func161, Tryz.ntmps161; go_wp2; go_ret; exact ⟨rfl, KB.out⟩)
  by_cases h8 : h = 8
  ·subst h8; rw [show howOk ⟨p, e, 14, 8⟩ = true by simp [howOk]]; (go_enter Tryz.func161, Tryz.ntmps161; go_wp2; go_ret; exact ⟨rfl, KB.out⟩)
  have b1 : (h == 1) = false := by simpa using h1
  have b4 : (h == 4) = false := by simpa using h4
  have b5 : (h == 5) = false := by simpa using h5
  have b6 : (h == 6) = false := by simpa using h6
  have b7 : (h == 7) = false := by simpa using h7
  have b8 : (h == 8) = false := by simpa using h8
  rw [show howOk ⟨p, e, 14, h⟩ = false by simp only [howOk, if_true]; exact dF (by omega)]; clear h1 h4 h5 h6 h7 h8
  (go_enter Tryz.func161, Tryz.ntmps161; go_wp2; go_ret; exact ⟨rfl, KB.out⟩)
 ·rw [show howOk ⟨p, e, s, h⟩ = (h == 0) by simp [howOk, h14]; rw [Bool.eq_iff_iff]; simp]; have b14 : (s == 14) = false := by simpa using h14
  clear h14
  (go_enter Tryz.func161, Tryz.ntmps161; go_wp2; go_ret; exact ⟨rfl, KB.out⟩)
theorem msRight_any {ads : List Addr} (z : SeatM) (hz : z.ok) (w : World) (T : TabC ads w) : Calls Tryz.prog 148 #[.agg (seatV z)] w fun r w' => r = .returned (.bool z.right) ∧ Kp w w' := by
 obtain ⟨p, e, s, h⟩ := z; obtain ⟨ip, ie, is, -⟩ := hz; dsimp only [seatV]; have KB := hD (kA w (.cells #[p, e, s, h] 67)); have HR := hD (mH w (.cells #[p, e, s, h] 67)); obtain ⟨g0, g1, g2, g3⟩ := cells_4 HR.out; have hw := T.waits _ KB.out p e s ip ie is; rw [right_how]; clear ip ie is T; dsimp only
 cases hr : rightT p e with
 | false =>
  obtain ⟨q, hq⟩ := errI_ifaceM ads 14 (by decide); simp only [waitsT, hr, if_true, hq] at hw
  have HW := hD hw; clear hw hr hq; go_enter Tryz.func148, Tryz.ntmps148; go_wp2_with (go_at_call 160; (with_reducible refine HW.out.mono ?_); rintro e' w1 ⟨rfl, hk⟩; have K1 := hD (kT KB.out hk); have R1 := rZ hk HR.out; obtain ⟨q0, q1, q2, q3⟩ := cells_4 R1; clear hk)
  go_ret; exact ⟨rfl, K1.out⟩
 | true =>
  cases hs : hasT p e s with
  | false =>
   obtain ⟨q, hq⟩ := errI_ifaceM ads 1 (by decide); simp only [waitsT, hr, hs, if_true, if_false, Bool.true_eq_false, hq] at hw
   have HW := hD hw; clear hw hr hs hq; go_enter Tryz.func148, Tryz.ntmps148; go_wp2_with (go_at_call 160; (with_reducible refine HW.out.mono ?_); rintro e' w1 ⟨rfl, hk⟩; have K1 := hD (kT KB.out hk); have R1 := rZ hk HR.out; obtain ⟨q0, q1, q2, q3⟩ := cells_4 R1; clear hk)
   go_ret; exact ⟨rfl, K1.out⟩
  | true =>
   simp only [waitsT, hr, hs, if_false, Bool.true_eq_false, eN] at hw
   have HW := hD hw; have HH := hD (fun w => msHow_any ⟨p, e, s, h⟩ w); dsimp only [seatV] at HH; obtain ⟨b, hb⟩ : ∃ b, howOk ⟨p, e, s, h⟩ = b := ⟨_, rfl⟩
   rw [hb] at HH ⊢; clear hw hr hs hb; go_enter Tryz.func148, Tryz.ntmps148; go_wp2_with (first | (go_at_call 160; (with_reducible refine HW.out.mono ?_); rintro e' w1 ⟨rfl, hk⟩; have K1 := hD (kT KB.out hk); have R1 := rZ hk HR.out; obtain ⟨q0, q1, q2, q3⟩ := cells_4 R1; clear hk) | (go_at_call 161; (with_reducible refine (HH.out _).mono ?_); rintro e' w2 ⟨rfl, hk⟩; have K2 := hD (kT K1.out hk); clear hk))
   go_ret; exact ⟨by simp, K2.out⟩
theorem results_row_tmpT {P : Program} {fn : Func} {p u : Tmp} {ty : TypeId} (h : fn.results = #[.cell p ty, .tmp u]) (tmps : Array Value) (w : World) (g : Nat) (t : TypeId) (cs : Array Value) (fr : Nat × Nat) (d : TypeDesc)
  (hp : tmps.getD p undef = .pointer (some ⟨g, 0, none⟩)) (hg : w.heap[g]? = some (.cells cs t fr))
  (hu : P.underlying ty = some d) (hd : (match d with | .struct _ | .array _ _ => true | _ => false) = true) (hi : (P.info? ty).map (·.size) = some cs.size) :
  (results fn tmps).run P w = .ok (.tuple #[.agg cs, tmps.getD u undef]) w := by
 have hp' : tmps[p]?.getD undef = .pointer (some ⟨g, 0, none⟩) := by simpa using hp
 simp [results, h, hp', asAddr, run_loadVar_row w g t ty cs fr d hg hu hd hi]
theorem hasT_rng {p e s : Int} (h : hasT p e s = true) : s = 1 ∨ s = 2 ∨ s = 3 ∨ s = 4 ∨ s = 5 ∨ s = 6 ∨ s = 7 ∨ s = 8 ∨ s = 9 ∨ s = 10 ∨ s = 11 ∨ s = 12 ∨ s = 13 ∨ s = 14 := by
 unfold hasT at h
 split at h
 ·omega
 split at h
 ·omega
 ·have := of_decide_eq_true h; omega
theorem rightT_rng {p e : Int} (h : rightT p e = true) : (p = 1 ∨ p = 2) ∧ (e = 1 ∨ e = 2) := of_decide_eq_true h
theorem set_4_drew {b : Nat} {t : TypeId} {w : World} {x0 x1 x2 x3 : Value} (y0 y1 y2 y3 : Value) (h : w.heap[b]? = some (.cells #[x0, x1, x2, x3] t (0, 0))) : ((((w.setCell ⟨b, 0, none⟩ y0).setCell ⟨b, 1, none⟩ y1).setCell ⟨b, 2, none⟩ y2).setCell ⟨b, 3, none⟩ y3).drew.heap[b]? = some (.cells #[y0, y1, y2, y3] t (0, 0)) := by rw [drew_heapM]; exact set_4 y0 y1 y2 y3 h
theorem set_4_kpd {b : Nat} {w0 w : World} (hk : Kp w0 w) (hb : w0.heap.size ≤ b) (y0 y1 y2 y3 : Value) : Kp w0 ((((w.setCell ⟨b, 0, none⟩ y0).setCell ⟨b, 1, none⟩ y1).setCell ⟨b, 2, none⟩ y2).setCell ⟨b, 3, none⟩ y3).drew := kp_drewM (set_4_kp hk hb y0 y1 y2 y3)
theorem msNew_no {ads : List Addr} (p e : Int) (ip : i64M p) (ie : i64M e) (hr : rightT p e = false) (w : World) (T : TabC ads w) (ce : w.cell? ⟨13, 0, none⟩ = some (errI ads 14)) : Calls Tryz.prog 147 #[.int .i64 p, .int .i64 e] w fun r w' => r = .returned (.tuple #[.agg #[(0:Int), (0:Int), (0:Int), (0:Int)], errI ads 14]) ∧ Kp w w' := by
 have hn : SeatM.right ⟨p, e, 1, 0⟩ = false := by simp only [right_how, hr]; rfl
 have HRt := hD (fun w1 (hk : Kp w w1) => (show Calls Tryz.prog 148 #[.agg #[p, e, (1:Int), (0:Int)]] w1 fun r w' => r = .returned (.bool false) ∧ Kp w1 w' from hn ▸ msRight_any (ads := ads) ⟨p, e, 1, 0⟩ ⟨ip, ie, (by decide : i64M 1), (by decide : i64M 0)⟩ w1 (T.kp hk))); have KW := hD (kT (kA w (.cells #[(0:Int), (0:Int), (0:Int), (0:Int)] 67)) (kA (w.alloc (.cells #[(0:Int), (0:Int), (0:Int), (0:Int)] 67)) (.cells #[p, e, (1:Int), (0:Int)] 67))); have HZ := hD (show ((w.alloc (.cells #[(0:Int), (0:Int), (0:Int), (0:Int)] 67)).alloc (.cells #[p, e, (1:Int), (0:Int)] 67)).heap[w.heap.size]? = some (.cells #[(0:Int), (0:Int), (0:Int), (0:Int)] 67) from rZ (kA _ _) (mH w (.cells #[(0:Int), (0:Int), (0:Int), (0:Int)] 67))); have HX := hD (show ((w.alloc (.cells #[(0:Int), (0:Int), (0:Int), (0:Int)] 67)).alloc (.cells #[p, e, (1:Int), (0:Int)] 67)).heap[w.heap.size + 1]? = some (.cells #[p, e, (1:Int), (0:Int)] 67) by have := (mH (w.alloc (.cells #[(0:Int), (0:Int), (0:Int), (0:Int)] 67)) (.cells #[p, e, (1:Int), (0:Int)] 67)); simpa using this)
 obtain ⟨g0, g1, g2, g3⟩ := cells_4 HX.out; have r0 := (mH (w.alloc (.cells #[(0:Int), (0:Int), (0:Int), (0:Int)] 67)) (.cells #[(0:Int), (0:Int), (0:Int), (0:Int)] 67))
 have s1 : (w.alloc (.cells #[(0:Int), (0:Int), (0:Int), (0:Int)] 67)).heap.size = w.heap.size + 1 := by simp
 rw [s1] at r0; have fr := frozN r0; obtain ⟨q, hq⟩ : ∃ x, errI ads 14 = x := ⟨_, rfl⟩
 rw [hq] at ce ⊢; have CE := hD ce; have lt : 13 < w.heap.size := World.block_lt_of_cell? w _ ce; have ne1 : ¬ w.heap.size = 13 := by omega
 have ne2 : ¬ 13 = w.heap.size := by omega
 clear hq ce lt; clear hn hr T ip ie r0 s1; go_enter Tryz.func147, Tryz.ntmps147; go_wp2_with (go_at_call 148; (with_reducible refine (HRt.out _ KW.out).mono ?_); rintro e' w2 ⟨rfl, hk⟩; have K2 := hD (kT KW.out hk); have Z2 := hD (rZ hk HZ.out); have X2 := rZ hk HX.out; obtain ⟨j0, j1, j2, j3⟩ := cells_4 X2; obtain ⟨z0, z1, z2, z3⟩ := cells_4 Z2.out; have fz := frozN Z2.out; clear hk; have ce2 := kZ K2.out CE.out)
 go_region
 go_wp2; refine bodyPost_ret (results_row_tmpT (p := 4) (u := 5) rfl _ _ w.heap.size 67 _ (0, 0) _ rfl (set_4_drew _ _ _ _ Z2.out) Tryz.underlying67 rfl (by kernel_rfl)) rfl ?_; exact ⟨rfl, set_4_kpd K2.out (Nat.le_refl _) _ _ _ _⟩
theorem msNew_ok {ads : List Addr} (p e : Int) (ip : i64M p) (ie : i64M e) (hr : rightT p e = true) (w : World) (T : TabC ads w) : Calls Tryz.prog 147 #[.int .i64 p, .int .i64 e] w fun r w' => r = .returned (.tuple #[.agg #[p, e, (1:Int), (0:Int)], .nilIface]) ∧ Kp w w' := by
 have hn : SeatM.right ⟨p, e, 1, 0⟩ = true := by simp only [right_how, hr]; simp [hasT, howOk]
 have HRt := hD (fun w1 (hk : Kp w w1) => (show Calls Tryz.prog 148 #[.agg #[p, e, (1:Int), (0:Int)]] w1 fun r w' => r = .returned (.bool true) ∧ Kp w1 w' from hn ▸ msRight_any (ads := ads) ⟨p, e, 1, 0⟩ ⟨ip, ie, (by decide : i64M 1), (by decide : i64M 0)⟩ w1 (T.kp hk))); have KW := hD (kT (kA w (.cells #[(0:Int), (0:Int), (0:Int), (0:Int)] 67)) (kA (w.alloc (.cells #[(0:Int), (0:Int), (0:Int), (0:Int)] 67)) (.cells #[p, e, (1:Int), (0:Int)] 67))); have HZ := hD (show ((w.alloc (.cells #[(0:Int), (0:Int), (0:Int), (0:Int)] 67)).alloc (.cells #[p, e, (1:Int), (0:Int)] 67)).heap[w.heap.size]? = some (.cells #[(0:Int), (0:Int), (0:Int), (0:Int)] 67) from rZ (kA _ _) (mH w (.cells #[(0:Int), (0:Int), (0:Int), (0:Int)] 67))); have HX := hD (show ((w.alloc (.cells #[(0:Int), (0:Int), (0:Int), (0:Int)] 67)).alloc (.cells #[p, e, (1:Int), (0:Int)] 67)).heap[w.heap.size + 1]? = some (.cells #[p, e, (1:Int), (0:Int)] 67) by have := (mH (w.alloc (.cells #[(0:Int), (0:Int), (0:Int), (0:Int)] 67)) (.cells #[p, e, (1:Int), (0:Int)] 67)); simpa using this)
 obtain ⟨g0, g1, g2, g3⟩ := cells_4 HX.out; have r0 := (mH (w.alloc (.cells #[(0:Int), (0:Int), (0:Int), (0:Int)] 67)) (.cells #[(0:Int), (0:Int), (0:Int), (0:Int)] 67))
 have s1 : (w.alloc (.cells #[(0:Int), (0:Int), (0:Int), (0:Int)] 67)).heap.size = w.heap.size + 1 := by simp
 rw [s1] at r0; have fr := frozN r0; clear hn hr T ip ie r0 s1; go_enter Tryz.func147, Tryz.ntmps147; go_wp2_with (go_at_call 148; (with_reducible refine (HRt.out _ KW.out).mono ?_); rintro e' w2 ⟨rfl, hk⟩; have K2 := hD (kT KW.out hk); have Z2 := hD (rZ hk HZ.out); have X2 := rZ hk HX.out; obtain ⟨j0, j1, j2, j3⟩ := cells_4 X2; obtain ⟨z0, z1, z2, z3⟩ := cells_4 Z2.out; have fz := frozN Z2.out; clear hk)
 refine bodyPost_ret (results_row_tmpT (p := 4) (u := 5) rfl _ _ w.heap.size 67 _ (0, 0) _ rfl (set_4 _ _ _ _ Z2.out) Tryz.underlying67 rfl (by kernel_rfl)) rfl ?_; exact ⟨rfl, set_4_kp K2.out (Nat.le_refl _) _ _ _ _⟩
theorem msNew_any {ads : List Addr} (p e : Int) (ip : i64M p) (ie : i64M e) (w : World) (T : TabC ads w) (ce : w.cell? ⟨13, 0, none⟩ = some (errI ads 14)) : Calls Tryz.prog 147 #[.int .i64 p, .int .i64 e] w fun r w' => r = .returned (.tuple #[.agg (seatV (newS p e)), errI ads (if rightT p e = true then 0 else 14)]) ∧ Kp w w' := by
 cases hr : rightT p e with
 | false =>
  rw [show newS p e = ⟨0, 0, 0, 0⟩ by simp [newS, hr], if_neg (by decide)]; exact msNew_no p e ip ie hr w T ce
 | true =>
  rw [show newS p e = ⟨p, e, 1, 0⟩ by simp [newS, hr], if_pos rfl]; exact msNew_ok p e ip ie hr w T
theorem arrInt : ∃ i : TypeInfo, Tryz.prog.info? 3 = some i := by
 have h : (Tryz.prog.info? 3).isSome = true := by kernel_rfl
 exact Option.isSome_iff_exists.1 h
theorem a2X {t : TypeId} (hu : Tryz.prog.underlying t = some (.array 2 3)) (a0 a1 b0 b1 : Int) (w : World) : (binOp .eql t (.agg #[a0, a1]) (.agg #[b0, b1])).run Tryz.prog w = .ok (.bool (a0 == b0 && (a1 == b1))) w := by
 obtain ⟨i, hi⟩ := arrInt; have hc : Tryz.prog.cellsOf 3 = 1 := by kernel_rfl
 rw [run_eql_struct, show (10000 : Nat) = 9999 + 1 from rfl, run_equalIn_array w 9999 _ _ hu hi, hc]
 simp [Op.eqItems, part, go_sem, List.range, List.range.loop, Tryz.underlying3]
 by_cases h0 : a0 = b0
 rotate_left
 ·simp [h0]
 subst h0
 by_cases h1 : a1 = b1
 ·simp [h1]
 ·simp [h1]
theorem aX (t : TypeId) (h : Tryz.prog.eqGuardType Tryz.prog.depth t = false) (op : BinOp) (x y : Operand) (xs ys : Array Value) (w : World) : (eqGuard op t x y (.agg xs) (.agg ys)).run Tryz.prog w = .ok () w := run_eqGuard_agg w op t x y _ _ h
theorem known_any (p e : Int) (w : World) : Calls Tryz.prog 167 #[.int .i64 p, .int .i64 e] w fun e' w' => e' = .returned (.bool (rightT p e)) ∧ w = w' := by
 by_cases hp1 : p = 1
 ·subst hp1
  by_cases he1 : e = 1
  ·subst he1; rw [show rightT 1 1 = true by decide]
   (go_enter Tryz.func167, Tryz.ntmps167; go_wp2; go_ret; exact ⟨by first | rfl | (simp [*]; done), rfl⟩)
  by_cases he2 : e = 2
  ·subst he2; rw [show rightT 1 2 = true by decide]
   (go_enter Tryz.func167, Tryz.ntmps167; go_wp2; go_ret; exact ⟨by first | rfl | (simp [*]; done), rfl⟩)
  rw [show rightT 1 e = false from dF (by omega)]; have c1 : (e == 1) = false := by simpa using he1
  have c2 : (e == 2) = false := by simpa using he2
  clear he1 he2
  (go_enter Tryz.func167, Tryz.ntmps167; go_wp2; go_ret; exact ⟨by first | rfl | (simp [*]; done), rfl⟩)
 by_cases hp2 : p = 2
 ·subst hp2
  by_cases he1 : e = 1
  ·subst he1; rw [show rightT 2 1 = true by decide]
   (go_enter Tryz.func167, Tryz.ntmps167; go_wp2; go_ret; exact ⟨by first | rfl | (simp [*]; done), rfl⟩)
  by_cases he2 : e = 2
  ·subst he2; rw [show rightT 2 2 = true by decide]
   (go_enter Tryz.func167, Tryz.ntmps167; go_wp2; go_ret; exact ⟨by first | rfl | (simp [*]; done), rfl⟩)
  rw [show rightT 2 e = false from dF (by omega)]; have c1 : (e == 1) = false := by simpa using he1
  have c2 : (e == 2) = false := by simpa using he2
  clear he1 he2
  (go_enter Tryz.func167, Tryz.ntmps167; go_wp2; go_ret; exact ⟨by first | rfl | (simp [*]; done), rfl⟩)
 rw [show rightT p e = false from dF (by omega)]; have c1 : (p == 1) = false := by simpa using hp1
 have c2 : (p == 2) = false := by simpa using hp2
 clear hp1 hp2
 (go_enter Tryz.func167, Tryz.ntmps167; go_wp2; go_ret; exact ⟨by first | rfl | (simp [*]; done), rfl⟩)
theorem has_any (p e s : Int) (w : World) : Calls Tryz.prog 168 #[.int .i64 p, .int .i64 e, .int .i64 s] w fun e' w' => e' = .returned (.bool (hasT p e s)) ∧ w = w' := by
 by_cases h4 : s = 4
 ·subst h4; rw [show hasT p e 4 = (p == 2) by simp [hasT]; rw [Bool.eq_iff_iff]; simp]
  (go_enter Tryz.func168, Tryz.ntmps168; go_wp2; go_ret; exact ⟨by first | rfl | (simp [*]; done), rfl⟩)
 by_cases h10 : s = 10
 ·subst h10; rw [show hasT p e 10 = (p == 2) by simp [hasT]; rw [Bool.eq_iff_iff]; simp]
  (go_enter Tryz.func168, Tryz.ntmps168; go_wp2; go_ret; exact ⟨by first | rfl | (simp [*]; done), rfl⟩)
 have b4 : (s == 4) = false := by simpa using h4
 have b10 : (s == 10) = false := by simpa using h10
 by_cases h3 : s = 3
 ·subst h3
  by_cases hp : p = 2
  ·subst hp; rw [show hasT 2 e 3 = (e == 1) by simp [hasT]; rw [Bool.eq_iff_iff]; simp]
   (go_enter Tryz.func168, Tryz.ntmps168; go_wp2; go_ret; exact ⟨by first | rfl | (simp [*]; done), rfl⟩)
  ·rw [show hasT p e 3 = false by simp [hasT, hp]]; have bp : (p == 2) = false := by simpa using hp
   (go_enter Tryz.func168, Tryz.ntmps168; go_wp2; go_ret; exact ⟨by first | rfl | (simp [*]; done), rfl⟩)
 have b3 : (s == 3) = false := by simpa using h3
 by_cases h1 : 1 ≤ s
 ·by_cases h2 : s ≤ 14
  ·rw [show hasT p e s = true by simp [hasT, h4, h10, h3, h1, h2]]
   (go_enter Tryz.func168, Tryz.ntmps168; go_wp2; go_ret; exact ⟨by first | rfl | (simp [*]; done), rfl⟩)
  ·rw [show hasT p e s = false by simp [hasT, h4, h10, h3, h2]]
   (go_enter Tryz.func168, Tryz.ntmps168; go_wp2; go_ret; exact ⟨by first | rfl | (simp [*]; done), rfl⟩)
 ·rw [show hasT p e s = false by simp [hasT, h4, h10, h3, h1]]
  (go_enter Tryz.func168, Tryz.ntmps168; go_wp2; go_ret; exact ⟨by first | rfl | (simp [*]; done), rfl⟩)
theorem twaits_1 (s : Int) (hs : s = 1 ∨ s = 2 ∨ s = 3 ∨ s = 4 ∨ s = 5 ∨ s = 6 ∨ s = 7 ∨ s = 8 ∨ s = 9 ∨ s = 10 ∨ s = 11 ∨ s = 12 ∨ s = 13 ∨ s = 14) (w : World) : Calls Tryz.prog 169 #[.int .i64 1, .int .i64 s] w fun e' w' => e' = .returned (.int .i64 (waitT 1 s)) ∧ w = w' := by
 rcases hs with rfl | rfl | rfl | rfl | rfl | rfl | rfl | rfl | rfl | rfl | rfl | rfl | rfl | rfl
 ·(have hq := a2X Tryz.underlying226 1 1; have hg := aX 226 (by kernel_rfl); (go_enter Tryz.func169, Tryz.ntmps169; go_wp2; go_ret; exact ⟨rfl, rfl⟩))
 ·(have hq := a2X Tryz.underlying226 1 2; have hg := aX 226 (by kernel_rfl); (go_enter Tryz.func169, Tryz.ntmps169; go_wp2; go_ret; exact ⟨rfl, rfl⟩))
 ·(have hq := a2X Tryz.underlying226 1 3; have hg := aX 226 (by kernel_rfl); (go_enter Tryz.func169, Tryz.ntmps169; go_wp2; go_ret; exact ⟨rfl, rfl⟩))
 ·(have hq := a2X Tryz.underlying226 1 4; have hg := aX 226 (by kernel_rfl); (go_enter Tryz.func169, Tryz.ntmps169; go_wp2; go_ret; exact ⟨rfl, rfl⟩))
 ·(have hq := a2X Tryz.underlying226 1 5; have hg := aX 226 (by kernel_rfl); (go_enter Tryz.func169, Tryz.ntmps169; go_wp2; go_ret; exact ⟨rfl, rfl⟩))
 ·(have hq := a2X Tryz.underlying226 1 6; have hg := aX 226 (by kernel_rfl); (go_enter Tryz.func169, Tryz.ntmps169; go_wp2; go_ret; exact ⟨rfl, rfl⟩))
 ·(have hq := a2X Tryz.underlying226 1 7; have hg := aX 226 (by kernel_rfl); (go_enter Tryz.func169, Tryz.ntmps169; go_wp2; go_ret; exact ⟨rfl, rfl⟩))
 ·(have hq := a2X Tryz.underlying226 1 8; have hg := aX 226 (by kernel_rfl); (go_enter Tryz.func169, Tryz.ntmps169; go_wp2; go_ret; exact ⟨rfl, rfl⟩))
 ·(have hq := a2X Tryz.underlying226 1 9; have hg := aX 226 (by kernel_rfl); (go_enter Tryz.func169, Tryz.ntmps169; go_wp2; go_ret; exact ⟨rfl, rfl⟩))
 ·(have hq := a2X Tryz.underlying226 1 10; have hg := aX 226 (by kernel_rfl); (go_enter Tryz.func169, Tryz.ntmps169; go_wp2; go_ret; exact ⟨rfl, rfl⟩))
 ·(have hq := a2X Tryz.underlying226 1 11; have hg := aX 226 (by kernel_rfl); (go_enter Tryz.func169, Tryz.ntmps169; go_wp2; go_ret; exact ⟨rfl, rfl⟩))
 ·(have hq := a2X Tryz.underlying226 1 12; have hg := aX 226 (by kernel_rfl); (go_enter Tryz.func169, Tryz.ntmps169; go_wp2; go_ret; exact ⟨rfl, rfl⟩))
 ·(have hq := a2X Tryz.underlying226 1 13; have hg := aX 226 (by kernel_rfl); (go_enter Tryz.func169, Tryz.ntmps169; go_wp2; go_ret; exact ⟨rfl, rfl⟩))
 ·(have hq := a2X Tryz.underlying226 1 14; have hg := aX 226 (by kernel_rfl); (go_enter Tryz.func169, Tryz.ntmps169; go_wp2; go_ret; exact ⟨rfl, rfl⟩))
theorem twaits_2 (s : Int) (hs : s = 1 ∨ s = 2 ∨ s = 3 ∨ s = 4 ∨ s = 5 ∨ s = 6 ∨ s = 7 ∨ s = 8 ∨ s = 9 ∨ s = 10 ∨ s = 11 ∨ s = 12 ∨ s = 13 ∨ s = 14) (w : World) : Calls Tryz.prog 169 #[.int .i64 2, .int .i64 s] w fun e' w' => e' = .returned (.int .i64 (waitT 2 s)) ∧ w = w' := by
 rcases hs with rfl | rfl | rfl | rfl | rfl | rfl | rfl | rfl | rfl | rfl | rfl | rfl | rfl | rfl
 ·(have hq := a2X Tryz.underlying226 2 1; have hg := aX 226 (by kernel_rfl); (go_enter Tryz.func169, Tryz.ntmps169; go_wp2; go_ret; exact ⟨rfl, rfl⟩))
 ·(have hq := a2X Tryz.underlying226 2 2; have hg := aX 226 (by kernel_rfl); (go_enter Tryz.func169, Tryz.ntmps169; go_wp2; go_ret; exact ⟨rfl, rfl⟩))
 ·(have hq := a2X Tryz.underlying226 2 3; have hg := aX 226 (by kernel_rfl); (go_enter Tryz.func169, Tryz.ntmps169; go_wp2; go_ret; exact ⟨rfl, rfl⟩))
 ·(have hq := a2X Tryz.underlying226 2 4; have hg := aX 226 (by kernel_rfl); (go_enter Tryz.func169, Tryz.ntmps169; go_wp2; go_ret; exact ⟨rfl, rfl⟩))
 ·(have hq := a2X Tryz.underlying226 2 5; have hg := aX 226 (by kernel_rfl); (go_enter Tryz.func169, Tryz.ntmps169; go_wp2; go_ret; exact ⟨rfl, rfl⟩))
 ·(have hq := a2X Tryz.underlying226 2 6; have hg := aX 226 (by kernel_rfl); (go_enter Tryz.func169, Tryz.ntmps169; go_wp2; go_ret; exact ⟨rfl, rfl⟩))
 ·(have hq := a2X Tryz.underlying226 2 7; have hg := aX 226 (by kernel_rfl); (go_enter Tryz.func169, Tryz.ntmps169; go_wp2; go_ret; exact ⟨rfl, rfl⟩))
 ·(have hq := a2X Tryz.underlying226 2 8; have hg := aX 226 (by kernel_rfl); (go_enter Tryz.func169, Tryz.ntmps169; go_wp2; go_ret; exact ⟨rfl, rfl⟩))
 ·(have hq := a2X Tryz.underlying226 2 9; have hg := aX 226 (by kernel_rfl); (go_enter Tryz.func169, Tryz.ntmps169; go_wp2; go_ret; exact ⟨rfl, rfl⟩))
 ·(have hq := a2X Tryz.underlying226 2 10; have hg := aX 226 (by kernel_rfl); (go_enter Tryz.func169, Tryz.ntmps169; go_wp2; go_ret; exact ⟨rfl, rfl⟩))
 ·(have hq := a2X Tryz.underlying226 2 11; have hg := aX 226 (by kernel_rfl); (go_enter Tryz.func169, Tryz.ntmps169; go_wp2; go_ret; exact ⟨rfl, rfl⟩))
 ·(have hq := a2X Tryz.underlying226 2 12; have hg := aX 226 (by kernel_rfl); (go_enter Tryz.func169, Tryz.ntmps169; go_wp2; go_ret; exact ⟨rfl, rfl⟩))
 ·(have hq := a2X Tryz.underlying226 2 13; have hg := aX 226 (by kernel_rfl); (go_enter Tryz.func169, Tryz.ntmps169; go_wp2; go_ret; exact ⟨rfl, rfl⟩))
 ·(have hq := a2X Tryz.underlying226 2 14; have hg := aX 226 (by kernel_rfl); (go_enter Tryz.func169, Tryz.ntmps169; go_wp2; go_ret; exact ⟨rfl, rfl⟩))
theorem kp_drewT {a b : World} (h : Kp a b) (n : Nat) : Kp a (b.drewN n) := ⟨h.os, h.tape, h.output, h.size, h.block⟩
theorem wt_known (ads : List Addr) (p e s : Int) (h : rightT p e = false) (w : World) (ce : w.cell? ⟨13, 0, none⟩ = some (errI ads 14)) : Calls Tryz.prog 160 #[.int .i64 p, .int .i64 e, .int .i64 s] w fun e' w' => e' = .returned (.tuple #[(0:Int), errI ads 14]) ∧ Kp w w' := by
 have HK := hD (fun w => h ▸ known_any p e w); obtain ⟨q, hq⟩ : ∃ x, errI ads 14 = x := ⟨_, rfl⟩
 rw [hq] at ce ⊢; clear hq h; go_enter Tryz.func160, Tryz.ntmps160; go_wp2_with (go_at_call 167; (with_reducible refine (HK.out _).mono ?_); rintro e' w' ⟨rfl, rfl⟩)
 go_quiet (fail)
 go_wp2; go_ret2
 exact ⟨rfl, kp_drewT (Kp.refl _) _⟩
theorem wt_has (ads : List Addr) (p e s : Int) (h : rightT p e = true) (h3 : hasT p e s = false) (w : World) (ce : w.cell? ⟨0, 0, none⟩ = some (errI ads 1)) : Calls Tryz.prog 160 #[.int .i64 p, .int .i64 e, .int .i64 s] w fun e' w' => e' = .returned (.tuple #[(0:Int), errI ads 1]) ∧ Kp w w' := by
 have HK := hD (fun w => h ▸ known_any p e w); have HH := hD (fun w => h3 ▸ has_any p e s w); obtain ⟨q, hq⟩ : ∃ x, errI ads 1 = x := ⟨_, rfl⟩
 rw [hq] at ce ⊢; clear hq h h3; go_enter Tryz.func160, Tryz.ntmps160; go_wp2_with (first | (go_at_call 167; (with_reducible refine (HK.out _).mono ?_); rintro e' w' ⟨rfl, rfl⟩) | (go_at_call 168; (with_reducible refine (HH.out _).mono ?_); rintro e' w' ⟨rfl, rfl⟩))
 go_quiet (fail)
 go_wp2; go_ret2
 exact ⟨rfl, kp_drewT (Kp.refl _) _⟩
theorem waits_any (e s : Int) (he : e = 1 ∨ e = 2) (hs : s = 1 ∨ s = 2 ∨ s = 3 ∨ s = 4 ∨ s = 5 ∨ s = 6 ∨ s = 7 ∨ s = 8 ∨ s = 9 ∨ s = 10 ∨ s = 11 ∨ s = 12 ∨ s = 13 ∨ s = 14) (w : World) : Calls Tryz.prog 169 #[.int .i64 e, .int .i64 s] w fun e' w' => e' = .returned (.int .i64 (waitT e s)) ∧ w = w' := by
 rcases he with rfl | rfl
 ·exact twaits_1 s hs w
 ·exact twaits_2 s hs w
theorem wt_ok (p e s : Int) (h : rightT p e = true) (h3 : hasT p e s = true) (w : World) : Calls Tryz.prog 160 #[.int .i64 p, .int .i64 e, .int .i64 s] w fun e' w' => e' = .returned (.tuple #[.int .i64 (waitT e s), .nilIface]) ∧ Kp w w' := by
 have HK := hD (fun w => h ▸ known_any p e w); have HH := hD (fun w => h3 ▸ has_any p e s w); have HW := hD (fun w => waits_any e s (rightT_rng h).2 (hasT_rng h3) w); clear h h3; go_enter Tryz.func160, Tryz.ntmps160; go_wp2_with (first | (go_at_call 167; (with_reducible refine (HK.out _).mono ?_); rintro e' w' ⟨rfl, rfl⟩) | (go_at_call 168; (with_reducible refine (HH.out _).mono ?_); rintro e' w' ⟨rfl, rfl⟩) | (go_at_call 169; (with_reducible refine (HW.out _).mono ?_); rintro e' w' ⟨rfl, rfl⟩))
 go_ret2
 exact ⟨rfl, Kp.refl _⟩
theorem waitsT_any (ads : List Addr) (p e s : Int) (w : World) (E : EP [0, 3, 13] ads w) : Calls Tryz.prog 160 #[.int .i64 p, .int .i64 e, .int .i64 s] w fun e' w' => e' = .returned (.tuple #[.int .i64 (waitsT p e s).2, errI ads (waitsT p e s).1]) ∧ Kp w w' := by
 have c1 : w.cell? ⟨0, 0, none⟩ = some (errI ads 1) := E.cell 0 (by decide); have c14 : w.cell? ⟨13, 0, none⟩ = some (errI ads 14) := E.cell 13 (by decide); unfold waitsT
 cases h : rightT p e with
 | false => rw [if_pos rfl]; exact wt_known ads p e s h w c14
 | true =>
  rw [if_neg (by decide)]
  cases h3 : hasT p e s with
  | false => rw [if_pos rfl]; exact wt_has ads p e s h h3 w c1
  | true =>
   rw [if_neg (by decide)]; dsimp only; rw [eN]; exact wt_ok p e s h h3 w
theorem tabC_of (ads : List Addr) (W : World) (E : EP [0, 3, 13] ads W) : TabC ads W where
 waits := fun w1 hk p e s _ _ _ => waitsT_any ads p e s w1 (E.kp hk)
variable {w0 w w' W w3 : World} {B q : Nat} {m : StM} {gs : List AcG} {va vp : Value}
variable {ads : List Addr}
theorem lsActivity (H : GS tyL B q m gs va vp w) (h8 : gs.length ≤ 8) (fk : Int) (fn fs fr fe fp fq fo fd fa ft fh fc : Int) (fx : Nat) : Calls Tryz.prog 108 #[.pointer (some ⟨q, 0, none⟩), .agg #[fk, fn, fs, fr, fe, fp, fq, fo, fd, fa, ft, fh, fc, fx]] w fun r w' => ∃ p, r = .returned (.pointer p) ∧ (findS m.acts fn fs = none → p = none) ∧ (∀ i, findS m.acts fn fs = some i → ∃ ga cp, va = .slice (some ⟨ga, 0, none⟩) gs.length cp ∧ p = some ⟨ga, i * 8, none⟩) ∧ Kp w w' := by
 have hfs : findS m.acts fn fs = gs.findIdx? (fun g => (fun a : AcM => decide (a.c.n = fn ∧ a.c.s = fs)) g.a) := by unfold findS; rw [H.acts, fi_map]
 rw [hfs]; obtain ⟨FS, hFS⟩ : ∃ x, gs.findIdx? (fun g => (fun a : AcM => decide (a.c.n = fn ∧ a.c.s = fs)) g.a) = x := ⟨_, rfl⟩
 rw [hFS]; have HFS := hD hFS; clear hFS; obtain ⟨a0, c0, eva⟩ := H.vForm; subst eva; obtain ⟨len, hl⟩ : ∃ x, gs.length = x := ⟨_, rfl⟩
 have e0 : w.cell? ⟨q, 2, none⟩ = some (.slice a0 len c0) := by rw [← hl]; exact cU (i := 2) H.row rfl
 have ho : w.ownsRow B 65 8 (.slice a0 len c0) len (acE.row gs) := by have := H.oa; rw [hl] at this; exact this
 obtain ⟨L, hL⟩ : ∃ L : Int, (len : Int) = L := ⟨_, rfl⟩
 have kb := kA w (.cells #[fk, fn, fs, fr, fe, fp, fq, fo, fd, fa, ft, fh, fc, fx] 39); have rb := (mH w (.cells #[fk, fn, fs, fr, fe, fp, fq, fo, fd, fa, ft, fh, fc, fx] 39))
 obtain ⟨W, hW⟩ : ∃ W, w.alloc (.cells #[fk, fn, fs, fr, fe, fp, fq, fo, fd, fa, ft, fh, fc, fx] 39) = W := ⟨_, rfl⟩
 rw [hW] at kb rb; have e1 := kZ kb e0; have HO := hD (oK ho kb); obtain ⟨HL, H8, HLL, KB, RB, E1⟩ := hD6 hl h8 hL kb rb e1; rw [hl]; clear H h8 ho hl kb rb hfs; go_enter Tryz.func108, Tryz.ntmps108; go_wp2; go_loopw [11] (fun i wr => ∃ j : Nat, j ≤ len ∧ i = .int .i64 j ∧ (∀ k (hk : k < gs.length), k < j → ¬ (fun a : AcM => a.c.n = fn ∧ a.c.s = fs) gs[k].a) ∧ Kp W wr) (fun i _ => len - (intOf i).toNat)
 case atStart => exact ⟨0, Nat.zero_le _, rfl, fun k _ h => by omega, Kp.refl _⟩
 case round =>
  obtain ⟨j, hj, rfl, hq, hk⟩ := hrel; obtain ⟨KR, HQ⟩ := hD2 hk hq; obtain ⟨jj, hjj⟩ : ∃ jj : Int, (j : Int) = jj := ⟨_, rfl⟩
  rw [hjj]; have HJ := hD hjj
  by_cases hlt : j < len
  ·have hjl : jj < L := by omega
   have hj0 : 0 ≤ jj := by omega
   have hL8 : L ≤ 8 := by have := H8.out; have := HL.out; omega
   have htn : jj.toNat = j := by omega
   have ow := oK HO.out hk; obtain ⟨g, cp, ev, hcp, hgB, hgl, hfz, hcell⟩ := cQ (E := acE) ow HL.out hlt; have ev := congrArg (fun v => match v with | Value.slice a _ _ => a | _ => none) ev; dsimp only at ev; subst ev; have hjo : j < gs.length := by have := HL.out; omega
   obtain ⟨⟨⟨⟨xn, xs, xo, xd, xx⟩, xp, xc, xr⟩, xb, xk⟩, hx⟩ : ∃ x, gs[j]'hjo = x := ⟨_, rfl⟩
   rw [hx, show acE.k = 8 from rfl, ← htn] at hcell; obtain ⟨xv, hxv⟩ : ∃ v, (⟨⟨⟨xn, xs, xo, xd, xx⟩, xp, xc, xr⟩, xb, xk⟩ : AcG).v = v := ⟨_, rfl⟩
   obtain ⟨x0, x1, x2, x3, x4, x5, x6, -⟩ := cW8 hcell; have x7 : wr.cell? ⟨g, jj.toNat * 8 + 7, none⟩ = some xv := by rw [← hxv]; exact hcell 7 _ (by decide) rfl
   obtain ⟨av, nv, cv, exv⟩ : ∃ a n c, xv = .slice a n c := ⟨_, _, _, hxv.symm⟩
   subst exv; have e2 := kZ hk e1; have b1 : wr.cell? ⟨w.heap.size, 1, none⟩ = some (.int .i64 fn) := kZ hk (cU (i := 1) RB.out rfl); have b2 : wr.cell? ⟨w.heap.size, 2, none⟩ = some (.int .i64 fs) := kZ hk (cU (i := 2) RB.out rfl); have heq : ∀ w, (binOp .eql 36 (.agg #[xn, xs]) (.agg #[fn, fs])).run Tryz.prog w = .ok (.bool (decide (xn = fn ∧ xs = fs))) w := fun w => act_eql9 xn xs fn fs w
   have heg := fun op x y (w : World) => act_guard9 op x y xn xs fn fs w
   obtain ⟨HLT, HX⟩ := hD2 hlt hx
   by_cases he : xn = fn ∧ xs = fs
   ·have HF := hD (fi_at (p := (fun g : AcG => (fun a : AcM => decide (a.c.n = fn ∧ a.c.s = fs)) g.a)) hjo (fun i hi hij => dF (hq i hi hij)) (by show decide _ = true; rw [hx]; exact dT he)); have hd := dT he; rw [hd] at heq; have HTN := hD htn; clear hcell hx hk hq hjj hj hlt he htn hxv ow hd; go_wp2_with fail
    go_region
    go_wp2; go_ret; refine ⟨_, rfl, fun e => ?_, fun i e => ?_, kT KB.out (dQ KR.out)⟩
    ·have e := HFS.out.trans e; rw [HF.out] at e; cases e
    ·have e := HFS.out.trans e; rw [HF.out] at e; injection e with e
     exact ⟨_, _, rfl, by rw [← e, HTN.out]⟩
   ·have HE := hD he; have hd := dF he; rw [hd] at heq; have hw1 : wrap64 (jj + 1) = jj + 1 := IntWalk.wrap64_in _ (by omega); clear hcell hx hk hq hjj hj hlt he htn hxv ow hd; go_wp2_with fail
    go_region
    go_wp2; go_roundw
    case rel => exact ⟨j + 1, by have := HLT.out; omega, by have := HJ.out; rw [show ((j + 1 : Nat) : Int) = jj + 1 by omega], fun k hk hk2 => by
     rcases Nat.lt_or_eq_of_le (Nat.le_of_lt_succ hk2) with g | rfl
     ·exact HQ.out k hk g
     ·rw [HX.out]; exact HE.out, dQ KR.out⟩
    case measure => have := HJ.out; have := HLT.out; simp [intOf]; omega
  ·have hje : ¬ jj < L := by omega
   have HN := hD (fi_no (p := (fun g : AcG => (fun a : AcM => decide (a.c.n = fn ∧ a.c.s = fs)) g.a)) (l := gs) (fun i hi => dF (hq i hi (by have := HL.out; omega)))); clear hk hq hjj hj hlt; go_wp2; go_ret; exact ⟨_, rfl, fun _ => rfl, fun i e => by (have e := HFS.out.trans e; rw [HN.out] at e; cases e), kT KB.out KR.out⟩
theorem lsFree (H : GS tyL B q m gs va vp w) (h8 : gs.length ≤ 8) (p8 : m.parts.length ≤ 8) (h6 : ∀ a ∈ m.acts, a.regs.length ≤ 6) (hp : ∀ a ∈ m.acts, 0 ≤ a.par ∧ a.par ≤ 8) (a : Int) (ha : 0 ≤ a ∧ a ≤ 8) :
  Calls Tryz.prog 106 #[.pointer (some ⟨q, 0, none⟩), .int .i64 a] w fun r w' => r = .returned (.bool (decide (a = 0) || ((partQ m (a - 1)).isSome && !(childS m.acts (a - 1)).isSome))) ∧ Kp w w' := by
 have _u := p8; clear _u
 by_cases h0 : a = 0
 ·subst h0; clear H h8 p8 h6 hp ha; go_enter Tryz.func106, Tryz.ntmps106; go_wp2; go_ret; exact ⟨rfl, Kp.refl _⟩
 ·have g0 : (a == 0) = false := by simpa using h0
  rw [dF h0]; obtain ⟨p, hpp⟩ : ∃ p, a - 1 = p := ⟨_, rfl⟩
  rw [hpp]; have hw : IntKind.i64.wrap p = p := IntWalk.i64_in p (by omega); have hw2 : wrap64 p = p := IntWalk.wrap64_in p (by omega); have HPA := hD (stPart H p); have HCH := hD (fun w1 (hk : Kp w w1) => stChild (H.kp hk) h8 h6 p hp); obtain ⟨t1, ht1⟩ : ∃ b, (partQ m p).isSome = b := ⟨_, rfl⟩
  obtain ⟨t2, ht2⟩ : ∃ b, (childS m.acts p).isSome = b := ⟨_, rfl⟩
  rw [ht1] at HPA ⊢; rw [ht2] at HCH ⊢; have hsf := sF; clear H h8 p8 h6 hp ha h0 ht1 ht2
  cases t1 <;> cases t2 <;> (go_enter Tryz.func106, Tryz.ntmps106; go_wp2_with (first | (go_at_call 25; (with_reducible refine HPA.out.mono ?_); rintro e' w2 ⟨⟨yn, ys, yr, ⟨y1, y2, y3, y4⟩⟩, rfl, -, hk⟩; have K2 := hD (kT hk (kA w2 (.cells #[yn, ys, yr, y1, y2, y3, y4] 75))); dsimp only [paV]; clear hk) | (go_at_call 24; (with_reducible refine (HCH.out _ K2.out).mono ?_); rintro e' w3 ⟨v, rfl, hO, hk⟩; obtain ⟨xn, xs, xo, xd, xx, xp, xc, av, nv, cv, rfl⟩ := hO.form; have K3 := hD (kT K2.out (kT hk (kA w3 (.cells #[xn, xs, xo, xd, xx, xp, xc, .slice av nv cv] 65)))); clear hk hO)); go_ret; exact ⟨rfl, K3.out⟩)
theorem lsBegun (E : EP [0, 3, 4, 8, 13] ads w) (fk : Int) (fn fs fr fe fp fq fo fd fa ft fh fc : Int) (fx : Nat) (e : Int) (hq : fq = 1 ∨ fq = 2) (he : e = 1 ∨ e = 2) : Calls Tryz.prog 112 #[.agg #[fk, fn, fs, fr, fe, fp, fq, fo, fd, fa, ft, fh, fc, fx], .int .i64 e] w fun r w' => r = .returned (.agg #[fq, e, (1:Int), (0:Int)]) ∧ Kp w w' := by
 have k1 : Kp w ((w.alloc (.cells #[fk, fn, fs, fr, fe, fp, fq, fo, fd, fa, ft, fh, fc, fx] 39)).alloc (.cells #[(0:Int), (0:Int), (0:Int), (0:Int)] 67)) := kT (kA _ _) (kA _ _); have r1 := nX0 w (.cells #[fk, fn, fs, fr, fe, fp, fq, fo, fd, fa, ft, fh, fc, fx] 39) (.cells #[(0:Int), (0:Int), (0:Int), (0:Int)] 67); have r2 := nX1 w (.cells #[fk, fn, fs, fr, fe, fp, fq, fo, fd, fa, ft, fh, fc, fx] 39) (.cells #[(0:Int), (0:Int), (0:Int), (0:Int)] 67); obtain ⟨W, hW⟩ : ∃ W, ((w.alloc (.cells #[fk, fn, fs, fr, fe, fp, fq, fo, fd, fa, ft, fh, fc, fx] 39)).alloc (.cells #[(0:Int), (0:Int), (0:Int), (0:Int)] 67)) = W := ⟨_, rfl⟩
 rw [hW] at k1 r1 r2; have hr : rightT fq e = true := by unfold rightT; simp [hq, he]
 have hnew := msNew_any (ads := ads) fq e (by unfold i64M; omega) (by unfold i64M; omega) W (tabC_of ads W ((E.kp k1).sub (by decide))) ((E.kp k1).cell 13 (by decide)); rw [show newS fq e = ⟨fq, e, 1, 0⟩ by simp [newS, hr], if_pos hr, eN] at hnew; dsimp only [seatV] at hnew; obtain ⟨HNEW, K1, R2⟩ := hD3 hnew k1 r2; have f6 : W.cell? ⟨w.heap.size, 6, none⟩ = some (.int .i64 fq) := cU (i := 6) r1 rfl; clear E hq he hr hnew k1 r1 r2; go_enter Tryz.func112, Tryz.ntmps112; go_wp2_with (go_at_call 147; (with_reducible refine HNEW.out.mono ?_); rintro e' w3 ⟨rfl, hk⟩; have K3 := hD (kT K1.out (kT hk (kA w3 (.cells #[fq, e, (1:Int), (0:Int)] 67)))); have r3 := rZ (kT hk (kA w3 (.cells #[fq, e, (1:Int), (0:Int)] 67))) R2.out; obtain ⟨u0, u1, u2, u3⟩ := cells_4 r3; have fz3 := fQ r3; obtain ⟨x0, x1, x2, x3⟩ := cells_4 (mH w3 (.cells #[fq, e, (1:Int), (0:Int)] 67)); have R3 := hD r3; clear hk r3)
 refine bodyPost_ret (results_cell_row (p := 4) rfl _ _ (w.heap.size + 1) 67 _ (0, 0) _ rfl (set_4 (.int .i64 fq) (.int .i64 e) (.int .i64 1) (.int .i64 0) R3.out) Tryz.underlying67 rfl (by kernel_rfl)) rfl ?_
 exact ⟨rfl, set_4_kp K3.out (by omega) _ _ _ _⟩
end Go.Proofs.YtpemeenfhkgmpaaGreatDoor
