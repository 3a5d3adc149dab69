/- Parts of this proof (own work). -/
import Derived.Test.YtncoofnhifcnhaaGreatDoorLen
import Derived.Lib.ItoaNum
import Derived.Test.YtncoofnhifcnhaaGreatDoorZt08
import Derived.Lib.SlBytesConst
import Derived.Deep.RegionWith
import Derived.Laws.Strings
set_option maxRecDepth 100000
set_option maxHeartbeats 40000000
namespace Go.Proofs.YtncoofnhifcnhaaGreatDoor
open Go.RowKit Go.ChangeShapes Go.WideShapes
def fb (n i : Nat) : Int := ((n / 256 ^ i % 256 : Nat) : Int)
def f8 (n : Nat) : List Int := [fb n 7, fb n 6, fb n 5, fb n 4, fb n 3, fb n 2, fb n 1, fb n 0]
def nb (x : Nat) : Nat := (Lib.bitLen x + 7) / 8
def Kb (p : Nat) (w w' : World) : Prop := w.heap.size ≤ w'.heap.size ∧ ∀ b, b ≠ p → b < w.heap.size → w'.heap[b]? = w.heap[b]?
theorem three {cs : List Int} (h : ¬ cs.length < 3) : ∃ x0 x1 x2 rest, cs = x0 :: x1 :: x2 :: rest := by
 match cs, h with
 | x0 :: x1 :: x2 :: rest, _ => exact ⟨x0, x1, x2, rest, rfl⟩
 | [], h => exact absurd (by simp) h
 | [_], h => exact absurd (by simp) h
 | [_, _], h => exact absurd (by simp) h
structure FacC (ads : List Addr) (w : World) : Prop where
 right : ∀ w1, Kp w w1 → ∀ f : FX, f.wf → Calls Tryz.prog 70 #[.agg f.cells] w1 fun e w' => e = .returned (.bool (rightF f)) ∧ Kp w1 w'
theorem FacC.kp {ads : List Addr} {w w' : World} (C : FacC ads w) (hk : Kp w w') : FacC ads w' where
 right := fun w1 h => C.right w1 (kT hk h)
theorem errI_some14 (ads : List Addr) (k : Int) (h : k ≠ 0) : ∃ q, errI ads k = .iface 257 (.pointer q) := ⟨_, if_neg h⟩
theorem same_refl14 (c : FX) : sameF c c = true := by unfold sameF; simp
variable {w0 w w' W w3 : World} {ads : List Addr}
theorem kPlaces (xn xs xr y1 y2 y3 y4 nd i : Int) (reg : Int) (FS : List FX) (hFS : FS = if xr = -1 then [(⟨7, 0, 0, reg, 0, i, 0, 0, 0, 0, 0, 0, 0, 0⟩ : FX)] else []) (n : Nat) (hn : FS.length = n) : Calls Tryz.prog 33 #[.agg #[xn, xs, xr, y1, y2, y3, y4, nd, i], .int .i64 reg] w fun r w' => ∃ a c, r = .returned (.slice a n c) ∧ w'.ownsRow w.heap.size 73 14 (.slice a n c) n (fcE.row FS) ∧ Kp w w' := by
 have HPL := hD (fun w b hb => kPlaced (w := w) xn xs xr y1 y2 y3 y4 nd i b hb); have R0 := hD (mH w (.cells #[xn, xs, xr, y1, y2, y3, y4, nd, i] 84)); have K0 := hD (kA w (.cells #[xn, xs, xr, y1, y2, y3, y4, nd, i] 84)); obtain ⟨a0, a1, a2, a3, a4, a5, a6, a7, a8⟩ := cells9 R0.out; have hsf := sF
 by_cases h : xr = -1
 ·rw [if_pos h] at hFS; subst hFS; subst hn; have hp : (xr != -1) = false := by simp [h]
  clear h; go_enter Tryz.func33, Tryz.ntmps33; go_wp2_with (go_at_call 43; (with_reducible refine (HPL.out _ _ hp).mono ?_); rintro e' w3 ⟨rfl, hk⟩; have K3 := hD (kT K0.out hk); obtain ⟨c0, c1, c2, c3, c4, c5, c6, c7, c8⟩ := cells9 (rZ hk R0.out); have OQ := hD (own_oneF (w := w3) (t := 73) (B := w.heap.size) (⟨7, 0, 0, reg, 0, i, 0, 0, 0, 0, 0, 0, 0, 0⟩ : FX) (kS (kT K0.out hk))); have KQ := hD (kT (kT K0.out hk) (kA w3 (.cells #[(7:Int), (0:Int), (0:Int), reg, (0:Int), i, (0:Int), (0:Int), (0:Int), (0:Int), (0:Int), (0:Int), (0:Int), .float .f64 0] 73))); clear hk)
  go_ret; exact ⟨_, _, rfl, OQ.out, KQ.out⟩
 ·rw [if_neg h] at hFS; subst hFS; subst hn; have hp : (xr != -1) = true := by simp [h]
  clear h; go_enter Tryz.func33, Tryz.ntmps33; go_wp2_with (go_at_call 43; (with_reducible refine (HPL.out _ _ hp).mono ?_); rintro e' w3 ⟨rfl, hk⟩; have K3 := hD (kT K0.out hk); clear hk)
  go_ret; exact ⟨_, _, rfl, own_no, K3.out⟩
theorem kRefused (xn xs xr y1 y2 y3 y4 nd i : Int) (gk gf gt gn gs gr gp go gc : Int) : Calls Tryz.prog 34 #[.agg #[xn, xs, xr, y1, y2, y3, y4, nd, i], .agg #[gk, gf, gt, gn, gs, gr, gp, go, gc]] w fun r w' => ∃ v, r = .returned v ∧ RsV 73 w.heap.size ⟨(if xr = -1 ∧ y3 = 1 ∧ (gc = 2 ∨ gc = 4 ∨ gc = 5) then [(⟨8, 0, 0, 0, 0, i, 0, 0, 0, 0, 14, 1, 0, 0⟩ : FX)] else []), [], 0⟩ v w' ∧ Kp w w' := by
 have HPL := hD (fun w b hb => kPlaced (w := w) xn xs xr y1 y2 y3 y4 nd i b hb); have HT := hD (fun w => kTurns (w := w) xn xs xr y1 y2 y3 y4 nd i 0 0 14 1); have k3 : Kp w (((w.alloc (.cells #[xn, xs, xr, y1, y2, y3, y4, nd, i] 84)).alloc (.cells #[gk, gf, gt, gn, gs, gr, gp, go, gc] 26)).alloc (.cells #[.slice none 0 0, .slice none 0 0, (0:Int)] 34)) := pk3 w _ _ _; have R0 := hD (p3_0 w (.cells #[xn, xs, xr, y1, y2, y3, y4, nd, i] 84) (.cells #[gk, gf, gt, gn, gs, gr, gp, go, gc] 26) (.cells #[.slice none 0 0, .slice none 0 0, (0:Int)] 34)); have R1 := hD (p3_1 w (.cells #[xn, xs, xr, y1, y2, y3, y4, nd, i] 84) (.cells #[gk, gf, gt, gn, gs, gr, gp, go, gc] 26) (.cells #[.slice none 0 0, .slice none 0 0, (0:Int)] 34)); have R2 := hD (p3_2 w (.cells #[xn, xs, xr, y1, y2, y3, y4, nd, i] 84) (.cells #[gk, gf, gt, gn, gs, gr, gp, go, gc] 26) (.cells #[.slice none 0 0, .slice none 0 0, (0:Int)] 34))
 have K3 := hD k3; obtain ⟨a0, a1, a2, a3, a4, a5, a6, a7, a8⟩ := cells9 R0.out; obtain ⟨b0, b1, b2, b3, b4, b5, b6, b7, b8⟩ := cells9 R1.out; clear k3; have hsf := sF
 by_cases h : xr = -1
 rotate_left
 ·rw [if_neg (fun e => h e.1)]; have hp : (xr != -1) = true := by simp [h]
  clear h; go_enter Tryz.func34, Tryz.ntmps34; go_wp2_with (go_at_call 43; (with_reducible refine (HPL.out _ _ hp).mono ?_); rintro e' w4 ⟨rfl, hk⟩; have K4 := hD (kT K3.out hk); have R40 := hD (rZ hk R0.out); have R41 := hD (rZ hk R1.out); have R42 := hD (rZ hk R2.out); obtain ⟨a40, a41, a42, a43, a44, a45, a46, a47, a48⟩ := cells9 R40.out; obtain ⟨b40, b41, b42, b43, b44, b45, b46, b47, b48⟩ := cells9 R41.out; obtain ⟨c40, c41, c42⟩ := cellsR3 R42.out; have f4 := frozN R42.out; clear hk)
  refine bodyPost_ret (results_cell_row (p := 4) rfl _ _ (w.heap.size + 1 + 1) 34 _ (0, 0) _ rfl (setR3 (.slice none 0 0) (.slice none 0 0) (.int .i64 0) R42.out) Tryz.underlying34 rfl (by kernel_rfl)) rfl ?_
  exact ⟨_, rfl, RsV.set R42.out (by decide) (by decide) own_no own_no, setR3_kp K4.out (show w.heap.size ≤ w.heap.size + 1 + 1 by omega) _ _ _⟩
 have hp : (xr != -1) = false := by simp [h]
 by_cases h1 : y3 = 1
 rotate_left
 ·rw [if_neg (fun e => h1 e.2.1)]; have h2 : (y3 != 1) = true := by simp [h1]
  have h3 : (y3 == 1) = false := by simp [h1]
  clear h h1; go_enter Tryz.func34, Tryz.ntmps34; go_wp2_with (go_at_call 43; (with_reducible refine (HPL.out _ _ hp).mono ?_); rintro e' w4 ⟨rfl, hk⟩; have K4 := hD (kT K3.out hk); have R40 := hD (rZ hk R0.out); have R41 := hD (rZ hk R1.out); have R42 := hD (rZ hk R2.out); obtain ⟨a40, a41, a42, a43, a44, a45, a46, a47, a48⟩ := cells9 R40.out; obtain ⟨b40, b41, b42, b43, b44, b45, b46, b47, b48⟩ := cells9 R41.out; obtain ⟨c40, c41, c42⟩ := cellsR3 R42.out; have f4 := frozN R42.out; clear hk)
  refine bodyPost_ret (results_cell_row (p := 4) rfl _ _ (w.heap.size + 1 + 1) 34 _ (0, 0) _ rfl (setR3 (.slice none 0 0) (.slice none 0 0) (.int .i64 0) R42.out) Tryz.underlying34 rfl (by kernel_rfl)) rfl ?_
  exact ⟨_, rfl, RsV.set R42.out (by decide) (by decide) own_no own_no, setR3_kp K4.out (show w.heap.size ≤ w.heap.size + 1 + 1 by omega) _ _ _⟩
 have h2 : (y3 != 1) = false := by simp [h1]
 have h3 : (y3 == 1) = true := by simp [h1]
 by_cases hc : (gc = 2 ∨ gc = 4 ∨ gc = 5)
 ·rw [if_pos ⟨h, h1, hc⟩]; clear h h1 h3
  rcases hc with rfl | rfl | rfl <;> (
   go_enter Tryz.func34, Tryz.ntmps34; go_wp2_with (first | (go_at_call 43; (with_reducible refine (HPL.out _ _ hp).mono ?_); rintro e' w4 ⟨rfl, hk⟩; have K4 := hD (kT K3.out hk); have R40 := hD (rZ hk R0.out); have R41 := hD (rZ hk R1.out); have R42 := hD (rZ hk R2.out); obtain ⟨a40, a41, a42, a43, a44, a45, a46, a47, a48⟩ := cells9 R40.out; obtain ⟨b40, b41, b42, b43, b44, b45, b46, b47, b48⟩ := cells9 R41.out; obtain ⟨c40, c41, c42⟩ := cellsR3 R42.out; have f4 := frozN R42.out; clear hk) | (go_at_call 79; (with_reducible refine (HT.out _).mono ?_); rintro e' w5 ⟨rfl, hk⟩; have kz := kT hk (kA w5 (.cells #[(8:Int), (0:Int), (0:Int), (0:Int), (0:Int), i, (0:Int), (0:Int), (0:Int), (0:Int), (14:Int), (1:Int), (0:Int), .float .f64 0] 73)); have OQ := hD (own_oneF (w := w5) (t := 73) (B := w.heap.size) (⟨8, 0, 0, 0, 0, i, 0, 0, 0, 0, 14, 1, 0, 0⟩ : FX) (kS (kT K4.out hk))); have KQ := hD (kT K4.out kz); have RQ := hD (rZ kz R42.out); obtain ⟨q0, q1, q2⟩ := cellsR3 RQ.out; have fq := frozN RQ.out; clear hk kz))
   refine bodyPost_ret (results_cell_row (p := 4) rfl _ _ (w.heap.size + 1 + 1) 34 _ (0, 0) _ rfl (setR3 (.slice (some ⟨w5.heap.size, 0, none⟩) 1 1) (.slice none 0 0) (.int .i64 0) RQ.out) Tryz.underlying34 rfl (by kernel_rfl)) rfl ?_
   exact ⟨_, rfl, RsV.set RQ.out (by decide) (by decide) OQ.out own_no, setR3_kp KQ.out (show w.heap.size ≤ w.heap.size + 1 + 1 by omega) _ _ _⟩)
 ·rw [if_neg (fun e => hc e.2.2)]; have d1 : (gc == 2) = false := by simpa using (fun e => hc (.inl e))
  have d2 : (gc == 4) = false := by simpa using (fun e => hc (.inr (.inl e)))
  have d3 : (gc == 5) = false := by simpa using (fun e => hc (.inr (.inr e)))
  clear h h1 h3 hc; go_enter Tryz.func34, Tryz.ntmps34; go_wp2_with (go_at_call 43; (with_reducible refine (HPL.out _ _ hp).mono ?_); rintro e' w4 ⟨rfl, hk⟩; have K4 := hD (kT K3.out hk); have R40 := hD (rZ hk R0.out); have R41 := hD (rZ hk R1.out); have R42 := hD (rZ hk R2.out); obtain ⟨a40, a41, a42, a43, a44, a45, a46, a47, a48⟩ := cells9 R40.out; obtain ⟨b40, b41, b42, b43, b44, b45, b46, b47, b48⟩ := cells9 R41.out; obtain ⟨c40, c41, c42⟩ := cellsR3 R42.out; have f4 := frozN R42.out; clear hk)
  refine bodyPost_ret (results_cell_row (p := 4) rfl _ _ (w.heap.size + 1 + 1) 34 _ (0, 0) _ rfl (setR3 (.slice none 0 0) (.slice none 0 0) (.int .i64 0) R42.out) Tryz.underlying34 rfl (by kernel_rfl)) rfl ?_
  exact ⟨_, rfl, RsV.set R42.out (by decide) (by decide) own_no own_no, setR3_kp K4.out (show w.heap.size ≤ w.heap.size + 1 + 1 by omega) _ _ _⟩
def SlI (v : Value) (bs : List Int) (w : World) : Prop :=
 (bs = [] ∧ ∃ a cap, v = .slice a 0 cap) ∨
 ∃ b off cap, 0 < bs.length ∧ v = .slice (some ⟨b, off, none⟩) bs.length cap ∧ ∀ j, j < bs.length → w.cell? ⟨b, off + j, none⟩ = some (.int .i64 (bs.getD j 0))
theorem SlI.kp {v : Value} {bs : List Int} {w w' : World} (h : SlI v bs w) (hb : Kp w w') : SlI v bs w' := by
 rcases h with h | ⟨b, off, cap, h0, h1, h2⟩
 ·exact Or.inl h
 ·exact Or.inr ⟨b, off, cap, h0, h1, fun j hj => kZ hb (h2 j hj)⟩
theorem SlI.form {v : Value} {bs : List Int} {w : World} (h : SlI v bs w) : ∃ a cap, v = .slice a bs.length cap := by
 rcases h with ⟨rfl, a, cap, rfl⟩ | ⟨b, off, cap, _, rfl, _⟩
 ·exact ⟨a, cap, rfl⟩
 ·exact ⟨_, cap, rfl⟩
theorem SlI.at {a : Option Addr} {n cap : Nat} {bs : List Int} {w : World} (h : SlI (.slice a n cap) bs w) (j : Nat) (hj : j < bs.length) : ∃ b off, a = some ⟨b, off, none⟩ ∧ w.cell? ⟨b, off + j, none⟩ = some (.int .i64 (bs.getD j 0)) := by
 rcases h with ⟨hz, _⟩ | ⟨b, off, cap', _, hv, hcc⟩
 ·rw [hz] at hj; cases hj
 ·injection hv with hv1 _ _
  exact ⟨b, off, hv1, hcc j hj⟩
theorem own_sli {w : World} {base n : Nat} {v : Value} {bs : List Int} (h : w.ownsRow base 3 1 v n (bs.map (Value.int .i64))) : SlI v bs w := by
 obtain ⟨h1, h2⟩ := h; have hlen : bs.length = n := by simpa using h1
 rcases h2 with ⟨rfl, hn⟩ | ⟨g, cap, cur, rfl, hg, hh, hc, hm, hs, ht⟩
 ·left
  exact ⟨List.length_eq_zero_iff.1 (by omega), none, 0, rfl⟩
 ·by_cases h0 : n = 0
  ·left
   subst h0; exact ⟨List.length_eq_zero_iff.1 (by omega), _, cap, rfl⟩
  ·right
   refine ⟨g, 0, cap, by omega, by rw [hlen], fun j hj => ?_⟩
   unfold World.cell?; dsimp only; rw [hh]; simp only [Option.isSome_none, Bool.false_eq_true, if_false, Nat.zero_add]
   have : (cur.toList.take (n * 1))[j]? = some (.int .i64 (bs.getD j 0)) := by
    rw [ht]; simp [List.getD, hj]
   rw [List.getElem?_take, Nat.mul_one, if_pos (by omega)] at this
   simpa using this
def i64T (x : Int) : Prop := -9223372036854775808 ≤ x ∧ x ≤ 9223372036854775807
instance (x : Int) : Decidable (i64T x) := by unfold i64T; infer_instance
structure TabC (ads : List Addr) (w : World) : Prop where
 look : ∀ w1, Kp w w1 → ∀ p e k s : Int, i64T p → i64T e → i64T k → i64T s → Calls Tryz.prog 119 #[.int .i64 p, .int .i64 e, .int .i64 k, .int .i64 s] w1 fun e' w' => e' = .returned (.tuple #[.agg (cellV (lookT p e k s).2), errI ads (lookT p e k s).1]) ∧ Kp w1 w'
 waits : ∀ w1, Kp w w1 → ∀ p e s : Int, i64T p → i64T e → i64T s → Calls Tryz.prog 93 #[.int .i64 p, .int .i64 e, .int .i64 s] w1 fun e' w' => e' = .returned (.tuple #[.int .i64 (waitsT p e s).2, errI ads (waitsT p e s).1]) ∧ Kp w1 w'
theorem TabC.kp {ads : List Addr} {w w' : World} (C : TabC ads w) (hk : Kp w w') : TabC ads w' where
 look := fun w1 h => C.look w1 (kT hk h)
 waits := fun w1 h => C.waits w1 (kT hk h)
structure TabS (ads : List Addr) (w : World) : Prop where
 step : ∀ w1, Kp w w1 → ∀ p e k s : Int, i64T p → i64T e → i64T k → i64T s → Calls Tryz.prog 88 #[.int .i64 p, .int .i64 e, .int .i64 k, .int .i64 s] w1 fun e' w' => e' = .returned (.tuple #[.int .i64 (stepT p e k s).2, errI ads (stepT p e k s).1]) ∧ Kp w1 w'
theorem errI_ifaceM (ads : List Addr) (k : Int) (h : k ≠ 0) : ∃ q, errI ads k = .iface 257 (.pointer q) := ⟨_, if_neg h⟩
def howOk (z : SeatM) : Bool := if z.s = 14 then decide (z.h = 1 ∨ (4 ≤ z.h ∧ z.h ≤ 8)) else decide (z.h = 0)
def dueM (s : Int) : Int := if s = 13 then 13 else if s = 12 then 14 else if 8 ≤ s ∧ s ≤ 11 then 12 else 0
def howC (k : Int) : Int := if k = 13 then 1 else if k = 14 then 5 else if k = 12 then 4 else k
def SeatM.goes (z : SeatM) (st k send : Int) : EffM := ⟨⟨z.p, z.e, st, if st = 14 then howC k else 0⟩, send, 0, if SeatM.right ⟨z.p, z.e, st, if st = 14 then howC k else 0⟩ = true then SeatM.work ⟨z.p, z.e, st, if st = 14 then howC k else 0⟩ else 0, true⟩
def SeatM.toldC (z : SeatM) (k st : Int) : EffM := if z.e = 1 ∧ dueM st ≠ 0 then z.goes 14 (dueM st) (dueM st) else z.goes st k 0
theorem right_how (z : SeatM) : z.right = (rightT z.p z.e && hasT z.p z.e z.s && howOk z) := rfl
theorem msHow_any (z : SeatM) (w : World) : Calls Tryz.prog 127 #[.agg (seatV z)] w fun r w' => r = .returned (.bool (howOk z)) ∧ Kp w w' := by
 obtain ⟨p, e, s, h⟩ := z; dsimp only [seatV]; have KB := hD (kA w (.cells #[p, e, s, h] 69)); have HR := hD (mH w (.cells #[p, e, s, h] 69)); obtain ⟨g0, g1, g2, g3⟩ := cells_4 HR.out
 by_cases h14 : s = 14
 ·subst h14
  by_cases h1 : h = 1
  ·subst h1; rw [show howOk ⟨p, e, 14, 1⟩ = true by simp [howOk]]; (go_enter Tryz.func127, Tryz.ntmps127; go_wp2; go_ret; exact ⟨rfl, KB.out⟩)
  by_cases h4 : h = 4
  ·subst h4; rw [show howOk ⟨p, e, 14, 4⟩ = true by simp [howOk]]; (go_enter Tryz.func127, Tryz.ntmps127; go_wp2; go_ret; exact ⟨rfl, KB.out⟩)
  by_cases h5 : h = 5
  ·subst h5; rw [show howOk ⟨p, e, 14, 5⟩ = true by simp [howOk]]; (go_enter Tryz.func127, Tryz.ntmps127; go_wp2; go_ret; exact ⟨rfl, KB.out⟩)
  by_cases h6 : h = 6
  ·subst h6; rw [show howOk ⟨p, e, 14, 6⟩ = true by simp [howOk]]; (go_enter Tryz.func127, Tryz.ntmps127; go_wp2; go_ret; exact ⟨rfl, KB.out⟩)
  by_cases h7 : h = 7
  ·subst h7; rw [show howOk ⟨p, e, 14, 7⟩ = true by simp [howOk]]; (go_enter Tryz.func127, Tryz.ntmps127; go_wp2; go_ret; exact ⟨rfl, KB.out⟩)
  by_cases h8 : h = 8
  ·subst h8; rw [show howOk ⟨p, e, 14, 8⟩ = true by simp [howOk]]; (go_enter Tryz.func127, Tryz.ntmps127; go_wp2; go_ret; exact ⟨rfl, KB.out⟩)
  have b1 : (h == 1) = false := by simpa using h1
  have b4 : (h == 4) = false := by simpa using h4
  have b5 : (h == 5) = false := by simpa using h5
  have b6 : (h == 6) = false := by simpa using h6
  have b7 : (h == 7) = false := by simpa using h7
  have b8 : (h == 8) = false := by simpa using h8
  rw [show howOk ⟨p, e, 14, h⟩ = false by simp only [howOk, if_true]; exact dF (by omega)]; clear h1 h4 h5 h6 h7 h8
  (go_enter Tryz.func127, Tryz.ntmps127; go_wp2; go_ret; exact ⟨rfl, KB.out⟩)
 ·rw [show howOk ⟨p, e, s, h⟩ = (h == 0) by simp [howOk, h14]; rw [Bool.eq_iff_iff]; simp]; have b14 : (s == 14) = false := by simpa using h14
  clear h14
  (go_enter Tryz.func127, Tryz.ntmps127; go_wp2; go_ret; exact ⟨rfl, KB.out⟩)
theorem due_any (s : Int) (w : World) : Calls Tryz.prog 166 #[.int .i64 s] w fun r w' => r = .returned (.int .i64 (dueM s)) ∧ w = w' := by
 by_cases h13 : s = 13
 ·subst h13; (go_enter Tryz.func166, Tryz.ntmps166; go_wp2; go_ret; exact ⟨rfl, rfl⟩)
 by_cases h12 : s = 12
 ·subst h12; (go_enter Tryz.func166, Tryz.ntmps166; go_wp2; go_ret; exact ⟨rfl, rfl⟩)
 by_cases h8 : s = 8
 ·subst h8; (go_enter Tryz.func166, Tryz.ntmps166; go_wp2; go_ret; exact ⟨rfl, rfl⟩)
 by_cases h9 : s = 9
 ·subst h9; (go_enter Tryz.func166, Tryz.ntmps166; go_wp2; go_ret; exact ⟨rfl, rfl⟩)
 by_cases h10 : s = 10
 ·subst h10; (go_enter Tryz.func166, Tryz.ntmps166; go_wp2; go_ret; exact ⟨rfl, rfl⟩)
 by_cases h11 : s = 11
 ·subst h11; (go_enter Tryz.func166, Tryz.ntmps166; go_wp2; go_ret; exact ⟨rfl, rfl⟩)
 have b13 : (s == 13) = false := by simpa using h13
 have b12 : (s == 12) = false := by simpa using h12
 have b8 : (s == 8) = false := by simpa using h8
 have b9 : (s == 9) = false := by simpa using h9
 have b10 : (s == 10) = false := by simpa using h10
 have b11 : (s == 11) = false := by simpa using h11
 rw [show dueM s = 0 by unfold dueM; rw [if_neg h13, if_neg h12, if_neg (by omega)]]; clear h13 h12 h8 h9 h10 h11
 (go_enter Tryz.func166, Tryz.ntmps166; go_wp2; go_ret; exact ⟨rfl, rfl⟩)
theorem how_any (k : Int) (w : World) : Calls Tryz.prog 132 #[.int .i64 k] w fun r w' => r = .returned (.int .i64 (howC k)) ∧ w = w' := by
 by_cases h13 : k = 13
 ·subst h13; (go_enter Tryz.func132, Tryz.ntmps132; go_wp2; go_ret; exact ⟨rfl, rfl⟩)
 by_cases h14 : k = 14
 ·subst h14; (go_enter Tryz.func132, Tryz.ntmps132; go_wp2; go_ret; exact ⟨rfl, rfl⟩)
 by_cases h12 : k = 12
 ·subst h12; (go_enter Tryz.func132, Tryz.ntmps132; go_wp2; go_ret; exact ⟨rfl, rfl⟩)
 have b13 : (k == 13) = false := by simpa using h13
 have b14 : (k == 14) = false := by simpa using h14
 have b12 : (k == 12) = false := by simpa using h12
 rw [show howC k = k by unfold howC; rw [if_neg h13, if_neg h14, if_neg h12]]; clear h13 h14 h12
 (go_enter Tryz.func132, Tryz.ntmps132; go_wp2; go_ret; exact ⟨rfl, rfl⟩)
theorem msRight_any {ads : List Addr} (z : SeatM) (hz : z.ok) (w : World) (T : TabC ads w) : Calls Tryz.prog 87 #[.agg (seatV z)] w fun r w' => r = .returned (.bool z.right) ∧ Kp w w' := by
 obtain ⟨p, e, s, h⟩ := z; obtain ⟨ip, ie, is, -⟩ := hz; dsimp only [seatV]; have KB := hD (kA w (.cells #[p, e, s, h] 69)); have HR := hD (mH w (.cells #[p, e, s, h] 69)); obtain ⟨g0, g1, g2, g3⟩ := cells_4 HR.out; have hw := T.waits _ KB.out p e s ip ie is; rw [right_how]; clear ip ie is T; dsimp only
 cases hr : rightT p e with
 | false =>
  obtain ⟨q, hq⟩ := errI_ifaceM ads 14 (by decide); simp only [waitsT, hr, if_true, hq] at hw
  have HW := hD hw; clear hw hr hq; go_enter Tryz.func87, Tryz.ntmps87; go_wp2_with (go_at_call 93; (with_reducible refine HW.out.mono ?_); rintro e' w1 ⟨rfl, hk⟩; have K1 := hD (kT KB.out hk); have R1 := rZ hk HR.out; obtain ⟨q0, q1, q2, q3⟩ := cells_4 R1; clear hk)
  go_ret; exact ⟨rfl, K1.out⟩
 | true =>
  cases hs : hasT p e s with
  | false =>
   obtain ⟨q, hq⟩ := errI_ifaceM ads 1 (by decide); simp only [waitsT, hr, hs, if_true, if_false, Bool.true_eq_false, hq] at hw
   have HW := hD hw; clear hw hr hs hq; go_enter Tryz.func87, Tryz.ntmps87; go_wp2_with (go_at_call 93; (with_reducible refine HW.out.mono ?_); rintro e' w1 ⟨rfl, hk⟩; have K1 := hD (kT KB.out hk); have R1 := rZ hk HR.out; obtain ⟨q0, q1, q2, q3⟩ := cells_4 R1; clear hk)
   go_ret; exact ⟨rfl, K1.out⟩
  | true =>
   simp only [waitsT, hr, hs, if_false, Bool.true_eq_false, eN] at hw
   have HW := hD hw; have HH := hD (fun w => msHow_any ⟨p, e, s, h⟩ w); dsimp only [seatV] at HH; obtain ⟨b, hb⟩ : ∃ b, howOk ⟨p, e, s, h⟩ = b := ⟨_, rfl⟩
   rw [hb] at HH ⊢; clear hw hr hs hb; go_enter Tryz.func87, Tryz.ntmps87; go_wp2_with (first | (go_at_call 93; (with_reducible refine HW.out.mono ?_); rintro e' w1 ⟨rfl, hk⟩; have K1 := hD (kT KB.out hk); have R1 := rZ hk HR.out; obtain ⟨q0, q1, q2, q3⟩ := cells_4 R1; clear hk) | (go_at_call 127; (with_reducible refine (HH.out _).mono ?_); rintro e' w2 ⟨rfl, hk⟩; have K2 := hD (kT K1.out hk); clear hk))
   go_ret; exact ⟨by simp, K2.out⟩
theorem msWork_any {ads : List Addr} (z : SeatM) (hz : z.ok) (w : World) (T : TabC ads w) : Calls Tryz.prog 133 #[.agg (seatV z)] w fun r w' => r = .returned (.int .i64 (if z.right = true then z.work else 0)) ∧ Kp w w' := by
 have hw := msRight_any (ads := ads) z hz; obtain ⟨p, e, s, h⟩ := z; dsimp only [seatV] at hw ⊢; have KB := hD (kA w (.cells #[p, e, s, h] 69)); have HR := hD (mH w (.cells #[p, e, s, h] 69)); obtain ⟨g0, g1, g2, g3⟩ := cells_4 HR.out
 replace hw := hw (w.alloc (.cells #[p, e, s, h] 69)) (T.kp KB.out)
 by_cases he : e = 2
 ·subst he
  cases hr : SeatM.right ⟨p, 2, s, h⟩ with
  | false =>
   rw [hr] at hw; have HW := hD hw; clear hw hr T hz
   (go_enter Tryz.func133, Tryz.ntmps133; go_wp2_with (go_at_call 87; (with_reducible refine HW.out.mono ?_); rintro e' w1 ⟨rfl, hk⟩; have K1 := hD (kT KB.out hk); have R1 := rZ hk HR.out; obtain ⟨q0, q1, q2, q3⟩ := cells_4 R1; clear hk); go_ret; exact ⟨rfl, K1.out⟩)
  | true =>
   rw [hr] at hw; have HW := hD hw; clear hw hr T hz; rw [if_pos rfl]
   by_cases h4 : s = 4
   ·subst h4; (go_enter Tryz.func133, Tryz.ntmps133; go_wp2_with (go_at_call 87; (with_reducible refine HW.out.mono ?_); rintro e' w1 ⟨rfl, hk⟩; have K1 := hD (kT KB.out hk); have R1 := rZ hk HR.out; obtain ⟨q0, q1, q2, q3⟩ := cells_4 R1; clear hk); go_ret; exact ⟨rfl, K1.out⟩)
   by_cases h6 : s = 6
   ·subst h6; (go_enter Tryz.func133, Tryz.ntmps133; go_wp2_with (go_at_call 87; (with_reducible refine HW.out.mono ?_); rintro e' w1 ⟨rfl, hk⟩; have K1 := hD (kT KB.out hk); have R1 := rZ hk HR.out; obtain ⟨q0, q1, q2, q3⟩ := cells_4 R1; clear hk); go_ret; exact ⟨rfl, K1.out⟩)
   by_cases h2 : s = 2
   ·subst h2; (go_enter Tryz.func133, Tryz.ntmps133; go_wp2_with (go_at_call 87; (with_reducible refine HW.out.mono ?_); rintro e' w1 ⟨rfl, hk⟩; have K1 := hD (kT KB.out hk); have R1 := rZ hk HR.out; obtain ⟨q0, q1, q2, q3⟩ := cells_4 R1; clear hk); go_ret; exact ⟨rfl, K1.out⟩)
   by_cases h7 : s = 7
   ·subst h7; (go_enter Tryz.func133, Tryz.ntmps133; go_wp2_with (go_at_call 87; (with_reducible refine HW.out.mono ?_); rintro e' w1 ⟨rfl, hk⟩; have K1 := hD (kT KB.out hk); have R1 := rZ hk HR.out; obtain ⟨q0, q1, q2, q3⟩ := cells_4 R1; clear hk); go_ret; exact ⟨rfl, K1.out⟩)
   have b4 : (s == 4) = false := by simpa using h4
   have b6 : (s == 6) = false := by simpa using h6
   have b2 : (s == 2) = false := by simpa using h2
   have b7 : (s == 7) = false := by simpa using h7
   rw [show SeatM.work ⟨p, 2, s, h⟩ = 0 by simp [SeatM.work, h4, h6, h2, h7]]; clear h4 h6 h2 h7
   (go_enter Tryz.func133, Tryz.ntmps133; go_wp2_with (go_at_call 87; (with_reducible refine HW.out.mono ?_); rintro e' w1 ⟨rfl, hk⟩; have K1 := hD (kT KB.out hk); have R1 := rZ hk HR.out; obtain ⟨q0, q1, q2, q3⟩ := cells_4 R1; clear hk); go_ret; exact ⟨rfl, K1.out⟩)
 ·rw [show (if SeatM.right ⟨p, e, s, h⟩ = true then SeatM.work ⟨p, e, s, h⟩ else 0) = 0 by rw [show SeatM.work ⟨p, e, s, h⟩ = 0 by simp [SeatM.work, he]]; exact ite_self _]; have be : (e == 2) = false := by simpa using he
  have bn : (!(e == 2)) = true := by simp [be]
  have bm : (e != 2) = true := by simp [bne, be]
  clear hw hz T; go_enter Tryz.func133, Tryz.ntmps133; go_wp2; go_ret; exact ⟨rfl, KB.out⟩
theorem goes_14 {ads : List Addr} (p e s h _st k send hc : Int) (hz : SeatM.ok ⟨p, e, 14, hc⟩) (hhc : howC k = hc) (w : World) (T : TabC ads w) : Calls Tryz.prog 89 #[.agg #[p, e, s, h], .int .i64 14, .int .i64 k, .int .i64 send] w fun r w' => r = .returned (.agg #[p, e, (14:Int), hc, send, (0:Int), .int .i64 (if SeatM.right ⟨p, e, 14, hc⟩ = true then SeatM.work ⟨p, e, 14, hc⟩ else 0), .bool true]) ∧ Kp w w' := by
 have hw := fun w1 (hk : Kp w w1) => msWork_any ⟨p, e, 14, hc⟩ hz w1 (T.kp hk)
 obtain ⟨wk, hwk⟩ : ∃ x, (if SeatM.right ⟨p, e, 14, hc⟩ = true then SeatM.work ⟨p, e, 14, hc⟩ else 0) = x := ⟨_, rfl⟩
 rw [hwk] at hw ⊢; dsimp only [seatV] at hw; have HW := hD hw; have HC := hD (fun w => hhc ▸ how_any k w); obtain ⟨W1, hW1⟩ : ∃ W1, (((w.alloc (.cells #[p, e, s, h] 69)).alloc (.cells #[(0:Int), (0:Int), (0:Int), (0:Int), (0:Int), (0:Int), (0:Int), .bool false] 103)).alloc (.cells #[p, e, (14:Int), hc] 69)) = W1 := ⟨_, rfl⟩
 have s1 : (w.alloc (.cells #[p, e, s, h] 69)).heap.size = w.heap.size + 1 := by simp
 have s2 : ((w.alloc (.cells #[p, e, s, h] 69)).alloc (.cells #[(0:Int), (0:Int), (0:Int), (0:Int), (0:Int), (0:Int), (0:Int), .bool false] 103)).heap.size = w.heap.size + 2 := by simp
 have r0 := (mH ((w.alloc (.cells #[p, e, s, h] 69)).alloc (.cells #[(0:Int), (0:Int), (0:Int), (0:Int), (0:Int), (0:Int), (0:Int), .bool false] 103)) (.cells #[p, e, (14:Int), (0:Int)] 69))
 have r2 := (mH ((w.alloc (.cells #[p, e, s, h] 69)).alloc (.cells #[(0:Int), (0:Int), (0:Int), (0:Int), (0:Int), (0:Int), (0:Int), .bool false] 103)) (.cells #[p, e, (14:Int), hc] 69))
 rw [s2] at r0 r2; have rz := (mH (w.alloc (.cells #[p, e, s, h] 69)) (.cells #[(0:Int), (0:Int), (0:Int), (0:Int), (0:Int), (0:Int), (0:Int), .bool false] 103))
 rw [s1] at rz; have k2 := kT (kA w (.cells #[p, e, s, h] 69)) (kA (w.alloc (.cells #[p, e, s, h] 69)) (.cells #[(0:Int), (0:Int), (0:Int), (0:Int), (0:Int), (0:Int), (0:Int), .bool false] 103)); have rs := (mH w (.cells #[p, e, s, h] 69))
 obtain ⟨g0, g1, g2, g3⟩ := cells_4 rs; have HX := hD (show W1.heap[w.heap.size + 2]? = some (.cells #[p, e, (14:Int), hc] 69) by rw [← hW1]; exact r2); have HZ := hD (show W1.heap[w.heap.size + 1]? = some (.cells #[(0:Int), (0:Int), (0:Int), (0:Int), (0:Int), (0:Int), (0:Int), .bool false] 103) by rw [← hW1]; exact rZ (kA _ _) rz); have KW := hD (show Kp w W1 by rw [← hW1]; exact kT k2 (kA _ _)); have fr := frozN r0; obtain ⟨x0, x1, x2, x3⟩ := cells_4 r0; have hs1 : W1.heap.size = w.heap.size + 1 + 1 + 1 := by rw [← hW1]; simp
 replace hW1 := hD hW1
 clear hwk hw hz T rz r0 r2 k2 rs s1 s2 hhc; go_enter Tryz.func89, Tryz.ntmps89; go_wp2_with (first | (go_at_call 132; (with_reducible refine (HC.out _).mono ?_); rintro e' w' ⟨rfl, rfl⟩) | fail)
 try rw [hW1.out]
 clear hW1; refine rgW (fun w' => Kp w w' ∧ w'.heap[w.heap.size + 2]? = some (.cells #[p, e, (14:Int), hc] 69)) ?_ fun hH => ?_
 ·exact ⟨kp_drewM KW.out, HX.out⟩
 refine tkP 0 ?_ (y := by intro w hZ; obtain ⟨q0, q1, q2, q3⟩ := cells_4 hZ.2; go_simp; try rfl)
 go_simp; refine tkP 1 ?_
 go_simp; refine tkP 2 ?_ (y := by intro w hZ; obtain ⟨q0, q1, q2, q3⟩ := cells_4 hZ.2; go_simp; try rfl)
 go_simp; refine rdW 3 fun K hK => ?_
 go_simp; go_wp2_with (go_at_call 133; (with_reducible refine (HW.out _ (kT KW.out.drew (Kp.refl _))).mono ?_); rintro e' w4 ⟨rfl, hk4⟩; have K4 := hD (kT hH.1 hk4); have R4 := hD (rZ hk4 hH.2); have RZ := rZ hk4 HZ.out; clear hk4)
 refine hK.out _ _ (⟨K4.out, R4.out⟩) fun hH => ?_
 clear hK K; refine tkP 4 ?_
 go_simp; refine rdW 5 fun K hK => ?_
 obtain ⟨z0, z1, z2, z3, z4, z5, z6, z7⟩ := c8X RZ; have fz := frozN RZ; go_simp; refine hK.out _ _ (⟨set_8_kp K4.out (Nat.le_succ _) _ _ _ _ _ _ _ _, set_8_ne _ _ _ _ _ _ _ _ R4.out (by omega)⟩) fun hH => ?_
 clear hK K; refine dnW ?_ _
 go_wp2; refine bodyPost_ret (results_cell_row (p := 8) rfl _ _ (w.heap.size + 1) 103 _ (0, 0) _ rfl (set_8 (.int .i64 p) (.int .i64 e) (.int .i64 14) (.int .i64 hc) (.int .i64 send) (.int .i64 0) (.int .i64 wk) (.bool true) RZ) Tryz.underlying103 rfl (by kernel_rfl)) rfl ?_
 exact ⟨rfl, set_8_kp K4.out (Nat.le_succ _) _ _ _ _ _ _ _ _⟩
theorem goes_no {ads : List Addr} (p e s h st k send hc : Int) (hz : SeatM.ok ⟨p, e, st, 0⟩) (hhc : howC k = hc) (b14 : (st == 14) = false) (w : World) (T : TabC ads w) : Calls Tryz.prog 89 #[.agg #[p, e, s, h], .int .i64 st, .int .i64 k, .int .i64 send] w fun r w' => r = .returned (.agg #[p, e, st, (0:Int), send, (0:Int), .int .i64 (if SeatM.right ⟨p, e, st, 0⟩ = true then SeatM.work ⟨p, e, st, 0⟩ else 0), .bool true]) ∧ Kp w w' := by
 have hw := fun w1 (hk : Kp w w1) => msWork_any ⟨p, e, st, 0⟩ hz w1 (T.kp hk)
 obtain ⟨wk, hwk⟩ : ∃ x, (if SeatM.right ⟨p, e, st, 0⟩ = true then SeatM.work ⟨p, e, st, 0⟩ else 0) = x := ⟨_, rfl⟩
 rw [hwk] at hw ⊢; dsimp only [seatV] at hw; have HW := hD hw; have HC := hD (fun w => hhc ▸ how_any k w); obtain ⟨W1, hW1⟩ : ∃ W1, (((w.alloc (.cells #[p, e, s, h] 69)).alloc (.cells #[(0:Int), (0:Int), (0:Int), (0:Int), (0:Int), (0:Int), (0:Int), .bool false] 103)).alloc (.cells #[p, e, st, (0:Int)] 69)) = W1 := ⟨_, rfl⟩
 have s1 : (w.alloc (.cells #[p, e, s, h] 69)).heap.size = w.heap.size + 1 := by simp
 have s2 : ((w.alloc (.cells #[p, e, s, h] 69)).alloc (.cells #[(0:Int), (0:Int), (0:Int), (0:Int), (0:Int), (0:Int), (0:Int), .bool false] 103)).heap.size = w.heap.size + 2 := by simp
 have r0 := (mH ((w.alloc (.cells #[p, e, s, h] 69)).alloc (.cells #[(0:Int), (0:Int), (0:Int), (0:Int), (0:Int), (0:Int), (0:Int), .bool false] 103)) (.cells #[p, e, st, (0:Int)] 69))
 have r2 := (mH ((w.alloc (.cells #[p, e, s, h] 69)).alloc (.cells #[(0:Int), (0:Int), (0:Int), (0:Int), (0:Int), (0:Int), (0:Int), .bool false] 103)) (.cells #[p, e, st, (0:Int)] 69))
 rw [s2] at r0 r2; have rz := (mH (w.alloc (.cells #[p, e, s, h] 69)) (.cells #[(0:Int), (0:Int), (0:Int), (0:Int), (0:Int), (0:Int), (0:Int), .bool false] 103))
 rw [s1] at rz; have k2 := kT (kA w (.cells #[p, e, s, h] 69)) (kA (w.alloc (.cells #[p, e, s, h] 69)) (.cells #[(0:Int), (0:Int), (0:Int), (0:Int), (0:Int), (0:Int), (0:Int), .bool false] 103)); have rs := (mH w (.cells #[p, e, s, h] 69))
 obtain ⟨g0, g1, g2, g3⟩ := cells_4 rs; have HX := hD (show W1.heap[w.heap.size + 2]? = some (.cells #[p, e, st, (0:Int)] 69) by rw [← hW1]; exact r2); have HZ := hD (show W1.heap[w.heap.size + 1]? = some (.cells #[(0:Int), (0:Int), (0:Int), (0:Int), (0:Int), (0:Int), (0:Int), .bool false] 103) by rw [← hW1]; exact rZ (kA _ _) rz); have KW := hD (show Kp w W1 by rw [← hW1]; exact kT k2 (kA _ _)); have fr := frozN r0; obtain ⟨x0, x1, x2, x3⟩ := cells_4 r0; have hs1 : W1.heap.size = w.heap.size + 1 + 1 + 1 := by rw [← hW1]; simp
 replace hW1 := hD hW1
 clear hwk hw hz T rz r0 r2 k2 rs s1 s2 hhc; go_enter Tryz.func89, Tryz.ntmps89; go_wp2_with (first | (go_at_call 132; (with_reducible refine (HC.out _).mono ?_); rintro e' w' ⟨rfl, rfl⟩) | fail)
 try rw [hW1.out]
 clear hW1; refine rgW (fun w' => Kp w w' ∧ w'.heap[w.heap.size + 2]? = some (.cells #[p, e, st, (0:Int)] 69)) ?_ fun hH => ?_
 ·exact ⟨kp_drewM KW.out, HX.out⟩
 refine tkP 0 ?_ (y := by intro w hZ; obtain ⟨q0, q1, q2, q3⟩ := cells_4 hZ.2; go_simp; try rfl)
 go_simp; refine tkP 1 ?_
 go_simp; refine tkP 2 ?_ (y := by intro w hZ; obtain ⟨q0, q1, q2, q3⟩ := cells_4 hZ.2; go_simp; try rfl)
 go_simp; refine rdW 3 fun K hK => ?_
 go_simp; go_wp2_with (go_at_call 133; (with_reducible refine (HW.out _ (kT KW.out.drew (Kp.refl _))).mono ?_); rintro e' w4 ⟨rfl, hk4⟩; have K4 := hD (kT hH.1 hk4); have R4 := hD (rZ hk4 hH.2); have RZ := rZ hk4 HZ.out; clear hk4)
 refine hK.out _ _ (⟨K4.out, R4.out⟩) fun hH => ?_
 clear hK K; refine tkP 4 ?_
 go_simp; refine rdW 5 fun K hK => ?_
 obtain ⟨z0, z1, z2, z3, z4, z5, z6, z7⟩ := c8X RZ; have fz := frozN RZ; go_simp; refine hK.out _ _ (⟨set_8_kp K4.out (Nat.le_succ _) _ _ _ _ _ _ _ _, set_8_ne _ _ _ _ _ _ _ _ R4.out (by omega)⟩) fun hH => ?_
 clear hK K; refine dnW ?_ _
 go_wp2; refine bodyPost_ret (results_cell_row (p := 8) rfl _ _ (w.heap.size + 1) 103 _ (0, 0) _ rfl (set_8 (.int .i64 p) (.int .i64 e) (.int .i64 st) (.int .i64 0) (.int .i64 send) (.int .i64 0) (.int .i64 wk) (.bool true) RZ) Tryz.underlying103 rfl (by kernel_rfl)) rfl ?_
 exact ⟨rfl, set_8_kp K4.out (Nat.le_succ _) _ _ _ _ _ _ _ _⟩
theorem goes_any {ads : List Addr} (z : SeatM) (hz : z.ok) (st k send : Int) (hst : i64M st) (hk : i64M k) (w : World) (T : TabC ads w) : Calls Tryz.prog 89 #[.agg (seatV z), .int .i64 st, .int .i64 k, .int .i64 send] w fun r w' => r = .returned (.agg (effV (z.goes st k send))) ∧ Kp w w' := by
 have hc : i64M (howC k) := by
  unfold howC
  repeat' split
  all_goals first | decide | exact hk
 by_cases h14 : st = 14
 ·subst h14; have := goes_14 z.p z.e z.s z.h 14 k send (howC k) ⟨hz.1, hz.2.1, (by decide : i64M 14), hc⟩ rfl w T
  simpa [SeatM.goes, effV, seatV] using this
 ·have := goes_no z.p z.e z.s z.h st k send (howC k) ⟨hz.1, hz.2.1, hst, (by decide : i64M 0)⟩ rfl (by simpa using h14) w T
  simpa [SeatM.goes, effV, seatV, h14] using this
end Go.Proofs.YtncoofnhifcnhaaGreatDoor
