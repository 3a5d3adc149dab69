/-
  PACKAGE moves' SEATS: Right, Work, Waits, goes (own work).
-/
import Derived.Test.YtghjnhdepeiloaaDoorMvA
import Derived.Test.YtghjnhdepeiloaaDoorTabC
import Derived.Test.YtghjnhdepeiloaaDoorAsdW
import Derived.Lib.Hide
namespace Go.Proofs.YtghjnhdepeiloaaDoor
open Go.RowKit Go.ChangeShapes Go.WideShapes

theorem errI_ifaceM (ads : List Addr) (k : Int) (h : k ≠ 0) : ∃ q, errI ads k = .iface 128 (.pointer q) := ⟨_, if_neg h⟩
def howOk (z : SeatM) : Bool := if z.s = 14 then decide (z.h = 1 ∨ (4 ≤ z.h ∧ z.h ≤ 8)) else decide (z.h = 0)
def dueM (s : Int) : Int := if s = 13 then 13 else if s = 12 then 14 else if 8 ≤ s ∧ s ≤ 11 then 12 else 0
def howC (k : Int) : Int := if k = 13 then 1 else if k = 14 then 5 else if k = 12 then 4 else k
def SeatM.goes (z : SeatM) (st k send : Int) : EffM := ⟨⟨z.p, z.e, st, if st = 14 then howC k else 0⟩, send, 0, if SeatM.right ⟨z.p, z.e, st, if st = 14 then howC k else 0⟩ = true then SeatM.work ⟨z.p, z.e, st, if st = 14 then howC k else 0⟩ else 0, true⟩
def SeatM.toldC (z : SeatM) (k st : Int) : EffM := if z.e = 1 ∧ dueM st ≠ 0 then z.goes 14 (dueM st) (dueM st) else z.goes st k 0
theorem right_how (z : SeatM) : z.right = (rightT z.p z.e && hasT z.p z.e z.s && howOk z) := rfl
set_option maxRecDepth 100000 in
theorem rightHow_any (z : SeatM) (w : World) : Calls Tryd.prog 41 #[.agg (seatV z)] w fun r w' => r = .returned (.bool (howOk z)) ∧ Kp w w' := by
  obtain ⟨p, e, s, h⟩ := z
  dsimp only [seatV]
  have KB := Lib.hid (kp_alloc w (.cells #[.int .i64 p, .int .i64 e, .int .i64 s, .int .i64 h] 23))
  have HR := Lib.hid (MapKept.heap_alloc w (.cells #[.int .i64 p, .int .i64 e, .int .i64 s, .int .i64 h] 23)).1
  obtain ⟨g0, g1, g2, g3⟩ := cells_4 HR.out
  by_cases h14 : s = 14
  · subst h14
    by_cases h1 : h = 1
    · subst h1; rw [show howOk ⟨p, e, 14, 1⟩ = true by simp [howOk]]; (go_enter Tryd.func41, Tryd.ntmps41; go_wp2; go_ret; exact ⟨rfl, KB.out⟩)
    by_cases h4 : h = 4
    · subst h4; rw [show howOk ⟨p, e, 14, 4⟩ = true by simp [howOk]]; (go_enter Tryd.func41, Tryd.ntmps41; go_wp2; go_ret; exact ⟨rfl, KB.out⟩)
    by_cases h5 : h = 5
    · subst h5; rw [show howOk ⟨p, e, 14, 5⟩ = true by simp [howOk]]; (go_enter Tryd.func41, Tryd.ntmps41; go_wp2; go_ret; exact ⟨rfl, KB.out⟩)
    by_cases h6 : h = 6
    · subst h6; rw [show howOk ⟨p, e, 14, 6⟩ = true by simp [howOk]]; (go_enter Tryd.func41, Tryd.ntmps41; go_wp2; go_ret; exact ⟨rfl, KB.out⟩)
    by_cases h7 : h = 7
    · subst h7; rw [show howOk ⟨p, e, 14, 7⟩ = true by simp [howOk]]; (go_enter Tryd.func41, Tryd.ntmps41; go_wp2; go_ret; exact ⟨rfl, KB.out⟩)
    by_cases h8 : h = 8
    · subst h8; rw [show howOk ⟨p, e, 14, 8⟩ = true by simp [howOk]]; (go_enter Tryd.func41, Tryd.ntmps41; go_wp2; go_ret; exact ⟨rfl, KB.out⟩)
    have b1 : (h == 1) = false := by simpa using h1
    have b4 : (h == 4) = false := by simpa using h4
    have b5 : (h == 5) = false := by simpa using h5
    have b6 : (h == 6) = false := by simpa using h6
    have b7 : (h == 7) = false := by simpa using h7
    have b8 : (h == 8) = false := by simpa using h8
    rw [show howOk ⟨p, e, 14, h⟩ = false by simp only [howOk, if_true]; exact decide_eq_false (by omega)]
    clear h1 h4 h5 h6 h7 h8
    (go_enter Tryd.func41, Tryd.ntmps41; go_wp2; go_ret; exact ⟨rfl, KB.out⟩)
  · rw [show howOk ⟨p, e, s, h⟩ = (h == 0) by simp [howOk, h14]; rw [Bool.eq_iff_iff]; simp]
    have b14 : (s == 14) = false := by simpa using h14
    clear h14
    (go_enter Tryd.func41, Tryd.ntmps41; go_wp2; go_ret; exact ⟨rfl, KB.out⟩)
set_option maxRecDepth 100000 in
theorem due_any (s : Int) (w : World) : Calls Tryd.prog 60 #[.int .i64 s] w fun r w' => r = .returned (.int .i64 (dueM s)) ∧ w = w' := by
  by_cases h13 : s = 13
  · subst h13; (go_enter Tryd.func60, Tryd.ntmps60; go_wp2; go_ret; exact ⟨rfl, rfl⟩)
  by_cases h12 : s = 12
  · subst h12; (go_enter Tryd.func60, Tryd.ntmps60; go_wp2; go_ret; exact ⟨rfl, rfl⟩)
  by_cases h8 : s = 8
  · subst h8; (go_enter Tryd.func60, Tryd.ntmps60; go_wp2; go_ret; exact ⟨rfl, rfl⟩)
  by_cases h9 : s = 9
  · subst h9; (go_enter Tryd.func60, Tryd.ntmps60; go_wp2; go_ret; exact ⟨rfl, rfl⟩)
  by_cases h10 : s = 10
  · subst h10; (go_enter Tryd.func60, Tryd.ntmps60; go_wp2; go_ret; exact ⟨rfl, rfl⟩)
  by_cases h11 : s = 11
  · subst h11; (go_enter Tryd.func60, Tryd.ntmps60; go_wp2; go_ret; exact ⟨rfl, rfl⟩)
  have b13 : (s == 13) = false := by simpa using h13
  have b12 : (s == 12) = false := by simpa using h12
  have b8 : (s == 8) = false := by simpa using h8
  have b9 : (s == 9) = false := by simpa using h9
  have b10 : (s == 10) = false := by simpa using h10
  have b11 : (s == 11) = false := by simpa using h11
  rw [show dueM s = 0 by unfold dueM; rw [if_neg h13, if_neg h12, if_neg (by omega)]]
  clear h13 h12 h8 h9 h10 h11
  (go_enter Tryd.func60, Tryd.ntmps60; go_wp2; go_ret; exact ⟨rfl, rfl⟩)
set_option maxRecDepth 100000 in
theorem how_any (k : Int) (w : World) : Calls Tryd.prog 66 #[.int .i64 k] w fun r w' => r = .returned (.int .i64 (howC k)) ∧ w = w' := by
  by_cases h13 : k = 13
  · subst h13; (go_enter Tryd.func66, Tryd.ntmps66; go_wp2; go_ret; exact ⟨rfl, rfl⟩)
  by_cases h14 : k = 14
  · subst h14; (go_enter Tryd.func66, Tryd.ntmps66; go_wp2; go_ret; exact ⟨rfl, rfl⟩)
  by_cases h12 : k = 12
  · subst h12; (go_enter Tryd.func66, Tryd.ntmps66; go_wp2; go_ret; exact ⟨rfl, rfl⟩)
  have b13 : (k == 13) = false := by simpa using h13
  have b14 : (k == 14) = false := by simpa using h14
  have b12 : (k == 12) = false := by simpa using h12
  rw [show howC k = k by unfold howC; rw [if_neg h13, if_neg h14, if_neg h12]]
  clear h13 h14 h12
  (go_enter Tryd.func66, Tryd.ntmps66; go_wp2; go_ret; exact ⟨rfl, rfl⟩)
set_option maxRecDepth 100000 in
theorem msRight_any {ads : List Addr} (z : SeatM) (hz : z.ok) (w : World) (T : TabC ads w) : Calls Tryd.prog 16 #[.agg (seatV z)] w fun r w' => r = .returned (.bool z.right) ∧ Kp w w' := by
  obtain ⟨p, e, s, h⟩ := z
  obtain ⟨ip, ie, is, -⟩ := hz
  dsimp only [seatV]
  have KB := Lib.hid (kp_alloc w (.cells #[.int .i64 p, .int .i64 e, .int .i64 s, .int .i64 h] 23))
  have HR := Lib.hid (MapKept.heap_alloc w (.cells #[.int .i64 p, .int .i64 e, .int .i64 s, .int .i64 h] 23)).1
  obtain ⟨g0, g1, g2, g3⟩ := cells_4 HR.out
  have hw := T.waits _ KB.out p e s ip ie is
  rw [right_how]
  clear ip ie is T
  dsimp only
  cases hr : rightT p e with
  | false =>
    obtain ⟨q, hq⟩ := errI_ifaceM ads 14 (by decide)
    simp only [waitsT, hr, if_true, hq] at hw
    have HW := Lib.hid hw
    clear hw hr hq
    go_enter Tryd.func16, Tryd.ntmps16
    go_wp2_with (go_at_call 40; (with_reducible refine HW.out.mono ?_); rintro e' w1 ⟨rfl, hk⟩; have K1 := Lib.hid (Kp.trans KB.out hk); have R1 := kp_row hk HR.out; obtain ⟨q0, q1, q2, q3⟩ := cells_4 R1; clear hk)
    go_ret
    exact ⟨rfl, K1.out⟩
  | true =>
    cases hs : hasT p e s with
    | false =>
      obtain ⟨q, hq⟩ := errI_ifaceM ads 1 (by decide)
      simp only [waitsT, hr, hs, if_true, if_false, Bool.true_eq_false, hq] at hw
      have HW := Lib.hid hw
      clear hw hr hs hq
      go_enter Tryd.func16, Tryd.ntmps16
      go_wp2_with (go_at_call 40; (with_reducible refine HW.out.mono ?_); rintro e' w1 ⟨rfl, hk⟩; have K1 := Lib.hid (Kp.trans KB.out hk); have R1 := kp_row hk HR.out; obtain ⟨q0, q1, q2, q3⟩ := cells_4 R1; clear hk)
      go_ret
      exact ⟨rfl, K1.out⟩
    | true =>
      simp only [waitsT, hr, hs, if_false, Bool.true_eq_false, errI_nil] at hw
      have HW := Lib.hid hw
      have HH := Lib.hid (fun w => rightHow_any ⟨p, e, s, h⟩ w)
      dsimp only [seatV] at HH
      obtain ⟨b, hb⟩ : ∃ b, howOk ⟨p, e, s, h⟩ = b := ⟨_, rfl⟩
      rw [hb] at HH ⊢
      clear hw hr hs hb
      go_enter Tryd.func16, Tryd.ntmps16
      go_wp2_with (first | (go_at_call 40; (with_reducible refine HW.out.mono ?_); rintro e' w1 ⟨rfl, hk⟩; have K1 := Lib.hid (Kp.trans KB.out hk); have R1 := kp_row hk HR.out; obtain ⟨q0, q1, q2, q3⟩ := cells_4 R1; clear hk) | (go_at_call 41; (with_reducible refine (HH.out _).mono ?_); rintro e' w2 ⟨rfl, hk⟩; have K2 := Lib.hid (Kp.trans K1.out hk); clear hk))
      go_ret
      exact ⟨by simp, K2.out⟩
set_option maxRecDepth 100000 in
theorem msWork_any {ads : List Addr} (z : SeatM) (hz : z.ok) (w : World) (T : TabC ads w) : Calls Tryd.prog 18 #[.agg (seatV z)] w fun r w' => r = .returned (.int .i64 (if z.right = true then z.work else 0)) ∧ Kp w w' := by
  have hw := msRight_any (ads := ads) z hz
  obtain ⟨p, e, s, h⟩ := z
  dsimp only [seatV] at hw ⊢
  have KB := Lib.hid (kp_alloc w (.cells #[.int .i64 p, .int .i64 e, .int .i64 s, .int .i64 h] 23))
  have HR := Lib.hid (MapKept.heap_alloc w (.cells #[.int .i64 p, .int .i64 e, .int .i64 s, .int .i64 h] 23)).1
  obtain ⟨g0, g1, g2, g3⟩ := cells_4 HR.out
  replace hw := hw (w.alloc (.cells #[.int .i64 p, .int .i64 e, .int .i64 s, .int .i64 h] 23)) (T.kp KB.out)
  by_cases he : e = 2
  · subst he
    cases hr : SeatM.right ⟨p, 2, s, h⟩ with
    | false =>
      rw [hr] at hw
      have HW := Lib.hid hw
      clear hw hr T hz
      (go_enter Tryd.func18, Tryd.ntmps18; go_wp2_with (go_at_call 16; (with_reducible refine HW.out.mono ?_); rintro e' w1 ⟨rfl, hk⟩; have K1 := Lib.hid (Kp.trans KB.out hk); have R1 := kp_row hk HR.out; obtain ⟨q0, q1, q2, q3⟩ := cells_4 R1; clear hk); go_ret; exact ⟨rfl, K1.out⟩)
    | true =>
      rw [hr] at hw
      have HW := Lib.hid hw
      clear hw hr T hz
      rw [if_pos rfl]
      by_cases h4 : s = 4
      · subst h4; (go_enter Tryd.func18, Tryd.ntmps18; go_wp2_with (go_at_call 16; (with_reducible refine HW.out.mono ?_); rintro e' w1 ⟨rfl, hk⟩; have K1 := Lib.hid (Kp.trans KB.out hk); have R1 := kp_row hk HR.out; obtain ⟨q0, q1, q2, q3⟩ := cells_4 R1; clear hk); go_ret; exact ⟨rfl, K1.out⟩)
      by_cases h6 : s = 6
      · subst h6; (go_enter Tryd.func18, Tryd.ntmps18; go_wp2_with (go_at_call 16; (with_reducible refine HW.out.mono ?_); rintro e' w1 ⟨rfl, hk⟩; have K1 := Lib.hid (Kp.trans KB.out hk); have R1 := kp_row hk HR.out; obtain ⟨q0, q1, q2, q3⟩ := cells_4 R1; clear hk); go_ret; exact ⟨rfl, K1.out⟩)
      by_cases h2 : s = 2
      · subst h2; (go_enter Tryd.func18, Tryd.ntmps18; go_wp2_with (go_at_call 16; (with_reducible refine HW.out.mono ?_); rintro e' w1 ⟨rfl, hk⟩; have K1 := Lib.hid (Kp.trans KB.out hk); have R1 := kp_row hk HR.out; obtain ⟨q0, q1, q2, q3⟩ := cells_4 R1; clear hk); go_ret; exact ⟨rfl, K1.out⟩)
      by_cases h7 : s = 7
      · subst h7; (go_enter Tryd.func18, Tryd.ntmps18; go_wp2_with (go_at_call 16; (with_reducible refine HW.out.mono ?_); rintro e' w1 ⟨rfl, hk⟩; have K1 := Lib.hid (Kp.trans KB.out hk); have R1 := kp_row hk HR.out; obtain ⟨q0, q1, q2, q3⟩ := cells_4 R1; clear hk); go_ret; exact ⟨rfl, K1.out⟩)
      have b4 : (s == 4) = false := by simpa using h4
      have b6 : (s == 6) = false := by simpa using h6
      have b2 : (s == 2) = false := by simpa using h2
      have b7 : (s == 7) = false := by simpa using h7
      rw [show SeatM.work ⟨p, 2, s, h⟩ = 0 by simp [SeatM.work, h4, h6, h2, h7]]
      clear h4 h6 h2 h7
      (go_enter Tryd.func18, Tryd.ntmps18; go_wp2_with (go_at_call 16; (with_reducible refine HW.out.mono ?_); rintro e' w1 ⟨rfl, hk⟩; have K1 := Lib.hid (Kp.trans KB.out hk); have R1 := kp_row hk HR.out; obtain ⟨q0, q1, q2, q3⟩ := cells_4 R1; clear hk); go_ret; exact ⟨rfl, K1.out⟩)
  · rw [show (if SeatM.right ⟨p, e, s, h⟩ = true then SeatM.work ⟨p, e, s, h⟩ else 0) = 0 by rw [show SeatM.work ⟨p, e, s, h⟩ = 0 by simp [SeatM.work, he]]; exact ite_self _]
    have be : (e == 2) = false := by simpa using he
    have bn : (!(e == 2)) = true := by simp [be]
    have bm : (e != 2) = true := by simp [bne, be]
    clear hw hz T
    go_enter Tryd.func18, Tryd.ntmps18
    go_wp2
    go_ret
    exact ⟨rfl, KB.out⟩
set_option maxRecDepth 100000 in
theorem msWaits_any {ads : List Addr} (z : SeatM) (hz : z.ok) (w : World) (T : TabC ads w) : Calls Tryd.prog 19 #[.agg (seatV z)] w fun r w' => r = .returned (.int .i64 (if z.right = true then z.waits else 0)) ∧ Kp w w' := by
  have hw := msRight_any (ads := ads) z hz
  obtain ⟨p, e, s, h⟩ := z
  dsimp only [seatV] at hw ⊢
  have ht := fun w1 hk => T.waits w1 hk p e s hz.1 hz.2.1 hz.2.2.1
  have KB := Lib.hid (kp_alloc w (.cells #[.int .i64 p, .int .i64 e, .int .i64 s, .int .i64 h] 23))
  have HR := Lib.hid (MapKept.heap_alloc w (.cells #[.int .i64 p, .int .i64 e, .int .i64 s, .int .i64 h] 23)).1
  obtain ⟨g0, g1, g2, g3⟩ := cells_4 HR.out
  replace hw := hw (w.alloc (.cells #[.int .i64 p, .int .i64 e, .int .i64 s, .int .i64 h] 23)) (T.kp KB.out)
  cases hr : SeatM.right ⟨p, e, s, h⟩ with
  | false =>
    rw [hr] at hw
    have HW := Lib.hid hw
    clear hw hr T hz ht
    (go_enter Tryd.func19, Tryd.ntmps19; go_wp2_with (go_at_call 16; (with_reducible refine HW.out.mono ?_); rintro e' w1 ⟨rfl, hk⟩; have K1 := Lib.hid (Kp.trans KB.out hk); have R1 := kp_row hk HR.out; obtain ⟨q0, q1, q2, q3⟩ := cells_4 R1; clear hk); go_ret; exact ⟨rfl, K1.out⟩)
  | true =>
    rw [hr] at hw
    have HW := Lib.hid hw
    have hr2 := hr
    rw [right_how] at hr2
    simp only [Bool.and_eq_true] at hr2
    simp only [waitsT, hr2.1.1, hr2.1.2, if_false, Bool.true_eq_false, errI_nil] at ht
    have HT := Lib.hid ht
    rw [if_pos rfl, show SeatM.waits ⟨p, e, s, h⟩ = waitT e s from rfl]
    obtain ⟨k, hk⟩ : ∃ k, waitT e s = k := ⟨_, rfl⟩
    rw [hk] at HT ⊢
    clear hw hr hr2 T hz ht hk
    go_enter Tryd.func19, Tryd.ntmps19
    go_wp2_with (first | (go_at_call 16; (with_reducible refine HW.out.mono ?_); rintro e' w1 ⟨rfl, hk⟩; have K1 := Lib.hid (Kp.trans KB.out hk); have R1 := kp_row hk HR.out; obtain ⟨q0, q1, q2, q3⟩ := cells_4 R1; clear hk) | (go_at_call 40; (with_reducible refine (HT.out _ K1.out).mono ?_); rintro e' w2 ⟨rfl, hk⟩; have K2 := Lib.hid (Kp.trans K1.out hk); clear hk))
    go_ret
    exact ⟨rfl, K2.out⟩
set_option maxRecDepth 100000 in
set_option maxHeartbeats 1000000 in
theorem goes_14 {ads : List Addr} (p e s h _st k send hc : Int) (hz : SeatM.ok ⟨p, e, 14, hc⟩) (hhc : howC k = hc) (w : World) (T : TabC ads w) : Calls Tryd.prog 37 #[.agg #[.int .i64 p, .int .i64 e, .int .i64 s, .int .i64 h], .int .i64 14, .int .i64 k, .int .i64 send] w fun r w' => r = .returned (.agg #[.int .i64 p, .int .i64 e, .int .i64 14, .int .i64 hc, .int .i64 send, .int .i64 0, .int .i64 (if SeatM.right ⟨p, e, 14, hc⟩ = true then SeatM.work ⟨p, e, 14, hc⟩ else 0), .bool true]) ∧ Kp w w' := by
  have hw := fun w1 (hk : Kp w w1) => msWork_any ⟨p, e, 14, hc⟩ hz w1 (T.kp hk)
  obtain ⟨wk, hwk⟩ : ∃ x, (if SeatM.right ⟨p, e, 14, hc⟩ = true then SeatM.work ⟨p, e, 14, hc⟩ else 0) = x := ⟨_, rfl⟩
  rw [hwk] at hw ⊢
  dsimp only [seatV] at hw
  have HW := Lib.hid hw
  have HC := Lib.hid (fun w => hhc ▸ how_any k w)
  obtain ⟨W1, hW1⟩ : ∃ W1, (((w.alloc (.cells #[.int .i64 p, .int .i64 e, .int .i64 s, .int .i64 h] 23)).alloc (.cells #[.int .i64 0, .int .i64 0, .int .i64 0, .int .i64 0, .int .i64 0, .int .i64 0, .int .i64 0, .bool false] 27)).alloc (.cells #[.int .i64 p, .int .i64 e, .int .i64 14, .int .i64 hc] 23)) = W1 := ⟨_, rfl⟩
  have s1 : (w.alloc (.cells #[.int .i64 p, .int .i64 e, .int .i64 s, .int .i64 h] 23)).heap.size = w.heap.size + 1 := by simp
  have s2 : ((w.alloc (.cells #[.int .i64 p, .int .i64 e, .int .i64 s, .int .i64 h] 23)).alloc (.cells #[.int .i64 0, .int .i64 0, .int .i64 0, .int .i64 0, .int .i64 0, .int .i64 0, .int .i64 0, .bool false] 27)).heap.size = w.heap.size + 2 := by simp
  have r0 := (MapKept.heap_alloc ((w.alloc (.cells #[.int .i64 p, .int .i64 e, .int .i64 s, .int .i64 h] 23)).alloc (.cells #[.int .i64 0, .int .i64 0, .int .i64 0, .int .i64 0, .int .i64 0, .int .i64 0, .int .i64 0, .bool false] 27)) (.cells #[.int .i64 p, .int .i64 e, .int .i64 14, .int .i64 0] 23)).1
  have r2 := (MapKept.heap_alloc ((w.alloc (.cells #[.int .i64 p, .int .i64 e, .int .i64 s, .int .i64 h] 23)).alloc (.cells #[.int .i64 0, .int .i64 0, .int .i64 0, .int .i64 0, .int .i64 0, .int .i64 0, .int .i64 0, .bool false] 27)) (.cells #[.int .i64 p, .int .i64 e, .int .i64 14, .int .i64 hc] 23)).1
  rw [s2] at r0 r2
  have rz := (MapKept.heap_alloc (w.alloc (.cells #[.int .i64 p, .int .i64 e, .int .i64 s, .int .i64 h] 23)) (.cells #[.int .i64 0, .int .i64 0, .int .i64 0, .int .i64 0, .int .i64 0, .int .i64 0, .int .i64 0, .bool false] 27)).1
  rw [s1] at rz
  have k2 := Kp.trans (kp_alloc w (.cells #[.int .i64 p, .int .i64 e, .int .i64 s, .int .i64 h] 23)) (kp_alloc (w.alloc (.cells #[.int .i64 p, .int .i64 e, .int .i64 s, .int .i64 h] 23)) (.cells #[.int .i64 0, .int .i64 0, .int .i64 0, .int .i64 0, .int .i64 0, .int .i64 0, .int .i64 0, .bool false] 27))
  have rs := (MapKept.heap_alloc w (.cells #[.int .i64 p, .int .i64 e, .int .i64 s, .int .i64 h] 23)).1
  obtain ⟨g0, g1, g2, g3⟩ := cells_4 rs
  have HX := Lib.hid (show W1.heap[w.heap.size + 2]? = some (.cells #[.int .i64 p, .int .i64 e, .int .i64 14, .int .i64 hc] 23) by rw [← hW1]; exact r2)
  have HZ := Lib.hid (show W1.heap[w.heap.size + 1]? = some (.cells #[.int .i64 0, .int .i64 0, .int .i64 0, .int .i64 0, .int .i64 0, .int .i64 0, .int .i64 0, .bool false] 27) by rw [← hW1]; exact kp_row (kp_alloc _ _) rz)
  have KW := Lib.hid (show Kp w W1 by rw [← hW1]; exact Kp.trans k2 (kp_alloc _ _))
  have fr := frozN r0
  obtain ⟨x0, x1, x2, x3⟩ := cells_4 r0
  have hs1 : W1.heap.size = w.heap.size + 1 + 1 + 1 := by rw [← hW1]; simp
  replace hW1 := Lib.hid hW1
  clear hwk hw hz T rz r0 r2 k2 rs s1 s2 hhc
  go_enter Tryd.func37, Tryd.ntmps37
  go_wp2_with (first | (go_at_call 66; (with_reducible refine (HC.out _).mono ?_); rintro e' w' ⟨rfl, rfl⟩) | fail)
  try rw [hW1.out]
  clear hW1
  refine wp_region_held_drew (S := fun w' => Kp w w' ∧ w'.heap[w.heap.size + 2]? = some (.cells #[.int .i64 p, .int .i64 e, .int .i64 14, .int .i64 hc] 23)) (by kernel_rfl) ?_ (fun hHeld => ?_)
  · exact ⟨kp_drewM KW.out, HX.out⟩
  refine wpAnyH_take (i := 0) (v := ?_) rfl (by kernel_rfl) (by kernel_rfl) (by kernel_rfl) (fun _ _ _ h => h) (Or.inl ⟨by rfl, ?_⟩) (by assumption) ?_
  rotate_left
  · intro w hSw; obtain ⟨q0, q1, q2, q3⟩ := cells_4 hSw.2; go_simp; try with_reducible rfl
  go_simp
  refine wpAnyH_take (i := 1) (v := ?_) rfl (by kernel_rfl) (by kernel_rfl) (by kernel_rfl) (fun _ _ _ h => h) (Or.inl ⟨by rfl, ?_⟩) (by assumption) ?_
  rotate_left
  · intro w hSw; go_simp; try with_reducible rfl
  go_simp
  refine wpAnyH_take (i := 2) (v := ?_) rfl (by kernel_rfl) (by kernel_rfl) (by kernel_rfl) (fun _ _ _ h => h) (Or.inl ⟨by rfl, ?_⟩) (by assumption) ?_
  rotate_left
  · intro w hSw; obtain ⟨q0, q1, q2, q3⟩ := cells_4 hSw.2; go_simp; try with_reducible rfl
  go_simp
  refine wpAnyH_ready (rs := [3]) (by kernel_rfl) (by simp) ?_
  refine AllReadyH.cons rfl (fun K hK => ?_) AllReadyH.nil
  go_simp
  go_wp2_with (go_at_call 18; (with_reducible refine (HW.out _ (Kp.trans KW.out.drew (Kp.refl _))).mono ?_); rintro e' w4 ⟨rfl, hk4⟩; have K4 := Lib.hid (Kp.trans hHeld.1 hk4); have R4 := Lib.hid (kp_row hk4 hHeld.2); have RZ := kp_row hk4 HZ.out; clear hk4)
  refine hK.out _ _ ?_ (fun hHeld => ?_)
  · exact ⟨K4.out, R4.out⟩
  clear hK K
  refine wpAnyH_take (i := 4) (v := ?_) rfl (by kernel_rfl) (by kernel_rfl) (by kernel_rfl) (fun _ _ _ h => h) (Or.inl ⟨by rfl, ?_⟩) (by assumption) ?_
  rotate_left
  · intro w hSw; go_simp; try with_reducible rfl
  go_simp
  refine wpAnyH_ready (rs := [5]) (by kernel_rfl) (by simp) ?_
  refine AllReadyH.cons rfl (fun K hK => ?_) AllReadyH.nil
  obtain ⟨z0, z1, z2, z3, z4, z5, z6, z7⟩ := cells_8 RZ
  have fz := frozN RZ
  go_simp
  refine hK.out _ _ ?_ (fun hHeld => ?_)
  · exact ⟨set_8_kp K4.out (Nat.le_succ _) _ _ _ _ _ _ _ _, set_8_ne _ _ _ _ _ _ _ _ R4.out (by omega)⟩
  clear hK K
  refine wpAnyH_done (by kernel_rfl) ?_ _
  go_wp2
  refine bodyPost_ret (results_cell_row (p := 8) rfl _ _ (w.heap.size + 1) 27 _ (0, 0) _ rfl (set_8 (.int .i64 p) (.int .i64 e) (.int .i64 14) (.int .i64 hc) (.int .i64 send) (.int .i64 0) (.int .i64 wk) (.bool true) RZ) Tryd.underlying27 rfl (by kernel_rfl)) rfl ?_
  exact ⟨rfl, set_8_kp K4.out (Nat.le_succ _) _ _ _ _ _ _ _ _⟩
set_option maxRecDepth 100000 in
set_option maxHeartbeats 1000000 in
theorem goes_no {ads : List Addr} (p e s h st k send hc : Int) (hz : SeatM.ok ⟨p, e, st, 0⟩) (hhc : howC k = hc) (b14 : (st == 14) = false) (w : World) (T : TabC ads w) : Calls Tryd.prog 37 #[.agg #[.int .i64 p, .int .i64 e, .int .i64 s, .int .i64 h], .int .i64 st, .int .i64 k, .int .i64 send] w fun r w' => r = .returned (.agg #[.int .i64 p, .int .i64 e, .int .i64 st, .int .i64 0, .int .i64 send, .int .i64 0, .int .i64 (if SeatM.right ⟨p, e, st, 0⟩ = true then SeatM.work ⟨p, e, st, 0⟩ else 0), .bool true]) ∧ Kp w w' := by
  have hw := fun w1 (hk : Kp w w1) => msWork_any ⟨p, e, st, 0⟩ hz w1 (T.kp hk)
  obtain ⟨wk, hwk⟩ : ∃ x, (if SeatM.right ⟨p, e, st, 0⟩ = true then SeatM.work ⟨p, e, st, 0⟩ else 0) = x := ⟨_, rfl⟩
  rw [hwk] at hw ⊢
  dsimp only [seatV] at hw
  have HW := Lib.hid hw
  have HC := Lib.hid (fun w => hhc ▸ how_any k w)
  obtain ⟨W1, hW1⟩ : ∃ W1, (((w.alloc (.cells #[.int .i64 p, .int .i64 e, .int .i64 s, .int .i64 h] 23)).alloc (.cells #[.int .i64 0, .int .i64 0, .int .i64 0, .int .i64 0, .int .i64 0, .int .i64 0, .int .i64 0, .bool false] 27)).alloc (.cells #[.int .i64 p, .int .i64 e, .int .i64 st, .int .i64 0] 23)) = W1 := ⟨_, rfl⟩
  have s1 : (w.alloc (.cells #[.int .i64 p, .int .i64 e, .int .i64 s, .int .i64 h] 23)).heap.size = w.heap.size + 1 := by simp
  have s2 : ((w.alloc (.cells #[.int .i64 p, .int .i64 e, .int .i64 s, .int .i64 h] 23)).alloc (.cells #[.int .i64 0, .int .i64 0, .int .i64 0, .int .i64 0, .int .i64 0, .int .i64 0, .int .i64 0, .bool false] 27)).heap.size = w.heap.size + 2 := by simp
  have r0 := (MapKept.heap_alloc ((w.alloc (.cells #[.int .i64 p, .int .i64 e, .int .i64 s, .int .i64 h] 23)).alloc (.cells #[.int .i64 0, .int .i64 0, .int .i64 0, .int .i64 0, .int .i64 0, .int .i64 0, .int .i64 0, .bool false] 27)) (.cells #[.int .i64 p, .int .i64 e, .int .i64 st, .int .i64 0] 23)).1
  have r2 := (MapKept.heap_alloc ((w.alloc (.cells #[.int .i64 p, .int .i64 e, .int .i64 s, .int .i64 h] 23)).alloc (.cells #[.int .i64 0, .int .i64 0, .int .i64 0, .int .i64 0, .int .i64 0, .int .i64 0, .int .i64 0, .bool false] 27)) (.cells #[.int .i64 p, .int .i64 e, .int .i64 st, .int .i64 0] 23)).1
  rw [s2] at r0 r2
  have rz := (MapKept.heap_alloc (w.alloc (.cells #[.int .i64 p, .int .i64 e, .int .i64 s, .int .i64 h] 23)) (.cells #[.int .i64 0, .int .i64 0, .int .i64 0, .int .i64 0, .int .i64 0, .int .i64 0, .int .i64 0, .bool false] 27)).1
  rw [s1] at rz
  have k2 := Kp.trans (kp_alloc w (.cells #[.int .i64 p, .int .i64 e, .int .i64 s, .int .i64 h] 23)) (kp_alloc (w.alloc (.cells #[.int .i64 p, .int .i64 e, .int .i64 s, .int .i64 h] 23)) (.cells #[.int .i64 0, .int .i64 0, .int .i64 0, .int .i64 0, .int .i64 0, .int .i64 0, .int .i64 0, .bool false] 27))
  have rs := (MapKept.heap_alloc w (.cells #[.int .i64 p, .int .i64 e, .int .i64 s, .int .i64 h] 23)).1
  obtain ⟨g0, g1, g2, g3⟩ := cells_4 rs
  have HX := Lib.hid (show W1.heap[w.heap.size + 2]? = some (.cells #[.int .i64 p, .int .i64 e, .int .i64 st, .int .i64 0] 23) by rw [← hW1]; exact r2)
  have HZ := Lib.hid (show W1.heap[w.heap.size + 1]? = some (.cells #[.int .i64 0, .int .i64 0, .int .i64 0, .int .i64 0, .int .i64 0, .int .i64 0, .int .i64 0, .bool false] 27) by rw [← hW1]; exact kp_row (kp_alloc _ _) rz)
  have KW := Lib.hid (show Kp w W1 by rw [← hW1]; exact Kp.trans k2 (kp_alloc _ _))
  have fr := frozN r0
  obtain ⟨x0, x1, x2, x3⟩ := cells_4 r0
  have hs1 : W1.heap.size = w.heap.size + 1 + 1 + 1 := by rw [← hW1]; simp
  replace hW1 := Lib.hid hW1
  clear hwk hw hz T rz r0 r2 k2 rs s1 s2 hhc
  go_enter Tryd.func37, Tryd.ntmps37
  go_wp2_with (first | (go_at_call 66; (with_reducible refine (HC.out _).mono ?_); rintro e' w' ⟨rfl, rfl⟩) | fail)
  try rw [hW1.out]
  clear hW1
  refine wp_region_held_drew (S := fun w' => Kp w w' ∧ w'.heap[w.heap.size + 2]? = some (.cells #[.int .i64 p, .int .i64 e, .int .i64 st, .int .i64 0] 23)) (by kernel_rfl) ?_ (fun hHeld => ?_)
  · exact ⟨kp_drewM KW.out, HX.out⟩
  refine wpAnyH_take (i := 0) (v := ?_) rfl (by kernel_rfl) (by kernel_rfl) (by kernel_rfl) (fun _ _ _ h => h) (Or.inl ⟨by rfl, ?_⟩) (by assumption) ?_
  rotate_left
  · intro w hSw; obtain ⟨q0, q1, q2, q3⟩ := cells_4 hSw.2; go_simp; try with_reducible rfl
  go_simp
  refine wpAnyH_take (i := 1) (v := ?_) rfl (by kernel_rfl) (by kernel_rfl) (by kernel_rfl) (fun _ _ _ h => h) (Or.inl ⟨by rfl, ?_⟩) (by assumption) ?_
  rotate_left
  · intro w hSw; go_simp; try with_reducible rfl
  go_simp
  refine wpAnyH_take (i := 2) (v := ?_) rfl (by kernel_rfl) (by kernel_rfl) (by kernel_rfl) (fun _ _ _ h => h) (Or.inl ⟨by rfl, ?_⟩) (by assumption) ?_
  rotate_left
  · intro w hSw; obtain ⟨q0, q1, q2, q3⟩ := cells_4 hSw.2; go_simp; try with_reducible rfl
  go_simp
  refine wpAnyH_ready (rs := [3]) (by kernel_rfl) (by simp) ?_
  refine AllReadyH.cons rfl (fun K hK => ?_) AllReadyH.nil
  go_simp
  go_wp2_with (go_at_call 18; (with_reducible refine (HW.out _ (Kp.trans KW.out.drew (Kp.refl _))).mono ?_); rintro e' w4 ⟨rfl, hk4⟩; have K4 := Lib.hid (Kp.trans hHeld.1 hk4); have R4 := Lib.hid (kp_row hk4 hHeld.2); have RZ := kp_row hk4 HZ.out; clear hk4)
  refine hK.out _ _ ?_ (fun hHeld => ?_)
  · exact ⟨K4.out, R4.out⟩
  clear hK K
  refine wpAnyH_take (i := 4) (v := ?_) rfl (by kernel_rfl) (by kernel_rfl) (by kernel_rfl) (fun _ _ _ h => h) (Or.inl ⟨by rfl, ?_⟩) (by assumption) ?_
  rotate_left
  · intro w hSw; go_simp; try with_reducible rfl
  go_simp
  refine wpAnyH_ready (rs := [5]) (by kernel_rfl) (by simp) ?_
  refine AllReadyH.cons rfl (fun K hK => ?_) AllReadyH.nil
  obtain ⟨z0, z1, z2, z3, z4, z5, z6, z7⟩ := cells_8 RZ
  have fz := frozN RZ
  go_simp
  refine hK.out _ _ ?_ (fun hHeld => ?_)
  · exact ⟨set_8_kp K4.out (Nat.le_succ _) _ _ _ _ _ _ _ _, set_8_ne _ _ _ _ _ _ _ _ R4.out (by omega)⟩
  clear hK K
  refine wpAnyH_done (by kernel_rfl) ?_ _
  go_wp2
  refine bodyPost_ret (results_cell_row (p := 8) rfl _ _ (w.heap.size + 1) 27 _ (0, 0) _ rfl (set_8 (.int .i64 p) (.int .i64 e) (.int .i64 st) (.int .i64 0) (.int .i64 send) (.int .i64 0) (.int .i64 wk) (.bool true) RZ) Tryd.underlying27 rfl (by kernel_rfl)) rfl ?_
  exact ⟨rfl, set_8_kp K4.out (Nat.le_succ _) _ _ _ _ _ _ _ _⟩
theorem goes_any {ads : List Addr} (z : SeatM) (hz : z.ok) (st k send : Int) (hst : i64M st) (hk : i64M k) (w : World) (T : TabC ads w) : Calls Tryd.prog 37 #[.agg (seatV z), .int .i64 st, .int .i64 k, .int .i64 send] w fun r w' => r = .returned (.agg (effV (z.goes st k send))) ∧ Kp w w' := by
  have hc : i64M (howC k) := by
    unfold howC
    repeat' split
    all_goals first | decide | exact hk
  by_cases h14 : st = 14
  · subst h14
    have := goes_14 z.p z.e z.s z.h 14 k send (howC k) ⟨hz.1, hz.2.1, (by decide : i64M 14), hc⟩ rfl w T
    simpa [SeatM.goes, effV, seatV] using this
  · have := goes_no z.p z.e z.s z.h st k send (howC k) ⟨hz.1, hz.2.1, hst, (by decide : i64M 0)⟩ rfl (by simpa using h14) w T
    simpa [SeatM.goes, effV, seatV, h14] using this
end Go.Proofs.YtghjnhdepeiloaaDoor
