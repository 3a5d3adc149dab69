/-
  PACKAGE moves' SEATS: told, Tell, Do, New (own work).
-/
import Derived.Test.YtghjnhdepeiloaaDoorMsA
import Derived.Test.YtghjnhdepeiloaaDoorRefL
namespace Go.Proofs.YtghjnhdepeiloaaDoor
open Go.RowKit Go.ChangeShapes Go.WideShapes

theorem set_4_drew {b : Nat} {t : TypeId} {w : World} {x0 x1 x2 x3 : Value} (y0 y1 y2 y3 : Value) (h : w.heap[b]? = some (.cells #[x0, x1, x2, x3] t (0, 0))) : ((((w.setCell ⟨b, 0, none⟩ y0).setCell ⟨b, 1, none⟩ y1).setCell ⟨b, 2, none⟩ y2).setCell ⟨b, 3, none⟩ y3).drew.heap[b]? = some (.cells #[y0, y1, y2, y3] t (0, 0)) := by rw [drew_heapM]; exact set_4 y0 y1 y2 y3 h
theorem set_4_kpd {b : Nat} {w0 w : World} (hk : Kp w0 w) (hb : w0.heap.size ≤ b) (y0 y1 y2 y3 : Value) : Kp w0 ((((w.setCell ⟨b, 0, none⟩ y0).setCell ⟨b, 1, none⟩ y1).setCell ⟨b, 2, none⟩ y2).setCell ⟨b, 3, none⟩ y3).drew := kp_drewM (set_4_kp hk hb y0 y1 y2 y3)
theorem set_8_drew {b : Nat} {t : TypeId} {w : World} {x0 x1 x2 x3 x4 x5 x6 x7 : Value} (y0 y1 y2 y3 y4 y5 y6 y7 : Value) (h : w.heap[b]? = some (.cells #[x0, x1, x2, x3, x4, x5, x6, x7] t (0, 0))) : ((((((((w.setCell ⟨b, 0, none⟩ y0).setCell ⟨b, 1, none⟩ y1).setCell ⟨b, 2, none⟩ y2).setCell ⟨b, 3, none⟩ y3).setCell ⟨b, 4, none⟩ y4).setCell ⟨b, 5, none⟩ y5).setCell ⟨b, 6, none⟩ y6).setCell ⟨b, 7, none⟩ y7).drew.heap[b]? = some (.cells #[y0, y1, y2, y3, y4, y5, y6, y7] t (0, 0)) := by rw [drew_heapM]; exact set_8 y0 y1 y2 y3 y4 y5 y6 y7 h
theorem set_8_kpd {b : Nat} {w0 w : World} (hk : Kp w0 w) (hb : w0.heap.size ≤ b) (y0 y1 y2 y3 y4 y5 y6 y7 : Value) : Kp w0 ((((((((w.setCell ⟨b, 0, none⟩ y0).setCell ⟨b, 1, none⟩ y1).setCell ⟨b, 2, none⟩ y2).setCell ⟨b, 3, none⟩ y3).setCell ⟨b, 4, none⟩ y4).setCell ⟨b, 5, none⟩ y5).setCell ⟨b, 6, none⟩ y6).setCell ⟨b, 7, none⟩ y7).drew := kp_drewM (set_8_kp hk hb y0 y1 y2 y3 y4 y5 y6 y7)
def sameE (a b : EffM) : Bool := decide (a.z = b.z) && decide (a.send = b.send) && decide (a.fault = b.fault) && decide (a.work = b.work) && decide (a.changed = b.changed)
theorem sameE_eq {a b : EffM} (h : sameE a b = true) : a = b := by
  obtain ⟨a1, a2, a3, a4, a5⟩ := a
  obtain ⟨b1, b2, b3, b4, b5⟩ := b
  simp only [sameE, Bool.and_eq_true, decide_eq_true_eq] at h
  obtain ⟨⟨⟨⟨rfl, rfl⟩, rfl⟩, rfl⟩, rfl⟩ := h
  rfl
def sidesM : List (Int × Int) := [(1, 1), (1, 2), (2, 1), (2, 2)]
def howsM : List Int := [0, 1, 4, 5, 6, 7, 8]
theorem right_in {z : SeatM} (hr : z.right = true) : (z.p, z.e) ∈ sidesM ∧ z.s ∈ allT ∧ z.h ∈ howsM := by
  obtain ⟨p, e, s, h⟩ := z
  simp only [right_how, Bool.and_eq_true] at hr
  obtain ⟨⟨h1, h2⟩, h3⟩ := hr
  have h4 := of_decide_eq_true h1
  refine ⟨?_, ?_, ?_⟩
  · rcases h4 with ⟨rfl | rfl, rfl | rfl⟩ <;> (dsimp only; decide)
  · show s ∈ allT
    have q : 1 ≤ s ∧ s ≤ 14 := by
      unfold hasT at h2
      split at h2
      · rename_i q; omega
      · split at h2
        · rename_i q; omega
        · exact of_decide_eq_true h2
    have q2 : s = 1 ∨ s = 2 ∨ s = 3 ∨ s = 4 ∨ s = 5 ∨ s = 6 ∨ s = 7 ∨ s = 8 ∨ s = 9 ∨ s = 10 ∨ s = 11 ∨ s = 12 ∨ s = 13 ∨ s = 14 := by omega
    rcases q2 with rfl | rfl | rfl | rfl | rfl | rfl | rfl | rfl | rfl | rfl | rfl | rfl | rfl | rfl <;> decide
  · show h ∈ howsM
    have q : h = 0 ∨ h = 1 ∨ h = 4 ∨ h = 5 ∨ h = 6 ∨ h = 7 ∨ h = 8 := by
      unfold howOk at h3
      dsimp only at h3
      split at h3
      · have := of_decide_eq_true h3; omega
      · exact .inl (of_decide_eq_true h3)
    rcases q with rfl | rfl | rfl | rfl | rfl | rfl | rfl <;> decide
theorem look_kind {p e k s : Int} (h : (lookT p e k s).1 = 0) : k ∈ allT := by
  unfold lookT at h
  split at h
  · cases h
  · split at h
    · cases h
    · rename_i _ q
      have q1 : takesT p e k = true := by simpa using q
      have q2 : 1 ≤ k ∧ k ≤ 14 := by
        unfold takesT at q1
        split at q1
        · have := of_decide_eq_true q1; omega
        · have := of_decide_eq_true q1; omega
      have q3 : k = 1 ∨ k = 2 ∨ k = 3 ∨ k = 4 ∨ k = 5 ∨ k = 6 ∨ k = 7 ∨ k = 8 ∨ k = 9 ∨ k = 10 ∨ k = 11 ∨ k = 12 ∨ k = 13 ∨ k = 14 := by omega
      rcases q3 with rfl | rfl | rfl | rfl | rfl | rfl | rfl | rfl | rfl | rfl | rfl | rfl | rfl | rfl <;> decide
theorem step_kind {p e k s : Int} (h : (stepT p e k s).1 = 0) : k ∈ allT := by
  unfold stepT at h
  split at h
  · cases h
  · split at h
    · cases h
    · rename_i _ q
      have q1 : sendsT p e k = true := by simpa using q
      have q2 : 1 ≤ k ∧ k ≤ 14 := by
        unfold sendsT at q1
        split at q1
        · have := of_decide_eq_true q1; omega
        · have := of_decide_eq_true q1; omega
      have q3 : k = 1 ∨ k = 2 ∨ k = 3 ∨ k = 4 ∨ k = 5 ∨ k = 6 ∨ k = 7 ∨ k = 8 ∨ k = 9 ∨ k = 10 ∨ k = 11 ∨ k = 12 ∨ k = 13 ∨ k = 14 := by omega
      rcases q3 with rfl | rfl | rfl | rfl | rfl | rfl | rfl | rfl | rfl | rfl | rfl | rfl | rfl | rfl <;> decide
def tellOk (z : SeatM) (k : Int) (c : Int × (Int × Int × Int)) : Bool := !decide (c.1 = 0) || (decide (1 ≤ c.2.1) && decide (c.2.1 ≤ 4) && (!decide (c.2.1 = 1) || (sameE (z.toldC k c.2.2.1) (z.tellC k c.2) && decide (-1 ≤ c.2.2.1) && decide (c.2.2.1 ≤ 20))) && decide (-1 ≤ c.2.2.2) && decide (c.2.2.2 ≤ 20))
def actOk (z : SeatM) (k : Int) (c : Int × Int) : Bool := !decide (c.1 = 0) || (sameE (z.goes c.2 k k) (z.moved c.2 (howD k) k) && decide (-1 ≤ c.2) && decide (c.2 ≤ 20))
theorem tell_all : (sidesM.all fun q => allT.all fun s => howsM.all fun h => !(SeatM.right ⟨q.1, q.2, s, h⟩) || allT.all fun k => tellOk ⟨q.1, q.2, s, h⟩ k (lookT q.1 q.2 k s)) = true := by decide +kernel
theorem act_all : (sidesM.all fun q => allT.all fun s => howsM.all fun h => !(SeatM.right ⟨q.1, q.2, s, h⟩) || allT.all fun k => actOk ⟨q.1, q.2, s, h⟩ k (stepT q.1 q.2 k s)) = true := by decide +kernel
theorem tell_ok {z : SeatM} (hr : z.right = true) {k : Int} (hk : k ∈ allT) : tellOk z k (lookT z.p z.e k z.s) = true := by
  obtain ⟨h1, h2, h3⟩ := right_in hr
  have := List.all_eq_true.1 (List.all_eq_true.1 (List.all_eq_true.1 tell_all _ h1) _ h2) _ h3
  rw [show SeatM.right ⟨(z.p, z.e).1, (z.p, z.e).2, z.s, z.h⟩ = true from hr] at this
  exact List.all_eq_true.1 (by simpa using this) k hk
theorem act_ok {z : SeatM} (hr : z.right = true) {k : Int} (hk : k ∈ allT) : actOk z k (stepT z.p z.e k z.s) = true := by
  obtain ⟨h1, h2, h3⟩ := right_in hr
  have := List.all_eq_true.1 (List.all_eq_true.1 (List.all_eq_true.1 act_all _ h1) _ h2) _ h3
  rw [show SeatM.right ⟨(z.p, z.e).1, (z.p, z.e).2, z.s, z.h⟩ = true from hr] at this
  exact List.all_eq_true.1 (by simpa using this) k hk
theorem told_eq {z : SeatM} (hr : z.right = true) {k n c0 c1 c2 : Int} (hl : lookT z.p z.e k z.s = (n, c0, c1, c2)) (h0 : n = 0) : 1 ≤ c0 ∧ c0 ≤ 4 ∧ (-1 ≤ c2 ∧ c2 ≤ 20) ∧ (c0 = 1 → (z.toldC k c1 = z.tellC k (c0, c1, c2)) ∧ -1 ≤ c1 ∧ c1 ≤ 20) := by
  subst h0
  have hk : k ∈ allT := look_kind (p := z.p) (e := z.e) (s := z.s) (by rw [hl])
  have h := tell_ok hr hk
  rw [hl] at h
  simp only [tellOk, decide_true, Bool.not_true, Bool.false_or, Bool.and_eq_true, decide_eq_true_eq, Bool.or_eq_true, Bool.not_eq_true', decide_eq_false_iff_not] at h
  obtain ⟨⟨⟨⟨h1, h2⟩, h3⟩, h4⟩, h5⟩ := h
  refine ⟨h1, h2, ⟨h4, h5⟩, fun q => ?_⟩
  rcases h3 with h3 | h3
  · exact absurd q h3
  · exact ⟨sameE_eq h3.1.1, h3.1.2, h3.2⟩
theorem act_eq {z : SeatM} (hr : z.right = true) {k n m : Int} (hl : stepT z.p z.e k z.s = (n, m)) (h0 : n = 0) : z.goes m k k = z.moved m (howD k) k ∧ -1 ≤ m ∧ m ≤ 20 := by
  subst h0
  have hk : k ∈ allT := step_kind (p := z.p) (e := z.e) (s := z.s) (by rw [hl])
  have h := act_ok hr hk
  rw [hl] at h
  simp only [actOk, decide_true, Bool.not_true, Bool.false_or, Bool.and_eq_true, decide_eq_true_eq] at h
  exact ⟨sameE_eq h.1.1, h.1.2, h.2⟩
theorem due_in (s : Int) : i64M (dueM s) := by
  unfold dueM
  repeat' split
  all_goals decide
set_option maxRecDepth 100000 in
theorem msTold_any {ads : List Addr} (z : SeatM) (hz : z.ok) (k st : Int) (ik : i64M k) (ist : i64M st) (w : World) (T : TabC ads w) : Calls Tryd.prog 33 #[.agg (seatV z), .int .i64 k, .int .i64 st] w fun r w' => r = .returned (.agg (effV (z.toldC k st))) ∧ Kp w w' := by
  have ha := fun w1 (hk : Kp w w1) => goes_any z hz st k 0 ist ik w1 (T.kp hk)
  have hb := fun w1 (hk : Kp w w1) => goes_any z hz 14 (dueM st) (dueM st) (by decide) (due_in st) w1 (T.kp hk)
  have HD := Lib.hid (fun w => due_any st w)
  obtain ⟨d, hd⟩ : ∃ d, dueM st = d := ⟨_, rfl⟩
  have e0 : z.toldC k st = if z.e = 1 ∧ d ≠ 0 then z.goes 14 d d else z.goes st k 0 := by rw [← hd]; rfl
  rw [e0]
  rw [hd] at hb
  have HD2 := HD.out
  rw [hd] at HD2
  obtain ⟨y, hy⟩ : ∃ y, z.goes st k 0 = y := ⟨_, rfl⟩
  obtain ⟨x, hx⟩ : ∃ x, z.goes 14 d d = x := ⟨_, rfl⟩
  rw [hy] at ha ⊢
  rw [hx] at hb ⊢
  obtain ⟨p, e, s, h⟩ := z
  dsimp only [seatV, effV] at ha hb ⊢
  have HA := Lib.hid ha
  have HB := Lib.hid hb
  have HDD := Lib.hid HD2
  clear hy hx hd e0 ha hb HD HD2 T hz ist ik
  have k0 := Kp.trans (kp_alloc w (.cells #[.int .i64 p, .int .i64 e, .int .i64 s, .int .i64 h] 23)) (kp_alloc (w.alloc (.cells #[.int .i64 p, .int .i64 e, .int .i64 s, .int .i64 h] 23)) (.cells #[.int .i64 0, .int .i64 0, .int .i64 0, .int .i64 0, .int .i64 0, .int .i64 0, .int .i64 0, .bool false] 27))
  have hr0 : ((w.alloc (.cells #[.int .i64 p, .int .i64 e, .int .i64 s, .int .i64 h] 23)).alloc (.cells #[.int .i64 0, .int .i64 0, .int .i64 0, .int .i64 0, .int .i64 0, .int .i64 0, .int .i64 0, .bool false] 27)).heap[w.heap.size]? = some (.cells #[.int .i64 p, .int .i64 e, .int .i64 s, .int .i64 h] 23) := kp_row (kp_alloc _ _) (MapKept.heap_alloc w (.cells #[.int .i64 p, .int .i64 e, .int .i64 s, .int .i64 h] 23)).1
  have hz0 : ((w.alloc (.cells #[.int .i64 p, .int .i64 e, .int .i64 s, .int .i64 h] 23)).alloc (.cells #[.int .i64 0, .int .i64 0, .int .i64 0, .int .i64 0, .int .i64 0, .int .i64 0, .int .i64 0, .bool false] 27)).heap[w.heap.size + 1]? = some (.cells #[.int .i64 0, .int .i64 0, .int .i64 0, .int .i64 0, .int .i64 0, .int .i64 0, .int .i64 0, .bool false] 27) := by have := (MapKept.heap_alloc (w.alloc (.cells #[.int .i64 p, .int .i64 e, .int .i64 s, .int .i64 h] 23)) (.cells #[.int .i64 0, .int .i64 0, .int .i64 0, .int .i64 0, .int .i64 0, .int .i64 0, .int .i64 0, .bool false] 27)).1; simpa using this
  have K1 := Lib.hid k0
  have R1 := Lib.hid hr0
  have Z1 := Lib.hid hz0
  obtain ⟨g0, g1, g2, g3⟩ := cells_4 R1.out
  obtain ⟨zz0, zz1, zz2, zz3, zz4, zz5, zz6, zz7⟩ := cells_8 Z1.out
  have fz1 := frozN Z1.out
  clear k0 hr0 hz0
  by_cases he : e = 1
  · subst he
    by_cases h0 : d = 0
    · subst h0
      rw [if_neg (by simp)]
      go_enter Tryd.func33, Tryd.ntmps33
      go_wp2_with (first | (go_at_call 60; (with_reducible refine (HDD.out _).mono ?_); rintro e' w' ⟨rfl, rfl⟩) | (go_at_call 37; (with_reducible refine (HA.out _ K1.out).mono ?_); rintro e' w2 ⟨rfl, hk⟩; have K2 := Lib.hid (Kp.trans K1.out hk); have R2 := Lib.hid (kp_row hk R1.out); have Z2 := Lib.hid (kp_row hk Z1.out); obtain ⟨j20, j21, j22, j23⟩ := cells_4 R2.out; obtain ⟨z20, z21, z22, z23, z24, z25, z26, z27⟩ := cells_8 Z2.out; have fz2 := frozN Z2.out; clear hk))
      refine bodyPost_ret (results_cell_row (p := 6) rfl _ _ (w.heap.size + 1) 27 _ (0, 0) _ rfl (set_8 _ _ _ _ _ _ _ _ Z2.out) Tryd.underlying27 rfl (by kernel_rfl)) rfl ?_; exact ⟨rfl, set_8_kp K2.out (Nat.le_succ _) _ _ _ _ _ _ _ _⟩
    · rw [if_pos ⟨rfl, h0⟩]
      have b0 : (d == 0) = false := by simpa using h0
      clear h0
      go_enter Tryd.func33, Tryd.ntmps33
      go_wp2_with (first | (go_at_call 60; (with_reducible refine (HDD.out _).mono ?_); rintro e' w' ⟨rfl, rfl⟩) | (go_at_call 37; (with_reducible refine (HB.out _ K1.out).mono ?_); rintro e' w2 ⟨rfl, hk⟩; have K2 := Lib.hid (Kp.trans K1.out hk); have R2 := Lib.hid (kp_row hk R1.out); have Z2 := Lib.hid (kp_row hk Z1.out); obtain ⟨j20, j21, j22, j23⟩ := cells_4 R2.out; obtain ⟨z20, z21, z22, z23, z24, z25, z26, z27⟩ := cells_8 Z2.out; have fz2 := frozN Z2.out; clear hk))
      refine bodyPost_ret (results_cell_row (p := 6) rfl _ _ (w.heap.size + 1) 27 _ (0, 0) _ rfl (set_8 _ _ _ _ _ _ _ _ Z2.out) Tryd.underlying27 rfl (by kernel_rfl)) rfl ?_; exact ⟨rfl, set_8_kp K2.out (Nat.le_succ _) _ _ _ _ _ _ _ _⟩
  · rw [if_neg (fun q => he q.1)]
    have be : (e == 1) = false := by simpa using he
    clear he
    go_enter Tryd.func33, Tryd.ntmps33
    go_wp2_with (go_at_call 37; (with_reducible refine (HA.out _ K1.out).mono ?_); rintro e' w2 ⟨rfl, hk⟩; have K2 := Lib.hid (Kp.trans K1.out hk); have R2 := Lib.hid (kp_row hk R1.out); have Z2 := Lib.hid (kp_row hk Z1.out); obtain ⟨j20, j21, j22, j23⟩ := cells_4 R2.out; obtain ⟨z20, z21, z22, z23, z24, z25, z26, z27⟩ := cells_8 Z2.out; have fz2 := frozN Z2.out; clear hk)
    refine bodyPost_ret (results_cell_row (p := 6) rfl _ _ (w.heap.size + 1) 27 _ (0, 0) _ rfl (set_8 _ _ _ _ _ _ _ _ Z2.out) Tryd.underlying27 rfl (by kernel_rfl)) rfl ?_; exact ⟨rfl, set_8_kp K2.out (Nat.le_succ _) _ _ _ _ _ _ _ _⟩
set_option maxRecDepth 100000 in
theorem msTell_bad {ads : List Addr} (p e s h k : Int) (hz : SeatM.ok ⟨p, e, s, h⟩) (hr : SeatM.right ⟨p, e, s, h⟩ = false) (w : World) (T : TabC ads w) (ce : w.cell? ⟨0, 0, none⟩ = some (errI ads 4)) : Calls Tryd.prog 10 #[.agg #[.int .i64 p, .int .i64 e, .int .i64 s, .int .i64 h], .int .i64 k] w fun r w' => r = .returned (.tuple #[.agg #[.int .i64 0, .int .i64 0, .int .i64 0, .int .i64 0, .int .i64 0, .int .i64 0, .int .i64 0, .bool false], errI ads 4]) ∧ Kp w w' := by
  have HRt := Lib.hid (fun w1 (hk : Kp w w1) => (show Calls Tryd.prog 16 #[.agg #[.int .i64 p, .int .i64 e, .int .i64 s, .int .i64 h]] w1 fun r w' => r = .returned (.bool false) ∧ Kp w1 w' from hr ▸ msRight_any (ads := ads) ⟨p, e, s, h⟩ hz w1 (T.kp hk)))
  obtain ⟨q, hq⟩ : ∃ x, errI ads 4 = x := ⟨_, rfl⟩
  rw [hq] at ce ⊢
  have k0 := Kp.trans (kp_alloc w (.cells #[.int .i64 p, .int .i64 e, .int .i64 s, .int .i64 h] 23)) (kp_alloc (w.alloc (.cells #[.int .i64 p, .int .i64 e, .int .i64 s, .int .i64 h] 23)) (.cells #[.int .i64 0, .int .i64 0, .int .i64 0, .int .i64 0, .int .i64 0, .int .i64 0, .int .i64 0, .bool false] 27))
  have hr0 : ((w.alloc (.cells #[.int .i64 p, .int .i64 e, .int .i64 s, .int .i64 h] 23)).alloc (.cells #[.int .i64 0, .int .i64 0, .int .i64 0, .int .i64 0, .int .i64 0, .int .i64 0, .int .i64 0, .bool false] 27)).heap[w.heap.size]? = some (.cells #[.int .i64 p, .int .i64 e, .int .i64 s, .int .i64 h] 23) := kp_row (kp_alloc _ _) (MapKept.heap_alloc w (.cells #[.int .i64 p, .int .i64 e, .int .i64 s, .int .i64 h] 23)).1
  have hz0 : ((w.alloc (.cells #[.int .i64 p, .int .i64 e, .int .i64 s, .int .i64 h] 23)).alloc (.cells #[.int .i64 0, .int .i64 0, .int .i64 0, .int .i64 0, .int .i64 0, .int .i64 0, .int .i64 0, .bool false] 27)).heap[w.heap.size + 1]? = some (.cells #[.int .i64 0, .int .i64 0, .int .i64 0, .int .i64 0, .int .i64 0, .int .i64 0, .int .i64 0, .bool false] 27) := by have := (MapKept.heap_alloc (w.alloc (.cells #[.int .i64 p, .int .i64 e, .int .i64 s, .int .i64 h] 23)) (.cells #[.int .i64 0, .int .i64 0, .int .i64 0, .int .i64 0, .int .i64 0, .int .i64 0, .int .i64 0, .bool false] 27)).1; simpa using this
  have K1 := Lib.hid k0
  have R1 := Lib.hid hr0
  have Z1 := Lib.hid hz0
  obtain ⟨g0, g1, g2, g3⟩ := cells_4 R1.out
  obtain ⟨zz0, zz1, zz2, zz3, zz4, zz5, zz6, zz7⟩ := cells_8 Z1.out
  have fz1 := frozN Z1.out
  clear k0 hr0 hz0
  have CE := Lib.hid ce
  clear hr hz T hq ce
  go_enter Tryd.func10, Tryd.ntmps10
  go_wp2_with (go_at_call 16; (with_reducible refine (HRt.out _ K1.out).mono ?_); rintro e' w2 ⟨rfl, hk⟩; have K2 := Lib.hid (Kp.trans K1.out hk); have R2 := Lib.hid (kp_row hk R1.out); have Z2 := Lib.hid (kp_row hk Z1.out); obtain ⟨j20, j21, j22, j23⟩ := cells_4 R2.out; obtain ⟨z20, z21, z22, z23, z24, z25, z26, z27⟩ := cells_8 Z2.out; have fz2 := frozN Z2.out; have ce2 := kp_cell K2.out CE.out; clear hk)
  go_region
  go_wp2
  refine bodyPost_ret (results_row_tmpT (p := 4) (u := 5) rfl _ _ (w.heap.size + 1) 27 _ (0, 0) _ rfl (set_8_drew _ _ _ _ _ _ _ _ Z2.out) Tryd.underlying27 rfl (by kernel_rfl)) rfl ?_; exact ⟨rfl, set_8_kpd K2.out (Nat.le_succ _) _ _ _ _ _ _ _ _⟩
set_option maxRecDepth 100000 in
theorem msTell_look {ads : List Addr} (p e s h k : Int) (hz : SeatM.ok ⟨p, e, s, h⟩) (ik : i64M k) (hr : SeatM.right ⟨p, e, s, h⟩ = true) (n c0 c1 c2 : Int) (hm : lookT p e k s = (n, c0, c1, c2)) (hn : n ≠ 0) (w : World) (T : TabC ads w) : Calls Tryd.prog 10 #[.agg #[.int .i64 p, .int .i64 e, .int .i64 s, .int .i64 h], .int .i64 k] w fun r w' => r = .returned (.tuple #[.agg #[.int .i64 p, .int .i64 e, .int .i64 s, .int .i64 h, .int .i64 0, .int .i64 2, .int .i64 0, .bool false], .nilIface]) ∧ Kp w w' := by
  have HRt := Lib.hid (fun w1 (hk : Kp w w1) => (show Calls Tryd.prog 16 #[.agg #[.int .i64 p, .int .i64 e, .int .i64 s, .int .i64 h]] w1 fun r w' => r = .returned (.bool true) ∧ Kp w1 w' from hr ▸ msRight_any (ads := ads) ⟨p, e, s, h⟩ hz w1 (T.kp hk)))
  have hl := fun w1 (hk : Kp w w1) => T.look w1 hk p e k s hz.1 hz.2.1 ik hz.2.2.1
  rw [hm] at hl
  dsimp only [cellV] at hl
  obtain ⟨q, hq⟩ := errI_ifaceM ads n hn
  rw [hq] at hl
  have HL := Lib.hid hl
  have k0 := Kp.trans (kp_alloc w (.cells #[.int .i64 p, .int .i64 e, .int .i64 s, .int .i64 h] 23)) (kp_alloc (w.alloc (.cells #[.int .i64 p, .int .i64 e, .int .i64 s, .int .i64 h] 23)) (.cells #[.int .i64 0, .int .i64 0, .int .i64 0, .int .i64 0, .int .i64 0, .int .i64 0, .int .i64 0, .bool false] 27))
  have hr0 : ((w.alloc (.cells #[.int .i64 p, .int .i64 e, .int .i64 s, .int .i64 h] 23)).alloc (.cells #[.int .i64 0, .int .i64 0, .int .i64 0, .int .i64 0, .int .i64 0, .int .i64 0, .int .i64 0, .bool false] 27)).heap[w.heap.size]? = some (.cells #[.int .i64 p, .int .i64 e, .int .i64 s, .int .i64 h] 23) := kp_row (kp_alloc _ _) (MapKept.heap_alloc w (.cells #[.int .i64 p, .int .i64 e, .int .i64 s, .int .i64 h] 23)).1
  have hz0 : ((w.alloc (.cells #[.int .i64 p, .int .i64 e, .int .i64 s, .int .i64 h] 23)).alloc (.cells #[.int .i64 0, .int .i64 0, .int .i64 0, .int .i64 0, .int .i64 0, .int .i64 0, .int .i64 0, .bool false] 27)).heap[w.heap.size + 1]? = some (.cells #[.int .i64 0, .int .i64 0, .int .i64 0, .int .i64 0, .int .i64 0, .int .i64 0, .int .i64 0, .bool false] 27) := by have := (MapKept.heap_alloc (w.alloc (.cells #[.int .i64 p, .int .i64 e, .int .i64 s, .int .i64 h] 23)) (.cells #[.int .i64 0, .int .i64 0, .int .i64 0, .int .i64 0, .int .i64 0, .int .i64 0, .int .i64 0, .bool false] 27)).1; simpa using this
  have K1 := Lib.hid k0
  have R1 := Lib.hid hr0
  have Z1 := Lib.hid hz0
  obtain ⟨g0, g1, g2, g3⟩ := cells_4 R1.out
  obtain ⟨zz0, zz1, zz2, zz3, zz4, zz5, zz6, zz7⟩ := cells_8 Z1.out
  have fz1 := frozN Z1.out
  clear k0 hr0 hz0
  clear hr hz T hm ik hl hq hn
  go_enter Tryd.func10, Tryd.ntmps10
  go_wp2_with (first | (go_at_call 16; (with_reducible refine (HRt.out _ K1.out).mono ?_); rintro e' w2 ⟨rfl, hk⟩; have K2 := Lib.hid (Kp.trans K1.out hk); have R2 := Lib.hid (kp_row hk R1.out); have Z2 := Lib.hid (kp_row hk Z1.out); obtain ⟨j20, j21, j22, j23⟩ := cells_4 R2.out; obtain ⟨z20, z21, z22, z23, z24, z25, z26, z27⟩ := cells_8 Z2.out; have fz2 := frozN Z2.out; clear hk) | (go_at_call 32; (with_reducible refine (HL.out _ K2.out).mono ?_); rintro e' w3 ⟨rfl, hk⟩; have hk3 := Kp.trans hk (kp_alloc w3 (.cells #[.int .i64 c0, .int .i64 c1, .int .i64 c2] 70)); have K3 := Lib.hid (Kp.trans K2.out hk3); have R3 := Lib.hid (kp_row hk3 R2.out); have Z3 := Lib.hid (kp_row hk3 Z2.out); have B3 := Lib.hid (MapKept.heap_alloc w3 (.cells #[.int .i64 c0, .int .i64 c1, .int .i64 c2] 70)).1; obtain ⟨l0, l1, l2⟩ := cells3 B3.out; obtain ⟨m0, m1, m2, m3⟩ := cells_4 R3.out; obtain ⟨y0, y1, y2, y3, y4, y5, y6, y7⟩ := cells_8 Z3.out; have fy := frozN Z3.out; clear hk hk3))
  refine bodyPost_ret (results_row_tmpT (p := 4) (u := 5) rfl _ _ (w.heap.size + 1) 27 _ (0, 0) _ rfl (set_8 _ _ _ _ _ _ _ _ Z3.out) Tryd.underlying27 rfl (by kernel_rfl)) rfl ?_; exact ⟨rfl, set_8_kp K3.out (Nat.le_succ _) _ _ _ _ _ _ _ _⟩
set_option maxRecDepth 100000 in
theorem msTell_2 {ads : List Addr} (p e s h k : Int) (hz : SeatM.ok ⟨p, e, s, h⟩) (ik : i64M k) (hr : SeatM.right ⟨p, e, s, h⟩ = true) (n c0 c1 c2 : Int) (hm : lookT p e k s = (n, c0, c1, c2)) (h0 : n = 0) (hd : c0 = 2) (w : World) (T : TabC ads w) : Calls Tryd.prog 10 #[.agg #[.int .i64 p, .int .i64 e, .int .i64 s, .int .i64 h], .int .i64 k] w fun r w' => r = .returned (.tuple #[.agg #[.int .i64 p, .int .i64 e, .int .i64 s, .int .i64 h, .int .i64 0, .int .i64 0, .int .i64 0, .bool false], .nilIface]) ∧ Kp w w' := by
  have HRt := Lib.hid (fun w1 (hk : Kp w w1) => (show Calls Tryd.prog 16 #[.agg #[.int .i64 p, .int .i64 e, .int .i64 s, .int .i64 h]] w1 fun r w' => r = .returned (.bool true) ∧ Kp w1 w' from hr ▸ msRight_any (ads := ads) ⟨p, e, s, h⟩ hz w1 (T.kp hk)))
  have hl := fun w1 (hk : Kp w w1) => T.look w1 hk p e k s hz.1 hz.2.1 ik hz.2.2.1
  rw [hm] at hl
  dsimp only [cellV] at hl
  subst h0
  rw [errI_nil] at hl
  subst hd
  have HL := Lib.hid hl
  have k0 := Kp.trans (kp_alloc w (.cells #[.int .i64 p, .int .i64 e, .int .i64 s, .int .i64 h] 23)) (kp_alloc (w.alloc (.cells #[.int .i64 p, .int .i64 e, .int .i64 s, .int .i64 h] 23)) (.cells #[.int .i64 0, .int .i64 0, .int .i64 0, .int .i64 0, .int .i64 0, .int .i64 0, .int .i64 0, .bool false] 27))
  have hr0 : ((w.alloc (.cells #[.int .i64 p, .int .i64 e, .int .i64 s, .int .i64 h] 23)).alloc (.cells #[.int .i64 0, .int .i64 0, .int .i64 0, .int .i64 0, .int .i64 0, .int .i64 0, .int .i64 0, .bool false] 27)).heap[w.heap.size]? = some (.cells #[.int .i64 p, .int .i64 e, .int .i64 s, .int .i64 h] 23) := kp_row (kp_alloc _ _) (MapKept.heap_alloc w (.cells #[.int .i64 p, .int .i64 e, .int .i64 s, .int .i64 h] 23)).1
  have hz0 : ((w.alloc (.cells #[.int .i64 p, .int .i64 e, .int .i64 s, .int .i64 h] 23)).alloc (.cells #[.int .i64 0, .int .i64 0, .int .i64 0, .int .i64 0, .int .i64 0, .int .i64 0, .int .i64 0, .bool false] 27)).heap[w.heap.size + 1]? = some (.cells #[.int .i64 0, .int .i64 0, .int .i64 0, .int .i64 0, .int .i64 0, .int .i64 0, .int .i64 0, .bool false] 27) := by have := (MapKept.heap_alloc (w.alloc (.cells #[.int .i64 p, .int .i64 e, .int .i64 s, .int .i64 h] 23)) (.cells #[.int .i64 0, .int .i64 0, .int .i64 0, .int .i64 0, .int .i64 0, .int .i64 0, .int .i64 0, .bool false] 27)).1; simpa using this
  have K1 := Lib.hid k0
  have R1 := Lib.hid hr0
  have Z1 := Lib.hid hz0
  obtain ⟨g0, g1, g2, g3⟩ := cells_4 R1.out
  obtain ⟨zz0, zz1, zz2, zz3, zz4, zz5, zz6, zz7⟩ := cells_8 Z1.out
  have fz1 := frozN Z1.out
  clear k0 hr0 hz0
  clear hr hz T hm ik hl
  go_enter Tryd.func10, Tryd.ntmps10
  go_wp2_with (first | (go_at_call 16; (with_reducible refine (HRt.out _ K1.out).mono ?_); rintro e' w2 ⟨rfl, hk⟩; have K2 := Lib.hid (Kp.trans K1.out hk); have R2 := Lib.hid (kp_row hk R1.out); have Z2 := Lib.hid (kp_row hk Z1.out); obtain ⟨j20, j21, j22, j23⟩ := cells_4 R2.out; obtain ⟨z20, z21, z22, z23, z24, z25, z26, z27⟩ := cells_8 Z2.out; have fz2 := frozN Z2.out; clear hk) | (go_at_call 32; (with_reducible refine (HL.out _ K2.out).mono ?_); rintro e' w3 ⟨rfl, hk⟩; have hk3 := Kp.trans hk (kp_alloc w3 (.cells #[.int .i64 2, .int .i64 c1, .int .i64 c2] 70)); have K3 := Lib.hid (Kp.trans K2.out hk3); have R3 := Lib.hid (kp_row hk3 R2.out); have Z3 := Lib.hid (kp_row hk3 Z2.out); have B3 := Lib.hid (MapKept.heap_alloc w3 (.cells #[.int .i64 2, .int .i64 c1, .int .i64 c2] 70)).1; obtain ⟨l0, l1, l2⟩ := cells3 B3.out; obtain ⟨m0, m1, m2, m3⟩ := cells_4 R3.out; obtain ⟨y0, y1, y2, y3, y4, y5, y6, y7⟩ := cells_8 Z3.out; have fy := frozN Z3.out; clear hk hk3))
  refine bodyPost_ret (results_row_tmpT (p := 4) (u := 5) rfl _ _ (w.heap.size + 1) 27 _ (0, 0) _ rfl (set_8 _ _ _ _ _ _ _ _ Z3.out) Tryd.underlying27 rfl (by kernel_rfl)) rfl ?_; exact ⟨rfl, set_8_kp K3.out (Nat.le_succ _) _ _ _ _ _ _ _ _⟩
set_option maxRecDepth 100000 in
theorem msTell_3 {ads : List Addr} (p e s h k : Int) (hz : SeatM.ok ⟨p, e, s, h⟩) (ik : i64M k) (hr : SeatM.right ⟨p, e, s, h⟩ = true) (n c0 c1 c2 : Int) (hm : lookT p e k s = (n, c0, c1, c2)) (h0 : n = 0) (hd : c0 = 3) (w : World) (T : TabC ads w) : Calls Tryd.prog 10 #[.agg #[.int .i64 p, .int .i64 e, .int .i64 s, .int .i64 h], .int .i64 k] w fun r w' => r = .returned (.tuple #[.agg #[.int .i64 p, .int .i64 e, .int .i64 s, .int .i64 h, .int .i64 c2, .int .i64 0, .int .i64 0, .bool false], .nilIface]) ∧ Kp w w' := by
  have HRt := Lib.hid (fun w1 (hk : Kp w w1) => (show Calls Tryd.prog 16 #[.agg #[.int .i64 p, .int .i64 e, .int .i64 s, .int .i64 h]] w1 fun r w' => r = .returned (.bool true) ∧ Kp w1 w' from hr ▸ msRight_any (ads := ads) ⟨p, e, s, h⟩ hz w1 (T.kp hk)))
  have hl := fun w1 (hk : Kp w w1) => T.look w1 hk p e k s hz.1 hz.2.1 ik hz.2.2.1
  rw [hm] at hl
  dsimp only [cellV] at hl
  subst h0
  rw [errI_nil] at hl
  subst hd
  have HL := Lib.hid hl
  have k0 := Kp.trans (kp_alloc w (.cells #[.int .i64 p, .int .i64 e, .int .i64 s, .int .i64 h] 23)) (kp_alloc (w.alloc (.cells #[.int .i64 p, .int .i64 e, .int .i64 s, .int .i64 h] 23)) (.cells #[.int .i64 0, .int .i64 0, .int .i64 0, .int .i64 0, .int .i64 0, .int .i64 0, .int .i64 0, .bool false] 27))
  have hr0 : ((w.alloc (.cells #[.int .i64 p, .int .i64 e, .int .i64 s, .int .i64 h] 23)).alloc (.cells #[.int .i64 0, .int .i64 0, .int .i64 0, .int .i64 0, .int .i64 0, .int .i64 0, .int .i64 0, .bool false] 27)).heap[w.heap.size]? = some (.cells #[.int .i64 p, .int .i64 e, .int .i64 s, .int .i64 h] 23) := kp_row (kp_alloc _ _) (MapKept.heap_alloc w (.cells #[.int .i64 p, .int .i64 e, .int .i64 s, .int .i64 h] 23)).1
  have hz0 : ((w.alloc (.cells #[.int .i64 p, .int .i64 e, .int .i64 s, .int .i64 h] 23)).alloc (.cells #[.int .i64 0, .int .i64 0, .int .i64 0, .int .i64 0, .int .i64 0, .int .i64 0, .int .i64 0, .bool false] 27)).heap[w.heap.size + 1]? = some (.cells #[.int .i64 0, .int .i64 0, .int .i64 0, .int .i64 0, .int .i64 0, .int .i64 0, .int .i64 0, .bool false] 27) := by have := (MapKept.heap_alloc (w.alloc (.cells #[.int .i64 p, .int .i64 e, .int .i64 s, .int .i64 h] 23)) (.cells #[.int .i64 0, .int .i64 0, .int .i64 0, .int .i64 0, .int .i64 0, .int .i64 0, .int .i64 0, .bool false] 27)).1; simpa using this
  have K1 := Lib.hid k0
  have R1 := Lib.hid hr0
  have Z1 := Lib.hid hz0
  obtain ⟨g0, g1, g2, g3⟩ := cells_4 R1.out
  obtain ⟨zz0, zz1, zz2, zz3, zz4, zz5, zz6, zz7⟩ := cells_8 Z1.out
  have fz1 := frozN Z1.out
  clear k0 hr0 hz0
  clear hr hz T hm ik hl
  go_enter Tryd.func10, Tryd.ntmps10
  go_wp2_with (first | (go_at_call 16; (with_reducible refine (HRt.out _ K1.out).mono ?_); rintro e' w2 ⟨rfl, hk⟩; have K2 := Lib.hid (Kp.trans K1.out hk); have R2 := Lib.hid (kp_row hk R1.out); have Z2 := Lib.hid (kp_row hk Z1.out); obtain ⟨j20, j21, j22, j23⟩ := cells_4 R2.out; obtain ⟨z20, z21, z22, z23, z24, z25, z26, z27⟩ := cells_8 Z2.out; have fz2 := frozN Z2.out; clear hk) | (go_at_call 32; (with_reducible refine (HL.out _ K2.out).mono ?_); rintro e' w3 ⟨rfl, hk⟩; have hk3 := Kp.trans hk (kp_alloc w3 (.cells #[.int .i64 3, .int .i64 c1, .int .i64 c2] 70)); have K3 := Lib.hid (Kp.trans K2.out hk3); have R3 := Lib.hid (kp_row hk3 R2.out); have Z3 := Lib.hid (kp_row hk3 Z2.out); have B3 := Lib.hid (MapKept.heap_alloc w3 (.cells #[.int .i64 3, .int .i64 c1, .int .i64 c2] 70)).1; obtain ⟨l0, l1, l2⟩ := cells3 B3.out; obtain ⟨m0, m1, m2, m3⟩ := cells_4 R3.out; obtain ⟨y0, y1, y2, y3, y4, y5, y6, y7⟩ := cells_8 Z3.out; have fy := frozN Z3.out; clear hk hk3))
  refine bodyPost_ret (results_row_tmpT (p := 4) (u := 5) rfl _ _ (w.heap.size + 1) 27 _ (0, 0) _ rfl (set_8 _ _ _ _ _ _ _ _ Z3.out) Tryd.underlying27 rfl (by kernel_rfl)) rfl ?_; exact ⟨rfl, set_8_kp K3.out (Nat.le_succ _) _ _ _ _ _ _ _ _⟩
set_option maxRecDepth 100000 in
theorem msTell_4 {ads : List Addr} (p e s h k : Int) (hz : SeatM.ok ⟨p, e, s, h⟩) (ik : i64M k) (hr : SeatM.right ⟨p, e, s, h⟩ = true) (n c0 c1 c2 : Int) (hm : lookT p e k s = (n, c0, c1, c2)) (h0 : n = 0) (hd : c0 = 4) (w : World) (T : TabC ads w) : Calls Tryd.prog 10 #[.agg #[.int .i64 p, .int .i64 e, .int .i64 s, .int .i64 h], .int .i64 k] w fun r w' => r = .returned (.tuple #[.agg #[.int .i64 p, .int .i64 e, .int .i64 s, .int .i64 h, .int .i64 0, .int .i64 1, .int .i64 0, .bool false], .nilIface]) ∧ Kp w w' := by
  have HRt := Lib.hid (fun w1 (hk : Kp w w1) => (show Calls Tryd.prog 16 #[.agg #[.int .i64 p, .int .i64 e, .int .i64 s, .int .i64 h]] w1 fun r w' => r = .returned (.bool true) ∧ Kp w1 w' from hr ▸ msRight_any (ads := ads) ⟨p, e, s, h⟩ hz w1 (T.kp hk)))
  have hl := fun w1 (hk : Kp w w1) => T.look w1 hk p e k s hz.1 hz.2.1 ik hz.2.2.1
  rw [hm] at hl
  dsimp only [cellV] at hl
  subst h0
  rw [errI_nil] at hl
  subst hd
  have HL := Lib.hid hl
  have k0 := Kp.trans (kp_alloc w (.cells #[.int .i64 p, .int .i64 e, .int .i64 s, .int .i64 h] 23)) (kp_alloc (w.alloc (.cells #[.int .i64 p, .int .i64 e, .int .i64 s, .int .i64 h] 23)) (.cells #[.int .i64 0, .int .i64 0, .int .i64 0, .int .i64 0, .int .i64 0, .int .i64 0, .int .i64 0, .bool false] 27))
  have hr0 : ((w.alloc (.cells #[.int .i64 p, .int .i64 e, .int .i64 s, .int .i64 h] 23)).alloc (.cells #[.int .i64 0, .int .i64 0, .int .i64 0, .int .i64 0, .int .i64 0, .int .i64 0, .int .i64 0, .bool false] 27)).heap[w.heap.size]? = some (.cells #[.int .i64 p, .int .i64 e, .int .i64 s, .int .i64 h] 23) := kp_row (kp_alloc _ _) (MapKept.heap_alloc w (.cells #[.int .i64 p, .int .i64 e, .int .i64 s, .int .i64 h] 23)).1
  have hz0 : ((w.alloc (.cells #[.int .i64 p, .int .i64 e, .int .i64 s, .int .i64 h] 23)).alloc (.cells #[.int .i64 0, .int .i64 0, .int .i64 0, .int .i64 0, .int .i64 0, .int .i64 0, .int .i64 0, .bool false] 27)).heap[w.heap.size + 1]? = some (.cells #[.int .i64 0, .int .i64 0, .int .i64 0, .int .i64 0, .int .i64 0, .int .i64 0, .int .i64 0, .bool false] 27) := by have := (MapKept.heap_alloc (w.alloc (.cells #[.int .i64 p, .int .i64 e, .int .i64 s, .int .i64 h] 23)) (.cells #[.int .i64 0, .int .i64 0, .int .i64 0, .int .i64 0, .int .i64 0, .int .i64 0, .int .i64 0, .bool false] 27)).1; simpa using this
  have K1 := Lib.hid k0
  have R1 := Lib.hid hr0
  have Z1 := Lib.hid hz0
  obtain ⟨g0, g1, g2, g3⟩ := cells_4 R1.out
  obtain ⟨zz0, zz1, zz2, zz3, zz4, zz5, zz6, zz7⟩ := cells_8 Z1.out
  have fz1 := frozN Z1.out
  clear k0 hr0 hz0
  clear hr hz T hm ik hl
  go_enter Tryd.func10, Tryd.ntmps10
  go_wp2_with (first | (go_at_call 16; (with_reducible refine (HRt.out _ K1.out).mono ?_); rintro e' w2 ⟨rfl, hk⟩; have K2 := Lib.hid (Kp.trans K1.out hk); have R2 := Lib.hid (kp_row hk R1.out); have Z2 := Lib.hid (kp_row hk Z1.out); obtain ⟨j20, j21, j22, j23⟩ := cells_4 R2.out; obtain ⟨z20, z21, z22, z23, z24, z25, z26, z27⟩ := cells_8 Z2.out; have fz2 := frozN Z2.out; clear hk) | (go_at_call 32; (with_reducible refine (HL.out _ K2.out).mono ?_); rintro e' w3 ⟨rfl, hk⟩; have hk3 := Kp.trans hk (kp_alloc w3 (.cells #[.int .i64 4, .int .i64 c1, .int .i64 c2] 70)); have K3 := Lib.hid (Kp.trans K2.out hk3); have R3 := Lib.hid (kp_row hk3 R2.out); have Z3 := Lib.hid (kp_row hk3 Z2.out); have B3 := Lib.hid (MapKept.heap_alloc w3 (.cells #[.int .i64 4, .int .i64 c1, .int .i64 c2] 70)).1; obtain ⟨l0, l1, l2⟩ := cells3 B3.out; obtain ⟨m0, m1, m2, m3⟩ := cells_4 R3.out; obtain ⟨y0, y1, y2, y3, y4, y5, y6, y7⟩ := cells_8 Z3.out; have fy := frozN Z3.out; clear hk hk3))
  refine bodyPost_ret (results_row_tmpT (p := 4) (u := 5) rfl _ _ (w.heap.size + 1) 27 _ (0, 0) _ rfl (set_8 _ _ _ _ _ _ _ _ Z3.out) Tryd.underlying27 rfl (by kernel_rfl)) rfl ?_; exact ⟨rfl, set_8_kp K3.out (Nat.le_succ _) _ _ _ _ _ _ _ _⟩
set_option maxRecDepth 100000 in
theorem msTell_1 {ads : List Addr} (p e s h k : Int) (hz : SeatM.ok ⟨p, e, s, h⟩) (ik : i64M k) (hr : SeatM.right ⟨p, e, s, h⟩ = true) (n c0 c1 c2 : Int) (hm : lookT p e k s = (n, c0, c1, c2)) (h0 : n = 0) (hd : c0 = 1) (ic : i64M c1) (y : EffM) (hy : SeatM.toldC ⟨p, e, s, h⟩ k c1 = y) (w : World) (T : TabC ads w) : Calls Tryd.prog 10 #[.agg #[.int .i64 p, .int .i64 e, .int .i64 s, .int .i64 h], .int .i64 k] w fun r w' => r = .returned (.tuple #[.agg #[.int .i64 y.z.p, .int .i64 y.z.e, .int .i64 y.z.s, .int .i64 y.z.h, .int .i64 y.send, .int .i64 y.fault, .int .i64 y.work, .bool y.changed], .nilIface]) ∧ Kp w w' := by
  have HRt := Lib.hid (fun w1 (hk : Kp w w1) => (show Calls Tryd.prog 16 #[.agg #[.int .i64 p, .int .i64 e, .int .i64 s, .int .i64 h]] w1 fun r w' => r = .returned (.bool true) ∧ Kp w1 w' from hr ▸ msRight_any (ads := ads) ⟨p, e, s, h⟩ hz w1 (T.kp hk)))
  have hl := fun w1 (hk : Kp w w1) => T.look w1 hk p e k s hz.1 hz.2.1 ik hz.2.2.1
  rw [hm] at hl
  dsimp only [cellV] at hl
  subst h0
  rw [errI_nil] at hl
  subst hd
  have HM := Lib.hid (fun w1 (hk : Kp w w1) => (show Calls Tryd.prog 33 #[.agg #[.int .i64 p, .int .i64 e, .int .i64 s, .int .i64 h], .int .i64 k, .int .i64 c1] w1 fun r w' => r = .returned (.agg #[.int .i64 y.z.p, .int .i64 y.z.e, .int .i64 y.z.s, .int .i64 y.z.h, .int .i64 y.send, .int .i64 y.fault, .int .i64 y.work, .bool y.changed]) ∧ Kp w1 w' from hy ▸ msTold_any ⟨p, e, s, h⟩ hz k c1 ik ic w1 (T.kp hk)))
  clear hy ic
  have HL := Lib.hid hl
  have k0 := Kp.trans (kp_alloc w (.cells #[.int .i64 p, .int .i64 e, .int .i64 s, .int .i64 h] 23)) (kp_alloc (w.alloc (.cells #[.int .i64 p, .int .i64 e, .int .i64 s, .int .i64 h] 23)) (.cells #[.int .i64 0, .int .i64 0, .int .i64 0, .int .i64 0, .int .i64 0, .int .i64 0, .int .i64 0, .bool false] 27))
  have hr0 : ((w.alloc (.cells #[.int .i64 p, .int .i64 e, .int .i64 s, .int .i64 h] 23)).alloc (.cells #[.int .i64 0, .int .i64 0, .int .i64 0, .int .i64 0, .int .i64 0, .int .i64 0, .int .i64 0, .bool false] 27)).heap[w.heap.size]? = some (.cells #[.int .i64 p, .int .i64 e, .int .i64 s, .int .i64 h] 23) := kp_row (kp_alloc _ _) (MapKept.heap_alloc w (.cells #[.int .i64 p, .int .i64 e, .int .i64 s, .int .i64 h] 23)).1
  have hz0 : ((w.alloc (.cells #[.int .i64 p, .int .i64 e, .int .i64 s, .int .i64 h] 23)).alloc (.cells #[.int .i64 0, .int .i64 0, .int .i64 0, .int .i64 0, .int .i64 0, .int .i64 0, .int .i64 0, .bool false] 27)).heap[w.heap.size + 1]? = some (.cells #[.int .i64 0, .int .i64 0, .int .i64 0, .int .i64 0, .int .i64 0, .int .i64 0, .int .i64 0, .bool false] 27) := by have := (MapKept.heap_alloc (w.alloc (.cells #[.int .i64 p, .int .i64 e, .int .i64 s, .int .i64 h] 23)) (.cells #[.int .i64 0, .int .i64 0, .int .i64 0, .int .i64 0, .int .i64 0, .int .i64 0, .int .i64 0, .bool false] 27)).1; simpa using this
  have K1 := Lib.hid k0
  have R1 := Lib.hid hr0
  have Z1 := Lib.hid hz0
  obtain ⟨g0, g1, g2, g3⟩ := cells_4 R1.out
  obtain ⟨zz0, zz1, zz2, zz3, zz4, zz5, zz6, zz7⟩ := cells_8 Z1.out
  have fz1 := frozN Z1.out
  clear k0 hr0 hz0
  clear hr hz T hm ik hl
  go_enter Tryd.func10, Tryd.ntmps10
  go_wp2_with (first | (go_at_call 16; (with_reducible refine (HRt.out _ K1.out).mono ?_); rintro e' w2 ⟨rfl, hk⟩; have K2 := Lib.hid (Kp.trans K1.out hk); have R2 := Lib.hid (kp_row hk R1.out); have Z2 := Lib.hid (kp_row hk Z1.out); obtain ⟨j20, j21, j22, j23⟩ := cells_4 R2.out; obtain ⟨z20, z21, z22, z23, z24, z25, z26, z27⟩ := cells_8 Z2.out; have fz2 := frozN Z2.out; clear hk) | (go_at_call 32; (with_reducible refine (HL.out _ K2.out).mono ?_); rintro e' w3 ⟨rfl, hk⟩; have hk3 := Kp.trans hk (kp_alloc w3 (.cells #[.int .i64 1, .int .i64 c1, .int .i64 c2] 70)); have K3 := Lib.hid (Kp.trans K2.out hk3); have R3 := Lib.hid (kp_row hk3 R2.out); have Z3 := Lib.hid (kp_row hk3 Z2.out); have B3 := Lib.hid (MapKept.heap_alloc w3 (.cells #[.int .i64 1, .int .i64 c1, .int .i64 c2] 70)).1; obtain ⟨l0, l1, l2⟩ := cells3 B3.out; obtain ⟨m0, m1, m2, m3⟩ := cells_4 R3.out; obtain ⟨y0, y1, y2, y3, y4, y5, y6, y7⟩ := cells_8 Z3.out; have fy := frozN Z3.out; clear hk hk3) | (go_at_call 33; (with_reducible refine (HM.out _ K3.out).mono ?_); rintro e' w4 ⟨rfl, hk⟩; have K4 := Lib.hid (Kp.trans K3.out hk); have Z4 := Lib.hid (kp_row hk Z3.out); obtain ⟨x0, x1, x2, x3, x4, x5, x6, x7⟩ := cells_8 Z4.out; have fx := frozN Z4.out; clear hk))
  refine bodyPost_ret (results_row_tmpT (p := 4) (u := 5) rfl _ _ (w.heap.size + 1) 27 _ (0, 0) _ rfl (set_8 _ _ _ _ _ _ _ _ Z4.out) Tryd.underlying27 rfl (by kernel_rfl)) rfl ?_; exact ⟨rfl, set_8_kp K4.out (Nat.le_succ _) _ _ _ _ _ _ _ _⟩
set_option maxRecDepth 100000 in
theorem msTell_any {ads : List Addr} (z : SeatM) (k : Int) (hz : z.ok) (ik : i64M k) (w : World) (T : TabC ads w) (ce : w.cell? ⟨0, 0, none⟩ = some (errI ads 4)) : Calls Tryd.prog 10 #[.agg (seatV z), .int .i64 k] w fun r w' => r = .returned (.tuple #[.agg (effV (z.tell k).2), errI ads (z.tell k).1]) ∧ Kp w w' := by
  obtain ⟨p, e, s, h⟩ := z
  unfold SeatM.tell
  cases hr : SeatM.right ⟨p, e, s, h⟩ with
  | false => rw [if_pos rfl]; exact msTell_bad p e s h k hz hr w T ce
  | true =>
    rw [if_neg (by decide)]
    obtain ⟨⟨n, c0, c1, c2⟩, hm⟩ : ∃ y, lookT p e k s = y := ⟨_, rfl⟩
    dsimp only
    rw [hm]
    dsimp only
    by_cases h0 : n = 0
    · rw [if_neg (by simpa using h0)]
      obtain ⟨r1, r2, -, r4⟩ := told_eq (z := ⟨p, e, s, h⟩) hr hm h0
      dsimp only
      rw [errI_nil]
      by_cases d1 : c0 = 1
      · obtain ⟨e1, i1, i2⟩ := r4 d1
        rw [← e1]
        exact msTell_1 p e s h k hz ik hr n c0 c1 c2 hm h0 d1 ⟨by omega, by omega⟩ _ rfl w T
      unfold SeatM.tellC
      dsimp only
      by_cases d2 : c0 = 2
      · rw [if_pos d2]; exact msTell_2 p e s h k hz ik hr n c0 c1 c2 hm h0 d2 w T
      rw [if_neg d2]
      by_cases d3 : c0 = 3
      · rw [if_pos d3]; exact msTell_3 p e s h k hz ik hr n c0 c1 c2 hm h0 d3 w T
      rw [if_neg d3]
      by_cases d4 : c0 = 4
      · rw [if_pos d4]; exact msTell_4 p e s h k hz ik hr n c0 c1 c2 hm h0 d4 w T
      omega
    · rw [if_pos h0]; exact msTell_look p e s h k hz ik hr n c0 c1 c2 hm h0 w T
set_option maxRecDepth 100000 in
theorem msAct_bad {ads : List Addr} (p e s h k : Int) (hz : SeatM.ok ⟨p, e, s, h⟩) (hr : SeatM.right ⟨p, e, s, h⟩ = false) (w : World) (T : TabC ads w) (ce : w.cell? ⟨0, 0, none⟩ = some (errI ads 4)) : Calls Tryd.prog 12 #[.agg #[.int .i64 p, .int .i64 e, .int .i64 s, .int .i64 h], .int .i64 k] w fun r w' => r = .returned (.tuple #[.agg #[.int .i64 0, .int .i64 0, .int .i64 0, .int .i64 0, .int .i64 0, .int .i64 0, .int .i64 0, .bool false], errI ads 4]) ∧ Kp w w' := by
  have HRt := Lib.hid (fun w1 (hk : Kp w w1) => (show Calls Tryd.prog 16 #[.agg #[.int .i64 p, .int .i64 e, .int .i64 s, .int .i64 h]] w1 fun r w' => r = .returned (.bool false) ∧ Kp w1 w' from hr ▸ msRight_any (ads := ads) ⟨p, e, s, h⟩ hz w1 (T.kp hk)))
  obtain ⟨q, hq⟩ : ∃ x, errI ads 4 = x := ⟨_, rfl⟩
  rw [hq] at ce ⊢
  have k0 := Kp.trans (kp_alloc w (.cells #[.int .i64 p, .int .i64 e, .int .i64 s, .int .i64 h] 23)) (kp_alloc (w.alloc (.cells #[.int .i64 p, .int .i64 e, .int .i64 s, .int .i64 h] 23)) (.cells #[.int .i64 0, .int .i64 0, .int .i64 0, .int .i64 0, .int .i64 0, .int .i64 0, .int .i64 0, .bool false] 27))
  have hr0 : ((w.alloc (.cells #[.int .i64 p, .int .i64 e, .int .i64 s, .int .i64 h] 23)).alloc (.cells #[.int .i64 0, .int .i64 0, .int .i64 0, .int .i64 0, .int .i64 0, .int .i64 0, .int .i64 0, .bool false] 27)).heap[w.heap.size]? = some (.cells #[.int .i64 p, .int .i64 e, .int .i64 s, .int .i64 h] 23) := kp_row (kp_alloc _ _) (MapKept.heap_alloc w (.cells #[.int .i64 p, .int .i64 e, .int .i64 s, .int .i64 h] 23)).1
  have hz0 : ((w.alloc (.cells #[.int .i64 p, .int .i64 e, .int .i64 s, .int .i64 h] 23)).alloc (.cells #[.int .i64 0, .int .i64 0, .int .i64 0, .int .i64 0, .int .i64 0, .int .i64 0, .int .i64 0, .bool false] 27)).heap[w.heap.size + 1]? = some (.cells #[.int .i64 0, .int .i64 0, .int .i64 0, .int .i64 0, .int .i64 0, .int .i64 0, .int .i64 0, .bool false] 27) := by have := (MapKept.heap_alloc (w.alloc (.cells #[.int .i64 p, .int .i64 e, .int .i64 s, .int .i64 h] 23)) (.cells #[.int .i64 0, .int .i64 0, .int .i64 0, .int .i64 0, .int .i64 0, .int .i64 0, .int .i64 0, .bool false] 27)).1; simpa using this
  have K1 := Lib.hid k0
  have R1 := Lib.hid hr0
  have Z1 := Lib.hid hz0
  obtain ⟨g0, g1, g2, g3⟩ := cells_4 R1.out
  obtain ⟨zz0, zz1, zz2, zz3, zz4, zz5, zz6, zz7⟩ := cells_8 Z1.out
  have fz1 := frozN Z1.out
  clear k0 hr0 hz0
  have CE := Lib.hid ce
  clear hr hz T hq ce
  go_enter Tryd.func12, Tryd.ntmps12
  go_wp2_with (go_at_call 16; (with_reducible refine (HRt.out _ K1.out).mono ?_); rintro e' w2 ⟨rfl, hk⟩; have K2 := Lib.hid (Kp.trans K1.out hk); have R2 := Lib.hid (kp_row hk R1.out); have Z2 := Lib.hid (kp_row hk Z1.out); obtain ⟨j20, j21, j22, j23⟩ := cells_4 R2.out; obtain ⟨z20, z21, z22, z23, z24, z25, z26, z27⟩ := cells_8 Z2.out; have fz2 := frozN Z2.out; have ce2 := kp_cell K2.out CE.out; clear hk)
  go_region
  go_wp2
  refine bodyPost_ret (results_row_tmpT (p := 4) (u := 5) rfl _ _ (w.heap.size + 1) 27 _ (0, 0) _ rfl (set_8_drew _ _ _ _ _ _ _ _ Z2.out) Tryd.underlying27 rfl (by kernel_rfl)) rfl ?_; exact ⟨rfl, set_8_kpd K2.out (Nat.le_succ _) _ _ _ _ _ _ _ _⟩
set_option maxRecDepth 100000 in
theorem msAct_step {ads : List Addr} (p e s h k : Int) (hz : SeatM.ok ⟨p, e, s, h⟩) (ik : i64M k) (hr : SeatM.right ⟨p, e, s, h⟩ = true) (n m : Int) (hm : stepT p e k s = (n, m)) (hn : n ≠ 0) (w : World) (T : TabC ads w) (S : TabS ads w) : Calls Tryd.prog 12 #[.agg #[.int .i64 p, .int .i64 e, .int .i64 s, .int .i64 h], .int .i64 k] w fun r w' => r = .returned (.tuple #[.agg #[.int .i64 0, .int .i64 0, .int .i64 0, .int .i64 0, .int .i64 0, .int .i64 0, .int .i64 0, .bool false], errI ads n]) ∧ Kp w w' := by
  have HRt := Lib.hid (fun w1 (hk : Kp w w1) => (show Calls Tryd.prog 16 #[.agg #[.int .i64 p, .int .i64 e, .int .i64 s, .int .i64 h]] w1 fun r w' => r = .returned (.bool true) ∧ Kp w1 w' from hr ▸ msRight_any (ads := ads) ⟨p, e, s, h⟩ hz w1 (T.kp hk)))
  have hl := fun w1 (hk : Kp w w1) => S.step w1 hk p e k s hz.1 hz.2.1 ik hz.2.2.1
  rw [hm] at hl
  dsimp only at hl
  obtain ⟨q, hq⟩ := errI_ifaceM ads n hn
  rw [hq] at hl ⊢
  have HL := Lib.hid hl
  have k0 := Kp.trans (kp_alloc w (.cells #[.int .i64 p, .int .i64 e, .int .i64 s, .int .i64 h] 23)) (kp_alloc (w.alloc (.cells #[.int .i64 p, .int .i64 e, .int .i64 s, .int .i64 h] 23)) (.cells #[.int .i64 0, .int .i64 0, .int .i64 0, .int .i64 0, .int .i64 0, .int .i64 0, .int .i64 0, .bool false] 27))
  have hr0 : ((w.alloc (.cells #[.int .i64 p, .int .i64 e, .int .i64 s, .int .i64 h] 23)).alloc (.cells #[.int .i64 0, .int .i64 0, .int .i64 0, .int .i64 0, .int .i64 0, .int .i64 0, .int .i64 0, .bool false] 27)).heap[w.heap.size]? = some (.cells #[.int .i64 p, .int .i64 e, .int .i64 s, .int .i64 h] 23) := kp_row (kp_alloc _ _) (MapKept.heap_alloc w (.cells #[.int .i64 p, .int .i64 e, .int .i64 s, .int .i64 h] 23)).1
  have hz0 : ((w.alloc (.cells #[.int .i64 p, .int .i64 e, .int .i64 s, .int .i64 h] 23)).alloc (.cells #[.int .i64 0, .int .i64 0, .int .i64 0, .int .i64 0, .int .i64 0, .int .i64 0, .int .i64 0, .bool false] 27)).heap[w.heap.size + 1]? = some (.cells #[.int .i64 0, .int .i64 0, .int .i64 0, .int .i64 0, .int .i64 0, .int .i64 0, .int .i64 0, .bool false] 27) := by have := (MapKept.heap_alloc (w.alloc (.cells #[.int .i64 p, .int .i64 e, .int .i64 s, .int .i64 h] 23)) (.cells #[.int .i64 0, .int .i64 0, .int .i64 0, .int .i64 0, .int .i64 0, .int .i64 0, .int .i64 0, .bool false] 27)).1; simpa using this
  have K1 := Lib.hid k0
  have R1 := Lib.hid hr0
  have Z1 := Lib.hid hz0
  obtain ⟨g0, g1, g2, g3⟩ := cells_4 R1.out
  obtain ⟨zz0, zz1, zz2, zz3, zz4, zz5, zz6, zz7⟩ := cells_8 Z1.out
  have fz1 := frozN Z1.out
  clear k0 hr0 hz0
  clear hr hz T hm ik hl S hq hn
  go_enter Tryd.func12, Tryd.ntmps12
  go_wp2_with (first | (go_at_call 16; (with_reducible refine (HRt.out _ K1.out).mono ?_); rintro e' w2 ⟨rfl, hk⟩; have K2 := Lib.hid (Kp.trans K1.out hk); have R2 := Lib.hid (kp_row hk R1.out); have Z2 := Lib.hid (kp_row hk Z1.out); obtain ⟨j20, j21, j22, j23⟩ := cells_4 R2.out; obtain ⟨z20, z21, z22, z23, z24, z25, z26, z27⟩ := cells_8 Z2.out; have fz2 := frozN Z2.out; clear hk) | (go_at_call 36; (with_reducible refine (HL.out _ K2.out).mono ?_); rintro e' w3 ⟨rfl, hk⟩; have K3 := Lib.hid (Kp.trans K2.out hk); have R3 := Lib.hid (kp_row hk R2.out); have Z3 := Lib.hid (kp_row hk Z2.out); obtain ⟨m0, m1, m2, m3⟩ := cells_4 R3.out; obtain ⟨y0, y1, y2, y3, y4, y5, y6, y7⟩ := cells_8 Z3.out; have fy := frozN Z3.out; clear hk))
  refine bodyPost_ret (results_row_tmpT (p := 4) (u := 5) rfl _ _ (w.heap.size + 1) 27 _ (0, 0) _ rfl (set_8 _ _ _ _ _ _ _ _ Z3.out) Tryd.underlying27 rfl (by kernel_rfl)) rfl ?_; exact ⟨rfl, set_8_kp K3.out (Nat.le_succ _) _ _ _ _ _ _ _ _⟩
set_option maxRecDepth 100000 in
theorem msAct_go {ads : List Addr} (p e s h k : Int) (hz : SeatM.ok ⟨p, e, s, h⟩) (ik : i64M k) (hr : SeatM.right ⟨p, e, s, h⟩ = true) (n m : Int) (hm : stepT p e k s = (n, m)) (h0 : n = 0) (im : i64M m) (y : EffM) (hy : SeatM.goes ⟨p, e, s, h⟩ m k k = y) (w : World) (T : TabC ads w) (S : TabS ads w) : Calls Tryd.prog 12 #[.agg #[.int .i64 p, .int .i64 e, .int .i64 s, .int .i64 h], .int .i64 k] w fun r w' => r = .returned (.tuple #[.agg #[.int .i64 y.z.p, .int .i64 y.z.e, .int .i64 y.z.s, .int .i64 y.z.h, .int .i64 y.send, .int .i64 y.fault, .int .i64 y.work, .bool y.changed], .nilIface]) ∧ Kp w w' := by
  have HRt := Lib.hid (fun w1 (hk : Kp w w1) => (show Calls Tryd.prog 16 #[.agg #[.int .i64 p, .int .i64 e, .int .i64 s, .int .i64 h]] w1 fun r w' => r = .returned (.bool true) ∧ Kp w1 w' from hr ▸ msRight_any (ads := ads) ⟨p, e, s, h⟩ hz w1 (T.kp hk)))
  have hl := fun w1 (hk : Kp w w1) => S.step w1 hk p e k s hz.1 hz.2.1 ik hz.2.2.1
  rw [hm] at hl
  dsimp only at hl
  subst h0
  rw [errI_nil] at hl
  have HM := Lib.hid (fun w1 (hk : Kp w w1) => (show Calls Tryd.prog 37 #[.agg #[.int .i64 p, .int .i64 e, .int .i64 s, .int .i64 h], .int .i64 m, .int .i64 k, .int .i64 k] w1 fun r w' => r = .returned (.agg #[.int .i64 y.z.p, .int .i64 y.z.e, .int .i64 y.z.s, .int .i64 y.z.h, .int .i64 y.send, .int .i64 y.fault, .int .i64 y.work, .bool y.changed]) ∧ Kp w1 w' from hy ▸ goes_any ⟨p, e, s, h⟩ hz m k k im ik w1 (T.kp hk)))
  clear hy im
  have HL := Lib.hid hl
  have k0 := Kp.trans (kp_alloc w (.cells #[.int .i64 p, .int .i64 e, .int .i64 s, .int .i64 h] 23)) (kp_alloc (w.alloc (.cells #[.int .i64 p, .int .i64 e, .int .i64 s, .int .i64 h] 23)) (.cells #[.int .i64 0, .int .i64 0, .int .i64 0, .int .i64 0, .int .i64 0, .int .i64 0, .int .i64 0, .bool false] 27))
  have hr0 : ((w.alloc (.cells #[.int .i64 p, .int .i64 e, .int .i64 s, .int .i64 h] 23)).alloc (.cells #[.int .i64 0, .int .i64 0, .int .i64 0, .int .i64 0, .int .i64 0, .int .i64 0, .int .i64 0, .bool false] 27)).heap[w.heap.size]? = some (.cells #[.int .i64 p, .int .i64 e, .int .i64 s, .int .i64 h] 23) := kp_row (kp_alloc _ _) (MapKept.heap_alloc w (.cells #[.int .i64 p, .int .i64 e, .int .i64 s, .int .i64 h] 23)).1
  have hz0 : ((w.alloc (.cells #[.int .i64 p, .int .i64 e, .int .i64 s, .int .i64 h] 23)).alloc (.cells #[.int .i64 0, .int .i64 0, .int .i64 0, .int .i64 0, .int .i64 0, .int .i64 0, .int .i64 0, .bool false] 27)).heap[w.heap.size + 1]? = some (.cells #[.int .i64 0, .int .i64 0, .int .i64 0, .int .i64 0, .int .i64 0, .int .i64 0, .int .i64 0, .bool false] 27) := by have := (MapKept.heap_alloc (w.alloc (.cells #[.int .i64 p, .int .i64 e, .int .i64 s, .int .i64 h] 23)) (.cells #[.int .i64 0, .int .i64 0, .int .i64 0, .int .i64 0, .int .i64 0, .int .i64 0, .int .i64 0, .bool false] 27)).1; simpa using this
  have K1 := Lib.hid k0
  have R1 := Lib.hid hr0
  have Z1 := Lib.hid hz0
  obtain ⟨g0, g1, g2, g3⟩ := cells_4 R1.out
  obtain ⟨zz0, zz1, zz2, zz3, zz4, zz5, zz6, zz7⟩ := cells_8 Z1.out
  have fz1 := frozN Z1.out
  clear k0 hr0 hz0
  clear hr hz T hm ik hl S 
  go_enter Tryd.func12, Tryd.ntmps12
  go_wp2_with (first | (go_at_call 16; (with_reducible refine (HRt.out _ K1.out).mono ?_); rintro e' w2 ⟨rfl, hk⟩; have K2 := Lib.hid (Kp.trans K1.out hk); have R2 := Lib.hid (kp_row hk R1.out); have Z2 := Lib.hid (kp_row hk Z1.out); obtain ⟨j20, j21, j22, j23⟩ := cells_4 R2.out; obtain ⟨z20, z21, z22, z23, z24, z25, z26, z27⟩ := cells_8 Z2.out; have fz2 := frozN Z2.out; clear hk) | (go_at_call 36; (with_reducible refine (HL.out _ K2.out).mono ?_); rintro e' w3 ⟨rfl, hk⟩; have K3 := Lib.hid (Kp.trans K2.out hk); have R3 := Lib.hid (kp_row hk R2.out); have Z3 := Lib.hid (kp_row hk Z2.out); obtain ⟨m0, m1, m2, m3⟩ := cells_4 R3.out; obtain ⟨y0, y1, y2, y3, y4, y5, y6, y7⟩ := cells_8 Z3.out; have fy := frozN Z3.out; clear hk) | (go_at_call 37; (with_reducible refine (HM.out _ K3.out).mono ?_); rintro e' w4 ⟨rfl, hk⟩; have K4 := Lib.hid (Kp.trans K3.out hk); have Z4 := Lib.hid (kp_row hk Z3.out); obtain ⟨x0, x1, x2, x3, x4, x5, x6, x7⟩ := cells_8 Z4.out; have fx := frozN Z4.out; clear hk))
  refine bodyPost_ret (results_row_tmpT (p := 4) (u := 5) rfl _ _ (w.heap.size + 1) 27 _ (0, 0) _ rfl (set_8 _ _ _ _ _ _ _ _ Z4.out) Tryd.underlying27 rfl (by kernel_rfl)) rfl ?_; exact ⟨rfl, set_8_kp K4.out (Nat.le_succ _) _ _ _ _ _ _ _ _⟩
theorem msAct_any {ads : List Addr} (z : SeatM) (k : Int) (hz : z.ok) (ik : i64M k) (w : World) (T : TabC ads w) (S : TabS ads w) (ce : w.cell? ⟨0, 0, none⟩ = some (errI ads 4)) : Calls Tryd.prog 12 #[.agg (seatV z), .int .i64 k] w fun r w' => r = .returned (.tuple #[.agg (effV (z.act k).2), errI ads (z.act k).1]) ∧ Kp w w' := by
  obtain ⟨p, e, s, h⟩ := z
  unfold SeatM.act
  cases hr : SeatM.right ⟨p, e, s, h⟩ with
  | false => rw [if_pos rfl]; exact msAct_bad p e s h k hz hr w T ce
  | true =>
    rw [if_neg (by decide)]
    obtain ⟨⟨n, m⟩, hm⟩ : ∃ y, stepT p e k s = y := ⟨_, rfl⟩
    dsimp only
    rw [hm]
    dsimp only
    by_cases h0 : n = 0
    · rw [if_neg (by simpa using h0)]
      obtain ⟨e1, i1, i2⟩ := act_eq (z := ⟨p, e, s, h⟩) hr hm h0
      rw [← e1]
      exact msAct_go p e s h k hz ik hr n m hm h0 ⟨by omega, by omega⟩ _ rfl w T S
    · rw [if_pos h0]; exact msAct_step p e s h k hz ik hr n m hm h0 w T S
set_option maxRecDepth 100000 in
theorem msNew_no {ads : List Addr} (p e : Int) (ip : i64M p) (ie : i64M e) (hr : rightT p e = false) (w : World) (T : TabC ads w) (ce : w.cell? ⟨13, 0, none⟩ = some (errI ads 14)) : Calls Tryd.prog 31 #[.int .i64 p, .int .i64 e] w fun r w' => r = .returned (.tuple #[.agg #[.int .i64 0, .int .i64 0, .int .i64 0, .int .i64 0], errI ads 14]) ∧ Kp w w' := by
  have hn : SeatM.right ⟨p, e, 1, 0⟩ = false := by simp only [right_how, hr]; rfl
  have HRt := Lib.hid (fun w1 (hk : Kp w w1) => (show Calls Tryd.prog 16 #[.agg #[.int .i64 p, .int .i64 e, .int .i64 1, .int .i64 0]] w1 fun r w' => r = .returned (.bool false) ∧ Kp w1 w' from hn ▸ msRight_any (ads := ads) ⟨p, e, 1, 0⟩ ⟨ip, ie, (by decide : i64M 1), (by decide : i64M 0)⟩ w1 (T.kp hk)))
  have KW := Lib.hid (Kp.trans (kp_alloc w (.cells #[.int .i64 0, .int .i64 0, .int .i64 0, .int .i64 0] 23)) (kp_alloc (w.alloc (.cells #[.int .i64 0, .int .i64 0, .int .i64 0, .int .i64 0] 23)) (.cells #[.int .i64 p, .int .i64 e, .int .i64 1, .int .i64 0] 23)))
  have HZ := Lib.hid (show ((w.alloc (.cells #[.int .i64 0, .int .i64 0, .int .i64 0, .int .i64 0] 23)).alloc (.cells #[.int .i64 p, .int .i64 e, .int .i64 1, .int .i64 0] 23)).heap[w.heap.size]? = some (.cells #[.int .i64 0, .int .i64 0, .int .i64 0, .int .i64 0] 23) from kp_row (kp_alloc _ _) (MapKept.heap_alloc w (.cells #[.int .i64 0, .int .i64 0, .int .i64 0, .int .i64 0] 23)).1)
  have HX := Lib.hid (show ((w.alloc (.cells #[.int .i64 0, .int .i64 0, .int .i64 0, .int .i64 0] 23)).alloc (.cells #[.int .i64 p, .int .i64 e, .int .i64 1, .int .i64 0] 23)).heap[w.heap.size + 1]? = some (.cells #[.int .i64 p, .int .i64 e, .int .i64 1, .int .i64 0] 23) by have := (MapKept.heap_alloc (w.alloc (.cells #[.int .i64 0, .int .i64 0, .int .i64 0, .int .i64 0] 23)) (.cells #[.int .i64 p, .int .i64 e, .int .i64 1, .int .i64 0] 23)).1; simpa using this)
  obtain ⟨g0, g1, g2, g3⟩ := cells_4 HX.out
  have r0 := (MapKept.heap_alloc (w.alloc (.cells #[.int .i64 0, .int .i64 0, .int .i64 0, .int .i64 0] 23)) (.cells #[.int .i64 0, .int .i64 0, .int .i64 0, .int .i64 0] 23)).1
  have s1 : (w.alloc (.cells #[.int .i64 0, .int .i64 0, .int .i64 0, .int .i64 0] 23)).heap.size = w.heap.size + 1 := by simp
  rw [s1] at r0
  have fr := frozN r0
  obtain ⟨q, hq⟩ : ∃ x, errI ads 14 = x := ⟨_, rfl⟩
  rw [hq] at ce ⊢
  have CE := Lib.hid ce
  have lt : 13 < w.heap.size := World.block_lt_of_cell? w _ ce
  have ne1 : ¬ w.heap.size = 13 := by omega
  have ne2 : ¬ 13 = w.heap.size := by omega
  clear hq ce lt
  clear hn hr T ip ie r0 s1
  go_enter Tryd.func31, Tryd.ntmps31
  go_wp2_with (go_at_call 16; (with_reducible refine (HRt.out _ KW.out).mono ?_); rintro e' w2 ⟨rfl, hk⟩; have K2 := Lib.hid (Kp.trans KW.out hk); have Z2 := Lib.hid (kp_row hk HZ.out); have X2 := kp_row hk HX.out; obtain ⟨j0, j1, j2, j3⟩ := cells_4 X2; obtain ⟨z0, z1, z2, z3⟩ := cells_4 Z2.out; have fz := frozN Z2.out; clear hk; have ce2 := kp_cell K2.out CE.out)
  go_region
  go_wp2
  refine bodyPost_ret (results_row_tmpT (p := 4) (u := 5) rfl _ _ w.heap.size 23 _ (0, 0) _ rfl (set_4_drew _ _ _ _ Z2.out) Tryd.underlying23 rfl (by kernel_rfl)) rfl ?_; exact ⟨rfl, set_4_kpd K2.out (Nat.le_refl _) _ _ _ _⟩
set_option maxRecDepth 100000 in
theorem msNew_ok {ads : List Addr} (p e : Int) (ip : i64M p) (ie : i64M e) (hr : rightT p e = true) (w : World) (T : TabC ads w) : Calls Tryd.prog 31 #[.int .i64 p, .int .i64 e] w fun r w' => r = .returned (.tuple #[.agg #[.int .i64 p, .int .i64 e, .int .i64 1, .int .i64 0], .nilIface]) ∧ Kp w w' := by
  have hn : SeatM.right ⟨p, e, 1, 0⟩ = true := by simp only [right_how, hr]; simp [hasT, howOk]
  have HRt := Lib.hid (fun w1 (hk : Kp w w1) => (show Calls Tryd.prog 16 #[.agg #[.int .i64 p, .int .i64 e, .int .i64 1, .int .i64 0]] w1 fun r w' => r = .returned (.bool true) ∧ Kp w1 w' from hn ▸ msRight_any (ads := ads) ⟨p, e, 1, 0⟩ ⟨ip, ie, (by decide : i64M 1), (by decide : i64M 0)⟩ w1 (T.kp hk)))
  have KW := Lib.hid (Kp.trans (kp_alloc w (.cells #[.int .i64 0, .int .i64 0, .int .i64 0, .int .i64 0] 23)) (kp_alloc (w.alloc (.cells #[.int .i64 0, .int .i64 0, .int .i64 0, .int .i64 0] 23)) (.cells #[.int .i64 p, .int .i64 e, .int .i64 1, .int .i64 0] 23)))
  have HZ := Lib.hid (show ((w.alloc (.cells #[.int .i64 0, .int .i64 0, .int .i64 0, .int .i64 0] 23)).alloc (.cells #[.int .i64 p, .int .i64 e, .int .i64 1, .int .i64 0] 23)).heap[w.heap.size]? = some (.cells #[.int .i64 0, .int .i64 0, .int .i64 0, .int .i64 0] 23) from kp_row (kp_alloc _ _) (MapKept.heap_alloc w (.cells #[.int .i64 0, .int .i64 0, .int .i64 0, .int .i64 0] 23)).1)
  have HX := Lib.hid (show ((w.alloc (.cells #[.int .i64 0, .int .i64 0, .int .i64 0, .int .i64 0] 23)).alloc (.cells #[.int .i64 p, .int .i64 e, .int .i64 1, .int .i64 0] 23)).heap[w.heap.size + 1]? = some (.cells #[.int .i64 p, .int .i64 e, .int .i64 1, .int .i64 0] 23) by have := (MapKept.heap_alloc (w.alloc (.cells #[.int .i64 0, .int .i64 0, .int .i64 0, .int .i64 0] 23)) (.cells #[.int .i64 p, .int .i64 e, .int .i64 1, .int .i64 0] 23)).1; simpa using this)
  obtain ⟨g0, g1, g2, g3⟩ := cells_4 HX.out
  have r0 := (MapKept.heap_alloc (w.alloc (.cells #[.int .i64 0, .int .i64 0, .int .i64 0, .int .i64 0] 23)) (.cells #[.int .i64 0, .int .i64 0, .int .i64 0, .int .i64 0] 23)).1
  have s1 : (w.alloc (.cells #[.int .i64 0, .int .i64 0, .int .i64 0, .int .i64 0] 23)).heap.size = w.heap.size + 1 := by simp
  rw [s1] at r0
  have fr := frozN r0
  clear hn hr T ip ie r0 s1
  go_enter Tryd.func31, Tryd.ntmps31
  go_wp2_with (go_at_call 16; (with_reducible refine (HRt.out _ KW.out).mono ?_); rintro e' w2 ⟨rfl, hk⟩; have K2 := Lib.hid (Kp.trans KW.out hk); have Z2 := Lib.hid (kp_row hk HZ.out); have X2 := kp_row hk HX.out; obtain ⟨j0, j1, j2, j3⟩ := cells_4 X2; obtain ⟨z0, z1, z2, z3⟩ := cells_4 Z2.out; have fz := frozN Z2.out; clear hk)
  refine bodyPost_ret (results_row_tmpT (p := 4) (u := 5) rfl _ _ w.heap.size 23 _ (0, 0) _ rfl (set_4 _ _ _ _ Z2.out) Tryd.underlying23 rfl (by kernel_rfl)) rfl ?_; exact ⟨rfl, set_4_kp K2.out (Nat.le_refl _) _ _ _ _⟩
theorem msNew_any {ads : List Addr} (p e : Int) (ip : i64M p) (ie : i64M e) (w : World) (T : TabC ads w) (ce : w.cell? ⟨13, 0, none⟩ = some (errI ads 14)) : Calls Tryd.prog 31 #[.int .i64 p, .int .i64 e] w fun r w' => r = .returned (.tuple #[.agg (seatV (newS p e)), errI ads (if rightT p e = true then 0 else 14)]) ∧ Kp w w' := by
  cases hr : rightT p e with
  | false =>
    rw [show newS p e = ⟨0, 0, 0, 0⟩ by simp [newS, hr], if_neg (by decide)]
    exact msNew_no p e ip ie hr w T ce
  | true =>
    rw [show newS p e = ⟨p, e, 1, 0⟩ by simp [newS, hr], if_pos rfl]
    exact msNew_ok p e ip ie hr w T
end Go.Proofs.YtghjnhdepeiloaaDoor
