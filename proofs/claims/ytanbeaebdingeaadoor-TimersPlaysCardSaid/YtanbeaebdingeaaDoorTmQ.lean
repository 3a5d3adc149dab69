/-
  A CALL AT BOTH CLOCKS (own work): the law's step.
-/
import Derived.Test.YtanbeaebdingeaaDoorTmP
import Derived.Test.YtanbeaebdingeaaDoorErrI
namespace Go.Proofs.YtanbeaebdingeaaDoor
open Go.RowKit Go.ChangeShapes Go.WideShapes
variable {w w1 w2 : World} {q mb g : Nat} {c d c' d' : CkM} {v v' : Value} {ads : List Addr}
/-- what a step lets be -/
def FrT (q mb g : Nat) (v : Value) (w1 w' : World) : Prop := ∀ b, b < w1.heap.size → ¬ Ol q mb b → ¬ Or g v b → w'.heap[b]? = w1.heap[b]?
theorem tick_num (c : CkM) (x : Nat) : 0 ≤ (c.tick x).1 ∧ (c.tick x).1 ≤ 14 := by
  unfold CkM.tick
  split
  · exact ⟨by dsimp only; omega, by dsimp only; omega⟩
  · exact ⟨by dsimp only; omega, by dsimp only; omega⟩
theorem set_num (c : CkM) (k : List UInt8) (b m : Nat) : 0 ≤ (c.set k b m).1 ∧ (c.set k b m).1 ≤ 14 := by
  unfold CkM.set
  split
  · split
    · exact ⟨by dsimp only; omega, by dsimp only; omega⟩
    · exact ⟨by dsimp only; omega, by dsimp only; omega⟩
  · exact ⟨by dsimp only; omega, by dsimp only; omega⟩
theorem again_num (c : CkM) (k : List UInt8) : 0 ≤ (c.again k).1 ∧ (c.again k).1 ≤ 14 := by
  unfold CkM.again
  split
  · exact ⟨by dsimp only; omega, by dsimp only; omega⟩
  · exact ⟨by dsimp only; omega, by dsimp only; omega⟩
set_option maxRecDepth 100000 in
set_option maxHeartbeats 4000000 in
theorem step13_1 (V : St ads w) (E : EP [0, 3, 5, 7] ads w) (h : Bo w q mb g c c v w1) (s : List UInt8) (_hs : s.length ≤ maxLen) (st : ByteArray) (hst : (⟨s.toArray⟩ : ByteArray) = st) (x y : Nat) (hx : x < 18446744073709551616) (_hy : y < 18446744073709551616) : Calls Tryd.prog 10 #[.pointer (some ⟨q, 0, none⟩), .pointer (some ⟨g, 0, none⟩), .agg #[.int .i64 1, .string st, .float .f64 x, .float .f64 y]] w1 fun r w' => r = .returned (.bool true) ∧ FrT q mb g v w1 w' ∧ ∃ v', Bo w q mb g (c.tick x).2 (c.tick x).2 v' w' := by
  have k1 := kp_alloc w1 (.cells #[.int .i64 1, .string st, .float .f64 x, .float .f64 y] 33)
  have r1 := (MapKept.heap_alloc w1 (.cells #[.int .i64 1, .string st, .float .f64 x, .float .f64 y] 33)).1
  have b1 := h.kp k1
  obtain ⟨nbo, nbr⟩ := h.new
  have OK := Lib.hid h.1.ok
  obtain ⟨bx, hbx⟩ : ∃ b, w1.heap.size = b := ⟨_, rfl⟩
  rw [hbx] at r1 nbo nbr
  obtain ⟨Y, hY⟩ : ∃ Y, w1.alloc (.cells #[.int .i64 1, .string st, .float .f64 x, .float .f64 y] 33) = Y := ⟨_, rfl⟩
  rw [hY] at k1 r1 b1
  have kx : Kp w1 Y.drew := kp_drewR k1
  obtain ⟨X, hX⟩ : ∃ X, Y.drew = X := ⟨_, rfl⟩
  have bX := b1.kp (show Kp Y X from by rw [← hX]; exact kp_drewR (Kp.refl _))
  have tx : X.heap[bx]? = some (.cells #[.int .i64 1, .string st, .float .f64 x, .float .f64 y] 33) := by rw [← hX]; exact r1
  have kX : Kp w1 X := Kp.trans k1 (by rw [← hX]; exact kp_drewR (Kp.refl _))
  have FX := Lib.hid (fun b (hb : b < w1.heap.size) => Below.block kX b hb)
  have HSX := Lib.hid (Below.size kX)
  have TX := Lib.hid tx
  have BX := Lib.hid bX
  have HT1 := Lib.hid r1
  have HXW := Lib.hid hX
  have NBO := Lib.hid nbo
  have NBR := Lib.hid nbr
  have hsv : encStr s = .string st := by rw [← hst]
  have hb := tick_num c x
  obtain ⟨n1, hn1⟩ : ∃ z, (c.tick x).1 = z := ⟨_, rfl⟩
  obtain ⟨c2, hc2⟩ : ∃ z, (c.tick x).2 = z := ⟨_, rfl⟩
  obtain ⟨ev, hev⟩ : ∃ d, errI ads (c.tick x).1 = d := ⟨_, rfl⟩
  have HL := Lib.hid (fun w2 (h : Bo w q mb g c c v w2) => (show Calls Tryd.prog 25 #[.pointer (some ⟨q, 0, none⟩), .float .f64 x] w2 fun r w' => r = .returned ev ∧ Bo w q mb g c2 c v w' ∧ Asd (Ol q mb) (Ol q mb) w2 w' from by rw [← hev, ← hc2]; exact (lkTick_any h.1 hx (E.kp h.2.2)).mono fun _ _ ⟨q1, q2, q3⟩ => ⟨q1, h.left q2 q3, q3⟩))
  have HN := Lib.hid (fun w2 (h : Bo w q mb g c2 c v w2) => (show Calls Tryd.prog 22 #[ev] w2 fun r w' => r = .returned (.int .i64 n1) ∧ Kp w2 w' from by rw [← hev, ← hn1]; exact num_errN ads w2 (V.below h.2.2) _ hb.1 hb.2))
  have HR := Lib.hid (fun w2 (h : Bo w q mb g c2 c v w2) => (show Calls Tryd.prog 27 #[.pointer (some ⟨g, 0, none⟩), .float .f64 x] w2 fun r w' => r = .returned (.int .i64 n1) ∧ ∃ v', Bo w q mb g c2 c2 v' w' ∧ Asd (Or g v) (Or g v') w2 w' from by rw [← hn1]; exact (rkTick_any h.2.1 OK.out hx).mono fun _ _ ⟨q1, q2, q3⟩ => ⟨q1, _, h.right (hc2 ▸ q2) q3, q3⟩))
  rw [hc2]
  clear hb hn1 hev hc2
  have x0 := cell_row (i := 0) r1 rfl; have x1 := cell_row (i := 1) r1 rfl; have x2 := cell_row (i := 2) r1 rfl; have x3 := cell_row (i := 3) r1 rfl
  clear kX kx b1 bX tx hX h V E r1 nbo nbr k1 hst hsv hx
  go_enter Tryd.func10, Tryd.ntmps10
  go_wp2_with fail
  refine wp_region_held_drew (S := fun w' => w'.heap[bx]? = some (.cells #[.int .i64 1, .string st, .float .f64 x, .float .f64 y] 33)) (by kernel_rfl) ?_ (fun hHeld => ?_)
  · exact kp_row (kp_drewR (Kp.refl _)) HT1.out
  rw [HXW.out] at hHeld ⊢
  refine wpAnyH_take (i := 0) (v := ?_) rfl (by kernel_rfl) (by kernel_rfl) (by kernel_rfl) (fun _ _ _ h => h) (Or.inl ⟨by rfl, ?_⟩) (by assumption) ?_
  rotate_left
  · intro w hSw; have q0 := cell_row (i := 0) hSw rfl; have q1 := cell_row (i := 1) hSw rfl; have q2 := cell_row (i := 2) hSw rfl; have q3 := cell_row (i := 3) hSw rfl; go_simp; try with_reducible rfl
  go_simp
  refine wpAnyH_take (i := 1) (v := ?_) rfl (by kernel_rfl) (by kernel_rfl) (by kernel_rfl) (fun _ _ _ h => h) (Or.inl ⟨by rfl, ?_⟩) (by assumption) ?_
  rotate_left
  · intro w hSw; have q0 := cell_row (i := 0) hSw rfl; have q1 := cell_row (i := 1) hSw rfl; have q2 := cell_row (i := 2) hSw rfl; have q3 := cell_row (i := 3) hSw rfl; go_simp; try with_reducible rfl
  go_simp
  refine wpAnyH_take (i := 2) (v := ?_) rfl (by kernel_rfl) (by kernel_rfl) (by kernel_rfl) (fun _ _ _ h => h) (Or.inl ⟨by rfl, ?_⟩) (by assumption) ?_
  rotate_left
  · intro w hSw; have q0 := cell_row (i := 0) hSw rfl; have q1 := cell_row (i := 1) hSw rfl; have q2 := cell_row (i := 2) hSw rfl; have q3 := cell_row (i := 3) hSw rfl; go_simp; try with_reducible rfl
  go_simp
  refine wpAnyH_take (i := 5) (v := ?_) rfl (by kernel_rfl) (by kernel_rfl) (by kernel_rfl) (fun _ _ _ h => h) (Or.inl ⟨by rfl, ?_⟩) (by assumption) ?_
  rotate_left
  · intro w hSw; have q0 := cell_row (i := 0) hSw rfl; have q1 := cell_row (i := 1) hSw rfl; have q2 := cell_row (i := 2) hSw rfl; have q3 := cell_row (i := 3) hSw rfl; go_simp; try with_reducible rfl
  go_simp
  refine wpAnyH_take (i := 6) (v := ?_) rfl (by kernel_rfl) (by kernel_rfl) (by kernel_rfl) (fun _ _ _ h => h) (Or.inl ⟨by rfl, ?_⟩) (by assumption) ?_
  rotate_left
  · intro w hSw; have q0 := cell_row (i := 0) hSw rfl; have q1 := cell_row (i := 1) hSw rfl; have q2 := cell_row (i := 2) hSw rfl; have q3 := cell_row (i := 3) hSw rfl; go_simp; try with_reducible rfl
  go_simp
  refine wpAnyH_take (i := 7) (v := ?_) rfl (by kernel_rfl) (by kernel_rfl) (by kernel_rfl) (fun _ _ _ h => h) (Or.inl ⟨by rfl, ?_⟩) (by assumption) ?_
  rotate_left
  · intro w hSw; have q0 := cell_row (i := 0) hSw rfl; have q1 := cell_row (i := 1) hSw rfl; have q2 := cell_row (i := 2) hSw rfl; have q3 := cell_row (i := 3) hSw rfl; go_simp; try with_reducible rfl
  go_simp
  refine wpAnyH_ready (rs := [3]) (by kernel_rfl) (by simp) ?_
  refine AllReadyH.cons rfl (fun K hK => ?_) AllReadyH.nil
  go_simp
  go_wp2_with (go_at_call 25; (with_reducible refine (HL.out _ BX.out).mono ?_); rintro e' w4 ⟨rfl, hb4, ha4⟩; have B4 := Lib.hid hb4; have T4 := Lib.hid (ha4.row TX.out NBO.out); have F4 := Lib.hid (fun b hb ho => (ha4.block b (Nat.lt_of_lt_of_le hb HSX.out) ho).trans (FX.out b hb)); have S4 := Lib.hid (Nat.le_trans HSX.out ha4.size); clear hb4 ha4)
  refine hK.out _ _ ?_ (fun hHeld => ?_)
  · exact T4.out
  clear hK K
  refine wpAnyH_ready (rs := [4]) (by kernel_rfl) (by simp) ?_
  refine AllReadyH.cons rfl (fun K hK => ?_) AllReadyH.nil
  go_simp
  go_wp2_with (go_at_call 22; (with_reducible refine (HN.out _ B4.out).mono ?_); rintro e' w5 ⟨rfl, hk⟩; have B5 := Lib.hid (B4.out.kp hk); have T5 := Lib.hid (kp_row hk T4.out); have F5 := Lib.hid (fun b hb ho => (Below.block hk b (Nat.lt_of_lt_of_le hb S4.out)).trans (F4.out b hb ho)); have S5 := Lib.hid (Nat.le_trans S4.out (Below.size hk)); clear hk)
  refine hK.out _ _ ?_ (fun hHeld => ?_)
  · exact T5.out
  clear hK K
  refine wpAnyH_ready (rs := [8]) (by kernel_rfl) (by simp) ?_
  refine AllReadyH.cons rfl (fun K hK => ?_) AllReadyH.nil
  go_simp
  go_wp2_with (go_at_call 27; (with_reducible refine (HR.out _ B5.out).mono ?_); rintro e' w6 ⟨rfl, v6, hb6, ha6⟩; have B6 := Lib.hid hb6; have T6 := Lib.hid (ha6.row T5.out NBR.out); have F6 := Lib.hid (show FrT q mb g v w1 w6 from fun b hb ho hr => (ha6.block b (Nat.lt_of_lt_of_le hb S5.out) hr).trans (F5.out b hb ho)); clear hb6 ha6)
  refine hK.out _ _ ?_ (fun hHeld => ?_)
  · exact T6.out
  clear hK K
  refine wpAnyH_take (i := 9) (v := ?_) rfl (by kernel_rfl) (by kernel_rfl) (by kernel_rfl) (fun _ _ _ h => h) (Or.inl ⟨by rfl, ?_⟩) (by assumption) ?_
  rotate_left
  · intro w hSw; go_simp; try with_reducible rfl
  go_simp
  refine wpAnyH_take (i := 10) (v := ?_) rfl (by kernel_rfl) (by kernel_rfl) (by kernel_rfl) (fun _ _ _ h => h) (Or.inl ⟨by rfl, ?_⟩) (by assumption) ?_
  rotate_left
  · intro w hSw; go_simp; try with_reducible rfl
  go_simp
  refine wpAnyH_done (by kernel_rfl) ?_ _
  go_wp2
  go_ret
  exact ⟨by first | rfl | simp, F6.out, _, B6.out⟩
set_option maxRecDepth 100000 in
set_option maxHeartbeats 4000000 in
theorem step13_2 (V : St ads w) (E : EP [0, 3, 5, 7] ads w) (h : Bo w q mb g c c v w1) (s : List UInt8) (hs : s.length ≤ maxLen) (st : ByteArray) (hst : (⟨s.toArray⟩ : ByteArray) = st) (x y : Nat) (hx : x < 18446744073709551616) (hy : y < 18446744073709551616) : Calls Tryd.prog 10 #[.pointer (some ⟨q, 0, none⟩), .pointer (some ⟨g, 0, none⟩), .agg #[.int .i64 2, .string st, .float .f64 x, .float .f64 y]] w1 fun r w' => r = .returned (.bool true) ∧ FrT q mb g v w1 w' ∧ ∃ v', Bo w q mb g (c.set s x y).2 (c.set s x y).2 v' w' := by
  have k1 := kp_alloc w1 (.cells #[.int .i64 2, .string st, .float .f64 x, .float .f64 y] 33)
  have r1 := (MapKept.heap_alloc w1 (.cells #[.int .i64 2, .string st, .float .f64 x, .float .f64 y] 33)).1
  have b1 := h.kp k1
  obtain ⟨nbo, nbr⟩ := h.new
  have OK := Lib.hid h.1.ok
  obtain ⟨bx, hbx⟩ : ∃ b, w1.heap.size = b := ⟨_, rfl⟩
  rw [hbx] at r1 nbo nbr
  obtain ⟨Y, hY⟩ : ∃ Y, w1.alloc (.cells #[.int .i64 2, .string st, .float .f64 x, .float .f64 y] 33) = Y := ⟨_, rfl⟩
  rw [hY] at k1 r1 b1
  have kx : Kp w1 Y.drew := kp_drewR k1
  obtain ⟨X, hX⟩ : ∃ X, Y.drew = X := ⟨_, rfl⟩
  have bX := b1.kp (show Kp Y X from by rw [← hX]; exact kp_drewR (Kp.refl _))
  have tx : X.heap[bx]? = some (.cells #[.int .i64 2, .string st, .float .f64 x, .float .f64 y] 33) := by rw [← hX]; exact r1
  have kX : Kp w1 X := Kp.trans k1 (by rw [← hX]; exact kp_drewR (Kp.refl _))
  have FX := Lib.hid (fun b (hb : b < w1.heap.size) => Below.block kX b hb)
  have HSX := Lib.hid (Below.size kX)
  have TX := Lib.hid tx
  have BX := Lib.hid bX
  have HT1 := Lib.hid r1
  have HXW := Lib.hid hX
  have NBO := Lib.hid nbo
  have NBR := Lib.hid nbr
  have hsv : encStr s = .string st := by rw [← hst]
  have hb := set_num c s x y
  obtain ⟨n1, hn1⟩ : ∃ z, (c.set s x y).1 = z := ⟨_, rfl⟩
  obtain ⟨c2, hc2⟩ : ∃ z, (c.set s x y).2 = z := ⟨_, rfl⟩
  obtain ⟨ev, hev⟩ : ∃ d, errI ads (c.set s x y).1 = d := ⟨_, rfl⟩
  have HL := Lib.hid (fun w2 (h : Bo w q mb g c c v w2) => (show Calls Tryd.prog 21 #[.pointer (some ⟨q, 0, none⟩), .string st, .float .f64 x, .float .f64 y] w2 fun r w' => r = .returned ev ∧ Bo w q mb g c2 c v w' ∧ Asd (Ol q mb) (Ol q mb) w2 w' from by rw [← hsv, ← hev, ← hc2]; exact (lkSet_any h.1 hs hx hy (E.kp h.2.2)).mono fun _ _ ⟨q1, q2, q3⟩ => ⟨q1, h.left q2 q3, q3⟩))
  have HN := Lib.hid (fun w2 (h : Bo w q mb g c2 c v w2) => (show Calls Tryd.prog 22 #[ev] w2 fun r w' => r = .returned (.int .i64 n1) ∧ Kp w2 w' from by rw [← hev, ← hn1]; exact num_errN ads w2 (V.below h.2.2) _ hb.1 hb.2))
  have HR := Lib.hid (fun w2 (h : Bo w q mb g c2 c v w2) => (show Calls Tryd.prog 28 #[.pointer (some ⟨g, 0, none⟩), .string st, .float .f64 x, .float .f64 y] w2 fun r w' => r = .returned (.int .i64 n1) ∧ ∃ v', Bo w q mb g c2 c2 v' w' ∧ Asd (Or g v) (Or g v') w2 w' from by rw [← hsv, ← hn1]; exact (rkSet_any h.2.1 OK.out s hx hy).mono fun _ _ ⟨q1, v', q2, q3⟩ => ⟨q1, v', h.right (hc2 ▸ q2) q3, q3⟩))
  rw [hc2]
  clear hb hn1 hev hc2
  have x0 := cell_row (i := 0) r1 rfl; have x1 := cell_row (i := 1) r1 rfl; have x2 := cell_row (i := 2) r1 rfl; have x3 := cell_row (i := 3) r1 rfl
  clear kX kx b1 bX tx hX h V E r1 nbo nbr k1 hst hsv hx hy hs
  go_enter Tryd.func10, Tryd.ntmps10
  go_wp2_with fail
  refine wp_region_held_drew (S := fun w' => w'.heap[bx]? = some (.cells #[.int .i64 2, .string st, .float .f64 x, .float .f64 y] 33)) (by kernel_rfl) ?_ (fun hHeld => ?_)
  · exact kp_row (kp_drewR (Kp.refl _)) HT1.out
  rw [HXW.out] at hHeld ⊢
  refine wpAnyH_take (i := 0) (v := ?_) rfl (by kernel_rfl) (by kernel_rfl) (by kernel_rfl) (fun _ _ _ h => h) (Or.inl ⟨by rfl, ?_⟩) (by assumption) ?_
  rotate_left
  · intro w hSw; have q0 := cell_row (i := 0) hSw rfl; have q1 := cell_row (i := 1) hSw rfl; have q2 := cell_row (i := 2) hSw rfl; have q3 := cell_row (i := 3) hSw rfl; go_simp; try with_reducible rfl
  go_simp
  refine wpAnyH_take (i := 1) (v := ?_) rfl (by kernel_rfl) (by kernel_rfl) (by kernel_rfl) (fun _ _ _ h => h) (Or.inl ⟨by rfl, ?_⟩) (by assumption) ?_
  rotate_left
  · intro w hSw; have q0 := cell_row (i := 0) hSw rfl; have q1 := cell_row (i := 1) hSw rfl; have q2 := cell_row (i := 2) hSw rfl; have q3 := cell_row (i := 3) hSw rfl; go_simp; try with_reducible rfl
  go_simp
  refine wpAnyH_take (i := 2) (v := ?_) rfl (by kernel_rfl) (by kernel_rfl) (by kernel_rfl) (fun _ _ _ h => h) (Or.inl ⟨by rfl, ?_⟩) (by assumption) ?_
  rotate_left
  · intro w hSw; have q0 := cell_row (i := 0) hSw rfl; have q1 := cell_row (i := 1) hSw rfl; have q2 := cell_row (i := 2) hSw rfl; have q3 := cell_row (i := 3) hSw rfl; go_simp; try with_reducible rfl
  go_simp
  refine wpAnyH_take (i := 3) (v := ?_) rfl (by kernel_rfl) (by kernel_rfl) (by kernel_rfl) (fun _ _ _ h => h) (Or.inl ⟨by rfl, ?_⟩) (by assumption) ?_
  rotate_left
  · intro w hSw; have q0 := cell_row (i := 0) hSw rfl; have q1 := cell_row (i := 1) hSw rfl; have q2 := cell_row (i := 2) hSw rfl; have q3 := cell_row (i := 3) hSw rfl; go_simp; try with_reducible rfl
  go_simp
  refine wpAnyH_take (i := 4) (v := ?_) rfl (by kernel_rfl) (by kernel_rfl) (by kernel_rfl) (fun _ _ _ h => h) (Or.inl ⟨by rfl, ?_⟩) (by assumption) ?_
  rotate_left
  · intro w hSw; have q0 := cell_row (i := 0) hSw rfl; have q1 := cell_row (i := 1) hSw rfl; have q2 := cell_row (i := 2) hSw rfl; have q3 := cell_row (i := 3) hSw rfl; go_simp; try with_reducible rfl
  go_simp
  refine wpAnyH_take (i := 5) (v := ?_) rfl (by kernel_rfl) (by kernel_rfl) (by kernel_rfl) (fun _ _ _ h => h) (Or.inl ⟨by rfl, ?_⟩) (by assumption) ?_
  rotate_left
  · intro w hSw; have q0 := cell_row (i := 0) hSw rfl; have q1 := cell_row (i := 1) hSw rfl; have q2 := cell_row (i := 2) hSw rfl; have q3 := cell_row (i := 3) hSw rfl; go_simp; try with_reducible rfl
  go_simp
  refine wpAnyH_take (i := 6) (v := ?_) rfl (by kernel_rfl) (by kernel_rfl) (by kernel_rfl) (fun _ _ _ h => h) (Or.inl ⟨by rfl, ?_⟩) (by assumption) ?_
  rotate_left
  · intro w hSw; have q0 := cell_row (i := 0) hSw rfl; have q1 := cell_row (i := 1) hSw rfl; have q2 := cell_row (i := 2) hSw rfl; have q3 := cell_row (i := 3) hSw rfl; go_simp; try with_reducible rfl
  go_simp
  refine wpAnyH_take (i := 9) (v := ?_) rfl (by kernel_rfl) (by kernel_rfl) (by kernel_rfl) (fun _ _ _ h => h) (Or.inl ⟨by rfl, ?_⟩) (by assumption) ?_
  rotate_left
  · intro w hSw; have q0 := cell_row (i := 0) hSw rfl; have q1 := cell_row (i := 1) hSw rfl; have q2 := cell_row (i := 2) hSw rfl; have q3 := cell_row (i := 3) hSw rfl; go_simp; try with_reducible rfl
  go_simp
  refine wpAnyH_take (i := 10) (v := ?_) rfl (by kernel_rfl) (by kernel_rfl) (by kernel_rfl) (fun _ _ _ h => h) (Or.inl ⟨by rfl, ?_⟩) (by assumption) ?_
  rotate_left
  · intro w hSw; have q0 := cell_row (i := 0) hSw rfl; have q1 := cell_row (i := 1) hSw rfl; have q2 := cell_row (i := 2) hSw rfl; have q3 := cell_row (i := 3) hSw rfl; go_simp; try with_reducible rfl
  go_simp
  refine wpAnyH_take (i := 11) (v := ?_) rfl (by kernel_rfl) (by kernel_rfl) (by kernel_rfl) (fun _ _ _ h => h) (Or.inl ⟨by rfl, ?_⟩) (by assumption) ?_
  rotate_left
  · intro w hSw; have q0 := cell_row (i := 0) hSw rfl; have q1 := cell_row (i := 1) hSw rfl; have q2 := cell_row (i := 2) hSw rfl; have q3 := cell_row (i := 3) hSw rfl; go_simp; try with_reducible rfl
  go_simp
  refine wpAnyH_take (i := 12) (v := ?_) rfl (by kernel_rfl) (by kernel_rfl) (by kernel_rfl) (fun _ _ _ h => h) (Or.inl ⟨by rfl, ?_⟩) (by assumption) ?_
  rotate_left
  · intro w hSw; have q0 := cell_row (i := 0) hSw rfl; have q1 := cell_row (i := 1) hSw rfl; have q2 := cell_row (i := 2) hSw rfl; have q3 := cell_row (i := 3) hSw rfl; go_simp; try with_reducible rfl
  go_simp
  refine wpAnyH_take (i := 13) (v := ?_) rfl (by kernel_rfl) (by kernel_rfl) (by kernel_rfl) (fun _ _ _ h => h) (Or.inl ⟨by rfl, ?_⟩) (by assumption) ?_
  rotate_left
  · intro w hSw; have q0 := cell_row (i := 0) hSw rfl; have q1 := cell_row (i := 1) hSw rfl; have q2 := cell_row (i := 2) hSw rfl; have q3 := cell_row (i := 3) hSw rfl; go_simp; try with_reducible rfl
  go_simp
  refine wpAnyH_take (i := 14) (v := ?_) rfl (by kernel_rfl) (by kernel_rfl) (by kernel_rfl) (fun _ _ _ h => h) (Or.inl ⟨by rfl, ?_⟩) (by assumption) ?_
  rotate_left
  · intro w hSw; have q0 := cell_row (i := 0) hSw rfl; have q1 := cell_row (i := 1) hSw rfl; have q2 := cell_row (i := 2) hSw rfl; have q3 := cell_row (i := 3) hSw rfl; go_simp; try with_reducible rfl
  go_simp
  refine wpAnyH_take (i := 15) (v := ?_) rfl (by kernel_rfl) (by kernel_rfl) (by kernel_rfl) (fun _ _ _ h => h) (Or.inl ⟨by rfl, ?_⟩) (by assumption) ?_
  rotate_left
  · intro w hSw; have q0 := cell_row (i := 0) hSw rfl; have q1 := cell_row (i := 1) hSw rfl; have q2 := cell_row (i := 2) hSw rfl; have q3 := cell_row (i := 3) hSw rfl; go_simp; try with_reducible rfl
  go_simp
  refine wpAnyH_ready (rs := [7]) (by kernel_rfl) (by simp) ?_
  refine AllReadyH.cons rfl (fun K hK => ?_) AllReadyH.nil
  go_simp
  go_wp2_with (go_at_call 21; (with_reducible refine (HL.out _ BX.out).mono ?_); rintro e' w4 ⟨rfl, hb4, ha4⟩; have B4 := Lib.hid hb4; have T4 := Lib.hid (ha4.row TX.out NBO.out); have F4 := Lib.hid (fun b hb ho => (ha4.block b (Nat.lt_of_lt_of_le hb HSX.out) ho).trans (FX.out b hb)); have S4 := Lib.hid (Nat.le_trans HSX.out ha4.size); clear hb4 ha4)
  refine hK.out _ _ ?_ (fun hHeld => ?_)
  · exact T4.out
  clear hK K
  refine wpAnyH_ready (rs := [8]) (by kernel_rfl) (by simp) ?_
  refine AllReadyH.cons rfl (fun K hK => ?_) AllReadyH.nil
  go_simp
  go_wp2_with (go_at_call 22; (with_reducible refine (HN.out _ B4.out).mono ?_); rintro e' w5 ⟨rfl, hk⟩; have B5 := Lib.hid (B4.out.kp hk); have T5 := Lib.hid (kp_row hk T4.out); have F5 := Lib.hid (fun b hb ho => (Below.block hk b (Nat.lt_of_lt_of_le hb S4.out)).trans (F4.out b hb ho)); have S5 := Lib.hid (Nat.le_trans S4.out (Below.size hk)); clear hk)
  refine hK.out _ _ ?_ (fun hHeld => ?_)
  · exact T5.out
  clear hK K
  refine wpAnyH_ready (rs := [16]) (by kernel_rfl) (by simp) ?_
  refine AllReadyH.cons rfl (fun K hK => ?_) AllReadyH.nil
  go_simp
  go_wp2_with (go_at_call 28; (with_reducible refine (HR.out _ B5.out).mono ?_); rintro e' w6 ⟨rfl, v6, hb6, ha6⟩; have B6 := Lib.hid hb6; have T6 := Lib.hid (ha6.row T5.out NBR.out); have F6 := Lib.hid (show FrT q mb g v w1 w6 from fun b hb ho hr => (ha6.block b (Nat.lt_of_lt_of_le hb S5.out) hr).trans (F5.out b hb ho)); clear hb6 ha6)
  refine hK.out _ _ ?_ (fun hHeld => ?_)
  · exact T6.out
  clear hK K
  refine wpAnyH_take (i := 17) (v := ?_) rfl (by kernel_rfl) (by kernel_rfl) (by kernel_rfl) (fun _ _ _ h => h) (Or.inl ⟨by rfl, ?_⟩) (by assumption) ?_
  rotate_left
  · intro w hSw; go_simp; try with_reducible rfl
  go_simp
  refine wpAnyH_take (i := 18) (v := ?_) rfl (by kernel_rfl) (by kernel_rfl) (by kernel_rfl) (fun _ _ _ h => h) (Or.inl ⟨by rfl, ?_⟩) (by assumption) ?_
  rotate_left
  · intro w hSw; go_simp; try with_reducible rfl
  go_simp
  refine wpAnyH_done (by kernel_rfl) ?_ _
  go_wp2
  go_ret
  exact ⟨by first | rfl | simp, F6.out, _, B6.out⟩
set_option maxRecDepth 100000 in
set_option maxHeartbeats 4000000 in
theorem step13_3 (V : St ads w) (E : EP [0, 3, 5, 7] ads w) (h : Bo w q mb g c c v w1) (s : List UInt8) (hs : s.length ≤ maxLen) (st : ByteArray) (hst : (⟨s.toArray⟩ : ByteArray) = st) (x y : Nat) (_hx : x < 18446744073709551616) (_hy : y < 18446744073709551616) : Calls Tryd.prog 10 #[.pointer (some ⟨q, 0, none⟩), .pointer (some ⟨g, 0, none⟩), .agg #[.int .i64 3, .string st, .float .f64 x, .float .f64 y]] w1 fun r w' => r = .returned (.bool true) ∧ FrT q mb g v w1 w' ∧ ∃ v', Bo w q mb g (c.again s).2 (c.again s).2 v' w' := by
  have k1 := kp_alloc w1 (.cells #[.int .i64 3, .string st, .float .f64 x, .float .f64 y] 33)
  have r1 := (MapKept.heap_alloc w1 (.cells #[.int .i64 3, .string st, .float .f64 x, .float .f64 y] 33)).1
  have b1 := h.kp k1
  obtain ⟨nbo, nbr⟩ := h.new
  have OK := Lib.hid h.1.ok
  obtain ⟨bx, hbx⟩ : ∃ b, w1.heap.size = b := ⟨_, rfl⟩
  rw [hbx] at r1 nbo nbr
  obtain ⟨Y, hY⟩ : ∃ Y, w1.alloc (.cells #[.int .i64 3, .string st, .float .f64 x, .float .f64 y] 33) = Y := ⟨_, rfl⟩
  rw [hY] at k1 r1 b1
  have kx : Kp w1 Y.drew := kp_drewR k1
  obtain ⟨X, hX⟩ : ∃ X, Y.drew = X := ⟨_, rfl⟩
  have bX := b1.kp (show Kp Y X from by rw [← hX]; exact kp_drewR (Kp.refl _))
  have tx : X.heap[bx]? = some (.cells #[.int .i64 3, .string st, .float .f64 x, .float .f64 y] 33) := by rw [← hX]; exact r1
  have kX : Kp w1 X := Kp.trans k1 (by rw [← hX]; exact kp_drewR (Kp.refl _))
  have FX := Lib.hid (fun b (hb : b < w1.heap.size) => Below.block kX b hb)
  have HSX := Lib.hid (Below.size kX)
  have TX := Lib.hid tx
  have BX := Lib.hid bX
  have HT1 := Lib.hid r1
  have HXW := Lib.hid hX
  have NBO := Lib.hid nbo
  have NBR := Lib.hid nbr
  have hsv : encStr s = .string st := by rw [← hst]
  have hb := again_num c s
  obtain ⟨n1, hn1⟩ : ∃ z, (c.again s).1 = z := ⟨_, rfl⟩
  obtain ⟨c2, hc2⟩ : ∃ z, (c.again s).2 = z := ⟨_, rfl⟩
  obtain ⟨ev, hev⟩ : ∃ d, errI ads (c.again s).1 = d := ⟨_, rfl⟩
  have HL := Lib.hid (fun w2 (h : Bo w q mb g c c v w2) => (show Calls Tryd.prog 24 #[.pointer (some ⟨q, 0, none⟩), .string st] w2 fun r w' => r = .returned ev ∧ Bo w q mb g c2 c v w' ∧ Asd (Ol q mb) (Ol q mb) w2 w' from by rw [← hsv, ← hev, ← hc2]; exact (lkAgain_any h.1 hs (E.kp h.2.2)).mono fun _ _ ⟨q1, q2, q3⟩ => ⟨q1, h.left q2 q3, q3⟩))
  have HN := Lib.hid (fun w2 (h : Bo w q mb g c2 c v w2) => (show Calls Tryd.prog 22 #[ev] w2 fun r w' => r = .returned (.int .i64 n1) ∧ Kp w2 w' from by rw [← hev, ← hn1]; exact num_errN ads w2 (V.below h.2.2) _ hb.1 hb.2))
  have HR := Lib.hid (fun w2 (h : Bo w q mb g c2 c v w2) => (show Calls Tryd.prog 29 #[.pointer (some ⟨g, 0, none⟩), .string st] w2 fun r w' => r = .returned (.int .i64 n1) ∧ ∃ v', Bo w q mb g c2 c2 v' w' ∧ Asd (Or g v) (Or g v') w2 w' from by rw [← hsv, ← hn1]; exact (rkAgain_any h.2.1 OK.out s).mono fun _ _ ⟨q1, v', q2, q3⟩ => ⟨q1, v', h.right (hc2 ▸ q2) q3, q3⟩))
  rw [hc2]
  clear hb hn1 hev hc2
  have x0 := cell_row (i := 0) r1 rfl; have x1 := cell_row (i := 1) r1 rfl; have x2 := cell_row (i := 2) r1 rfl; have x3 := cell_row (i := 3) r1 rfl
  clear kX kx b1 bX tx hX h V E r1 nbo nbr k1 hst hsv hs
  go_enter Tryd.func10, Tryd.ntmps10
  go_wp2_with fail
  refine wp_region_held_drew (S := fun w' => w'.heap[bx]? = some (.cells #[.int .i64 3, .string st, .float .f64 x, .float .f64 y] 33)) (by kernel_rfl) ?_ (fun hHeld => ?_)
  · exact kp_row (kp_drewR (Kp.refl _)) HT1.out
  rw [HXW.out] at hHeld ⊢
  refine wpAnyH_take (i := 0) (v := ?_) rfl (by kernel_rfl) (by kernel_rfl) (by kernel_rfl) (fun _ _ _ h => h) (Or.inl ⟨by rfl, ?_⟩) (by assumption) ?_
  rotate_left
  · intro w hSw; have q0 := cell_row (i := 0) hSw rfl; have q1 := cell_row (i := 1) hSw rfl; have q2 := cell_row (i := 2) hSw rfl; have q3 := cell_row (i := 3) hSw rfl; go_simp; try with_reducible rfl
  go_simp
  refine wpAnyH_take (i := 1) (v := ?_) rfl (by kernel_rfl) (by kernel_rfl) (by kernel_rfl) (fun _ _ _ h => h) (Or.inl ⟨by rfl, ?_⟩) (by assumption) ?_
  rotate_left
  · intro w hSw; have q0 := cell_row (i := 0) hSw rfl; have q1 := cell_row (i := 1) hSw rfl; have q2 := cell_row (i := 2) hSw rfl; have q3 := cell_row (i := 3) hSw rfl; go_simp; try with_reducible rfl
  go_simp
  refine wpAnyH_take (i := 2) (v := ?_) rfl (by kernel_rfl) (by kernel_rfl) (by kernel_rfl) (fun _ _ _ h => h) (Or.inl ⟨by rfl, ?_⟩) (by assumption) ?_
  rotate_left
  · intro w hSw; have q0 := cell_row (i := 0) hSw rfl; have q1 := cell_row (i := 1) hSw rfl; have q2 := cell_row (i := 2) hSw rfl; have q3 := cell_row (i := 3) hSw rfl; go_simp; try with_reducible rfl
  go_simp
  refine wpAnyH_take (i := 5) (v := ?_) rfl (by kernel_rfl) (by kernel_rfl) (by kernel_rfl) (fun _ _ _ h => h) (Or.inl ⟨by rfl, ?_⟩) (by assumption) ?_
  rotate_left
  · intro w hSw; have q0 := cell_row (i := 0) hSw rfl; have q1 := cell_row (i := 1) hSw rfl; have q2 := cell_row (i := 2) hSw rfl; have q3 := cell_row (i := 3) hSw rfl; go_simp; try with_reducible rfl
  go_simp
  refine wpAnyH_take (i := 6) (v := ?_) rfl (by kernel_rfl) (by kernel_rfl) (by kernel_rfl) (fun _ _ _ h => h) (Or.inl ⟨by rfl, ?_⟩) (by assumption) ?_
  rotate_left
  · intro w hSw; have q0 := cell_row (i := 0) hSw rfl; have q1 := cell_row (i := 1) hSw rfl; have q2 := cell_row (i := 2) hSw rfl; have q3 := cell_row (i := 3) hSw rfl; go_simp; try with_reducible rfl
  go_simp
  refine wpAnyH_take (i := 7) (v := ?_) rfl (by kernel_rfl) (by kernel_rfl) (by kernel_rfl) (fun _ _ _ h => h) (Or.inl ⟨by rfl, ?_⟩) (by assumption) ?_
  rotate_left
  · intro w hSw; have q0 := cell_row (i := 0) hSw rfl; have q1 := cell_row (i := 1) hSw rfl; have q2 := cell_row (i := 2) hSw rfl; have q3 := cell_row (i := 3) hSw rfl; go_simp; try with_reducible rfl
  go_simp
  refine wpAnyH_ready (rs := [3]) (by kernel_rfl) (by simp) ?_
  refine AllReadyH.cons rfl (fun K hK => ?_) AllReadyH.nil
  go_simp
  go_wp2_with (go_at_call 24; (with_reducible refine (HL.out _ BX.out).mono ?_); rintro e' w4 ⟨rfl, hb4, ha4⟩; have B4 := Lib.hid hb4; have T4 := Lib.hid (ha4.row TX.out NBO.out); have F4 := Lib.hid (fun b hb ho => (ha4.block b (Nat.lt_of_lt_of_le hb HSX.out) ho).trans (FX.out b hb)); have S4 := Lib.hid (Nat.le_trans HSX.out ha4.size); clear hb4 ha4)
  refine hK.out _ _ ?_ (fun hHeld => ?_)
  · exact T4.out
  clear hK K
  refine wpAnyH_ready (rs := [4]) (by kernel_rfl) (by simp) ?_
  refine AllReadyH.cons rfl (fun K hK => ?_) AllReadyH.nil
  go_simp
  go_wp2_with (go_at_call 22; (with_reducible refine (HN.out _ B4.out).mono ?_); rintro e' w5 ⟨rfl, hk⟩; have B5 := Lib.hid (B4.out.kp hk); have T5 := Lib.hid (kp_row hk T4.out); have F5 := Lib.hid (fun b hb ho => (Below.block hk b (Nat.lt_of_lt_of_le hb S4.out)).trans (F4.out b hb ho)); have S5 := Lib.hid (Nat.le_trans S4.out (Below.size hk)); clear hk)
  refine hK.out _ _ ?_ (fun hHeld => ?_)
  · exact T5.out
  clear hK K
  refine wpAnyH_ready (rs := [8]) (by kernel_rfl) (by simp) ?_
  refine AllReadyH.cons rfl (fun K hK => ?_) AllReadyH.nil
  go_simp
  go_wp2_with (go_at_call 29; (with_reducible refine (HR.out _ B5.out).mono ?_); rintro e' w6 ⟨rfl, v6, hb6, ha6⟩; have B6 := Lib.hid hb6; have T6 := Lib.hid (ha6.row T5.out NBR.out); have F6 := Lib.hid (show FrT q mb g v w1 w6 from fun b hb ho hr => (ha6.block b (Nat.lt_of_lt_of_le hb S5.out) hr).trans (F5.out b hb ho)); clear hb6 ha6)
  refine hK.out _ _ ?_ (fun hHeld => ?_)
  · exact T6.out
  clear hK K
  refine wpAnyH_take (i := 9) (v := ?_) rfl (by kernel_rfl) (by kernel_rfl) (by kernel_rfl) (fun _ _ _ h => h) (Or.inl ⟨by rfl, ?_⟩) (by assumption) ?_
  rotate_left
  · intro w hSw; go_simp; try with_reducible rfl
  go_simp
  refine wpAnyH_take (i := 10) (v := ?_) rfl (by kernel_rfl) (by kernel_rfl) (by kernel_rfl) (fun _ _ _ h => h) (Or.inl ⟨by rfl, ?_⟩) (by assumption) ?_
  rotate_left
  · intro w hSw; go_simp; try with_reducible rfl
  go_simp
  refine wpAnyH_done (by kernel_rfl) ?_ _
  go_wp2
  go_ret
  exact ⟨by first | rfl | simp, F6.out, _, B6.out⟩
set_option maxRecDepth 100000 in
set_option maxHeartbeats 4000000 in
theorem step13_4 (_V : St ads w) (_E : EP [0, 3, 5, 7] ads w) (h : Bo w q mb g c c v w1) (s : List UInt8) (hs : s.length ≤ maxLen) (st : ByteArray) (hst : (⟨s.toArray⟩ : ByteArray) = st) (x y : Nat) (_hx : x < 18446744073709551616) (_hy : y < 18446744073709551616) : Calls Tryd.prog 10 #[.pointer (some ⟨q, 0, none⟩), .pointer (some ⟨g, 0, none⟩), .agg #[.int .i64 4, .string st, .float .f64 x, .float .f64 y]] w1 fun r w' => r = .returned (.bool true) ∧ FrT q mb g v w1 w' ∧ ∃ v', Bo w q mb g (c.drop s) (c.drop s) v' w' := by
  have k1 := kp_alloc w1 (.cells #[.int .i64 4, .string st, .float .f64 x, .float .f64 y] 33)
  have r1 := (MapKept.heap_alloc w1 (.cells #[.int .i64 4, .string st, .float .f64 x, .float .f64 y] 33)).1
  have b1 := h.kp k1
  obtain ⟨nbo, nbr⟩ := h.new
  have OK := Lib.hid h.1.ok
  obtain ⟨bx, hbx⟩ : ∃ b, w1.heap.size = b := ⟨_, rfl⟩
  rw [hbx] at r1 nbo nbr
  obtain ⟨Y, hY⟩ : ∃ Y, w1.alloc (.cells #[.int .i64 4, .string st, .float .f64 x, .float .f64 y] 33) = Y := ⟨_, rfl⟩
  rw [hY] at k1 r1 b1
  have kx : Kp w1 Y.drew := kp_drewR k1
  obtain ⟨X, hX⟩ : ∃ X, Y.drew = X := ⟨_, rfl⟩
  have bX := b1.kp (show Kp Y X from by rw [← hX]; exact kp_drewR (Kp.refl _))
  have tx : X.heap[bx]? = some (.cells #[.int .i64 4, .string st, .float .f64 x, .float .f64 y] 33) := by rw [← hX]; exact r1
  have kX : Kp w1 X := Kp.trans k1 (by rw [← hX]; exact kp_drewR (Kp.refl _))
  have FX := Lib.hid (fun b (hb : b < w1.heap.size) => Below.block kX b hb)
  have HSX := Lib.hid (Below.size kX)
  have TX := Lib.hid tx
  have BX := Lib.hid bX
  have HT1 := Lib.hid r1
  have HXW := Lib.hid hX
  have NBO := Lib.hid nbo
  have NBR := Lib.hid nbr
  have hsv : encStr s = .string st := by rw [← hst]
  obtain ⟨bb, hbb⟩ : ∃ b, c.has s = b := ⟨_, rfl⟩
  obtain ⟨c2, hc2⟩ : ∃ z, c.drop s = z := ⟨_, rfl⟩
  have HL := Lib.hid (fun w2 (h : Bo w q mb g c c v w2) => (show Calls Tryd.prog 23 #[.pointer (some ⟨q, 0, none⟩), .string st] w2 fun r w' => r = .returned (.bool bb) ∧ Bo w q mb g c2 c v w' ∧ Asd (Ol q mb) (Ol q mb) w2 w' from by rw [← hsv, ← hbb, ← hc2]; exact (lkDrop h.1 hs).mono fun _ _ ⟨q1, q2, q3⟩ => ⟨q1, h.left q2 q3, q3⟩))
  have HR := Lib.hid (fun w2 (h : Bo w q mb g c2 c v w2) => (show Calls Tryd.prog 30 #[.pointer (some ⟨g, 0, none⟩), .string st] w2 fun r w' => r = .returned (.bool bb) ∧ ∃ v', Bo w q mb g c2 c2 v' w' ∧ Asd (Or g v) (Or g v') w2 w' from by rw [← hsv, ← hbb]; exact (rkDrop_any h.2.1 OK.out s).mono fun _ _ ⟨q1, v', q2, q3⟩ => ⟨q1, v', h.right (hc2 ▸ q2) q3, q3⟩))
  rw [hc2]
  clear hbb hc2
  have x0 := cell_row (i := 0) r1 rfl; have x1 := cell_row (i := 1) r1 rfl; have x2 := cell_row (i := 2) r1 rfl; have x3 := cell_row (i := 3) r1 rfl
  clear kX kx b1 bX tx hX h r1 nbo nbr k1 hst hsv hs
  go_enter Tryd.func10, Tryd.ntmps10
  go_wp2_with fail
  refine wp_region_held_drew (S := fun w' => w'.heap[bx]? = some (.cells #[.int .i64 4, .string st, .float .f64 x, .float .f64 y] 33)) (by kernel_rfl) ?_ (fun hHeld => ?_)
  · exact kp_row (kp_drewR (Kp.refl _)) HT1.out
  rw [HXW.out] at hHeld ⊢
  refine wpAnyH_take (i := 0) (v := ?_) rfl (by kernel_rfl) (by kernel_rfl) (by kernel_rfl) (fun _ _ _ h => h) (Or.inl ⟨by rfl, ?_⟩) (by assumption) ?_
  rotate_left
  · intro w hSw; have q0 := cell_row (i := 0) hSw rfl; have q1 := cell_row (i := 1) hSw rfl; have q2 := cell_row (i := 2) hSw rfl; have q3 := cell_row (i := 3) hSw rfl; go_simp; try with_reducible rfl
  go_simp
  refine wpAnyH_take (i := 1) (v := ?_) rfl (by kernel_rfl) (by kernel_rfl) (by kernel_rfl) (fun _ _ _ h => h) (Or.inl ⟨by rfl, ?_⟩) (by assumption) ?_
  rotate_left
  · intro w hSw; have q0 := cell_row (i := 0) hSw rfl; have q1 := cell_row (i := 1) hSw rfl; have q2 := cell_row (i := 2) hSw rfl; have q3 := cell_row (i := 3) hSw rfl; go_simp; try with_reducible rfl
  go_simp
  refine wpAnyH_take (i := 2) (v := ?_) rfl (by kernel_rfl) (by kernel_rfl) (by kernel_rfl) (fun _ _ _ h => h) (Or.inl ⟨by rfl, ?_⟩) (by assumption) ?_
  rotate_left
  · intro w hSw; have q0 := cell_row (i := 0) hSw rfl; have q1 := cell_row (i := 1) hSw rfl; have q2 := cell_row (i := 2) hSw rfl; have q3 := cell_row (i := 3) hSw rfl; go_simp; try with_reducible rfl
  go_simp
  refine wpAnyH_take (i := 4) (v := ?_) rfl (by kernel_rfl) (by kernel_rfl) (by kernel_rfl) (fun _ _ _ h => h) (Or.inl ⟨by rfl, ?_⟩) (by assumption) ?_
  rotate_left
  · intro w hSw; have q0 := cell_row (i := 0) hSw rfl; have q1 := cell_row (i := 1) hSw rfl; have q2 := cell_row (i := 2) hSw rfl; have q3 := cell_row (i := 3) hSw rfl; go_simp; try with_reducible rfl
  go_simp
  refine wpAnyH_take (i := 5) (v := ?_) rfl (by kernel_rfl) (by kernel_rfl) (by kernel_rfl) (fun _ _ _ h => h) (Or.inl ⟨by rfl, ?_⟩) (by assumption) ?_
  rotate_left
  · intro w hSw; have q0 := cell_row (i := 0) hSw rfl; have q1 := cell_row (i := 1) hSw rfl; have q2 := cell_row (i := 2) hSw rfl; have q3 := cell_row (i := 3) hSw rfl; go_simp; try with_reducible rfl
  go_simp
  refine wpAnyH_take (i := 6) (v := ?_) rfl (by kernel_rfl) (by kernel_rfl) (by kernel_rfl) (fun _ _ _ h => h) (Or.inl ⟨by rfl, ?_⟩) (by assumption) ?_
  rotate_left
  · intro w hSw; have q0 := cell_row (i := 0) hSw rfl; have q1 := cell_row (i := 1) hSw rfl; have q2 := cell_row (i := 2) hSw rfl; have q3 := cell_row (i := 3) hSw rfl; go_simp; try with_reducible rfl
  go_simp
  refine wpAnyH_ready (rs := [3]) (by kernel_rfl) (by simp) ?_
  refine AllReadyH.cons rfl (fun K hK => ?_) AllReadyH.nil
  go_simp
  go_wp2_with (go_at_call 23; (with_reducible refine (HL.out _ BX.out).mono ?_); rintro e' w4 ⟨rfl, hb4, ha4⟩; have B4 := Lib.hid hb4; have T4 := Lib.hid (ha4.row TX.out NBO.out); have F4 := Lib.hid (fun b hb ho => (ha4.block b (Nat.lt_of_lt_of_le hb HSX.out) ho).trans (FX.out b hb)); have S4 := Lib.hid (Nat.le_trans HSX.out ha4.size); clear hb4 ha4)
  refine hK.out _ _ ?_ (fun hHeld => ?_)
  · exact T4.out
  clear hK K
  refine wpAnyH_ready (rs := [7]) (by kernel_rfl) (by simp) ?_
  refine AllReadyH.cons rfl (fun K hK => ?_) AllReadyH.nil
  go_simp
  go_wp2_with (go_at_call 30; (with_reducible refine (HR.out _ B4.out).mono ?_); rintro e' w6 ⟨rfl, v6, hb6, ha6⟩; have B6 := Lib.hid hb6; have T6 := Lib.hid (ha6.row T4.out NBR.out); have F6 := Lib.hid (show FrT q mb g v w1 w6 from fun b hb ho hr => (ha6.block b (Nat.lt_of_lt_of_le hb S4.out) hr).trans (F4.out b hb ho)); clear hb6 ha6)
  refine hK.out _ _ ?_ (fun hHeld => ?_)
  · exact T6.out
  clear hK K
  refine wpAnyH_take (i := 8) (v := ?_) rfl (by kernel_rfl) (by kernel_rfl) (by kernel_rfl) (fun _ _ _ h => h) (Or.inl ⟨by rfl, ?_⟩) (by assumption) ?_
  rotate_left
  · intro w hSw; go_simp; try with_reducible rfl
  go_simp
  refine wpAnyH_take (i := 9) (v := ?_) rfl (by kernel_rfl) (by kernel_rfl) (by kernel_rfl) (fun _ _ _ h => h) (Or.inl ⟨by rfl, ?_⟩) (by assumption) ?_
  rotate_left
  · intro w hSw; go_simp; try with_reducible rfl
  go_simp
  refine wpAnyH_done (by kernel_rfl) ?_ _
  go_wp2
  go_ret
  exact ⟨by first | rfl | simp, F6.out, _, B6.out⟩
set_option maxRecDepth 100000 in
theorem step13_no (h : Bo w q mb g c c v w1) (st : ByteArray) (x y : Nat) (k : Int) (h1 : (k == 1) = false) (h2 : (k == 2) = false) (h3 : (k == 3) = false) (h4 : (k == 4) = false) : Calls Tryd.prog 10 #[.pointer (some ⟨q, 0, none⟩), .pointer (some ⟨g, 0, none⟩), .agg #[.int .i64 k, .string st, .float .f64 x, .float .f64 y]] w1 fun r w' => r = .returned (.bool true) ∧ FrT q mb g v w1 w' ∧ ∃ v', Bo w q mb g c c v' w' := by
  have k1 := kp_alloc w1 (.cells #[.int .i64 k, .string st, .float .f64 x, .float .f64 y] 33)
  have r1 := (MapKept.heap_alloc w1 (.cells #[.int .i64 k, .string st, .float .f64 x, .float .f64 y] 33)).1
  have b1 := h.kp k1
  obtain ⟨nbo, nbr⟩ := h.new
  have OK := Lib.hid h.1.ok
  obtain ⟨bx, hbx⟩ : ∃ b, w1.heap.size = b := ⟨_, rfl⟩
  rw [hbx] at r1 nbo nbr
  obtain ⟨Y, hY⟩ : ∃ Y, w1.alloc (.cells #[.int .i64 k, .string st, .float .f64 x, .float .f64 y] 33) = Y := ⟨_, rfl⟩
  rw [hY] at k1 r1 b1
  have B1 := Lib.hid b1
  have F1 := Lib.hid (show FrT q mb g v w1 Y from fun b hb _ _ => Below.block k1 b hb)
  have x0 := cell_row (i := 0) r1 rfl; have x1 := cell_row (i := 1) r1 rfl; have x2 := cell_row (i := 2) r1 rfl; have x3 := cell_row (i := 3) r1 rfl
  clear h r1 b1 nbo nbr k1
  go_enter Tryd.func10, Tryd.ntmps10
  go_wp2
  go_ret
  exact ⟨rfl, F1.out, _, B1.out⟩
def stM (c : CkM) (o : OpT) : CkM := if o.k = 1 then (c.tick o.x).2 else if o.k = 2 then (c.set o.s o.x o.y).2 else if o.k = 3 then (c.again o.s).2 else if o.k = 4 then c.drop o.s else c
theorem step13_any (V : St ads w) (E : EP [0, 3, 5, 7] ads w) (h : Bo w q mb g c c v w1) (o : OpT) (hs : o.s.length ≤ maxLen) (hx : o.x < 18446744073709551616) (hy : o.y < 18446744073709551616) : Calls Tryd.prog 10 #[.pointer (some ⟨q, 0, none⟩), .pointer (some ⟨g, 0, none⟩), .agg #[.int .i64 o.k, encStr o.s, .float .f64 o.x, .float .f64 o.y]] w1 fun r w' => r = .returned (.bool true) ∧ FrT q mb g v w1 w' ∧ ∃ v', Bo w q mb g (stM c o) (stM c o) v' w' := by
  obtain ⟨k, s, x, y⟩ := o
  unfold stM
  dsimp only
  by_cases e1 : k = 1
  · subst e1
    exact step13_1 V E h s hs _ rfl x y hx hy
  rw [if_neg e1]
  by_cases e2 : k = 2
  · subst e2
    exact step13_2 V E h s hs _ rfl x y hx hy
  rw [if_neg e2]
  by_cases e3 : k = 3
  · subst e3
    exact step13_3 V E h s hs _ rfl x y hx hy
  rw [if_neg e3]
  by_cases e4 : k = 4
  · subst e4
    exact step13_4 V E h s hs _ rfl x y hx hy
  rw [if_neg e4]
  exact step13_no h _ x y k (by simpa using e1) (by simpa using e2) (by simpa using e3) (by simpa using e4)
end Go.Proofs.YtanbeaebdingeaaDoor
