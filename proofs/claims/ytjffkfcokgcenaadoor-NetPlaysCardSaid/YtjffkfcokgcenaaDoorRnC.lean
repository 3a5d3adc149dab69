/-
  THE DOCUMENT's NET (own work): Put.
-/
import Derived.Test.YtjffkfcokgcenaaDoorRnB
namespace Go.Proofs.YtjffkfcokgcenaaDoor
open Go.RowKit Go.ChangeShapes Go.WideShapes
variable {w0 w w' W w3 : World} {q : Nat} {m : NetM} {v v' vc : Value} {rb : List Nat}

set_option maxRecDepth 100000 in
theorem rnPut_range (H : Rn w0 q m v vc rb w) (a b : Int) (d : List Int) (s : ByteArray) (hs : strOfNums d = s) (h : (m.has a && m.has b) = false) : Calls Tryd.prog 25 #[.pointer (some ⟨q, 0, none⟩), .agg #[.int .i64 a, .int .i64 b, .string s]] w fun r w' => r = .returned (.tuple #[.bool false, .int .i64 1]) ∧ Kp w w' := by
  have hsz : s.size = d.length := by rw [← hs]; exact strOfNums_size d
  have k1 := kp_alloc w (.cells #[.int .i64 a, .int .i64 b, .string s] 47)
  have r1 := (MapKept.heap_alloc w (.cells #[.int .i64 a, .int .i64 b, .string s] 47)).1
  obtain ⟨W, hW⟩ : ∃ W, w.alloc (.cells #[.int .i64 a, .int .i64 b, .string s] 47) = W := ⟨_, rfl⟩
  have HW := Lib.hid hW
  have x0 := cell_row (i := 0) r1 rfl
  have x1 := cell_row (i := 1) r1 rfl
  have x2 := cell_row (i := 2) r1 rfl
  have x3 := x0
  have x4 := x1
  have x5 := x2
  rw [hW] at k1 x3 x4 x5
  have K1 := Lib.hid k1
  have R1 := Lib.hid (H.kp k1)
  have HA := Lib.hid (fun w1 (H1 : Rn w0 q m v vc rb w1) => rnHas_any H1 a)
  have HB := Lib.hid (fun w1 (H1 : Rn w0 q m v vc rb w1) => rnHas_any H1 b)
  cases h1 : m.has a with
  | false =>
    rw [h1] at HA
    clear H h hs hsz hW k1 r1 h1
    go_enter Tryd.func25, Tryd.ntmps25
    go_wp2_with (go_at_call 41; (try rw [HW.out]); (with_reducible refine (HA.out _ R1.out).mono ?_); rintro e' w3 ⟨rfl, rfl⟩)
    go_ret2
    exact ⟨rfl, K1.out⟩
  | true =>
    rw [h1, Bool.true_and] at h
    rw [h1] at HA
    rw [h] at HB
    clear H h hs hsz hW k1 r1 h1
    go_enter Tryd.func25, Tryd.ntmps25
    go_wp2_with (first | (go_at_call 41; (try rw [HW.out]); (with_reducible refine (HB.out _ R1.out).mono ?_); rintro e' w4 ⟨rfl, rfl⟩) | (go_at_call 41; (try rw [HW.out]); (with_reducible refine (HA.out _ R1.out).mono ?_); rintro e' w3 ⟨rfl, rfl⟩))
    go_ret2
    exact ⟨rfl, K1.out⟩
set_option maxRecDepth 100000 in
theorem rnPut_long (H : Rn w0 q m v vc rb w) (a b : Int) (d : List Int) (s : ByteArray) (hs : strOfNums d = s) (h1 : m.has a = true) (h2 : m.has b = true) (hl : 1000 < d.length) : Calls Tryd.prog 25 #[.pointer (some ⟨q, 0, none⟩), .agg #[.int .i64 a, .int .i64 b, .string s]] w fun r w' => r = .returned (.tuple #[.bool false, .int .i64 3]) ∧ Kp w w' := by
  have hsz : s.size = d.length := by rw [← hs]; exact strOfNums_size d
  have k1 := kp_alloc w (.cells #[.int .i64 a, .int .i64 b, .string s] 47)
  have r1 := (MapKept.heap_alloc w (.cells #[.int .i64 a, .int .i64 b, .string s] 47)).1
  obtain ⟨W, hW⟩ : ∃ W, w.alloc (.cells #[.int .i64 a, .int .i64 b, .string s] 47) = W := ⟨_, rfl⟩
  have HW := Lib.hid hW
  have x0 := cell_row (i := 0) r1 rfl
  have x1 := cell_row (i := 1) r1 rfl
  have x2 := cell_row (i := 2) r1 rfl
  have x3 := x0
  have x4 := x1
  have x5 := x2
  rw [hW] at k1 x3 x4 x5
  have K1 := Lib.hid k1
  have R1 := Lib.hid (H.kp k1)
  have HA := Lib.hid (fun w1 (H1 : Rn w0 q m v vc rb w1) => rnHas_any H1 a)
  have HB := Lib.hid (fun w1 (H1 : Rn w0 q m v vc rb w1) => rnHas_any H1 b)
  rw [h1] at HA
  rw [h2] at HB
  rw [← hsz] at hl
  obtain ⟨n, hn⟩ : ∃ n : Int, (s.size : Int) = n := ⟨_, rfl⟩
  have g1 : decide (n > 1000) = true := decide_eq_true (by omega)
  clear H hs hsz hW k1 r1 h1 h2 hl
  go_enter Tryd.func25, Tryd.ntmps25
  go_wp2_with (first | (go_at_call 41; (try rw [HW.out]); (with_reducible refine (HB.out _ R1.out).mono ?_); rintro e' w4 ⟨rfl, rfl⟩) | (go_at_call 41; (try rw [HW.out]); (with_reducible refine (HA.out _ R1.out).mono ?_); rintro e' w3 ⟨rfl, rfl⟩))
  go_ret2
  exact ⟨rfl, K1.out⟩
set_option maxRecDepth 100000 in
set_option maxHeartbeats 1000000 in
theorem rnPut_lost (H : Rn w0 q m v vc rb w) (a b : Int) (d : List Int) (s : ByteArray) (hs : strOfNums d = s) (hm : Nok m) (h1 : m.has a = true) (h2 : m.has b = true) (hl : ¬ 1000 < d.length) (hc : m.isCut a b = true) : Calls Tryd.prog 25 #[.pointer (some ⟨q, 0, none⟩), .agg #[.int .i64 a, .int .i64 b, .string s]] w fun r w' => r = .returned (.tuple #[.bool false, .int .i64 0]) ∧ Rn w0 q ⟨m.n, m.f, m.cut, wrap64 (m.lost + 1)⟩ v vc rb w' ∧ Asd (On q v vc rb) (On q v vc rb) w w' := by
  have hsz : s.size = d.length := by rw [← hs]; exact strOfNums_size d
  have k1 := kp_alloc w (.cells #[.int .i64 a, .int .i64 b, .string s] 47)
  have r1 := (MapKept.heap_alloc w (.cells #[.int .i64 a, .int .i64 b, .string s] 47)).1
  obtain ⟨W, hW⟩ : ∃ W, w.alloc (.cells #[.int .i64 a, .int .i64 b, .string s] 47) = W := ⟨_, rfl⟩
  have HW := Lib.hid hW
  have x0 := cell_row (i := 0) r1 rfl
  have x1 := cell_row (i := 1) r1 rfl
  have x2 := cell_row (i := 2) r1 rfl
  have x3 := x0
  have x4 := x1
  have x5 := x2
  rw [hW] at k1 x3 x4 x5
  have K1 := Lib.hid k1
  have R1 := Lib.hid (H.kp k1)
  have HA := Lib.hid (fun w1 (H1 : Rn w0 q m v vc rb w1) => rnHas_any H1 a)
  have HB := Lib.hid (fun w1 (H1 : Rn w0 q m v vc rb w1) => rnHas_any H1 b)
  rw [h1] at HA
  rw [h2] at HB
  rw [← hsz] at hl
  obtain ⟨n, hn⟩ : ∃ n : Int, (s.size : Int) = n := ⟨_, rfl⟩
  have g1 : decide (n > 1000) = false := decide_eq_false (by omega)
  obtain ⟨bc, cc, rr, rfl, c1, c2, -⟩ := (R1.out).way hm h1 h2
  rw [hc] at c2
  have C1 := Lib.hid c1
  have C2 := Lib.hid c2
  have rw1 := r1
  rw [hW] at rw1
  have RW := Lib.hid rw1
  have NW := R1
  unfold NetM.has at h1 h2
  simp only [Bool.and_eq_true, decide_eq_true_eq] at h1 h2
  have a0 := h1.1
  have a1 := h1.2
  have b0 := h2.1
  have b1 := h2.2
  obtain ⟨mn, hmn⟩ : ∃ n, m.n = n := ⟨_, rfl⟩
  clear H hs hsz hW k1 r1 h1 h2 hl c1 c2 rw1 hm hc hmn
  go_enter Tryd.func25, Tryd.ntmps25
  go_wp2_with (first | (go_at_call 41; (try rw [HW.out]); (with_reducible refine (HB.out _ R1.out).mono ?_); rintro e' w4 ⟨rfl, rfl⟩) | (go_at_call 41; (try rw [HW.out]); (with_reducible refine (HA.out _ R1.out).mono ?_); rintro e' w3 ⟨rfl, rfl⟩))
  refine wp_region_held_drew (S := fun w' => Kp W w') (by kernel_rfl) ?_ (fun hHeld => ?_)
  · exact kp_drewR (Kp.refl _)
  refine wpAnyH_take (i := 0) (v := ?_) rfl (by kernel_rfl) (by kernel_rfl) (by kernel_rfl) (fun _ _ _ h => h) (Or.inl ⟨by rfl, ?_⟩) (by assumption) ?_
  rotate_left
  · intro w hSw; go_simp; try with_reducible rfl
  go_simp
  refine wpAnyH_take (i := 1) (v := ?_) rfl (by kernel_rfl) (by kernel_rfl) (by kernel_rfl) (fun _ _ _ h => h) (Or.inl ⟨by rfl, ?_⟩) (by assumption) ?_
  rotate_left
  · intro w hSw; go_simp; try with_reducible rfl
  go_simp
  refine wpAnyH_take (i := 2) (v := ?_) rfl (by kernel_rfl) (by kernel_rfl) (by kernel_rfl) (fun _ _ _ h => h) (Or.inl ⟨by rfl, ?_⟩) (by assumption) ?_
  rotate_left
  · intro w hSw; go_simp; try with_reducible rfl
  go_simp
  refine wpAnyH_take (i := 3) (v := ?_) rfl (by kernel_rfl) (by kernel_rfl) (by kernel_rfl) (fun _ _ _ h => h) (Or.inl ⟨by rfl, ?_⟩) (by assumption) ?_
  rotate_left
  · intro w hSw; have q2 := cell_row (i := 2) (kp_row hSw NW.out.row) rfl; go_simp; try with_reducible rfl
  go_simp
  refine wpAnyH_take (i := 4) (v := ?_) rfl (by kernel_rfl) (by kernel_rfl) (by kernel_rfl) (fun _ _ _ h => h) (Or.inl ⟨by rfl, ?_⟩) (by assumption) ?_
  rotate_left
  · intro w hSw; go_simp; try with_reducible rfl
  go_simp
  refine wpAnyH_take (i := 5) (v := ?_) rfl (by kernel_rfl) (by kernel_rfl) (by kernel_rfl) (fun _ _ _ h => h) (Or.inl ⟨by rfl, ?_⟩) (by assumption) ?_
  rotate_left
  · intro w hSw; have q0 := cell_row (i := 0) (kp_row hSw RW.out) rfl; have q1 := cell_row (i := 1) (kp_row hSw RW.out) rfl; go_simp; try with_reducible rfl
  go_simp
  refine wpAnyH_take (i := 6) (v := ?_) rfl (by kernel_rfl) (by kernel_rfl) (by kernel_rfl) (fun _ _ _ h => h) (Or.inl ⟨by rfl, ?_⟩) (by assumption) ?_
  rotate_left
  · intro w hSw; go_simp; try with_reducible rfl
  go_simp
  refine wpAnyH_take (i := 7) (v := ?_) rfl (by kernel_rfl) (by kernel_rfl) (by kernel_rfl) (fun _ _ _ h => h) (Or.inl ⟨by rfl, ?_⟩) (by assumption) ?_
  rotate_left
  · intro w hSw; have q3 := kp_cell hSw C1.out; go_simp; try with_reducible rfl
  go_simp
  refine wpAnyH_take (i := 8) (v := ?_) rfl (by kernel_rfl) (by kernel_rfl) (by kernel_rfl) (fun _ _ _ h => h) (Or.inl ⟨by rfl, ?_⟩) (by assumption) ?_
  rotate_left
  · intro w hSw; go_simp; try with_reducible rfl
  go_simp
  refine wpAnyH_take (i := 9) (v := ?_) rfl (by kernel_rfl) (by kernel_rfl) (by kernel_rfl) (fun _ _ _ h => h) (Or.inl ⟨by rfl, ?_⟩) (by assumption) ?_
  rotate_left
  · intro w hSw; have q0 := cell_row (i := 0) (kp_row hSw RW.out) rfl; have q1 := cell_row (i := 1) (kp_row hSw RW.out) rfl; go_simp; try with_reducible rfl
  go_simp
  refine wpAnyH_take (i := 10) (v := ?_) rfl (by kernel_rfl) (by kernel_rfl) (by kernel_rfl) (fun _ _ _ h => h) (Or.inl ⟨by rfl, ?_⟩) (by assumption) ?_
  rotate_left
  · intro w hSw; go_simp; try with_reducible rfl
  go_simp
  refine wpAnyH_take (i := 11) (v := ?_) rfl (by kernel_rfl) (by kernel_rfl) (by kernel_rfl) (fun _ _ _ h => h) (Or.inl ⟨by rfl, ?_⟩) (by assumption) ?_
  rotate_left
  · intro w hSw; have q4 := kp_cell hSw C2.out; go_simp; try with_reducible rfl
  go_simp
  refine wpAnyH_done (by kernel_rfl) ?_ _
  obtain ⟨X, hX⟩ : ∃ X, W.drew = X := ⟨_, rfl⟩
  have NX := Lib.hid (R1.out.kp (show Kp W X by rw [← hX]; exact kp_drewR (Kp.refl _)))
  have AX := Lib.hid (show Asd (On q v (.slice (some ⟨bc, 0, none⟩) m.n cc) rb) (On q v (.slice (some ⟨bc, 0, none⟩) m.n cc) rb) w X from Asd.of_kp _ (Kp.trans K1.out (by rw [← hX]; exact kp_drewR (Kp.refl _))))
  try rw [hX]
  have y3 := cell_row (i := 3) NX.out.row rfl
  have fz := frozR NX.out.row
  go_wp2
  go_ret2
  refine ⟨rfl, ⟨(Joins.block_setCell NX.out.row _).trans rfl, NX.out.bq, own_stayG NX.out.own (fun b e => Below.heap_setCell _ _ _ _ (fun e2 => NX.out.ne.1 (by rw [← show b = q from e2]; exact e))), own_stayG NX.out.cuts (fun b e => Below.heap_setCell _ _ _ _ (fun e2 => NX.out.ne.2.1 (by rw [← show b = q from e2]; exact e))), fun i hi => ⟨(NX.out.rows i hi).1, by rw [Below.heap_setCell _ _ _ _ (fun e2 => NX.out.ne.2.2.1 (by rw [← show rb[i] = q from e2]; exact List.getElem_mem hi))]; exact (NX.out.rows i hi).2⟩, NX.out.nd⟩, AX.out.trans (asd_setN (.inl rfl) _)⟩
set_option maxRecDepth 100000 in
set_option maxHeartbeats 1000000 in
theorem rnPut_full (H : Rn w0 q m v vc rb w) (a b : Int) (d : List Int) (s : ByteArray) (hs : strOfNums d = s) (hm : Nok m) (h1 : m.has a = true) (h2 : m.has b = true) (hl : ¬ 1000 < d.length) (hc : m.isCut a b = false) (hf : 63 < m.f.length) : Calls Tryd.prog 25 #[.pointer (some ⟨q, 0, none⟩), .agg #[.int .i64 a, .int .i64 b, .string s]] w fun r w' => r = .returned (.tuple #[.bool false, .int .i64 6]) ∧ Kp w w' := by
  have hsz : s.size = d.length := by rw [← hs]; exact strOfNums_size d
  have k1 := kp_alloc w (.cells #[.int .i64 a, .int .i64 b, .string s] 47)
  have r1 := (MapKept.heap_alloc w (.cells #[.int .i64 a, .int .i64 b, .string s] 47)).1
  obtain ⟨W, hW⟩ : ∃ W, w.alloc (.cells #[.int .i64 a, .int .i64 b, .string s] 47) = W := ⟨_, rfl⟩
  have HW := Lib.hid hW
  have x0 := cell_row (i := 0) r1 rfl
  have x1 := cell_row (i := 1) r1 rfl
  have x2 := cell_row (i := 2) r1 rfl
  have x3 := x0
  have x4 := x1
  have x5 := x2
  rw [hW] at k1 x3 x4 x5
  have K1 := Lib.hid k1
  have R1 := Lib.hid (H.kp k1)
  have HA := Lib.hid (fun w1 (H1 : Rn w0 q m v vc rb w1) => rnHas_any H1 a)
  have HB := Lib.hid (fun w1 (H1 : Rn w0 q m v vc rb w1) => rnHas_any H1 b)
  rw [h1] at HA
  rw [h2] at HB
  rw [← hsz] at hl
  obtain ⟨n, hn⟩ : ∃ n : Int, (s.size : Int) = n := ⟨_, rfl⟩
  have g1 : decide (n > 1000) = false := decide_eq_false (by omega)
  obtain ⟨av, cv, rfl⟩ := H.form
  obtain ⟨bc, cc, rr, rfl, c1, c2, -⟩ := (R1.out).way hm h1 h2
  rw [hc] at c2
  have C1 := Lib.hid c1
  have C2 := Lib.hid c2
  have rw1 := r1
  rw [hW] at rw1
  have RW := Lib.hid rw1
  have NW := R1
  unfold NetM.has at h1 h2
  simp only [Bool.and_eq_true, decide_eq_true_eq] at h1 h2
  have a0 := h1.1
  have a1 := h1.2
  have b0 := h2.1
  have b1 := h2.2
  obtain ⟨mn, hmn⟩ : ∃ n, m.n = n := ⟨_, rfl⟩
  obtain ⟨nf, hnf⟩ : ∃ n : Int, (m.f.length : Int) = n := ⟨_, rfl⟩
  have g2 : decide (nf > 63) = true := decide_eq_true (by omega)
  have FW := Lib.hid hnf
  clear H hs hsz hW k1 r1 h1 h2 hl c1 c2 rw1 hm hc hmn hf
  go_enter Tryd.func25, Tryd.ntmps25
  go_wp2_with (first | (go_at_call 41; (try rw [HW.out]); (with_reducible refine (HB.out _ R1.out).mono ?_); rintro e' w4 ⟨rfl, rfl⟩) | (go_at_call 41; (try rw [HW.out]); (with_reducible refine (HA.out _ R1.out).mono ?_); rintro e' w3 ⟨rfl, rfl⟩))
  refine wp_region_held_drew (S := fun w' => Kp W w') (by kernel_rfl) ?_ (fun hHeld => ?_)
  · exact kp_drewR (Kp.refl _)
  refine wpAnyH_take (i := 0) (v := ?_) rfl (by kernel_rfl) (by kernel_rfl) (by kernel_rfl) (fun _ _ _ h => h) (Or.inl ⟨by rfl, ?_⟩) (by assumption) ?_
  rotate_left
  · intro w hSw; go_simp; try with_reducible rfl
  go_simp
  refine wpAnyH_take (i := 1) (v := ?_) rfl (by kernel_rfl) (by kernel_rfl) (by kernel_rfl) (fun _ _ _ h => h) (Or.inl ⟨by rfl, ?_⟩) (by assumption) ?_
  rotate_left
  · intro w hSw; go_simp; try with_reducible rfl
  go_simp
  refine wpAnyH_take (i := 2) (v := ?_) rfl (by kernel_rfl) (by kernel_rfl) (by kernel_rfl) (fun _ _ _ h => h) (Or.inl ⟨by rfl, ?_⟩) (by assumption) ?_
  rotate_left
  · intro w hSw; go_simp; try with_reducible rfl
  go_simp
  refine wpAnyH_take (i := 3) (v := ?_) rfl (by kernel_rfl) (by kernel_rfl) (by kernel_rfl) (fun _ _ _ h => h) (Or.inl ⟨by rfl, ?_⟩) (by assumption) ?_
  rotate_left
  · intro w hSw; have q2 := cell_row (i := 2) (kp_row hSw NW.out.row) rfl; go_simp; try with_reducible rfl
  go_simp
  refine wpAnyH_take (i := 4) (v := ?_) rfl (by kernel_rfl) (by kernel_rfl) (by kernel_rfl) (fun _ _ _ h => h) (Or.inl ⟨by rfl, ?_⟩) (by assumption) ?_
  rotate_left
  · intro w hSw; go_simp; try with_reducible rfl
  go_simp
  refine wpAnyH_take (i := 5) (v := ?_) rfl (by kernel_rfl) (by kernel_rfl) (by kernel_rfl) (fun _ _ _ h => h) (Or.inl ⟨by rfl, ?_⟩) (by assumption) ?_
  rotate_left
  · intro w hSw; have q0 := cell_row (i := 0) (kp_row hSw RW.out) rfl; have q1 := cell_row (i := 1) (kp_row hSw RW.out) rfl; go_simp; try with_reducible rfl
  go_simp
  refine wpAnyH_take (i := 6) (v := ?_) rfl (by kernel_rfl) (by kernel_rfl) (by kernel_rfl) (fun _ _ _ h => h) (Or.inl ⟨by rfl, ?_⟩) (by assumption) ?_
  rotate_left
  · intro w hSw; go_simp; try with_reducible rfl
  go_simp
  refine wpAnyH_take (i := 7) (v := ?_) rfl (by kernel_rfl) (by kernel_rfl) (by kernel_rfl) (fun _ _ _ h => h) (Or.inl ⟨by rfl, ?_⟩) (by assumption) ?_
  rotate_left
  · intro w hSw; have q3 := kp_cell hSw C1.out; go_simp; try with_reducible rfl
  go_simp
  refine wpAnyH_take (i := 8) (v := ?_) rfl (by kernel_rfl) (by kernel_rfl) (by kernel_rfl) (fun _ _ _ h => h) (Or.inl ⟨by rfl, ?_⟩) (by assumption) ?_
  rotate_left
  · intro w hSw; go_simp; try with_reducible rfl
  go_simp
  refine wpAnyH_take (i := 9) (v := ?_) rfl (by kernel_rfl) (by kernel_rfl) (by kernel_rfl) (fun _ _ _ h => h) (Or.inl ⟨by rfl, ?_⟩) (by assumption) ?_
  rotate_left
  · intro w hSw; have q0 := cell_row (i := 0) (kp_row hSw RW.out) rfl; have q1 := cell_row (i := 1) (kp_row hSw RW.out) rfl; go_simp; try with_reducible rfl
  go_simp
  refine wpAnyH_take (i := 10) (v := ?_) rfl (by kernel_rfl) (by kernel_rfl) (by kernel_rfl) (fun _ _ _ h => h) (Or.inl ⟨by rfl, ?_⟩) (by assumption) ?_
  rotate_left
  · intro w hSw; go_simp; try with_reducible rfl
  go_simp
  refine wpAnyH_take (i := 11) (v := ?_) rfl (by kernel_rfl) (by kernel_rfl) (by kernel_rfl) (fun _ _ _ h => h) (Or.inl ⟨by rfl, ?_⟩) (by assumption) ?_
  rotate_left
  · intro w hSw; have q4 := kp_cell hSw C2.out; go_simp; try with_reducible rfl
  go_simp
  refine wpAnyH_done (by kernel_rfl) ?_ _
  obtain ⟨X, hX⟩ : ∃ X, W.drew = X := ⟨_, rfl⟩
  have kx : Kp W X := by rw [← hX]; exact kp_drewR (Kp.refl _)
  have NX := Lib.hid (R1.out.kp kx)
  have KX := Lib.hid (Kp.trans K1.out kx)
  try rw [hX]
  have y1 := cell_row (i := 1) NX.out.row rfl
  clear kx
  go_wp2
  go_ret2
  exact ⟨rfl, KX.out⟩
theorem part_oneR {W : World} {b : Nat} {x y : Int} {d : List Int} {s : ByteArray} (h : W.heap[b]? = some (.cells #[.int .i64 x, .int .i64 y, .string s] 47 (0, 0))) (hs : strOfNums d = s) : PartG ltE (.slice (some ⟨b, 0, none⟩) 1 1) [⟨x, y, d⟩] W := by
  subst hs
  refine ⟨_, _, rfl, fun e => (by cases e), fun ad e j u hj => ?_⟩
  injection e with e
  subst e
  rw [Addr.add_lit, Nat.zero_add]
  match j, hj with
  | 0, hj => simp [EncG.row, ltE] at hj; subst hj; exact cell_row h rfl
  | 1, hj => simp [EncG.row, ltE] at hj; subst hj; exact cell_row h rfl
  | 2, hj => simp [EncG.row, ltE] at hj; subst hj; exact cell_row h rfl
  | j + 3, hj => simp [EncG.row, ltE] at hj
set_option maxRecDepth 100000 in
set_option maxHeartbeats 2000000 in
theorem rnPut_ok (H : Rn w0 q m v vc rb w) (a b : Int) (d : List Int) (s : ByteArray) (hs : strOfNums d = s) (hm : Nok m) (h1 : m.has a = true) (h2 : m.has b = true) (hl : ¬ 1000 < d.length) (hc : m.isCut a b = false) (hf : ¬ 63 < m.f.length) : Calls Tryd.prog 25 #[.pointer (some ⟨q, 0, none⟩), .agg #[.int .i64 a, .int .i64 b, .string s]] w fun r w' => r = .returned (.tuple #[.bool true, .int .i64 0]) ∧ ∃ v', Rn w0 q ⟨m.n, m.f ++ [⟨a, b, d⟩], m.cut, m.lost⟩ v' vc rb w' ∧ Asd (On q v vc rb) (On q v' vc rb) w w' := by
  have HS := Lib.hid hs
  have hno := fun (e : On q v vc rb w.heap.size) => Nat.lt_irrefl _ (H.mem _ e).2
  have hsz : s.size = d.length := by rw [← hs]; exact strOfNums_size d
  have k1 := kp_alloc w (.cells #[.int .i64 a, .int .i64 b, .string s] 47)
  have r1 := (MapKept.heap_alloc w (.cells #[.int .i64 a, .int .i64 b, .string s] 47)).1
  obtain ⟨W, hW⟩ : ∃ W, w.alloc (.cells #[.int .i64 a, .int .i64 b, .string s] 47) = W := ⟨_, rfl⟩
  have HW := Lib.hid hW
  have x0 := cell_row (i := 0) r1 rfl
  have x1 := cell_row (i := 1) r1 rfl
  have x2 := cell_row (i := 2) r1 rfl
  have x3 := x0
  have x4 := x1
  have x5 := x2
  rw [hW] at k1 x3 x4 x5
  have K1 := Lib.hid k1
  have R1 := Lib.hid (H.kp k1)
  have HA := Lib.hid (fun w1 (H1 : Rn w0 q m v vc rb w1) => rnHas_any H1 a)
  have HB := Lib.hid (fun w1 (H1 : Rn w0 q m v vc rb w1) => rnHas_any H1 b)
  rw [h1] at HA
  rw [h2] at HB
  rw [← hsz] at hl
  obtain ⟨n, hn⟩ : ∃ n : Int, (s.size : Int) = n := ⟨_, rfl⟩
  have g1 : decide (n > 1000) = false := decide_eq_false (by omega)
  obtain ⟨av, cv, rfl⟩ := H.form
  obtain ⟨bc, cc, rr, rfl, c1, c2, -⟩ := (R1.out).way hm h1 h2
  rw [hc] at c2
  have C1 := Lib.hid c1
  have C2 := Lib.hid c2
  have rw1 := r1
  rw [hW] at rw1
  have RW := Lib.hid rw1
  have NW := R1
  unfold NetM.has at h1 h2
  simp only [Bool.and_eq_true, decide_eq_true_eq] at h1 h2
  have a0 := h1.1
  have a1 := h1.2
  have b0 := h2.1
  have b1 := h2.2
  obtain ⟨mn, hmn⟩ : ∃ n, m.n = n := ⟨_, rfl⟩
  have HNO := Lib.hid hno
  have HF := Lib.hid hf
  obtain ⟨nf, hnf⟩ : ∃ n : Int, (m.f.length : Int) = n := ⟨_, rfl⟩
  have g2 : decide (nf > 63) = false := decide_eq_false (by omega)
  clear H hs hsz hW k1 r1 h1 h2 hl c1 c2 rw1 hm hc hmn hf hno
  go_enter Tryd.func25, Tryd.ntmps25
  go_wp2_with (first | (go_at_call 41; (try rw [HW.out]); (with_reducible refine (HB.out _ R1.out).mono ?_); rintro e' w4 ⟨rfl, rfl⟩) | (go_at_call 41; (try rw [HW.out]); (with_reducible refine (HA.out _ R1.out).mono ?_); rintro e' w3 ⟨rfl, rfl⟩))
  refine wp_region_held_drew (S := fun w' => Kp W w') (by kernel_rfl) ?_ (fun hHeld => ?_)
  · exact kp_drewR (Kp.refl _)
  refine wpAnyH_take (i := 0) (v := ?_) rfl (by kernel_rfl) (by kernel_rfl) (by kernel_rfl) (fun _ _ _ h => h) (Or.inl ⟨by rfl, ?_⟩) (by assumption) ?_
  rotate_left
  · intro w hSw; go_simp; try with_reducible rfl
  go_simp
  refine wpAnyH_take (i := 1) (v := ?_) rfl (by kernel_rfl) (by kernel_rfl) (by kernel_rfl) (fun _ _ _ h => h) (Or.inl ⟨by rfl, ?_⟩) (by assumption) ?_
  rotate_left
  · intro w hSw; go_simp; try with_reducible rfl
  go_simp
  refine wpAnyH_take (i := 2) (v := ?_) rfl (by kernel_rfl) (by kernel_rfl) (by kernel_rfl) (fun _ _ _ h => h) (Or.inl ⟨by rfl, ?_⟩) (by assumption) ?_
  rotate_left
  · intro w hSw; go_simp; try with_reducible rfl
  go_simp
  refine wpAnyH_take (i := 3) (v := ?_) rfl (by kernel_rfl) (by kernel_rfl) (by kernel_rfl) (fun _ _ _ h => h) (Or.inl ⟨by rfl, ?_⟩) (by assumption) ?_
  rotate_left
  · intro w hSw; have q2 := cell_row (i := 2) (kp_row hSw NW.out.row) rfl; go_simp; try with_reducible rfl
  go_simp
  refine wpAnyH_take (i := 4) (v := ?_) rfl (by kernel_rfl) (by kernel_rfl) (by kernel_rfl) (fun _ _ _ h => h) (Or.inl ⟨by rfl, ?_⟩) (by assumption) ?_
  rotate_left
  · intro w hSw; go_simp; try with_reducible rfl
  go_simp
  refine wpAnyH_take (i := 5) (v := ?_) rfl (by kernel_rfl) (by kernel_rfl) (by kernel_rfl) (fun _ _ _ h => h) (Or.inl ⟨by rfl, ?_⟩) (by assumption) ?_
  rotate_left
  · intro w hSw; have q0 := cell_row (i := 0) (kp_row hSw RW.out) rfl; have q1 := cell_row (i := 1) (kp_row hSw RW.out) rfl; go_simp; try with_reducible rfl
  go_simp
  refine wpAnyH_take (i := 6) (v := ?_) rfl (by kernel_rfl) (by kernel_rfl) (by kernel_rfl) (fun _ _ _ h => h) (Or.inl ⟨by rfl, ?_⟩) (by assumption) ?_
  rotate_left
  · intro w hSw; go_simp; try with_reducible rfl
  go_simp
  refine wpAnyH_take (i := 7) (v := ?_) rfl (by kernel_rfl) (by kernel_rfl) (by kernel_rfl) (fun _ _ _ h => h) (Or.inl ⟨by rfl, ?_⟩) (by assumption) ?_
  rotate_left
  · intro w hSw; have q3 := kp_cell hSw C1.out; go_simp; try with_reducible rfl
  go_simp
  refine wpAnyH_take (i := 8) (v := ?_) rfl (by kernel_rfl) (by kernel_rfl) (by kernel_rfl) (fun _ _ _ h => h) (Or.inl ⟨by rfl, ?_⟩) (by assumption) ?_
  rotate_left
  · intro w hSw; go_simp; try with_reducible rfl
  go_simp
  refine wpAnyH_take (i := 9) (v := ?_) rfl (by kernel_rfl) (by kernel_rfl) (by kernel_rfl) (fun _ _ _ h => h) (Or.inl ⟨by rfl, ?_⟩) (by assumption) ?_
  rotate_left
  · intro w hSw; have q0 := cell_row (i := 0) (kp_row hSw RW.out) rfl; have q1 := cell_row (i := 1) (kp_row hSw RW.out) rfl; go_simp; try with_reducible rfl
  go_simp
  refine wpAnyH_take (i := 10) (v := ?_) rfl (by kernel_rfl) (by kernel_rfl) (by kernel_rfl) (fun _ _ _ h => h) (Or.inl ⟨by rfl, ?_⟩) (by assumption) ?_
  rotate_left
  · intro w hSw; go_simp; try with_reducible rfl
  go_simp
  refine wpAnyH_take (i := 11) (v := ?_) rfl (by kernel_rfl) (by kernel_rfl) (by kernel_rfl) (fun _ _ _ h => h) (Or.inl ⟨by rfl, ?_⟩) (by assumption) ?_
  rotate_left
  · intro w hSw; have q4 := kp_cell hSw C2.out; go_simp; try with_reducible rfl
  go_simp
  refine wpAnyH_done (by kernel_rfl) ?_ _
  obtain ⟨X, hX⟩ : ∃ X, W.drew = X := ⟨_, rfl⟩
  have kx : Kp W X := by rw [← hX]; exact kp_drewR (Kp.refl _)
  have NX := Lib.hid (R1.out.kp kx)
  have RX := Lib.hid (kp_row kx RW.out)
  try rw [hX]
  have y1 := cell_row (i := 1) NX.out.row rfl
  obtain ⟨XD, hXD⟩ : ∃ D, X.drew = D := ⟨_, rfl⟩
  have kd : Kp X XD := by rw [← hXD]; exact kp_drewR (Kp.refl _)
  have ND := Lib.hid (NX.out.kp kd)
  have AD := Lib.hid (Asd.of_kp (On q (.slice av m.f.length cv) (.slice (some ⟨bc, 0, none⟩) m.n cc) rb) (Kp.trans K1.out (Kp.trans kx kd)))
  have HXD := Lib.hid hXD
  clear kx kd hX hXD hHeld
  go_wp2
  have d1 := cell_row (i := 1) ND.out.row rfl
  refine wp_region_held_drew (S := fun w' => w'.heap[w.heap.size]? = some (.cells #[.int .i64 a, .int .i64 b, .string s] 47)) (by kernel_rfl) ?_ (fun hHeld => ?_)
  · exact kp_row (kp_drewR (Kp.refl _)) RX.out
  rw [HXD.out] at hHeld ⊢
  refine wpAnyH_take (i := 0) (v := ?_) rfl (by kernel_rfl) (by kernel_rfl) (by kernel_rfl) (fun _ _ _ h => h) (Or.inl ⟨by rfl, ?_⟩) (by assumption) ?_
  rotate_left
  · intro w hSw; go_simp; try with_reducible rfl
  go_simp
  refine wpAnyH_take (i := 1) (v := ?_) rfl (by kernel_rfl) (by kernel_rfl) (by kernel_rfl) (fun _ _ _ h => h) (Or.inl ⟨by rfl, ?_⟩) (by assumption) ?_
  rotate_left
  · intro w hSw; go_simp; try with_reducible rfl
  go_simp
  refine wpAnyH_take (i := 2) (v := ?_) rfl (by kernel_rfl) (by kernel_rfl) (by kernel_rfl) (fun _ _ _ h => h) (Or.inl ⟨by rfl, ?_⟩) (by assumption) ?_
  rotate_left
  · intro w hSw; go_simp; try with_reducible rfl
  go_simp
  refine wpAnyH_take (i := 3) (v := ?_) rfl (by kernel_rfl) (by kernel_rfl) (by kernel_rfl) (fun _ _ _ h => h) (Or.inl ⟨by rfl, ?_⟩) (by assumption) ?_
  rotate_left
  · intro w hSw; go_simp; try with_reducible rfl
  go_simp
  refine wpAnyH_take (i := 5) (v := ?_) rfl (by kernel_rfl) (by kernel_rfl) (by kernel_rfl) (fun _ _ _ h => h) (Or.inl ⟨by rfl, ?_⟩) (by assumption) ?_
  rotate_left
  · intro w hSw; have q0 := cell_row (i := 0) hSw rfl; have q1 := cell_row (i := 1) hSw rfl; have q2 := cell_row (i := 2) hSw rfl; go_simp; try with_reducible rfl
  go_simp
  refine wpAnyH_ready (rs := [4, 6]) (by kernel_rfl) (by simp) ?_
  refine AllReadyH.cons rfl (fun K hK => ?_) (AllReadyH.cons rfl (fun K hK => ?_) AllReadyH.nil)
  · go_simp
    refine hK.out _ _ hHeld (fun hHeld => ?_)
    clear hK K
    refine wpAnyH_ready (rs := [6]) (by kernel_rfl) (by simp) ?_
    refine AllReadyH.cons rfl (fun K hK => ?_) AllReadyH.nil
    go_simp
    refine hK.out _ _ (kp_row (kp_alloc _ _) hHeld) (fun hHeld => ?_)
    clear hK K
    obtain ⟨Z, hZ⟩ : ∃ Z, XD.alloc (.cells #[.int .i64 a, .int .i64 b, .string s] 47) = Z := ⟨_, rfl⟩
    have kz : Kp XD Z := by rw [← hZ]; exact kp_alloc _ _
    have rz : Z.heap[XD.heap.size]? = some (.cells #[.int .i64 a, .int .i64 b, .string s] 47) := by rw [← hZ]; exact (MapKept.heap_alloc XD (.cells #[.int .i64 a, .int .i64 b, .string s] 47)).1
    have KZ := Lib.hid kz
    have PZ := Lib.hid (part_oneR rz HS.out)
    have NZ := Lib.hid (ND.out.kp kz)
    have z1 := cell_row (i := 1) NZ.out.row rfl
    rw [hZ] at hHeld ⊢
    clear hZ kz rz
    refine wpAnyH_ready (rs := [7]) (by kernel_rfl) (by simp) ?_
    refine AllReadyH.consLG rfl (fun K hK => ?_) AllReadyH.nil
    go_simp
    refine wpList_append_rwG (E := ltE) ty_ltR (by decide) _ rfl _ _ rfl w0.heap.size _ _ m.f rfl NZ.out.own _ [⟨a, b, d⟩] rfl PZ.out ?f1 ?f2 ?_
    case f1 => have := HF.out; simp; omega
    case f2 => have := NZ.out.bq; have := old_of_row NZ.out.row; omega
    rintro v3 w3 ho hg hb
    obtain ⟨ad3, c3, rfl⟩ := own_formG ho
    have RF := Lib.hid (ND.out.letters KZ.out hg (L := m.f.length + 1) (f := m.f ++ [⟨a, b, d⟩]) (by rw [List.length_append]; rfl) (show w3.ownsRow w0.heap.size 47 3 (.slice ad3 (m.f.length + 1) c3) (m.f.length + 1) (ltE.row (m.f ++ [⟨a, b, d⟩])) from ho) (fun b e => (hb b e).imp id (fun e => Nat.le_trans (Below.size KZ.out) e)))
    have r4 := (hg.block q (old_of_row NZ.out.row) (fun e => NZ.out.ne.1 e.symm)).trans NZ.out.row
    have y1 := cell_row (i := 1) r4 rfl
    have fz := frozR r4
    have hHeld3 := (hg.block w.heap.size (old_of_row hHeld) (fun e => HNO.out (.inr (.inl e.symm)))).trans hHeld
    refine hK.out _ _ hHeld3 (fun hHeld => ?_)
    clear hK K ho hg hb r4 hHeld3
    refine wpAnyH_take (i := 8) (v := ?_) rfl (by kernel_rfl) (by kernel_rfl) (by kernel_rfl) (fun _ _ _ h => h) (Or.inl ⟨by rfl, ?_⟩) (by assumption) ?_
    rotate_left
    · intro w hSw; go_simp; try with_reducible rfl
    go_simp
    refine wpAnyH_take (i := 9) (v := ?_) rfl (by kernel_rfl) (by kernel_rfl) (by kernel_rfl) (fun _ _ _ h => h) (Or.inl ⟨by rfl, ?_⟩) (by assumption) ?_
    rotate_left
    · intro w hSw; go_simp; try with_reducible rfl
    go_simp
    refine wpAnyH_ready (rs := [10]) (by kernel_rfl) (by simp) ?_
    refine AllReadyH.cons rfl (fun K hK => ?_) AllReadyH.nil
    go_simp
    refine hK.out _ _ ?_ (fun hHeld => ?_)
    · exact (Below.heap_setCell _ _ _ _ (fun e => HNO.out (.inl e))).trans hHeld
    clear hK K
    refine wpAnyH_done (by kernel_rfl) ?_ _
    go_wp2
    go_ret2
    exact ⟨rfl, _, RF.out.1, AD.out.trans RF.out.2⟩
  · go_simp
    refine hK.out _ _ (kp_row (kp_alloc _ _) hHeld) (fun hHeld => ?_)
    clear hK K
    obtain ⟨Z, hZ⟩ : ∃ Z, XD.alloc (.cells #[.int .i64 a, .int .i64 b, .string s] 47) = Z := ⟨_, rfl⟩
    have kz : Kp XD Z := by rw [← hZ]; exact kp_alloc _ _
    have rz : Z.heap[XD.heap.size]? = some (.cells #[.int .i64 a, .int .i64 b, .string s] 47) := by rw [← hZ]; exact (MapKept.heap_alloc XD (.cells #[.int .i64 a, .int .i64 b, .string s] 47)).1
    have KZ := Lib.hid kz
    have PZ := Lib.hid (part_oneR rz HS.out)
    have NZ := Lib.hid (ND.out.kp kz)
    have z1 := cell_row (i := 1) NZ.out.row rfl
    rw [hZ] at hHeld ⊢
    clear hZ kz rz
    refine wpAnyH_ready (rs := [4]) (by kernel_rfl) (by simp) ?_
    refine AllReadyH.cons rfl (fun K hK => ?_) AllReadyH.nil
    go_simp
    refine hK.out _ _ hHeld (fun hHeld => ?_)
    clear hK K
    refine wpAnyH_ready (rs := [7]) (by kernel_rfl) (by simp) ?_
    refine AllReadyH.consLG rfl (fun K hK => ?_) AllReadyH.nil
    go_simp
    refine wpList_append_rwG (E := ltE) ty_ltR (by decide) _ rfl _ _ rfl w0.heap.size _ _ m.f rfl NZ.out.own _ [⟨a, b, d⟩] rfl PZ.out ?f1 ?f2 ?_
    case f1 => have := HF.out; simp; omega
    case f2 => have := NZ.out.bq; have := old_of_row NZ.out.row; omega
    rintro v3 w3 ho hg hb
    obtain ⟨ad3, c3, rfl⟩ := own_formG ho
    have RF := Lib.hid (ND.out.letters KZ.out hg (L := m.f.length + 1) (f := m.f ++ [⟨a, b, d⟩]) (by rw [List.length_append]; rfl) (show w3.ownsRow w0.heap.size 47 3 (.slice ad3 (m.f.length + 1) c3) (m.f.length + 1) (ltE.row (m.f ++ [⟨a, b, d⟩])) from ho) (fun b e => (hb b e).imp id (fun e => Nat.le_trans (Below.size KZ.out) e)))
    have r4 := (hg.block q (old_of_row NZ.out.row) (fun e => NZ.out.ne.1 e.symm)).trans NZ.out.row
    have y1 := cell_row (i := 1) r4 rfl
    have fz := frozR r4
    have hHeld3 := (hg.block w.heap.size (old_of_row hHeld) (fun e => HNO.out (.inr (.inl e.symm)))).trans hHeld
    refine hK.out _ _ hHeld3 (fun hHeld => ?_)
    clear hK K ho hg hb r4 hHeld3
    refine wpAnyH_take (i := 8) (v := ?_) rfl (by kernel_rfl) (by kernel_rfl) (by kernel_rfl) (fun _ _ _ h => h) (Or.inl ⟨by rfl, ?_⟩) (by assumption) ?_
    rotate_left
    · intro w hSw; go_simp; try with_reducible rfl
    go_simp
    refine wpAnyH_take (i := 9) (v := ?_) rfl (by kernel_rfl) (by kernel_rfl) (by kernel_rfl) (fun _ _ _ h => h) (Or.inl ⟨by rfl, ?_⟩) (by assumption) ?_
    rotate_left
    · intro w hSw; go_simp; try with_reducible rfl
    go_simp
    refine wpAnyH_ready (rs := [10]) (by kernel_rfl) (by simp) ?_
    refine AllReadyH.cons rfl (fun K hK => ?_) AllReadyH.nil
    go_simp
    refine hK.out _ _ ?_ (fun hHeld => ?_)
    · exact (Below.heap_setCell _ _ _ _ (fun e => HNO.out (.inl e))).trans hHeld
    clear hK K
    refine wpAnyH_done (by kernel_rfl) ?_ _
    go_wp2
    go_ret2
    exact ⟨rfl, _, RF.out.1, AD.out.trans RF.out.2⟩
end Go.Proofs.YtjffkfcokgcenaaDoor
