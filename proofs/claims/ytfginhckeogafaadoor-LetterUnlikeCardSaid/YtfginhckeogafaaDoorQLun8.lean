/-
  LetterUnlike: for every two messages that are encoded, their bytes are the same just where they are; and an answer's answer of the first one's kind and code, with its protocol, is the first one. Condition: package api's errors and strconv's table of powers hold what their declarations lay.
-/
import Derived.Test.YtfginhckeogafaaDoorPkI
import Derived.Test.YtfginhckeogafaaDoorPkD
import Derived.Test.YtfginhckeogafaaDoorPkE
import Derived.Lib.SmallJoins
import Derived.Deep.RegionHeld3
import Derived.Test.YtfginhckeogafaaDoorRows
import Derived.Test.YtfginhckeogafaaDoorPkG
import Derived.Test.YtfginhckeogafaaDoorCards
import Derived.Test.YtfginhckeogafaaDoorTie
import Derived.SevenTiedAt
import Derived.Lay
import Derived.MakeChecks

namespace Go.Proofs.YtfginhckeogafaaDoor
open Go.RowKit Go.ChangeShapes Go.WideShapes

theorem back_back (m : MM) : answerM (answerM m 1 0) m.k m.c = ⟨m.k, m.f, m.t, m.n, m.s, m.r, m.p, 0, m.c⟩ := rfl

set_option maxRecDepth 100000 in
set_option maxHeartbeats 4000000 in
theorem unlike_ok (ads : List Addr) (m m2 : MM) (w : World) (C : LetC ads w) (ha : rightM m = true) (hb : rightM m2 = true) :
    Calls Tryd.prog 7 #[.agg m.cells, .agg m2.cells] w fun e w' => e = .returned (.bool true) ∧ Kp w w' := by
  have HA := Lib.hid (fun w1 (hk : Kp w w1) => alive8_any ads w1 (LetC.kp C hk))
  have HN1 := fun w1 (hk : Kp w w1) => C.answer w1 hk m 1 0
  have HN2 := fun w1 (hk : Kp w w1) => C.answer w1 hk (answerM m 1 0) m.k m.c
  rw [back_back] at HN2
  have hq := fun (w : World) => msg_eql m m w
  have hg := fun (op : BinOp) (x y : Operand) (w : World) => msg_guard op x y m m w
  simp only [decide_true] at hq
  have HE1 := fun w1 (hk : Kp w w1) => C.encOk w1 hk m ha
  have HE2 := fun w1 (hk : Kp w w1) => C.encOk w1 hk m2 hb
  obtain ⟨x1, hx1⟩ : ∃ x, encM m = x := ⟨_, rfl⟩
  obtain ⟨x2, hx2⟩ : ∃ x, encM m2 = x := ⟨_, rfl⟩
  have hqs : ((strOfNums (encM m)).toList == (strOfNums (encM m2)).toList) = decide (m = m2) := by
    by_cases h : m = m2
    · rw [decide_eq_true h, h]; exact beq_self_eq_true _
    · rw [decide_eq_false h]; exact str_ne (enc_in m) (enc_in m2) (fun q => h (enc_inj ha hb q))
  obtain ⟨bb, hbb⟩ : ∃ x, decide (m = m2) = x := ⟨_, rfl⟩
  rw [hbb] at hqs
  obtain ⟨z1, hz1⟩ : ∃ x, strOfNums (encM m) = x := ⟨_, rfl⟩
  obtain ⟨z2, hz2⟩ : ∃ x, strOfNums (encM m2) = x := ⟨_, rfl⟩
  rw [hz1, hz2] at hqs
  rw [hx1] at hz1
  rw [hx2] at hz2
  have hq2 := fun (w : World) => msg_eql m m2 w
  have hg2 := fun (op : BinOp) (x y : Operand) (w : World) => msg_guard op x y m m2 w
  rw [hbb] at hq2
  have HS1 := Lib.hid hz1
  have HS2 := Lib.hid hz2
  clear hbb hz1 hz2
  rw [hx1] at HE1
  rw [hx2] at HE2
  obtain ⟨l1, hn1⟩ : ∃ x, x1.length = x := ⟨_, rfl⟩
  rw [hn1] at HE1
  obtain ⟨l2, hn2⟩ : ∃ x, x2.length = x := ⟨_, rfl⟩
  rw [hn2] at HE2
  obtain ⟨k, f, t, n, s, r, p, o, c⟩ := m
  obtain ⟨k2, f2, t2, n2, s2, r2, p2, o2, c2⟩ := m2
  dsimp only [MM.cells, answerM] at HN1 HN2 HE1 HE2 hq hg hq2 hg2 ⊢
  have HN1 := Lib.hid HN1
  have HN2 := Lib.hid HN2
  have HE1 := Lib.hid HE1
  have HE2 := Lib.hid HE2
  have kb := Kp.trans (kp_alloc w (.cells #[.int .i64 k, .int .i64 f, .int .i64 t, .int .i64 n, .int .i64 s, .int .i64 r, .int .i64 p, .int .i64 o, .int .i64 c] 25)) (kp_alloc (w.alloc (.cells #[.int .i64 k, .int .i64 f, .int .i64 t, .int .i64 n, .int .i64 s, .int .i64 r, .int .i64 p, .int .i64 o, .int .i64 c] 25)) (.cells #[.int .i64 k2, .int .i64 f2, .int .i64 t2, .int .i64 n2, .int .i64 s2, .int .i64 r2, .int .i64 p2, .int .i64 o2, .int .i64 c2] 25))
  have hr := kp_row (kp_alloc (w.alloc (.cells #[.int .i64 k, .int .i64 f, .int .i64 t, .int .i64 n, .int .i64 s, .int .i64 r, .int .i64 p, .int .i64 o, .int .i64 c] 25)) (.cells #[.int .i64 k2, .int .i64 f2, .int .i64 t2, .int .i64 n2, .int .i64 s2, .int .i64 r2, .int .i64 p2, .int .i64 o2, .int .i64 c2] 25)) (MapKept.heap_alloc w (.cells #[.int .i64 k, .int .i64 f, .int .i64 t, .int .i64 n, .int .i64 s, .int .i64 r, .int .i64 p, .int .i64 o, .int .i64 c] 25)).1
  have ht := enc_new1 w (.cells #[.int .i64 k, .int .i64 f, .int .i64 t, .int .i64 n, .int .i64 s, .int .i64 r, .int .i64 p, .int .i64 o, .int .i64 c] 25) (.cells #[.int .i64 k2, .int .i64 f2, .int .i64 t2, .int .i64 n2, .int .i64 s2, .int .i64 r2, .int .i64 p2, .int .i64 o2, .int .i64 c2] 25)
  have KB := Lib.hid kb
  have HR := Lib.hid hr
  have HT := Lib.hid ht
  clear kb hr ht C ha hb hx1 hn1 hx2 hn2
  go_enter Tryd.func7, Tryd.ntmps7
  go_wp2_with (first
    | (go_at_call 8; (with_reducible refine (HA.out _ KB.out).mono ?_); rintro e w1 ⟨rfl, hk⟩; have K1 := Lib.hid (Kp.trans KB.out hk); have R1 := Lib.hid (kp_row hk HR.out); have T1 := Lib.hid (kp_row hk HT.out); obtain ⟨g0, g1, g2, g3, g4, g5, g6, g7, g8⟩ := cells9 (R1.out); obtain ⟨h0, h1, h2, h3, h4, h5, h6, h7, h8⟩ := cells9 (T1.out); clear hk)
    | (go_at_call 9; (with_reducible refine (HE1.out _ K1.out).mono ?_); rintro e w2 ⟨aw2, cw2, rfl, -, hs, hk⟩; have K2 := Lib.hid (Kp.trans K1.out hk); have Sw2 := Lib.hid hs; have R2 := Lib.hid (kp_row hk R1.out); have T2 := Lib.hid (kp_row hk T1.out); obtain ⟨u0, u1, u2, u3, u4, u5, u6, u7, u8⟩ := cells9 (R2.out); obtain ⟨v0, v1, v2, v3, v4, v5, v6, v7, v8⟩ := cells9 (T2.out); clear hk hs)
    | (go_at_call 9; (with_reducible refine (HE2.out _ K2.out).mono ?_); rintro e w3 ⟨aw3, cw3, rfl, -, hs, hk⟩; have K3 := Lib.hid (Kp.trans K2.out hk); have Sw3 := Lib.hid hs; have R3 := Lib.hid (kp_row hk R2.out); have T3 := Lib.hid (kp_row hk T2.out); obtain ⟨i0, i1, i2, i3, i4, i5, i6, i7, i8⟩ := cells9 (R3.out); obtain ⟨j0, j1, j2, j3, j4, j5, j6, j7, j8⟩ := cells9 (T3.out); have S23 := Lib.hid (Sw2.out.kp hk); clear hk hs))
  clear g0 h0 u0 v0 g1 h1 u1 v1 g2 h2 u2 v2 g3 h3 u3 v3 g4 h4 u4 v4 g5 h5 u5 v5 g6 h6 u6 v6 g7 h7 u7 v7 g8 h8 u8 v8
  have CV1 : Hid (∀ w', Kp w3 w' → (convert 27 9 (.slice aw2 l1 cw2)).run Tryd.prog w' = .ok (.string z1) w') := Lib.hid (fun w' hk => by rw [← HS1.out]; exact conv_slb (S23.out.kp hk))
  have CV2 : Hid (∀ w', Kp w3 w' → (convert 27 9 (.slice aw3 l2 cw3)).run Tryd.prog w' = .ok (.string z2) w') := Lib.hid (fun w' hk => by rw [← HS2.out]; exact conv_slb (Sw3.out.kp hk))
  refine wp_region_held_drew (S := fun w' => Kp w3 w') (by kernel_rfl) ?_ (fun hHeld => ?_)
  · exact (Kp.refl w3).drew
  refine wpAnyH_take (i := 0) (v := ?_) rfl (by kernel_rfl) (by kernel_rfl) (by kernel_rfl) (fun _ _ _ h => h) (Or.inl ⟨by rfl, ?_⟩) (by assumption) ?_
  rotate_left
  · intro w hSw; go_simp; try with_reducible rfl
  go_simp
  refine wpAnyH_take (i := 1) (v := ?_) rfl (by kernel_rfl) (by kernel_rfl) (by kernel_rfl) (fun _ _ _ h => h) (Or.inl ⟨by rfl, ?_⟩) (by assumption) ?_
  rotate_left
  · intro w hSw; go_simp; try with_reducible rfl
  go_simp
  refine wpAnyH_take (i := 2) (v := ?_) rfl (by kernel_rfl) (by kernel_rfl) (by kernel_rfl) (fun _ _ _ h => h) (Or.inl ⟨by rfl, ?_⟩) (by assumption) ?_
  rotate_left
  · intro w hSw; go_simp; try with_reducible rfl
  go_simp
  refine wpAnyH_take (i := 3) (v := ?_) rfl (by kernel_rfl) (by kernel_rfl) (by kernel_rfl) (fun _ _ _ h => h) (Or.inl ⟨by rfl, ?_⟩) (by assumption) ?_
  rotate_left
  · intro w hSw; go_simp; try with_reducible rfl
  go_simp
  refine wpAnyH_take (i := 4) (v := ?_) rfl (by kernel_rfl) (by kernel_rfl) (by kernel_rfl) (fun _ _ _ h => h) (Or.inl ⟨by rfl, ?_⟩) (by assumption) ?_
  rotate_left
  · intro w hSw; go_simp; try with_reducible rfl
  go_simp
  refine wpAnyH_take (i := 5) (v := ?_) rfl (by kernel_rfl) (by kernel_rfl) (by kernel_rfl) (fun _ _ _ h => h) (Or.inl ⟨by rfl, ?_⟩) (by assumption) ?_
  rotate_left
  · intro w hSw; go_simp; try with_reducible rfl
  go_simp
  refine wpAnyH_take (i := 6) (v := ?_) rfl (by kernel_rfl) (by kernel_rfl) (by kernel_rfl) (fun _ _ _ h => h) (Or.inl ⟨by rfl, ?_⟩) (by assumption) ?_
  rotate_left
  · intro w hSw; go_simp; try with_reducible rfl
  go_simp
  refine wpAnyH_take (i := 7) (v := ?_) rfl (by kernel_rfl) (by kernel_rfl) (by kernel_rfl) (fun _ _ _ h => h) (Or.inl ⟨by rfl, ?_⟩) (by assumption) ?_
  rotate_left
  · intro w hSw; go_simp; try with_reducible rfl
  go_simp
  refine wpAnyH_take (i := 8) (v := ?_) rfl (by kernel_rfl) (by kernel_rfl) (by kernel_rfl) (fun _ _ _ h => h) (Or.inl ⟨by rfl, ?_⟩) (by assumption) ?_
  rotate_left
  · intro w hSw; have q := CV1.out _ hSw; go_simp; try with_reducible rfl
  go_simp
  refine wpAnyH_take (i := 9) (v := ?_) rfl (by kernel_rfl) (by kernel_rfl) (by kernel_rfl) (fun _ _ _ h => h) (Or.inl ⟨by rfl, ?_⟩) (by assumption) ?_
  rotate_left
  · intro w hSw; go_simp; try with_reducible rfl
  go_simp
  refine wpAnyH_take (i := 10) (v := ?_) rfl (by kernel_rfl) (by kernel_rfl) (by kernel_rfl) (fun _ _ _ h => h) (Or.inl ⟨by rfl, ?_⟩) (by assumption) ?_
  rotate_left
  · intro w hSw; have q := CV2.out _ hSw; go_simp; try with_reducible rfl
  go_simp
  refine wpAnyH_take (i := 11) (v := ?_) rfl (by kernel_rfl) (by kernel_rfl) (by kernel_rfl) (fun _ _ _ h => h) (Or.inl ⟨by rfl, ?_⟩) (by assumption) ?_
  rotate_left
  · intro w hSw; go_simp; try with_reducible rfl
  go_simp
  refine wpAnyH_take (i := 12) (v := ?_) rfl (by kernel_rfl) (by kernel_rfl) (by kernel_rfl) (fun _ _ _ h => h) (Or.inl ⟨by rfl, ?_⟩) (by assumption) ?_
  rotate_left
  · intro w hSw; have qi0 := kp_cell hSw i0; have qi1 := kp_cell hSw i1; have qi2 := kp_cell hSw i2; have qi3 := kp_cell hSw i3; have qi4 := kp_cell hSw i4; have qi5 := kp_cell hSw i5; have qi6 := kp_cell hSw i6; have qi7 := kp_cell hSw i7; have qi8 := kp_cell hSw i8; go_simp; try with_reducible rfl
  go_simp
  refine wpAnyH_take (i := 13) (v := ?_) rfl (by kernel_rfl) (by kernel_rfl) (by kernel_rfl) (fun _ _ _ h => h) (Or.inl ⟨by rfl, ?_⟩) (by assumption) ?_
  rotate_left
  · intro w hSw; have qj0 := kp_cell hSw j0; have qj1 := kp_cell hSw j1; have qj2 := kp_cell hSw j2; have qj3 := kp_cell hSw j3; have qj4 := kp_cell hSw j4; have qj5 := kp_cell hSw j5; have qj6 := kp_cell hSw j6; have qj7 := kp_cell hSw j7; have qj8 := kp_cell hSw j8; go_simp; try with_reducible rfl
  go_simp
  refine wpAnyH_take (i := 14) (v := ?_) rfl (by kernel_rfl) (by kernel_rfl) (by kernel_rfl) (fun _ _ _ h => h) (Or.inl ⟨by rfl, ?_⟩) (by assumption) ?_
  rotate_left
  · intro w hSw; have q := hq2 w; have q2 := hg2; go_simp; try with_reducible rfl
  go_simp
  refine wpAnyH_take (i := 15) (v := ?_) rfl (by kernel_rfl) (by kernel_rfl) (by kernel_rfl) (fun _ _ _ h => h) (Or.inl ⟨by rfl, ?_⟩) (by assumption) ?_
  rotate_left
  · intro w hSw; go_simp; try with_reducible rfl
  go_simp
  refine wpAnyH_take (i := 16) (v := ?_) rfl (by kernel_rfl) (by kernel_rfl) (by kernel_rfl) (fun _ _ _ h => h) (Or.inl ⟨by rfl, ?_⟩) (by assumption) ?_
  rotate_left
  · intro w hSw; go_simp; try with_reducible rfl
  go_simp
  refine wpAnyH_done (by kernel_rfl) ?_ _
  go_wp2
  refine wp_region_held_drew (S := fun w' => Kp w3 w') (by kernel_rfl) ?_ (fun hHeld => ?_)
  · exact ((Kp.refl w3).drew).drew
  refine wpAnyH_take (i := 0) (v := ?_) rfl (by kernel_rfl) (by kernel_rfl) (by kernel_rfl) (fun _ _ _ h => h) (Or.inl ⟨by rfl, ?_⟩) (by assumption) ?_
  rotate_left
  · intro w hSw; have qi0 := kp_cell hSw i0; have qi1 := kp_cell hSw i1; have qi2 := kp_cell hSw i2; have qi3 := kp_cell hSw i3; have qi4 := kp_cell hSw i4; have qi5 := kp_cell hSw i5; have qi6 := kp_cell hSw i6; have qi7 := kp_cell hSw i7; have qi8 := kp_cell hSw i8; go_simp; try with_reducible rfl
  go_simp
  refine wpAnyH_take (i := 2) (v := ?_) rfl (by kernel_rfl) (by kernel_rfl) (by kernel_rfl) (fun _ _ _ h => h) (Or.inl ⟨by rfl, ?_⟩) (by assumption) ?_
  rotate_left
  · intro w hSw; go_simp; try with_reducible rfl
  go_simp
  refine wpAnyH_take (i := 3) (v := ?_) rfl (by kernel_rfl) (by kernel_rfl) (by kernel_rfl) (fun _ _ _ h => h) (Or.inl ⟨by rfl, ?_⟩) (by assumption) ?_
  rotate_left
  · intro w hSw; have qi0 := kp_cell hSw i0; have qi1 := kp_cell hSw i1; have qi2 := kp_cell hSw i2; have qi3 := kp_cell hSw i3; have qi4 := kp_cell hSw i4; have qi5 := kp_cell hSw i5; have qi6 := kp_cell hSw i6; have qi7 := kp_cell hSw i7; have qi8 := kp_cell hSw i8; go_simp; try with_reducible rfl
  go_simp
  refine wpAnyH_take (i := 4) (v := ?_) rfl (by kernel_rfl) (by kernel_rfl) (by kernel_rfl) (fun _ _ _ h => h) (Or.inl ⟨by rfl, ?_⟩) (by assumption) ?_
  rotate_left
  · intro w hSw; go_simp; try with_reducible rfl
  go_simp
  refine wpAnyH_take (i := 5) (v := ?_) rfl (by kernel_rfl) (by kernel_rfl) (by kernel_rfl) (fun _ _ _ h => h) (Or.inl ⟨by rfl, ?_⟩) (by assumption) ?_
  rotate_left
  · intro w hSw; have qi0 := kp_cell hSw i0; have qi1 := kp_cell hSw i1; have qi2 := kp_cell hSw i2; have qi3 := kp_cell hSw i3; have qi4 := kp_cell hSw i4; have qi5 := kp_cell hSw i5; have qi6 := kp_cell hSw i6; have qi7 := kp_cell hSw i7; have qi8 := kp_cell hSw i8; go_simp; try with_reducible rfl
  go_simp
  refine wpAnyH_ready (rs := [1, 7]) (by kernel_rfl) (by simp) ?_
  refine AllReadyH.cons rfl (fun K hK => ?_) (AllReadyH.cons rfl (fun K hK => ?_) AllReadyH.nil)
  · have KH := Lib.hid (Kp.trans K3.out hHeld)
    go_simp
    go_wp2_with (go_at_call 18; (with_reducible refine (HN1.out _ KH.out).mono ?_); rintro e w4 ⟨rfl, hk4⟩; have K4 := Lib.hid (Kp.trans hHeld hk4))
    refine hK.out _ _ ?_ (fun hHeld => ?_)
    · exact K4.out
    clear hK K
    refine wpAnyH_ready (rs := [6, 7]) (by kernel_rfl) (by simp) ?_
    refine AllReadyH.cons rfl (fun K hK => ?_) (AllReadyH.cons rfl (fun K hK => ?_) AllReadyH.nil)
    · have KH := Lib.hid (Kp.trans K3.out hHeld)
      go_simp
      go_wp2_with (go_at_call 18; (with_reducible refine (HN2.out _ KH.out).mono ?_); rintro e w5 ⟨rfl, hk5⟩; have K5 := Lib.hid (Kp.trans hHeld hk5))
      refine hK.out _ _ ?_ (fun hHeld => ?_)
      · exact K5.out
      clear hK K
      refine wpAnyH_ready (rs := [7]) (by kernel_rfl) (by simp) ?_
      refine AllReadyH.cons rfl (fun K hK => ?_) AllReadyH.nil
      go_simp
      refine hK.out _ _ ?_ (fun hHeld => ?_)
      · exact Kp.trans K5.out (kp_alloc _ _)
      clear hK K
      refine wpAnyH_ready (rs := [8]) (by kernel_rfl) (by simp) ?_
      refine AllReadyH.cons rfl (fun K hK => ?_) AllReadyH.nil
      go_simp
      refine hK.out _ _ ?_ (fun hHeld => ?_)
      · exact Kp.trans K5.out (kp_alloc w5 (.cells #[.int .i64 k, .int .i64 f, .int .i64 t, .int .i64 n, .int .i64 s, .int .i64 r, .int .i64 p, .int .i64 0, .int .i64 c] 25))
      clear hK K
      refine wpAnyH_done (by kernel_rfl) ?_ _
      have hsz : w3.heap.size ≤ w5.heap.size := Below.size K5.out
      have RB := (MapKept.heap_alloc w5 (.cells #[.int .i64 k, .int .i64 f, .int .i64 t, .int .i64 n, .int .i64 s, .int .i64 r, .int .i64 p, .int .i64 0, .int .i64 c] 25)).1
      have RA := kp_row hHeld R3.out
      have KE := Kp.trans K3.out hHeld
      obtain ⟨bk, hbk⟩ : ∃ x, w5.heap.size = x := ⟨_, rfl⟩
      have hb3 : w3.heap.size ≤ bk := by rw [← hbk]; exact hsz
      obtain ⟨wE, hwE⟩ : ∃ x, w5.alloc (.cells #[.int .i64 k, .int .i64 f, .int .i64 t, .int .i64 n, .int .i64 s, .int .i64 r, .int .i64 p, .int .i64 0, .int .i64 c] 25) = x := ⟨_, rfl⟩
      rw [hwE] at RB RA KE ⊢
      rw [hbk] at RB ⊢
      clear hwE hbk
      have hab : w.heap.size ≠ bk := by have := old_of_row R3.out; omega
      have hle : w.heap.size ≤ bk := by have := old_of_row R3.out; omega
      have RB2 : (wE.setCell ⟨bk, 7, none⟩ (.int .i64 o)).heap[bk]? = some (.cells #[.int .i64 k, .int .i64 f, .int .i64 t, .int .i64 n, .int .i64 s, .int .i64 r, .int .i64 p, .int .i64 o, .int .i64 c] 25) := (Joins.block_setCell RB _).trans rfl
      have RA2 : (wE.setCell ⟨bk, 7, none⟩ (.int .i64 o)).heap[w.heap.size]? = some (.cells #[.int .i64 k, .int .i64 f, .int .i64 t, .int .i64 n, .int .i64 s, .int .i64 r, .int .i64 p, .int .i64 o, .int .i64 c] 25) := by rw [Below.heap_setCell _ _ _ _ hab]; exact RA
      have fz := froz9 RB
      obtain ⟨x0, x1, x2, x3, x4, x5, x6, x7, x8⟩ := cells9 (RB2)
      obtain ⟨y0, y1, y2, y3, y4, y5, y6, y7, y8⟩ := cells9 (RA2)
      obtain ⟨e0, e1, e2, e3, e4, e5, e6, e7, e8⟩ := cells9 (RA)
      obtain ⟨b0, b1, b2, b3, b4, b5, b6, b7, b8⟩ := cells9 (RB)
      have KE := Lib.hid KE
      clear RB RA RB2 RA2 hab
      go_wp2
      go_ret
      exact ⟨by first | rfl | simp, Below.setCell KE.out hle _⟩
    · go_simp
      refine hK.out _ _ ?_ (fun hHeld => ?_)
      · exact Kp.trans K4.out (kp_alloc _ _)
      clear hK K
      refine wpAnyH_ready (rs := [6]) (by kernel_rfl) (by simp) ?_
      refine AllReadyH.cons rfl (fun K hK => ?_) AllReadyH.nil
      have KH := Lib.hid (Kp.trans K3.out hHeld)
      go_simp
      go_wp2_with (go_at_call 18; (with_reducible refine (HN2.out _ KH.out).mono ?_); rintro e w5 ⟨rfl, hk5⟩; have K5 := Lib.hid (Kp.trans hHeld hk5))
      refine hK.out _ _ ?_ (fun hHeld => ?_)
      · exact K5.out
      clear hK K
      refine wpAnyH_ready (rs := [8]) (by kernel_rfl) (by simp) ?_
      refine AllReadyH.cons rfl (fun K hK => ?_) AllReadyH.nil
      have hsz : w3.heap.size ≤ w4.heap.size := Below.size K4.out
      have ZB := kp_row hk5 (MapKept.heap_alloc w4 (.cells #[.int .i64 0, .int .i64 0, .int .i64 0, .int .i64 0, .int .i64 0, .int .i64 0, .int .i64 0, .int .i64 0, .int .i64 0] 25)).1
      obtain ⟨z0, z1, z2, z3, z4, z5, z6, z7, z8⟩ := cells9 (ZB)
      have fzz := froz9 ZB
      go_simp
      refine hK.out _ _ ?_ (fun hHeld => ?_)
      · exact set9_kp K5.out hsz _ _ _ _ _ _ _ _ _
      clear hK K
      refine wpAnyH_done (by kernel_rfl) ?_ _
      have RB := set9 (.int .i64 k) (.int .i64 f) (.int .i64 t) (.int .i64 n) (.int .i64 s) (.int .i64 r) (.int .i64 p) (.int .i64 0) (.int .i64 c) ZB
      have RA := kp_row hHeld R3.out
      have KE := Kp.trans K3.out hHeld
      clear z0 z1 z2 z3 z4 z5 z6 z7 z8 fzz ZB
      obtain ⟨bk, hbk⟩ : ∃ x, w4.heap.size = x := ⟨_, rfl⟩
      have hb3 : w3.heap.size ≤ bk := by rw [← hbk]; exact hsz
      obtain ⟨wE, hwE⟩ : ∃ x, (((((((((w5.setCell ⟨w4.heap.size, 0, none⟩ (.int .i64 k)).setCell ⟨w4.heap.size, 1, none⟩ (.int .i64 f)).setCell ⟨w4.heap.size, 2, none⟩ (.int .i64 t)).setCell ⟨w4.heap.size, 3, none⟩ (.int .i64 n)).setCell ⟨w4.heap.size, 4, none⟩ (.int .i64 s)).setCell ⟨w4.heap.size, 5, none⟩ (.int .i64 r)).setCell ⟨w4.heap.size, 6, none⟩ (.int .i64 p)).setCell ⟨w4.heap.size, 7, none⟩ (.int .i64 0)).setCell ⟨w4.heap.size, 8, none⟩ (.int .i64 c)) = x := ⟨_, rfl⟩
      rw [hwE] at RB RA KE ⊢
      rw [hbk] at RB ⊢
      clear hwE hbk
      have hab : w.heap.size ≠ bk := by have := old_of_row R3.out; omega
      have hle : w.heap.size ≤ bk := by have := old_of_row R3.out; omega
      have RB2 : (wE.setCell ⟨bk, 7, none⟩ (.int .i64 o)).heap[bk]? = some (.cells #[.int .i64 k, .int .i64 f, .int .i64 t, .int .i64 n, .int .i64 s, .int .i64 r, .int .i64 p, .int .i64 o, .int .i64 c] 25) := (Joins.block_setCell RB _).trans rfl
      have RA2 : (wE.setCell ⟨bk, 7, none⟩ (.int .i64 o)).heap[w.heap.size]? = some (.cells #[.int .i64 k, .int .i64 f, .int .i64 t, .int .i64 n, .int .i64 s, .int .i64 r, .int .i64 p, .int .i64 o, .int .i64 c] 25) := by rw [Below.heap_setCell _ _ _ _ hab]; exact RA
      have fz := froz9 RB
      obtain ⟨x0, x1, x2, x3, x4, x5, x6, x7, x8⟩ := cells9 (RB2)
      obtain ⟨y0, y1, y2, y3, y4, y5, y6, y7, y8⟩ := cells9 (RA2)
      obtain ⟨e0, e1, e2, e3, e4, e5, e6, e7, e8⟩ := cells9 (RA)
      obtain ⟨b0, b1, b2, b3, b4, b5, b6, b7, b8⟩ := cells9 (RB)
      have KE := Lib.hid KE
      clear RB RA RB2 RA2 hab
      go_wp2
      go_ret
      exact ⟨by first | rfl | simp, Below.setCell KE.out hle _⟩
  · go_simp
    refine hK.out _ _ ?_ (fun hHeld => ?_)
    · exact Kp.trans ((Kp.refl w3).drew).drew (kp_alloc _ _)
    clear hK K
    refine wpAnyH_ready (rs := [1]) (by kernel_rfl) (by simp) ?_
    refine AllReadyH.cons rfl (fun K hK => ?_) AllReadyH.nil
    have KH := Lib.hid (Kp.trans K3.out hHeld)
    go_simp
    go_wp2_with (go_at_call 18; (with_reducible refine (HN1.out _ KH.out).mono ?_); rintro e w4 ⟨rfl, hk4⟩; have K4 := Lib.hid (Kp.trans hHeld hk4))
    refine hK.out _ _ ?_ (fun hHeld => ?_)
    · exact K4.out
    clear hK K
    refine wpAnyH_ready (rs := [6]) (by kernel_rfl) (by simp) ?_
    refine AllReadyH.cons rfl (fun K hK => ?_) AllReadyH.nil
    have KH := Lib.hid (Kp.trans K3.out hHeld)
    go_simp
    go_wp2_with (go_at_call 18; (with_reducible refine (HN2.out _ KH.out).mono ?_); rintro e w5 ⟨rfl, hk5⟩; have K5 := Lib.hid (Kp.trans hHeld hk5))
    refine hK.out _ _ ?_ (fun hHeld => ?_)
    · exact K5.out
    clear hK K
    refine wpAnyH_ready (rs := [8]) (by kernel_rfl) (by simp) ?_
    refine AllReadyH.cons rfl (fun K hK => ?_) AllReadyH.nil
    have hsz : w3.heap.size ≤ w3.heap.size := Nat.le_refl _
    have ZB := kp_row hk5 (kp_row hk4 (MapKept.heap_alloc w3 (.cells #[.int .i64 0, .int .i64 0, .int .i64 0, .int .i64 0, .int .i64 0, .int .i64 0, .int .i64 0, .int .i64 0, .int .i64 0] 25)).1)
    obtain ⟨z0, z1, z2, z3, z4, z5, z6, z7, z8⟩ := cells9 (ZB)
    have fzz := froz9 ZB
    go_simp
    refine hK.out _ _ ?_ (fun hHeld => ?_)
    · exact set9_kp K5.out hsz _ _ _ _ _ _ _ _ _
    clear hK K
    refine wpAnyH_done (by kernel_rfl) ?_ _
    have RB := set9 (.int .i64 k) (.int .i64 f) (.int .i64 t) (.int .i64 n) (.int .i64 s) (.int .i64 r) (.int .i64 p) (.int .i64 0) (.int .i64 c) ZB
    have RA := kp_row hHeld R3.out
    have KE := Kp.trans K3.out hHeld
    clear z0 z1 z2 z3 z4 z5 z6 z7 z8 fzz ZB
    obtain ⟨bk, hbk⟩ : ∃ x, w3.heap.size = x := ⟨_, rfl⟩
    have hb3 : w3.heap.size ≤ bk := by rw [← hbk]; exact hsz
    obtain ⟨wE, hwE⟩ : ∃ x, (((((((((w5.setCell ⟨w3.heap.size, 0, none⟩ (.int .i64 k)).setCell ⟨w3.heap.size, 1, none⟩ (.int .i64 f)).setCell ⟨w3.heap.size, 2, none⟩ (.int .i64 t)).setCell ⟨w3.heap.size, 3, none⟩ (.int .i64 n)).setCell ⟨w3.heap.size, 4, none⟩ (.int .i64 s)).setCell ⟨w3.heap.size, 5, none⟩ (.int .i64 r)).setCell ⟨w3.heap.size, 6, none⟩ (.int .i64 p)).setCell ⟨w3.heap.size, 7, none⟩ (.int .i64 0)).setCell ⟨w3.heap.size, 8, none⟩ (.int .i64 c)) = x := ⟨_, rfl⟩
    rw [hwE] at RB RA KE ⊢
    rw [hbk] at RB ⊢
    clear hwE hbk
    have hab : w.heap.size ≠ bk := by have := old_of_row R3.out; omega
    have hle : w.heap.size ≤ bk := by have := old_of_row R3.out; omega
    have RB2 : (wE.setCell ⟨bk, 7, none⟩ (.int .i64 o)).heap[bk]? = some (.cells #[.int .i64 k, .int .i64 f, .int .i64 t, .int .i64 n, .int .i64 s, .int .i64 r, .int .i64 p, .int .i64 o, .int .i64 c] 25) := (Joins.block_setCell RB _).trans rfl
    have RA2 : (wE.setCell ⟨bk, 7, none⟩ (.int .i64 o)).heap[w.heap.size]? = some (.cells #[.int .i64 k, .int .i64 f, .int .i64 t, .int .i64 n, .int .i64 s, .int .i64 r, .int .i64 p, .int .i64 o, .int .i64 c] 25) := by rw [Below.heap_setCell _ _ _ _ hab]; exact RA
    have fz := froz9 RB
    obtain ⟨x0, x1, x2, x3, x4, x5, x6, x7, x8⟩ := cells9 (RB2)
    obtain ⟨y0, y1, y2, y3, y4, y5, y6, y7, y8⟩ := cells9 (RA2)
    obtain ⟨e0, e1, e2, e3, e4, e5, e6, e7, e8⟩ := cells9 (RA)
    obtain ⟨b0, b1, b2, b3, b4, b5, b6, b7, b8⟩ := cells9 (RB)
    have KE := Lib.hid KE
    clear RB RA RB2 RA2 hab
    go_wp2
    go_ret
    exact ⟨by first | rfl | simp, Below.setCell KE.out hle _⟩

set_option maxRecDepth 100000 in
set_option maxHeartbeats 4000000 in
theorem unlike_tf (ads : List Addr) (m m2 : MM) (w : World) (C : LetC ads w) (ha : rightM m = true) (hb : rightM m2 = false) :
    Calls Tryd.prog 7 #[.agg m.cells, .agg m2.cells] w fun e w' => e = .returned (.bool true) ∧ Kp w w' := by
  have HA := Lib.hid (fun w1 (hk : Kp w w1) => alive8_any ads w1 (LetC.kp C hk))
  have HN1 := fun w1 (hk : Kp w w1) => C.answer w1 hk m 1 0
  have HN2 := fun w1 (hk : Kp w w1) => C.answer w1 hk (answerM m 1 0) m.k m.c
  rw [back_back] at HN2
  have hq := fun (w : World) => msg_eql m m w
  have hg := fun (op : BinOp) (x y : Operand) (w : World) => msg_guard op x y m m w
  simp only [decide_true] at hq
  have HE1 := fun w1 (hk : Kp w w1) => C.encOk w1 hk m ha
  have HE2 := fun w1 (hk : Kp w w1) => C.encBad w1 hk m2 hb
  obtain ⟨q4, h4⟩ := errI_some ads 4 (by decide)
  rw [h4] at HE2
  obtain ⟨x1, hx1⟩ : ∃ x, encM m = x := ⟨_, rfl⟩
  rw [hx1] at HE1
  obtain ⟨l1, hn1⟩ : ∃ x, x1.length = x := ⟨_, rfl⟩
  rw [hn1] at HE1
  obtain ⟨k, f, t, n, s, r, p, o, c⟩ := m
  obtain ⟨k2, f2, t2, n2, s2, r2, p2, o2, c2⟩ := m2
  dsimp only [MM.cells, answerM] at HN1 HN2 HE1 HE2 hq hg ⊢
  have HN1 := Lib.hid HN1
  have HN2 := Lib.hid HN2
  have HE1 := Lib.hid HE1
  have HE2 := Lib.hid HE2
  have kb := Kp.trans (kp_alloc w (.cells #[.int .i64 k, .int .i64 f, .int .i64 t, .int .i64 n, .int .i64 s, .int .i64 r, .int .i64 p, .int .i64 o, .int .i64 c] 25)) (kp_alloc (w.alloc (.cells #[.int .i64 k, .int .i64 f, .int .i64 t, .int .i64 n, .int .i64 s, .int .i64 r, .int .i64 p, .int .i64 o, .int .i64 c] 25)) (.cells #[.int .i64 k2, .int .i64 f2, .int .i64 t2, .int .i64 n2, .int .i64 s2, .int .i64 r2, .int .i64 p2, .int .i64 o2, .int .i64 c2] 25))
  have hr := kp_row (kp_alloc (w.alloc (.cells #[.int .i64 k, .int .i64 f, .int .i64 t, .int .i64 n, .int .i64 s, .int .i64 r, .int .i64 p, .int .i64 o, .int .i64 c] 25)) (.cells #[.int .i64 k2, .int .i64 f2, .int .i64 t2, .int .i64 n2, .int .i64 s2, .int .i64 r2, .int .i64 p2, .int .i64 o2, .int .i64 c2] 25)) (MapKept.heap_alloc w (.cells #[.int .i64 k, .int .i64 f, .int .i64 t, .int .i64 n, .int .i64 s, .int .i64 r, .int .i64 p, .int .i64 o, .int .i64 c] 25)).1
  have ht := enc_new1 w (.cells #[.int .i64 k, .int .i64 f, .int .i64 t, .int .i64 n, .int .i64 s, .int .i64 r, .int .i64 p, .int .i64 o, .int .i64 c] 25) (.cells #[.int .i64 k2, .int .i64 f2, .int .i64 t2, .int .i64 n2, .int .i64 s2, .int .i64 r2, .int .i64 p2, .int .i64 o2, .int .i64 c2] 25)
  have KB := Lib.hid kb
  have HR := Lib.hid hr
  have HT := Lib.hid ht
  clear kb hr ht C ha hb h4 hx1 hn1
  go_enter Tryd.func7, Tryd.ntmps7
  go_wp2_with (first
    | (go_at_call 8; (with_reducible refine (HA.out _ KB.out).mono ?_); rintro e w1 ⟨rfl, hk⟩; have K1 := Lib.hid (Kp.trans KB.out hk); have R1 := Lib.hid (kp_row hk HR.out); have T1 := Lib.hid (kp_row hk HT.out); obtain ⟨g0, g1, g2, g3, g4, g5, g6, g7, g8⟩ := cells9 (R1.out); obtain ⟨h0, h1, h2, h3, h4, h5, h6, h7, h8⟩ := cells9 (T1.out); clear hk)
    | (go_at_call 9; (with_reducible refine (HE1.out _ K1.out).mono ?_); rintro e w2 ⟨aw2, cw2, rfl, -, hs, hk⟩; have K2 := Lib.hid (Kp.trans K1.out hk); have Sw2 := Lib.hid hs; have R2 := Lib.hid (kp_row hk R1.out); have T2 := Lib.hid (kp_row hk T1.out); obtain ⟨u0, u1, u2, u3, u4, u5, u6, u7, u8⟩ := cells9 (R2.out); obtain ⟨v0, v1, v2, v3, v4, v5, v6, v7, v8⟩ := cells9 (T2.out); clear hk hs)
    | (go_at_call 9; (with_reducible refine (HE2.out _ K2.out).mono ?_); rintro e w3 ⟨rfl, hk⟩; have K3 := Lib.hid (Kp.trans K2.out hk); have R3 := Lib.hid (kp_row hk R2.out); have T3 := Lib.hid (kp_row hk T2.out); obtain ⟨i0, i1, i2, i3, i4, i5, i6, i7, i8⟩ := cells9 (R3.out); obtain ⟨j0, j1, j2, j3, j4, j5, j6, j7, j8⟩ := cells9 (T3.out); clear hk))
  clear g0 h0 u0 v0 g1 h1 u1 v1 g2 h2 u2 v2 g3 h3 u3 v3 g4 h4 u4 v4 g5 h5 u5 v5 g6 h6 u6 v6 g7 h7 u7 v7 g8 h8 u8 v8
  refine wp_region_held_drew (S := fun w' => Kp w3 w') (by kernel_rfl) ?_ (fun hHeld => ?_)
  · exact (Kp.refl w3).drew
  refine wpAnyH_take (i := 0) (v := ?_) rfl (by kernel_rfl) (by kernel_rfl) (by kernel_rfl) (fun _ _ _ h => h) (Or.inl ⟨by rfl, ?_⟩) (by assumption) ?_
  rotate_left
  · intro w hSw; go_simp; try with_reducible rfl
  go_simp
  refine wpAnyH_take (i := 1) (v := ?_) rfl (by kernel_rfl) (by kernel_rfl) (by kernel_rfl) (fun _ _ _ h => h) (Or.inl ⟨by rfl, ?_⟩) (by assumption) ?_
  rotate_left
  · intro w hSw; go_simp; try with_reducible rfl
  go_simp
  refine wpAnyH_take (i := 2) (v := ?_) rfl (by kernel_rfl) (by kernel_rfl) (by kernel_rfl) (fun _ _ _ h => h) (Or.inl ⟨by rfl, ?_⟩) (by assumption) ?_
  rotate_left
  · intro w hSw; go_simp; try with_reducible rfl
  go_simp
  refine wpAnyH_take (i := 3) (v := ?_) rfl (by kernel_rfl) (by kernel_rfl) (by kernel_rfl) (fun _ _ _ h => h) (Or.inl ⟨by rfl, ?_⟩) (by assumption) ?_
  rotate_left
  · intro w hSw; go_simp; try with_reducible rfl
  go_simp
  refine wpAnyH_take (i := 4) (v := ?_) rfl (by kernel_rfl) (by kernel_rfl) (by kernel_rfl) (fun _ _ _ h => h) (Or.inl ⟨by rfl, ?_⟩) (by assumption) ?_
  rotate_left
  · intro w hSw; go_simp; try with_reducible rfl
  go_simp
  refine wpAnyH_take (i := 5) (v := ?_) rfl (by kernel_rfl) (by kernel_rfl) (by kernel_rfl) (fun _ _ _ h => h) (Or.inl ⟨by rfl, ?_⟩) (by assumption) ?_
  rotate_left
  · intro w hSw; go_simp; try with_reducible rfl
  go_simp
  refine wpAnyH_take (i := 6) (v := ?_) rfl (by kernel_rfl) (by kernel_rfl) (by kernel_rfl) (fun _ _ _ h => h) (Or.inl ⟨by rfl, ?_⟩) (by assumption) ?_
  rotate_left
  · intro w hSw; go_simp; try with_reducible rfl
  go_simp
  refine wpAnyH_take (i := 7) (v := undef) rfl (by kernel_rfl) (by kernel_rfl) (by kernel_rfl) (fun _ _ _ h => h) (Or.inr ⟨by rfl, rfl⟩) (by assumption) ?_
  go_simp
  refine wpAnyH_take (i := 8) (v := undef) rfl (by kernel_rfl) (by kernel_rfl) (by kernel_rfl) (fun _ _ _ h => h) (Or.inr ⟨by rfl, rfl⟩) (by assumption) ?_
  go_simp
  refine wpAnyH_take (i := 9) (v := undef) rfl (by kernel_rfl) (by kernel_rfl) (by kernel_rfl) (fun _ _ _ h => h) (Or.inr ⟨by rfl, rfl⟩) (by assumption) ?_
  go_simp
  refine wpAnyH_take (i := 10) (v := undef) rfl (by kernel_rfl) (by kernel_rfl) (by kernel_rfl) (fun _ _ _ h => h) (Or.inr ⟨by rfl, rfl⟩) (by assumption) ?_
  go_simp
  refine wpAnyH_take (i := 11) (v := undef) rfl (by kernel_rfl) (by kernel_rfl) (by kernel_rfl) (fun _ _ _ h => h) (Or.inr ⟨by rfl, rfl⟩) (by assumption) ?_
  go_simp
  refine wpAnyH_take (i := 12) (v := undef) rfl (by kernel_rfl) (by kernel_rfl) (by kernel_rfl) (fun _ _ _ h => h) (Or.inr ⟨by rfl, rfl⟩) (by assumption) ?_
  go_simp
  refine wpAnyH_take (i := 13) (v := undef) rfl (by kernel_rfl) (by kernel_rfl) (by kernel_rfl) (fun _ _ _ h => h) (Or.inr ⟨by rfl, rfl⟩) (by assumption) ?_
  go_simp
  refine wpAnyH_take (i := 14) (v := undef) rfl (by kernel_rfl) (by kernel_rfl) (by kernel_rfl) (fun _ _ _ h => h) (Or.inr ⟨by rfl, rfl⟩) (by assumption) ?_
  go_simp
  refine wpAnyH_take (i := 15) (v := undef) rfl (by kernel_rfl) (by kernel_rfl) (by kernel_rfl) (fun _ _ _ h => h) (Or.inr ⟨by rfl, rfl⟩) (by assumption) ?_
  go_simp
  refine wpAnyH_take (i := 16) (v := ?_) rfl (by kernel_rfl) (by kernel_rfl) (by kernel_rfl) (fun _ _ _ h => h) (Or.inl ⟨by rfl, ?_⟩) (by assumption) ?_
  rotate_left
  · intro w hSw; go_simp; try with_reducible rfl
  go_simp
  refine wpAnyH_done (by kernel_rfl) ?_ _
  go_wp2
  refine wp_region_held_drew (S := fun w' => Kp w3 w') (by kernel_rfl) ?_ (fun hHeld => ?_)
  · exact ((Kp.refl w3).drew).drew
  refine wpAnyH_take (i := 0) (v := ?_) rfl (by kernel_rfl) (by kernel_rfl) (by kernel_rfl) (fun _ _ _ h => h) (Or.inl ⟨by rfl, ?_⟩) (by assumption) ?_
  rotate_left
  · intro w hSw; have qi0 := kp_cell hSw i0; have qi1 := kp_cell hSw i1; have qi2 := kp_cell hSw i2; have qi3 := kp_cell hSw i3; have qi4 := kp_cell hSw i4; have qi5 := kp_cell hSw i5; have qi6 := kp_cell hSw i6; have qi7 := kp_cell hSw i7; have qi8 := kp_cell hSw i8; go_simp; try with_reducible rfl
  go_simp
  refine wpAnyH_take (i := 2) (v := ?_) rfl (by kernel_rfl) (by kernel_rfl) (by kernel_rfl) (fun _ _ _ h => h) (Or.inl ⟨by rfl, ?_⟩) (by assumption) ?_
  rotate_left
  · intro w hSw; go_simp; try with_reducible rfl
  go_simp
  refine wpAnyH_take (i := 3) (v := ?_) rfl (by kernel_rfl) (by kernel_rfl) (by kernel_rfl) (fun _ _ _ h => h) (Or.inl ⟨by rfl, ?_⟩) (by assumption) ?_
  rotate_left
  · intro w hSw; have qi0 := kp_cell hSw i0; have qi1 := kp_cell hSw i1; have qi2 := kp_cell hSw i2; have qi3 := kp_cell hSw i3; have qi4 := kp_cell hSw i4; have qi5 := kp_cell hSw i5; have qi6 := kp_cell hSw i6; have qi7 := kp_cell hSw i7; have qi8 := kp_cell hSw i8; go_simp; try with_reducible rfl
  go_simp
  refine wpAnyH_take (i := 4) (v := ?_) rfl (by kernel_rfl) (by kernel_rfl) (by kernel_rfl) (fun _ _ _ h => h) (Or.inl ⟨by rfl, ?_⟩) (by assumption) ?_
  rotate_left
  · intro w hSw; go_simp; try with_reducible rfl
  go_simp
  refine wpAnyH_take (i := 5) (v := ?_) rfl (by kernel_rfl) (by kernel_rfl) (by kernel_rfl) (fun _ _ _ h => h) (Or.inl ⟨by rfl, ?_⟩) (by assumption) ?_
  rotate_left
  · intro w hSw; have qi0 := kp_cell hSw i0; have qi1 := kp_cell hSw i1; have qi2 := kp_cell hSw i2; have qi3 := kp_cell hSw i3; have qi4 := kp_cell hSw i4; have qi5 := kp_cell hSw i5; have qi6 := kp_cell hSw i6; have qi7 := kp_cell hSw i7; have qi8 := kp_cell hSw i8; go_simp; try with_reducible rfl
  go_simp
  refine wpAnyH_ready (rs := [1, 7]) (by kernel_rfl) (by simp) ?_
  refine AllReadyH.cons rfl (fun K hK => ?_) (AllReadyH.cons rfl (fun K hK => ?_) AllReadyH.nil)
  · have KH := Lib.hid (Kp.trans K3.out hHeld)
    go_simp
    go_wp2_with (go_at_call 18; (with_reducible refine (HN1.out _ KH.out).mono ?_); rintro e w4 ⟨rfl, hk4⟩; have K4 := Lib.hid (Kp.trans hHeld hk4))
    refine hK.out _ _ ?_ (fun hHeld => ?_)
    · exact K4.out
    clear hK K
    refine wpAnyH_ready (rs := [6, 7]) (by kernel_rfl) (by simp) ?_
    refine AllReadyH.cons rfl (fun K hK => ?_) (AllReadyH.cons rfl (fun K hK => ?_) AllReadyH.nil)
    · have KH := Lib.hid (Kp.trans K3.out hHeld)
      go_simp
      go_wp2_with (go_at_call 18; (with_reducible refine (HN2.out _ KH.out).mono ?_); rintro e w5 ⟨rfl, hk5⟩; have K5 := Lib.hid (Kp.trans hHeld hk5))
      refine hK.out _ _ ?_ (fun hHeld => ?_)
      · exact K5.out
      clear hK K
      refine wpAnyH_ready (rs := [7]) (by kernel_rfl) (by simp) ?_
      refine AllReadyH.cons rfl (fun K hK => ?_) AllReadyH.nil
      go_simp
      refine hK.out _ _ ?_ (fun hHeld => ?_)
      · exact Kp.trans K5.out (kp_alloc _ _)
      clear hK K
      refine wpAnyH_ready (rs := [8]) (by kernel_rfl) (by simp) ?_
      refine AllReadyH.cons rfl (fun K hK => ?_) AllReadyH.nil
      go_simp
      refine hK.out _ _ ?_ (fun hHeld => ?_)
      · exact Kp.trans K5.out (kp_alloc w5 (.cells #[.int .i64 k, .int .i64 f, .int .i64 t, .int .i64 n, .int .i64 s, .int .i64 r, .int .i64 p, .int .i64 0, .int .i64 c] 25))
      clear hK K
      refine wpAnyH_done (by kernel_rfl) ?_ _
      have hsz : w3.heap.size ≤ w5.heap.size := Below.size K5.out
      have RB := (MapKept.heap_alloc w5 (.cells #[.int .i64 k, .int .i64 f, .int .i64 t, .int .i64 n, .int .i64 s, .int .i64 r, .int .i64 p, .int .i64 0, .int .i64 c] 25)).1
      have RA := kp_row hHeld R3.out
      have KE := Kp.trans K3.out hHeld
      obtain ⟨bk, hbk⟩ : ∃ x, w5.heap.size = x := ⟨_, rfl⟩
      have hb3 : w3.heap.size ≤ bk := by rw [← hbk]; exact hsz
      obtain ⟨wE, hwE⟩ : ∃ x, w5.alloc (.cells #[.int .i64 k, .int .i64 f, .int .i64 t, .int .i64 n, .int .i64 s, .int .i64 r, .int .i64 p, .int .i64 0, .int .i64 c] 25) = x := ⟨_, rfl⟩
      rw [hwE] at RB RA KE ⊢
      rw [hbk] at RB ⊢
      clear hwE hbk
      have hab : w.heap.size ≠ bk := by have := old_of_row R3.out; omega
      have hle : w.heap.size ≤ bk := by have := old_of_row R3.out; omega
      have RB2 : (wE.setCell ⟨bk, 7, none⟩ (.int .i64 o)).heap[bk]? = some (.cells #[.int .i64 k, .int .i64 f, .int .i64 t, .int .i64 n, .int .i64 s, .int .i64 r, .int .i64 p, .int .i64 o, .int .i64 c] 25) := (Joins.block_setCell RB _).trans rfl
      have RA2 : (wE.setCell ⟨bk, 7, none⟩ (.int .i64 o)).heap[w.heap.size]? = some (.cells #[.int .i64 k, .int .i64 f, .int .i64 t, .int .i64 n, .int .i64 s, .int .i64 r, .int .i64 p, .int .i64 o, .int .i64 c] 25) := by rw [Below.heap_setCell _ _ _ _ hab]; exact RA
      have fz := froz9 RB
      obtain ⟨x0, x1, x2, x3, x4, x5, x6, x7, x8⟩ := cells9 (RB2)
      obtain ⟨y0, y1, y2, y3, y4, y5, y6, y7, y8⟩ := cells9 (RA2)
      obtain ⟨e0, e1, e2, e3, e4, e5, e6, e7, e8⟩ := cells9 (RA)
      obtain ⟨b0, b1, b2, b3, b4, b5, b6, b7, b8⟩ := cells9 (RB)
      have KE := Lib.hid KE
      clear RB RA RB2 RA2 hab
      go_wp2
      go_ret
      exact ⟨by first | rfl | simp, Below.setCell KE.out hle _⟩
    · go_simp
      refine hK.out _ _ ?_ (fun hHeld => ?_)
      · exact Kp.trans K4.out (kp_alloc _ _)
      clear hK K
      refine wpAnyH_ready (rs := [6]) (by kernel_rfl) (by simp) ?_
      refine AllReadyH.cons rfl (fun K hK => ?_) AllReadyH.nil
      have KH := Lib.hid (Kp.trans K3.out hHeld)
      go_simp
      go_wp2_with (go_at_call 18; (with_reducible refine (HN2.out _ KH.out).mono ?_); rintro e w5 ⟨rfl, hk5⟩; have K5 := Lib.hid (Kp.trans hHeld hk5))
      refine hK.out _ _ ?_ (fun hHeld => ?_)
      · exact K5.out
      clear hK K
      refine wpAnyH_ready (rs := [8]) (by kernel_rfl) (by simp) ?_
      refine AllReadyH.cons rfl (fun K hK => ?_) AllReadyH.nil
      have hsz : w3.heap.size ≤ w4.heap.size := Below.size K4.out
      have ZB := kp_row hk5 (MapKept.heap_alloc w4 (.cells #[.int .i64 0, .int .i64 0, .int .i64 0, .int .i64 0, .int .i64 0, .int .i64 0, .int .i64 0, .int .i64 0, .int .i64 0] 25)).1
      obtain ⟨z0, z1, z2, z3, z4, z5, z6, z7, z8⟩ := cells9 (ZB)
      have fzz := froz9 ZB
      go_simp
      refine hK.out _ _ ?_ (fun hHeld => ?_)
      · exact set9_kp K5.out hsz _ _ _ _ _ _ _ _ _
      clear hK K
      refine wpAnyH_done (by kernel_rfl) ?_ _
      have RB := set9 (.int .i64 k) (.int .i64 f) (.int .i64 t) (.int .i64 n) (.int .i64 s) (.int .i64 r) (.int .i64 p) (.int .i64 0) (.int .i64 c) ZB
      have RA := kp_row hHeld R3.out
      have KE := Kp.trans K3.out hHeld
      clear z0 z1 z2 z3 z4 z5 z6 z7 z8 fzz ZB
      obtain ⟨bk, hbk⟩ : ∃ x, w4.heap.size = x := ⟨_, rfl⟩
      have hb3 : w3.heap.size ≤ bk := by rw [← hbk]; exact hsz
      obtain ⟨wE, hwE⟩ : ∃ x, (((((((((w5.setCell ⟨w4.heap.size, 0, none⟩ (.int .i64 k)).setCell ⟨w4.heap.size, 1, none⟩ (.int .i64 f)).setCell ⟨w4.heap.size, 2, none⟩ (.int .i64 t)).setCell ⟨w4.heap.size, 3, none⟩ (.int .i64 n)).setCell ⟨w4.heap.size, 4, none⟩ (.int .i64 s)).setCell ⟨w4.heap.size, 5, none⟩ (.int .i64 r)).setCell ⟨w4.heap.size, 6, none⟩ (.int .i64 p)).setCell ⟨w4.heap.size, 7, none⟩ (.int .i64 0)).setCell ⟨w4.heap.size, 8, none⟩ (.int .i64 c)) = x := ⟨_, rfl⟩
      rw [hwE] at RB RA KE ⊢
      rw [hbk] at RB ⊢
      clear hwE hbk
      have hab : w.heap.size ≠ bk := by have := old_of_row R3.out; omega
      have hle : w.heap.size ≤ bk := by have := old_of_row R3.out; omega
      have RB2 : (wE.setCell ⟨bk, 7, none⟩ (.int .i64 o)).heap[bk]? = some (.cells #[.int .i64 k, .int .i64 f, .int .i64 t, .int .i64 n, .int .i64 s, .int .i64 r, .int .i64 p, .int .i64 o, .int .i64 c] 25) := (Joins.block_setCell RB _).trans rfl
      have RA2 : (wE.setCell ⟨bk, 7, none⟩ (.int .i64 o)).heap[w.heap.size]? = some (.cells #[.int .i64 k, .int .i64 f, .int .i64 t, .int .i64 n, .int .i64 s, .int .i64 r, .int .i64 p, .int .i64 o, .int .i64 c] 25) := by rw [Below.heap_setCell _ _ _ _ hab]; exact RA
      have fz := froz9 RB
      obtain ⟨x0, x1, x2, x3, x4, x5, x6, x7, x8⟩ := cells9 (RB2)
      obtain ⟨y0, y1, y2, y3, y4, y5, y6, y7, y8⟩ := cells9 (RA2)
      obtain ⟨e0, e1, e2, e3, e4, e5, e6, e7, e8⟩ := cells9 (RA)
      obtain ⟨b0, b1, b2, b3, b4, b5, b6, b7, b8⟩ := cells9 (RB)
      have KE := Lib.hid KE
      clear RB RA RB2 RA2 hab
      go_wp2
      go_ret
      exact ⟨by first | rfl | simp, Below.setCell KE.out hle _⟩
  · go_simp
    refine hK.out _ _ ?_ (fun hHeld => ?_)
    · exact Kp.trans ((Kp.refl w3).drew).drew (kp_alloc _ _)
    clear hK K
    refine wpAnyH_ready (rs := [1]) (by kernel_rfl) (by simp) ?_
    refine AllReadyH.cons rfl (fun K hK => ?_) AllReadyH.nil
    have KH := Lib.hid (Kp.trans K3.out hHeld)
    go_simp
    go_wp2_with (go_at_call 18; (with_reducible refine (HN1.out _ KH.out).mono ?_); rintro e w4 ⟨rfl, hk4⟩; have K4 := Lib.hid (Kp.trans hHeld hk4))
    refine hK.out _ _ ?_ (fun hHeld => ?_)
    · exact K4.out
    clear hK K
    refine wpAnyH_ready (rs := [6]) (by kernel_rfl) (by simp) ?_
    refine AllReadyH.cons rfl (fun K hK => ?_) AllReadyH.nil
    have KH := Lib.hid (Kp.trans K3.out hHeld)
    go_simp
    go_wp2_with (go_at_call 18; (with_reducible refine (HN2.out _ KH.out).mono ?_); rintro e w5 ⟨rfl, hk5⟩; have K5 := Lib.hid (Kp.trans hHeld hk5))
    refine hK.out _ _ ?_ (fun hHeld => ?_)
    · exact K5.out
    clear hK K
    refine wpAnyH_ready (rs := [8]) (by kernel_rfl) (by simp) ?_
    refine AllReadyH.cons rfl (fun K hK => ?_) AllReadyH.nil
    have hsz : w3.heap.size ≤ w3.heap.size := Nat.le_refl _
    have ZB := kp_row hk5 (kp_row hk4 (MapKept.heap_alloc w3 (.cells #[.int .i64 0, .int .i64 0, .int .i64 0, .int .i64 0, .int .i64 0, .int .i64 0, .int .i64 0, .int .i64 0, .int .i64 0] 25)).1)
    obtain ⟨z0, z1, z2, z3, z4, z5, z6, z7, z8⟩ := cells9 (ZB)
    have fzz := froz9 ZB
    go_simp
    refine hK.out _ _ ?_ (fun hHeld => ?_)
    · exact set9_kp K5.out hsz _ _ _ _ _ _ _ _ _
    clear hK K
    refine wpAnyH_done (by kernel_rfl) ?_ _
    have RB := set9 (.int .i64 k) (.int .i64 f) (.int .i64 t) (.int .i64 n) (.int .i64 s) (.int .i64 r) (.int .i64 p) (.int .i64 0) (.int .i64 c) ZB
    have RA := kp_row hHeld R3.out
    have KE := Kp.trans K3.out hHeld
    clear z0 z1 z2 z3 z4 z5 z6 z7 z8 fzz ZB
    obtain ⟨bk, hbk⟩ : ∃ x, w3.heap.size = x := ⟨_, rfl⟩
    have hb3 : w3.heap.size ≤ bk := by rw [← hbk]; exact hsz
    obtain ⟨wE, hwE⟩ : ∃ x, (((((((((w5.setCell ⟨w3.heap.size, 0, none⟩ (.int .i64 k)).setCell ⟨w3.heap.size, 1, none⟩ (.int .i64 f)).setCell ⟨w3.heap.size, 2, none⟩ (.int .i64 t)).setCell ⟨w3.heap.size, 3, none⟩ (.int .i64 n)).setCell ⟨w3.heap.size, 4, none⟩ (.int .i64 s)).setCell ⟨w3.heap.size, 5, none⟩ (.int .i64 r)).setCell ⟨w3.heap.size, 6, none⟩ (.int .i64 p)).setCell ⟨w3.heap.size, 7, none⟩ (.int .i64 0)).setCell ⟨w3.heap.size, 8, none⟩ (.int .i64 c)) = x := ⟨_, rfl⟩
    rw [hwE] at RB RA KE ⊢
    rw [hbk] at RB ⊢
    clear hwE hbk
    have hab : w.heap.size ≠ bk := by have := old_of_row R3.out; omega
    have hle : w.heap.size ≤ bk := by have := old_of_row R3.out; omega
    have RB2 : (wE.setCell ⟨bk, 7, none⟩ (.int .i64 o)).heap[bk]? = some (.cells #[.int .i64 k, .int .i64 f, .int .i64 t, .int .i64 n, .int .i64 s, .int .i64 r, .int .i64 p, .int .i64 o, .int .i64 c] 25) := (Joins.block_setCell RB _).trans rfl
    have RA2 : (wE.setCell ⟨bk, 7, none⟩ (.int .i64 o)).heap[w.heap.size]? = some (.cells #[.int .i64 k, .int .i64 f, .int .i64 t, .int .i64 n, .int .i64 s, .int .i64 r, .int .i64 p, .int .i64 o, .int .i64 c] 25) := by rw [Below.heap_setCell _ _ _ _ hab]; exact RA
    have fz := froz9 RB
    obtain ⟨x0, x1, x2, x3, x4, x5, x6, x7, x8⟩ := cells9 (RB2)
    obtain ⟨y0, y1, y2, y3, y4, y5, y6, y7, y8⟩ := cells9 (RA2)
    obtain ⟨e0, e1, e2, e3, e4, e5, e6, e7, e8⟩ := cells9 (RA)
    obtain ⟨b0, b1, b2, b3, b4, b5, b6, b7, b8⟩ := cells9 (RB)
    have KE := Lib.hid KE
    clear RB RA RB2 RA2 hab
    go_wp2
    go_ret
    exact ⟨by first | rfl | simp, Below.setCell KE.out hle _⟩

set_option maxRecDepth 100000 in
set_option maxHeartbeats 4000000 in
theorem unlike_ft (ads : List Addr) (m m2 : MM) (w : World) (C : LetC ads w) (ha : rightM m = false) (hb : rightM m2 = true) :
    Calls Tryd.prog 7 #[.agg m.cells, .agg m2.cells] w fun e w' => e = .returned (.bool true) ∧ Kp w w' := by
  have HA := Lib.hid (fun w1 (hk : Kp w w1) => alive8_any ads w1 (LetC.kp C hk))
  have HN1 := fun w1 (hk : Kp w w1) => C.answer w1 hk m 1 0
  have HN2 := fun w1 (hk : Kp w w1) => C.answer w1 hk (answerM m 1 0) m.k m.c
  rw [back_back] at HN2
  have hq := fun (w : World) => msg_eql m m w
  have hg := fun (op : BinOp) (x y : Operand) (w : World) => msg_guard op x y m m w
  simp only [decide_true] at hq
  have HE1 := fun w1 (hk : Kp w w1) => C.encBad w1 hk m ha
  have HE2 := fun w1 (hk : Kp w w1) => C.encOk w1 hk m2 hb
  obtain ⟨q4, h4⟩ := errI_some ads 4 (by decide)
  rw [h4] at HE1
  obtain ⟨x2, hx2⟩ : ∃ x, encM m2 = x := ⟨_, rfl⟩
  rw [hx2] at HE2
  obtain ⟨l2, hn2⟩ : ∃ x, x2.length = x := ⟨_, rfl⟩
  rw [hn2] at HE2
  obtain ⟨k, f, t, n, s, r, p, o, c⟩ := m
  obtain ⟨k2, f2, t2, n2, s2, r2, p2, o2, c2⟩ := m2
  dsimp only [MM.cells, answerM] at HN1 HN2 HE1 HE2 hq hg ⊢
  have HN1 := Lib.hid HN1
  have HN2 := Lib.hid HN2
  have HE1 := Lib.hid HE1
  have HE2 := Lib.hid HE2
  have kb := Kp.trans (kp_alloc w (.cells #[.int .i64 k, .int .i64 f, .int .i64 t, .int .i64 n, .int .i64 s, .int .i64 r, .int .i64 p, .int .i64 o, .int .i64 c] 25)) (kp_alloc (w.alloc (.cells #[.int .i64 k, .int .i64 f, .int .i64 t, .int .i64 n, .int .i64 s, .int .i64 r, .int .i64 p, .int .i64 o, .int .i64 c] 25)) (.cells #[.int .i64 k2, .int .i64 f2, .int .i64 t2, .int .i64 n2, .int .i64 s2, .int .i64 r2, .int .i64 p2, .int .i64 o2, .int .i64 c2] 25))
  have hr := kp_row (kp_alloc (w.alloc (.cells #[.int .i64 k, .int .i64 f, .int .i64 t, .int .i64 n, .int .i64 s, .int .i64 r, .int .i64 p, .int .i64 o, .int .i64 c] 25)) (.cells #[.int .i64 k2, .int .i64 f2, .int .i64 t2, .int .i64 n2, .int .i64 s2, .int .i64 r2, .int .i64 p2, .int .i64 o2, .int .i64 c2] 25)) (MapKept.heap_alloc w (.cells #[.int .i64 k, .int .i64 f, .int .i64 t, .int .i64 n, .int .i64 s, .int .i64 r, .int .i64 p, .int .i64 o, .int .i64 c] 25)).1
  have ht := enc_new1 w (.cells #[.int .i64 k, .int .i64 f, .int .i64 t, .int .i64 n, .int .i64 s, .int .i64 r, .int .i64 p, .int .i64 o, .int .i64 c] 25) (.cells #[.int .i64 k2, .int .i64 f2, .int .i64 t2, .int .i64 n2, .int .i64 s2, .int .i64 r2, .int .i64 p2, .int .i64 o2, .int .i64 c2] 25)
  have KB := Lib.hid kb
  have HR := Lib.hid hr
  have HT := Lib.hid ht
  clear kb hr ht C ha hb h4 hx2 hn2
  go_enter Tryd.func7, Tryd.ntmps7
  go_wp2_with (first
    | (go_at_call 8; (with_reducible refine (HA.out _ KB.out).mono ?_); rintro e w1 ⟨rfl, hk⟩; have K1 := Lib.hid (Kp.trans KB.out hk); have R1 := Lib.hid (kp_row hk HR.out); have T1 := Lib.hid (kp_row hk HT.out); obtain ⟨g0, g1, g2, g3, g4, g5, g6, g7, g8⟩ := cells9 (R1.out); obtain ⟨h0, h1, h2, h3, h4, h5, h6, h7, h8⟩ := cells9 (T1.out); clear hk)
    | (go_at_call 9; (with_reducible refine (HE1.out _ K1.out).mono ?_); rintro e w2 ⟨rfl, hk⟩; have K2 := Lib.hid (Kp.trans K1.out hk); have R2 := Lib.hid (kp_row hk R1.out); have T2 := Lib.hid (kp_row hk T1.out); obtain ⟨u0, u1, u2, u3, u4, u5, u6, u7, u8⟩ := cells9 (R2.out); obtain ⟨v0, v1, v2, v3, v4, v5, v6, v7, v8⟩ := cells9 (T2.out); clear hk)
    | (go_at_call 9; (with_reducible refine (HE2.out _ K2.out).mono ?_); rintro e w3 ⟨aw3, cw3, rfl, -, hs, hk⟩; have K3 := Lib.hid (Kp.trans K2.out hk); have Sw3 := Lib.hid hs; have R3 := Lib.hid (kp_row hk R2.out); have T3 := Lib.hid (kp_row hk T2.out); obtain ⟨i0, i1, i2, i3, i4, i5, i6, i7, i8⟩ := cells9 (R3.out); obtain ⟨j0, j1, j2, j3, j4, j5, j6, j7, j8⟩ := cells9 (T3.out); clear hk hs))
  clear g0 h0 u0 v0 g1 h1 u1 v1 g2 h2 u2 v2 g3 h3 u3 v3 g4 h4 u4 v4 g5 h5 u5 v5 g6 h6 u6 v6 g7 h7 u7 v7 g8 h8 u8 v8
  refine wp_region_held_drew (S := fun w' => Kp w3 w') (by kernel_rfl) ?_ (fun hHeld => ?_)
  · exact (Kp.refl w3).drew
  refine wpAnyH_take (i := 0) (v := ?_) rfl (by kernel_rfl) (by kernel_rfl) (by kernel_rfl) (fun _ _ _ h => h) (Or.inl ⟨by rfl, ?_⟩) (by assumption) ?_
  rotate_left
  · intro w hSw; go_simp; try with_reducible rfl
  go_simp
  refine wpAnyH_take (i := 1) (v := ?_) rfl (by kernel_rfl) (by kernel_rfl) (by kernel_rfl) (fun _ _ _ h => h) (Or.inl ⟨by rfl, ?_⟩) (by assumption) ?_
  rotate_left
  · intro w hSw; go_simp; try with_reducible rfl
  go_simp
  refine wpAnyH_take (i := 2) (v := ?_) rfl (by kernel_rfl) (by kernel_rfl) (by kernel_rfl) (fun _ _ _ h => h) (Or.inl ⟨by rfl, ?_⟩) (by assumption) ?_
  rotate_left
  · intro w hSw; go_simp; try with_reducible rfl
  go_simp
  refine wpAnyH_take (i := 3) (v := undef) rfl (by kernel_rfl) (by kernel_rfl) (by kernel_rfl) (fun _ _ _ h => h) (Or.inr ⟨by rfl, rfl⟩) (by assumption) ?_
  go_simp
  refine wpAnyH_take (i := 4) (v := undef) rfl (by kernel_rfl) (by kernel_rfl) (by kernel_rfl) (fun _ _ _ h => h) (Or.inr ⟨by rfl, rfl⟩) (by assumption) ?_
  go_simp
  refine wpAnyH_take (i := 5) (v := ?_) rfl (by kernel_rfl) (by kernel_rfl) (by kernel_rfl) (fun _ _ _ h => h) (Or.inl ⟨by rfl, ?_⟩) (by assumption) ?_
  rotate_left
  · intro w hSw; go_simp; try with_reducible rfl
  go_simp
  refine wpAnyH_take (i := 6) (v := ?_) rfl (by kernel_rfl) (by kernel_rfl) (by kernel_rfl) (fun _ _ _ h => h) (Or.inl ⟨by rfl, ?_⟩) (by assumption) ?_
  rotate_left
  · intro w hSw; go_simp; try with_reducible rfl
  go_simp
  refine wpAnyH_take (i := 7) (v := undef) rfl (by kernel_rfl) (by kernel_rfl) (by kernel_rfl) (fun _ _ _ h => h) (Or.inr ⟨by rfl, rfl⟩) (by assumption) ?_
  go_simp
  refine wpAnyH_take (i := 8) (v := undef) rfl (by kernel_rfl) (by kernel_rfl) (by kernel_rfl) (fun _ _ _ h => h) (Or.inr ⟨by rfl, rfl⟩) (by assumption) ?_
  go_simp
  refine wpAnyH_take (i := 9) (v := undef) rfl (by kernel_rfl) (by kernel_rfl) (by kernel_rfl) (fun _ _ _ h => h) (Or.inr ⟨by rfl, rfl⟩) (by assumption) ?_
  go_simp
  refine wpAnyH_take (i := 10) (v := undef) rfl (by kernel_rfl) (by kernel_rfl) (by kernel_rfl) (fun _ _ _ h => h) (Or.inr ⟨by rfl, rfl⟩) (by assumption) ?_
  go_simp
  refine wpAnyH_take (i := 11) (v := undef) rfl (by kernel_rfl) (by kernel_rfl) (by kernel_rfl) (fun _ _ _ h => h) (Or.inr ⟨by rfl, rfl⟩) (by assumption) ?_
  go_simp
  refine wpAnyH_take (i := 12) (v := undef) rfl (by kernel_rfl) (by kernel_rfl) (by kernel_rfl) (fun _ _ _ h => h) (Or.inr ⟨by rfl, rfl⟩) (by assumption) ?_
  go_simp
  refine wpAnyH_take (i := 13) (v := undef) rfl (by kernel_rfl) (by kernel_rfl) (by kernel_rfl) (fun _ _ _ h => h) (Or.inr ⟨by rfl, rfl⟩) (by assumption) ?_
  go_simp
  refine wpAnyH_take (i := 14) (v := undef) rfl (by kernel_rfl) (by kernel_rfl) (by kernel_rfl) (fun _ _ _ h => h) (Or.inr ⟨by rfl, rfl⟩) (by assumption) ?_
  go_simp
  refine wpAnyH_take (i := 15) (v := undef) rfl (by kernel_rfl) (by kernel_rfl) (by kernel_rfl) (fun _ _ _ h => h) (Or.inr ⟨by rfl, rfl⟩) (by assumption) ?_
  go_simp
  refine wpAnyH_take (i := 16) (v := ?_) rfl (by kernel_rfl) (by kernel_rfl) (by kernel_rfl) (fun _ _ _ h => h) (Or.inl ⟨by rfl, ?_⟩) (by assumption) ?_
  rotate_left
  · intro w hSw; go_simp; try with_reducible rfl
  go_simp
  refine wpAnyH_done (by kernel_rfl) ?_ _
  go_wp2
  refine wp_region_held_drew (S := fun w' => Kp w3 w') (by kernel_rfl) ?_ (fun hHeld => ?_)
  · exact ((Kp.refl w3).drew).drew
  refine wpAnyH_take (i := 0) (v := ?_) rfl (by kernel_rfl) (by kernel_rfl) (by kernel_rfl) (fun _ _ _ h => h) (Or.inl ⟨by rfl, ?_⟩) (by assumption) ?_
  rotate_left
  · intro w hSw; have qi0 := kp_cell hSw i0; have qi1 := kp_cell hSw i1; have qi2 := kp_cell hSw i2; have qi3 := kp_cell hSw i3; have qi4 := kp_cell hSw i4; have qi5 := kp_cell hSw i5; have qi6 := kp_cell hSw i6; have qi7 := kp_cell hSw i7; have qi8 := kp_cell hSw i8; go_simp; try with_reducible rfl
  go_simp
  refine wpAnyH_take (i := 2) (v := ?_) rfl (by kernel_rfl) (by kernel_rfl) (by kernel_rfl) (fun _ _ _ h => h) (Or.inl ⟨by rfl, ?_⟩) (by assumption) ?_
  rotate_left
  · intro w hSw; go_simp; try with_reducible rfl
  go_simp
  refine wpAnyH_take (i := 3) (v := ?_) rfl (by kernel_rfl) (by kernel_rfl) (by kernel_rfl) (fun _ _ _ h => h) (Or.inl ⟨by rfl, ?_⟩) (by assumption) ?_
  rotate_left
  · intro w hSw; have qi0 := kp_cell hSw i0; have qi1 := kp_cell hSw i1; have qi2 := kp_cell hSw i2; have qi3 := kp_cell hSw i3; have qi4 := kp_cell hSw i4; have qi5 := kp_cell hSw i5; have qi6 := kp_cell hSw i6; have qi7 := kp_cell hSw i7; have qi8 := kp_cell hSw i8; go_simp; try with_reducible rfl
  go_simp
  refine wpAnyH_take (i := 4) (v := ?_) rfl (by kernel_rfl) (by kernel_rfl) (by kernel_rfl) (fun _ _ _ h => h) (Or.inl ⟨by rfl, ?_⟩) (by assumption) ?_
  rotate_left
  · intro w hSw; go_simp; try with_reducible rfl
  go_simp
  refine wpAnyH_take (i := 5) (v := ?_) rfl (by kernel_rfl) (by kernel_rfl) (by kernel_rfl) (fun _ _ _ h => h) (Or.inl ⟨by rfl, ?_⟩) (by assumption) ?_
  rotate_left
  · intro w hSw; have qi0 := kp_cell hSw i0; have qi1 := kp_cell hSw i1; have qi2 := kp_cell hSw i2; have qi3 := kp_cell hSw i3; have qi4 := kp_cell hSw i4; have qi5 := kp_cell hSw i5; have qi6 := kp_cell hSw i6; have qi7 := kp_cell hSw i7; have qi8 := kp_cell hSw i8; go_simp; try with_reducible rfl
  go_simp
  refine wpAnyH_ready (rs := [1, 7]) (by kernel_rfl) (by simp) ?_
  refine AllReadyH.cons rfl (fun K hK => ?_) (AllReadyH.cons rfl (fun K hK => ?_) AllReadyH.nil)
  · have KH := Lib.hid (Kp.trans K3.out hHeld)
    go_simp
    go_wp2_with (go_at_call 18; (with_reducible refine (HN1.out _ KH.out).mono ?_); rintro e w4 ⟨rfl, hk4⟩; have K4 := Lib.hid (Kp.trans hHeld hk4))
    refine hK.out _ _ ?_ (fun hHeld => ?_)
    · exact K4.out
    clear hK K
    refine wpAnyH_ready (rs := [6, 7]) (by kernel_rfl) (by simp) ?_
    refine AllReadyH.cons rfl (fun K hK => ?_) (AllReadyH.cons rfl (fun K hK => ?_) AllReadyH.nil)
    · have KH := Lib.hid (Kp.trans K3.out hHeld)
      go_simp
      go_wp2_with (go_at_call 18; (with_reducible refine (HN2.out _ KH.out).mono ?_); rintro e w5 ⟨rfl, hk5⟩; have K5 := Lib.hid (Kp.trans hHeld hk5))
      refine hK.out _ _ ?_ (fun hHeld => ?_)
      · exact K5.out
      clear hK K
      refine wpAnyH_ready (rs := [7]) (by kernel_rfl) (by simp) ?_
      refine AllReadyH.cons rfl (fun K hK => ?_) AllReadyH.nil
      go_simp
      refine hK.out _ _ ?_ (fun hHeld => ?_)
      · exact Kp.trans K5.out (kp_alloc _ _)
      clear hK K
      refine wpAnyH_ready (rs := [8]) (by kernel_rfl) (by simp) ?_
      refine AllReadyH.cons rfl (fun K hK => ?_) AllReadyH.nil
      go_simp
      refine hK.out _ _ ?_ (fun hHeld => ?_)
      · exact Kp.trans K5.out (kp_alloc w5 (.cells #[.int .i64 k, .int .i64 f, .int .i64 t, .int .i64 n, .int .i64 s, .int .i64 r, .int .i64 p, .int .i64 0, .int .i64 c] 25))
      clear hK K
      refine wpAnyH_done (by kernel_rfl) ?_ _
      have hsz : w3.heap.size ≤ w5.heap.size := Below.size K5.out
      have RB := (MapKept.heap_alloc w5 (.cells #[.int .i64 k, .int .i64 f, .int .i64 t, .int .i64 n, .int .i64 s, .int .i64 r, .int .i64 p, .int .i64 0, .int .i64 c] 25)).1
      have RA := kp_row hHeld R3.out
      have KE := Kp.trans K3.out hHeld
      obtain ⟨bk, hbk⟩ : ∃ x, w5.heap.size = x := ⟨_, rfl⟩
      have hb3 : w3.heap.size ≤ bk := by rw [← hbk]; exact hsz
      obtain ⟨wE, hwE⟩ : ∃ x, w5.alloc (.cells #[.int .i64 k, .int .i64 f, .int .i64 t, .int .i64 n, .int .i64 s, .int .i64 r, .int .i64 p, .int .i64 0, .int .i64 c] 25) = x := ⟨_, rfl⟩
      rw [hwE] at RB RA KE ⊢
      rw [hbk] at RB ⊢
      clear hwE hbk
      have hab : w.heap.size ≠ bk := by have := old_of_row R3.out; omega
      have hle : w.heap.size ≤ bk := by have := old_of_row R3.out; omega
      have RB2 : (wE.setCell ⟨bk, 7, none⟩ (.int .i64 o)).heap[bk]? = some (.cells #[.int .i64 k, .int .i64 f, .int .i64 t, .int .i64 n, .int .i64 s, .int .i64 r, .int .i64 p, .int .i64 o, .int .i64 c] 25) := (Joins.block_setCell RB _).trans rfl
      have RA2 : (wE.setCell ⟨bk, 7, none⟩ (.int .i64 o)).heap[w.heap.size]? = some (.cells #[.int .i64 k, .int .i64 f, .int .i64 t, .int .i64 n, .int .i64 s, .int .i64 r, .int .i64 p, .int .i64 o, .int .i64 c] 25) := by rw [Below.heap_setCell _ _ _ _ hab]; exact RA
      have fz := froz9 RB
      obtain ⟨x0, x1, x2, x3, x4, x5, x6, x7, x8⟩ := cells9 (RB2)
      obtain ⟨y0, y1, y2, y3, y4, y5, y6, y7, y8⟩ := cells9 (RA2)
      obtain ⟨e0, e1, e2, e3, e4, e5, e6, e7, e8⟩ := cells9 (RA)
      obtain ⟨b0, b1, b2, b3, b4, b5, b6, b7, b8⟩ := cells9 (RB)
      have KE := Lib.hid KE
      clear RB RA RB2 RA2 hab
      go_wp2
      go_ret
      exact ⟨by first | rfl | simp, Below.setCell KE.out hle _⟩
    · go_simp
      refine hK.out _ _ ?_ (fun hHeld => ?_)
      · exact Kp.trans K4.out (kp_alloc _ _)
      clear hK K
      refine wpAnyH_ready (rs := [6]) (by kernel_rfl) (by simp) ?_
      refine AllReadyH.cons rfl (fun K hK => ?_) AllReadyH.nil
      have KH := Lib.hid (Kp.trans K3.out hHeld)
      go_simp
      go_wp2_with (go_at_call 18; (with_reducible refine (HN2.out _ KH.out).mono ?_); rintro e w5 ⟨rfl, hk5⟩; have K5 := Lib.hid (Kp.trans hHeld hk5))
      refine hK.out _ _ ?_ (fun hHeld => ?_)
      · exact K5.out
      clear hK K
      refine wpAnyH_ready (rs := [8]) (by kernel_rfl) (by simp) ?_
      refine AllReadyH.cons rfl (fun K hK => ?_) AllReadyH.nil
      have hsz : w3.heap.size ≤ w4.heap.size := Below.size K4.out
      have ZB := kp_row hk5 (MapKept.heap_alloc w4 (.cells #[.int .i64 0, .int .i64 0, .int .i64 0, .int .i64 0, .int .i64 0, .int .i64 0, .int .i64 0, .int .i64 0, .int .i64 0] 25)).1
      obtain ⟨z0, z1, z2, z3, z4, z5, z6, z7, z8⟩ := cells9 (ZB)
      have fzz := froz9 ZB
      go_simp
      refine hK.out _ _ ?_ (fun hHeld => ?_)
      · exact set9_kp K5.out hsz _ _ _ _ _ _ _ _ _
      clear hK K
      refine wpAnyH_done (by kernel_rfl) ?_ _
      have RB := set9 (.int .i64 k) (.int .i64 f) (.int .i64 t) (.int .i64 n) (.int .i64 s) (.int .i64 r) (.int .i64 p) (.int .i64 0) (.int .i64 c) ZB
      have RA := kp_row hHeld R3.out
      have KE := Kp.trans K3.out hHeld
      clear z0 z1 z2 z3 z4 z5 z6 z7 z8 fzz ZB
      obtain ⟨bk, hbk⟩ : ∃ x, w4.heap.size = x := ⟨_, rfl⟩
      have hb3 : w3.heap.size ≤ bk := by rw [← hbk]; exact hsz
      obtain ⟨wE, hwE⟩ : ∃ x, (((((((((w5.setCell ⟨w4.heap.size, 0, none⟩ (.int .i64 k)).setCell ⟨w4.heap.size, 1, none⟩ (.int .i64 f)).setCell ⟨w4.heap.size, 2, none⟩ (.int .i64 t)).setCell ⟨w4.heap.size, 3, none⟩ (.int .i64 n)).setCell ⟨w4.heap.size, 4, none⟩ (.int .i64 s)).setCell ⟨w4.heap.size, 5, none⟩ (.int .i64 r)).setCell ⟨w4.heap.size, 6, none⟩ (.int .i64 p)).setCell ⟨w4.heap.size, 7, none⟩ (.int .i64 0)).setCell ⟨w4.heap.size, 8, none⟩ (.int .i64 c)) = x := ⟨_, rfl⟩
      rw [hwE] at RB RA KE ⊢
      rw [hbk] at RB ⊢
      clear hwE hbk
      have hab : w.heap.size ≠ bk := by have := old_of_row R3.out; omega
      have hle : w.heap.size ≤ bk := by have := old_of_row R3.out; omega
      have RB2 : (wE.setCell ⟨bk, 7, none⟩ (.int .i64 o)).heap[bk]? = some (.cells #[.int .i64 k, .int .i64 f, .int .i64 t, .int .i64 n, .int .i64 s, .int .i64 r, .int .i64 p, .int .i64 o, .int .i64 c] 25) := (Joins.block_setCell RB _).trans rfl
      have RA2 : (wE.setCell ⟨bk, 7, none⟩ (.int .i64 o)).heap[w.heap.size]? = some (.cells #[.int .i64 k, .int .i64 f, .int .i64 t, .int .i64 n, .int .i64 s, .int .i64 r, .int .i64 p, .int .i64 o, .int .i64 c] 25) := by rw [Below.heap_setCell _ _ _ _ hab]; exact RA
      have fz := froz9 RB
      obtain ⟨x0, x1, x2, x3, x4, x5, x6, x7, x8⟩ := cells9 (RB2)
      obtain ⟨y0, y1, y2, y3, y4, y5, y6, y7, y8⟩ := cells9 (RA2)
      obtain ⟨e0, e1, e2, e3, e4, e5, e6, e7, e8⟩ := cells9 (RA)
      obtain ⟨b0, b1, b2, b3, b4, b5, b6, b7, b8⟩ := cells9 (RB)
      have KE := Lib.hid KE
      clear RB RA RB2 RA2 hab
      go_wp2
      go_ret
      exact ⟨by first | rfl | simp, Below.setCell KE.out hle _⟩
  · go_simp
    refine hK.out _ _ ?_ (fun hHeld => ?_)
    · exact Kp.trans ((Kp.refl w3).drew).drew (kp_alloc _ _)
    clear hK K
    refine wpAnyH_ready (rs := [1]) (by kernel_rfl) (by simp) ?_
    refine AllReadyH.cons rfl (fun K hK => ?_) AllReadyH.nil
    have KH := Lib.hid (Kp.trans K3.out hHeld)
    go_simp
    go_wp2_with (go_at_call 18; (with_reducible refine (HN1.out _ KH.out).mono ?_); rintro e w4 ⟨rfl, hk4⟩; have K4 := Lib.hid (Kp.trans hHeld hk4))
    refine hK.out _ _ ?_ (fun hHeld => ?_)
    · exact K4.out
    clear hK K
    refine wpAnyH_ready (rs := [6]) (by kernel_rfl) (by simp) ?_
    refine AllReadyH.cons rfl (fun K hK => ?_) AllReadyH.nil
    have KH := Lib.hid (Kp.trans K3.out hHeld)
    go_simp
    go_wp2_with (go_at_call 18; (with_reducible refine (HN2.out _ KH.out).mono ?_); rintro e w5 ⟨rfl, hk5⟩; have K5 := Lib.hid (Kp.trans hHeld hk5))
    refine hK.out _ _ ?_ (fun hHeld => ?_)
    · exact K5.out
    clear hK K
    refine wpAnyH_ready (rs := [8]) (by kernel_rfl) (by simp) ?_
    refine AllReadyH.cons rfl (fun K hK => ?_) AllReadyH.nil
    have hsz : w3.heap.size ≤ w3.heap.size := Nat.le_refl _
    have ZB := kp_row hk5 (kp_row hk4 (MapKept.heap_alloc w3 (.cells #[.int .i64 0, .int .i64 0, .int .i64 0, .int .i64 0, .int .i64 0, .int .i64 0, .int .i64 0, .int .i64 0, .int .i64 0] 25)).1)
    obtain ⟨z0, z1, z2, z3, z4, z5, z6, z7, z8⟩ := cells9 (ZB)
    have fzz := froz9 ZB
    go_simp
    refine hK.out _ _ ?_ (fun hHeld => ?_)
    · exact set9_kp K5.out hsz _ _ _ _ _ _ _ _ _
    clear hK K
    refine wpAnyH_done (by kernel_rfl) ?_ _
    have RB := set9 (.int .i64 k) (.int .i64 f) (.int .i64 t) (.int .i64 n) (.int .i64 s) (.int .i64 r) (.int .i64 p) (.int .i64 0) (.int .i64 c) ZB
    have RA := kp_row hHeld R3.out
    have KE := Kp.trans K3.out hHeld
    clear z0 z1 z2 z3 z4 z5 z6 z7 z8 fzz ZB
    obtain ⟨bk, hbk⟩ : ∃ x, w3.heap.size = x := ⟨_, rfl⟩
    have hb3 : w3.heap.size ≤ bk := by rw [← hbk]; exact hsz
    obtain ⟨wE, hwE⟩ : ∃ x, (((((((((w5.setCell ⟨w3.heap.size, 0, none⟩ (.int .i64 k)).setCell ⟨w3.heap.size, 1, none⟩ (.int .i64 f)).setCell ⟨w3.heap.size, 2, none⟩ (.int .i64 t)).setCell ⟨w3.heap.size, 3, none⟩ (.int .i64 n)).setCell ⟨w3.heap.size, 4, none⟩ (.int .i64 s)).setCell ⟨w3.heap.size, 5, none⟩ (.int .i64 r)).setCell ⟨w3.heap.size, 6, none⟩ (.int .i64 p)).setCell ⟨w3.heap.size, 7, none⟩ (.int .i64 0)).setCell ⟨w3.heap.size, 8, none⟩ (.int .i64 c)) = x := ⟨_, rfl⟩
    rw [hwE] at RB RA KE ⊢
    rw [hbk] at RB ⊢
    clear hwE hbk
    have hab : w.heap.size ≠ bk := by have := old_of_row R3.out; omega
    have hle : w.heap.size ≤ bk := by have := old_of_row R3.out; omega
    have RB2 : (wE.setCell ⟨bk, 7, none⟩ (.int .i64 o)).heap[bk]? = some (.cells #[.int .i64 k, .int .i64 f, .int .i64 t, .int .i64 n, .int .i64 s, .int .i64 r, .int .i64 p, .int .i64 o, .int .i64 c] 25) := (Joins.block_setCell RB _).trans rfl
    have RA2 : (wE.setCell ⟨bk, 7, none⟩ (.int .i64 o)).heap[w.heap.size]? = some (.cells #[.int .i64 k, .int .i64 f, .int .i64 t, .int .i64 n, .int .i64 s, .int .i64 r, .int .i64 p, .int .i64 o, .int .i64 c] 25) := by rw [Below.heap_setCell _ _ _ _ hab]; exact RA
    have fz := froz9 RB
    obtain ⟨x0, x1, x2, x3, x4, x5, x6, x7, x8⟩ := cells9 (RB2)
    obtain ⟨y0, y1, y2, y3, y4, y5, y6, y7, y8⟩ := cells9 (RA2)
    obtain ⟨e0, e1, e2, e3, e4, e5, e6, e7, e8⟩ := cells9 (RA)
    obtain ⟨b0, b1, b2, b3, b4, b5, b6, b7, b8⟩ := cells9 (RB)
    have KE := Lib.hid KE
    clear RB RA RB2 RA2 hab
    go_wp2
    go_ret
    exact ⟨by first | rfl | simp, Below.setCell KE.out hle _⟩

set_option maxRecDepth 100000 in
set_option maxHeartbeats 4000000 in
theorem unlike_ff (ads : List Addr) (m m2 : MM) (w : World) (C : LetC ads w) (ha : rightM m = false) (hb : rightM m2 = false) :
    Calls Tryd.prog 7 #[.agg m.cells, .agg m2.cells] w fun e w' => e = .returned (.bool true) ∧ Kp w w' := by
  have HA := Lib.hid (fun w1 (hk : Kp w w1) => alive8_any ads w1 (LetC.kp C hk))
  have HN1 := fun w1 (hk : Kp w w1) => C.answer w1 hk m 1 0
  have HN2 := fun w1 (hk : Kp w w1) => C.answer w1 hk (answerM m 1 0) m.k m.c
  rw [back_back] at HN2
  have hq := fun (w : World) => msg_eql m m w
  have hg := fun (op : BinOp) (x y : Operand) (w : World) => msg_guard op x y m m w
  simp only [decide_true] at hq
  have HE1 := fun w1 (hk : Kp w w1) => C.encBad w1 hk m ha
  have HE2 := fun w1 (hk : Kp w w1) => C.encBad w1 hk m2 hb
  obtain ⟨q4, h4⟩ := errI_some ads 4 (by decide)
  rw [h4] at HE1
  rw [h4] at HE2
  obtain ⟨k, f, t, n, s, r, p, o, c⟩ := m
  obtain ⟨k2, f2, t2, n2, s2, r2, p2, o2, c2⟩ := m2
  dsimp only [MM.cells, answerM] at HN1 HN2 HE1 HE2 hq hg ⊢
  have HN1 := Lib.hid HN1
  have HN2 := Lib.hid HN2
  have HE1 := Lib.hid HE1
  have HE2 := Lib.hid HE2
  have kb := Kp.trans (kp_alloc w (.cells #[.int .i64 k, .int .i64 f, .int .i64 t, .int .i64 n, .int .i64 s, .int .i64 r, .int .i64 p, .int .i64 o, .int .i64 c] 25)) (kp_alloc (w.alloc (.cells #[.int .i64 k, .int .i64 f, .int .i64 t, .int .i64 n, .int .i64 s, .int .i64 r, .int .i64 p, .int .i64 o, .int .i64 c] 25)) (.cells #[.int .i64 k2, .int .i64 f2, .int .i64 t2, .int .i64 n2, .int .i64 s2, .int .i64 r2, .int .i64 p2, .int .i64 o2, .int .i64 c2] 25))
  have hr := kp_row (kp_alloc (w.alloc (.cells #[.int .i64 k, .int .i64 f, .int .i64 t, .int .i64 n, .int .i64 s, .int .i64 r, .int .i64 p, .int .i64 o, .int .i64 c] 25)) (.cells #[.int .i64 k2, .int .i64 f2, .int .i64 t2, .int .i64 n2, .int .i64 s2, .int .i64 r2, .int .i64 p2, .int .i64 o2, .int .i64 c2] 25)) (MapKept.heap_alloc w (.cells #[.int .i64 k, .int .i64 f, .int .i64 t, .int .i64 n, .int .i64 s, .int .i64 r, .int .i64 p, .int .i64 o, .int .i64 c] 25)).1
  have ht := enc_new1 w (.cells #[.int .i64 k, .int .i64 f, .int .i64 t, .int .i64 n, .int .i64 s, .int .i64 r, .int .i64 p, .int .i64 o, .int .i64 c] 25) (.cells #[.int .i64 k2, .int .i64 f2, .int .i64 t2, .int .i64 n2, .int .i64 s2, .int .i64 r2, .int .i64 p2, .int .i64 o2, .int .i64 c2] 25)
  have KB := Lib.hid kb
  have HR := Lib.hid hr
  have HT := Lib.hid ht
  clear kb hr ht C ha hb h4
  go_enter Tryd.func7, Tryd.ntmps7
  go_wp2_with (first
    | (go_at_call 8; (with_reducible refine (HA.out _ KB.out).mono ?_); rintro e w1 ⟨rfl, hk⟩; have K1 := Lib.hid (Kp.trans KB.out hk); have R1 := Lib.hid (kp_row hk HR.out); have T1 := Lib.hid (kp_row hk HT.out); obtain ⟨g0, g1, g2, g3, g4, g5, g6, g7, g8⟩ := cells9 (R1.out); obtain ⟨h0, h1, h2, h3, h4, h5, h6, h7, h8⟩ := cells9 (T1.out); clear hk)
    | (go_at_call 9; (with_reducible refine (HE1.out _ K1.out).mono ?_); rintro e w2 ⟨rfl, hk⟩; have K2 := Lib.hid (Kp.trans K1.out hk); have R2 := Lib.hid (kp_row hk R1.out); have T2 := Lib.hid (kp_row hk T1.out); obtain ⟨u0, u1, u2, u3, u4, u5, u6, u7, u8⟩ := cells9 (R2.out); obtain ⟨v0, v1, v2, v3, v4, v5, v6, v7, v8⟩ := cells9 (T2.out); clear hk)
    | (go_at_call 9; (with_reducible refine (HE2.out _ K2.out).mono ?_); rintro e w3 ⟨rfl, hk⟩; have K3 := Lib.hid (Kp.trans K2.out hk); have R3 := Lib.hid (kp_row hk R2.out); have T3 := Lib.hid (kp_row hk T2.out); obtain ⟨i0, i1, i2, i3, i4, i5, i6, i7, i8⟩ := cells9 (R3.out); obtain ⟨j0, j1, j2, j3, j4, j5, j6, j7, j8⟩ := cells9 (T3.out); clear hk))
  clear g0 h0 u0 v0 g1 h1 u1 v1 g2 h2 u2 v2 g3 h3 u3 v3 g4 h4 u4 v4 g5 h5 u5 v5 g6 h6 u6 v6 g7 h7 u7 v7 g8 h8 u8 v8
  refine wp_region_held_drew (S := fun w' => Kp w3 w') (by kernel_rfl) ?_ (fun hHeld => ?_)
  · exact (Kp.refl w3).drew
  refine wpAnyH_take (i := 0) (v := ?_) rfl (by kernel_rfl) (by kernel_rfl) (by kernel_rfl) (fun _ _ _ h => h) (Or.inl ⟨by rfl, ?_⟩) (by assumption) ?_
  rotate_left
  · intro w hSw; go_simp; try with_reducible rfl
  go_simp
  refine wpAnyH_take (i := 1) (v := ?_) rfl (by kernel_rfl) (by kernel_rfl) (by kernel_rfl) (fun _ _ _ h => h) (Or.inl ⟨by rfl, ?_⟩) (by assumption) ?_
  rotate_left
  · intro w hSw; go_simp; try with_reducible rfl
  go_simp
  refine wpAnyH_take (i := 2) (v := ?_) rfl (by kernel_rfl) (by kernel_rfl) (by kernel_rfl) (fun _ _ _ h => h) (Or.inl ⟨by rfl, ?_⟩) (by assumption) ?_
  rotate_left
  · intro w hSw; go_simp; try with_reducible rfl
  go_simp
  refine wpAnyH_take (i := 3) (v := undef) rfl (by kernel_rfl) (by kernel_rfl) (by kernel_rfl) (fun _ _ _ h => h) (Or.inr ⟨by rfl, rfl⟩) (by assumption) ?_
  go_simp
  refine wpAnyH_take (i := 4) (v := undef) rfl (by kernel_rfl) (by kernel_rfl) (by kernel_rfl) (fun _ _ _ h => h) (Or.inr ⟨by rfl, rfl⟩) (by assumption) ?_
  go_simp
  refine wpAnyH_take (i := 5) (v := ?_) rfl (by kernel_rfl) (by kernel_rfl) (by kernel_rfl) (fun _ _ _ h => h) (Or.inl ⟨by rfl, ?_⟩) (by assumption) ?_
  rotate_left
  · intro w hSw; go_simp; try with_reducible rfl
  go_simp
  refine wpAnyH_take (i := 6) (v := ?_) rfl (by kernel_rfl) (by kernel_rfl) (by kernel_rfl) (fun _ _ _ h => h) (Or.inl ⟨by rfl, ?_⟩) (by assumption) ?_
  rotate_left
  · intro w hSw; go_simp; try with_reducible rfl
  go_simp
  refine wpAnyH_take (i := 7) (v := undef) rfl (by kernel_rfl) (by kernel_rfl) (by kernel_rfl) (fun _ _ _ h => h) (Or.inr ⟨by rfl, rfl⟩) (by assumption) ?_
  go_simp
  refine wpAnyH_take (i := 8) (v := undef) rfl (by kernel_rfl) (by kernel_rfl) (by kernel_rfl) (fun _ _ _ h => h) (Or.inr ⟨by rfl, rfl⟩) (by assumption) ?_
  go_simp
  refine wpAnyH_take (i := 9) (v := undef) rfl (by kernel_rfl) (by kernel_rfl) (by kernel_rfl) (fun _ _ _ h => h) (Or.inr ⟨by rfl, rfl⟩) (by assumption) ?_
  go_simp
  refine wpAnyH_take (i := 10) (v := undef) rfl (by kernel_rfl) (by kernel_rfl) (by kernel_rfl) (fun _ _ _ h => h) (Or.inr ⟨by rfl, rfl⟩) (by assumption) ?_
  go_simp
  refine wpAnyH_take (i := 11) (v := undef) rfl (by kernel_rfl) (by kernel_rfl) (by kernel_rfl) (fun _ _ _ h => h) (Or.inr ⟨by rfl, rfl⟩) (by assumption) ?_
  go_simp
  refine wpAnyH_take (i := 12) (v := undef) rfl (by kernel_rfl) (by kernel_rfl) (by kernel_rfl) (fun _ _ _ h => h) (Or.inr ⟨by rfl, rfl⟩) (by assumption) ?_
  go_simp
  refine wpAnyH_take (i := 13) (v := undef) rfl (by kernel_rfl) (by kernel_rfl) (by kernel_rfl) (fun _ _ _ h => h) (Or.inr ⟨by rfl, rfl⟩) (by assumption) ?_
  go_simp
  refine wpAnyH_take (i := 14) (v := undef) rfl (by kernel_rfl) (by kernel_rfl) (by kernel_rfl) (fun _ _ _ h => h) (Or.inr ⟨by rfl, rfl⟩) (by assumption) ?_
  go_simp
  refine wpAnyH_take (i := 15) (v := undef) rfl (by kernel_rfl) (by kernel_rfl) (by kernel_rfl) (fun _ _ _ h => h) (Or.inr ⟨by rfl, rfl⟩) (by assumption) ?_
  go_simp
  refine wpAnyH_take (i := 16) (v := ?_) rfl (by kernel_rfl) (by kernel_rfl) (by kernel_rfl) (fun _ _ _ h => h) (Or.inl ⟨by rfl, ?_⟩) (by assumption) ?_
  rotate_left
  · intro w hSw; go_simp; try with_reducible rfl
  go_simp
  refine wpAnyH_done (by kernel_rfl) ?_ _
  go_wp2
  refine wp_region_held_drew (S := fun w' => Kp w3 w') (by kernel_rfl) ?_ (fun hHeld => ?_)
  · exact ((Kp.refl w3).drew).drew
  refine wpAnyH_take (i := 0) (v := ?_) rfl (by kernel_rfl) (by kernel_rfl) (by kernel_rfl) (fun _ _ _ h => h) (Or.inl ⟨by rfl, ?_⟩) (by assumption) ?_
  rotate_left
  · intro w hSw; have qi0 := kp_cell hSw i0; have qi1 := kp_cell hSw i1; have qi2 := kp_cell hSw i2; have qi3 := kp_cell hSw i3; have qi4 := kp_cell hSw i4; have qi5 := kp_cell hSw i5; have qi6 := kp_cell hSw i6; have qi7 := kp_cell hSw i7; have qi8 := kp_cell hSw i8; go_simp; try with_reducible rfl
  go_simp
  refine wpAnyH_take (i := 2) (v := ?_) rfl (by kernel_rfl) (by kernel_rfl) (by kernel_rfl) (fun _ _ _ h => h) (Or.inl ⟨by rfl, ?_⟩) (by assumption) ?_
  rotate_left
  · intro w hSw; go_simp; try with_reducible rfl
  go_simp
  refine wpAnyH_take (i := 3) (v := ?_) rfl (by kernel_rfl) (by kernel_rfl) (by kernel_rfl) (fun _ _ _ h => h) (Or.inl ⟨by rfl, ?_⟩) (by assumption) ?_
  rotate_left
  · intro w hSw; have qi0 := kp_cell hSw i0; have qi1 := kp_cell hSw i1; have qi2 := kp_cell hSw i2; have qi3 := kp_cell hSw i3; have qi4 := kp_cell hSw i4; have qi5 := kp_cell hSw i5; have qi6 := kp_cell hSw i6; have qi7 := kp_cell hSw i7; have qi8 := kp_cell hSw i8; go_simp; try with_reducible rfl
  go_simp
  refine wpAnyH_take (i := 4) (v := ?_) rfl (by kernel_rfl) (by kernel_rfl) (by kernel_rfl) (fun _ _ _ h => h) (Or.inl ⟨by rfl, ?_⟩) (by assumption) ?_
  rotate_left
  · intro w hSw; go_simp; try with_reducible rfl
  go_simp
  refine wpAnyH_take (i := 5) (v := ?_) rfl (by kernel_rfl) (by kernel_rfl) (by kernel_rfl) (fun _ _ _ h => h) (Or.inl ⟨by rfl, ?_⟩) (by assumption) ?_
  rotate_left
  · intro w hSw; have qi0 := kp_cell hSw i0; have qi1 := kp_cell hSw i1; have qi2 := kp_cell hSw i2; have qi3 := kp_cell hSw i3; have qi4 := kp_cell hSw i4; have qi5 := kp_cell hSw i5; have qi6 := kp_cell hSw i6; have qi7 := kp_cell hSw i7; have qi8 := kp_cell hSw i8; go_simp; try with_reducible rfl
  go_simp
  refine wpAnyH_ready (rs := [1, 7]) (by kernel_rfl) (by simp) ?_
  refine AllReadyH.cons rfl (fun K hK => ?_) (AllReadyH.cons rfl (fun K hK => ?_) AllReadyH.nil)
  · have KH := Lib.hid (Kp.trans K3.out hHeld)
    go_simp
    go_wp2_with (go_at_call 18; (with_reducible refine (HN1.out _ KH.out).mono ?_); rintro e w4 ⟨rfl, hk4⟩; have K4 := Lib.hid (Kp.trans hHeld hk4))
    refine hK.out _ _ ?_ (fun hHeld => ?_)
    · exact K4.out
    clear hK K
    refine wpAnyH_ready (rs := [6, 7]) (by kernel_rfl) (by simp) ?_
    refine AllReadyH.cons rfl (fun K hK => ?_) (AllReadyH.cons rfl (fun K hK => ?_) AllReadyH.nil)
    · have KH := Lib.hid (Kp.trans K3.out hHeld)
      go_simp
      go_wp2_with (go_at_call 18; (with_reducible refine (HN2.out _ KH.out).mono ?_); rintro e w5 ⟨rfl, hk5⟩; have K5 := Lib.hid (Kp.trans hHeld hk5))
      refine hK.out _ _ ?_ (fun hHeld => ?_)
      · exact K5.out
      clear hK K
      refine wpAnyH_ready (rs := [7]) (by kernel_rfl) (by simp) ?_
      refine AllReadyH.cons rfl (fun K hK => ?_) AllReadyH.nil
      go_simp
      refine hK.out _ _ ?_ (fun hHeld => ?_)
      · exact Kp.trans K5.out (kp_alloc _ _)
      clear hK K
      refine wpAnyH_ready (rs := [8]) (by kernel_rfl) (by simp) ?_
      refine AllReadyH.cons rfl (fun K hK => ?_) AllReadyH.nil
      go_simp
      refine hK.out _ _ ?_ (fun hHeld => ?_)
      · exact Kp.trans K5.out (kp_alloc w5 (.cells #[.int .i64 k, .int .i64 f, .int .i64 t, .int .i64 n, .int .i64 s, .int .i64 r, .int .i64 p, .int .i64 0, .int .i64 c] 25))
      clear hK K
      refine wpAnyH_done (by kernel_rfl) ?_ _
      have hsz : w3.heap.size ≤ w5.heap.size := Below.size K5.out
      have RB := (MapKept.heap_alloc w5 (.cells #[.int .i64 k, .int .i64 f, .int .i64 t, .int .i64 n, .int .i64 s, .int .i64 r, .int .i64 p, .int .i64 0, .int .i64 c] 25)).1
      have RA := kp_row hHeld R3.out
      have KE := Kp.trans K3.out hHeld
      obtain ⟨bk, hbk⟩ : ∃ x, w5.heap.size = x := ⟨_, rfl⟩
      have hb3 : w3.heap.size ≤ bk := by rw [← hbk]; exact hsz
      obtain ⟨wE, hwE⟩ : ∃ x, w5.alloc (.cells #[.int .i64 k, .int .i64 f, .int .i64 t, .int .i64 n, .int .i64 s, .int .i64 r, .int .i64 p, .int .i64 0, .int .i64 c] 25) = x := ⟨_, rfl⟩
      rw [hwE] at RB RA KE ⊢
      rw [hbk] at RB ⊢
      clear hwE hbk
      have hab : w.heap.size ≠ bk := by have := old_of_row R3.out; omega
      have hle : w.heap.size ≤ bk := by have := old_of_row R3.out; omega
      have RB2 : (wE.setCell ⟨bk, 7, none⟩ (.int .i64 o)).heap[bk]? = some (.cells #[.int .i64 k, .int .i64 f, .int .i64 t, .int .i64 n, .int .i64 s, .int .i64 r, .int .i64 p, .int .i64 o, .int .i64 c] 25) := (Joins.block_setCell RB _).trans rfl
      have RA2 : (wE.setCell ⟨bk, 7, none⟩ (.int .i64 o)).heap[w.heap.size]? = some (.cells #[.int .i64 k, .int .i64 f, .int .i64 t, .int .i64 n, .int .i64 s, .int .i64 r, .int .i64 p, .int .i64 o, .int .i64 c] 25) := by rw [Below.heap_setCell _ _ _ _ hab]; exact RA
      have fz := froz9 RB
      obtain ⟨x0, x1, x2, x3, x4, x5, x6, x7, x8⟩ := cells9 (RB2)
      obtain ⟨y0, y1, y2, y3, y4, y5, y6, y7, y8⟩ := cells9 (RA2)
      obtain ⟨e0, e1, e2, e3, e4, e5, e6, e7, e8⟩ := cells9 (RA)
      obtain ⟨b0, b1, b2, b3, b4, b5, b6, b7, b8⟩ := cells9 (RB)
      have KE := Lib.hid KE
      clear RB RA RB2 RA2 hab
      go_wp2
      go_ret
      exact ⟨by first | rfl | simp, Below.setCell KE.out hle _⟩
    · go_simp
      refine hK.out _ _ ?_ (fun hHeld => ?_)
      · exact Kp.trans K4.out (kp_alloc _ _)
      clear hK K
      refine wpAnyH_ready (rs := [6]) (by kernel_rfl) (by simp) ?_
      refine AllReadyH.cons rfl (fun K hK => ?_) AllReadyH.nil
      have KH := Lib.hid (Kp.trans K3.out hHeld)
      go_simp
      go_wp2_with (go_at_call 18; (with_reducible refine (HN2.out _ KH.out).mono ?_); rintro e w5 ⟨rfl, hk5⟩; have K5 := Lib.hid (Kp.trans hHeld hk5))
      refine hK.out _ _ ?_ (fun hHeld => ?_)
      · exact K5.out
      clear hK K
      refine wpAnyH_ready (rs := [8]) (by kernel_rfl) (by simp) ?_
      refine AllReadyH.cons rfl (fun K hK => ?_) AllReadyH.nil
      have hsz : w3.heap.size ≤ w4.heap.size := Below.size K4.out
      have ZB := kp_row hk5 (MapKept.heap_alloc w4 (.cells #[.int .i64 0, .int .i64 0, .int .i64 0, .int .i64 0, .int .i64 0, .int .i64 0, .int .i64 0, .int .i64 0, .int .i64 0] 25)).1
      obtain ⟨z0, z1, z2, z3, z4, z5, z6, z7, z8⟩ := cells9 (ZB)
      have fzz := froz9 ZB
      go_simp
      refine hK.out _ _ ?_ (fun hHeld => ?_)
      · exact set9_kp K5.out hsz _ _ _ _ _ _ _ _ _
      clear hK K
      refine wpAnyH_done (by kernel_rfl) ?_ _
      have RB := set9 (.int .i64 k) (.int .i64 f) (.int .i64 t) (.int .i64 n) (.int .i64 s) (.int .i64 r) (.int .i64 p) (.int .i64 0) (.int .i64 c) ZB
      have RA := kp_row hHeld R3.out
      have KE := Kp.trans K3.out hHeld
      clear z0 z1 z2 z3 z4 z5 z6 z7 z8 fzz ZB
      obtain ⟨bk, hbk⟩ : ∃ x, w4.heap.size = x := ⟨_, rfl⟩
      have hb3 : w3.heap.size ≤ bk := by rw [← hbk]; exact hsz
      obtain ⟨wE, hwE⟩ : ∃ x, (((((((((w5.setCell ⟨w4.heap.size, 0, none⟩ (.int .i64 k)).setCell ⟨w4.heap.size, 1, none⟩ (.int .i64 f)).setCell ⟨w4.heap.size, 2, none⟩ (.int .i64 t)).setCell ⟨w4.heap.size, 3, none⟩ (.int .i64 n)).setCell ⟨w4.heap.size, 4, none⟩ (.int .i64 s)).setCell ⟨w4.heap.size, 5, none⟩ (.int .i64 r)).setCell ⟨w4.heap.size, 6, none⟩ (.int .i64 p)).setCell ⟨w4.heap.size, 7, none⟩ (.int .i64 0)).setCell ⟨w4.heap.size, 8, none⟩ (.int .i64 c)) = x := ⟨_, rfl⟩
      rw [hwE] at RB RA KE ⊢
      rw [hbk] at RB ⊢
      clear hwE hbk
      have hab : w.heap.size ≠ bk := by have := old_of_row R3.out; omega
      have hle : w.heap.size ≤ bk := by have := old_of_row R3.out; omega
      have RB2 : (wE.setCell ⟨bk, 7, none⟩ (.int .i64 o)).heap[bk]? = some (.cells #[.int .i64 k, .int .i64 f, .int .i64 t, .int .i64 n, .int .i64 s, .int .i64 r, .int .i64 p, .int .i64 o, .int .i64 c] 25) := (Joins.block_setCell RB _).trans rfl
      have RA2 : (wE.setCell ⟨bk, 7, none⟩ (.int .i64 o)).heap[w.heap.size]? = some (.cells #[.int .i64 k, .int .i64 f, .int .i64 t, .int .i64 n, .int .i64 s, .int .i64 r, .int .i64 p, .int .i64 o, .int .i64 c] 25) := by rw [Below.heap_setCell _ _ _ _ hab]; exact RA
      have fz := froz9 RB
      obtain ⟨x0, x1, x2, x3, x4, x5, x6, x7, x8⟩ := cells9 (RB2)
      obtain ⟨y0, y1, y2, y3, y4, y5, y6, y7, y8⟩ := cells9 (RA2)
      obtain ⟨e0, e1, e2, e3, e4, e5, e6, e7, e8⟩ := cells9 (RA)
      obtain ⟨b0, b1, b2, b3, b4, b5, b6, b7, b8⟩ := cells9 (RB)
      have KE := Lib.hid KE
      clear RB RA RB2 RA2 hab
      go_wp2
      go_ret
      exact ⟨by first | rfl | simp, Below.setCell KE.out hle _⟩
  · go_simp
    refine hK.out _ _ ?_ (fun hHeld => ?_)
    · exact Kp.trans ((Kp.refl w3).drew).drew (kp_alloc _ _)
    clear hK K
    refine wpAnyH_ready (rs := [1]) (by kernel_rfl) (by simp) ?_
    refine AllReadyH.cons rfl (fun K hK => ?_) AllReadyH.nil
    have KH := Lib.hid (Kp.trans K3.out hHeld)
    go_simp
    go_wp2_with (go_at_call 18; (with_reducible refine (HN1.out _ KH.out).mono ?_); rintro e w4 ⟨rfl, hk4⟩; have K4 := Lib.hid (Kp.trans hHeld hk4))
    refine hK.out _ _ ?_ (fun hHeld => ?_)
    · exact K4.out
    clear hK K
    refine wpAnyH_ready (rs := [6]) (by kernel_rfl) (by simp) ?_
    refine AllReadyH.cons rfl (fun K hK => ?_) AllReadyH.nil
    have KH := Lib.hid (Kp.trans K3.out hHeld)
    go_simp
    go_wp2_with (go_at_call 18; (with_reducible refine (HN2.out _ KH.out).mono ?_); rintro e w5 ⟨rfl, hk5⟩; have K5 := Lib.hid (Kp.trans hHeld hk5))
    refine hK.out _ _ ?_ (fun hHeld => ?_)
    · exact K5.out
    clear hK K
    refine wpAnyH_ready (rs := [8]) (by kernel_rfl) (by simp) ?_
    refine AllReadyH.cons rfl (fun K hK => ?_) AllReadyH.nil
    have hsz : w3.heap.size ≤ w3.heap.size := Nat.le_refl _
    have ZB := kp_row hk5 (kp_row hk4 (MapKept.heap_alloc w3 (.cells #[.int .i64 0, .int .i64 0, .int .i64 0, .int .i64 0, .int .i64 0, .int .i64 0, .int .i64 0, .int .i64 0, .int .i64 0] 25)).1)
    obtain ⟨z0, z1, z2, z3, z4, z5, z6, z7, z8⟩ := cells9 (ZB)
    have fzz := froz9 ZB
    go_simp
    refine hK.out _ _ ?_ (fun hHeld => ?_)
    · exact set9_kp K5.out hsz _ _ _ _ _ _ _ _ _
    clear hK K
    refine wpAnyH_done (by kernel_rfl) ?_ _
    have RB := set9 (.int .i64 k) (.int .i64 f) (.int .i64 t) (.int .i64 n) (.int .i64 s) (.int .i64 r) (.int .i64 p) (.int .i64 0) (.int .i64 c) ZB
    have RA := kp_row hHeld R3.out
    have KE := Kp.trans K3.out hHeld
    clear z0 z1 z2 z3 z4 z5 z6 z7 z8 fzz ZB
    obtain ⟨bk, hbk⟩ : ∃ x, w3.heap.size = x := ⟨_, rfl⟩
    have hb3 : w3.heap.size ≤ bk := by rw [← hbk]; exact hsz
    obtain ⟨wE, hwE⟩ : ∃ x, (((((((((w5.setCell ⟨w3.heap.size, 0, none⟩ (.int .i64 k)).setCell ⟨w3.heap.size, 1, none⟩ (.int .i64 f)).setCell ⟨w3.heap.size, 2, none⟩ (.int .i64 t)).setCell ⟨w3.heap.size, 3, none⟩ (.int .i64 n)).setCell ⟨w3.heap.size, 4, none⟩ (.int .i64 s)).setCell ⟨w3.heap.size, 5, none⟩ (.int .i64 r)).setCell ⟨w3.heap.size, 6, none⟩ (.int .i64 p)).setCell ⟨w3.heap.size, 7, none⟩ (.int .i64 0)).setCell ⟨w3.heap.size, 8, none⟩ (.int .i64 c)) = x := ⟨_, rfl⟩
    rw [hwE] at RB RA KE ⊢
    rw [hbk] at RB ⊢
    clear hwE hbk
    have hab : w.heap.size ≠ bk := by have := old_of_row R3.out; omega
    have hle : w.heap.size ≤ bk := by have := old_of_row R3.out; omega
    have RB2 : (wE.setCell ⟨bk, 7, none⟩ (.int .i64 o)).heap[bk]? = some (.cells #[.int .i64 k, .int .i64 f, .int .i64 t, .int .i64 n, .int .i64 s, .int .i64 r, .int .i64 p, .int .i64 o, .int .i64 c] 25) := (Joins.block_setCell RB _).trans rfl
    have RA2 : (wE.setCell ⟨bk, 7, none⟩ (.int .i64 o)).heap[w.heap.size]? = some (.cells #[.int .i64 k, .int .i64 f, .int .i64 t, .int .i64 n, .int .i64 s, .int .i64 r, .int .i64 p, .int .i64 o, .int .i64 c] 25) := by rw [Below.heap_setCell _ _ _ _ hab]; exact RA
    have fz := froz9 RB
    obtain ⟨x0, x1, x2, x3, x4, x5, x6, x7, x8⟩ := cells9 (RB2)
    obtain ⟨y0, y1, y2, y3, y4, y5, y6, y7, y8⟩ := cells9 (RA2)
    obtain ⟨e0, e1, e2, e3, e4, e5, e6, e7, e8⟩ := cells9 (RA)
    obtain ⟨b0, b1, b2, b3, b4, b5, b6, b7, b8⟩ := cells9 (RB)
    have KE := Lib.hid KE
    clear RB RA RB2 RA2 hab
    go_wp2
    go_ret
    exact ⟨by first | rfl | simp, Below.setCell KE.out hle _⟩

theorem unlike8_any (ads : List Addr) (m m2 : MM) (w : World) (C : LetC ads w) :
    Calls Tryd.prog 7 #[.agg m.cells, .agg m2.cells] w fun e w' => e = .returned (.bool true) ∧ Kp w w' := by
  cases ha : rightM m with
  | true =>
    cases hb : rightM m2 with
    | true => exact unlike_ok ads m m2 w C ha hb
    | false => exact unlike_tf ads m m2 w C ha hb
  | false =>
    cases hb : rightM m2 with
    | true => exact unlike_ft ads m m2 w C ha hb
    | false => exact unlike_ff ads m m2 w C ha hb
end Go.Proofs.YtfginhckeogafaaDoor

namespace Go.Proofs.YtfginhckeogafaaDoor
open Go.RowKit

theorem letterUnlike_walk (a b : MM) (W : World) (hL : laidMetH Tryd.prog Rows.letterUnlikeRow.laid W) :
    Calls Tryd.prog 7 #[.agg a.cells, .agg b.cells] W fun e w' => e = .returned (.bool true) ∧ Below W.heap.size W w' := by
  obtain ⟨⟨ads, V⟩, T⟩ := st_tab_of (l := Rows.letterUnlikeRow.laid) (by kernel_rfl) (by kernel_rfl) (by kernel_rfl) hL
  have C := letC_of ads W V T
  exact unlike8_any ads a b W C

end Go.Proofs.YtfginhckeogafaaDoor

namespace Go.Proofs.YtfginhckeogafaaDoor
open Go.ChangeShapes Go.WideShapes Go.ChangeAt Go.WideMaps Go.WideElems Go.RowKit


set_option maxRecDepth 100000 in
theorem letterUnlike_lifted (os : Os) (started : os.Started) (H : Type) (enc : TypeId × Value → H) :
    ReturnsInHanded {} Tryd.checked os 7 .any (fun w args => (Rows.letterUnlikeSpec.pre enc Tryd.prog Tryd.f7 [] false w args ∧ laidMetH Tryd.prog Rows.letterUnlikeRow.laid w) ∧ sizedMet enc Tryd.prog Tryd.f7 (OpenSpec.ofChange Rows.letterUnlikeSpec) false w args)
      (Rows.letterUnlikeSpec.post enc Tryd.prog Tryd.f7 false true false false) := by
  refine returnsInHanded_of_change_and (C := Tryd.checked) (X := fun w _ => laidMetH Tryd.prog Rows.letterUnlikeRow.laid w) (fun _ _ _ hh h => h.of_heap hh) own started (by kernel_rfl) Tryd.func7
    (ChangeSpec.witness_shaped (enc := enc) (C := Tryd.checked) (os := os) (X := fun w _ => laidMetH Tryd.prog Rows.letterUnlikeRow.laid w) false (World.laidAll Tryd.prog os Rows.letterUnlikeRow.laid) #[.agg #[.int .i64 0, .int .i64 0, .int .i64 0, .int .i64 0, .int .i64 0, .int .i64 0, .int .i64 0, .int .i64 0, .int .i64 0], .agg #[.int .i64 0, .int .i64 0, .int .i64 0, .int .i64 0, .int .i64 0, .int .i64 0, .int .i64 0, .int .i64 0, .int .i64 0]] 8 (World.laidAll_os _ _ _) (World.shaped_of_ZipB (by kernel_rfl) (by kernel_rfl)) (by kernel_rfl) (by kernel_rfl) (by kernel_rfl) (by rw [MakeChecks.laidMetH_plain _ _ _ (by kernel_rfl)]; exact laidMet_laidAll _ (by kernel_rfl) (by kernel_rfl))) ?_
  intro W base args ds gs before hval0 hW _ hsz hL _
  have hval : ∀ (j : Nat) t v, Tryd.f7.params[j]? = some t → args[j]? = some v → Value.okWide Tryd.prog W .any base t v := hval0
  have hW' := hW
  obtain ⟨p, q, hA0, hV, rfl, hfz, hnd⟩ := hW
  have hA : DataW.TrodAll enc Tryd.prog W 0 (fun _ => true) true Tryd.f7.params.toList args.toList ds p := hA0
  rw [Tryd.params7] at hA hval
  obtain ⟨v0, vs0, d0, ds0, p0, q0, e0, rfl, rfl, h0, r0⟩ := trodAll_cons hA
  obtain ⟨v1, vs1, d1, ds1, p1, q1, e1, rfl, rfl, h1, r1⟩ := trodAll_cons r0
  obtain ⟨rfl, rfl, rfl⟩ := trodAll_nil r1
  obtain rfl : args = #[v0, v1] := by cases args; simp_all
  obtain ⟨rfl, rfl⟩ := trodVars_none hV
  obtain ⟨a, rfl⟩ := open_msg (hval 0 25 v0 rfl rfl) h0
  obtain ⟨b, rfl⟩ := open_msg (hval 1 25 v1 rfl rfl) h1
  clear hA0 hval0
  refine (letterUnlike_walk a b W   hL).mono fun e W' ⟨he, hw⟩ => ?_
  subst he
  exact ⟨_, rfl, law_post laidOut hW' rfl rfl rfl Tryd.underlying4 (par_ok (by kernel_rfl)) hw⟩

theorem letterUnlike_said : Rows.LetterUnlikeSaid :=
  OpenClaim.holds_of_wide 7 Tryd.f7 rfl rfl rfl rfl rfl rfl rfl ⟨rfl, rfl, rfl, rfl, rfl⟩ rfl rfl rfl rfl rfl (by kernel_rfl) Tryd.func7 (by kernel_rfl)
    (of_decide_eq_true (by kernel_rfl)) (by unfold Func.isWrapper; first | (rw [if_pos (by decide +kernel)]; kernel_rfl) | (rw [if_neg (by decide +kernel)]; exact ⟨rfl, rfl⟩))
    (fun os started H enc _ => letterUnlike_lifted os started H enc)

theorem letterUnlike_holds : Rows.LetterUnlikeCardSaid :=
  Claim7.holds_tied_plain_at .later [] _ _ _ _ letterUnlike_said (fun _ h => by cases h) (by kernel_rfl) (fun _ h => by cases h) letterUnlike_row_tie rfl ⟨rfl, rfl⟩ (by kernel_rfl) rfl
    (fun f fn hf hfn => by
      obtain rfl : f = 7 := Option.some.inj ((show Tryd.prog.funcNamed "liaison/liaisonlaw08.LetterUnlike" = some 7 by kernel_rfl).symm.trans hf) |>.symm
      obtain rfl : fn = Tryd.f7 := (Option.some.inj (Tryd.func7.symm.trans hfn)).symm
      exact ⟨by kernel_rfl, stand_ok (P := Tryd.prog) (by kernel_rfl)⟩)
    (by kernel_rfl)
end Go.Proofs.YtfginhckeogafaaDoor

