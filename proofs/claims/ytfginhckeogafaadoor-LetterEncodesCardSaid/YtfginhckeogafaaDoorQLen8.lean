/-
  LetterEncodes: for every message, letter.Right tells whether it is right; letter.Encode answers the document's bytes of a right one, which letter.Decode makes to it again, and ErrForm without bytes for all others. Condition: package api's errors and strconv's table of powers hold what their declarations lay.
-/
import Derived.Test.YtfginhckeogafaaDoorPkI
import Derived.Test.YtfginhckeogafaaDoorPkA
import Derived.Deep.RegionHeld3
import Derived.Test.YtfginhckeogafaaDoorRows
import Derived.Test.YtfginhckeogafaaDoorPkG
import Derived.Test.YtfginhckeogafaaDoorCards
import Derived.Test.YtfginhckeogafaaDoorTie
import Derived.SevenTiedAt
import Derived.Lay
import Derived.MakeChecks

namespace Go.Proofs.YtfginhckeogafaaDoor
open Go.RowKit Go.ChangeShapes Go.WideShapes

set_option maxRecDepth 100000 in
set_option maxHeartbeats 4000000 in
theorem encodes_bad (ads : List Addr) (m : MM) (w : World) (V : St ads w) (C : LetC ads w) (hm : rightM m = false) :
    Calls Tryd.prog 3 #[.agg m.cells] w fun e w' => e = .returned (.bool true) ∧ Kp w w' := by
  have HA := Lib.hid (fun w1 (hk : Kp w w1) => alive8_any ads w1 (LetC.kp C hk))
  have HRT := fun w1 (hk : Kp w w1) => C.right w1 hk m
  have HRF := fun w1 => refRight8_any m w1
  rw [hm] at HRT HRF
  have HE := fun w1 (hk : Kp w w1) => C.encBad w1 hk m hm
  have HN := fun w1 (hk : Kp w w1) => num_errN ads w1 (V.below hk) 4 (by decide) (by decide)
  obtain ⟨q4, h4⟩ := errI_some ads 4 (by decide)
  rw [h4] at HE HN
  obtain ⟨k, f, t, n, s, r, p, o, c⟩ := m
  dsimp only [MM.cells] at HRT HRF HE ⊢
  have HRT := Lib.hid HRT
  have HRF := Lib.hid HRF
  have HE := Lib.hid HE
  have HN := Lib.hid HN
  have kb := kp_alloc w (.cells #[.int .i64 k, .int .i64 f, .int .i64 t, .int .i64 n, .int .i64 s, .int .i64 r, .int .i64 p, .int .i64 o, .int .i64 c] 25)
  have hr := (MapKept.heap_alloc w (.cells #[.int .i64 k, .int .i64 f, .int .i64 t, .int .i64 n, .int .i64 s, .int .i64 r, .int .i64 p, .int .i64 o, .int .i64 c] 25)).1
  have KB := Lib.hid kb
  have HR := Lib.hid hr
  clear kb hr C V hm h4
  go_enter Tryd.func3, Tryd.ntmps3
  go_wp2_with (first
    | (go_at_call 8; (with_reducible refine (HA.out _ KB.out).mono ?_); rintro e w1 ⟨rfl, hk⟩; have K1 := Lib.hid (Kp.trans KB.out hk); have R1 := Lib.hid (kp_row hk HR.out); obtain ⟨g0, g1, g2, g3, g4, g5, g6, g7, g8⟩ := cells9 (R1.out); clear hk)
    | (go_at_call 9; (with_reducible refine (HE.out _ K1.out).mono ?_); rintro e w2 ⟨rfl, hk⟩; have K2 := Lib.hid (Kp.trans K1.out hk); have R2 := Lib.hid (kp_row hk R1.out); obtain ⟨h0, h1, h2, h3, h4, h5, h6, h7, h8⟩ := cells9 (R2.out); clear hk))
  refine wp_region_held_drew (S := fun w' => Kp w2 w') (by kernel_rfl) ?_ (fun hHeld => ?_)
  · exact (Kp.refl w2).drew
  refine wpAnyH_take (i := 0) (v := ?_) rfl (by kernel_rfl) (by kernel_rfl) (by kernel_rfl) (fun _ _ _ h => h) (Or.inl ⟨by rfl, ?_⟩) (by assumption) ?_
  rotate_left
  · intro w hSw; have qh0 := kp_cell hSw h0; have qh1 := kp_cell hSw h1; have qh2 := kp_cell hSw h2; have qh3 := kp_cell hSw h3; have qh4 := kp_cell hSw h4; have qh5 := kp_cell hSw h5; have qh6 := kp_cell hSw h6; have qh7 := kp_cell hSw h7; have qh8 := kp_cell hSw h8; go_simp; try with_reducible rfl
  go_simp
  refine wpAnyH_take (i := 2) (v := ?_) rfl (by kernel_rfl) (by kernel_rfl) (by kernel_rfl) (fun _ _ _ h => h) (Or.inl ⟨by rfl, ?_⟩) (by assumption) ?_
  rotate_left
  · intro w hSw; have qh0 := kp_cell hSw h0; have qh1 := kp_cell hSw h1; have qh2 := kp_cell hSw h2; have qh3 := kp_cell hSw h3; have qh4 := kp_cell hSw h4; have qh5 := kp_cell hSw h5; have qh6 := kp_cell hSw h6; have qh7 := kp_cell hSw h7; have qh8 := kp_cell hSw h8; go_simp; try with_reducible rfl
  go_simp
  refine wpAnyH_ready (rs := [1]) (by kernel_rfl) (by simp) ?_
  refine AllReadyH.cons rfl (fun K hK => ?_) AllReadyH.nil
  go_simp
  go_wp2_with (go_at_call 10; (with_reducible refine (HRT.out _ (Kp.trans K2.out hHeld)).mono ?_); rintro e w3 ⟨rfl, hk3⟩; have K3 := Lib.hid (Kp.trans hHeld hk3); clear hk3)
  refine hK.out _ _ ?_ (fun hHeld => ?_)
  · exact K3.out
  clear hK K
  refine wpAnyH_ready (rs := [3]) (by kernel_rfl) (by simp) ?_
  refine AllReadyH.cons rfl (fun K hK => ?_) AllReadyH.nil
  go_simp
  go_wp2_with (go_at_call 11; (with_reducible refine (HRF.out _).mono ?_); rintro e w4 ⟨rfl, hk4⟩; have K4 := Lib.hid (Kp.trans hHeld hk4); clear hk4)
  refine hK.out _ _ ?_ (fun hHeld => ?_)
  · exact K4.out
  clear hK K
  refine wpAnyH_take (i := 4) (v := ?_) rfl (by kernel_rfl) (by kernel_rfl) (by kernel_rfl) (fun _ _ _ h => h) (Or.inl ⟨by rfl, ?_⟩) (by assumption) ?_
  rotate_left
  · intro w hSw; go_simp; try with_reducible rfl
  go_simp
  refine wpAnyH_done (by kernel_rfl) ?_ _
  have R4 := Lib.hid (kp_row K4.out R2.out)
  obtain ⟨i0, i1, i2, i3, i4, i5, i6, i7, i8⟩ := cells9 (R4.out)
  go_wp2_with (first
    | (go_at_call 11; (with_reducible refine (HRF.out _).mono ?_); rintro e w5 ⟨rfl, hk5⟩; have K5 := Lib.hid (Kp.trans (Kp.trans K2.out K4.out) hk5); clear hk5)
    | (go_at_call 12; (with_reducible refine (HN.out _ K5.out).mono ?_); rintro e w6 ⟨rfl, hk6⟩; have K6 := Lib.hid (Kp.trans K5.out hk6); clear hk6))
  go_ret
  exact ⟨by first | rfl | simp, K6.out⟩

set_option maxRecDepth 100000 in
set_option maxHeartbeats 4000000 in
theorem encodes_ok (ads : List Addr) (m : MM) (w : World) (C : LetC ads w) (hm : rightM m = true) :
    Calls Tryd.prog 3 #[.agg m.cells] w fun e w' => e = .returned (.bool true) ∧ Kp w w' := by
  have HA := Lib.hid (fun w1 (hk : Kp w w1) => alive8_any ads w1 (LetC.kp C hk))
  have HRT := fun w1 (hk : Kp w w1) => C.right w1 hk m
  have HRF := fun w1 => refRight8_any m w1
  rw [hm] at HRT HRF
  have HE := fun w1 (hk : Kp w w1) => C.encOk w1 hk m hm
  have HD := fun w1 (hk : Kp w w1) (a : Option Addr) (c : Nat) (n : Nat) (hn : (encM m).length = n) (hc : n ≤ c) => C.dec w1 hk a c (encM m) n hn (enc_in m) hc
  have HRE := fun w1 => refEncode8_any m (rightM_okn hm) w1
  rw [dec_enc hm] at HD
  have hq := fun (w : World) => msg_eql m m w
  have hg := fun (op : BinOp) (a b : Operand) (w : World) => msg_guard op a b m m w
  simp only [decide_true, errI_nil] at hq HD
  obtain ⟨eb, heb⟩ : ∃ x, encM m = x := ⟨_, rfl⟩
  rw [heb] at HE HD HRE
  obtain ⟨n', hn'⟩ : ∃ x, eb.length = x := ⟨_, rfl⟩
  rw [hn'] at HE
  obtain ⟨ss, hss⟩ : ∃ x, strOfNums eb = x := ⟨_, rfl⟩
  obtain ⟨k, f, t, n, s, r, p, o, c⟩ := m
  dsimp only [MM.cells] at HRT HRF HE HD HRE hq hg ⊢
  have HRT := Lib.hid HRT
  have HRF := Lib.hid HRF
  have HE := Lib.hid HE
  have HD := Lib.hid HD
  have HRE := Lib.hid HRE
  have HSS := Lib.hid hss
  have HLN := Lib.hid hn'
  have kb := kp_alloc w (.cells #[.int .i64 k, .int .i64 f, .int .i64 t, .int .i64 n, .int .i64 s, .int .i64 r, .int .i64 p, .int .i64 o, .int .i64 c] 25)
  have hr := (MapKept.heap_alloc w (.cells #[.int .i64 k, .int .i64 f, .int .i64 t, .int .i64 n, .int .i64 s, .int .i64 r, .int .i64 p, .int .i64 o, .int .i64 c] 25)).1
  have KB := Lib.hid kb
  have HR := Lib.hid hr
  clear kb hr C hm heb hss hn'
  go_enter Tryd.func3, Tryd.ntmps3
  go_wp2_with (first
    | (go_at_call 8; (with_reducible refine (HA.out _ KB.out).mono ?_); rintro e w1 ⟨rfl, hk⟩; have K1 := Lib.hid (Kp.trans KB.out hk); have R1 := Lib.hid (kp_row hk HR.out); obtain ⟨g0, g1, g2, g3, g4, g5, g6, g7, g8⟩ := cells9 (R1.out); clear hk)
    | (go_at_call 9; (with_reducible refine (HE.out _ K1.out).mono ?_); rintro e w2 ⟨a2, c2, rfl, hc2, hs2, hk⟩; have K2 := Lib.hid (Kp.trans K1.out hk); have R2 := Lib.hid (kp_row hk R1.out); obtain ⟨h0, h1, h2, h3, h4, h5, h6, h7, h8⟩ := cells9 (R2.out); have S2 := Lib.hid hs2; clear hk hs2))
  refine wp_region_held_drew (S := fun w' => Kp w2 w') (by kernel_rfl) ?_ (fun hHeld => ?_)
  · exact (Kp.refl w2).drew
  refine wpAnyH_take (i := 0) (v := ?_) rfl (by kernel_rfl) (by kernel_rfl) (by kernel_rfl) (fun _ _ _ h => h) (Or.inl ⟨by rfl, ?_⟩) (by assumption) ?_
  rotate_left
  · intro w hSw; have qh0 := kp_cell hSw h0; have qh1 := kp_cell hSw h1; have qh2 := kp_cell hSw h2; have qh3 := kp_cell hSw h3; have qh4 := kp_cell hSw h4; have qh5 := kp_cell hSw h5; have qh6 := kp_cell hSw h6; have qh7 := kp_cell hSw h7; have qh8 := kp_cell hSw h8; go_simp; try with_reducible rfl
  go_simp
  refine wpAnyH_take (i := 2) (v := ?_) rfl (by kernel_rfl) (by kernel_rfl) (by kernel_rfl) (fun _ _ _ h => h) (Or.inl ⟨by rfl, ?_⟩) (by assumption) ?_
  rotate_left
  · intro w hSw; have qh0 := kp_cell hSw h0; have qh1 := kp_cell hSw h1; have qh2 := kp_cell hSw h2; have qh3 := kp_cell hSw h3; have qh4 := kp_cell hSw h4; have qh5 := kp_cell hSw h5; have qh6 := kp_cell hSw h6; have qh7 := kp_cell hSw h7; have qh8 := kp_cell hSw h8; go_simp; try with_reducible rfl
  go_simp
  refine wpAnyH_ready (rs := [1]) (by kernel_rfl) (by simp) ?_
  refine AllReadyH.cons rfl (fun K hK => ?_) AllReadyH.nil
  go_simp
  go_wp2_with (go_at_call 10; (with_reducible refine (HRT.out _ (Kp.trans K2.out hHeld)).mono ?_); rintro e w3 ⟨rfl, hk3⟩; have K3 := Lib.hid (Kp.trans hHeld hk3); clear hk3)
  refine hK.out _ _ ?_ (fun hHeld => ?_)
  · exact K3.out
  clear hK K
  refine wpAnyH_ready (rs := [3]) (by kernel_rfl) (by simp) ?_
  refine AllReadyH.cons rfl (fun K hK => ?_) AllReadyH.nil
  go_simp
  go_wp2_with (go_at_call 11; (with_reducible refine (HRF.out _).mono ?_); rintro e w4 ⟨rfl, hk4⟩; have K4 := Lib.hid (Kp.trans hHeld hk4); clear hk4)
  refine hK.out _ _ ?_ (fun hHeld => ?_)
  · exact K4.out
  clear hK K
  refine wpAnyH_take (i := 4) (v := ?_) rfl (by kernel_rfl) (by kernel_rfl) (by kernel_rfl) (fun _ _ _ h => h) (Or.inl ⟨by rfl, ?_⟩) (by assumption) ?_
  rotate_left
  · intro w hSw; go_simp; try with_reducible rfl
  go_simp
  refine wpAnyH_done (by kernel_rfl) ?_ _
  have R4 := Lib.hid (kp_row K4.out R2.out)
  obtain ⟨i0, i1, i2, i3, i4, i5, i6, i7, i8⟩ := cells9 (R4.out)
  have S4 := Lib.hid (S2.out.kp K4.out)
  go_wp2_with (first
    | (go_at_call 11; (with_reducible refine (HRF.out _).mono ?_); rintro e w5 ⟨rfl, hk5⟩; have K5 := Lib.hid (Kp.trans (Kp.trans K2.out K4.out) hk5); have S5 := Lib.hid (S4.out.kp hk5); have R5 := Lib.hid (kp_row hk5 R4.out); clear hk5)
    | (go_at_call 13; (with_reducible refine (HD.out _ K5.out _ _ _ HLN.out hc2 S5.out).mono ?_); rintro e w6 ⟨rfl, hk6⟩; have K6 := Lib.hid (Kp.trans K5.out (Kp.trans hk6 (kp_alloc w6 (.cells #[.int .i64 k, .int .i64 f, .int .i64 t, .int .i64 n, .int .i64 s, .int .i64 r, .int .i64 p, .int .i64 o, .int .i64 c] 25)))); have S6 := Lib.hid (S5.out.kp (Kp.trans hk6 (kp_alloc w6 (.cells #[.int .i64 k, .int .i64 f, .int .i64 t, .int .i64 n, .int .i64 s, .int .i64 r, .int .i64 p, .int .i64 o, .int .i64 c] 25)))); have R6 := Lib.hid (kp_row (Kp.trans hk6 (kp_alloc w6 (.cells #[.int .i64 k, .int .i64 f, .int .i64 t, .int .i64 n, .int .i64 s, .int .i64 r, .int .i64 p, .int .i64 o, .int .i64 c] 25))) R5.out); have B6 := Lib.hid (MapKept.heap_alloc w6 (.cells #[.int .i64 k, .int .i64 f, .int .i64 t, .int .i64 n, .int .i64 s, .int .i64 r, .int .i64 p, .int .i64 o, .int .i64 c] 25)).1; clear hk6))
  obtain ⟨wX, hwX⟩ : ∃ x, w6.alloc (.cells #[.int .i64 k, .int .i64 f, .int .i64 t, .int .i64 n, .int .i64 s, .int .i64 r, .int .i64 p, .int .i64 o, .int .i64 c] 25) = x := ⟨_, rfl⟩
  obtain ⟨bX, hbX⟩ : ∃ x, w6.heap.size = x := ⟨_, rfl⟩
  rw [hwX] at K6 S6 R6 B6 ⊢
  rw [hbX] at B6 ⊢
  obtain ⟨j0, j1, j2, j3, j4, j5, j6, j7, j8⟩ := cells9 (R6.out)
  obtain ⟨b0, b1, b2, b3, b4, b5, b6, b7, b8⟩ := cells9 (B6.out)
  have CV : Hid (∀ w', Kp wX w' → (convert 27 9 (.slice a2 n' c2)).run Tryd.prog w' = .ok (.string ss) w') := Lib.hid (fun w' hk => by rw [← HSS.out]; exact conv_slb (S6.out.kp hk))
  clear hwX hbX g0 h0 i0 g1 h1 i1 g2 h2 i2 g3 h3 i3 g4 h4 i4 g5 h5 i5 g6 h6 i6 g7 h7 i7 g8 h8 i8
  refine wp_region_held_drew (S := fun w' => Kp wX w') (by kernel_rfl) ?_ (fun hHeld => ?_)
  · exact (Kp.refl wX).drew
  refine wpAnyH_take (i := 0) (v := ?_) rfl (by kernel_rfl) (by kernel_rfl) (by kernel_rfl) (fun _ _ _ h => h) (Or.inl ⟨by rfl, ?_⟩) (by assumption) ?_
  rotate_left
  · intro w hSw; go_simp; try with_reducible rfl
  go_simp
  refine wpAnyH_take (i := 1) (v := ?_) rfl (by kernel_rfl) (by kernel_rfl) (by kernel_rfl) (fun _ _ _ h => h) (Or.inl ⟨by rfl, ?_⟩) (by assumption) ?_
  rotate_left
  · intro w hSw; go_simp; try with_reducible rfl
  go_simp
  refine wpAnyH_take (i := 2) (v := ?_) rfl (by kernel_rfl) (by kernel_rfl) (by kernel_rfl) (fun _ _ _ h => h) (Or.inl ⟨by rfl, ?_⟩) (by assumption) ?_
  rotate_left
  · intro w hSw; go_simp; try with_reducible rfl
  go_simp
  refine wpAnyH_take (i := 3) (v := ?_) rfl (by kernel_rfl) (by kernel_rfl) (by kernel_rfl) (fun _ _ _ h => h) (Or.inl ⟨by rfl, ?_⟩) (by assumption) ?_
  rotate_left
  · intro w hSw; go_simp; try with_reducible rfl
  go_simp
  refine wpAnyH_take (i := 4) (v := ?_) rfl (by kernel_rfl) (by kernel_rfl) (by kernel_rfl) (fun _ _ _ h => h) (Or.inl ⟨by rfl, ?_⟩) (by assumption) ?_
  rotate_left
  · intro w hSw; have q := CV.out _ hSw; go_simp; try with_reducible rfl
  go_simp
  refine wpAnyH_take (i := 5) (v := ?_) rfl (by kernel_rfl) (by kernel_rfl) (by kernel_rfl) (fun _ _ _ h => h) (Or.inl ⟨by rfl, ?_⟩) (by assumption) ?_
  rotate_left
  · intro w hSw; have qj0 := kp_cell hSw j0; have qj1 := kp_cell hSw j1; have qj2 := kp_cell hSw j2; have qj3 := kp_cell hSw j3; have qj4 := kp_cell hSw j4; have qj5 := kp_cell hSw j5; have qj6 := kp_cell hSw j6; have qj7 := kp_cell hSw j7; have qj8 := kp_cell hSw j8; go_simp; try with_reducible rfl
  go_simp
  refine wpAnyH_ready (rs := [6]) (by kernel_rfl) (by simp) ?_
  refine AllReadyH.cons rfl (fun K hK => ?_) AllReadyH.nil
  go_simp
  go_wp2_with (go_at_call 14; (with_reducible refine (HRE.out _).mono ?_); rintro e w8 ⟨v8, rfl, hs8, hk8⟩; obtain ⟨a8, c8, hv8⟩ := hs8.form; subst hv8; have cv8 := conv_slb hs8; rw [HSS.out] at cv8; have K8 := Lib.hid (Kp.trans hHeld hk8); clear hs8 hk8)
  refine hK.out _ _ ?_ (fun hHeld => ?_)
  · exact K8.out
  clear hK K
  refine wpAnyH_ready (rs := [7]) (by kernel_rfl) (by simp) ?_
  refine AllReadyH.cons rfl (fun K hK => ?_) AllReadyH.nil
  go_simp
  refine hK.out _ _ ?_ (fun hHeld => ?_)
  · exact hHeld
  clear hK K
  refine wpAnyH_take (i := 8) (v := ?_) rfl (by kernel_rfl) (by kernel_rfl) (by kernel_rfl) (fun _ _ _ h => h) (Or.inl ⟨by rfl, ?_⟩) (by assumption) ?_
  rotate_left
  · intro w hSw; go_simp; try with_reducible rfl
  go_simp
  refine wpAnyH_take (i := 9) (v := ?_) rfl (by kernel_rfl) (by kernel_rfl) (by kernel_rfl) (fun _ _ _ h => h) (Or.inl ⟨by rfl, ?_⟩) (by assumption) ?_
  rotate_left
  · intro w hSw; go_simp; try with_reducible rfl
  go_simp
  refine wpAnyH_take (i := 10) (v := ?_) rfl (by kernel_rfl) (by kernel_rfl) (by kernel_rfl) (fun _ _ _ h => h) (Or.inl ⟨by rfl, ?_⟩) (by assumption) ?_
  rotate_left
  · intro w hSw; go_simp; try with_reducible rfl
  go_simp
  refine wpAnyH_take (i := 11) (v := ?_) rfl (by kernel_rfl) (by kernel_rfl) (by kernel_rfl) (fun _ _ _ h => h) (Or.inl ⟨by rfl, ?_⟩) (by assumption) ?_
  rotate_left
  · intro w hSw; go_simp; try with_reducible rfl
  go_simp
  refine wpAnyH_take (i := 12) (v := ?_) rfl (by kernel_rfl) (by kernel_rfl) (by kernel_rfl) (fun _ _ _ h => h) (Or.inl ⟨by rfl, ?_⟩) (by assumption) ?_
  rotate_left
  · intro w hSw; go_simp; try with_reducible rfl
  go_simp
  refine wpAnyH_take (i := 13) (v := ?_) rfl (by kernel_rfl) (by kernel_rfl) (by kernel_rfl) (fun _ _ _ h => h) (Or.inl ⟨by rfl, ?_⟩) (by assumption) ?_
  rotate_left
  · intro w hSw; go_simp; try with_reducible rfl
  go_simp
  refine wpAnyH_take (i := 14) (v := ?_) rfl (by kernel_rfl) (by kernel_rfl) (by kernel_rfl) (fun _ _ _ h => h) (Or.inl ⟨by rfl, ?_⟩) (by assumption) ?_
  rotate_left
  · intro w hSw; go_simp; try with_reducible rfl
  go_simp
  refine wpAnyH_take (i := 15) (v := ?_) rfl (by kernel_rfl) (by kernel_rfl) (by kernel_rfl) (fun _ _ _ h => h) (Or.inl ⟨by rfl, ?_⟩) (by assumption) ?_
  rotate_left
  · intro w hSw; have qb0 := kp_cell hSw b0; have qb1 := kp_cell hSw b1; have qb2 := kp_cell hSw b2; have qb3 := kp_cell hSw b3; have qb4 := kp_cell hSw b4; have qb5 := kp_cell hSw b5; have qb6 := kp_cell hSw b6; have qb7 := kp_cell hSw b7; have qb8 := kp_cell hSw b8; go_simp; try with_reducible rfl
  go_simp
  refine wpAnyH_take (i := 16) (v := ?_) rfl (by kernel_rfl) (by kernel_rfl) (by kernel_rfl) (fun _ _ _ h => h) (Or.inl ⟨by rfl, ?_⟩) (by assumption) ?_
  rotate_left
  · intro w hSw; have qj0 := kp_cell hSw j0; have qj1 := kp_cell hSw j1; have qj2 := kp_cell hSw j2; have qj3 := kp_cell hSw j3; have qj4 := kp_cell hSw j4; have qj5 := kp_cell hSw j5; have qj6 := kp_cell hSw j6; have qj7 := kp_cell hSw j7; have qj8 := kp_cell hSw j8; go_simp; try with_reducible rfl
  go_simp
  refine wpAnyH_take (i := 17) (v := ?_) rfl (by kernel_rfl) (by kernel_rfl) (by kernel_rfl) (fun _ _ _ h => h) (Or.inl ⟨by rfl, ?_⟩) (by assumption) ?_
  rotate_left
  · intro w hSw; have q := hq w; have q2 := hg; go_simp; try with_reducible rfl
  go_simp
  refine wpAnyH_take (i := 18) (v := ?_) rfl (by kernel_rfl) (by kernel_rfl) (by kernel_rfl) (fun _ _ _ h => h) (Or.inl ⟨by rfl, ?_⟩) (by assumption) ?_
  rotate_left
  · intro w hSw; go_simp; try with_reducible rfl
  go_simp
  refine wpAnyH_take (i := 19) (v := ?_) rfl (by kernel_rfl) (by kernel_rfl) (by kernel_rfl) (fun _ _ _ h => h) (Or.inl ⟨by rfl, ?_⟩) (by assumption) ?_
  rotate_left
  · intro w hSw; go_simp; try with_reducible rfl
  go_simp
  refine wpAnyH_done (by kernel_rfl) ?_ _
  go_wp2
  go_ret
  exact ⟨by first | rfl | simp, Kp.trans K6.out hHeld⟩

theorem encodes_any (ads : List Addr) (m : MM) (w : World) (V : St ads w) (C : LetC ads w) :
    Calls Tryd.prog 3 #[.agg m.cells] w fun e w' => e = .returned (.bool true) ∧ Kp w w' := by
  cases h : rightM m with
  | true => exact encodes_ok ads m w C h
  | false => exact encodes_bad ads m w V C h
end Go.Proofs.YtfginhckeogafaaDoor

namespace Go.Proofs.YtfginhckeogafaaDoor
open Go.RowKit

theorem letterEncodes_walk (m : MM) (W : World) (hL : laidMetH Tryd.prog Rows.letterEncodesRow.laid W) :
    Calls Tryd.prog 3 #[.agg m.cells] W fun e w' => e = .returned (.bool true) ∧ Below W.heap.size W w' := by
  obtain ⟨⟨ads, V⟩, T⟩ := st_tab_of (l := Rows.letterEncodesRow.laid) (by kernel_rfl) (by kernel_rfl) (by kernel_rfl) hL
  have C := letC_of ads W V T
  exact encodes_any ads m W V C

end Go.Proofs.YtfginhckeogafaaDoor

namespace Go.Proofs.YtfginhckeogafaaDoor
open Go.ChangeShapes Go.WideShapes Go.ChangeAt Go.WideMaps Go.WideElems Go.RowKit


set_option maxRecDepth 100000 in
theorem letterEncodes_lifted (os : Os) (started : os.Started) (H : Type) (enc : TypeId × Value → H) :
    ReturnsInHanded {} Tryd.checked os 3 .any (fun w args => (Rows.letterEncodesSpec.pre enc Tryd.prog Tryd.f3 [] false w args ∧ laidMetH Tryd.prog Rows.letterEncodesRow.laid w) ∧ sizedMet enc Tryd.prog Tryd.f3 (OpenSpec.ofChange Rows.letterEncodesSpec) false w args)
      (Rows.letterEncodesSpec.post enc Tryd.prog Tryd.f3 false true false false) := by
  refine returnsInHanded_of_change_and (C := Tryd.checked) (X := fun w _ => laidMetH Tryd.prog Rows.letterEncodesRow.laid w) (fun _ _ _ hh h => h.of_heap hh) own started (by kernel_rfl) Tryd.func3
    (ChangeSpec.witness_shaped (enc := enc) (C := Tryd.checked) (os := os) (X := fun w _ => laidMetH Tryd.prog Rows.letterEncodesRow.laid w) false (World.laidAll Tryd.prog os Rows.letterEncodesRow.laid) #[.agg #[.int .i64 0, .int .i64 0, .int .i64 0, .int .i64 0, .int .i64 0, .int .i64 0, .int .i64 0, .int .i64 0, .int .i64 0]] 8 (World.laidAll_os _ _ _) (World.shaped_of_ZipB (by kernel_rfl) (by kernel_rfl)) (by kernel_rfl) (by kernel_rfl) (by kernel_rfl) (by rw [MakeChecks.laidMetH_plain _ _ _ (by kernel_rfl)]; exact laidMet_laidAll _ (by kernel_rfl) (by kernel_rfl))) ?_
  intro W base args ds gs before hval0 hW _ hsz hL _
  have hval : ∀ (j : Nat) t v, Tryd.f3.params[j]? = some t → args[j]? = some v → Value.okWide Tryd.prog W .any base t v := hval0
  have hW' := hW
  obtain ⟨p, q, hA0, hV, rfl, hfz, hnd⟩ := hW
  have hA : DataW.TrodAll enc Tryd.prog W 0 (fun _ => true) true Tryd.f3.params.toList args.toList ds p := hA0
  rw [Tryd.params3] at hA hval
  obtain ⟨v0, vs0, d0, ds0, p0, q0, e0, rfl, rfl, h0, r0⟩ := trodAll_cons hA
  obtain ⟨rfl, rfl, rfl⟩ := trodAll_nil r0
  obtain rfl : args = #[v0] := by cases args; simp_all
  obtain ⟨rfl, rfl⟩ := trodVars_none hV
  obtain ⟨m, rfl⟩ := open_msg (hval 0 25 v0 rfl rfl) h0
  clear hA0 hval0
  refine (letterEncodes_walk m W  hL).mono fun e W' ⟨he, hw⟩ => ?_
  subst he
  exact ⟨_, rfl, law_post laidOut hW' rfl rfl rfl Tryd.underlying4 (par_ok (by kernel_rfl)) hw⟩

theorem letterEncodes_said : Rows.LetterEncodesSaid :=
  OpenClaim.holds_of_wide 3 Tryd.f3 rfl rfl rfl rfl rfl rfl rfl ⟨rfl, rfl, rfl, rfl, rfl⟩ rfl rfl rfl rfl rfl (by kernel_rfl) Tryd.func3 (by kernel_rfl)
    (of_decide_eq_true (by kernel_rfl)) (by unfold Func.isWrapper; first | (rw [if_pos (by decide +kernel)]; kernel_rfl) | (rw [if_neg (by decide +kernel)]; exact ⟨rfl, rfl⟩))
    (fun os started H enc _ => letterEncodes_lifted os started H enc)

theorem letterEncodes_holds : Rows.LetterEncodesCardSaid :=
  Claim7.holds_tied_plain_at .later [] _ _ _ _ letterEncodes_said (fun _ h => by cases h) (by kernel_rfl) (fun _ h => by cases h) letterEncodes_row_tie rfl ⟨rfl, rfl⟩ (by kernel_rfl) rfl
    (fun f fn hf hfn => by
      obtain rfl : f = 3 := Option.some.inj ((show Tryd.prog.funcNamed "liaison/liaisonlaw08.LetterEncodes" = some 3 by kernel_rfl).symm.trans hf) |>.symm
      obtain rfl : fn = Tryd.f3 := (Option.some.inj (Tryd.func3.symm.trans hfn)).symm
      exact ⟨by kernel_rfl, stand_ok (P := Tryd.prog) (by kernel_rfl)⟩)
    (by kernel_rfl)
end Go.Proofs.YtfginhckeogafaaDoor

