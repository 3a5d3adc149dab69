/-
  FactsBytes: for every fact, facts.Right answers as the document does; a right fact's bytes are the document's, from 1 to 200 of them, and are read to the same fact, and others have none. Condition: package api's errors and strconv's table of powers hold what their declarations lay.
-/
import Derived.Test.YtahdoniggipmmaaGreatDoorPkK
import Derived.Test.YtahdoniggipmmaaGreatDoorPkM
import Derived.Test.YtahdoniggipmmaaGreatDoorPkN
import Derived.Test.YtahdoniggipmmaaGreatDoorPkA
import Derived.Deep.RegionHeld3
import Derived.Test.YtahdoniggipmmaaGreatDoorRows
import Derived.Test.YtahdoniggipmmaaGreatDoorPkL
import Derived.Test.YtahdoniggipmmaaGreatDoorCards
import Derived.Test.YtahdoniggipmmaaGreatDoorTie
import Derived.SevenTiedAt
import Derived.Lay
import Derived.MakeChecks

namespace Go.Proofs.YtahdoniggipmmaaGreatDoor
open Go.RowKit Go.ChangeShapes Go.WideShapes

set_option maxRecDepth 100000 in
set_option maxHeartbeats 4000000 in
theorem factsBytes_w (ads : List Addr) (f : FX) (hf : f.wf) (w : World) (V : St ads w) (C : FacC ads w) (hr : rightF f = false) :
    Calls Tryz.prog 3 #[.agg f.cells] w fun e w' => e = .returned (.bool true) ∧ Kp w w' := by
  have HA := Lib.hid (fun w1 (hk : Kp w w1) => alive14_any ads w1 (FacC.kp C hk))
  have HRT := fun w1 (hk : Kp w w1) => C.right w1 hk f hf
  have HRR := fun w1 => refRight14_any f hf w1
  simp only [hr] at HRT HRR
  have HE := fun w1 (hk : Kp w w1) => C.encBad w1 hk f hf hr
  have HN4 := fun w1 (hk : Kp w w1) => num_errN ads w1 (V.below hk) 4 (by decide) (by decide)
  obtain ⟨q4, h4⟩ := errI_some14 ads 4 (by decide)
  rw [h4] at HE HN4
  clear h4 hr
  obtain ⟨k, n, s, r, u, p, q, o, d, a, t, hh, c, x⟩ := f
  dsimp only [FX.cells] at *
  have kb := kp_alloc w (.cells #[.int .i64 k, .int .i64 n, .int .i64 s, .int .i64 r, .int .i64 u, .int .i64 p, .int .i64 q, .int .i64 o, .int .i64 d, .int .i64 a, .int .i64 t, .int .i64 hh, .int .i64 c, .float .f64 x] 26)
  have KB := Lib.hid kb
  have HR0 := Lib.hid (MapKept.heap_alloc w (.cells #[.int .i64 k, .int .i64 n, .int .i64 s, .int .i64 r, .int .i64 u, .int .i64 p, .int .i64 q, .int .i64 o, .int .i64 d, .int .i64 a, .int .i64 t, .int .i64 hh, .int .i64 c, .float .f64 x] 26)).1
  have hsf := store_fl
  have HE := Lib.hid HE
  have HRT := Lib.hid HRT
  have HRR := Lib.hid HRR
  have HN4 := Lib.hid HN4
  clear V C kb hf
  go_enter Tryz.func3, Tryz.ntmps3
  go_wp2_with (first
    | (go_at_call 7; (with_reducible refine (HA.out _ KB.out).mono ?_); rintro e w1 ⟨rfl, hk⟩; have K1 := Lib.hid (Kp.trans KB.out (Kp.trans hk (kp_alloc w1 (.cells #[.int .i64 k, .int .i64 n, .int .i64 s, .int .i64 r, .int .i64 u, .int .i64 p, .int .i64 q, .int .i64 o, .int .i64 d, .int .i64 a, .int .i64 t, .int .i64 hh, .int .i64 c, .float .f64 x] 28)))); have R1 := Lib.hid (kp_row (Kp.trans hk (kp_alloc w1 (.cells #[.int .i64 k, .int .i64 n, .int .i64 s, .int .i64 r, .int .i64 u, .int .i64 p, .int .i64 q, .int .i64 o, .int .i64 d, .int .i64 a, .int .i64 t, .int .i64 hh, .int .i64 c, .float .f64 x] 28))) HR0.out); obtain ⟨g0, g1, g2, g3, g4, g5, g6, g7, g8, g9, g10, g11, g12, g13⟩ := cells14 (kp_row hk HR0.out); obtain ⟨h0, h1, h2, h3, h4, h5, h6, h7, h8, h9, h10, h11, h12, h13⟩ := cells14 R1.out; have M1 := Lib.hid (MapKept.heap_alloc w1 (.cells #[.int .i64 k, .int .i64 n, .int .i64 s, .int .i64 r, .int .i64 u, .int .i64 p, .int .i64 q, .int .i64 o, .int .i64 d, .int .i64 a, .int .i64 t, .int .i64 hh, .int .i64 c, .float .f64 x] 28)).1; clear hk)
    | (go_at_call 8; (with_reducible refine (HE.out _ K1.out).mono ?_); rintro e w2 ⟨rfl, hk⟩; have K2 := Lib.hid (Kp.trans K1.out hk); have R2 := Lib.hid (kp_row hk R1.out); have M2 := Lib.hid (kp_row hk M1.out); clear hk))
  obtain ⟨B0, hB0⟩ : ∃ y, w.heap.size = y := ⟨_, rfl⟩
  obtain ⟨B1, hB1⟩ : ∃ y, w1.heap.size = y := ⟨_, rfl⟩
  have r2 := R2.out
  have m2 := M2.out
  rw [hB0] at r2
  rw [hB1] at m2
  rw [hB0, hB1]
  have R2 := Lib.hid r2
  have M2 := Lib.hid m2
  obtain ⟨i0, i1, i2, i3, i4, i5, i6, i7, i8, i9, i10, i11, i12, i13⟩ := cells14 r2
  obtain ⟨j0, j1, j2, j3, j4, j5, j6, j7, j8, j9, j10, j11, j12, j13⟩ := cells14 m2
  clear hB0 hB1 r2 m2 g0 g1 g2 g3 g4 g5 g6 g7 g8 g9 g10 g11 g12 g13 h0 h1 h2 h3 h4 h5 h6 h7 h8 h9 h10 h11 h12 h13
  refine wp_region_held_drew (S := fun w' => Kp w2 w') (by kernel_rfl) ?_ (fun hHeld => ?_)
  · exact (Kp.refl w2).drew
  refine wpAnyH_take (i := 0) (v := ?_) rfl (by kernel_rfl) (by kernel_rfl) (by kernel_rfl) (fun _ _ _ h => h) (Or.inl ⟨by rfl, ?_⟩) (by assumption) ?_
  rotate_left
  · intro w hSw; have q0 := kp_cell hSw i0; have q1 := kp_cell hSw i1; have q2 := kp_cell hSw i2; have q3 := kp_cell hSw i3; have q4 := kp_cell hSw i4; have q5 := kp_cell hSw i5; have q6 := kp_cell hSw i6; have q7 := kp_cell hSw i7; have q8 := kp_cell hSw i8; have q9 := kp_cell hSw i9; have q10 := kp_cell hSw i10; have q11 := kp_cell hSw i11; have q12 := kp_cell hSw i12; have q13 := kp_cell hSw i13; go_simp; try with_reducible rfl
  go_simp
  refine wpAnyH_take (i := 2) (v := ?_) rfl (by kernel_rfl) (by kernel_rfl) (by kernel_rfl) (fun _ _ _ h => h) (Or.inl ⟨by rfl, ?_⟩) (by assumption) ?_
  rotate_left
  · intro w hSw; have q0 := kp_cell hSw j0; have q1 := kp_cell hSw j1; have q2 := kp_cell hSw j2; have q3 := kp_cell hSw j3; have q4 := kp_cell hSw j4; have q5 := kp_cell hSw j5; have q6 := kp_cell hSw j6; have q7 := kp_cell hSw j7; have q8 := kp_cell hSw j8; have q9 := kp_cell hSw j9; have q10 := kp_cell hSw j10; have q11 := kp_cell hSw j11; have q12 := kp_cell hSw j12; have q13 := kp_cell hSw j13; go_simp; try with_reducible rfl
  go_simp
  refine wpAnyH_ready (rs := [1]) (by kernel_rfl) (by simp) ?_
  refine AllReadyH.cons rfl (fun K hK => ?_) AllReadyH.nil
  go_simp
  go_wp2_with (go_at_call 9; (with_reducible refine (HRT.out _ (Kp.trans K2.out hHeld)).mono ?_); rintro e w3 ⟨rfl, hk3⟩; have K3 := Lib.hid (Kp.trans hHeld hk3); clear hk3)
  refine hK.out _ _ ?_ (fun hHeld => ?_)
  · exact K3.out
  clear hK K
  refine wpAnyH_ready (rs := [3]) (by kernel_rfl) (by simp) ?_
  refine AllReadyH.cons rfl (fun K hK => ?_) AllReadyH.nil
  go_simp
  go_wp2_with (go_at_call 10; (with_reducible refine (HRR.out _).mono ?_); rintro e w4 ⟨rfl, hk4⟩; have K4 := Lib.hid (Kp.trans hHeld hk4); clear hk4)
  refine hK.out _ _ ?_ (fun hHeld => ?_)
  · exact K4.out
  clear hK K
  refine wpAnyH_take (i := 4) (v := ?_) rfl (by kernel_rfl) (by kernel_rfl) (by kernel_rfl) (fun _ _ _ h => h) (Or.inl ⟨by rfl, ?_⟩) (by assumption) ?_
  rotate_left
  · intro w hSw; go_simp; try with_reducible rfl
  go_simp
  refine wpAnyH_done (by kernel_rfl) ?_ _
  have R4 := Lib.hid (kp_row K4.out R2.out)
  have M4 := Lib.hid (kp_row K4.out M2.out)
  have KX := Lib.hid (Kp.trans K2.out K4.out)
  clear i0 i1 i2 i3 i4 i5 i6 i7 i8 i9 i10 i11 i12 i13 j0 j1 j2 j3 j4 j5 j6 j7 j8 j9 j10 j11 j12 j13 hHeld
  obtain ⟨i0, i1, i2, i3, i4, i5, i6, i7, i8, i9, i10, i11, i12, i13⟩ := cells14 R4.out
  obtain ⟨j0, j1, j2, j3, j4, j5, j6, j7, j8, j9, j10, j11, j12, j13⟩ := cells14 M4.out
  go_wp2_with (first
    | (go_at_call 10; (with_reducible refine (HRR.out _).mono ?_); rintro e w5 ⟨rfl, hk⟩; have K5 := Lib.hid (Kp.trans KX.out hk); have K45 := Lib.hid hk; have R5 := Lib.hid (kp_row hk R4.out); have M5 := Lib.hid (kp_row hk M4.out); clear hk)
    | (go_at_call 11; (with_reducible refine (HN4.out _ K5.out).mono ?_); rintro e w6 ⟨rfl, hk⟩; have K6 := Lib.hid (Kp.trans K5.out hk); clear hk))
  go_ret
  exact ⟨by first | rfl | simp, K6.out⟩
set_option maxRecDepth 100000 in
set_option maxHeartbeats 4000000 in
theorem factsBytes_r (ads : List Addr) (f : FX) (hf : f.wf) (w : World) (C : FacC ads w) (hr : rightF f = true) :
    Calls Tryz.prog 3 #[.agg f.cells] w fun e w' => e = .returned (.bool true) ∧ Kp w w' := by
  have HA := Lib.hid (fun w1 (hk : Kp w w1) => alive14_any ads w1 (FacC.kp C hk))
  have HRT := fun w1 (hk : Kp w w1) => C.right w1 hk f hf
  have HRR := fun w1 => refRight14_any f hf w1
  simp only [hr] at HRT HRR
  have HE := fun w1 (hk : Kp w w1) => C.encOk w1 hk f hr
  have HD := fun w1 (hk : Kp w w1) (a : Option Addr) (p : Nat) (n : Nat) (hn : (encF f).length = n) (hp : n ≤ p) => C.dec w1 hk a p (encF f) n hn (by have := encF_len f; omega) (encF_in f) hp
  have HRE := fun w1 => refBytes14_any f hf (rightF_okn hr) w1
  rw [dec_encF hr] at HD
  simp only [errI_nil] at HD
  have HSM := fun w1 => refSame14_any f f hf hf w1
  rw [same_refl14] at HSM
  have hlo := encF_pos hr
  have hhi := encF_len f
  obtain ⟨eb, heb⟩ : ∃ x, encF f = x := ⟨_, rfl⟩
  rw [heb] at HE HD HRE hlo hhi
  obtain ⟨n', hn'⟩ : ∃ x, eb.length = x := ⟨_, rfl⟩
  rw [hn'] at HE hlo hhi
  obtain ⟨nn, hnn⟩ : ∃ x : Int, (n' : Int) = x := ⟨_, rfl⟩
  have l1 : 1 ≤ nn := by omega
  have l2 : nn ≤ 200 := by omega
  obtain ⟨ss, hss⟩ : ∃ x, strOfNums eb = x := ⟨_, rfl⟩
  have HSS := Lib.hid hss
  have HLN := Lib.hid hn'
  clear heb hss hn' hlo hhi hr
  obtain ⟨k, n, s, r, u, p, q, o, d, a, t, hh, c, x⟩ := f
  dsimp only [FX.cells] at *
  have kb := kp_alloc w (.cells #[.int .i64 k, .int .i64 n, .int .i64 s, .int .i64 r, .int .i64 u, .int .i64 p, .int .i64 q, .int .i64 o, .int .i64 d, .int .i64 a, .int .i64 t, .int .i64 hh, .int .i64 c, .float .f64 x] 26)
  have KB := Lib.hid kb
  have HR0 := Lib.hid (MapKept.heap_alloc w (.cells #[.int .i64 k, .int .i64 n, .int .i64 s, .int .i64 r, .int .i64 u, .int .i64 p, .int .i64 q, .int .i64 o, .int .i64 d, .int .i64 a, .int .i64 t, .int .i64 hh, .int .i64 c, .float .f64 x] 26)).1
  have hsf := store_fl
  have HE := Lib.hid HE
  have HRT := Lib.hid HRT
  have HRR := Lib.hid HRR
  have HD := Lib.hid HD
  have HRE := Lib.hid HRE
  have HSM := Lib.hid HSM
  clear C kb hf
  go_enter Tryz.func3, Tryz.ntmps3
  go_wp2_with (first
    | (go_at_call 7; (with_reducible refine (HA.out _ KB.out).mono ?_); rintro e w1 ⟨rfl, hk⟩; have K1 := Lib.hid (Kp.trans KB.out (Kp.trans hk (kp_alloc w1 (.cells #[.int .i64 k, .int .i64 n, .int .i64 s, .int .i64 r, .int .i64 u, .int .i64 p, .int .i64 q, .int .i64 o, .int .i64 d, .int .i64 a, .int .i64 t, .int .i64 hh, .int .i64 c, .float .f64 x] 28)))); have R1 := Lib.hid (kp_row (Kp.trans hk (kp_alloc w1 (.cells #[.int .i64 k, .int .i64 n, .int .i64 s, .int .i64 r, .int .i64 u, .int .i64 p, .int .i64 q, .int .i64 o, .int .i64 d, .int .i64 a, .int .i64 t, .int .i64 hh, .int .i64 c, .float .f64 x] 28))) HR0.out); obtain ⟨g0, g1, g2, g3, g4, g5, g6, g7, g8, g9, g10, g11, g12, g13⟩ := cells14 (kp_row hk HR0.out); obtain ⟨h0, h1, h2, h3, h4, h5, h6, h7, h8, h9, h10, h11, h12, h13⟩ := cells14 R1.out; have M1 := Lib.hid (MapKept.heap_alloc w1 (.cells #[.int .i64 k, .int .i64 n, .int .i64 s, .int .i64 r, .int .i64 u, .int .i64 p, .int .i64 q, .int .i64 o, .int .i64 d, .int .i64 a, .int .i64 t, .int .i64 hh, .int .i64 c, .float .f64 x] 28)).1; clear hk)
    | (go_at_call 8; (with_reducible refine (HE.out _ K1.out).mono ?_); rintro e w2 ⟨a2, c2, rfl, hc2, ho2, hk⟩; have K2 := Lib.hid (Kp.trans K1.out hk); have R2 := Lib.hid (kp_row hk R1.out); have M2 := Lib.hid (kp_row hk M1.out); have S2 := Lib.hid (own_slb ho2); have HC2 := Lib.hid hc2; clear hc2 ho2; clear hk))
  obtain ⟨B0, hB0⟩ : ∃ y, w.heap.size = y := ⟨_, rfl⟩
  obtain ⟨B1, hB1⟩ : ∃ y, w1.heap.size = y := ⟨_, rfl⟩
  have r2 := R2.out
  have m2 := M2.out
  rw [hB0] at r2
  rw [hB1] at m2
  rw [hB0, hB1]
  have R2 := Lib.hid r2
  have M2 := Lib.hid m2
  obtain ⟨i0, i1, i2, i3, i4, i5, i6, i7, i8, i9, i10, i11, i12, i13⟩ := cells14 r2
  obtain ⟨j0, j1, j2, j3, j4, j5, j6, j7, j8, j9, j10, j11, j12, j13⟩ := cells14 m2
  clear hB0 hB1 r2 m2 g0 g1 g2 g3 g4 g5 g6 g7 g8 g9 g10 g11 g12 g13 h0 h1 h2 h3 h4 h5 h6 h7 h8 h9 h10 h11 h12 h13
  refine wp_region_held_drew (S := fun w' => Kp w2 w') (by kernel_rfl) ?_ (fun hHeld => ?_)
  · exact (Kp.refl w2).drew
  refine wpAnyH_take (i := 0) (v := ?_) rfl (by kernel_rfl) (by kernel_rfl) (by kernel_rfl) (fun _ _ _ h => h) (Or.inl ⟨by rfl, ?_⟩) (by assumption) ?_
  rotate_left
  · intro w hSw; have q0 := kp_cell hSw i0; have q1 := kp_cell hSw i1; have q2 := kp_cell hSw i2; have q3 := kp_cell hSw i3; have q4 := kp_cell hSw i4; have q5 := kp_cell hSw i5; have q6 := kp_cell hSw i6; have q7 := kp_cell hSw i7; have q8 := kp_cell hSw i8; have q9 := kp_cell hSw i9; have q10 := kp_cell hSw i10; have q11 := kp_cell hSw i11; have q12 := kp_cell hSw i12; have q13 := kp_cell hSw i13; go_simp; try with_reducible rfl
  go_simp
  refine wpAnyH_take (i := 2) (v := ?_) rfl (by kernel_rfl) (by kernel_rfl) (by kernel_rfl) (fun _ _ _ h => h) (Or.inl ⟨by rfl, ?_⟩) (by assumption) ?_
  rotate_left
  · intro w hSw; have q0 := kp_cell hSw j0; have q1 := kp_cell hSw j1; have q2 := kp_cell hSw j2; have q3 := kp_cell hSw j3; have q4 := kp_cell hSw j4; have q5 := kp_cell hSw j5; have q6 := kp_cell hSw j6; have q7 := kp_cell hSw j7; have q8 := kp_cell hSw j8; have q9 := kp_cell hSw j9; have q10 := kp_cell hSw j10; have q11 := kp_cell hSw j11; have q12 := kp_cell hSw j12; have q13 := kp_cell hSw j13; go_simp; try with_reducible rfl
  go_simp
  refine wpAnyH_ready (rs := [1]) (by kernel_rfl) (by simp) ?_
  refine AllReadyH.cons rfl (fun K hK => ?_) AllReadyH.nil
  go_simp
  go_wp2_with (go_at_call 9; (with_reducible refine (HRT.out _ (Kp.trans K2.out hHeld)).mono ?_); rintro e w3 ⟨rfl, hk3⟩; have K3 := Lib.hid (Kp.trans hHeld hk3); clear hk3)
  refine hK.out _ _ ?_ (fun hHeld => ?_)
  · exact K3.out
  clear hK K
  refine wpAnyH_ready (rs := [3]) (by kernel_rfl) (by simp) ?_
  refine AllReadyH.cons rfl (fun K hK => ?_) AllReadyH.nil
  go_simp
  go_wp2_with (go_at_call 10; (with_reducible refine (HRR.out _).mono ?_); rintro e w4 ⟨rfl, hk4⟩; have K4 := Lib.hid (Kp.trans hHeld hk4); clear hk4)
  refine hK.out _ _ ?_ (fun hHeld => ?_)
  · exact K4.out
  clear hK K
  refine wpAnyH_take (i := 4) (v := ?_) rfl (by kernel_rfl) (by kernel_rfl) (by kernel_rfl) (fun _ _ _ h => h) (Or.inl ⟨by rfl, ?_⟩) (by assumption) ?_
  rotate_left
  · intro w hSw; go_simp; try with_reducible rfl
  go_simp
  refine wpAnyH_done (by kernel_rfl) ?_ _
  have R4 := Lib.hid (kp_row K4.out R2.out)
  have M4 := Lib.hid (kp_row K4.out M2.out)
  have KX := Lib.hid (Kp.trans K2.out K4.out)
  clear i0 i1 i2 i3 i4 i5 i6 i7 i8 i9 i10 i11 i12 i13 j0 j1 j2 j3 j4 j5 j6 j7 j8 j9 j10 j11 j12 j13 hHeld
  obtain ⟨i0, i1, i2, i3, i4, i5, i6, i7, i8, i9, i10, i11, i12, i13⟩ := cells14 R4.out
  obtain ⟨j0, j1, j2, j3, j4, j5, j6, j7, j8, j9, j10, j11, j12, j13⟩ := cells14 M4.out
  go_wp2_with (first
    | (go_at_call 10; (with_reducible refine (HRR.out _).mono ?_); rintro e w5 ⟨rfl, hk⟩; have K5 := Lib.hid (Kp.trans KX.out hk); have K45 := Lib.hid hk; have R5 := Lib.hid (kp_row hk R4.out); have M5 := Lib.hid (kp_row hk M4.out); clear hk)
    | (go_at_call 12; (with_reducible refine (HD.out _ K5.out _ _ _ HLN.out HC2.out (S2.out.kp (Kp.trans K4.out K45.out))).mono ?_); rintro e w6 ⟨rfl, hk⟩; have KB6 := Lib.hid (Kp.trans hk (kp_alloc w6 (.cells #[.int .i64 k, .int .i64 n, .int .i64 s, .int .i64 r, .int .i64 u, .int .i64 p, .int .i64 q, .int .i64 o, .int .i64 d, .int .i64 a, .int .i64 t, .int .i64 hh, .int .i64 c, .float .f64 x] 26))); have B6 := Lib.hid (MapKept.heap_alloc w6 (.cells #[.int .i64 k, .int .i64 n, .int .i64 s, .int .i64 r, .int .i64 u, .int .i64 p, .int .i64 q, .int .i64 o, .int .i64 d, .int .i64 a, .int .i64 t, .int .i64 hh, .int .i64 c, .float .f64 x] 26)).1; clear hk))
  obtain ⟨wX, hwX⟩ : ∃ y, w6.alloc (.cells #[.int .i64 k, .int .i64 n, .int .i64 s, .int .i64 r, .int .i64 u, .int .i64 p, .int .i64 q, .int .i64 o, .int .i64 d, .int .i64 a, .int .i64 t, .int .i64 hh, .int .i64 c, .float .f64 x] 26) = y := ⟨_, rfl⟩
  obtain ⟨bX, hbX⟩ : ∃ y, w6.heap.size = y := ⟨_, rfl⟩
  rw [hwX] at KB6 B6 ⊢
  rw [hbX] at B6 ⊢
  have KW := Lib.hid (Kp.trans K5.out KB6.out)
  have S6 := Lib.hid (S2.out.kp (Kp.trans K4.out (Kp.trans K45.out KB6.out)))
  clear i0 i1 i2 i3 i4 i5 i6 i7 i8 i9 i10 i11 i12 i13 j0 j1 j2 j3 j4 j5 j6 j7 j8 j9 j10 j11 j12 j13
  obtain ⟨j0, j1, j2, j3, j4, j5, j6, j7, j8, j9, j10, j11, j12, j13⟩ := cells14 (kp_row KB6.out M5.out)
  obtain ⟨b0, b1, b2, b3, b4, b5, b6, b7, b8, b9, b10, b11, b12, b13⟩ := cells14 B6.out
  have CV : Hid (∀ w', Kp wX w' → (convert 29 9 (.slice a2 n' c2)).run Tryz.prog w' = .ok (.string ss) w') := Lib.hid (fun w' hk => by rw [← HSS.out]; exact conv_slb (S6.out.kp hk))
  clear hwX hbX
  refine wp_region_held_drew (S := fun w' => Kp wX w') (by kernel_rfl) ?_ (fun hHeld => ?_)
  · exact (Kp.refl wX).drew
  refine wpAnyH_take (i := 0) (v := ?_) rfl (by kernel_rfl) (by kernel_rfl) (by kernel_rfl) (fun _ _ _ h => h) (Or.inl ⟨by rfl, ?_⟩) (by assumption) ?_
  rotate_left
  · intro w hSw; go_simp; try with_reducible rfl
  go_simp
  refine wpAnyH_take (i := 1) (v := ?_) rfl (by kernel_rfl) (by kernel_rfl) (by kernel_rfl) (fun _ _ _ h => h) (Or.inl ⟨by rfl, ?_⟩) (by assumption) ?_
  rotate_left
  · intro w hSw; go_simp; try with_reducible rfl
  go_simp
  refine wpAnyH_take (i := 2) (v := ?_) rfl (by kernel_rfl) (by kernel_rfl) (by kernel_rfl) (fun _ _ _ h => h) (Or.inl ⟨by rfl, ?_⟩) (by assumption) ?_
  rotate_left
  · intro w hSw; go_simp; try with_reducible rfl
  go_simp
  refine wpAnyH_take (i := 3) (v := ?_) rfl (by kernel_rfl) (by kernel_rfl) (by kernel_rfl) (fun _ _ _ h => h) (Or.inl ⟨by rfl, ?_⟩) (by assumption) ?_
  rotate_left
  · intro w hSw; go_simp; try with_reducible rfl
  go_simp
  refine wpAnyH_take (i := 4) (v := ?_) rfl (by kernel_rfl) (by kernel_rfl) (by kernel_rfl) (fun _ _ _ h => h) (Or.inl ⟨by rfl, ?_⟩) (by assumption) ?_
  rotate_left
  · intro w hSw; have q := CV.out _ hSw; go_simp; try with_reducible rfl
  go_simp
  refine wpAnyH_take (i := 5) (v := ?_) rfl (by kernel_rfl) (by kernel_rfl) (by kernel_rfl) (fun _ _ _ h => h) (Or.inl ⟨by rfl, ?_⟩) (by assumption) ?_
  rotate_left
  · intro w hSw; have q0 := kp_cell hSw j0; have q1 := kp_cell hSw j1; have q2 := kp_cell hSw j2; have q3 := kp_cell hSw j3; have q4 := kp_cell hSw j4; have q5 := kp_cell hSw j5; have q6 := kp_cell hSw j6; have q7 := kp_cell hSw j7; have q8 := kp_cell hSw j8; have q9 := kp_cell hSw j9; have q10 := kp_cell hSw j10; have q11 := kp_cell hSw j11; have q12 := kp_cell hSw j12; have q13 := kp_cell hSw j13; go_simp; try with_reducible rfl
  go_simp
  refine wpAnyH_ready (rs := [6]) (by kernel_rfl) (by simp) ?_
  refine AllReadyH.cons rfl (fun K hK => ?_) AllReadyH.nil
  go_simp
  go_wp2_with (go_at_call 13; (with_reducible refine (HRE.out _).mono ?_); rintro e w8 ⟨v8, rfl, hs8, hk8⟩; obtain ⟨a8, c8, hv8⟩ := hs8.form; subst hv8; have cv8 := conv_slb hs8; rw [HSS.out] at cv8; have K8 := Lib.hid (Kp.trans hHeld hk8); clear hs8 hk8)
  refine hK.out _ _ ?_ (fun hHeld => ?_)
  · exact K8.out
  clear hK K
  refine wpAnyH_ready (rs := [7]) (by kernel_rfl) (by simp) ?_
  refine AllReadyH.cons rfl (fun K hK => ?_) AllReadyH.nil
  go_simp
  refine hK.out _ _ ?_ (fun hHeld => ?_)
  · exact hHeld
  clear hK K
  refine wpAnyH_take (i := 8) (v := ?_) rfl (by kernel_rfl) (by kernel_rfl) (by kernel_rfl) (fun _ _ _ h => h) (Or.inl ⟨by rfl, ?_⟩) (by assumption) ?_
  rotate_left
  · intro w hSw; go_simp; try with_reducible rfl
  go_simp
  refine wpAnyH_take (i := 9) (v := ?_) rfl (by kernel_rfl) (by kernel_rfl) (by kernel_rfl) (fun _ _ _ h => h) (Or.inl ⟨by rfl, ?_⟩) (by assumption) ?_
  rotate_left
  · intro w hSw; go_simp; try with_reducible rfl
  go_simp
  refine wpAnyH_take (i := 10) (v := ?_) rfl (by kernel_rfl) (by kernel_rfl) (by kernel_rfl) (fun _ _ _ h => h) (Or.inl ⟨by rfl, ?_⟩) (by assumption) ?_
  rotate_left
  · intro w hSw; go_simp; try with_reducible rfl
  go_simp
  refine wpAnyH_take (i := 11) (v := ?_) rfl (by kernel_rfl) (by kernel_rfl) (by kernel_rfl) (fun _ _ _ h => h) (Or.inl ⟨by rfl, ?_⟩) (by assumption) ?_
  rotate_left
  · intro w hSw; go_simp; try with_reducible rfl
  go_simp
  refine wpAnyH_take (i := 12) (v := ?_) rfl (by kernel_rfl) (by kernel_rfl) (by kernel_rfl) (fun _ _ _ h => h) (Or.inl ⟨by rfl, ?_⟩) (by assumption) ?_
  rotate_left
  · intro w hSw; go_simp; try with_reducible rfl
  go_simp
  refine wpAnyH_take (i := 13) (v := ?_) rfl (by kernel_rfl) (by kernel_rfl) (by kernel_rfl) (fun _ _ _ h => h) (Or.inl ⟨by rfl, ?_⟩) (by assumption) ?_
  rotate_left
  · intro w hSw; go_simp; try with_reducible rfl
  go_simp
  refine wpAnyH_take (i := 14) (v := ?_) rfl (by kernel_rfl) (by kernel_rfl) (by kernel_rfl) (fun _ _ _ h => h) (Or.inl ⟨by rfl, ?_⟩) (by assumption) ?_
  rotate_left
  · intro w hSw; go_simp; try with_reducible rfl
  go_simp
  refine wpAnyH_take (i := 15) (v := ?_) rfl (by kernel_rfl) (by kernel_rfl) (by kernel_rfl) (fun _ _ _ h => h) (Or.inl ⟨by rfl, ?_⟩) (by assumption) ?_
  rotate_left
  · intro w hSw; have q0 := kp_cell hSw b0; have q1 := kp_cell hSw b1; have q2 := kp_cell hSw b2; have q3 := kp_cell hSw b3; have q4 := kp_cell hSw b4; have q5 := kp_cell hSw b5; have q6 := kp_cell hSw b6; have q7 := kp_cell hSw b7; have q8 := kp_cell hSw b8; have q9 := kp_cell hSw b9; have q10 := kp_cell hSw b10; have q11 := kp_cell hSw b11; have q12 := kp_cell hSw b12; have q13 := kp_cell hSw b13; go_simp; try with_reducible rfl
  go_simp
  refine wpAnyH_take (i := 16) (v := ?_) rfl (by kernel_rfl) (by kernel_rfl) (by kernel_rfl) (fun _ _ _ h => h) (Or.inl ⟨by rfl, ?_⟩) (by assumption) ?_
  rotate_left
  · intro w hSw; have q0 := kp_cell hSw j0; have q1 := kp_cell hSw j1; have q2 := kp_cell hSw j2; have q3 := kp_cell hSw j3; have q4 := kp_cell hSw j4; have q5 := kp_cell hSw j5; have q6 := kp_cell hSw j6; have q7 := kp_cell hSw j7; have q8 := kp_cell hSw j8; have q9 := kp_cell hSw j9; have q10 := kp_cell hSw j10; have q11 := kp_cell hSw j11; have q12 := kp_cell hSw j12; have q13 := kp_cell hSw j13; go_simp; try with_reducible rfl
  go_simp
  refine wpAnyH_ready (rs := [17]) (by kernel_rfl) (by simp) ?_
  refine AllReadyH.cons rfl (fun K hK => ?_) AllReadyH.nil
  go_simp
  go_wp2_with (go_at_call 14; (with_reducible refine (HSM.out _).mono ?_); rintro e w9 ⟨rfl, hk9⟩; have K9 := Lib.hid (Kp.trans hHeld hk9); clear hk9)
  refine hK.out _ _ ?_ (fun hHeld => ?_)
  · exact K9.out
  clear hK K
  refine wpAnyH_take (i := 18) (v := ?_) rfl (by kernel_rfl) (by kernel_rfl) (by kernel_rfl) (fun _ _ _ h => h) (Or.inl ⟨by rfl, ?_⟩) (by assumption) ?_
  rotate_left
  · intro w hSw; go_simp; try with_reducible rfl
  go_simp
  refine wpAnyH_take (i := 19) (v := ?_) rfl (by kernel_rfl) (by kernel_rfl) (by kernel_rfl) (fun _ _ _ h => h) (Or.inl ⟨by rfl, ?_⟩) (by assumption) ?_
  rotate_left
  · intro w hSw; go_simp; try with_reducible rfl
  go_simp
  refine wpAnyH_take (i := 20) (v := ?_) rfl (by kernel_rfl) (by kernel_rfl) (by kernel_rfl) (fun _ _ _ h => h) (Or.inl ⟨by rfl, ?_⟩) (by assumption) ?_
  rotate_left
  · intro w hSw; go_simp; try with_reducible rfl
  go_simp
  refine wpAnyH_take (i := 21) (v := ?_) rfl (by kernel_rfl) (by kernel_rfl) (by kernel_rfl) (fun _ _ _ h => h) (Or.inl ⟨by rfl, ?_⟩) (by assumption) ?_
  rotate_left
  · intro w hSw; go_simp; try with_reducible rfl
  go_simp
  refine wpAnyH_take (i := 22) (v := ?_) rfl (by kernel_rfl) (by kernel_rfl) (by kernel_rfl) (fun _ _ _ h => h) (Or.inl ⟨by rfl, ?_⟩) (by assumption) ?_
  rotate_left
  · intro w hSw; go_simp; try with_reducible rfl
  go_simp
  refine wpAnyH_take (i := 23) (v := ?_) rfl (by kernel_rfl) (by kernel_rfl) (by kernel_rfl) (fun _ _ _ h => h) (Or.inl ⟨by rfl, ?_⟩) (by assumption) ?_
  rotate_left
  · intro w hSw; go_simp; try with_reducible rfl
  go_simp
  refine wpAnyH_take (i := 24) (v := ?_) rfl (by kernel_rfl) (by kernel_rfl) (by kernel_rfl) (fun _ _ _ h => h) (Or.inl ⟨by rfl, ?_⟩) (by assumption) ?_
  rotate_left
  · intro w hSw; go_simp; try with_reducible rfl
  go_simp
  refine wpAnyH_take (i := 25) (v := ?_) rfl (by kernel_rfl) (by kernel_rfl) (by kernel_rfl) (fun _ _ _ h => h) (Or.inl ⟨by rfl, ?_⟩) (by assumption) ?_
  rotate_left
  · intro w hSw; go_simp; try with_reducible rfl
  go_simp
  refine wpAnyH_take (i := 26) (v := ?_) rfl (by kernel_rfl) (by kernel_rfl) (by kernel_rfl) (fun _ _ _ h => h) (Or.inl ⟨by rfl, ?_⟩) (by assumption) ?_
  rotate_left
  · intro w hSw; go_simp; try with_reducible rfl
  go_simp
  refine wpAnyH_take (i := 27) (v := ?_) rfl (by kernel_rfl) (by kernel_rfl) (by kernel_rfl) (fun _ _ _ h => h) (Or.inl ⟨by rfl, ?_⟩) (by assumption) ?_
  rotate_left
  · intro w hSw; go_simp; try with_reducible rfl
  go_simp
  refine wpAnyH_take (i := 28) (v := ?_) rfl (by kernel_rfl) (by kernel_rfl) (by kernel_rfl) (fun _ _ _ h => h) (Or.inl ⟨by rfl, ?_⟩) (by assumption) ?_
  rotate_left
  · intro w hSw; go_simp; try with_reducible rfl
  go_simp
  refine wpAnyH_take (i := 29) (v := ?_) rfl (by kernel_rfl) (by kernel_rfl) (by kernel_rfl) (fun _ _ _ h => h) (Or.inl ⟨by rfl, ?_⟩) (by assumption) ?_
  rotate_left
  · intro w hSw; go_simp; try with_reducible rfl
  go_simp
  refine wpAnyH_done (by kernel_rfl) ?_ _
  go_wp2
  go_ret
  exact ⟨by first | rfl | simp, Kp.trans KW.out K9.out⟩
theorem factsBytes_any (ads : List Addr) (f : FX) (hf : f.wf) (w : World) (V : St ads w) (C : FacC ads w) :
    Calls Tryz.prog 3 #[.agg f.cells] w fun e w' => e = .returned (.bool true) ∧ Kp w w' := by
  cases hr : rightF f with
  | false => exact factsBytes_w ads f hf w V C hr
  | true => exact factsBytes_r ads f hf w C hr
end Go.Proofs.YtahdoniggipmmaaGreatDoor

namespace Go.Proofs.YtahdoniggipmmaaGreatDoor
open Go.RowKit

theorem factsBytes_walk (f : FX) (W : World) (kf : f.wf) (hL : laidMetH Tryz.prog Rows.factsBytesRow.laid W) :
    Calls Tryz.prog 3 #[.agg f.cells] W fun e w' => e = .returned (.bool true) ∧ Below W.heap.size W w' := by
  obtain ⟨⟨ads, V⟩, T⟩ := st_tab_of (l := Rows.factsBytesRow.laid) (by kernel_rfl) (by kernel_rfl) (by kernel_rfl) hL
  have C := facC_of ads W V T
  exact factsBytes_any ads f kf W V C

end Go.Proofs.YtahdoniggipmmaaGreatDoor

namespace Go.Proofs.YtahdoniggipmmaaGreatDoor
open Go.ChangeShapes Go.WideShapes Go.ChangeAt Go.WideMaps Go.WideElems Go.RowKit


set_option maxRecDepth 100000 in
theorem factsBytes_lifted (os : Os) (started : os.Started) (H : Type) (enc : TypeId × Value → H) :
    ReturnsInHanded {} Tryz.checked os 3 .any (fun w args => (Rows.factsBytesSpec.pre enc Tryz.prog Tryz.f3 [] false w args ∧ laidMetH Tryz.prog Rows.factsBytesRow.laid w) ∧ sizedMet enc Tryz.prog Tryz.f3 (OpenSpec.ofChange Rows.factsBytesSpec) false w args)
      (Rows.factsBytesSpec.post enc Tryz.prog Tryz.f3 false true false false) := by
  refine returnsInHanded_of_change_and (C := Tryz.checked) (X := fun w _ => laidMetH Tryz.prog Rows.factsBytesRow.laid w) (fun _ _ _ hh h => h.of_heap hh) own started (by kernel_rfl) Tryz.func3
    (ChangeSpec.witness_shaped (enc := enc) (C := Tryz.checked) (os := os) (X := fun w _ => laidMetH Tryz.prog Rows.factsBytesRow.laid w) false (World.laidAll Tryz.prog os Rows.factsBytesRow.laid) #[.agg #[.int .i64 0, .int .i64 0, .int .i64 0, .int .i64 0, .int .i64 0, .int .i64 0, .int .i64 0, .int .i64 0, .int .i64 0, .int .i64 0, .int .i64 0, .int .i64 0, .int .i64 0, .float .f64 0]] 8 (World.laidAll_os _ _ _) (World.shaped_of_ZipB (by kernel_rfl) (by kernel_rfl)) (by kernel_rfl) (by kernel_rfl) (by kernel_rfl) (by rw [MakeChecks.laidMetH_plain _ _ _ (by kernel_rfl)]; exact laidMet_laidAll _ (by kernel_rfl) (by kernel_rfl))) ?_
  intro W base args ds gs before hval0 hW _ hsz hL _
  have hval : ∀ (j : Nat) t v, Tryz.f3.params[j]? = some t → args[j]? = some v → Value.okWide Tryz.prog W .any base t v := hval0
  have hW' := hW
  obtain ⟨p, q, hA0, hV, rfl, hfz, hnd⟩ := hW
  have hA : DataW.TrodAll enc Tryz.prog W 0 (fun _ => true) true Tryz.f3.params.toList args.toList ds p := hA0
  rw [Tryz.params3] at hA hval
  obtain ⟨v0, vs0, d0, ds0, p0, q0, e0, rfl, rfl, h0, r0⟩ := trodAll_cons hA
  obtain ⟨rfl, rfl, rfl⟩ := trodAll_nil r0
  obtain rfl : args = #[v0] := by cases args; simp_all
  obtain ⟨rfl, rfl⟩ := trodVars_none hV
  obtain ⟨f, rfl, kf⟩ := open_fct (hval 0 26 v0 rfl rfl) h0
  clear hA0 hval0
  refine (factsBytes_walk f W kf hL).mono fun e W' ⟨he, hw⟩ => ?_
  subst he
  exact ⟨_, rfl, law_post laidOut hW' rfl rfl rfl Tryz.underlying4 (par_ok (by kernel_rfl)) hw⟩

theorem factsBytes_said : Rows.FactsBytesSaid :=
  OpenClaim.holds_of_wide 3 Tryz.f3 rfl rfl rfl rfl rfl rfl rfl ⟨rfl, rfl, rfl, rfl, rfl⟩ rfl rfl rfl rfl rfl (by kernel_rfl) Tryz.func3 (by kernel_rfl)
    (of_decide_eq_true (by kernel_rfl)) (by unfold Func.isWrapper; first | (rw [if_pos (by decide +kernel)]; kernel_rfl) | (rw [if_neg (by decide +kernel)]; exact ⟨rfl, rfl⟩))
    (fun os started H enc _ => factsBytes_lifted os started H enc)

theorem factsBytes_holds : Rows.FactsBytesCardSaid :=
  Claim7.holds_tied_plain_at .later [] _ _ _ _ factsBytes_said (fun _ h => by cases h) (by kernel_rfl) (fun _ h => by cases h) factsBytes_row_tie rfl ⟨rfl, rfl⟩ (by kernel_rfl) rfl
    (fun f fn hf hfn => by
      obtain rfl : f = 3 := Option.some.inj ((show Tryz.prog.funcNamed "liaison/liaisonlaw14.FactsBytes" = some 3 by kernel_rfl).symm.trans hf) |>.symm
      obtain rfl : fn = Tryz.f3 := (Option.some.inj (Tryz.func3.symm.trans hfn)).symm
      exact ⟨by kernel_rfl, stand_ok (P := Tryz.prog) (by kernel_rfl)⟩)
    (by kernel_rfl)
end Go.Proofs.YtahdoniggipmmaaGreatDoor

