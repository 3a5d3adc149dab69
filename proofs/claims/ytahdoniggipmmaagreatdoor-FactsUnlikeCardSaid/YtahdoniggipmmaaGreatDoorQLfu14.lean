/-
  FactsUnlike: for every two facts and every number, right facts have the same bytes just where they are the same, and a right fact's bytes cut short are another fact's, or none's. Condition: package api's errors and strconv's table of powers hold what their declarations lay.
-/
import Derived.Test.YtahdoniggipmmaaGreatDoorPkK
import Derived.Test.YtahdoniggipmmaaGreatDoorPkI
import Derived.Test.YtahdoniggipmmaaGreatDoorPkG
import Derived.Test.YtahdoniggipmmaaGreatDoorPkF
import Derived.Test.YtahdoniggipmmaaGreatDoorPkA
import Derived.Deep.RegionHeld3
import Derived.Test.YtahdoniggipmmaaGreatDoorRows
import Derived.Test.YtahdoniggipmmaaGreatDoorPkL
import Derived.Test.YtahdoniggipmmaaGreatDoorCards
import Derived.Test.YtahdoniggipmmaaGreatDoorTie
import Derived.SevenTiedAt
import Derived.Lay
import Derived.MakeChecks

namespace Go.Proofs.YtahdoniggipmmaaGreatDoor
open Go.RowKit Go.ChangeShapes Go.WideShapes

theorem same_right {f g : FX} (ha : rightF f = true) (hb : rightF g = true) : sameF f g = decide (f = g) := by
  have p1 := (rightF_plain ha).1
  have p2 := (rightF_plain hb).1
  unfold sameF
  rw [p1, p2, Bool.eq_iff_iff]
  simp only [Bool.and_eq_true, decide_eq_true_eq]
  constructor
  · rintro ⟨h1, h2⟩
    rw [← ofF_nums f, ← ofF_nums g, h1, h2]
  · rintro rfl
    exact ⟨rfl, rfl⟩
set_option maxRecDepth 100000 in
set_option maxHeartbeats 4000000 in
theorem unlikeF_w (ads : List Addr) (f g : FX) (y : Int) (hf : f.wf) (hg : g.wf) (w : World) (C : FacC ads w) (ha : rightF f = false) :
    Calls Tryz.prog 6 #[.agg f.cells, .agg g.cells, .int .i64 y] w fun e w' => e = .returned (.bool true) ∧ Kp w w' := by
  have HA := Lib.hid (fun w1 (hk : Kp w w1) => alive14_any ads w1 (FacC.kp C hk))
  have HRT := fun w1 (hk : Kp w w1) => C.right w1 hk f hf
  rw [ha] at HRT
  have HE1 := fun w1 (hk : Kp w w1) => C.encBad w1 hk f hf ha
  obtain ⟨q3, h3⟩ := errI_some14 ads 4 (by decide)
  rw [h3] at HE1
  have HE2 : ∀ w1, Kp w w1 → Calls Tryz.prog 8 #[.agg g.cells] w1 fun e w' => ∃ v1 v2, e = .returned (.tuple #[v1, v2]) ∧ Kp w1 w' := fun w1 hk => by
    cases hb : rightF g with
    | true => exact (C.encOk w1 hk g hb).mono (by rintro e w2 ⟨a, p, rfl, -, -, hk2⟩; exact ⟨_, _, rfl, hk2⟩)
    | false => exact (C.encBad w1 hk g hg hb).mono (by rintro e w2 ⟨rfl, hk2⟩; exact ⟨_, _, rfl, hk2⟩)
  clear h3 ha
  obtain ⟨k, n, s, r, u, p, q, o, d, a, t, hh, c, x⟩ := f
  obtain ⟨k', n', s', r', u', p', q', o', d', a', t', hh', c', x'⟩ := g
  dsimp only [FX.cells] at *
  have kb := Kp.trans (kp_alloc w (.cells #[.int .i64 k, .int .i64 n, .int .i64 s, .int .i64 r, .int .i64 u, .int .i64 p, .int .i64 q, .int .i64 o, .int .i64 d, .int .i64 a, .int .i64 t, .int .i64 hh, .int .i64 c, .float .f64 x] 26)) (kp_alloc (w.alloc (.cells #[.int .i64 k, .int .i64 n, .int .i64 s, .int .i64 r, .int .i64 u, .int .i64 p, .int .i64 q, .int .i64 o, .int .i64 d, .int .i64 a, .int .i64 t, .int .i64 hh, .int .i64 c, .float .f64 x] 26)) (.cells #[.int .i64 k', .int .i64 n', .int .i64 s', .int .i64 r', .int .i64 u', .int .i64 p', .int .i64 q', .int .i64 o', .int .i64 d', .int .i64 a', .int .i64 t', .int .i64 hh', .int .i64 c', .float .f64 x'] 26))
  have KB := Lib.hid kb
  have HRA := Lib.hid (new14_0 w (.cells #[.int .i64 k, .int .i64 n, .int .i64 s, .int .i64 r, .int .i64 u, .int .i64 p, .int .i64 q, .int .i64 o, .int .i64 d, .int .i64 a, .int .i64 t, .int .i64 hh, .int .i64 c, .float .f64 x] 26) (.cells #[.int .i64 k', .int .i64 n', .int .i64 s', .int .i64 r', .int .i64 u', .int .i64 p', .int .i64 q', .int .i64 o', .int .i64 d', .int .i64 a', .int .i64 t', .int .i64 hh', .int .i64 c', .float .f64 x'] 26))
  have HRB := Lib.hid (new14_1 w (.cells #[.int .i64 k, .int .i64 n, .int .i64 s, .int .i64 r, .int .i64 u, .int .i64 p, .int .i64 q, .int .i64 o, .int .i64 d, .int .i64 a, .int .i64 t, .int .i64 hh, .int .i64 c, .float .f64 x] 26) (.cells #[.int .i64 k', .int .i64 n', .int .i64 s', .int .i64 r', .int .i64 u', .int .i64 p', .int .i64 q', .int .i64 o', .int .i64 d', .int .i64 a', .int .i64 t', .int .i64 hh', .int .i64 c', .float .f64 x'] 26))
  have hsf := store_fl
  have HE1 := Lib.hid HE1
  have HE2 := Lib.hid HE2
  have HRT := Lib.hid HRT
  clear C kb hf hg
  go_enter Tryz.func6, Tryz.ntmps6
  go_wp2_with (first
    | (go_at_call 7; (with_reducible refine (HA.out _ KB.out).mono ?_); rintro e w1 ⟨rfl, hk⟩; have K1 := Lib.hid (Kp.trans KB.out hk); have A1 := Lib.hid (kp_row hk HRA.out); have B1 := Lib.hid (kp_row hk HRB.out); obtain ⟨g0, g1, g2, g3, g4, g5, g6, g7, g8, g9, g10, g11, g12, g13⟩ := cells14 A1.out; clear hk)
    | (go_at_call 8; (with_reducible refine (HE1.out _ K1.out).mono ?_); rintro e w2 ⟨rfl, hk⟩; have K2 := Lib.hid (Kp.trans K1.out hk); have A2 := Lib.hid (kp_row hk A1.out); have B2 := Lib.hid (kp_row hk B1.out); obtain ⟨h0, h1, h2, h3, h4, h5, h6, h7, h8, h9, h10, h11, h12, h13⟩ := cells14 B2.out; clear hk)
    | (go_at_call 8; (with_reducible refine (HE2.out _ K2.out).mono ?_); rintro e w3 ⟨v1, v2, rfl, hk⟩; have K3 := Lib.hid (Kp.trans K2.out hk); have A3 := Lib.hid (kp_row hk A2.out); have B3 := Lib.hid (kp_row hk B2.out); clear hk))
  obtain ⟨Ba, hBa⟩ : ∃ y, w.heap.size = y := ⟨_, rfl⟩
  obtain ⟨Bb, hBb⟩ : ∃ y, w.heap.size + 1 = y := ⟨_, rfl⟩
  have ra := A3.out
  have rb := B3.out
  rw [hBa] at ra
  rw [hBb] at rb
  rw [hBb, hBa]
  have A3 := Lib.hid ra
  have B3 := Lib.hid rb
  clear hBa hBb ra rb g0 g1 g2 g3 g4 g5 g6 g7 g8 g9 g10 g11 g12 g13 h0 h1 h2 h3 h4 h5 h6 h7 h8 h9 h10 h11 h12 h13
  obtain ⟨i0, i1, i2, i3, i4, i5, i6, i7, i8, i9, i10, i11, i12, i13⟩ := cells14 A3.out
  obtain ⟨j0, j1, j2, j3, j4, j5, j6, j7, j8, j9, j10, j11, j12, j13⟩ := cells14 B3.out
  refine wp_region_held_drew (S := fun w' => Kp w3 w') (by kernel_rfl) ?_ (fun hHeld => ?_)
  · exact (Kp.refl w3).drew
  refine wpAnyH_take (i := 0) (v := ?_) rfl (by kernel_rfl) (by kernel_rfl) (by kernel_rfl) (fun _ _ _ h => h) (Or.inl ⟨by rfl, ?_⟩) (by assumption) ?_
  rotate_left
  · intro w hSw; go_simp; try with_reducible rfl
  go_simp
  refine wpAnyH_take (i := 1) (v := ?_) rfl (by kernel_rfl) (by kernel_rfl) (by kernel_rfl) (fun _ _ _ h => h) (Or.inl ⟨by rfl, ?_⟩) (by assumption) ?_
  rotate_left
  · intro w hSw; go_simp; try with_reducible rfl
  go_simp
  refine wpAnyH_take (i := 2) (v := ?_) rfl (by kernel_rfl) (by kernel_rfl) (by kernel_rfl) (fun _ _ _ h => h) (Or.inl ⟨by rfl, ?_⟩) (by assumption) ?_
  rotate_left
  · intro w hSw; go_simp; try with_reducible rfl
  go_simp
  refine wpAnyH_take (i := 3) (v := undef) rfl (by kernel_rfl) (by kernel_rfl) (by kernel_rfl) (fun _ _ _ h => h) (Or.inr ⟨by rfl, rfl⟩) (by assumption) ?_
  go_simp
  refine wpAnyH_take (i := 4) (v := undef) rfl (by kernel_rfl) (by kernel_rfl) (by kernel_rfl) (fun _ _ _ h => h) (Or.inr ⟨by rfl, rfl⟩) (by assumption) ?_
  go_simp
  refine wpAnyH_take (i := 5) (v := ?_) rfl (by kernel_rfl) (by kernel_rfl) (by kernel_rfl) (fun _ _ _ h => h) (Or.inl ⟨by rfl, ?_⟩) (by assumption) ?_
  rotate_left
  · intro w hSw; go_simp; try with_reducible rfl
  go_simp
  refine wpAnyH_take (i := 6) (v := ?_) rfl (by kernel_rfl) (by kernel_rfl) (by kernel_rfl) (fun _ _ _ h => h) (Or.inl ⟨by rfl, ?_⟩) (by assumption) ?_
  rotate_left
  · intro w hSw; go_simp; try with_reducible rfl
  go_simp
  refine wpAnyH_take (i := 7) (v := undef) rfl (by kernel_rfl) (by kernel_rfl) (by kernel_rfl) (fun _ _ _ h => h) (Or.inr ⟨by rfl, rfl⟩) (by assumption) ?_
  go_simp
  refine wpAnyH_take (i := 8) (v := undef) rfl (by kernel_rfl) (by kernel_rfl) (by kernel_rfl) (fun _ _ _ h => h) (Or.inr ⟨by rfl, rfl⟩) (by assumption) ?_
  go_simp
  refine wpAnyH_take (i := 9) (v := undef) rfl (by kernel_rfl) (by kernel_rfl) (by kernel_rfl) (fun _ _ _ h => h) (Or.inr ⟨by rfl, rfl⟩) (by assumption) ?_
  go_simp
  refine wpAnyH_take (i := 10) (v := undef) rfl (by kernel_rfl) (by kernel_rfl) (by kernel_rfl) (fun _ _ _ h => h) (Or.inr ⟨by rfl, rfl⟩) (by assumption) ?_
  go_simp
  refine wpAnyH_take (i := 11) (v := undef) rfl (by kernel_rfl) (by kernel_rfl) (by kernel_rfl) (fun _ _ _ h => h) (Or.inr ⟨by rfl, rfl⟩) (by assumption) ?_
  go_simp
  refine wpAnyH_take (i := 12) (v := undef) rfl (by kernel_rfl) (by kernel_rfl) (by kernel_rfl) (fun _ _ _ h => h) (Or.inr ⟨by rfl, rfl⟩) (by assumption) ?_
  go_simp
  refine wpAnyH_take (i := 13) (v := undef) rfl (by kernel_rfl) (by kernel_rfl) (by kernel_rfl) (fun _ _ _ h => h) (Or.inr ⟨by rfl, rfl⟩) (by assumption) ?_
  go_simp
  refine wpAnyH_take (i := 14) (v := undef) rfl (by kernel_rfl) (by kernel_rfl) (by kernel_rfl) (fun _ _ _ h => h) (Or.inr ⟨by rfl, rfl⟩) (by assumption) ?_
  go_simp
  refine wpAnyH_take (i := 15) (v := undef) rfl (by kernel_rfl) (by kernel_rfl) (by kernel_rfl) (fun _ _ _ h => h) (Or.inr ⟨by rfl, rfl⟩) (by assumption) ?_
  go_simp
  refine wpAnyH_take (i := 16) (v := ?_) rfl (by kernel_rfl) (by kernel_rfl) (by kernel_rfl) (fun _ _ _ h => h) (Or.inl ⟨by rfl, ?_⟩) (by assumption) ?_
  rotate_left
  · intro w hSw; go_simp; try with_reducible rfl
  go_simp
  refine wpAnyH_done (by kernel_rfl) ?_ _
  have KX := Lib.hid (Kp.trans K3.out hHeld)
  obtain ⟨a0, a1, a2, a3, a4, a5, a6, a7, a8, a9, a10, a11, a12, a13⟩ := cells14 (kp_row hHeld A3.out)
  clear i0 i1 i2 i3 i4 i5 i6 i7 i8 i9 i10 i11 i12 i13 j0 j1 j2 j3 j4 j5 j6 j7 j8 j9 j10 j11 j12 j13 hHeld
  go_wp2_with (go_at_call 9; (with_reducible refine (HRT.out _ KX.out).mono ?_); rintro e w5 ⟨rfl, hk⟩; have K5 := Lib.hid (Kp.trans KX.out hk); clear hk)
  go_ret
  exact ⟨by first | rfl | simp, K5.out⟩
set_option maxRecDepth 100000 in
set_option maxHeartbeats 4000000 in
theorem unlikeF_01 (ads : List Addr) (f g : FX) (y : Int) (hf : f.wf) (hg : g.wf) (w : World) (C : FacC ads w) (ha : rightF f = true) (hb : rightF g = false) (K : Nat) (hK : K < (encF f).length) (hcut : wrap64 ((IntKind.u64.wrap y).tmod ((encF f).length : Nat)) = (K : Int)) (h0 : (decG ((encF f).take K)).1 ≠ 0) :
    Calls Tryz.prog 6 #[.agg f.cells, .agg g.cells, .int .i64 y] w fun e w' => e = .returned (.bool true) ∧ Kp w w' := by
  have HA := Lib.hid (fun w1 (hk : Kp w w1) => alive14_any ads w1 (FacC.kp C hk))
  have HRT := fun w1 (hk : Kp w w1) => C.right w1 hk f hf
  rw [ha] at HRT
  have hle := encF_len f
  have HE1 : ∀ w1, Kp w w1 → Calls Tryz.prog 8 #[.agg f.cells] w1 fun e w' => ∃ (a2 c2 : Nat), e = .returned (.tuple #[.slice (some ⟨a2, 0, none⟩) (encF f).length c2, .nilIface]) ∧ (encF f).length ≤ c2 ∧ w'.ownsRow w1.heap.size 5 1 (.slice (some ⟨a2, 0, none⟩) (encF f).length c2) (encF f).length ((encF f).map (Value.int .u8)) ∧ Kp w1 w' := fun w1 hk => (C.encOk w1 hk f ha).mono (by
    rintro e w2 ⟨a, c, rfl, hc, hs, hk2⟩
    rcases hs.2 with ⟨hv, hz⟩ | ⟨g', cap, cur, hv, hrest⟩
    · omega
    · injection hv with hv1 hv2 hv3
      subst hv1
      exact ⟨g', c, rfl, hc, hs, hk2⟩)
  have HD := fun w1 (hk : Kp w w1) (b c : Nat) (hc : (encF f).length ≤ c) (hs : SlB (.slice (some ⟨b, 0, none⟩) (encF f).length c) (encF f) w1) => C.dec w1 hk (some ⟨b, 0, none⟩) c ((encF f).take K) K (by rw [List.length_take]; omega) (by omega) (fun y hy => encF_in f y (List.mem_of_mem_take hy)) (by omega) (slb_take hs (by omega))
  have hno := dec_cutF K hK
  have HE2 := fun w1 (hk : Kp w w1) => C.encBad w1 hk g hg hb
  obtain ⟨q4, h4⟩ := errI_some14 ads 4 (by decide)
  rw [h4] at HE2
  clear h4
  obtain ⟨q5, hq5⟩ := errI_some14 ads _ h0
  rw [hq5] at HD
  obtain ⟨M2, hM2⟩ : ∃ x, (decG ((encF f).take K)).2 = x := ⟨_, rfl⟩
  rw [hM2] at HD
  clear hq5 hM2 h0 hno
  obtain ⟨xl, hxl⟩ : ∃ xl, (encF f).length = xl := ⟨_, rfl⟩
  obtain ⟨eb, heb⟩ : ∃ x, encF f = x := ⟨_, rfl⟩
  rw [hxl] at hle hcut hK
  simp only [hxl] at HE1 HD
  simp only [heb] at HE1 HD
  obtain ⟨mm, hmm⟩ : ∃ mm : Int, (K : Int) = mm := ⟨_, rfl⟩
  have hsl := fun (b c : Nat) (hc : xl ≤ c) (w : World) => run_head (b := b) (off := 0) hmm (Nat.le_of_lt hK) hc w
  have HSL := Lib.hid hsl
  obtain ⟨xi, hxi⟩ : ∃ xi : Int, (xl : Int) = xi := ⟨_, rfl⟩
  rw [hxi, hmm] at hcut
  have hx1 : (xi == 0) = false := by simp; omega
  have hxb : 0 < xi ∧ xi ≤ 891 := by omega
  have hxn : xi ≠ 0 := by omega
  have hmb : 0 ≤ mm ∧ mm < xi := by omega
  clear ha hb heb hle hxl hK hsl
  obtain ⟨k9, n9, s9, r9, u9, p9, q9, o9, d9, a9, t9, hh9, c9, x3⟩ := M2
  obtain ⟨k, n, s, r, u, p, q, o, d, a, t, hh, c, x⟩ := f
  obtain ⟨k', n', s', r', u', p', q', o', d', a', t', hh', c', x'⟩ := g
  dsimp only [FX.cells] at *
  have kb := Kp.trans (kp_alloc w (.cells #[.int .i64 k, .int .i64 n, .int .i64 s, .int .i64 r, .int .i64 u, .int .i64 p, .int .i64 q, .int .i64 o, .int .i64 d, .int .i64 a, .int .i64 t, .int .i64 hh, .int .i64 c, .float .f64 x] 26)) (kp_alloc (w.alloc (.cells #[.int .i64 k, .int .i64 n, .int .i64 s, .int .i64 r, .int .i64 u, .int .i64 p, .int .i64 q, .int .i64 o, .int .i64 d, .int .i64 a, .int .i64 t, .int .i64 hh, .int .i64 c, .float .f64 x] 26)) (.cells #[.int .i64 k', .int .i64 n', .int .i64 s', .int .i64 r', .int .i64 u', .int .i64 p', .int .i64 q', .int .i64 o', .int .i64 d', .int .i64 a', .int .i64 t', .int .i64 hh', .int .i64 c', .float .f64 x'] 26))
  have KB := Lib.hid kb
  have HRA := Lib.hid (new14_0 w (.cells #[.int .i64 k, .int .i64 n, .int .i64 s, .int .i64 r, .int .i64 u, .int .i64 p, .int .i64 q, .int .i64 o, .int .i64 d, .int .i64 a, .int .i64 t, .int .i64 hh, .int .i64 c, .float .f64 x] 26) (.cells #[.int .i64 k', .int .i64 n', .int .i64 s', .int .i64 r', .int .i64 u', .int .i64 p', .int .i64 q', .int .i64 o', .int .i64 d', .int .i64 a', .int .i64 t', .int .i64 hh', .int .i64 c', .float .f64 x'] 26))
  have HRB := Lib.hid (new14_1 w (.cells #[.int .i64 k, .int .i64 n, .int .i64 s, .int .i64 r, .int .i64 u, .int .i64 p, .int .i64 q, .int .i64 o, .int .i64 d, .int .i64 a, .int .i64 t, .int .i64 hh, .int .i64 c, .float .f64 x] 26) (.cells #[.int .i64 k', .int .i64 n', .int .i64 s', .int .i64 r', .int .i64 u', .int .i64 p', .int .i64 q', .int .i64 o', .int .i64 d', .int .i64 a', .int .i64 t', .int .i64 hh', .int .i64 c', .float .f64 x'] 26))
  have hsf := store_fl
  have HE1 := Lib.hid HE1
  have HE2 := Lib.hid HE2
  have HRT := Lib.hid HRT
  have HD := Lib.hid HD
  clear C kb hf hg
  go_enter Tryz.func6, Tryz.ntmps6
  go_wp2_with (first
    | (go_at_call 7; (with_reducible refine (HA.out _ KB.out).mono ?_); rintro e w1 ⟨rfl, hk⟩; have K1 := Lib.hid (Kp.trans KB.out hk); have A1 := Lib.hid (kp_row hk HRA.out); have B1 := Lib.hid (kp_row hk HRB.out); obtain ⟨g0, g1, g2, g3, g4, g5, g6, g7, g8, g9, g10, g11, g12, g13⟩ := cells14 A1.out; clear hk)
    | (go_at_call 8; (with_reducible refine (HE1.out _ K1.out).mono ?_); rintro e w2 ⟨a2, c2, rfl, hc2, ho2, hk⟩; have K2 := Lib.hid (Kp.trans K1.out hk); have A2 := Lib.hid (kp_row hk A1.out); have B2 := Lib.hid (kp_row hk B1.out); obtain ⟨h0, h1, h2, h3, h4, h5, h6, h7, h8, h9, h10, h11, h12, h13⟩ := cells14 B2.out; have S2 := Lib.hid (own_slb ho2); have HC2 := Lib.hid hc2; clear ho2 hc2; clear hk)
    | (go_at_call 8; (with_reducible refine (HE2.out _ K2.out).mono ?_); rintro e w3 ⟨rfl, hk⟩; have K3 := Lib.hid (Kp.trans K2.out hk); have A3 := Lib.hid (kp_row hk A2.out); have B3 := Lib.hid (kp_row hk B2.out); have S23 := Lib.hid (S2.out.kp hk); clear hk))
  obtain ⟨Ba, hBa⟩ : ∃ y, w.heap.size = y := ⟨_, rfl⟩
  obtain ⟨Bb, hBb⟩ : ∃ y, w.heap.size + 1 = y := ⟨_, rfl⟩
  have ra := A3.out
  have rb := B3.out
  rw [hBa] at ra
  rw [hBb] at rb
  rw [hBb, hBa]
  have A3 := Lib.hid ra
  have B3 := Lib.hid rb
  clear hBa hBb ra rb g0 g1 g2 g3 g4 g5 g6 g7 g8 g9 g10 g11 g12 g13 h0 h1 h2 h3 h4 h5 h6 h7 h8 h9 h10 h11 h12 h13
  obtain ⟨i0, i1, i2, i3, i4, i5, i6, i7, i8, i9, i10, i11, i12, i13⟩ := cells14 A3.out
  obtain ⟨j0, j1, j2, j3, j4, j5, j6, j7, j8, j9, j10, j11, j12, j13⟩ := cells14 B3.out
  refine wp_region_held_drew (S := fun w' => Kp w3 w') (by kernel_rfl) ?_ (fun hHeld => ?_)
  · exact (Kp.refl w3).drew
  refine wpAnyH_take (i := 0) (v := ?_) rfl (by kernel_rfl) (by kernel_rfl) (by kernel_rfl) (fun _ _ _ h => h) (Or.inl ⟨by rfl, ?_⟩) (by assumption) ?_
  rotate_left
  · intro w hSw; go_simp; try with_reducible rfl
  go_simp
  refine wpAnyH_take (i := 1) (v := ?_) rfl (by kernel_rfl) (by kernel_rfl) (by kernel_rfl) (fun _ _ _ h => h) (Or.inl ⟨by rfl, ?_⟩) (by assumption) ?_
  rotate_left
  · intro w hSw; go_simp; try with_reducible rfl
  go_simp
  refine wpAnyH_take (i := 2) (v := ?_) rfl (by kernel_rfl) (by kernel_rfl) (by kernel_rfl) (fun _ _ _ h => h) (Or.inl ⟨by rfl, ?_⟩) (by assumption) ?_
  rotate_left
  · intro w hSw; go_simp; try with_reducible rfl
  go_simp
  refine wpAnyH_take (i := 3) (v := ?_) rfl (by kernel_rfl) (by kernel_rfl) (by kernel_rfl) (fun _ _ _ h => h) (Or.inl ⟨by rfl, ?_⟩) (by assumption) ?_
  rotate_left
  · intro w hSw; go_simp; try with_reducible rfl
  go_simp
  refine wpAnyH_take (i := 4) (v := ?_) rfl (by kernel_rfl) (by kernel_rfl) (by kernel_rfl) (fun _ _ _ h => h) (Or.inl ⟨by rfl, ?_⟩) (by assumption) ?_
  rotate_left
  · intro w hSw; go_simp; try with_reducible rfl
  go_simp
  refine wpAnyH_take (i := 5) (v := ?_) rfl (by kernel_rfl) (by kernel_rfl) (by kernel_rfl) (fun _ _ _ h => h) (Or.inl ⟨by rfl, ?_⟩) (by assumption) ?_
  rotate_left
  · intro w hSw; go_simp; try with_reducible rfl
  go_simp
  refine wpAnyH_take (i := 6) (v := ?_) rfl (by kernel_rfl) (by kernel_rfl) (by kernel_rfl) (fun _ _ _ h => h) (Or.inl ⟨by rfl, ?_⟩) (by assumption) ?_
  rotate_left
  · intro w hSw; go_simp; try with_reducible rfl
  go_simp
  refine wpAnyH_take (i := 7) (v := undef) rfl (by kernel_rfl) (by kernel_rfl) (by kernel_rfl) (fun _ _ _ h => h) (Or.inr ⟨by rfl, rfl⟩) (by assumption) ?_
  go_simp
  refine wpAnyH_take (i := 8) (v := undef) rfl (by kernel_rfl) (by kernel_rfl) (by kernel_rfl) (fun _ _ _ h => h) (Or.inr ⟨by rfl, rfl⟩) (by assumption) ?_
  go_simp
  refine wpAnyH_take (i := 9) (v := undef) rfl (by kernel_rfl) (by kernel_rfl) (by kernel_rfl) (fun _ _ _ h => h) (Or.inr ⟨by rfl, rfl⟩) (by assumption) ?_
  go_simp
  refine wpAnyH_take (i := 10) (v := undef) rfl (by kernel_rfl) (by kernel_rfl) (by kernel_rfl) (fun _ _ _ h => h) (Or.inr ⟨by rfl, rfl⟩) (by assumption) ?_
  go_simp
  refine wpAnyH_take (i := 11) (v := undef) rfl (by kernel_rfl) (by kernel_rfl) (by kernel_rfl) (fun _ _ _ h => h) (Or.inr ⟨by rfl, rfl⟩) (by assumption) ?_
  go_simp
  refine wpAnyH_take (i := 12) (v := undef) rfl (by kernel_rfl) (by kernel_rfl) (by kernel_rfl) (fun _ _ _ h => h) (Or.inr ⟨by rfl, rfl⟩) (by assumption) ?_
  go_simp
  refine wpAnyH_take (i := 13) (v := undef) rfl (by kernel_rfl) (by kernel_rfl) (by kernel_rfl) (fun _ _ _ h => h) (Or.inr ⟨by rfl, rfl⟩) (by assumption) ?_
  go_simp
  refine wpAnyH_take (i := 14) (v := undef) rfl (by kernel_rfl) (by kernel_rfl) (by kernel_rfl) (fun _ _ _ h => h) (Or.inr ⟨by rfl, rfl⟩) (by assumption) ?_
  go_simp
  refine wpAnyH_take (i := 15) (v := undef) rfl (by kernel_rfl) (by kernel_rfl) (by kernel_rfl) (fun _ _ _ h => h) (Or.inr ⟨by rfl, rfl⟩) (by assumption) ?_
  go_simp
  refine wpAnyH_take (i := 16) (v := ?_) rfl (by kernel_rfl) (by kernel_rfl) (by kernel_rfl) (fun _ _ _ h => h) (Or.inl ⟨by rfl, ?_⟩) (by assumption) ?_
  rotate_left
  · intro w hSw; go_simp; try with_reducible rfl
  go_simp
  refine wpAnyH_done (by kernel_rfl) ?_ _
  have KX := Lib.hid (Kp.trans K3.out hHeld)
  have AX := Lib.hid (kp_row hHeld A3.out)
  have SX := Lib.hid (S23.out.kp hHeld)
  obtain ⟨m0, m1, m2, m3, m4, m5, m6, m7, m8, m9, m10, m11, m12, m13⟩ := cells14 AX.out
  have sl2 := HSL.out a2 c2 HC2.out
  clear i0 i1 i2 i3 i4 i5 i6 i7 i8 i9 i10 i11 i12 i13 j0 j1 j2 j3 j4 j5 j6 j7 j8 j9 j10 j11 j12 j13 hHeld
  go_wp2_with (first
    | (go_at_call 12; (with_reducible refine (HD.out _ KX.out _ _ HC2.out SX.out).mono ?_); rintro e w5 ⟨rfl, hk⟩; have K5 := Lib.hid (Kp.trans KX.out (Kp.trans hk (kp_alloc w5 (.cells #[.int .i64 k9, .int .i64 n9, .int .i64 s9, .int .i64 r9, .int .i64 u9, .int .i64 p9, .int .i64 q9, .int .i64 o9, .int .i64 d9, .int .i64 a9, .int .i64 t9, .int .i64 hh9, .int .i64 c9, .float .f64 x3] 26)))); have A5 := Lib.hid (kp_row (Kp.trans hk (kp_alloc w5 (.cells #[.int .i64 k9, .int .i64 n9, .int .i64 s9, .int .i64 r9, .int .i64 u9, .int .i64 p9, .int .i64 q9, .int .i64 o9, .int .i64 d9, .int .i64 a9, .int .i64 t9, .int .i64 hh9, .int .i64 c9, .float .f64 x3] 26))) AX.out); have M5 := Lib.hid (MapKept.heap_alloc w5 (.cells #[.int .i64 k9, .int .i64 n9, .int .i64 s9, .int .i64 r9, .int .i64 u9, .int .i64 p9, .int .i64 q9, .int .i64 o9, .int .i64 d9, .int .i64 a9, .int .i64 t9, .int .i64 hh9, .int .i64 c9, .float .f64 x3] 26)).1; obtain ⟨i0, i1, i2, i3, i4, i5, i6, i7, i8, i9, i10, i11, i12, i13⟩ := cells14 A5.out; clear hk)
    | (go_at_call 9; (with_reducible refine (HRT.out _ K5.out).mono ?_); rintro e w6 ⟨rfl, hk⟩; have K6 := Lib.hid (Kp.trans K5.out hk); have A6 := Lib.hid (kp_row hk A5.out); have M6 := Lib.hid (kp_row hk M5.out); obtain ⟨h0, h1, h2, h3, h4, h5, h6, h7, h8, h9, h10, h11, h12, h13⟩ := cells14 A6.out; obtain ⟨j0, j1, j2, j3, j4, j5, j6, j7, j8, j9, j10, j11, j12, j13⟩ := cells14 M6.out; clear hk))
  go_ret
  exact ⟨by first | rfl | simp, K6.out⟩
set_option maxRecDepth 100000 in
set_option maxHeartbeats 4000000 in
theorem unlikeF_00 (ads : List Addr) (f g : FX) (y : Int) (hf : f.wf) (hg : g.wf) (w : World) (C : FacC ads w) (ha : rightF f = true) (hb : rightF g = false) (K : Nat) (hK : K < (encF f).length) (hcut : wrap64 ((IntKind.u64.wrap y).tmod ((encF f).length : Nat)) = (K : Int)) (h0 : (decG ((encF f).take K)).1 = 0) :
    Calls Tryz.prog 6 #[.agg f.cells, .agg g.cells, .int .i64 y] w fun e w' => e = .returned (.bool true) ∧ Kp w w' := by
  have HA := Lib.hid (fun w1 (hk : Kp w w1) => alive14_any ads w1 (FacC.kp C hk))
  have HRT := fun w1 (hk : Kp w w1) => C.right w1 hk f hf
  rw [ha] at HRT
  have hle := encF_len f
  have HE1 : ∀ w1, Kp w w1 → Calls Tryz.prog 8 #[.agg f.cells] w1 fun e w' => ∃ (a2 c2 : Nat), e = .returned (.tuple #[.slice (some ⟨a2, 0, none⟩) (encF f).length c2, .nilIface]) ∧ (encF f).length ≤ c2 ∧ w'.ownsRow w1.heap.size 5 1 (.slice (some ⟨a2, 0, none⟩) (encF f).length c2) (encF f).length ((encF f).map (Value.int .u8)) ∧ Kp w1 w' := fun w1 hk => (C.encOk w1 hk f ha).mono (by
    rintro e w2 ⟨a, c, rfl, hc, hs, hk2⟩
    rcases hs.2 with ⟨hv, hz⟩ | ⟨g', cap, cur, hv, hrest⟩
    · omega
    · injection hv with hv1 hv2 hv3
      subst hv1
      exact ⟨g', c, rfl, hc, hs, hk2⟩)
  have HD := fun w1 (hk : Kp w w1) (b c : Nat) (hc : (encF f).length ≤ c) (hs : SlB (.slice (some ⟨b, 0, none⟩) (encF f).length c) (encF f) w1) => C.dec w1 hk (some ⟨b, 0, none⟩) c ((encF f).take K) K (by rw [List.length_take]; omega) (by omega) (fun y hy => encF_in f y (List.mem_of_mem_take hy)) (by omega) (slb_take hs (by omega))
  have hno := dec_cutF K hK
  have HE2 := fun w1 (hk : Kp w w1) => C.encBad w1 hk g hg hb
  obtain ⟨q4, h4⟩ := errI_some14 ads 4 (by decide)
  rw [h4] at HE2
  clear h4
  have hwf := decG_wf (bs := (encF f).take K)
  obtain ⟨M2, hM2⟩ : ∃ M, decG ((encF f).take K) = (0, M) := ⟨(decG ((encF f).take K)).2, Prod.ext h0 rfl⟩
  have hrm := (enc_decF (fun y hy => encF_in f y (List.mem_of_mem_take hy)) hM2).1
  rw [hM2] at hno hwf
  simp only [hM2, errI_nil] at HD
  have HSN := fun w1 (hk : Kp w w1) => C.same w1 hk M2 f hwf hf
  rw [same_right hrm ha, decide_eq_false (fun q => hno (by rw [q]))] at HSN
  clear hM2 h0 hno hrm hwf
  obtain ⟨xl, hxl⟩ : ∃ xl, (encF f).length = xl := ⟨_, rfl⟩
  obtain ⟨eb, heb⟩ : ∃ x, encF f = x := ⟨_, rfl⟩
  rw [hxl] at hle hcut hK
  simp only [hxl] at HE1 HD
  simp only [heb] at HE1 HD
  obtain ⟨mm, hmm⟩ : ∃ mm : Int, (K : Int) = mm := ⟨_, rfl⟩
  have hsl := fun (b c : Nat) (hc : xl ≤ c) (w : World) => run_head (b := b) (off := 0) hmm (Nat.le_of_lt hK) hc w
  have HSL := Lib.hid hsl
  obtain ⟨xi, hxi⟩ : ∃ xi : Int, (xl : Int) = xi := ⟨_, rfl⟩
  rw [hxi, hmm] at hcut
  have hx1 : (xi == 0) = false := by simp; omega
  have hxb : 0 < xi ∧ xi ≤ 891 := by omega
  have hxn : xi ≠ 0 := by omega
  have hmb : 0 ≤ mm ∧ mm < xi := by omega
  clear ha hb heb hle hxl hK hsl
  obtain ⟨k9, n9, s9, r9, u9, p9, q9, o9, d9, a9, t9, hh9, c9, x3⟩ := M2
  obtain ⟨k, n, s, r, u, p, q, o, d, a, t, hh, c, x⟩ := f
  obtain ⟨k', n', s', r', u', p', q', o', d', a', t', hh', c', x'⟩ := g
  dsimp only [FX.cells] at *
  have kb := Kp.trans (kp_alloc w (.cells #[.int .i64 k, .int .i64 n, .int .i64 s, .int .i64 r, .int .i64 u, .int .i64 p, .int .i64 q, .int .i64 o, .int .i64 d, .int .i64 a, .int .i64 t, .int .i64 hh, .int .i64 c, .float .f64 x] 26)) (kp_alloc (w.alloc (.cells #[.int .i64 k, .int .i64 n, .int .i64 s, .int .i64 r, .int .i64 u, .int .i64 p, .int .i64 q, .int .i64 o, .int .i64 d, .int .i64 a, .int .i64 t, .int .i64 hh, .int .i64 c, .float .f64 x] 26)) (.cells #[.int .i64 k', .int .i64 n', .int .i64 s', .int .i64 r', .int .i64 u', .int .i64 p', .int .i64 q', .int .i64 o', .int .i64 d', .int .i64 a', .int .i64 t', .int .i64 hh', .int .i64 c', .float .f64 x'] 26))
  have KB := Lib.hid kb
  have HRA := Lib.hid (new14_0 w (.cells #[.int .i64 k, .int .i64 n, .int .i64 s, .int .i64 r, .int .i64 u, .int .i64 p, .int .i64 q, .int .i64 o, .int .i64 d, .int .i64 a, .int .i64 t, .int .i64 hh, .int .i64 c, .float .f64 x] 26) (.cells #[.int .i64 k', .int .i64 n', .int .i64 s', .int .i64 r', .int .i64 u', .int .i64 p', .int .i64 q', .int .i64 o', .int .i64 d', .int .i64 a', .int .i64 t', .int .i64 hh', .int .i64 c', .float .f64 x'] 26))
  have HRB := Lib.hid (new14_1 w (.cells #[.int .i64 k, .int .i64 n, .int .i64 s, .int .i64 r, .int .i64 u, .int .i64 p, .int .i64 q, .int .i64 o, .int .i64 d, .int .i64 a, .int .i64 t, .int .i64 hh, .int .i64 c, .float .f64 x] 26) (.cells #[.int .i64 k', .int .i64 n', .int .i64 s', .int .i64 r', .int .i64 u', .int .i64 p', .int .i64 q', .int .i64 o', .int .i64 d', .int .i64 a', .int .i64 t', .int .i64 hh', .int .i64 c', .float .f64 x'] 26))
  have hsf := store_fl
  have HE1 := Lib.hid HE1
  have HE2 := Lib.hid HE2
  have HRT := Lib.hid HRT
  have HD := Lib.hid HD
  have HSN := Lib.hid HSN
  clear C kb hf hg
  go_enter Tryz.func6, Tryz.ntmps6
  go_wp2_with (first
    | (go_at_call 7; (with_reducible refine (HA.out _ KB.out).mono ?_); rintro e w1 ⟨rfl, hk⟩; have K1 := Lib.hid (Kp.trans KB.out hk); have A1 := Lib.hid (kp_row hk HRA.out); have B1 := Lib.hid (kp_row hk HRB.out); obtain ⟨g0, g1, g2, g3, g4, g5, g6, g7, g8, g9, g10, g11, g12, g13⟩ := cells14 A1.out; clear hk)
    | (go_at_call 8; (with_reducible refine (HE1.out _ K1.out).mono ?_); rintro e w2 ⟨a2, c2, rfl, hc2, ho2, hk⟩; have K2 := Lib.hid (Kp.trans K1.out hk); have A2 := Lib.hid (kp_row hk A1.out); have B2 := Lib.hid (kp_row hk B1.out); obtain ⟨h0, h1, h2, h3, h4, h5, h6, h7, h8, h9, h10, h11, h12, h13⟩ := cells14 B2.out; have S2 := Lib.hid (own_slb ho2); have HC2 := Lib.hid hc2; clear ho2 hc2; clear hk)
    | (go_at_call 8; (with_reducible refine (HE2.out _ K2.out).mono ?_); rintro e w3 ⟨rfl, hk⟩; have K3 := Lib.hid (Kp.trans K2.out hk); have A3 := Lib.hid (kp_row hk A2.out); have B3 := Lib.hid (kp_row hk B2.out); have S23 := Lib.hid (S2.out.kp hk); clear hk))
  obtain ⟨Ba, hBa⟩ : ∃ y, w.heap.size = y := ⟨_, rfl⟩
  obtain ⟨Bb, hBb⟩ : ∃ y, w.heap.size + 1 = y := ⟨_, rfl⟩
  have ra := A3.out
  have rb := B3.out
  rw [hBa] at ra
  rw [hBb] at rb
  rw [hBb, hBa]
  have A3 := Lib.hid ra
  have B3 := Lib.hid rb
  clear hBa hBb ra rb g0 g1 g2 g3 g4 g5 g6 g7 g8 g9 g10 g11 g12 g13 h0 h1 h2 h3 h4 h5 h6 h7 h8 h9 h10 h11 h12 h13
  obtain ⟨i0, i1, i2, i3, i4, i5, i6, i7, i8, i9, i10, i11, i12, i13⟩ := cells14 A3.out
  obtain ⟨j0, j1, j2, j3, j4, j5, j6, j7, j8, j9, j10, j11, j12, j13⟩ := cells14 B3.out
  refine wp_region_held_drew (S := fun w' => Kp w3 w') (by kernel_rfl) ?_ (fun hHeld => ?_)
  · exact (Kp.refl w3).drew
  refine wpAnyH_take (i := 0) (v := ?_) rfl (by kernel_rfl) (by kernel_rfl) (by kernel_rfl) (fun _ _ _ h => h) (Or.inl ⟨by rfl, ?_⟩) (by assumption) ?_
  rotate_left
  · intro w hSw; go_simp; try with_reducible rfl
  go_simp
  refine wpAnyH_take (i := 1) (v := ?_) rfl (by kernel_rfl) (by kernel_rfl) (by kernel_rfl) (fun _ _ _ h => h) (Or.inl ⟨by rfl, ?_⟩) (by assumption) ?_
  rotate_left
  · intro w hSw; go_simp; try with_reducible rfl
  go_simp
  refine wpAnyH_take (i := 2) (v := ?_) rfl (by kernel_rfl) (by kernel_rfl) (by kernel_rfl) (fun _ _ _ h => h) (Or.inl ⟨by rfl, ?_⟩) (by assumption) ?_
  rotate_left
  · intro w hSw; go_simp; try with_reducible rfl
  go_simp
  refine wpAnyH_take (i := 3) (v := ?_) rfl (by kernel_rfl) (by kernel_rfl) (by kernel_rfl) (fun _ _ _ h => h) (Or.inl ⟨by rfl, ?_⟩) (by assumption) ?_
  rotate_left
  · intro w hSw; go_simp; try with_reducible rfl
  go_simp
  refine wpAnyH_take (i := 4) (v := ?_) rfl (by kernel_rfl) (by kernel_rfl) (by kernel_rfl) (fun _ _ _ h => h) (Or.inl ⟨by rfl, ?_⟩) (by assumption) ?_
  rotate_left
  · intro w hSw; go_simp; try with_reducible rfl
  go_simp
  refine wpAnyH_take (i := 5) (v := ?_) rfl (by kernel_rfl) (by kernel_rfl) (by kernel_rfl) (fun _ _ _ h => h) (Or.inl ⟨by rfl, ?_⟩) (by assumption) ?_
  rotate_left
  · intro w hSw; go_simp; try with_reducible rfl
  go_simp
  refine wpAnyH_take (i := 6) (v := ?_) rfl (by kernel_rfl) (by kernel_rfl) (by kernel_rfl) (fun _ _ _ h => h) (Or.inl ⟨by rfl, ?_⟩) (by assumption) ?_
  rotate_left
  · intro w hSw; go_simp; try with_reducible rfl
  go_simp
  refine wpAnyH_take (i := 7) (v := undef) rfl (by kernel_rfl) (by kernel_rfl) (by kernel_rfl) (fun _ _ _ h => h) (Or.inr ⟨by rfl, rfl⟩) (by assumption) ?_
  go_simp
  refine wpAnyH_take (i := 8) (v := undef) rfl (by kernel_rfl) (by kernel_rfl) (by kernel_rfl) (fun _ _ _ h => h) (Or.inr ⟨by rfl, rfl⟩) (by assumption) ?_
  go_simp
  refine wpAnyH_take (i := 9) (v := undef) rfl (by kernel_rfl) (by kernel_rfl) (by kernel_rfl) (fun _ _ _ h => h) (Or.inr ⟨by rfl, rfl⟩) (by assumption) ?_
  go_simp
  refine wpAnyH_take (i := 10) (v := undef) rfl (by kernel_rfl) (by kernel_rfl) (by kernel_rfl) (fun _ _ _ h => h) (Or.inr ⟨by rfl, rfl⟩) (by assumption) ?_
  go_simp
  refine wpAnyH_take (i := 11) (v := undef) rfl (by kernel_rfl) (by kernel_rfl) (by kernel_rfl) (fun _ _ _ h => h) (Or.inr ⟨by rfl, rfl⟩) (by assumption) ?_
  go_simp
  refine wpAnyH_take (i := 12) (v := undef) rfl (by kernel_rfl) (by kernel_rfl) (by kernel_rfl) (fun _ _ _ h => h) (Or.inr ⟨by rfl, rfl⟩) (by assumption) ?_
  go_simp
  refine wpAnyH_take (i := 13) (v := undef) rfl (by kernel_rfl) (by kernel_rfl) (by kernel_rfl) (fun _ _ _ h => h) (Or.inr ⟨by rfl, rfl⟩) (by assumption) ?_
  go_simp
  refine wpAnyH_take (i := 14) (v := undef) rfl (by kernel_rfl) (by kernel_rfl) (by kernel_rfl) (fun _ _ _ h => h) (Or.inr ⟨by rfl, rfl⟩) (by assumption) ?_
  go_simp
  refine wpAnyH_take (i := 15) (v := undef) rfl (by kernel_rfl) (by kernel_rfl) (by kernel_rfl) (fun _ _ _ h => h) (Or.inr ⟨by rfl, rfl⟩) (by assumption) ?_
  go_simp
  refine wpAnyH_take (i := 16) (v := ?_) rfl (by kernel_rfl) (by kernel_rfl) (by kernel_rfl) (fun _ _ _ h => h) (Or.inl ⟨by rfl, ?_⟩) (by assumption) ?_
  rotate_left
  · intro w hSw; go_simp; try with_reducible rfl
  go_simp
  refine wpAnyH_done (by kernel_rfl) ?_ _
  have KX := Lib.hid (Kp.trans K3.out hHeld)
  have AX := Lib.hid (kp_row hHeld A3.out)
  have SX := Lib.hid (S23.out.kp hHeld)
  obtain ⟨m0, m1, m2, m3, m4, m5, m6, m7, m8, m9, m10, m11, m12, m13⟩ := cells14 AX.out
  have sl2 := HSL.out a2 c2 HC2.out
  clear i0 i1 i2 i3 i4 i5 i6 i7 i8 i9 i10 i11 i12 i13 j0 j1 j2 j3 j4 j5 j6 j7 j8 j9 j10 j11 j12 j13 hHeld
  go_wp2_with (first
    | (go_at_call 12; (with_reducible refine (HD.out _ KX.out _ _ HC2.out SX.out).mono ?_); rintro e w5 ⟨rfl, hk⟩; have K5 := Lib.hid (Kp.trans KX.out (Kp.trans hk (kp_alloc w5 (.cells #[.int .i64 k9, .int .i64 n9, .int .i64 s9, .int .i64 r9, .int .i64 u9, .int .i64 p9, .int .i64 q9, .int .i64 o9, .int .i64 d9, .int .i64 a9, .int .i64 t9, .int .i64 hh9, .int .i64 c9, .float .f64 x3] 26)))); have A5 := Lib.hid (kp_row (Kp.trans hk (kp_alloc w5 (.cells #[.int .i64 k9, .int .i64 n9, .int .i64 s9, .int .i64 r9, .int .i64 u9, .int .i64 p9, .int .i64 q9, .int .i64 o9, .int .i64 d9, .int .i64 a9, .int .i64 t9, .int .i64 hh9, .int .i64 c9, .float .f64 x3] 26))) AX.out); have M5 := Lib.hid (MapKept.heap_alloc w5 (.cells #[.int .i64 k9, .int .i64 n9, .int .i64 s9, .int .i64 r9, .int .i64 u9, .int .i64 p9, .int .i64 q9, .int .i64 o9, .int .i64 d9, .int .i64 a9, .int .i64 t9, .int .i64 hh9, .int .i64 c9, .float .f64 x3] 26)).1; obtain ⟨i0, i1, i2, i3, i4, i5, i6, i7, i8, i9, i10, i11, i12, i13⟩ := cells14 A5.out; clear hk)
    | (go_at_call 9; (with_reducible refine (HRT.out _ K5.out).mono ?_); rintro e w6 ⟨rfl, hk⟩; have K6 := Lib.hid (Kp.trans K5.out hk); have A6 := Lib.hid (kp_row hk A5.out); have M6 := Lib.hid (kp_row hk M5.out); obtain ⟨h0, h1, h2, h3, h4, h5, h6, h7, h8, h9, h10, h11, h12, h13⟩ := cells14 A6.out; obtain ⟨j0, j1, j2, j3, j4, j5, j6, j7, j8, j9, j10, j11, j12, j13⟩ := cells14 M6.out; clear hk)
    | (go_at_call 19; (with_reducible refine (HSN.out _ K6.out).mono ?_); rintro e w7 ⟨rfl, hk⟩; have K7 := Lib.hid (Kp.trans K6.out hk); clear hk))
  go_ret
  exact ⟨by first | rfl | simp, K7.out⟩
set_option maxRecDepth 100000 in
set_option maxHeartbeats 4000000 in
theorem unlikeF_11 (ads : List Addr) (f g : FX) (y : Int) (hf : f.wf) (hg : g.wf) (w : World) (C : FacC ads w) (ha : rightF f = true) (hb : rightF g = true) (K : Nat) (hK : K < (encF f).length) (hcut : wrap64 ((IntKind.u64.wrap y).tmod ((encF f).length : Nat)) = (K : Int)) (h0 : (decG ((encF f).take K)).1 ≠ 0) :
    Calls Tryz.prog 6 #[.agg f.cells, .agg g.cells, .int .i64 y] w fun e w' => e = .returned (.bool true) ∧ Kp w w' := by
  have HA := Lib.hid (fun w1 (hk : Kp w w1) => alive14_any ads w1 (FacC.kp C hk))
  have HRT := fun w1 (hk : Kp w w1) => C.right w1 hk f hf
  rw [ha] at HRT
  have hle := encF_len f
  have HE1 : ∀ w1, Kp w w1 → Calls Tryz.prog 8 #[.agg f.cells] w1 fun e w' => ∃ (a2 c2 : Nat), e = .returned (.tuple #[.slice (some ⟨a2, 0, none⟩) (encF f).length c2, .nilIface]) ∧ (encF f).length ≤ c2 ∧ w'.ownsRow w1.heap.size 5 1 (.slice (some ⟨a2, 0, none⟩) (encF f).length c2) (encF f).length ((encF f).map (Value.int .u8)) ∧ Kp w1 w' := fun w1 hk => (C.encOk w1 hk f ha).mono (by
    rintro e w2 ⟨a, c, rfl, hc, hs, hk2⟩
    rcases hs.2 with ⟨hv, hz⟩ | ⟨g', cap, cur, hv, hrest⟩
    · omega
    · injection hv with hv1 hv2 hv3
      subst hv1
      exact ⟨g', c, rfl, hc, hs, hk2⟩)
  have HD := fun w1 (hk : Kp w w1) (b c : Nat) (hc : (encF f).length ≤ c) (hs : SlB (.slice (some ⟨b, 0, none⟩) (encF f).length c) (encF f) w1) => C.dec w1 hk (some ⟨b, 0, none⟩) c ((encF f).take K) K (by rw [List.length_take]; omega) (by omega) (fun y hy => encF_in f y (List.mem_of_mem_take hy)) (by omega) (slb_take hs (by omega))
  have hno := dec_cutF K hK
  have HE2 := fun w1 (hk : Kp w w1) => C.encOk w1 hk g hb
  have HSM := fun w1 (hk : Kp w w1) => C.same w1 hk f g hf hg
  rw [same_right ha hb] at HSM
  have hqs : ((strOfNums (encF f)).toList == (strOfNums (encF g)).toList) = decide (f = g) := by
    by_cases h : f = g
    · rw [decide_eq_true h, h]; exact beq_self_eq_true _
    · rw [decide_eq_false h]; exact str_ne (encF_in f) (encF_in g) (fun q => h (encF_inj ha hb q))
  obtain ⟨bb, hbb⟩ : ∃ x, decide (f = g) = x := ⟨_, rfl⟩
  rw [hbb] at hqs HSM
  obtain ⟨z1, hz1⟩ : ∃ x, strOfNums (encF f) = x := ⟨_, rfl⟩
  obtain ⟨z2, hz2⟩ : ∃ x, strOfNums (encF g) = x := ⟨_, rfl⟩
  rw [hz1, hz2] at hqs
  obtain ⟨x2, hx2⟩ : ∃ x, encF g = x := ⟨_, rfl⟩
  rw [hx2] at HE2 hz2
  obtain ⟨l2, hn2⟩ : ∃ x, x2.length = x := ⟨_, rfl⟩
  rw [hn2] at HE2
  obtain ⟨q5, hq5⟩ := errI_some14 ads _ h0
  rw [hq5] at HD
  obtain ⟨M2, hM2⟩ : ∃ x, (decG ((encF f).take K)).2 = x := ⟨_, rfl⟩
  rw [hM2] at HD
  clear hq5 hM2 h0 hno
  obtain ⟨xl, hxl⟩ : ∃ xl, (encF f).length = xl := ⟨_, rfl⟩
  obtain ⟨eb, heb⟩ : ∃ x, encF f = x := ⟨_, rfl⟩
  rw [hxl] at hle hcut hK
  simp only [hxl] at HE1 HD
  simp only [heb] at HE1 HD
  rw [heb] at hz1
  obtain ⟨mm, hmm⟩ : ∃ mm : Int, (K : Int) = mm := ⟨_, rfl⟩
  have hsl := fun (b c : Nat) (hc : xl ≤ c) (w : World) => run_head (b := b) (off := 0) hmm (Nat.le_of_lt hK) hc w
  have HSL := Lib.hid hsl
  obtain ⟨xi, hxi⟩ : ∃ xi : Int, (xl : Int) = xi := ⟨_, rfl⟩
  rw [hxi, hmm] at hcut
  have hx1 : (xi == 0) = false := by simp; omega
  have hxb : 0 < xi ∧ xi ≤ 891 := by omega
  have hxn : xi ≠ 0 := by omega
  have hmb : 0 ≤ mm ∧ mm < xi := by omega
  have HZ1 := Lib.hid hz1
  have HZ2 := Lib.hid hz2
  clear ha hb heb hle hxl hK hsl hbb hz1 hz2 hx2
  obtain ⟨k9, n9, s9, r9, u9, p9, q9, o9, d9, a9, t9, hh9, c9, x3⟩ := M2
  obtain ⟨k, n, s, r, u, p, q, o, d, a, t, hh, c, x⟩ := f
  obtain ⟨k', n', s', r', u', p', q', o', d', a', t', hh', c', x'⟩ := g
  dsimp only [FX.cells] at *
  have kb := Kp.trans (kp_alloc w (.cells #[.int .i64 k, .int .i64 n, .int .i64 s, .int .i64 r, .int .i64 u, .int .i64 p, .int .i64 q, .int .i64 o, .int .i64 d, .int .i64 a, .int .i64 t, .int .i64 hh, .int .i64 c, .float .f64 x] 26)) (kp_alloc (w.alloc (.cells #[.int .i64 k, .int .i64 n, .int .i64 s, .int .i64 r, .int .i64 u, .int .i64 p, .int .i64 q, .int .i64 o, .int .i64 d, .int .i64 a, .int .i64 t, .int .i64 hh, .int .i64 c, .float .f64 x] 26)) (.cells #[.int .i64 k', .int .i64 n', .int .i64 s', .int .i64 r', .int .i64 u', .int .i64 p', .int .i64 q', .int .i64 o', .int .i64 d', .int .i64 a', .int .i64 t', .int .i64 hh', .int .i64 c', .float .f64 x'] 26))
  have KB := Lib.hid kb
  have HRA := Lib.hid (new14_0 w (.cells #[.int .i64 k, .int .i64 n, .int .i64 s, .int .i64 r, .int .i64 u, .int .i64 p, .int .i64 q, .int .i64 o, .int .i64 d, .int .i64 a, .int .i64 t, .int .i64 hh, .int .i64 c, .float .f64 x] 26) (.cells #[.int .i64 k', .int .i64 n', .int .i64 s', .int .i64 r', .int .i64 u', .int .i64 p', .int .i64 q', .int .i64 o', .int .i64 d', .int .i64 a', .int .i64 t', .int .i64 hh', .int .i64 c', .float .f64 x'] 26))
  have HRB := Lib.hid (new14_1 w (.cells #[.int .i64 k, .int .i64 n, .int .i64 s, .int .i64 r, .int .i64 u, .int .i64 p, .int .i64 q, .int .i64 o, .int .i64 d, .int .i64 a, .int .i64 t, .int .i64 hh, .int .i64 c, .float .f64 x] 26) (.cells #[.int .i64 k', .int .i64 n', .int .i64 s', .int .i64 r', .int .i64 u', .int .i64 p', .int .i64 q', .int .i64 o', .int .i64 d', .int .i64 a', .int .i64 t', .int .i64 hh', .int .i64 c', .float .f64 x'] 26))
  have hsf := store_fl
  have HE1 := Lib.hid HE1
  have HE2 := Lib.hid HE2
  have HRT := Lib.hid HRT
  have HD := Lib.hid HD
  have HSM := Lib.hid HSM
  clear C kb hf hg
  go_enter Tryz.func6, Tryz.ntmps6
  go_wp2_with (first
    | (go_at_call 7; (with_reducible refine (HA.out _ KB.out).mono ?_); rintro e w1 ⟨rfl, hk⟩; have K1 := Lib.hid (Kp.trans KB.out hk); have A1 := Lib.hid (kp_row hk HRA.out); have B1 := Lib.hid (kp_row hk HRB.out); obtain ⟨g0, g1, g2, g3, g4, g5, g6, g7, g8, g9, g10, g11, g12, g13⟩ := cells14 A1.out; clear hk)
    | (go_at_call 8; (with_reducible refine (HE1.out _ K1.out).mono ?_); rintro e w2 ⟨a2, c2, rfl, hc2, ho2, hk⟩; have K2 := Lib.hid (Kp.trans K1.out hk); have A2 := Lib.hid (kp_row hk A1.out); have B2 := Lib.hid (kp_row hk B1.out); obtain ⟨h0, h1, h2, h3, h4, h5, h6, h7, h8, h9, h10, h11, h12, h13⟩ := cells14 B2.out; have S2 := Lib.hid (own_slb ho2); have HC2 := Lib.hid hc2; clear ho2 hc2; clear hk)
    | (go_at_call 8; (with_reducible refine (HE2.out _ K2.out).mono ?_); rintro e w3 ⟨a3, c3, rfl, -, ho3, hk⟩; have K3 := Lib.hid (Kp.trans K2.out hk); have A3 := Lib.hid (kp_row hk A2.out); have B3 := Lib.hid (kp_row hk B2.out); have S3 := Lib.hid (own_slb ho3); clear ho3; have S23 := Lib.hid (S2.out.kp hk); clear hk))
  obtain ⟨Ba, hBa⟩ : ∃ y, w.heap.size = y := ⟨_, rfl⟩
  obtain ⟨Bb, hBb⟩ : ∃ y, w.heap.size + 1 = y := ⟨_, rfl⟩
  have ra := A3.out
  have rb := B3.out
  rw [hBa] at ra
  rw [hBb] at rb
  rw [hBb, hBa]
  have A3 := Lib.hid ra
  have B3 := Lib.hid rb
  clear hBa hBb ra rb g0 g1 g2 g3 g4 g5 g6 g7 g8 g9 g10 g11 g12 g13 h0 h1 h2 h3 h4 h5 h6 h7 h8 h9 h10 h11 h12 h13
  obtain ⟨i0, i1, i2, i3, i4, i5, i6, i7, i8, i9, i10, i11, i12, i13⟩ := cells14 A3.out
  obtain ⟨j0, j1, j2, j3, j4, j5, j6, j7, j8, j9, j10, j11, j12, j13⟩ := cells14 B3.out
  have CV1 : Hid (∀ w', Kp w3 w' → (convert 29 9 (.slice (some ⟨a2, 0, none⟩) xl c2)).run Tryz.prog w' = .ok (.string z1) w') := Lib.hid (fun w' hk => by rw [← HZ1.out]; exact conv_slb (S23.out.kp hk))
  have CV2 : Hid (∀ w', Kp w3 w' → (convert 29 9 (.slice a3 l2 c3)).run Tryz.prog w' = .ok (.string z2) w') := Lib.hid (fun w' hk => by rw [← HZ2.out]; exact conv_slb (S3.out.kp hk))
  refine wp_region_held_drew (S := fun w' => Kp w3 w') (by kernel_rfl) ?_ (fun hHeld => ?_)
  · exact (Kp.refl w3).drew
  refine wpAnyH_take (i := 0) (v := ?_) rfl (by kernel_rfl) (by kernel_rfl) (by kernel_rfl) (fun _ _ _ h => h) (Or.inl ⟨by rfl, ?_⟩) (by assumption) ?_
  rotate_left
  · intro w hSw; go_simp; try with_reducible rfl
  go_simp
  refine wpAnyH_take (i := 1) (v := ?_) rfl (by kernel_rfl) (by kernel_rfl) (by kernel_rfl) (fun _ _ _ h => h) (Or.inl ⟨by rfl, ?_⟩) (by assumption) ?_
  rotate_left
  · intro w hSw; go_simp; try with_reducible rfl
  go_simp
  refine wpAnyH_take (i := 2) (v := ?_) rfl (by kernel_rfl) (by kernel_rfl) (by kernel_rfl) (fun _ _ _ h => h) (Or.inl ⟨by rfl, ?_⟩) (by assumption) ?_
  rotate_left
  · intro w hSw; go_simp; try with_reducible rfl
  go_simp
  refine wpAnyH_take (i := 3) (v := ?_) rfl (by kernel_rfl) (by kernel_rfl) (by kernel_rfl) (fun _ _ _ h => h) (Or.inl ⟨by rfl, ?_⟩) (by assumption) ?_
  rotate_left
  · intro w hSw; go_simp; try with_reducible rfl
  go_simp
  refine wpAnyH_take (i := 4) (v := ?_) rfl (by kernel_rfl) (by kernel_rfl) (by kernel_rfl) (fun _ _ _ h => h) (Or.inl ⟨by rfl, ?_⟩) (by assumption) ?_
  rotate_left
  · intro w hSw; go_simp; try with_reducible rfl
  go_simp
  refine wpAnyH_take (i := 5) (v := ?_) rfl (by kernel_rfl) (by kernel_rfl) (by kernel_rfl) (fun _ _ _ h => h) (Or.inl ⟨by rfl, ?_⟩) (by assumption) ?_
  rotate_left
  · intro w hSw; go_simp; try with_reducible rfl
  go_simp
  refine wpAnyH_take (i := 6) (v := ?_) rfl (by kernel_rfl) (by kernel_rfl) (by kernel_rfl) (fun _ _ _ h => h) (Or.inl ⟨by rfl, ?_⟩) (by assumption) ?_
  rotate_left
  · intro w hSw; go_simp; try with_reducible rfl
  go_simp
  refine wpAnyH_take (i := 7) (v := ?_) rfl (by kernel_rfl) (by kernel_rfl) (by kernel_rfl) (fun _ _ _ h => h) (Or.inl ⟨by rfl, ?_⟩) (by assumption) ?_
  rotate_left
  · intro w hSw; go_simp; try with_reducible rfl
  go_simp
  refine wpAnyH_take (i := 8) (v := ?_) rfl (by kernel_rfl) (by kernel_rfl) (by kernel_rfl) (fun _ _ _ h => h) (Or.inl ⟨by rfl, ?_⟩) (by assumption) ?_
  rotate_left
  · intro w hSw; have q := CV1.out _ hSw; go_simp; try with_reducible rfl
  go_simp
  refine wpAnyH_take (i := 9) (v := ?_) rfl (by kernel_rfl) (by kernel_rfl) (by kernel_rfl) (fun _ _ _ h => h) (Or.inl ⟨by rfl, ?_⟩) (by assumption) ?_
  rotate_left
  · intro w hSw; go_simp; try with_reducible rfl
  go_simp
  refine wpAnyH_take (i := 10) (v := ?_) rfl (by kernel_rfl) (by kernel_rfl) (by kernel_rfl) (fun _ _ _ h => h) (Or.inl ⟨by rfl, ?_⟩) (by assumption) ?_
  rotate_left
  · intro w hSw; have q := CV2.out _ hSw; go_simp; try with_reducible rfl
  go_simp
  refine wpAnyH_take (i := 11) (v := ?_) rfl (by kernel_rfl) (by kernel_rfl) (by kernel_rfl) (fun _ _ _ h => h) (Or.inl ⟨by rfl, ?_⟩) (by assumption) ?_
  rotate_left
  · intro w hSw; go_simp; try with_reducible rfl
  go_simp
  refine wpAnyH_take (i := 12) (v := ?_) rfl (by kernel_rfl) (by kernel_rfl) (by kernel_rfl) (fun _ _ _ h => h) (Or.inl ⟨by rfl, ?_⟩) (by assumption) ?_
  rotate_left
  · intro w hSw; have q0 := kp_cell hSw i0; have q1 := kp_cell hSw i1; have q2 := kp_cell hSw i2; have q3 := kp_cell hSw i3; have q4 := kp_cell hSw i4; have q5 := kp_cell hSw i5; have q6 := kp_cell hSw i6; have q7 := kp_cell hSw i7; have q8 := kp_cell hSw i8; have q9 := kp_cell hSw i9; have q10 := kp_cell hSw i10; have q11 := kp_cell hSw i11; have q12 := kp_cell hSw i12; have q13 := kp_cell hSw i13; go_simp; try with_reducible rfl
  go_simp
  refine wpAnyH_take (i := 13) (v := ?_) rfl (by kernel_rfl) (by kernel_rfl) (by kernel_rfl) (fun _ _ _ h => h) (Or.inl ⟨by rfl, ?_⟩) (by assumption) ?_
  rotate_left
  · intro w hSw; have q0 := kp_cell hSw j0; have q1 := kp_cell hSw j1; have q2 := kp_cell hSw j2; have q3 := kp_cell hSw j3; have q4 := kp_cell hSw j4; have q5 := kp_cell hSw j5; have q6 := kp_cell hSw j6; have q7 := kp_cell hSw j7; have q8 := kp_cell hSw j8; have q9 := kp_cell hSw j9; have q10 := kp_cell hSw j10; have q11 := kp_cell hSw j11; have q12 := kp_cell hSw j12; have q13 := kp_cell hSw j13; go_simp; try with_reducible rfl
  go_simp
  refine wpAnyH_ready (rs := [14]) (by kernel_rfl) (by simp) ?_
  refine AllReadyH.cons rfl (fun K hK => ?_) AllReadyH.nil
  go_simp
  go_wp2_with (go_at_call 19; (with_reducible refine (HSM.out _ (Kp.trans K3.out hHeld)).mono ?_); rintro e w4 ⟨rfl, hk4⟩; have K4 := Lib.hid (Kp.trans hHeld hk4); clear hk4)
  refine hK.out _ _ ?_ (fun hHeld => ?_)
  · exact K4.out
  clear hK K
  refine wpAnyH_take (i := 15) (v := ?_) rfl (by kernel_rfl) (by kernel_rfl) (by kernel_rfl) (fun _ _ _ h => h) (Or.inl ⟨by rfl, ?_⟩) (by assumption) ?_
  rotate_left
  · intro w hSw; go_simp; try with_reducible rfl
  go_simp
  refine wpAnyH_take (i := 16) (v := ?_) rfl (by kernel_rfl) (by kernel_rfl) (by kernel_rfl) (fun _ _ _ h => h) (Or.inl ⟨by rfl, ?_⟩) (by assumption) ?_
  rotate_left
  · intro w hSw; go_simp; try with_reducible rfl
  go_simp
  refine wpAnyH_done (by kernel_rfl) ?_ _
  have KX := Lib.hid (Kp.trans K3.out K4.out)
  have AX := Lib.hid (kp_row K4.out A3.out)
  have SX := Lib.hid (S23.out.kp K4.out)
  obtain ⟨m0, m1, m2, m3, m4, m5, m6, m7, m8, m9, m10, m11, m12, m13⟩ := cells14 AX.out
  have sl2 := HSL.out a2 c2 HC2.out
  clear i0 i1 i2 i3 i4 i5 i6 i7 i8 i9 i10 i11 i12 i13 j0 j1 j2 j3 j4 j5 j6 j7 j8 j9 j10 j11 j12 j13 hHeld
  go_wp2_with (first
    | (go_at_call 12; (with_reducible refine (HD.out _ KX.out _ _ HC2.out SX.out).mono ?_); rintro e w5 ⟨rfl, hk⟩; have K5 := Lib.hid (Kp.trans KX.out (Kp.trans hk (kp_alloc w5 (.cells #[.int .i64 k9, .int .i64 n9, .int .i64 s9, .int .i64 r9, .int .i64 u9, .int .i64 p9, .int .i64 q9, .int .i64 o9, .int .i64 d9, .int .i64 a9, .int .i64 t9, .int .i64 hh9, .int .i64 c9, .float .f64 x3] 26)))); have A5 := Lib.hid (kp_row (Kp.trans hk (kp_alloc w5 (.cells #[.int .i64 k9, .int .i64 n9, .int .i64 s9, .int .i64 r9, .int .i64 u9, .int .i64 p9, .int .i64 q9, .int .i64 o9, .int .i64 d9, .int .i64 a9, .int .i64 t9, .int .i64 hh9, .int .i64 c9, .float .f64 x3] 26))) AX.out); have M5 := Lib.hid (MapKept.heap_alloc w5 (.cells #[.int .i64 k9, .int .i64 n9, .int .i64 s9, .int .i64 r9, .int .i64 u9, .int .i64 p9, .int .i64 q9, .int .i64 o9, .int .i64 d9, .int .i64 a9, .int .i64 t9, .int .i64 hh9, .int .i64 c9, .float .f64 x3] 26)).1; obtain ⟨i0, i1, i2, i3, i4, i5, i6, i7, i8, i9, i10, i11, i12, i13⟩ := cells14 A5.out; clear hk)
    | (go_at_call 9; (with_reducible refine (HRT.out _ K5.out).mono ?_); rintro e w6 ⟨rfl, hk⟩; have K6 := Lib.hid (Kp.trans K5.out hk); have A6 := Lib.hid (kp_row hk A5.out); have M6 := Lib.hid (kp_row hk M5.out); obtain ⟨h0, h1, h2, h3, h4, h5, h6, h7, h8, h9, h10, h11, h12, h13⟩ := cells14 A6.out; obtain ⟨j0, j1, j2, j3, j4, j5, j6, j7, j8, j9, j10, j11, j12, j13⟩ := cells14 M6.out; clear hk))
  go_ret
  exact ⟨by first | rfl | simp, K6.out⟩
set_option maxRecDepth 100000 in
set_option maxHeartbeats 4000000 in
theorem unlikeF_10 (ads : List Addr) (f g : FX) (y : Int) (hf : f.wf) (hg : g.wf) (w : World) (C : FacC ads w) (ha : rightF f = true) (hb : rightF g = true) (K : Nat) (hK : K < (encF f).length) (hcut : wrap64 ((IntKind.u64.wrap y).tmod ((encF f).length : Nat)) = (K : Int)) (h0 : (decG ((encF f).take K)).1 = 0) :
    Calls Tryz.prog 6 #[.agg f.cells, .agg g.cells, .int .i64 y] w fun e w' => e = .returned (.bool true) ∧ Kp w w' := by
  have HA := Lib.hid (fun w1 (hk : Kp w w1) => alive14_any ads w1 (FacC.kp C hk))
  have HRT := fun w1 (hk : Kp w w1) => C.right w1 hk f hf
  rw [ha] at HRT
  have hle := encF_len f
  have HE1 : ∀ w1, Kp w w1 → Calls Tryz.prog 8 #[.agg f.cells] w1 fun e w' => ∃ (a2 c2 : Nat), e = .returned (.tuple #[.slice (some ⟨a2, 0, none⟩) (encF f).length c2, .nilIface]) ∧ (encF f).length ≤ c2 ∧ w'.ownsRow w1.heap.size 5 1 (.slice (some ⟨a2, 0, none⟩) (encF f).length c2) (encF f).length ((encF f).map (Value.int .u8)) ∧ Kp w1 w' := fun w1 hk => (C.encOk w1 hk f ha).mono (by
    rintro e w2 ⟨a, c, rfl, hc, hs, hk2⟩
    rcases hs.2 with ⟨hv, hz⟩ | ⟨g', cap, cur, hv, hrest⟩
    · omega
    · injection hv with hv1 hv2 hv3
      subst hv1
      exact ⟨g', c, rfl, hc, hs, hk2⟩)
  have HD := fun w1 (hk : Kp w w1) (b c : Nat) (hc : (encF f).length ≤ c) (hs : SlB (.slice (some ⟨b, 0, none⟩) (encF f).length c) (encF f) w1) => C.dec w1 hk (some ⟨b, 0, none⟩) c ((encF f).take K) K (by rw [List.length_take]; omega) (by omega) (fun y hy => encF_in f y (List.mem_of_mem_take hy)) (by omega) (slb_take hs (by omega))
  have hno := dec_cutF K hK
  have HE2 := fun w1 (hk : Kp w w1) => C.encOk w1 hk g hb
  have HSM := fun w1 (hk : Kp w w1) => C.same w1 hk f g hf hg
  rw [same_right ha hb] at HSM
  have hqs : ((strOfNums (encF f)).toList == (strOfNums (encF g)).toList) = decide (f = g) := by
    by_cases h : f = g
    · rw [decide_eq_true h, h]; exact beq_self_eq_true _
    · rw [decide_eq_false h]; exact str_ne (encF_in f) (encF_in g) (fun q => h (encF_inj ha hb q))
  obtain ⟨bb, hbb⟩ : ∃ x, decide (f = g) = x := ⟨_, rfl⟩
  rw [hbb] at hqs HSM
  obtain ⟨z1, hz1⟩ : ∃ x, strOfNums (encF f) = x := ⟨_, rfl⟩
  obtain ⟨z2, hz2⟩ : ∃ x, strOfNums (encF g) = x := ⟨_, rfl⟩
  rw [hz1, hz2] at hqs
  obtain ⟨x2, hx2⟩ : ∃ x, encF g = x := ⟨_, rfl⟩
  rw [hx2] at HE2 hz2
  obtain ⟨l2, hn2⟩ : ∃ x, x2.length = x := ⟨_, rfl⟩
  rw [hn2] at HE2
  have hwf := decG_wf (bs := (encF f).take K)
  obtain ⟨M2, hM2⟩ : ∃ M, decG ((encF f).take K) = (0, M) := ⟨(decG ((encF f).take K)).2, Prod.ext h0 rfl⟩
  have hrm := (enc_decF (fun y hy => encF_in f y (List.mem_of_mem_take hy)) hM2).1
  rw [hM2] at hno hwf
  simp only [hM2, errI_nil] at HD
  have HSN := fun w1 (hk : Kp w w1) => C.same w1 hk M2 f hwf hf
  rw [same_right hrm ha, decide_eq_false (fun q => hno (by rw [q]))] at HSN
  clear hM2 h0 hno hrm hwf
  obtain ⟨xl, hxl⟩ : ∃ xl, (encF f).length = xl := ⟨_, rfl⟩
  obtain ⟨eb, heb⟩ : ∃ x, encF f = x := ⟨_, rfl⟩
  rw [hxl] at hle hcut hK
  simp only [hxl] at HE1 HD
  simp only [heb] at HE1 HD
  rw [heb] at hz1
  obtain ⟨mm, hmm⟩ : ∃ mm : Int, (K : Int) = mm := ⟨_, rfl⟩
  have hsl := fun (b c : Nat) (hc : xl ≤ c) (w : World) => run_head (b := b) (off := 0) hmm (Nat.le_of_lt hK) hc w
  have HSL := Lib.hid hsl
  obtain ⟨xi, hxi⟩ : ∃ xi : Int, (xl : Int) = xi := ⟨_, rfl⟩
  rw [hxi, hmm] at hcut
  have hx1 : (xi == 0) = false := by simp; omega
  have hxb : 0 < xi ∧ xi ≤ 891 := by omega
  have hxn : xi ≠ 0 := by omega
  have hmb : 0 ≤ mm ∧ mm < xi := by omega
  have HZ1 := Lib.hid hz1
  have HZ2 := Lib.hid hz2
  clear ha hb heb hle hxl hK hsl hbb hz1 hz2 hx2
  obtain ⟨k9, n9, s9, r9, u9, p9, q9, o9, d9, a9, t9, hh9, c9, x3⟩ := M2
  obtain ⟨k, n, s, r, u, p, q, o, d, a, t, hh, c, x⟩ := f
  obtain ⟨k', n', s', r', u', p', q', o', d', a', t', hh', c', x'⟩ := g
  dsimp only [FX.cells] at *
  have kb := Kp.trans (kp_alloc w (.cells #[.int .i64 k, .int .i64 n, .int .i64 s, .int .i64 r, .int .i64 u, .int .i64 p, .int .i64 q, .int .i64 o, .int .i64 d, .int .i64 a, .int .i64 t, .int .i64 hh, .int .i64 c, .float .f64 x] 26)) (kp_alloc (w.alloc (.cells #[.int .i64 k, .int .i64 n, .int .i64 s, .int .i64 r, .int .i64 u, .int .i64 p, .int .i64 q, .int .i64 o, .int .i64 d, .int .i64 a, .int .i64 t, .int .i64 hh, .int .i64 c, .float .f64 x] 26)) (.cells #[.int .i64 k', .int .i64 n', .int .i64 s', .int .i64 r', .int .i64 u', .int .i64 p', .int .i64 q', .int .i64 o', .int .i64 d', .int .i64 a', .int .i64 t', .int .i64 hh', .int .i64 c', .float .f64 x'] 26))
  have KB := Lib.hid kb
  have HRA := Lib.hid (new14_0 w (.cells #[.int .i64 k, .int .i64 n, .int .i64 s, .int .i64 r, .int .i64 u, .int .i64 p, .int .i64 q, .int .i64 o, .int .i64 d, .int .i64 a, .int .i64 t, .int .i64 hh, .int .i64 c, .float .f64 x] 26) (.cells #[.int .i64 k', .int .i64 n', .int .i64 s', .int .i64 r', .int .i64 u', .int .i64 p', .int .i64 q', .int .i64 o', .int .i64 d', .int .i64 a', .int .i64 t', .int .i64 hh', .int .i64 c', .float .f64 x'] 26))
  have HRB := Lib.hid (new14_1 w (.cells #[.int .i64 k, .int .i64 n, .int .i64 s, .int .i64 r, .int .i64 u, .int .i64 p, .int .i64 q, .int .i64 o, .int .i64 d, .int .i64 a, .int .i64 t, .int .i64 hh, .int .i64 c, .float .f64 x] 26) (.cells #[.int .i64 k', .int .i64 n', .int .i64 s', .int .i64 r', .int .i64 u', .int .i64 p', .int .i64 q', .int .i64 o', .int .i64 d', .int .i64 a', .int .i64 t', .int .i64 hh', .int .i64 c', .float .f64 x'] 26))
  have hsf := store_fl
  have HE1 := Lib.hid HE1
  have HE2 := Lib.hid HE2
  have HRT := Lib.hid HRT
  have HD := Lib.hid HD
  have HSM := Lib.hid HSM
  have HSN := Lib.hid HSN
  clear C kb hf hg
  go_enter Tryz.func6, Tryz.ntmps6
  go_wp2_with (first
    | (go_at_call 7; (with_reducible refine (HA.out _ KB.out).mono ?_); rintro e w1 ⟨rfl, hk⟩; have K1 := Lib.hid (Kp.trans KB.out hk); have A1 := Lib.hid (kp_row hk HRA.out); have B1 := Lib.hid (kp_row hk HRB.out); obtain ⟨g0, g1, g2, g3, g4, g5, g6, g7, g8, g9, g10, g11, g12, g13⟩ := cells14 A1.out; clear hk)
    | (go_at_call 8; (with_reducible refine (HE1.out _ K1.out).mono ?_); rintro e w2 ⟨a2, c2, rfl, hc2, ho2, hk⟩; have K2 := Lib.hid (Kp.trans K1.out hk); have A2 := Lib.hid (kp_row hk A1.out); have B2 := Lib.hid (kp_row hk B1.out); obtain ⟨h0, h1, h2, h3, h4, h5, h6, h7, h8, h9, h10, h11, h12, h13⟩ := cells14 B2.out; have S2 := Lib.hid (own_slb ho2); have HC2 := Lib.hid hc2; clear ho2 hc2; clear hk)
    | (go_at_call 8; (with_reducible refine (HE2.out _ K2.out).mono ?_); rintro e w3 ⟨a3, c3, rfl, -, ho3, hk⟩; have K3 := Lib.hid (Kp.trans K2.out hk); have A3 := Lib.hid (kp_row hk A2.out); have B3 := Lib.hid (kp_row hk B2.out); have S3 := Lib.hid (own_slb ho3); clear ho3; have S23 := Lib.hid (S2.out.kp hk); clear hk))
  obtain ⟨Ba, hBa⟩ : ∃ y, w.heap.size = y := ⟨_, rfl⟩
  obtain ⟨Bb, hBb⟩ : ∃ y, w.heap.size + 1 = y := ⟨_, rfl⟩
  have ra := A3.out
  have rb := B3.out
  rw [hBa] at ra
  rw [hBb] at rb
  rw [hBb, hBa]
  have A3 := Lib.hid ra
  have B3 := Lib.hid rb
  clear hBa hBb ra rb g0 g1 g2 g3 g4 g5 g6 g7 g8 g9 g10 g11 g12 g13 h0 h1 h2 h3 h4 h5 h6 h7 h8 h9 h10 h11 h12 h13
  obtain ⟨i0, i1, i2, i3, i4, i5, i6, i7, i8, i9, i10, i11, i12, i13⟩ := cells14 A3.out
  obtain ⟨j0, j1, j2, j3, j4, j5, j6, j7, j8, j9, j10, j11, j12, j13⟩ := cells14 B3.out
  have CV1 : Hid (∀ w', Kp w3 w' → (convert 29 9 (.slice (some ⟨a2, 0, none⟩) xl c2)).run Tryz.prog w' = .ok (.string z1) w') := Lib.hid (fun w' hk => by rw [← HZ1.out]; exact conv_slb (S23.out.kp hk))
  have CV2 : Hid (∀ w', Kp w3 w' → (convert 29 9 (.slice a3 l2 c3)).run Tryz.prog w' = .ok (.string z2) w') := Lib.hid (fun w' hk => by rw [← HZ2.out]; exact conv_slb (S3.out.kp hk))
  refine wp_region_held_drew (S := fun w' => Kp w3 w') (by kernel_rfl) ?_ (fun hHeld => ?_)
  · exact (Kp.refl w3).drew
  refine wpAnyH_take (i := 0) (v := ?_) rfl (by kernel_rfl) (by kernel_rfl) (by kernel_rfl) (fun _ _ _ h => h) (Or.inl ⟨by rfl, ?_⟩) (by assumption) ?_
  rotate_left
  · intro w hSw; go_simp; try with_reducible rfl
  go_simp
  refine wpAnyH_take (i := 1) (v := ?_) rfl (by kernel_rfl) (by kernel_rfl) (by kernel_rfl) (fun _ _ _ h => h) (Or.inl ⟨by rfl, ?_⟩) (by assumption) ?_
  rotate_left
  · intro w hSw; go_simp; try with_reducible rfl
  go_simp
  refine wpAnyH_take (i := 2) (v := ?_) rfl (by kernel_rfl) (by kernel_rfl) (by kernel_rfl) (fun _ _ _ h => h) (Or.inl ⟨by rfl, ?_⟩) (by assumption) ?_
  rotate_left
  · intro w hSw; go_simp; try with_reducible rfl
  go_simp
  refine wpAnyH_take (i := 3) (v := ?_) rfl (by kernel_rfl) (by kernel_rfl) (by kernel_rfl) (fun _ _ _ h => h) (Or.inl ⟨by rfl, ?_⟩) (by assumption) ?_
  rotate_left
  · intro w hSw; go_simp; try with_reducible rfl
  go_simp
  refine wpAnyH_take (i := 4) (v := ?_) rfl (by kernel_rfl) (by kernel_rfl) (by kernel_rfl) (fun _ _ _ h => h) (Or.inl ⟨by rfl, ?_⟩) (by assumption) ?_
  rotate_left
  · intro w hSw; go_simp; try with_reducible rfl
  go_simp
  refine wpAnyH_take (i := 5) (v := ?_) rfl (by kernel_rfl) (by kernel_rfl) (by kernel_rfl) (fun _ _ _ h => h) (Or.inl ⟨by rfl, ?_⟩) (by assumption) ?_
  rotate_left
  · intro w hSw; go_simp; try with_reducible rfl
  go_simp
  refine wpAnyH_take (i := 6) (v := ?_) rfl (by kernel_rfl) (by kernel_rfl) (by kernel_rfl) (fun _ _ _ h => h) (Or.inl ⟨by rfl, ?_⟩) (by assumption) ?_
  rotate_left
  · intro w hSw; go_simp; try with_reducible rfl
  go_simp
  refine wpAnyH_take (i := 7) (v := ?_) rfl (by kernel_rfl) (by kernel_rfl) (by kernel_rfl) (fun _ _ _ h => h) (Or.inl ⟨by rfl, ?_⟩) (by assumption) ?_
  rotate_left
  · intro w hSw; go_simp; try with_reducible rfl
  go_simp
  refine wpAnyH_take (i := 8) (v := ?_) rfl (by kernel_rfl) (by kernel_rfl) (by kernel_rfl) (fun _ _ _ h => h) (Or.inl ⟨by rfl, ?_⟩) (by assumption) ?_
  rotate_left
  · intro w hSw; have q := CV1.out _ hSw; go_simp; try with_reducible rfl
  go_simp
  refine wpAnyH_take (i := 9) (v := ?_) rfl (by kernel_rfl) (by kernel_rfl) (by kernel_rfl) (fun _ _ _ h => h) (Or.inl ⟨by rfl, ?_⟩) (by assumption) ?_
  rotate_left
  · intro w hSw; go_simp; try with_reducible rfl
  go_simp
  refine wpAnyH_take (i := 10) (v := ?_) rfl (by kernel_rfl) (by kernel_rfl) (by kernel_rfl) (fun _ _ _ h => h) (Or.inl ⟨by rfl, ?_⟩) (by assumption) ?_
  rotate_left
  · intro w hSw; have q := CV2.out _ hSw; go_simp; try with_reducible rfl
  go_simp
  refine wpAnyH_take (i := 11) (v := ?_) rfl (by kernel_rfl) (by kernel_rfl) (by kernel_rfl) (fun _ _ _ h => h) (Or.inl ⟨by rfl, ?_⟩) (by assumption) ?_
  rotate_left
  · intro w hSw; go_simp; try with_reducible rfl
  go_simp
  refine wpAnyH_take (i := 12) (v := ?_) rfl (by kernel_rfl) (by kernel_rfl) (by kernel_rfl) (fun _ _ _ h => h) (Or.inl ⟨by rfl, ?_⟩) (by assumption) ?_
  rotate_left
  · intro w hSw; have q0 := kp_cell hSw i0; have q1 := kp_cell hSw i1; have q2 := kp_cell hSw i2; have q3 := kp_cell hSw i3; have q4 := kp_cell hSw i4; have q5 := kp_cell hSw i5; have q6 := kp_cell hSw i6; have q7 := kp_cell hSw i7; have q8 := kp_cell hSw i8; have q9 := kp_cell hSw i9; have q10 := kp_cell hSw i10; have q11 := kp_cell hSw i11; have q12 := kp_cell hSw i12; have q13 := kp_cell hSw i13; go_simp; try with_reducible rfl
  go_simp
  refine wpAnyH_take (i := 13) (v := ?_) rfl (by kernel_rfl) (by kernel_rfl) (by kernel_rfl) (fun _ _ _ h => h) (Or.inl ⟨by rfl, ?_⟩) (by assumption) ?_
  rotate_left
  · intro w hSw; have q0 := kp_cell hSw j0; have q1 := kp_cell hSw j1; have q2 := kp_cell hSw j2; have q3 := kp_cell hSw j3; have q4 := kp_cell hSw j4; have q5 := kp_cell hSw j5; have q6 := kp_cell hSw j6; have q7 := kp_cell hSw j7; have q8 := kp_cell hSw j8; have q9 := kp_cell hSw j9; have q10 := kp_cell hSw j10; have q11 := kp_cell hSw j11; have q12 := kp_cell hSw j12; have q13 := kp_cell hSw j13; go_simp; try with_reducible rfl
  go_simp
  refine wpAnyH_ready (rs := [14]) (by kernel_rfl) (by simp) ?_
  refine AllReadyH.cons rfl (fun K hK => ?_) AllReadyH.nil
  go_simp
  go_wp2_with (go_at_call 19; (with_reducible refine (HSM.out _ (Kp.trans K3.out hHeld)).mono ?_); rintro e w4 ⟨rfl, hk4⟩; have K4 := Lib.hid (Kp.trans hHeld hk4); clear hk4)
  refine hK.out _ _ ?_ (fun hHeld => ?_)
  · exact K4.out
  clear hK K
  refine wpAnyH_take (i := 15) (v := ?_) rfl (by kernel_rfl) (by kernel_rfl) (by kernel_rfl) (fun _ _ _ h => h) (Or.inl ⟨by rfl, ?_⟩) (by assumption) ?_
  rotate_left
  · intro w hSw; go_simp; try with_reducible rfl
  go_simp
  refine wpAnyH_take (i := 16) (v := ?_) rfl (by kernel_rfl) (by kernel_rfl) (by kernel_rfl) (fun _ _ _ h => h) (Or.inl ⟨by rfl, ?_⟩) (by assumption) ?_
  rotate_left
  · intro w hSw; go_simp; try with_reducible rfl
  go_simp
  refine wpAnyH_done (by kernel_rfl) ?_ _
  have KX := Lib.hid (Kp.trans K3.out K4.out)
  have AX := Lib.hid (kp_row K4.out A3.out)
  have SX := Lib.hid (S23.out.kp K4.out)
  obtain ⟨m0, m1, m2, m3, m4, m5, m6, m7, m8, m9, m10, m11, m12, m13⟩ := cells14 AX.out
  have sl2 := HSL.out a2 c2 HC2.out
  clear i0 i1 i2 i3 i4 i5 i6 i7 i8 i9 i10 i11 i12 i13 j0 j1 j2 j3 j4 j5 j6 j7 j8 j9 j10 j11 j12 j13 hHeld
  go_wp2_with (first
    | (go_at_call 12; (with_reducible refine (HD.out _ KX.out _ _ HC2.out SX.out).mono ?_); rintro e w5 ⟨rfl, hk⟩; have K5 := Lib.hid (Kp.trans KX.out (Kp.trans hk (kp_alloc w5 (.cells #[.int .i64 k9, .int .i64 n9, .int .i64 s9, .int .i64 r9, .int .i64 u9, .int .i64 p9, .int .i64 q9, .int .i64 o9, .int .i64 d9, .int .i64 a9, .int .i64 t9, .int .i64 hh9, .int .i64 c9, .float .f64 x3] 26)))); have A5 := Lib.hid (kp_row (Kp.trans hk (kp_alloc w5 (.cells #[.int .i64 k9, .int .i64 n9, .int .i64 s9, .int .i64 r9, .int .i64 u9, .int .i64 p9, .int .i64 q9, .int .i64 o9, .int .i64 d9, .int .i64 a9, .int .i64 t9, .int .i64 hh9, .int .i64 c9, .float .f64 x3] 26))) AX.out); have M5 := Lib.hid (MapKept.heap_alloc w5 (.cells #[.int .i64 k9, .int .i64 n9, .int .i64 s9, .int .i64 r9, .int .i64 u9, .int .i64 p9, .int .i64 q9, .int .i64 o9, .int .i64 d9, .int .i64 a9, .int .i64 t9, .int .i64 hh9, .int .i64 c9, .float .f64 x3] 26)).1; obtain ⟨i0, i1, i2, i3, i4, i5, i6, i7, i8, i9, i10, i11, i12, i13⟩ := cells14 A5.out; clear hk)
    | (go_at_call 9; (with_reducible refine (HRT.out _ K5.out).mono ?_); rintro e w6 ⟨rfl, hk⟩; have K6 := Lib.hid (Kp.trans K5.out hk); have A6 := Lib.hid (kp_row hk A5.out); have M6 := Lib.hid (kp_row hk M5.out); obtain ⟨h0, h1, h2, h3, h4, h5, h6, h7, h8, h9, h10, h11, h12, h13⟩ := cells14 A6.out; obtain ⟨j0, j1, j2, j3, j4, j5, j6, j7, j8, j9, j10, j11, j12, j13⟩ := cells14 M6.out; clear hk)
    | (go_at_call 19; (with_reducible refine (HSN.out _ K6.out).mono ?_); rintro e w7 ⟨rfl, hk⟩; have K7 := Lib.hid (Kp.trans K6.out hk); clear hk))
  go_ret
  exact ⟨by first | rfl | simp, K7.out⟩
theorem factsUnlike_any (ads : List Addr) (f g : FX) (y : Int) (_hy : -9223372036854775808 ≤ y ∧ y ≤ 9223372036854775807) (hf : f.wf) (hg : g.wf) (w : World) (C : FacC ads w) :
    Calls Tryz.prog 6 #[.agg f.cells, .agg g.cells, .int .i64 y] w fun e w' => e = .returned (.bool true) ∧ Kp w w' := by
  cases ha : rightF f with
  | false => exact unlikeF_w ads f g y hf hg w C ha
  | true =>
    obtain ⟨K, hK, hc⟩ := cut_key y (encF f).length (encF_pos ha) (by have := encF_len f; omega)
    cases hb : rightF g with
    | false =>
      by_cases h0 : (decG ((encF f).take K)).1 = 0
      · exact unlikeF_00 ads f g y hf hg w C ha hb K hK hc h0
      · exact unlikeF_01 ads f g y hf hg w C ha hb K hK hc h0
    | true =>
      by_cases h0 : (decG ((encF f).take K)).1 = 0
      · exact unlikeF_10 ads f g y hf hg w C ha hb K hK hc h0
      · exact unlikeF_11 ads f g y hf hg w C ha hb K hK hc h0
end Go.Proofs.YtahdoniggipmmaaGreatDoor

namespace Go.Proofs.YtahdoniggipmmaaGreatDoor
open Go.RowKit

theorem factsUnlike_walk (a b : FX) (c : Int) (W : World) (ka : a.wf) (kb : b.wf) (kc : -9223372036854775808 ≤ c ∧ c ≤ 9223372036854775807) (hL : laidMetH Tryz.prog Rows.factsUnlikeRow.laid W) :
    Calls Tryz.prog 6 #[.agg a.cells, .agg b.cells, .int .i64 c] W fun e w' => e = .returned (.bool true) ∧ Below W.heap.size W w' := by
  obtain ⟨⟨ads, V⟩, T⟩ := st_tab_of (l := Rows.factsUnlikeRow.laid) (by kernel_rfl) (by kernel_rfl) (by kernel_rfl) hL
  have C := facC_of ads W V T
  exact factsUnlike_any ads a b c kc ka kb W C

end Go.Proofs.YtahdoniggipmmaaGreatDoor

namespace Go.Proofs.YtahdoniggipmmaaGreatDoor
open Go.ChangeShapes Go.WideShapes Go.ChangeAt Go.WideMaps Go.WideElems Go.RowKit


set_option maxRecDepth 100000 in
theorem factsUnlike_lifted (os : Os) (started : os.Started) (H : Type) (enc : TypeId × Value → H) :
    ReturnsInHanded {} Tryz.checked os 6 .any (fun w args => (Rows.factsUnlikeSpec.pre enc Tryz.prog Tryz.f6 [] false w args ∧ laidMetH Tryz.prog Rows.factsUnlikeRow.laid w) ∧ sizedMet enc Tryz.prog Tryz.f6 (OpenSpec.ofChange Rows.factsUnlikeSpec) false w args)
      (Rows.factsUnlikeSpec.post enc Tryz.prog Tryz.f6 false true false false) := by
  refine returnsInHanded_of_change_and (C := Tryz.checked) (X := fun w _ => laidMetH Tryz.prog Rows.factsUnlikeRow.laid w) (fun _ _ _ hh h => h.of_heap hh) own started (by kernel_rfl) Tryz.func6
    (ChangeSpec.witness_shaped (enc := enc) (C := Tryz.checked) (os := os) (X := fun w _ => laidMetH Tryz.prog Rows.factsUnlikeRow.laid w) false (World.laidAll Tryz.prog os Rows.factsUnlikeRow.laid) #[.agg #[.int .i64 0, .int .i64 0, .int .i64 0, .int .i64 0, .int .i64 0, .int .i64 0, .int .i64 0, .int .i64 0, .int .i64 0, .int .i64 0, .int .i64 0, .int .i64 0, .int .i64 0, .float .f64 0], .agg #[.int .i64 0, .int .i64 0, .int .i64 0, .int .i64 0, .int .i64 0, .int .i64 0, .int .i64 0, .int .i64 0, .int .i64 0, .int .i64 0, .int .i64 0, .int .i64 0, .int .i64 0, .float .f64 0], .int .i64 0] 8 (World.laidAll_os _ _ _) (World.shaped_of_ZipB (by kernel_rfl) (by kernel_rfl)) (by kernel_rfl) (by kernel_rfl) (by kernel_rfl) (by rw [MakeChecks.laidMetH_plain _ _ _ (by kernel_rfl)]; exact laidMet_laidAll _ (by kernel_rfl) (by kernel_rfl))) ?_
  intro W base args ds gs before hval0 hW _ hsz hL _
  have hval : ∀ (j : Nat) t v, Tryz.f6.params[j]? = some t → args[j]? = some v → Value.okWide Tryz.prog W .any base t v := hval0
  have hW' := hW
  obtain ⟨p, q, hA0, hV, rfl, hfz, hnd⟩ := hW
  have hA : DataW.TrodAll enc Tryz.prog W 0 (fun _ => true) true Tryz.f6.params.toList args.toList ds p := hA0
  rw [Tryz.params6] at hA hval
  obtain ⟨v0, vs0, d0, ds0, p0, q0, e0, rfl, rfl, h0, r0⟩ := trodAll_cons hA
  obtain ⟨v1, vs1, d1, ds1, p1, q1, e1, rfl, rfl, h1, r1⟩ := trodAll_cons r0
  obtain ⟨v2, vs2, d2, ds2, p2, q2, e2, rfl, rfl, h2, r2⟩ := trodAll_cons r1
  obtain ⟨rfl, rfl, rfl⟩ := trodAll_nil r2
  obtain rfl : args = #[v0, v1, v2] := by cases args; simp_all
  obtain ⟨rfl, rfl⟩ := trodVars_none hV
  obtain ⟨a, rfl, ka⟩ := open_fct (hval 0 26 v0 rfl rfl) h0
  obtain ⟨b, rfl, kb⟩ := open_fct (hval 1 26 v1 rfl rfl) h1
  obtain ⟨c, rfl, rfl, rfl, hc⟩ := open_int Tryz.underlying3 (hval 2 3 v2 rfl rfl) h2
  clear hA0 hval0
  have kc : -9223372036854775808 ≤ c ∧ c ≤ 9223372036854775807 := by simpa [Lit.wf, IntKind.min, IntKind.max, IntKind.bits, IntKind.signed] using hc
  refine (factsUnlike_walk a b c W ka kb kc hL).mono fun e W' ⟨he, hw⟩ => ?_
  subst he
  exact ⟨_, rfl, law_post laidOut hW' rfl rfl rfl Tryz.underlying4 (par_ok (by kernel_rfl)) hw⟩

theorem factsUnlike_said : Rows.FactsUnlikeSaid :=
  OpenClaim.holds_of_wide 6 Tryz.f6 rfl rfl rfl rfl rfl rfl rfl ⟨rfl, rfl, rfl, rfl, rfl⟩ rfl rfl rfl rfl rfl (by kernel_rfl) Tryz.func6 (by kernel_rfl)
    (of_decide_eq_true (by kernel_rfl)) (by unfold Func.isWrapper; first | (rw [if_pos (by decide +kernel)]; kernel_rfl) | (rw [if_neg (by decide +kernel)]; exact ⟨rfl, rfl⟩))
    (fun os started H enc _ => factsUnlike_lifted os started H enc)

theorem factsUnlike_holds : Rows.FactsUnlikeCardSaid :=
  Claim7.holds_tied_plain_at .later [] _ _ _ _ factsUnlike_said (fun _ h => by cases h) (by kernel_rfl) (fun _ h => by cases h) factsUnlike_row_tie rfl ⟨rfl, rfl⟩ (by kernel_rfl) rfl
    (fun f fn hf hfn => by
      obtain rfl : f = 6 := Option.some.inj ((show Tryz.prog.funcNamed "liaison/liaisonlaw14.FactsUnlike" = some 6 by kernel_rfl).symm.trans hf) |>.symm
      obtain rfl : fn = Tryz.f6 := (Option.some.inj (Tryz.func6.symm.trans hfn)).symm
      exact ⟨by kernel_rfl, stand_ok (P := Tryz.prog) (by kernel_rfl)⟩)
    (by kernel_rfl)
end Go.Proofs.YtahdoniggipmmaaGreatDoor

