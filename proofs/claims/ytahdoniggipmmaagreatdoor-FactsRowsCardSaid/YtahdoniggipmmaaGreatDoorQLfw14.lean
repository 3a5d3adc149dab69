/-
  FactsRows: for every list of facts, facts.Rows answers the bytes of each, or the error of the form, and facts.Same tells which are the same as the document does. Condition: package api's errors and strconv's table of powers hold what their declarations lay.
-/
import Derived.Test.YtahdoniggipmmaaGreatDoorPkQ
import Derived.Test.YtahdoniggipmmaaGreatDoorRows
import Derived.Test.YtahdoniggipmmaaGreatDoorPkL
import Derived.Test.YtahdoniggipmmaaGreatDoorPkK
import Derived.Test.YtahdoniggipmmaaGreatDoorCards
import Derived.Test.YtahdoniggipmmaaGreatDoorTie
import Derived.SevenTiedAt
import Derived.Lay
import Derived.MakeChecks

namespace Go.Proofs.YtahdoniggipmmaaGreatDoor
open Go.RowKit Go.ChangeShapes Go.WideShapes

set_option maxRecDepth 100000 in
set_option maxHeartbeats 8000000 in
theorem frows_ok (ads : List Addr) (a : Option Addr) (cap n : Nat) (fs : List FX) (hn : fs.length = n) (w : World) (V : St ads w) (C : FacC ads w) (hs : SlFc (.slice a n cap) fs w) (hl : n ≤ 50) (hall : fs.all rightF = true) :
    Calls Tryz.prog 5 #[.slice a n cap] w fun e w' => e = .returned (.bool true) ∧ Kp w w' := by
  have HA := Lib.hid (alive14_any ads w C)
  have HRW := fun w1 (hk : Kp w w1) => facRows_any ads a cap n fs hn hl w1 (V.below hk) (C.kp hk) (hs.kp hk)
  have HSF := Lib.hid (fun w1 (hk : Kp w w1) => hs.kp hk)
  have HSM := Lib.hid (fun w1 (hk : Kp w w1) (f g : FX) (hf : f.wf) (hg : g.wf) => C.same w1 hk f g hf hg)
  have HN := Lib.hid hn
  have HALL := Lib.hid hall
  have HRW := Lib.hid (fun w1 (hk : Kp w w1) => (HRW w1 hk).mono (R' := fun e w' => ∃ (a2 : Option Addr) (c2 : Nat), e = .returned (.tuple #[.slice a2 n c2, .nilIface]) ∧ SlBB (.slice a2 n c2) (fs.map encF) w' ∧ Kp w1 w') (by
    rintro e w' ⟨⟨_, a2, c2, rfl, hsl⟩ | ⟨h, _⟩, hk2⟩
    · exact ⟨a2, c2, rfl, hsl, hk2⟩
    · rw [hall] at h; cases h))
  obtain ⟨ll, hll⟩ : ∃ ll : Int, (n : Int) = ll := ⟨_, rfl⟩
  have hng : ¬ ll > 50 := by omega
  have hsf := store_fl
  clear V C hs hn hall
  go_enter Tryz.func5, Tryz.ntmps5
  go_wp2_with (first
    | (go_at_call 7; (with_reducible refine HA.out.mono ?_); rintro e w1 ⟨rfl, hk⟩; have K1 := Lib.hid hk; clear hk)
    | (go_at_call 18; (with_reducible refine (HRW.out _ K1.out).mono ?_); rintro e w2 ⟨a2, c2, rfl, hsl, hk2⟩; have KW2 := Lib.hid (Kp.trans K1.out hk2); have BB := Lib.hid hsl; clear hsl; clear hk2))
  go_loopw [5, 22] (fun rv i wr => ∃ (j : Nat), j ≤ n ∧ rv = .bool (true) ∧ i = .int .i64 j ∧ Kp w2 wr) (fun _ i _ => n - (intOf i).toNat)
  case atStart => exact ⟨0, Nat.zero_le _, rfl, rfl, Kp.refl w2⟩
  case round =>
    obtain ⟨j, hj, rfl, rfl, hk⟩ := hrel
    obtain ⟨jj, hjj⟩ : ∃ jj : Int, (j : Int) = jj := ⟨_, rfl⟩
    rw [hjj]
    have HK := Lib.hid hk
    by_cases hlt : j < n
    · have hjl : j < fs.length := by rw [HN.out]; exact hlt
      have hw2 := Kp.trans KW2.out hk
      obtain ⟨b, off, rfl, hwf, hc⟩ := (HSF.out wr hw2).at j hjl
      obtain ⟨b', off', hae, hwz, hcz⟩ := (HSF.out wr hw2).at 0 (by omega)
      injection hae with hae
      injection hae with hae1 hae2 _
      subst hae1 hae2
      have htk : (fs.take (j + 1)).all rightF = ((fs.take j).all rightF && rightF fs[j]) := by
        rw [List.take_succ_eq_append_getElem hjl, List.all_append]
        simp
      have hmem : fs[j] ∈ fs := List.getElem_mem hjl
      obtain ⟨y, hy⟩ : ∃ y, fs[j] = y := ⟨_, rfl⟩
      rw [hy] at hwf hc htk hmem
      obtain ⟨z, hz⟩ : ∃ y, fs[0] = y := ⟨_, rfl⟩
      rw [hz] at hwz hcz
      have HS1 := fun w1 (hk1 : Kp w w1) => HSM.out w1 hk1 y z hwf hwz
      have HS2 := fun w1 (hk1 : Kp w w1) => HSM.out w1 hk1 y y hwf hwf
      have HRS := fun w1 => refSame14_any y z hwf hwz w1
      have HRR := fun w1 => refRight14_any y hwf w1
      simp only [same_refl14] at HS2
      obtain ⟨sv, hsv⟩ : ∃ x, sameF y z = x := ⟨_, rfl⟩
      rw [hsv] at HS1
      simp only [hsv] at HRS
      obtain ⟨ry, hry⟩ : ∃ x, rightF y = x := ⟨_, rfl⟩
      rw [hry] at htk
      simp only [hry] at HRR
      have ej : j = jj.toNat := by omega
      have j0 : 0 ≤ jj := by omega
      have hltj : jj < ll := by omega
      have hlt0 : (0 : Int) < ll := by omega
      have HJ := Lib.hid hjj
      obtain ⟨k0, n0, s0, r0, u0, p0, q0, o0, d0, e0, t0, hh0, c0, x0⟩ := y
      obtain ⟨k9, n9, s9, r9, u9, p9, q9, o9, d9, e9, t9, hh9, c9, x9⟩ := z
      dsimp only [FX.cells] at HS1 HS2 HRS HRR
      rw [ej] at hc
      have g0 : wr.cell? ⟨b, off + jj.toNat * 14, none⟩ = some (.int .i64 k0) := hc 0 _ rfl
      have g1 : wr.cell? ⟨b, off + jj.toNat * 14 + 1, none⟩ = some (.int .i64 n0) := hc 1 _ rfl
      have g2 : wr.cell? ⟨b, off + jj.toNat * 14 + 2, none⟩ = some (.int .i64 s0) := hc 2 _ rfl
      have g3 : wr.cell? ⟨b, off + jj.toNat * 14 + 3, none⟩ = some (.int .i64 r0) := hc 3 _ rfl
      have g4 : wr.cell? ⟨b, off + jj.toNat * 14 + 4, none⟩ = some (.int .i64 u0) := hc 4 _ rfl
      have g5 : wr.cell? ⟨b, off + jj.toNat * 14 + 5, none⟩ = some (.int .i64 p0) := hc 5 _ rfl
      have g6 : wr.cell? ⟨b, off + jj.toNat * 14 + 6, none⟩ = some (.int .i64 q0) := hc 6 _ rfl
      have g7 : wr.cell? ⟨b, off + jj.toNat * 14 + 7, none⟩ = some (.int .i64 o0) := hc 7 _ rfl
      have g8 : wr.cell? ⟨b, off + jj.toNat * 14 + 8, none⟩ = some (.int .i64 d0) := hc 8 _ rfl
      have g9 : wr.cell? ⟨b, off + jj.toNat * 14 + 9, none⟩ = some (.int .i64 e0) := hc 9 _ rfl
      have g10 : wr.cell? ⟨b, off + jj.toNat * 14 + 10, none⟩ = some (.int .i64 t0) := hc 10 _ rfl
      have g11 : wr.cell? ⟨b, off + jj.toNat * 14 + 11, none⟩ = some (.int .i64 hh0) := hc 11 _ rfl
      have g12 : wr.cell? ⟨b, off + jj.toNat * 14 + 12, none⟩ = some (.int .i64 c0) := hc 12 _ rfl
      have g13 : wr.cell? ⟨b, off + jj.toNat * 14 + 13, none⟩ = some (.float .f64 x0) := hc 13 _ rfl
      have hcz2 : ∀ i u, (FX.cells ⟨k9, n9, s9, r9, u9, p9, q9, o9, d9, e9, t9, hh9, c9, x9⟩)[i]? = some u → wr.cell? ⟨b, off + i, none⟩ = some u := fun i u hu => by
        have := hcz i u hu
        rwa [Nat.zero_mul, Nat.add_zero] at this
      have z0 : wr.cell? ⟨b, off, none⟩ = some (.int .i64 k9) := hcz2 0 _ rfl
      have z1 : wr.cell? ⟨b, off + 1, none⟩ = some (.int .i64 n9) := hcz2 1 _ rfl
      have z2 : wr.cell? ⟨b, off + 2, none⟩ = some (.int .i64 s9) := hcz2 2 _ rfl
      have z3 : wr.cell? ⟨b, off + 3, none⟩ = some (.int .i64 r9) := hcz2 3 _ rfl
      have z4 : wr.cell? ⟨b, off + 4, none⟩ = some (.int .i64 u9) := hcz2 4 _ rfl
      have z5 : wr.cell? ⟨b, off + 5, none⟩ = some (.int .i64 p9) := hcz2 5 _ rfl
      have z6 : wr.cell? ⟨b, off + 6, none⟩ = some (.int .i64 q9) := hcz2 6 _ rfl
      have z7 : wr.cell? ⟨b, off + 7, none⟩ = some (.int .i64 o9) := hcz2 7 _ rfl
      have z8 : wr.cell? ⟨b, off + 8, none⟩ = some (.int .i64 d9) := hcz2 8 _ rfl
      have z9 : wr.cell? ⟨b, off + 9, none⟩ = some (.int .i64 e9) := hcz2 9 _ rfl
      have z10 : wr.cell? ⟨b, off + 10, none⟩ = some (.int .i64 t9) := hcz2 10 _ rfl
      have z11 : wr.cell? ⟨b, off + 11, none⟩ = some (.int .i64 hh9) := hcz2 11 _ rfl
      have z12 : wr.cell? ⟨b, off + 12, none⟩ = some (.int .i64 c9) := hcz2 12 _ rfl
      have z13 : wr.cell? ⟨b, off + 13, none⟩ = some (.float .f64 x9) := hcz2 13 _ rfl
      obtain ⟨b0, b1, b2, b3, b4, b5, b6, b7, b8, b9, b10, b11, b12, b13⟩ := cells14 (MapKept.heap_alloc wr (.cells #[.int .i64 k0, .int .i64 n0, .int .i64 s0, .int .i64 r0, .int .i64 u0, .int .i64 p0, .int .i64 q0, .int .i64 o0, .int .i64 d0, .int .i64 e0, .int .i64 t0, .int .i64 hh0, .int .i64 c0, .float .f64 x0] 26)).1
      have hax := kp_alloc wr (.cells #[.int .i64 k0, .int .i64 n0, .int .i64 s0, .int .i64 r0, .int .i64 u0, .int .i64 p0, .int .i64 q0, .int .i64 o0, .int .i64 d0, .int .i64 e0, .int .i64 t0, .int .i64 hh0, .int .i64 c0, .float .f64 x0] 26)
      have hrx := (MapKept.heap_alloc wr (.cells #[.int .i64 k0, .int .i64 n0, .int .i64 s0, .int .i64 r0, .int .i64 u0, .int .i64 p0, .int .i64 q0, .int .i64 o0, .int .i64 d0, .int .i64 e0, .int .i64 t0, .int .i64 hh0, .int .i64 c0, .float .f64 x0] 26)).1
      have hry2 : ry = true := by rw [← hry]; exact List.all_eq_true.1 HALL.out _ hmem
      subst hry2
      have HRR := Lib.hid HRR
      have HRS := Lib.hid HRS
      have HAX := Lib.hid hax
      have HRX := Lib.hid hrx
      have KWR := Lib.hid hw2
      clear hc hcz hcz2 hwf hwz hy hz hjl hlt ej hjj hsv hry hk hw2 htk hmem hax hrx
      · skip
        go_wp2_with (go_at_call 10; (with_reducible refine (HRR.out _).mono ?_); rintro e w5 ⟨rfl, hk5⟩; have KX5 := Lib.hid (Kp.trans HAX.out hk5); have R5 := Lib.hid (kp_row hk5 HRX.out); clear hk5)
        have K5 := Lib.hid (Kp.trans HK.out KX5.out)
        have HS1 := Lib.hid (fun w1 (hk1 : Kp w5 w1) => HS1 w1 (Kp.trans KWR.out (Kp.trans KX5.out hk1)))
        have HS2 := Lib.hid (fun w1 (hk1 : Kp w5 w1) => HS2 w1 (Kp.trans KWR.out (Kp.trans KX5.out hk1)))
        clear b0 b1 b2 b3 b4 b5 b6 b7 b8 b9 b10 b11 b12 b13
        have g0 := kp_cell KX5.out g0
        have g1 := kp_cell KX5.out g1
        have g2 := kp_cell KX5.out g2
        have g3 := kp_cell KX5.out g3
        have g4 := kp_cell KX5.out g4
        have g5 := kp_cell KX5.out g5
        have g6 := kp_cell KX5.out g6
        have g7 := kp_cell KX5.out g7
        have g8 := kp_cell KX5.out g8
        have g9 := kp_cell KX5.out g9
        have g10 := kp_cell KX5.out g10
        have g11 := kp_cell KX5.out g11
        have g12 := kp_cell KX5.out g12
        have g13 := kp_cell KX5.out g13
        have z0 := kp_cell KX5.out z0
        have z1 := kp_cell KX5.out z1
        have z2 := kp_cell KX5.out z2
        have z3 := kp_cell KX5.out z3
        have z4 := kp_cell KX5.out z4
        have z5 := kp_cell KX5.out z5
        have z6 := kp_cell KX5.out z6
        have z7 := kp_cell KX5.out z7
        have z8 := kp_cell KX5.out z8
        have z9 := kp_cell KX5.out z9
        have z10 := kp_cell KX5.out z10
        have z11 := kp_cell KX5.out z11
        have z12 := kp_cell KX5.out z12
        have z13 := kp_cell KX5.out z13
        obtain ⟨b0, b1, b2, b3, b4, b5, b6, b7, b8, b9, b10, b11, b12, b13⟩ := cells14 R5.out
        refine wp_region_held_drew (S := fun w' => Kp w5 w') (by kernel_rfl) ?_ (fun hHeld => ?_)
        · exact (Kp.refl w5).drew
        refine wpAnyH_take (i := 0) (v := ?_) rfl (by kernel_rfl) (by kernel_rfl) (by kernel_rfl) (fun _ _ _ h => h) (Or.inl ⟨by rfl, ?_⟩) (by assumption) ?_
        rotate_left
        · intro w hSw; have q0 := kp_cell hSw b0; have q1 := kp_cell hSw b1; have q2 := kp_cell hSw b2; have q3 := kp_cell hSw b3; have q4 := kp_cell hSw b4; have q5 := kp_cell hSw b5; have q6 := kp_cell hSw b6; have q7 := kp_cell hSw b7; have q8 := kp_cell hSw b8; have q9 := kp_cell hSw b9; have q10 := kp_cell hSw b10; have q11 := kp_cell hSw b11; have q12 := kp_cell hSw b12; have q13 := kp_cell hSw b13; go_simp; try with_reducible rfl
        go_simp
        refine wpAnyH_take (i := 1) (v := ?_) rfl (by kernel_rfl) (by kernel_rfl) (by kernel_rfl) (fun _ _ _ h => h) (Or.inl ⟨by rfl, ?_⟩) (by assumption) ?_
        rotate_left
        · intro w hSw; go_simp; try with_reducible rfl
        go_simp
        refine wpAnyH_take (i := 2) (v := ?_) rfl (by kernel_rfl) (by kernel_rfl) (by kernel_rfl) (fun _ _ _ h => h) (Or.inl ⟨by rfl, ?_⟩) (by assumption) ?_
        rotate_left
        · intro w hSw; go_simp; try with_reducible rfl
        go_simp
        refine wpAnyH_take (i := 3) (v := ?_) rfl (by kernel_rfl) (by kernel_rfl) (by kernel_rfl) (fun _ _ _ h => h) (Or.inl ⟨by rfl, ?_⟩) (by assumption) ?_
        rotate_left
        · intro w hSw; have q0 := kp_cell hSw z0; have q1 := kp_cell hSw z1; have q2 := kp_cell hSw z2; have q3 := kp_cell hSw z3; have q4 := kp_cell hSw z4; have q5 := kp_cell hSw z5; have q6 := kp_cell hSw z6; have q7 := kp_cell hSw z7; have q8 := kp_cell hSw z8; have q9 := kp_cell hSw z9; have q10 := kp_cell hSw z10; have q11 := kp_cell hSw z11; have q12 := kp_cell hSw z12; have q13 := kp_cell hSw z13; go_simp; try with_reducible rfl
        go_simp
        refine wpAnyH_take (i := 5) (v := ?_) rfl (by kernel_rfl) (by kernel_rfl) (by kernel_rfl) (fun _ _ _ h => h) (Or.inl ⟨by rfl, ?_⟩) (by assumption) ?_
        rotate_left
        · intro w hSw; have q0 := kp_cell hSw b0; have q1 := kp_cell hSw b1; have q2 := kp_cell hSw b2; have q3 := kp_cell hSw b3; have q4 := kp_cell hSw b4; have q5 := kp_cell hSw b5; have q6 := kp_cell hSw b6; have q7 := kp_cell hSw b7; have q8 := kp_cell hSw b8; have q9 := kp_cell hSw b9; have q10 := kp_cell hSw b10; have q11 := kp_cell hSw b11; have q12 := kp_cell hSw b12; have q13 := kp_cell hSw b13; go_simp; try with_reducible rfl
        go_simp
        refine wpAnyH_take (i := 6) (v := ?_) rfl (by kernel_rfl) (by kernel_rfl) (by kernel_rfl) (fun _ _ _ h => h) (Or.inl ⟨by rfl, ?_⟩) (by assumption) ?_
        rotate_left
        · intro w hSw; go_simp; try with_reducible rfl
        go_simp
        refine wpAnyH_take (i := 7) (v := ?_) rfl (by kernel_rfl) (by kernel_rfl) (by kernel_rfl) (fun _ _ _ h => h) (Or.inl ⟨by rfl, ?_⟩) (by assumption) ?_
        rotate_left
        · intro w hSw; go_simp; try with_reducible rfl
        go_simp
        refine wpAnyH_take (i := 8) (v := ?_) rfl (by kernel_rfl) (by kernel_rfl) (by kernel_rfl) (fun _ _ _ h => h) (Or.inl ⟨by rfl, ?_⟩) (by assumption) ?_
        rotate_left
        · intro w hSw; have q0 := kp_cell hSw z0; have q1 := kp_cell hSw z1; have q2 := kp_cell hSw z2; have q3 := kp_cell hSw z3; have q4 := kp_cell hSw z4; have q5 := kp_cell hSw z5; have q6 := kp_cell hSw z6; have q7 := kp_cell hSw z7; have q8 := kp_cell hSw z8; have q9 := kp_cell hSw z9; have q10 := kp_cell hSw z10; have q11 := kp_cell hSw z11; have q12 := kp_cell hSw z12; have q13 := kp_cell hSw z13; go_simp; try with_reducible rfl
        go_simp
        refine wpAnyH_ready (rs := [4]) (by kernel_rfl) (by simp) ?_
        refine AllReadyH.cons rfl (fun K hK => ?_) AllReadyH.nil
        go_simp
        go_wp2_with (go_at_call 19; (with_reducible refine (HS1.out _ hHeld).mono ?_); rintro e w6 ⟨rfl, hk6⟩; have K6 := Lib.hid (Kp.trans hHeld hk6); clear hk6)
        refine hK.out _ _ ?_ (fun hHeld => ?_)
        · exact K6.out
        clear hK K
        refine wpAnyH_ready (rs := [9]) (by kernel_rfl) (by simp) ?_
        refine AllReadyH.cons rfl (fun K hK => ?_) AllReadyH.nil
        go_simp
        go_wp2_with (go_at_call 14; (with_reducible refine (HRS.out _).mono ?_); rintro e w7 ⟨rfl, hk7⟩; have K7 := Lib.hid (Kp.trans hHeld hk7); clear hk7)
        refine hK.out _ _ ?_ (fun hHeld => ?_)
        · exact K7.out
        clear hK K
        refine wpAnyH_take (i := 10) (v := ?_) rfl (by kernel_rfl) (by kernel_rfl) (by kernel_rfl) (fun _ _ _ h => h) (Or.inl ⟨by rfl, ?_⟩) (by assumption) ?_
        rotate_left
        · intro w hSw; go_simp; try with_reducible rfl
        go_simp
        refine wpAnyH_take (i := 11) (v := ?_) rfl (by kernel_rfl) (by kernel_rfl) (by kernel_rfl) (fun _ _ _ h => h) (Or.inl ⟨by rfl, ?_⟩) (by assumption) ?_
        rotate_left
        · intro w hSw; go_simp; try with_reducible rfl
        go_simp
        refine wpAnyH_take (i := 12) (v := ?_) rfl (by kernel_rfl) (by kernel_rfl) (by kernel_rfl) (fun _ _ _ h => h) (Or.inl ⟨by rfl, ?_⟩) (by assumption) ?_
        rotate_left
        · intro w hSw; go_simp; try with_reducible rfl
        go_simp
        refine wpAnyH_take (i := 13) (v := ?_) rfl (by kernel_rfl) (by kernel_rfl) (by kernel_rfl) (fun _ _ _ h => h) (Or.inl ⟨by rfl, ?_⟩) (by assumption) ?_
        rotate_left
        · intro w hSw; go_simp; try with_reducible rfl
        go_simp
        refine wpAnyH_take (i := 14) (v := ?_) rfl (by kernel_rfl) (by kernel_rfl) (by kernel_rfl) (fun _ _ _ h => h) (Or.inl ⟨by rfl, ?_⟩) (by assumption) ?_
        rotate_left
        · intro w hSw; go_simp; try with_reducible rfl
        go_simp
        refine wpAnyH_take (i := 15) (v := ?_) rfl (by kernel_rfl) (by kernel_rfl) (by kernel_rfl) (fun _ _ _ h => h) (Or.inl ⟨by rfl, ?_⟩) (by assumption) ?_
        rotate_left
        · intro w hSw; have q0 := kp_cell hSw g0; have q1 := kp_cell hSw g1; have q2 := kp_cell hSw g2; have q3 := kp_cell hSw g3; have q4 := kp_cell hSw g4; have q5 := kp_cell hSw g5; have q6 := kp_cell hSw g6; have q7 := kp_cell hSw g7; have q8 := kp_cell hSw g8; have q9 := kp_cell hSw g9; have q10 := kp_cell hSw g10; have q11 := kp_cell hSw g11; have q12 := kp_cell hSw g12; have q13 := kp_cell hSw g13; go_simp; try with_reducible rfl
        go_simp
        refine wpAnyH_take (i := 16) (v := ?_) rfl (by kernel_rfl) (by kernel_rfl) (by kernel_rfl) (fun _ _ _ h => h) (Or.inl ⟨by rfl, ?_⟩) (by assumption) ?_
        rotate_left
        · intro w hSw; have q0 := kp_cell hSw b0; have q1 := kp_cell hSw b1; have q2 := kp_cell hSw b2; have q3 := kp_cell hSw b3; have q4 := kp_cell hSw b4; have q5 := kp_cell hSw b5; have q6 := kp_cell hSw b6; have q7 := kp_cell hSw b7; have q8 := kp_cell hSw b8; have q9 := kp_cell hSw b9; have q10 := kp_cell hSw b10; have q11 := kp_cell hSw b11; have q12 := kp_cell hSw b12; have q13 := kp_cell hSw b13; go_simp; try with_reducible rfl
        go_simp
        refine wpAnyH_ready (rs := [17]) (by kernel_rfl) (by simp) ?_
        refine AllReadyH.cons rfl (fun K hK => ?_) AllReadyH.nil
        go_simp
        go_wp2_with (go_at_call 19; (with_reducible refine (HS2.out _ hHeld).mono ?_); rintro e w8 ⟨rfl, hk8⟩; have K8 := Lib.hid (Kp.trans hHeld hk8); clear hk8)
        refine hK.out _ _ ?_ (fun hHeld => ?_)
        · exact K8.out
        clear hK K
        refine wpAnyH_take (i := 18) (v := ?_) rfl (by kernel_rfl) (by kernel_rfl) (by kernel_rfl) (fun _ _ _ h => h) (Or.inl ⟨by rfl, ?_⟩) (by assumption) ?_
        rotate_left
        · intro w hSw; go_simp; try with_reducible rfl
        go_simp
        refine wpAnyH_take (i := 19) (v := ?_) rfl (by kernel_rfl) (by kernel_rfl) (by kernel_rfl) (fun _ _ _ h => h) (Or.inl ⟨by rfl, ?_⟩) (by assumption) ?_
        rotate_left
        · intro w hSw; go_simp; try with_reducible rfl
        go_simp
        refine wpAnyH_done (by kernel_rfl) ?_ _
        go_wp2
        have hjj := HJ.out
        go_roundw
        case rel => exact ⟨j + 1, by omega, rfl, by congr 1; omega, Kp.trans K5.out K8.out⟩
        case measure => simp [intOf]; omega
    · obtain rfl : j = n := by omega
      have hful : fs.take j = fs := List.take_of_length_le (by rw [HN.out]; exact Nat.le_refl _)
      have _q := hful
      have hex : ¬ jj < ll := by omega
      have KW3 := Lib.hid (Kp.trans KW2.out hk)
      have BB3 := Lib.hid (BB.out.kp hk)
      clear hk hlt hful hjj hj BB
      go_wp2
      clear hex
      obtain ⟨wk, hwk⟩ : ∃ x, wr = x := ⟨_, rfl⟩
      rw [hwk] at KW3 BB3 ⊢
      clear hwk
      go_loopw [74] (fun i wq => ∃ (l : Nat), l ≤ j ∧ i = .int .i64 l ∧ Kp wk wq) (fun i _ => j - (intOf i).toNat)
      case atStart => exact ⟨0, Nat.zero_le _, rfl, Kp.refl wk⟩
      case round =>
        obtain ⟨l, hj, rfl, hk⟩ := hrel
        obtain ⟨jj, hjj⟩ : ∃ jj : Int, (l : Int) = jj := ⟨_, rfl⟩
        rw [hjj]
        obtain ⟨wq, hwq⟩ : ∃ x, wr = x := ⟨_, rfl⟩
        rw [hwq] at hk ⊢
        clear hwq
        have HK := Lib.hid hk
        by_cases hlt : l < j
        · have hjl : l < fs.length := by rw [HN.out]; exact hlt
          obtain ⟨b, off, rfl, hwf, hc⟩ := (HSF.out wq (Kp.trans KW3.out hk)).at l hjl
          obtain ⟨b2, off2, rfl, a6, c6, hcell, hslb, -⟩ := (BB3.out.kp hk).at l (by simpa using hjl)
          have hr : rightF fs[l] = true := List.all_eq_true.1 HALL.out _ (List.getElem_mem hjl)
          rw [List.getElem_map] at hcell hslb
          obtain ⟨y, hy⟩ : ∃ y, fs[l] = y := ⟨_, rfl⟩
          rw [hy] at hwf hc hr hcell hslb
          have HRE := fun w1 => refBytes14_any y hwf (rightF_okn hr) w1
          obtain ⟨ey, hey⟩ : ∃ x, encF y = x := ⟨_, rfl⟩
          rw [hey] at hcell hslb HRE
          obtain ⟨ss, hss⟩ : ∃ x, strOfNums ey = x := ⟨_, rfl⟩
          have HSS := Lib.hid hss
          obtain ⟨el, hel⟩ : ∃ x, ey.length = x := ⟨_, rfl⟩
          rw [hel] at hcell hslb
          have CV : Hid (∀ w', Kp wq w' → (convert 29 9 (.slice a6 el c6)).run Tryz.prog w' = .ok (.string ss) w') := Lib.hid (fun w' hk => by rw [← HSS.out]; exact conv_slb (hslb.kp hk))
          have ej : l = jj.toNat := by omega
          have j0 : 0 ≤ jj := by omega
          have hltj : jj < ll := by omega
          have HJ := Lib.hid hjj
          obtain ⟨k0, n0, s0, r0, u0, p0, q0, o0, d0, e0, t0, hh0, c0, x0⟩ := y
          dsimp only [FX.cells] at HRE
          have HRE := Lib.hid HRE
          rw [ej] at hc hcell
          have g0 : wq.cell? ⟨b, off + jj.toNat * 14, none⟩ = some (.int .i64 k0) := hc 0 _ rfl
          have g1 : wq.cell? ⟨b, off + jj.toNat * 14 + 1, none⟩ = some (.int .i64 n0) := hc 1 _ rfl
          have g2 : wq.cell? ⟨b, off + jj.toNat * 14 + 2, none⟩ = some (.int .i64 s0) := hc 2 _ rfl
          have g3 : wq.cell? ⟨b, off + jj.toNat * 14 + 3, none⟩ = some (.int .i64 r0) := hc 3 _ rfl
          have g4 : wq.cell? ⟨b, off + jj.toNat * 14 + 4, none⟩ = some (.int .i64 u0) := hc 4 _ rfl
          have g5 : wq.cell? ⟨b, off + jj.toNat * 14 + 5, none⟩ = some (.int .i64 p0) := hc 5 _ rfl
          have g6 : wq.cell? ⟨b, off + jj.toNat * 14 + 6, none⟩ = some (.int .i64 q0) := hc 6 _ rfl
          have g7 : wq.cell? ⟨b, off + jj.toNat * 14 + 7, none⟩ = some (.int .i64 o0) := hc 7 _ rfl
          have g8 : wq.cell? ⟨b, off + jj.toNat * 14 + 8, none⟩ = some (.int .i64 d0) := hc 8 _ rfl
          have g9 : wq.cell? ⟨b, off + jj.toNat * 14 + 9, none⟩ = some (.int .i64 e0) := hc 9 _ rfl
          have g10 : wq.cell? ⟨b, off + jj.toNat * 14 + 10, none⟩ = some (.int .i64 t0) := hc 10 _ rfl
          have g11 : wq.cell? ⟨b, off + jj.toNat * 14 + 11, none⟩ = some (.int .i64 hh0) := hc 11 _ rfl
          have g12 : wq.cell? ⟨b, off + jj.toNat * 14 + 12, none⟩ = some (.int .i64 c0) := hc 12 _ rfl
          have g13 : wq.cell? ⟨b, off + jj.toNat * 14 + 13, none⟩ = some (.float .f64 x0) := hc 13 _ rfl
          clear hc hwf hy hjl hlt ej hjj hr hslb hk hss hey hel
          go_wp2
          refine wp_region_held_drew (S := fun w' => Kp wq w') (by kernel_rfl) ?_ (fun hHeld => ?_)
          · exact (Kp.refl wq).drew
          refine wpAnyH_take (i := 0) (v := ?_) rfl (by kernel_rfl) (by kernel_rfl) (by kernel_rfl) (fun _ _ _ h => h) (Or.inl ⟨by rfl, ?_⟩) (by assumption) ?_
          rotate_left
          · intro w hSw; go_simp; try with_reducible rfl
          go_simp
          refine wpAnyH_take (i := 1) (v := ?_) rfl (by kernel_rfl) (by kernel_rfl) (by kernel_rfl) (fun _ _ _ h => h) (Or.inl ⟨by rfl, ?_⟩) (by assumption) ?_
          rotate_left
          · intro w hSw; have q := CV.out _ hSw; go_simp; try with_reducible rfl
          go_simp
          refine wpAnyH_take (i := 2) (v := ?_) rfl (by kernel_rfl) (by kernel_rfl) (by kernel_rfl) (fun _ _ _ h => h) (Or.inl ⟨by rfl, ?_⟩) (by assumption) ?_
          rotate_left
          · intro w hSw; go_simp; try with_reducible rfl
          go_simp
          refine wpAnyH_take (i := 3) (v := ?_) rfl (by kernel_rfl) (by kernel_rfl) (by kernel_rfl) (fun _ _ _ h => h) (Or.inl ⟨by rfl, ?_⟩) (by assumption) ?_
          rotate_left
          · intro w hSw; go_simp; try with_reducible rfl
          go_simp
          refine wpAnyH_take (i := 4) (v := ?_) rfl (by kernel_rfl) (by kernel_rfl) (by kernel_rfl) (fun _ _ _ h => h) (Or.inl ⟨by rfl, ?_⟩) (by assumption) ?_
          rotate_left
          · intro w hSw; go_simp; try with_reducible rfl
          go_simp
          refine wpAnyH_take (i := 5) (v := ?_) rfl (by kernel_rfl) (by kernel_rfl) (by kernel_rfl) (fun _ _ _ h => h) (Or.inl ⟨by rfl, ?_⟩) (by assumption) ?_
          rotate_left
          · intro w hSw; have q0 := kp_cell hSw g0; have q1 := kp_cell hSw g1; have q2 := kp_cell hSw g2; have q3 := kp_cell hSw g3; have q4 := kp_cell hSw g4; have q5 := kp_cell hSw g5; have q6 := kp_cell hSw g6; have q7 := kp_cell hSw g7; have q8 := kp_cell hSw g8; have q9 := kp_cell hSw g9; have q10 := kp_cell hSw g10; have q11 := kp_cell hSw g11; have q12 := kp_cell hSw g12; have q13 := kp_cell hSw g13; go_simp; try with_reducible rfl
          go_simp
          refine wpAnyH_ready (rs := [6]) (by kernel_rfl) (by simp) ?_
          refine AllReadyH.cons rfl (fun K hK => ?_) AllReadyH.nil
          go_simp
          go_wp2_with (go_at_call 13; (with_reducible refine (HRE.out _).mono ?_); rintro e w8 ⟨v8, rfl, hs8, hk8⟩; obtain ⟨a8, c8, hv8⟩ := hs8.form; subst hv8; have cv8 := conv_slb hs8; rw [HSS.out] at cv8; have K8 := Lib.hid (Kp.trans hHeld hk8); clear hs8 hk8)
          refine hK.out _ _ ?_ (fun hHeld => ?_)
          · exact K8.out
          clear hK K
          refine wpAnyH_ready (rs := [7]) (by kernel_rfl) (by simp) ?_
          refine AllReadyH.cons rfl (fun K hK => ?_) AllReadyH.nil
          go_simp
          refine hK.out _ _ ?_ (fun hHeld => ?_)
          · exact hHeld
          clear hK K
          refine wpAnyH_take (i := 8) (v := ?_) rfl (by kernel_rfl) (by kernel_rfl) (by kernel_rfl) (fun _ _ _ h => h) (Or.inl ⟨by rfl, ?_⟩) (by assumption) ?_
          rotate_left
          · intro w hSw; go_simp; try with_reducible rfl
          go_simp
          refine wpAnyH_done (by kernel_rfl) ?_ _
          go_wp2
          have hjj := HJ.out
          go_roundw
          case rel => exact ⟨l + 1, by omega, by congr 1; omega, Kp.trans HK.out K8.out⟩
          case measure => simp [intOf]; omega
        · obtain rfl : l = j := by omega
          have hex : ¬ jj < ll := by omega
          clear hlt hjj
          go_wp2
          go_ret
          exact ⟨rfl, Kp.trans KW3.out HK.out⟩

theorem factsRows_any (ads : List Addr) (v : Value) (fs : List FX) (w : World) (V : St ads w) (C : FacC ads w) (hs : SlFc v fs w) :
    Calls Tryz.prog 5 #[v] w fun e w' => e = .returned (.bool true) ∧ Kp w w' := by
  obtain ⟨a, cap, rfl, _⟩ := id hs
  obtain ⟨n, hn⟩ : ∃ n, fs.length = n := ⟨_, rfl⟩
  rw [hn] at hs ⊢
  by_cases hl : 50 < n
  · exact frows_long ads a cap n hl w C
  · cases hA : fs.all rightF with
    | true => exact frows_ok ads a cap n fs hn w V C hs (by omega) hA
    | false => exact frows_bad ads a cap n fs hn w V C hs (by omega) hA
end Go.Proofs.YtahdoniggipmmaaGreatDoor

namespace Go.Proofs.YtahdoniggipmmaaGreatDoor
open Go.RowKit

theorem factsRows_walk (v : Value) (list : List FX) (W : World) (k1 : SlFc v list W) (_k2 : list.length ≤ maxLen) (hL : laidMetH Tryz.prog Rows.factsRowsRow.laid W) :
    Calls Tryz.prog 5 #[v] W fun e w' => e = .returned (.bool true) ∧ Below W.heap.size W w' := by
  obtain ⟨⟨ads, V⟩, T⟩ := st_tab_of (l := Rows.factsRowsRow.laid) (by kernel_rfl) (by kernel_rfl) (by kernel_rfl) hL
  have C := facC_of ads W V T
  exact factsRows_any ads v list W V C k1

end Go.Proofs.YtahdoniggipmmaaGreatDoor

namespace Go.Proofs.YtahdoniggipmmaaGreatDoor
open Go.ChangeShapes Go.WideShapes Go.ChangeAt Go.WideMaps Go.WideElems Go.RowKit


set_option maxRecDepth 100000 in
theorem factsRows_lifted (os : Os) (started : os.Started) (H : Type) (enc : TypeId × Value → H) :
    ReturnsInHanded {} Tryz.checked os 5 .any (fun w args => (Rows.factsRowsSpec.pre enc Tryz.prog Tryz.f5 [] false w args ∧ laidMetH Tryz.prog Rows.factsRowsRow.laid w) ∧ sizedMet enc Tryz.prog Tryz.f5 (OpenSpec.ofChange Rows.factsRowsSpec) false w args)
      (Rows.factsRowsSpec.post enc Tryz.prog Tryz.f5 false true false false) := by
  refine returnsInHanded_of_change_and (C := Tryz.checked) (X := fun w _ => laidMetH Tryz.prog Rows.factsRowsRow.laid w) (fun _ _ _ hh h => h.of_heap hh) own started (by kernel_rfl) Tryz.func5
    (ChangeSpec.witness_shaped (enc := enc) (C := Tryz.checked) (os := os) (X := fun w _ => laidMetH Tryz.prog Rows.factsRowsRow.laid w) false (World.laidAll Tryz.prog os Rows.factsRowsRow.laid) #[.slice none 0 0] 8 (World.laidAll_os _ _ _) (World.shaped_of_ZipB (by kernel_rfl) (by kernel_rfl)) (by kernel_rfl) (by kernel_rfl) (by kernel_rfl) (by rw [MakeChecks.laidMetH_plain _ _ _ (by kernel_rfl)]; exact laidMet_laidAll _ (by kernel_rfl) (by kernel_rfl))) ?_
  intro W base args ds gs before hval0 hW _ hsz hL _
  have hval : ∀ (j : Nat) t v, Tryz.f5.params[j]? = some t → args[j]? = some v → Value.okWide Tryz.prog W .any base t v := hval0
  have hW' := hW
  obtain ⟨p, q, hA0, hV, rfl, hfz, hnd⟩ := hW
  have hA : DataW.TrodAll enc Tryz.prog W 0 (fun _ => true) true Tryz.f5.params.toList args.toList ds p := hA0
  rw [Tryz.params5] at hA hval
  obtain ⟨v0, vs0, d0, ds0, p0, q0, e0, rfl, rfl, h0, r0⟩ := trodAll_cons hA
  obtain ⟨rfl, rfl, rfl⟩ := trodAll_nil r0
  obtain rfl : args = #[v0] := by cases args; simp_all
  obtain ⟨rfl, rfl⟩ := trodVars_none hV
  obtain ⟨list, klista, klistb⟩ := open_fcts (hval 0 46 v0 rfl rfl) h0
  clear hA0 hval0
  refine (factsRows_walk v0 list W klista klistb hL).mono fun e W' ⟨he, hw⟩ => ?_
  subst he
  exact ⟨_, rfl, law_post laidOut hW' rfl rfl rfl Tryz.underlying4 (par_ok (by kernel_rfl)) hw⟩

theorem factsRows_said : Rows.FactsRowsSaid :=
  OpenClaim.holds_of_wide 5 Tryz.f5 rfl rfl rfl rfl rfl rfl rfl ⟨rfl, rfl, rfl, rfl, rfl⟩ rfl rfl rfl rfl rfl (by kernel_rfl) Tryz.func5 (by kernel_rfl)
    (of_decide_eq_true (by kernel_rfl)) (by unfold Func.isWrapper; first | (rw [if_pos (by decide +kernel)]; kernel_rfl) | (rw [if_neg (by decide +kernel)]; exact ⟨rfl, rfl⟩))
    (fun os started H enc _ => factsRows_lifted os started H enc)

theorem factsRows_holds : Rows.FactsRowsCardSaid :=
  Claim7.holds_tied_plain_at .later [] _ _ _ _ factsRows_said (fun _ h => by cases h) (by kernel_rfl) (fun _ h => by cases h) factsRows_row_tie rfl ⟨rfl, rfl⟩ (by kernel_rfl) rfl
    (fun f fn hf hfn => by
      obtain rfl : f = 5 := Option.some.inj ((show Tryz.prog.funcNamed "liaison/liaisonlaw14.FactsRows" = some 5 by kernel_rfl).symm.trans hf) |>.symm
      obtain rfl : fn = Tryz.f5 := (Option.some.inj (Tryz.func5.symm.trans hfn)).symm
      exact ⟨by kernel_rfl, stand_ok (P := Tryz.prog) (by kernel_rfl)⟩)
    (by kernel_rfl)
end Go.Proofs.YtahdoniggipmmaaGreatDoor

