/-
  THE DOCUMENT's PAIR (own work): Deliver that takes away, at a participant.
-/
import Derived.Test.YtghjnhdepeiloaaDoorPrM

namespace Go.Proofs.YtghjnhdepeiloaaDoor
open Go.RowKit Go.ChangeShapes Go.WideShapes
variable {w0 w w' W w3 : World} {gm sb : Nat} {m : PairM} {v v' : Value}
set_option maxRecDepth 100000 in
set_option maxHeartbeats 8000000 in
theorem rpDl_false2 (H : Rp w0 gm sb m v w) (hl : m.f.length ≤ 64) (i : Nat) (ii : Int) (hii : (i : Int) = ii) (hi : i < m.f.length) (k : Int) (hq : m.f[i] = (2, k)) (a0 a1 a2 a3 b1 b2 b3 : Int) (b4 : Bool) (hy : m.x.tell k = (0, ⟨⟨a0, a1, a2, a3⟩, b1, b2, b3, b4⟩)) :
    Calls Tryd.prog 45 #[.pointer (some ⟨gm, 0, none⟩), .int .i64 ii, .bool false] w fun r w' => r = .returned (.tuple #[.agg #[.int .i64 a0, .int .i64 a1, .int .i64 a2, .int .i64 a3, .int .i64 b1, .int .i64 b2, .int .i64 b3, .bool b4], .int .i64 0]) ∧ ∃ v', Rp w0 gm sb ⟨m.c, ⟨a0, a1, a2, a3⟩, putF (m.f.take i ++ m.f.drop (i + 1)) 2 b1⟩ v' w' ∧ Asd (Orf gm sb v) (Orf gm sb v') w w' := by
  have K1 := kp_alloc w (.cells #[.int .i64 0, .int .i64 0, .int .i64 0, .int .i64 0, .int .i64 0, .int .i64 0, .int .i64 0, .bool false] 33)
  have HZ := (MapKept.heap_alloc w (.cells #[.int .i64 0, .int .i64 0, .int .i64 0, .int .i64 0, .int .i64 0, .int .i64 0, .int .i64 0, .bool false] 33)).1
  obtain ⟨W, hW⟩ : ∃ W, ((w.alloc (.cells #[.int .i64 0, .int .i64 0, .int .i64 0, .int .i64 0, .int .i64 0, .int .i64 0, .int .i64 0, .bool false] 33)).alloc (.cells #[.int .i64 2, .int .i64 k] 57)) = W := ⟨_, rfl⟩
  have k2 := kp_alloc (w.alloc (.cells #[.int .i64 0, .int .i64 0, .int .i64 0, .int .i64 0, .int .i64 0, .int .i64 0, .int .i64 0, .bool false] 33)) (.cells #[.int .i64 2, .int .i64 k] 57)
  have t2 := (MapKept.heap_alloc (w.alloc (.cells #[.int .i64 0, .int .i64 0, .int .i64 0, .int .i64 0, .int .i64 0, .int .i64 0, .int .i64 0, .bool false] 33)) (.cells #[.int .i64 2, .int .i64 k] 57)).1
  rw [show (w.alloc (.cells #[.int .i64 0, .int .i64 0, .int .i64 0, .int .i64 0, .int .i64 0, .int .i64 0, .int .i64 0, .bool false] 33)).heap.size = w.heap.size + 1 by simp] at t2
  have WS := Lib.hid (show W.heap.size = w.heap.size + 2 by rw [← hW]; simp)
  have zw := kp_row k2 HZ
  rw [hW] at k2 t2 zw
  have KW := Lib.hid (Kp.trans K1 k2)
  have TW := Lib.hid t2
  have ZW := Lib.hid zw
  have GW := Lib.hid (kp_row KW.out H.row)
  have SW := Lib.hid (kp_row KW.out H.seats)
  have ht := fun w1 => refTell_any m.x k w1
  rw [hy] at ht
  dsimp only [seatV, effV] at ht
  have HT := Lib.hid ht
  have HPT := Lib.hid (fun v1 w1 (H1 : Rp w0 gm sb ⟨m.c, ⟨a0, a1, a2, a3⟩, (m.f.take i ++ m.f.drop (i + 1))⟩ v1 w1) => (show Calls Tryd.prog 72 #[.pointer (some ⟨gm, 0, none⟩), .int .i64 2, .int .i64 b1] w1 fun r w' => r = .returned (.tuple #[]) ∧ ∃ v', Rp w0 gm sb ⟨m.c, ⟨a0, a1, a2, a3⟩, putF (m.f.take i ++ m.f.drop (i + 1)) 2 b1⟩ v' w' ∧ Asd (Orf gm sb v1) (Orf gm sb v') w1 w' from rpPut_any H1 2 b1 (by decide) (by show (m.f.take i ++ m.f.drop (i + 1)).length ≤ 100; have := cut_len (f := m.f) hi; omega)))
  have hown := H.own
  rcases hown.2 with ⟨rfl, h0⟩ | ⟨bv, cp, cur, rfl, hb, hh, hnc, hcm, hcs, ht2⟩
  · omega
  have NOB := Lib.hid (fun b (h1 : w.heap.size ≤ b) => (fun q => absurd (H.mem b q).2 (by omega) : ¬ Orf gm sb _ b))
  have c0 := kp_cell K1 (H.own.cells rfl (2 * i) _ (flyB_at m.f i hi).1)
  have c1 := kp_cell K1 (H.own.cells rfl (2 * i + 1) _ (flyB_at m.f i hi).2)
  rw [Addr.add_lit, hq] at c0 c1
  dsimp only at c0 c1
  rw [Nat.zero_add, show 2 * i = ii.toNat * 2 by omega] at c0
  rw [Nat.zero_add, show 2 * i + 1 = ii.toNat * 2 + 1 by omega] at c1
  have e1 := kp_cell K1 (cells_2R H.row).2
  obtain ⟨n, hn⟩ : ∃ n, m.f.length = n := ⟨_, rfl⟩
  rw [hn] at H NOB GW e1 hi hl hnc ⊢
  have HH := Lib.hid H
  have PK := Lib.hid (And.intro hii (And.intro hi (And.intro (show n ≤ 64 by omega) (And.intro hn hnc))))
  obtain ⟨nn, hnn⟩ : ∃ x : Int, (n : Int) = x := ⟨_, rfl⟩
  have g0 : decide (ii < 0) = false := decide_eq_false (by omega)
  have g1 : decide (ii ≥ nn) = false := decide_eq_false (by omega)
  have y0 : 0 ≤ ii := by omega
  have y1 : ii < nn := by omega
  have y2 : ii < n := by omega
  have HW := Lib.hid hW
  clear hW K1 HZ k2 t2 zw H hown ht hy hh ht2 hcs hcm hb hn hq hi hii hl hnc
  go_enter Tryd.func45, Tryd.ntmps45
  go_wp2_with fail
  try rw [HW.out]
  have wr : IntKind.i64.wrap 1 = 1 := by decide
  clear hnn g0 g1 y0 y1 y2 c0 c1 e1 
  refine wp_region_held_drew (S := fun w' => Kp W w') (by kernel_rfl) ?_ (fun hHeld => ?_)
  · exact kp_drewM (Kp.refl _)
  refine wpAnyH_take (i := 0) (v := ?_) rfl (by kernel_rfl) (by kernel_rfl) (by kernel_rfl) (fun _ _ _ h => h) (Or.inl ⟨by rfl, ?_⟩) (by assumption) ?_
  rotate_left
  · intro w hSw; go_simp; try with_reducible rfl
  go_simp
  refine wpAnyH_take (i := 1) (v := ?_) rfl (by kernel_rfl) (by kernel_rfl) (by kernel_rfl) (fun _ _ _ h => h) (Or.inl ⟨by rfl, ?_⟩) (by assumption) ?_
  rotate_left
  · intro w hSw; go_simp; try with_reducible rfl
  go_simp
  refine wpAnyH_take (i := 2) (v := ?_) rfl (by kernel_rfl) (by kernel_rfl) (by kernel_rfl) (fun _ _ _ h => h) (Or.inl ⟨by rfl, ?_⟩) (by assumption) ?_
  rotate_left
  · intro w hSw; go_simp; try with_reducible rfl
  go_simp
  refine wpAnyH_take (i := 3) (v := ?_) rfl (by kernel_rfl) (by kernel_rfl) (by kernel_rfl) (fun _ _ _ h => h) (Or.inl ⟨by rfl, ?_⟩) (by assumption) ?_
  rotate_left
  · intro w hSw; obtain ⟨q0, q1⟩ := cells_2R (kp_row hSw GW.out); go_simp; try with_reducible rfl
  go_simp
  refine wpAnyH_take (i := 4) (v := ?_) rfl (by kernel_rfl) (by kernel_rfl) (by kernel_rfl) (fun _ _ _ h => h) (Or.inl ⟨by rfl, ?_⟩) (by assumption) ?_
  rotate_left
  · intro w hSw; go_simp; try with_reducible rfl
  go_simp
  refine wpAnyH_take (i := 5) (v := ?_) rfl (by kernel_rfl) (by kernel_rfl) (by kernel_rfl) (fun _ _ _ h => h) (Or.inl ⟨by rfl, ?_⟩) (by assumption) ?_
  rotate_left
  · intro w hSw; obtain ⟨q0, q1⟩ := cells_2M (kp_row hSw TW.out); go_simp; try with_reducible rfl
  go_simp
  refine wpAnyH_take (i := 6) (v := ?_) rfl (by kernel_rfl) (by kernel_rfl) (by kernel_rfl) (fun _ _ _ h => h) (Or.inl ⟨by rfl, ?_⟩) (by assumption) ?_
  rotate_left
  · intro w hSw; go_simp; try with_reducible rfl
  go_simp
  refine wpAnyH_take (i := 7) (v := ?_) rfl (by kernel_rfl) (by kernel_rfl) (by kernel_rfl) (fun _ _ _ h => h) (Or.inl ⟨by rfl, ?_⟩) (by assumption) ?_
  rotate_left
  · intro w hSw; go_simp; try with_reducible rfl
  go_simp
  refine wpAnyH_take (i := 8) (v := ?_) rfl (by kernel_rfl) (by kernel_rfl) (by kernel_rfl) (fun _ _ _ h => h) (Or.inl ⟨by rfl, ?_⟩) (by assumption) ?_
  rotate_left
  · intro w hSw; obtain ⟨q0, q1, q2, q3, q4, q5, q6, q7⟩ := cells_8 (kp_row hSw SW.out); go_simp; try with_reducible rfl
  go_simp
  refine wpAnyH_take (i := 9) (v := ?_) rfl (by kernel_rfl) (by kernel_rfl) (by kernel_rfl) (fun _ _ _ h => h) (Or.inl ⟨by rfl, ?_⟩) (by assumption) ?_
  rotate_left
  · intro w hSw; go_simp; try with_reducible rfl
  go_simp
  refine wpAnyH_take (i := 10) (v := ?_) rfl (by kernel_rfl) (by kernel_rfl) (by kernel_rfl) (fun _ _ _ h => h) (Or.inl ⟨by rfl, ?_⟩) (by assumption) ?_
  rotate_left
  · intro w hSw; obtain ⟨q0, q1⟩ := cells_2M (kp_row hSw TW.out); go_simp; try with_reducible rfl
  go_simp
  refine wpAnyH_ready (rs := [11, 15]) (by kernel_rfl) (by simp) ?_
  refine AllReadyH.cons rfl (fun K hK => ?_) (AllReadyH.cons rfl (fun K hK => ?_) AllReadyH.nil)
  · go_simp
    go_wp2_with (go_at_call 11; (with_reducible refine (HT.out _).mono ?_); rintro e' w6 ⟨rfl, hk6⟩; have K6 := Lib.hid (Kp.trans hHeld hk6); have HKT := Lib.hid hk6; clear hk6)
    refine hK.out _ _ K6.out (fun hHeld => ?_)
    clear hK K
    refine wpAnyH_take (i := 12) (v := ?_) rfl (by kernel_rfl) (by kernel_rfl) (by kernel_rfl) (fun _ _ _ h => h) (Or.inl ⟨by rfl, ?_⟩) (by assumption) ?_
    rotate_left
    · intro w hSw; go_simp; try with_reducible rfl
    go_simp
    refine wpAnyH_take (i := 13) (v := ?_) rfl (by kernel_rfl) (by kernel_rfl) (by kernel_rfl) (fun _ _ _ h => h) (Or.inl ⟨by rfl, ?_⟩) (by assumption) ?_
    rotate_left
    · intro w hSw; go_simp; try with_reducible rfl
    go_simp
    refine wpAnyH_take (i := 14) (v := ?_) rfl (by kernel_rfl) (by kernel_rfl) (by kernel_rfl) (fun _ _ _ h => h) (Or.inl ⟨by rfl, ?_⟩) (by assumption) ?_
    rotate_left
    · intro w hSw; go_simp; try with_reducible rfl
    go_simp
    refine wpAnyH_ready (rs := [15]) (by kernel_rfl) (by simp) ?_
    refine AllReadyH.cons rfl (fun K hK => ?_) AllReadyH.nil
    go_simp
    refine hK.out _ _ ?_ (fun hHeld => ?_)
    · exact Kp.trans hHeld (kp_alloc _ _)
    clear hK K
    have BR := Lib.hid ((MapKept.heap_alloc w6 (.cells #[.int .i64 0, .int .i64 0, .int .i64 0, .int .i64 0, .int .i64 0, .int .i64 0, .int .i64 0, .bool false] 33)).1)
    obtain ⟨z0, z1, z2, z3, z4, z5, z6, z7⟩ := cells_8 BR.out
    have fzz := frozN BR.out
    refine wpAnyH_ready (rs := [16]) (by kernel_rfl) (by simp) ?_
    refine AllReadyH.cons rfl (fun K hK => ?_) AllReadyH.nil
    go_simp
    refine hK.out _ _ ?_ (fun hHeld => ?_)
    · exact Kp.trans K6.out (kp_alloc _ _)
    clear hK K z0 z1 z2 z3 z4 z5 z6 z7 fzz
    refine wpAnyH_take (i := 17) (v := ?_) rfl (by kernel_rfl) (by kernel_rfl) (by kernel_rfl) (fun _ _ _ h => h) (Or.inl ⟨by rfl, ?_⟩) (by assumption) ?_
    rotate_left
    · intro w hSw; go_simp; try with_reducible rfl
    go_simp
    refine wpAnyH_done (by kernel_rfl) ?_ _
    obtain ⟨X, hX⟩ : ∃ X, w6.alloc (.cells #[.int .i64 a0, .int .i64 a1, .int .i64 a2, .int .i64 a3, .int .i64 b1, .int .i64 b2, .int .i64 b3, .bool b4] 33) = X := ⟨_, rfl⟩
    obtain ⟨qB, hqB⟩ : ∃ q, w6.heap.size = q := ⟨_, rfl⟩
    have KX := Lib.hid (show Kp W X from hX ▸ hHeld)
    have TX := Lib.hid (kp_row KX.out TW.out)
    have BX := Lib.hid (show X.heap[qB]? = some (.cells #[.int .i64 a0, .int .i64 a1, .int .i64 a2, .int .i64 a3, .int .i64 b1, .int .i64 b2, .int .i64 b3, .bool b4] 33) by rw [← hX, ← hqB]; exact (MapKept.heap_alloc w6 (.cells #[.int .i64 a0, .int .i64 a1, .int .i64 a2, .int .i64 a3, .int .i64 b1, .int .i64 b2, .int .i64 b3, .bool b4] 33)).1)
    have LW := Lib.hid (show W.heap.size ≤ qB by rw [← hqB]; exact Below.size K6.out)
    try rw [hX]
    try rw [hqB]
    clear hX hqB hHeld
    have AX := Lib.hid (Asd.of_kp (Orf gm sb (.slice (some ⟨bv, 0, none⟩) n cp)) (Kp.trans KW.out KX.out))
    have ZX := Lib.hid (kp_row KX.out ZW.out)
    have HX := Lib.hid (HH.out.kp (Kp.trans KW.out KX.out))
    have LQ := Lib.hid (show w.heap.size ≤ qB by have := LW.out; have := WS.out; omega)
    obtain ⟨x0, x1, x2, x3, x4, x5, x6, x7⟩ := cells_8 BX.out
    obtain ⟨u0, u1⟩ := cells_2M TX.out
    obtain ⟨j0, j1⟩ := cells_2R HX.out.row
    obtain ⟨s0, s1, s2, s3, s4, s5, s6, s7⟩ := cells_8 HX.out.seats
    have fs := frozN HX.out.seats
    go_wp2
    go_region
    have sx := HX.out.seat2 ⟨a0, a1, a2, a3⟩
    dsimp only at sx
    obtain ⟨X9, hX9⟩ : ∃ X9, ((((X.setCell ⟨sb, 4, none⟩ (.int .i64 a0)).setCell ⟨sb, 5, none⟩ (.int .i64 a1)).setCell ⟨sb, 6, none⟩ (.int .i64 a2)).setCell ⟨sb, 7, none⟩ (.int .i64 a3)).drew = X9 := ⟨_, rfl⟩
    have HS := Lib.hid (show Rp w0 gm sb ⟨m.c, ⟨a0, a1, a2, a3⟩, m.f⟩ (.slice (some ⟨bv, 0, none⟩) n cp) X9 by rw [← hX9]; exact sx.1.drew)
    have a9 : Asd (Orf gm sb (.slice (some ⟨bv, 0, none⟩) n cp)) (Orf gm sb (.slice (some ⟨bv, 0, none⟩) n cp)) X X9 := by rw [← hX9]; exact sx.2.drewR
    have A9 := Lib.hid (AX.out.trans a9)
    have B9 := Lib.hid (a9.row BX.out (NOB.out _ LQ.out))
    have Z9 := Lib.hid (a9.row ZX.out (NOB.out _ (Nat.le_refl _)))
    have T9 := Lib.hid (a9.row TX.out (NOB.out _ (Nat.le_succ _)))
    have LB9 := Lib.hid (old_of_row B9.out)
    have LZ9 := Lib.hid (old_of_row Z9.out)
    rw [hX9]
    clear sx hX9 a9 x0 x1 x2 x3 x4 x5 x6 x7 u0 u1 j0 j1 s0 s1 s2 s3 s4 s5 s6 s7 fs
    obtain ⟨hii, hi, hl, hn, hnc⟩ := PK.out
    have kD : Kp X9 (X9).drew := kp_drewM (Kp.refl _)
    obtain ⟨wD, hwD⟩ : ∃ x, (X9).drew = x := ⟨_, rfl⟩
    rw [hwD] at kD
    have RD := HS.out.kp kD
    have ownD := RD.own
    rw [show PairM.f _ = m.f from rfl, hn] at ownD
    obtain ⟨jj, hjj⟩ : ∃ jj : Int, ii + 1 = jj := ⟨_, rfl⟩
    have sh := fun w => flyR_head (b := bv) hii (Nat.le_of_lt hi) hnc w
    have st := fun w => flyR_tail (b := bv) (cp := cp) (i := i + 1) (ii := jj) (n := n) (by omega) (by omega) w
    obtain ⟨at2, hat⟩ : ∃ x : Nat, (if cp = i + 1 then 0 else (i + 1) * 2) = x := ⟨_, rfl⟩
    rw [hat] at st
    have p1 := own_takeF ownD (Nat.le_of_lt hi)
    have p2 := own_dropF ownD (i := i + 1) (by omega) ⟨bv, at2, none⟩ (fun q => by rw [← hat, if_neg (by omega)]) (cp - (i + 1))
    obtain ⟨q2, hq2⟩ : ∃ x, n - (i + 1) = x := ⟨_, rfl⟩
    obtain ⟨q3, hq3⟩ : ∃ x, cp - (i + 1) = x := ⟨_, rfl⟩
    rw [hq2, hq3] at st p2
    have hwj : IntKind.i64.wrap jj = jj := IntWalk.i64_in jj (by omega)
    have i0 : 0 ≤ ii := by omega
    have i1 : ii ≤ 1000 := by omega
    obtain ⟨-, e1D⟩ := cells_2R RD.row
    have kE := kp_alloc wD (.cells #[] 57)
    have e1E := kp_cell kE e1D
    have O1 := Lib.hid (show (wD.alloc (.cells #[] 57)).ownsRow wD.heap.size 57 2 (.slice (some ⟨wD.heap.size, 0, none⟩) 0 0) 0 [] from ⟨by simp, Or.inr ⟨wD.heap.size, 0, #[], rfl, Nat.le_refl _, (MapKept.heap_alloc wD _).1, Nat.le_refl _, by omega, by simp, by simp⟩⟩)
    have P1 := Lib.hid (p1.kp kE)
    have P2 := Lib.hid p2
    obtain ⟨wE, hwE⟩ : ∃ x, wD.alloc (.cells #[] 57) = x := ⟨_, rfl⟩
    obtain ⟨sE, hsE⟩ : ∃ x, wD.heap.size = x := ⟨_, rfl⟩
    rw [hwE] at kE e1E O1 P1
    rw [hsE] at O1
    have KE := Lib.hid (Kp.trans kD kE)
    have KDE := Lib.hid kE
    have SE := Lib.hid (show X9.heap.size ≤ sE by rw [← hsE]; exact Below.size kD)
    have HWD := Lib.hid hwD
    have HWE := Lib.hid hwE
    have HSE := Lib.hid hsE
    have HN := Lib.hid hn
    have HQ2 := Lib.hid hq2
    have HI := Lib.hid (And.intro hi hl)
    have HTI := Lib.hid (show (m.f.take i).length = i by rw [List.length_take]; omega)
    obtain ⟨L2, hL2⟩ : ∃ L, i + (m.f.drop (i + 1)).length = L := ⟨_, rfl⟩
    have HL2 := Lib.hid hL2
    clear hL2 kD RD ownD hat p1 p2 hq2 hq3 kE hwD hwE hsE
    clear hi hl hn hnc
    go_wp2_with fail
    refine wp_region_held_drew (S := fun _ => True) (by kernel_rfl) ?_ (fun hHeld => ?_)
    · exact trivial
    rw [HWD.out]
    refine wpAnyH_take (i := 0) (v := ?_) rfl (by kernel_rfl) (by kernel_rfl) (by kernel_rfl) (fun _ _ _ h => h) (Or.inl ⟨by rfl, ?_⟩) (by assumption) ?_
    rotate_left
    · intro w hSw; go_simp; try with_reducible rfl
    go_simp
    refine wpAnyH_take (i := 2) (v := ?_) rfl (by kernel_rfl) (by kernel_rfl) (by kernel_rfl) (fun _ _ _ h => h) (Or.inl ⟨by rfl, ?_⟩) (by assumption) ?_
    rotate_left
    · intro w hSw; go_simp; try with_reducible rfl
    go_simp
    refine wpAnyH_take (i := 3) (v := ?_) rfl (by kernel_rfl) (by kernel_rfl) (by kernel_rfl) (fun _ _ _ h => h) (Or.inl ⟨by rfl, ?_⟩) (by assumption) ?_
    rotate_left
    · intro w hSw; go_simp; try with_reducible rfl
    go_simp
    refine wpAnyH_take (i := 4) (v := ?_) rfl (by kernel_rfl) (by kernel_rfl) (by kernel_rfl) (fun _ _ _ h => h) (Or.inl ⟨by rfl, ?_⟩) (by assumption) ?_
    rotate_left
    · intro w hSw; go_simp; try with_reducible rfl
    go_simp
    refine wpAnyH_take (i := 6) (v := ?_) rfl (by kernel_rfl) (by kernel_rfl) (by kernel_rfl) (fun _ _ _ h => h) (Or.inl ⟨by rfl, ?_⟩) (by assumption) ?_
    rotate_left
    · intro w hSw; go_simp; try with_reducible rfl
    go_simp
    refine wpAnyH_take (i := 9) (v := ?_) rfl (by kernel_rfl) (by kernel_rfl) (by kernel_rfl) (fun _ _ _ h => h) (Or.inl ⟨by rfl, ?_⟩) (by assumption) ?_
    rotate_left
    · intro w hSw; go_simp; try with_reducible rfl
    go_simp
    refine wpAnyH_take (i := 10) (v := ?_) rfl (by kernel_rfl) (by kernel_rfl) (by kernel_rfl) (fun _ _ _ h => h) (Or.inl ⟨by rfl, ?_⟩) (by assumption) ?_
    rotate_left
    · intro w hSw; go_simp; try with_reducible rfl
    go_simp
    refine wpAnyH_take (i := 11) (v := ?_) rfl (by kernel_rfl) (by kernel_rfl) (by kernel_rfl) (fun _ _ _ h => h) (Or.inl ⟨by rfl, ?_⟩) (by assumption) ?_
    rotate_left
    · intro w hSw; go_simp; try with_reducible rfl
    go_simp
    refine wpAnyH_take (i := 13) (v := ?_) rfl (by kernel_rfl) (by kernel_rfl) (by kernel_rfl) (fun _ _ _ h => h) (Or.inl ⟨by rfl, ?_⟩) (by assumption) ?_
    rotate_left
    · intro w hSw; go_simp; try with_reducible rfl
    go_simp
    refine wpAnyH_take (i := 14) (v := ?_) rfl (by kernel_rfl) (by kernel_rfl) (by kernel_rfl) (fun _ _ _ h => h) (Or.inl ⟨by rfl, ?_⟩) (by assumption) ?_
    rotate_left
    · intro w hSw; go_simp; try with_reducible rfl
    go_simp
    refine wpAnyH_ready (rs := [1, 5, 12]) (by kernel_rfl) (by simp) ?_
    refine AllReadyH.cons rfl (fun K hK => ?_) (AllReadyH.cons rfl (fun K hK => ?_) (AllReadyH.cons rfl (fun K hK => ?_) AllReadyH.nil))
    · go_simp
      try rw [HSE.out]
      try rw [HWE.out]
      refine hK.out _ _ trivial (fun hHeld => ?_)
      clear hK K
      refine wpAnyH_ready (rs := [5, 12]) (by kernel_rfl) (by simp) ?_
      refine AllReadyH.cons rfl (fun K hK => ?_) (AllReadyH.cons rfl (fun K hK => ?_) AllReadyH.nil)
      · go_simp
        refine hK.out _ _ trivial (fun hHeld => ?_)
        clear hK K
        refine wpAnyH_take (i := 7) (v := ?_) rfl (by kernel_rfl) (by kernel_rfl) (by kernel_rfl) (fun _ _ _ h => h) (Or.inl ⟨by rfl, ?_⟩) (by assumption) ?_
        rotate_left
        · intro w hSw; go_simp; try with_reducible rfl
        go_simp
        refine wpAnyH_ready (rs := [8, 12]) (by kernel_rfl) (by simp) ?_
        refine AllReadyH.consLR rfl (fun K hK => ?_) (AllReadyH.cons rfl (fun K hK => ?_) AllReadyH.nil)
        · go_simp
          refine wpList_append_flr _ rfl _ _ rfl sE _ _ _ rfl O1.out _ (m.f.take i) rfl P1.out ?f1 ?f2 ?_
          case f1 => have := HI.out; have := HN.out; simp; omega
          case f2 => have := O1.out.lt sE rfl; omega
          rintro v3 w3 ho hg hb
          rw [HTI.out, Nat.zero_add, List.nil_append] at ho
          obtain ⟨ad3, c3, rfl⟩ := own_formR ho
          have K3 := Lib.hid (show Kp X9 w3 from Below.grown KE.out hg (Below.size KE.out) (fun k hk => by have := (O1.out.lt k hk).1; have := SE.out; omega))
          have O3 := Lib.hid ho
          have S3 := Lib.hid (show sE ≤ w3.heap.size from Nat.le_trans (by have := O1.out.lt sE rfl; omega) hg.size)
          have P3 := Lib.hid (P2.out.kp (show Kp wD w3 from Below.grown KDE.out hg (Below.size KDE.out) (fun k hk => by have := (O1.out.lt k hk).1; have := HSE.out; omega)))
          have e13 := kp_cell K3.out (cells_2R HS.out.row).2
          clear ho hg hb
          refine hK.out _ _ trivial (fun hHeld => ?_)
          clear hK K
          refine wpAnyH_ready (rs := [12]) (by kernel_rfl) (by simp) ?_
          refine AllReadyH.cons rfl (fun K hK => ?_) AllReadyH.nil
          go_simp
          refine hK.out _ _ trivial (fun hHeld => ?_)
          clear hK K
          refine wpAnyH_take (i := 15) (v := ?_) rfl (by kernel_rfl) (by kernel_rfl) (by kernel_rfl) (fun _ _ _ h => h) (Or.inl ⟨by rfl, ?_⟩) (by assumption) ?_
          rotate_left
          · intro w hSw; go_simp; try with_reducible rfl
          go_simp
          refine wpAnyH_ready (rs := [16]) (by kernel_rfl) (by simp) ?_
          refine AllReadyH.consLR rfl (fun K hK => ?_) AllReadyH.nil
          go_simp
          refine wpList_append_flr _ rfl _ _ rfl sE _ _ _ rfl O3.out _ (m.f.drop (i + 1)) rfl P3.out ?f3 ?f4 ?_
          case f3 => have := HI.out; have := HN.out; simp; omega
          case f4 => exact S3.out
          rintro v4 w4 ho hg hb
          rw [HL2.out] at ho
          obtain ⟨ad4, c4, rfl⟩ := own_formR ho
          have K4 := Lib.hid (show Kp X9 w4 from Below.grown K3.out hg (Below.size K3.out) (fun k hk => by have := (O3.out.lt k hk).1; have := SE.out; omega))
          have RF := Lib.hid (HS.out.fly K4.out (w3 := w4) (L := L2) ⟨rfl, rfl, rfl, Nat.le_refl _, fun _ _ _ => rfl⟩ (f := m.f.take i ++ m.f.drop (i + 1)) (by rw [List.length_append, HTI.out, HL2.out]) (by rw [flyB_app]; exact own_baseR (base := sE) ho (Nat.le_trans HS.out.bg (Nat.le_trans (Nat.le_of_lt (old_of_row HS.out.row)) SE.out))) (fun b q => .inr (by have := (ho.lt b q).1; have := SE.out; omega)))
          have r4 := kp_row K4.out HS.out.row
          obtain ⟨x0, x1⟩ := cells_2R r4
          have fz := frozN r4
          clear ho hg hb r4
          refine hK.out _ _ trivial (fun hHeld => ?_)
          clear hK K
          refine wpAnyH_take (i := 17) (v := ?_) rfl (by kernel_rfl) (by kernel_rfl) (by kernel_rfl) (fun _ _ _ h => h) (Or.inl ⟨by rfl, ?_⟩) (by assumption) ?_
          rotate_left
          · intro w hSw; go_simp; try with_reducible rfl
          go_simp
          refine wpAnyH_take (i := 18) (v := ?_) rfl (by kernel_rfl) (by kernel_rfl) (by kernel_rfl) (fun _ _ _ h => h) (Or.inl ⟨by rfl, ?_⟩) (by assumption) ?_
          rotate_left
          · intro w hSw; go_simp; try with_reducible rfl
          go_simp
          refine wpAnyH_ready (rs := [19]) (by kernel_rfl) (by simp) ?_
          refine AllReadyH.cons rfl (fun K hK => ?_) AllReadyH.nil
          go_simp
          refine hK.out _ _ trivial (fun hHeld => ?_)
          clear hK K
          refine wpAnyH_done (by kernel_rfl) ?_ _
          have PY := Lib.hid (show Rp w0 gm sb ⟨m.c, ⟨a0, a1, a2, a3⟩, (m.f.take i ++ m.f.drop (i + 1))⟩ (.slice ad4 L2 c4) (w4.setCell ⟨gm, 1, none⟩ (.slice ad4 L2 c4)) from RF.out.1)
          have AY := Lib.hid (A9.out.trans RF.out.2)
          have BY := Lib.hid (RF.out.2.row B9.out (NOB.out _ LQ.out))
          have ZY := Lib.hid (RF.out.2.row Z9.out (NOB.out _ (Nat.le_refl _)))
          have TY := Lib.hid (RF.out.2.row T9.out (NOB.out _ (Nat.le_succ _)))
          have NBY := Lib.hid (fun b (h1 : w.heap.size ≤ b) (h2 : b < X9.heap.size) => (fun q => (RF.out.2.own b q).elim (NOB.out b h1) (fun q => absurd h2 (by omega)) : ¬ Orf gm sb (.slice ad4 L2 c4) b))
          obtain ⟨YY, hY⟩ : ∃ Y, (w4.setCell ⟨gm, 1, none⟩ (.slice ad4 L2 c4)) = Y := ⟨_, rfl⟩
          rw [hY] at PY AY BY ZY TY
          rw [hY]
          have LZY := Lib.hid (old_of_row ZY.out)
          clear hY x0 x1 fz
          obtain ⟨x0, x1, x2, x3, x4, x5, x6, x7⟩ := cells_8 BY.out
          obtain ⟨u0, u1⟩ := cells_2M TY.out
          go_wp2_with (go_at_call 72; (with_reducible refine (HPT.out _ _ PY.out).mono ?_); rintro e' w8 ⟨rfl, v', hp, ha⟩; have P8 := Lib.hid hp; have A8 := Lib.hid (AY.out.trans ha); have NO := Lib.hid (show ¬ Orf gm sb v' w.heap.size from fun q => (ha.own _ q).elim (NBY.out _ (Nat.le_refl _) LZ9.out) (fun q => by have := LZY.out; omega)); have B8 := Lib.hid (ha.row BY.out (NBY.out _ LQ.out LB9.out)); have Z8 := Lib.hid (ha.row ZY.out (NBY.out _ (Nat.le_refl _) LZ9.out)); obtain ⟨s0, s1, s2, s3, s4, s5, s6, s7⟩ := cells_8 B8.out; obtain ⟨r0, r1, r2, r3, r4, r5, r6, r7⟩ := cells_8 Z8.out; have fz8 := frozN Z8.out; clear hp ha)
          refine bodyPost_ret (results_row_tmpT (p := 6) (u := 7) rfl _ _ w.heap.size 33 _ (0, 0) _ rfl (set_8 _ _ _ _ _ _ _ _ Z8.out) Tryd.underlying33 rfl (by kernel_rfl)) rfl ?_
          exact ⟨rfl, v', P8.out.stay (fun b hb => set_8_eq (fun q => NO.out (q ▸ hb))), set_8_asd A8.out (Nat.le_refl _)⟩
        · go_simp
          refine hK.out _ _ trivial (fun hHeld => ?_)
          clear hK K
          refine wpAnyH_take (i := 15) (v := ?_) rfl (by kernel_rfl) (by kernel_rfl) (by kernel_rfl) (fun _ _ _ h => h) (Or.inl ⟨by rfl, ?_⟩) (by assumption) ?_
          rotate_left
          · intro w hSw; go_simp; try with_reducible rfl
          go_simp
          refine wpAnyH_ready (rs := [8]) (by kernel_rfl) (by simp) ?_
          refine AllReadyH.consLR rfl (fun K hK => ?_) AllReadyH.nil
          go_simp
          refine wpList_append_flr _ rfl _ _ rfl sE _ _ _ rfl O1.out _ (m.f.take i) rfl P1.out ?f1 ?f2 ?_
          case f1 => have := HI.out; have := HN.out; simp; omega
          case f2 => have := O1.out.lt sE rfl; omega
          rintro v3 w3 ho hg hb
          rw [HTI.out, Nat.zero_add, List.nil_append] at ho
          obtain ⟨ad3, c3, rfl⟩ := own_formR ho
          have K3 := Lib.hid (show Kp X9 w3 from Below.grown KE.out hg (Below.size KE.out) (fun k hk => by have := (O1.out.lt k hk).1; have := SE.out; omega))
          have O3 := Lib.hid ho
          have S3 := Lib.hid (show sE ≤ w3.heap.size from Nat.le_trans (by have := O1.out.lt sE rfl; omega) hg.size)
          have P3 := Lib.hid (P2.out.kp (show Kp wD w3 from Below.grown KDE.out hg (Below.size KDE.out) (fun k hk => by have := (O1.out.lt k hk).1; have := HSE.out; omega)))
          have e13 := kp_cell K3.out (cells_2R HS.out.row).2
          clear ho hg hb
          refine hK.out _ _ trivial (fun hHeld => ?_)
          clear hK K
          refine wpAnyH_ready (rs := [16]) (by kernel_rfl) (by simp) ?_
          refine AllReadyH.consLR rfl (fun K hK => ?_) AllReadyH.nil
          go_simp
          refine wpList_append_flr _ rfl _ _ rfl sE _ _ _ rfl O3.out _ (m.f.drop (i + 1)) rfl P3.out ?f3 ?f4 ?_
          case f3 => have := HI.out; have := HN.out; simp; omega
          case f4 => exact S3.out
          rintro v4 w4 ho hg hb
          rw [HL2.out] at ho
          obtain ⟨ad4, c4, rfl⟩ := own_formR ho
          have K4 := Lib.hid (show Kp X9 w4 from Below.grown K3.out hg (Below.size K3.out) (fun k hk => by have := (O3.out.lt k hk).1; have := SE.out; omega))
          have RF := Lib.hid (HS.out.fly K4.out (w3 := w4) (L := L2) ⟨rfl, rfl, rfl, Nat.le_refl _, fun _ _ _ => rfl⟩ (f := m.f.take i ++ m.f.drop (i + 1)) (by rw [List.length_append, HTI.out, HL2.out]) (by rw [flyB_app]; exact own_baseR (base := sE) ho (Nat.le_trans HS.out.bg (Nat.le_trans (Nat.le_of_lt (old_of_row HS.out.row)) SE.out))) (fun b q => .inr (by have := (ho.lt b q).1; have := SE.out; omega)))
          have r4 := kp_row K4.out HS.out.row
          obtain ⟨x0, x1⟩ := cells_2R r4
          have fz := frozN r4
          clear ho hg hb r4
          refine hK.out _ _ trivial (fun hHeld => ?_)
          clear hK K
          refine wpAnyH_take (i := 17) (v := ?_) rfl (by kernel_rfl) (by kernel_rfl) (by kernel_rfl) (fun _ _ _ h => h) (Or.inl ⟨by rfl, ?_⟩) (by assumption) ?_
          rotate_left
          · intro w hSw; go_simp; try with_reducible rfl
          go_simp
          refine wpAnyH_take (i := 18) (v := ?_) rfl (by kernel_rfl) (by kernel_rfl) (by kernel_rfl) (fun _ _ _ h => h) (Or.inl ⟨by rfl, ?_⟩) (by assumption) ?_
          rotate_left
          · intro w hSw; go_simp; try with_reducible rfl
          go_simp
          refine wpAnyH_ready (rs := [19]) (by kernel_rfl) (by simp) ?_
          refine AllReadyH.cons rfl (fun K hK => ?_) AllReadyH.nil
          go_simp
          refine hK.out _ _ trivial (fun hHeld => ?_)
          clear hK K
          refine wpAnyH_done (by kernel_rfl) ?_ _
          have PY := Lib.hid (show Rp w0 gm sb ⟨m.c, ⟨a0, a1, a2, a3⟩, (m.f.take i ++ m.f.drop (i + 1))⟩ (.slice ad4 L2 c4) (w4.setCell ⟨gm, 1, none⟩ (.slice ad4 L2 c4)) from RF.out.1)
          have AY := Lib.hid (A9.out.trans RF.out.2)
          have BY := Lib.hid (RF.out.2.row B9.out (NOB.out _ LQ.out))
          have ZY := Lib.hid (RF.out.2.row Z9.out (NOB.out _ (Nat.le_refl _)))
          have TY := Lib.hid (RF.out.2.row T9.out (NOB.out _ (Nat.le_succ _)))
          have NBY := Lib.hid (fun b (h1 : w.heap.size ≤ b) (h2 : b < X9.heap.size) => (fun q => (RF.out.2.own b q).elim (NOB.out b h1) (fun q => absurd h2 (by omega)) : ¬ Orf gm sb (.slice ad4 L2 c4) b))
          obtain ⟨YY, hY⟩ : ∃ Y, (w4.setCell ⟨gm, 1, none⟩ (.slice ad4 L2 c4)) = Y := ⟨_, rfl⟩
          rw [hY] at PY AY BY ZY TY
          rw [hY]
          have LZY := Lib.hid (old_of_row ZY.out)
          clear hY x0 x1 fz
          obtain ⟨x0, x1, x2, x3, x4, x5, x6, x7⟩ := cells_8 BY.out
          obtain ⟨u0, u1⟩ := cells_2M TY.out
          go_wp2_with (go_at_call 72; (with_reducible refine (HPT.out _ _ PY.out).mono ?_); rintro e' w8 ⟨rfl, v', hp, ha⟩; have P8 := Lib.hid hp; have A8 := Lib.hid (AY.out.trans ha); have NO := Lib.hid (show ¬ Orf gm sb v' w.heap.size from fun q => (ha.own _ q).elim (NBY.out _ (Nat.le_refl _) LZ9.out) (fun q => by have := LZY.out; omega)); have B8 := Lib.hid (ha.row BY.out (NBY.out _ LQ.out LB9.out)); have Z8 := Lib.hid (ha.row ZY.out (NBY.out _ (Nat.le_refl _) LZ9.out)); obtain ⟨s0, s1, s2, s3, s4, s5, s6, s7⟩ := cells_8 B8.out; obtain ⟨r0, r1, r2, r3, r4, r5, r6, r7⟩ := cells_8 Z8.out; have fz8 := frozN Z8.out; clear hp ha)
          refine bodyPost_ret (results_row_tmpT (p := 6) (u := 7) rfl _ _ w.heap.size 33 _ (0, 0) _ rfl (set_8 _ _ _ _ _ _ _ _ Z8.out) Tryd.underlying33 rfl (by kernel_rfl)) rfl ?_
          exact ⟨rfl, v', P8.out.stay (fun b hb => set_8_eq (fun q => NO.out (q ▸ hb))), set_8_asd A8.out (Nat.le_refl _)⟩
      · go_simp
        refine hK.out _ _ trivial (fun hHeld => ?_)
        clear hK K
        refine wpAnyH_take (i := 15) (v := ?_) rfl (by kernel_rfl) (by kernel_rfl) (by kernel_rfl) (fun _ _ _ h => h) (Or.inl ⟨by rfl, ?_⟩) (by assumption) ?_
        rotate_left
        · intro w hSw; go_simp; try with_reducible rfl
        go_simp
        refine wpAnyH_ready (rs := [5]) (by kernel_rfl) (by simp) ?_
        refine AllReadyH.cons rfl (fun K hK => ?_) AllReadyH.nil
        go_simp
        refine hK.out _ _ trivial (fun hHeld => ?_)
        clear hK K
        refine wpAnyH_take (i := 7) (v := ?_) rfl (by kernel_rfl) (by kernel_rfl) (by kernel_rfl) (fun _ _ _ h => h) (Or.inl ⟨by rfl, ?_⟩) (by assumption) ?_
        rotate_left
        · intro w hSw; go_simp; try with_reducible rfl
        go_simp
        refine wpAnyH_ready (rs := [8]) (by kernel_rfl) (by simp) ?_
        refine AllReadyH.consLR rfl (fun K hK => ?_) AllReadyH.nil
        go_simp
        refine wpList_append_flr _ rfl _ _ rfl sE _ _ _ rfl O1.out _ (m.f.take i) rfl P1.out ?f1 ?f2 ?_
        case f1 => have := HI.out; have := HN.out; simp; omega
        case f2 => have := O1.out.lt sE rfl; omega
        rintro v3 w3 ho hg hb
        rw [HTI.out, Nat.zero_add, List.nil_append] at ho
        obtain ⟨ad3, c3, rfl⟩ := own_formR ho
        have K3 := Lib.hid (show Kp X9 w3 from Below.grown KE.out hg (Below.size KE.out) (fun k hk => by have := (O1.out.lt k hk).1; have := SE.out; omega))
        have O3 := Lib.hid ho
        have S3 := Lib.hid (show sE ≤ w3.heap.size from Nat.le_trans (by have := O1.out.lt sE rfl; omega) hg.size)
        have P3 := Lib.hid (P2.out.kp (show Kp wD w3 from Below.grown KDE.out hg (Below.size KDE.out) (fun k hk => by have := (O1.out.lt k hk).1; have := HSE.out; omega)))
        have e13 := kp_cell K3.out (cells_2R HS.out.row).2
        clear ho hg hb
        refine hK.out _ _ trivial (fun hHeld => ?_)
        clear hK K
        refine wpAnyH_ready (rs := [16]) (by kernel_rfl) (by simp) ?_
        refine AllReadyH.consLR rfl (fun K hK => ?_) AllReadyH.nil
        go_simp
        refine wpList_append_flr _ rfl _ _ rfl sE _ _ _ rfl O3.out _ (m.f.drop (i + 1)) rfl P3.out ?f3 ?f4 ?_
        case f3 => have := HI.out; have := HN.out; simp; omega
        case f4 => exact S3.out
        rintro v4 w4 ho hg hb
        rw [HL2.out] at ho
        obtain ⟨ad4, c4, rfl⟩ := own_formR ho
        have K4 := Lib.hid (show Kp X9 w4 from Below.grown K3.out hg (Below.size K3.out) (fun k hk => by have := (O3.out.lt k hk).1; have := SE.out; omega))
        have RF := Lib.hid (HS.out.fly K4.out (w3 := w4) (L := L2) ⟨rfl, rfl, rfl, Nat.le_refl _, fun _ _ _ => rfl⟩ (f := m.f.take i ++ m.f.drop (i + 1)) (by rw [List.length_append, HTI.out, HL2.out]) (by rw [flyB_app]; exact own_baseR (base := sE) ho (Nat.le_trans HS.out.bg (Nat.le_trans (Nat.le_of_lt (old_of_row HS.out.row)) SE.out))) (fun b q => .inr (by have := (ho.lt b q).1; have := SE.out; omega)))
        have r4 := kp_row K4.out HS.out.row
        obtain ⟨x0, x1⟩ := cells_2R r4
        have fz := frozN r4
        clear ho hg hb r4
        refine hK.out _ _ trivial (fun hHeld => ?_)
        clear hK K
        refine wpAnyH_take (i := 17) (v := ?_) rfl (by kernel_rfl) (by kernel_rfl) (by kernel_rfl) (fun _ _ _ h => h) (Or.inl ⟨by rfl, ?_⟩) (by assumption) ?_
        rotate_left
        · intro w hSw; go_simp; try with_reducible rfl
        go_simp
        refine wpAnyH_take (i := 18) (v := ?_) rfl (by kernel_rfl) (by kernel_rfl) (by kernel_rfl) (fun _ _ _ h => h) (Or.inl ⟨by rfl, ?_⟩) (by assumption) ?_
        rotate_left
        · intro w hSw; go_simp; try with_reducible rfl
        go_simp
        refine wpAnyH_ready (rs := [19]) (by kernel_rfl) (by simp) ?_
        refine AllReadyH.cons rfl (fun K hK => ?_) AllReadyH.nil
        go_simp
        refine hK.out _ _ trivial (fun hHeld => ?_)
        clear hK K
        refine wpAnyH_done (by kernel_rfl) ?_ _
        have PY := Lib.hid (show Rp w0 gm sb ⟨m.c, ⟨a0, a1, a2, a3⟩, (m.f.take i ++ m.f.drop (i + 1))⟩ (.slice ad4 L2 c4) (w4.setCell ⟨gm, 1, none⟩ (.slice ad4 L2 c4)) from RF.out.1)
        have AY := Lib.hid (A9.out.trans RF.out.2)
        have BY := Lib.hid (RF.out.2.row B9.out (NOB.out _ LQ.out))
        have ZY := Lib.hid (RF.out.2.row Z9.out (NOB.out _ (Nat.le_refl _)))
        have TY := Lib.hid (RF.out.2.row T9.out (NOB.out _ (Nat.le_succ _)))
        have NBY := Lib.hid (fun b (h1 : w.heap.size ≤ b) (h2 : b < X9.heap.size) => (fun q => (RF.out.2.own b q).elim (NOB.out b h1) (fun q => absurd h2 (by omega)) : ¬ Orf gm sb (.slice ad4 L2 c4) b))
        obtain ⟨YY, hY⟩ : ∃ Y, (w4.setCell ⟨gm, 1, none⟩ (.slice ad4 L2 c4)) = Y := ⟨_, rfl⟩
        rw [hY] at PY AY BY ZY TY
        rw [hY]
        have LZY := Lib.hid (old_of_row ZY.out)
        clear hY x0 x1 fz
        obtain ⟨x0, x1, x2, x3, x4, x5, x6, x7⟩ := cells_8 BY.out
        obtain ⟨u0, u1⟩ := cells_2M TY.out
        go_wp2_with (go_at_call 72; (with_reducible refine (HPT.out _ _ PY.out).mono ?_); rintro e' w8 ⟨rfl, v', hp, ha⟩; have P8 := Lib.hid hp; have A8 := Lib.hid (AY.out.trans ha); have NO := Lib.hid (show ¬ Orf gm sb v' w.heap.size from fun q => (ha.own _ q).elim (NBY.out _ (Nat.le_refl _) LZ9.out) (fun q => by have := LZY.out; omega)); have B8 := Lib.hid (ha.row BY.out (NBY.out _ LQ.out LB9.out)); have Z8 := Lib.hid (ha.row ZY.out (NBY.out _ (Nat.le_refl _) LZ9.out)); obtain ⟨s0, s1, s2, s3, s4, s5, s6, s7⟩ := cells_8 B8.out; obtain ⟨r0, r1, r2, r3, r4, r5, r6, r7⟩ := cells_8 Z8.out; have fz8 := frozN Z8.out; clear hp ha)
        refine bodyPost_ret (results_row_tmpT (p := 6) (u := 7) rfl _ _ w.heap.size 33 _ (0, 0) _ rfl (set_8 _ _ _ _ _ _ _ _ Z8.out) Tryd.underlying33 rfl (by kernel_rfl)) rfl ?_
        exact ⟨rfl, v', P8.out.stay (fun b hb => set_8_eq (fun q => NO.out (q ▸ hb))), set_8_asd A8.out (Nat.le_refl _)⟩
    · go_simp
      refine hK.out _ _ trivial (fun hHeld => ?_)
      clear hK K
      refine wpAnyH_take (i := 7) (v := ?_) rfl (by kernel_rfl) (by kernel_rfl) (by kernel_rfl) (fun _ _ _ h => h) (Or.inl ⟨by rfl, ?_⟩) (by assumption) ?_
      rotate_left
      · intro w hSw; go_simp; try with_reducible rfl
      go_simp
      refine wpAnyH_ready (rs := [1, 12]) (by kernel_rfl) (by simp) ?_
      refine AllReadyH.cons rfl (fun K hK => ?_) (AllReadyH.cons rfl (fun K hK => ?_) AllReadyH.nil)
      · go_simp
        try rw [HSE.out]
        try rw [HWE.out]
        refine hK.out _ _ trivial (fun hHeld => ?_)
        clear hK K
        refine wpAnyH_ready (rs := [8, 12]) (by kernel_rfl) (by simp) ?_
        refine AllReadyH.consLR rfl (fun K hK => ?_) (AllReadyH.cons rfl (fun K hK => ?_) AllReadyH.nil)
        · go_simp
          refine wpList_append_flr _ rfl _ _ rfl sE _ _ _ rfl O1.out _ (m.f.take i) rfl P1.out ?f1 ?f2 ?_
          case f1 => have := HI.out; have := HN.out; simp; omega
          case f2 => have := O1.out.lt sE rfl; omega
          rintro v3 w3 ho hg hb
          rw [HTI.out, Nat.zero_add, List.nil_append] at ho
          obtain ⟨ad3, c3, rfl⟩ := own_formR ho
          have K3 := Lib.hid (show Kp X9 w3 from Below.grown KE.out hg (Below.size KE.out) (fun k hk => by have := (O1.out.lt k hk).1; have := SE.out; omega))
          have O3 := Lib.hid ho
          have S3 := Lib.hid (show sE ≤ w3.heap.size from Nat.le_trans (by have := O1.out.lt sE rfl; omega) hg.size)
          have P3 := Lib.hid (P2.out.kp (show Kp wD w3 from Below.grown KDE.out hg (Below.size KDE.out) (fun k hk => by have := (O1.out.lt k hk).1; have := HSE.out; omega)))
          have e13 := kp_cell K3.out (cells_2R HS.out.row).2
          clear ho hg hb
          refine hK.out _ _ trivial (fun hHeld => ?_)
          clear hK K
          refine wpAnyH_ready (rs := [12]) (by kernel_rfl) (by simp) ?_
          refine AllReadyH.cons rfl (fun K hK => ?_) AllReadyH.nil
          go_simp
          refine hK.out _ _ trivial (fun hHeld => ?_)
          clear hK K
          refine wpAnyH_take (i := 15) (v := ?_) rfl (by kernel_rfl) (by kernel_rfl) (by kernel_rfl) (fun _ _ _ h => h) (Or.inl ⟨by rfl, ?_⟩) (by assumption) ?_
          rotate_left
          · intro w hSw; go_simp; try with_reducible rfl
          go_simp
          refine wpAnyH_ready (rs := [16]) (by kernel_rfl) (by simp) ?_
          refine AllReadyH.consLR rfl (fun K hK => ?_) AllReadyH.nil
          go_simp
          refine wpList_append_flr _ rfl _ _ rfl sE _ _ _ rfl O3.out _ (m.f.drop (i + 1)) rfl P3.out ?f3 ?f4 ?_
          case f3 => have := HI.out; have := HN.out; simp; omega
          case f4 => exact S3.out
          rintro v4 w4 ho hg hb
          rw [HL2.out] at ho
          obtain ⟨ad4, c4, rfl⟩ := own_formR ho
          have K4 := Lib.hid (show Kp X9 w4 from Below.grown K3.out hg (Below.size K3.out) (fun k hk => by have := (O3.out.lt k hk).1; have := SE.out; omega))
          have RF := Lib.hid (HS.out.fly K4.out (w3 := w4) (L := L2) ⟨rfl, rfl, rfl, Nat.le_refl _, fun _ _ _ => rfl⟩ (f := m.f.take i ++ m.f.drop (i + 1)) (by rw [List.length_append, HTI.out, HL2.out]) (by rw [flyB_app]; exact own_baseR (base := sE) ho (Nat.le_trans HS.out.bg (Nat.le_trans (Nat.le_of_lt (old_of_row HS.out.row)) SE.out))) (fun b q => .inr (by have := (ho.lt b q).1; have := SE.out; omega)))
          have r4 := kp_row K4.out HS.out.row
          obtain ⟨x0, x1⟩ := cells_2R r4
          have fz := frozN r4
          clear ho hg hb r4
          refine hK.out _ _ trivial (fun hHeld => ?_)
          clear hK K
          refine wpAnyH_take (i := 17) (v := ?_) rfl (by kernel_rfl) (by kernel_rfl) (by kernel_rfl) (fun _ _ _ h => h) (Or.inl ⟨by rfl, ?_⟩) (by assumption) ?_
          rotate_left
          · intro w hSw; go_simp; try with_reducible rfl
          go_simp
          refine wpAnyH_take (i := 18) (v := ?_) rfl (by kernel_rfl) (by kernel_rfl) (by kernel_rfl) (fun _ _ _ h => h) (Or.inl ⟨by rfl, ?_⟩) (by assumption) ?_
          rotate_left
          · intro w hSw; go_simp; try with_reducible rfl
          go_simp
          refine wpAnyH_ready (rs := [19]) (by kernel_rfl) (by simp) ?_
          refine AllReadyH.cons rfl (fun K hK => ?_) AllReadyH.nil
          go_simp
          refine hK.out _ _ trivial (fun hHeld => ?_)
          clear hK K
          refine wpAnyH_done (by kernel_rfl) ?_ _
          have PY := Lib.hid (show Rp w0 gm sb ⟨m.c, ⟨a0, a1, a2, a3⟩, (m.f.take i ++ m.f.drop (i + 1))⟩ (.slice ad4 L2 c4) (w4.setCell ⟨gm, 1, none⟩ (.slice ad4 L2 c4)) from RF.out.1)
          have AY := Lib.hid (A9.out.trans RF.out.2)
          have BY := Lib.hid (RF.out.2.row B9.out (NOB.out _ LQ.out))
          have ZY := Lib.hid (RF.out.2.row Z9.out (NOB.out _ (Nat.le_refl _)))
          have TY := Lib.hid (RF.out.2.row T9.out (NOB.out _ (Nat.le_succ _)))
          have NBY := Lib.hid (fun b (h1 : w.heap.size ≤ b) (h2 : b < X9.heap.size) => (fun q => (RF.out.2.own b q).elim (NOB.out b h1) (fun q => absurd h2 (by omega)) : ¬ Orf gm sb (.slice ad4 L2 c4) b))
          obtain ⟨YY, hY⟩ : ∃ Y, (w4.setCell ⟨gm, 1, none⟩ (.slice ad4 L2 c4)) = Y := ⟨_, rfl⟩
          rw [hY] at PY AY BY ZY TY
          rw [hY]
          have LZY := Lib.hid (old_of_row ZY.out)
          clear hY x0 x1 fz
          obtain ⟨x0, x1, x2, x3, x4, x5, x6, x7⟩ := cells_8 BY.out
          obtain ⟨u0, u1⟩ := cells_2M TY.out
          go_wp2_with (go_at_call 72; (with_reducible refine (HPT.out _ _ PY.out).mono ?_); rintro e' w8 ⟨rfl, v', hp, ha⟩; have P8 := Lib.hid hp; have A8 := Lib.hid (AY.out.trans ha); have NO := Lib.hid (show ¬ Orf gm sb v' w.heap.size from fun q => (ha.own _ q).elim (NBY.out _ (Nat.le_refl _) LZ9.out) (fun q => by have := LZY.out; omega)); have B8 := Lib.hid (ha.row BY.out (NBY.out _ LQ.out LB9.out)); have Z8 := Lib.hid (ha.row ZY.out (NBY.out _ (Nat.le_refl _) LZ9.out)); obtain ⟨s0, s1, s2, s3, s4, s5, s6, s7⟩ := cells_8 B8.out; obtain ⟨r0, r1, r2, r3, r4, r5, r6, r7⟩ := cells_8 Z8.out; have fz8 := frozN Z8.out; clear hp ha)
          refine bodyPost_ret (results_row_tmpT (p := 6) (u := 7) rfl _ _ w.heap.size 33 _ (0, 0) _ rfl (set_8 _ _ _ _ _ _ _ _ Z8.out) Tryd.underlying33 rfl (by kernel_rfl)) rfl ?_
          exact ⟨rfl, v', P8.out.stay (fun b hb => set_8_eq (fun q => NO.out (q ▸ hb))), set_8_asd A8.out (Nat.le_refl _)⟩
        · go_simp
          refine hK.out _ _ trivial (fun hHeld => ?_)
          clear hK K
          refine wpAnyH_take (i := 15) (v := ?_) rfl (by kernel_rfl) (by kernel_rfl) (by kernel_rfl) (fun _ _ _ h => h) (Or.inl ⟨by rfl, ?_⟩) (by assumption) ?_
          rotate_left
          · intro w hSw; go_simp; try with_reducible rfl
          go_simp
          refine wpAnyH_ready (rs := [8]) (by kernel_rfl) (by simp) ?_
          refine AllReadyH.consLR rfl (fun K hK => ?_) AllReadyH.nil
          go_simp
          refine wpList_append_flr _ rfl _ _ rfl sE _ _ _ rfl O1.out _ (m.f.take i) rfl P1.out ?f1 ?f2 ?_
          case f1 => have := HI.out; have := HN.out; simp; omega
          case f2 => have := O1.out.lt sE rfl; omega
          rintro v3 w3 ho hg hb
          rw [HTI.out, Nat.zero_add, List.nil_append] at ho
          obtain ⟨ad3, c3, rfl⟩ := own_formR ho
          have K3 := Lib.hid (show Kp X9 w3 from Below.grown KE.out hg (Below.size KE.out) (fun k hk => by have := (O1.out.lt k hk).1; have := SE.out; omega))
          have O3 := Lib.hid ho
          have S3 := Lib.hid (show sE ≤ w3.heap.size from Nat.le_trans (by have := O1.out.lt sE rfl; omega) hg.size)
          have P3 := Lib.hid (P2.out.kp (show Kp wD w3 from Below.grown KDE.out hg (Below.size KDE.out) (fun k hk => by have := (O1.out.lt k hk).1; have := HSE.out; omega)))
          have e13 := kp_cell K3.out (cells_2R HS.out.row).2
          clear ho hg hb
          refine hK.out _ _ trivial (fun hHeld => ?_)
          clear hK K
          refine wpAnyH_ready (rs := [16]) (by kernel_rfl) (by simp) ?_
          refine AllReadyH.consLR rfl (fun K hK => ?_) AllReadyH.nil
          go_simp
          refine wpList_append_flr _ rfl _ _ rfl sE _ _ _ rfl O3.out _ (m.f.drop (i + 1)) rfl P3.out ?f3 ?f4 ?_
          case f3 => have := HI.out; have := HN.out; simp; omega
          case f4 => exact S3.out
          rintro v4 w4 ho hg hb
          rw [HL2.out] at ho
          obtain ⟨ad4, c4, rfl⟩ := own_formR ho
          have K4 := Lib.hid (show Kp X9 w4 from Below.grown K3.out hg (Below.size K3.out) (fun k hk => by have := (O3.out.lt k hk).1; have := SE.out; omega))
          have RF := Lib.hid (HS.out.fly K4.out (w3 := w4) (L := L2) ⟨rfl, rfl, rfl, Nat.le_refl _, fun _ _ _ => rfl⟩ (f := m.f.take i ++ m.f.drop (i + 1)) (by rw [List.length_append, HTI.out, HL2.out]) (by rw [flyB_app]; exact own_baseR (base := sE) ho (Nat.le_trans HS.out.bg (Nat.le_trans (Nat.le_of_lt (old_of_row HS.out.row)) SE.out))) (fun b q => .inr (by have := (ho.lt b q).1; have := SE.out; omega)))
          have r4 := kp_row K4.out HS.out.row
          obtain ⟨x0, x1⟩ := cells_2R r4
          have fz := frozN r4
          clear ho hg hb r4
          refine hK.out _ _ trivial (fun hHeld => ?_)
          clear hK K
          refine wpAnyH_take (i := 17) (v := ?_) rfl (by kernel_rfl) (by kernel_rfl) (by kernel_rfl) (fun _ _ _ h => h) (Or.inl ⟨by rfl, ?_⟩) (by assumption) ?_
          rotate_left
          · intro w hSw; go_simp; try with_reducible rfl
          go_simp
          refine wpAnyH_take (i := 18) (v := ?_) rfl (by kernel_rfl) (by kernel_rfl) (by kernel_rfl) (fun _ _ _ h => h) (Or.inl ⟨by rfl, ?_⟩) (by assumption) ?_
          rotate_left
          · intro w hSw; go_simp; try with_reducible rfl
          go_simp
          refine wpAnyH_ready (rs := [19]) (by kernel_rfl) (by simp) ?_
          refine AllReadyH.cons rfl (fun K hK => ?_) AllReadyH.nil
          go_simp
          refine hK.out _ _ trivial (fun hHeld => ?_)
          clear hK K
          refine wpAnyH_done (by kernel_rfl) ?_ _
          have PY := Lib.hid (show Rp w0 gm sb ⟨m.c, ⟨a0, a1, a2, a3⟩, (m.f.take i ++ m.f.drop (i + 1))⟩ (.slice ad4 L2 c4) (w4.setCell ⟨gm, 1, none⟩ (.slice ad4 L2 c4)) from RF.out.1)
          have AY := Lib.hid (A9.out.trans RF.out.2)
          have BY := Lib.hid (RF.out.2.row B9.out (NOB.out _ LQ.out))
          have ZY := Lib.hid (RF.out.2.row Z9.out (NOB.out _ (Nat.le_refl _)))
          have TY := Lib.hid (RF.out.2.row T9.out (NOB.out _ (Nat.le_succ _)))
          have NBY := Lib.hid (fun b (h1 : w.heap.size ≤ b) (h2 : b < X9.heap.size) => (fun q => (RF.out.2.own b q).elim (NOB.out b h1) (fun q => absurd h2 (by omega)) : ¬ Orf gm sb (.slice ad4 L2 c4) b))
          obtain ⟨YY, hY⟩ : ∃ Y, (w4.setCell ⟨gm, 1, none⟩ (.slice ad4 L2 c4)) = Y := ⟨_, rfl⟩
          rw [hY] at PY AY BY ZY TY
          rw [hY]
          have LZY := Lib.hid (old_of_row ZY.out)
          clear hY x0 x1 fz
          obtain ⟨x0, x1, x2, x3, x4, x5, x6, x7⟩ := cells_8 BY.out
          obtain ⟨u0, u1⟩ := cells_2M TY.out
          go_wp2_with (go_at_call 72; (with_reducible refine (HPT.out _ _ PY.out).mono ?_); rintro e' w8 ⟨rfl, v', hp, ha⟩; have P8 := Lib.hid hp; have A8 := Lib.hid (AY.out.trans ha); have NO := Lib.hid (show ¬ Orf gm sb v' w.heap.size from fun q => (ha.own _ q).elim (NBY.out _ (Nat.le_refl _) LZ9.out) (fun q => by have := LZY.out; omega)); have B8 := Lib.hid (ha.row BY.out (NBY.out _ LQ.out LB9.out)); have Z8 := Lib.hid (ha.row ZY.out (NBY.out _ (Nat.le_refl _) LZ9.out)); obtain ⟨s0, s1, s2, s3, s4, s5, s6, s7⟩ := cells_8 B8.out; obtain ⟨r0, r1, r2, r3, r4, r5, r6, r7⟩ := cells_8 Z8.out; have fz8 := frozN Z8.out; clear hp ha)
          refine bodyPost_ret (results_row_tmpT (p := 6) (u := 7) rfl _ _ w.heap.size 33 _ (0, 0) _ rfl (set_8 _ _ _ _ _ _ _ _ Z8.out) Tryd.underlying33 rfl (by kernel_rfl)) rfl ?_
          exact ⟨rfl, v', P8.out.stay (fun b hb => set_8_eq (fun q => NO.out (q ▸ hb))), set_8_asd A8.out (Nat.le_refl _)⟩
      · go_simp
        refine hK.out _ _ trivial (fun hHeld => ?_)
        clear hK K
        refine wpAnyH_take (i := 15) (v := ?_) rfl (by kernel_rfl) (by kernel_rfl) (by kernel_rfl) (fun _ _ _ h => h) (Or.inl ⟨by rfl, ?_⟩) (by assumption) ?_
        rotate_left
        · intro w hSw; go_simp; try with_reducible rfl
        go_simp
        refine wpAnyH_ready (rs := [1]) (by kernel_rfl) (by simp) ?_
        refine AllReadyH.cons rfl (fun K hK => ?_) AllReadyH.nil
        go_simp
        try rw [HSE.out]
        try rw [HWE.out]
        refine hK.out _ _ trivial (fun hHeld => ?_)
        clear hK K
        refine wpAnyH_ready (rs := [8]) (by kernel_rfl) (by simp) ?_
        refine AllReadyH.consLR rfl (fun K hK => ?_) AllReadyH.nil
        go_simp
        refine wpList_append_flr _ rfl _ _ rfl sE _ _ _ rfl O1.out _ (m.f.take i) rfl P1.out ?f1 ?f2 ?_
        case f1 => have := HI.out; have := HN.out; simp; omega
        case f2 => have := O1.out.lt sE rfl; omega
        rintro v3 w3 ho hg hb
        rw [HTI.out, Nat.zero_add, List.nil_append] at ho
        obtain ⟨ad3, c3, rfl⟩ := own_formR ho
        have K3 := Lib.hid (show Kp X9 w3 from Below.grown KE.out hg (Below.size KE.out) (fun k hk => by have := (O1.out.lt k hk).1; have := SE.out; omega))
        have O3 := Lib.hid ho
        have S3 := Lib.hid (show sE ≤ w3.heap.size from Nat.le_trans (by have := O1.out.lt sE rfl; omega) hg.size)
        have P3 := Lib.hid (P2.out.kp (show Kp wD w3 from Below.grown KDE.out hg (Below.size KDE.out) (fun k hk => by have := (O1.out.lt k hk).1; have := HSE.out; omega)))
        have e13 := kp_cell K3.out (cells_2R HS.out.row).2
        clear ho hg hb
        refine hK.out _ _ trivial (fun hHeld => ?_)
        clear hK K
        refine wpAnyH_ready (rs := [16]) (by kernel_rfl) (by simp) ?_
        refine AllReadyH.consLR rfl (fun K hK => ?_) AllReadyH.nil
        go_simp
        refine wpList_append_flr _ rfl _ _ rfl sE _ _ _ rfl O3.out _ (m.f.drop (i + 1)) rfl P3.out ?f3 ?f4 ?_
        case f3 => have := HI.out; have := HN.out; simp; omega
        case f4 => exact S3.out
        rintro v4 w4 ho hg hb
        rw [HL2.out] at ho
        obtain ⟨ad4, c4, rfl⟩ := own_formR ho
        have K4 := Lib.hid (show Kp X9 w4 from Below.grown K3.out hg (Below.size K3.out) (fun k hk => by have := (O3.out.lt k hk).1; have := SE.out; omega))
        have RF := Lib.hid (HS.out.fly K4.out (w3 := w4) (L := L2) ⟨rfl, rfl, rfl, Nat.le_refl _, fun _ _ _ => rfl⟩ (f := m.f.take i ++ m.f.drop (i + 1)) (by rw [List.length_append, HTI.out, HL2.out]) (by rw [flyB_app]; exact own_baseR (base := sE) ho (Nat.le_trans HS.out.bg (Nat.le_trans (Nat.le_of_lt (old_of_row HS.out.row)) SE.out))) (fun b q => .inr (by have := (ho.lt b q).1; have := SE.out; omega)))
        have r4 := kp_row K4.out HS.out.row
        obtain ⟨x0, x1⟩ := cells_2R r4
        have fz := frozN r4
        clear ho hg hb r4
        refine hK.out _ _ trivial (fun hHeld => ?_)
        clear hK K
        refine wpAnyH_take (i := 17) (v := ?_) rfl (by kernel_rfl) (by kernel_rfl) (by kernel_rfl) (fun _ _ _ h => h) (Or.inl ⟨by rfl, ?_⟩) (by assumption) ?_
        rotate_left
        · intro w hSw; go_simp; try with_reducible rfl
        go_simp
        refine wpAnyH_take (i := 18) (v := ?_) rfl (by kernel_rfl) (by kernel_rfl) (by kernel_rfl) (fun _ _ _ h => h) (Or.inl ⟨by rfl, ?_⟩) (by assumption) ?_
        rotate_left
        · intro w hSw; go_simp; try with_reducible rfl
        go_simp
        refine wpAnyH_ready (rs := [19]) (by kernel_rfl) (by simp) ?_
        refine AllReadyH.cons rfl (fun K hK => ?_) AllReadyH.nil
        go_simp
        refine hK.out _ _ trivial (fun hHeld => ?_)
        clear hK K
        refine wpAnyH_done (by kernel_rfl) ?_ _
        have PY := Lib.hid (show Rp w0 gm sb ⟨m.c, ⟨a0, a1, a2, a3⟩, (m.f.take i ++ m.f.drop (i + 1))⟩ (.slice ad4 L2 c4) (w4.setCell ⟨gm, 1, none⟩ (.slice ad4 L2 c4)) from RF.out.1)
        have AY := Lib.hid (A9.out.trans RF.out.2)
        have BY := Lib.hid (RF.out.2.row B9.out (NOB.out _ LQ.out))
        have ZY := Lib.hid (RF.out.2.row Z9.out (NOB.out _ (Nat.le_refl _)))
        have TY := Lib.hid (RF.out.2.row T9.out (NOB.out _ (Nat.le_succ _)))
        have NBY := Lib.hid (fun b (h1 : w.heap.size ≤ b) (h2 : b < X9.heap.size) => (fun q => (RF.out.2.own b q).elim (NOB.out b h1) (fun q => absurd h2 (by omega)) : ¬ Orf gm sb (.slice ad4 L2 c4) b))
        obtain ⟨YY, hY⟩ : ∃ Y, (w4.setCell ⟨gm, 1, none⟩ (.slice ad4 L2 c4)) = Y := ⟨_, rfl⟩
        rw [hY] at PY AY BY ZY TY
        rw [hY]
        have LZY := Lib.hid (old_of_row ZY.out)
        clear hY x0 x1 fz
        obtain ⟨x0, x1, x2, x3, x4, x5, x6, x7⟩ := cells_8 BY.out
        obtain ⟨u0, u1⟩ := cells_2M TY.out
        go_wp2_with (go_at_call 72; (with_reducible refine (HPT.out _ _ PY.out).mono ?_); rintro e' w8 ⟨rfl, v', hp, ha⟩; have P8 := Lib.hid hp; have A8 := Lib.hid (AY.out.trans ha); have NO := Lib.hid (show ¬ Orf gm sb v' w.heap.size from fun q => (ha.own _ q).elim (NBY.out _ (Nat.le_refl _) LZ9.out) (fun q => by have := LZY.out; omega)); have B8 := Lib.hid (ha.row BY.out (NBY.out _ LQ.out LB9.out)); have Z8 := Lib.hid (ha.row ZY.out (NBY.out _ (Nat.le_refl _) LZ9.out)); obtain ⟨s0, s1, s2, s3, s4, s5, s6, s7⟩ := cells_8 B8.out; obtain ⟨r0, r1, r2, r3, r4, r5, r6, r7⟩ := cells_8 Z8.out; have fz8 := frozN Z8.out; clear hp ha)
        refine bodyPost_ret (results_row_tmpT (p := 6) (u := 7) rfl _ _ w.heap.size 33 _ (0, 0) _ rfl (set_8 _ _ _ _ _ _ _ _ Z8.out) Tryd.underlying33 rfl (by kernel_rfl)) rfl ?_
        exact ⟨rfl, v', P8.out.stay (fun b hb => set_8_eq (fun q => NO.out (q ▸ hb))), set_8_asd A8.out (Nat.le_refl _)⟩
    · go_simp
      refine hK.out _ _ trivial (fun hHeld => ?_)
      clear hK K
      refine wpAnyH_take (i := 15) (v := ?_) rfl (by kernel_rfl) (by kernel_rfl) (by kernel_rfl) (fun _ _ _ h => h) (Or.inl ⟨by rfl, ?_⟩) (by assumption) ?_
      rotate_left
      · intro w hSw; go_simp; try with_reducible rfl
      go_simp
      refine wpAnyH_ready (rs := [1, 5]) (by kernel_rfl) (by simp) ?_
      refine AllReadyH.cons rfl (fun K hK => ?_) (AllReadyH.cons rfl (fun K hK => ?_) AllReadyH.nil)
      · go_simp
        try rw [HSE.out]
        try rw [HWE.out]
        refine hK.out _ _ trivial (fun hHeld => ?_)
        clear hK K
        refine wpAnyH_ready (rs := [5]) (by kernel_rfl) (by simp) ?_
        refine AllReadyH.cons rfl (fun K hK => ?_) AllReadyH.nil
        go_simp
        refine hK.out _ _ trivial (fun hHeld => ?_)
        clear hK K
        refine wpAnyH_take (i := 7) (v := ?_) rfl (by kernel_rfl) (by kernel_rfl) (by kernel_rfl) (fun _ _ _ h => h) (Or.inl ⟨by rfl, ?_⟩) (by assumption) ?_
        rotate_left
        · intro w hSw; go_simp; try with_reducible rfl
        go_simp
        refine wpAnyH_ready (rs := [8]) (by kernel_rfl) (by simp) ?_
        refine AllReadyH.consLR rfl (fun K hK => ?_) AllReadyH.nil
        go_simp
        refine wpList_append_flr _ rfl _ _ rfl sE _ _ _ rfl O1.out _ (m.f.take i) rfl P1.out ?f1 ?f2 ?_
        case f1 => have := HI.out; have := HN.out; simp; omega
        case f2 => have := O1.out.lt sE rfl; omega
        rintro v3 w3 ho hg hb
        rw [HTI.out, Nat.zero_add, List.nil_append] at ho
        obtain ⟨ad3, c3, rfl⟩ := own_formR ho
        have K3 := Lib.hid (show Kp X9 w3 from Below.grown KE.out hg (Below.size KE.out) (fun k hk => by have := (O1.out.lt k hk).1; have := SE.out; omega))
        have O3 := Lib.hid ho
        have S3 := Lib.hid (show sE ≤ w3.heap.size from Nat.le_trans (by have := O1.out.lt sE rfl; omega) hg.size)
        have P3 := Lib.hid (P2.out.kp (show Kp wD w3 from Below.grown KDE.out hg (Below.size KDE.out) (fun k hk => by have := (O1.out.lt k hk).1; have := HSE.out; omega)))
        have e13 := kp_cell K3.out (cells_2R HS.out.row).2
        clear ho hg hb
        refine hK.out _ _ trivial (fun hHeld => ?_)
        clear hK K
        refine wpAnyH_ready (rs := [16]) (by kernel_rfl) (by simp) ?_
        refine AllReadyH.consLR rfl (fun K hK => ?_) AllReadyH.nil
        go_simp
        refine wpList_append_flr _ rfl _ _ rfl sE _ _ _ rfl O3.out _ (m.f.drop (i + 1)) rfl P3.out ?f3 ?f4 ?_
        case f3 => have := HI.out; have := HN.out; simp; omega
        case f4 => exact S3.out
        rintro v4 w4 ho hg hb
        rw [HL2.out] at ho
        obtain ⟨ad4, c4, rfl⟩ := own_formR ho
        have K4 := Lib.hid (show Kp X9 w4 from Below.grown K3.out hg (Below.size K3.out) (fun k hk => by have := (O3.out.lt k hk).1; have := SE.out; omega))
        have RF := Lib.hid (HS.out.fly K4.out (w3 := w4) (L := L2) ⟨rfl, rfl, rfl, Nat.le_refl _, fun _ _ _ => rfl⟩ (f := m.f.take i ++ m.f.drop (i + 1)) (by rw [List.length_append, HTI.out, HL2.out]) (by rw [flyB_app]; exact own_baseR (base := sE) ho (Nat.le_trans HS.out.bg (Nat.le_trans (Nat.le_of_lt (old_of_row HS.out.row)) SE.out))) (fun b q => .inr (by have := (ho.lt b q).1; have := SE.out; omega)))
        have r4 := kp_row K4.out HS.out.row
        obtain ⟨x0, x1⟩ := cells_2R r4
        have fz := frozN r4
        clear ho hg hb r4
        refine hK.out _ _ trivial (fun hHeld => ?_)
        clear hK K
        refine wpAnyH_take (i := 17) (v := ?_) rfl (by kernel_rfl) (by kernel_rfl) (by kernel_rfl) (fun _ _ _ h => h) (Or.inl ⟨by rfl, ?_⟩) (by assumption) ?_
        rotate_left
        · intro w hSw; go_simp; try with_reducible rfl
        go_simp
        refine wpAnyH_take (i := 18) (v := ?_) rfl (by kernel_rfl) (by kernel_rfl) (by kernel_rfl) (fun _ _ _ h => h) (Or.inl ⟨by rfl, ?_⟩) (by assumption) ?_
        rotate_left
        · intro w hSw; go_simp; try with_reducible rfl
        go_simp
        refine wpAnyH_ready (rs := [19]) (by kernel_rfl) (by simp) ?_
        refine AllReadyH.cons rfl (fun K hK => ?_) AllReadyH.nil
        go_simp
        refine hK.out _ _ trivial (fun hHeld => ?_)
        clear hK K
        refine wpAnyH_done (by kernel_rfl) ?_ _
        have PY := Lib.hid (show Rp w0 gm sb ⟨m.c, ⟨a0, a1, a2, a3⟩, (m.f.take i ++ m.f.drop (i + 1))⟩ (.slice ad4 L2 c4) (w4.setCell ⟨gm, 1, none⟩ (.slice ad4 L2 c4)) from RF.out.1)
        have AY := Lib.hid (A9.out.trans RF.out.2)
        have BY := Lib.hid (RF.out.2.row B9.out (NOB.out _ LQ.out))
        have ZY := Lib.hid (RF.out.2.row Z9.out (NOB.out _ (Nat.le_refl _)))
        have TY := Lib.hid (RF.out.2.row T9.out (NOB.out _ (Nat.le_succ _)))
        have NBY := Lib.hid (fun b (h1 : w.heap.size ≤ b) (h2 : b < X9.heap.size) => (fun q => (RF.out.2.own b q).elim (NOB.out b h1) (fun q => absurd h2 (by omega)) : ¬ Orf gm sb (.slice ad4 L2 c4) b))
        obtain ⟨YY, hY⟩ : ∃ Y, (w4.setCell ⟨gm, 1, none⟩ (.slice ad4 L2 c4)) = Y := ⟨_, rfl⟩
        rw [hY] at PY AY BY ZY TY
        rw [hY]
        have LZY := Lib.hid (old_of_row ZY.out)
        clear hY x0 x1 fz
        obtain ⟨x0, x1, x2, x3, x4, x5, x6, x7⟩ := cells_8 BY.out
        obtain ⟨u0, u1⟩ := cells_2M TY.out
        go_wp2_with (go_at_call 72; (with_reducible refine (HPT.out _ _ PY.out).mono ?_); rintro e' w8 ⟨rfl, v', hp, ha⟩; have P8 := Lib.hid hp; have A8 := Lib.hid (AY.out.trans ha); have NO := Lib.hid (show ¬ Orf gm sb v' w.heap.size from fun q => (ha.own _ q).elim (NBY.out _ (Nat.le_refl _) LZ9.out) (fun q => by have := LZY.out; omega)); have B8 := Lib.hid (ha.row BY.out (NBY.out _ LQ.out LB9.out)); have Z8 := Lib.hid (ha.row ZY.out (NBY.out _ (Nat.le_refl _) LZ9.out)); obtain ⟨s0, s1, s2, s3, s4, s5, s6, s7⟩ := cells_8 B8.out; obtain ⟨r0, r1, r2, r3, r4, r5, r6, r7⟩ := cells_8 Z8.out; have fz8 := frozN Z8.out; clear hp ha)
        refine bodyPost_ret (results_row_tmpT (p := 6) (u := 7) rfl _ _ w.heap.size 33 _ (0, 0) _ rfl (set_8 _ _ _ _ _ _ _ _ Z8.out) Tryd.underlying33 rfl (by kernel_rfl)) rfl ?_
        exact ⟨rfl, v', P8.out.stay (fun b hb => set_8_eq (fun q => NO.out (q ▸ hb))), set_8_asd A8.out (Nat.le_refl _)⟩
      · go_simp
        refine hK.out _ _ trivial (fun hHeld => ?_)
        clear hK K
        refine wpAnyH_take (i := 7) (v := ?_) rfl (by kernel_rfl) (by kernel_rfl) (by kernel_rfl) (fun _ _ _ h => h) (Or.inl ⟨by rfl, ?_⟩) (by assumption) ?_
        rotate_left
        · intro w hSw; go_simp; try with_reducible rfl
        go_simp
        refine wpAnyH_ready (rs := [1]) (by kernel_rfl) (by simp) ?_
        refine AllReadyH.cons rfl (fun K hK => ?_) AllReadyH.nil
        go_simp
        try rw [HSE.out]
        try rw [HWE.out]
        refine hK.out _ _ trivial (fun hHeld => ?_)
        clear hK K
        refine wpAnyH_ready (rs := [8]) (by kernel_rfl) (by simp) ?_
        refine AllReadyH.consLR rfl (fun K hK => ?_) AllReadyH.nil
        go_simp
        refine wpList_append_flr _ rfl _ _ rfl sE _ _ _ rfl O1.out _ (m.f.take i) rfl P1.out ?f1 ?f2 ?_
        case f1 => have := HI.out; have := HN.out; simp; omega
        case f2 => have := O1.out.lt sE rfl; omega
        rintro v3 w3 ho hg hb
        rw [HTI.out, Nat.zero_add, List.nil_append] at ho
        obtain ⟨ad3, c3, rfl⟩ := own_formR ho
        have K3 := Lib.hid (show Kp X9 w3 from Below.grown KE.out hg (Below.size KE.out) (fun k hk => by have := (O1.out.lt k hk).1; have := SE.out; omega))
        have O3 := Lib.hid ho
        have S3 := Lib.hid (show sE ≤ w3.heap.size from Nat.le_trans (by have := O1.out.lt sE rfl; omega) hg.size)
        have P3 := Lib.hid (P2.out.kp (show Kp wD w3 from Below.grown KDE.out hg (Below.size KDE.out) (fun k hk => by have := (O1.out.lt k hk).1; have := HSE.out; omega)))
        have e13 := kp_cell K3.out (cells_2R HS.out.row).2
        clear ho hg hb
        refine hK.out _ _ trivial (fun hHeld => ?_)
        clear hK K
        refine wpAnyH_ready (rs := [16]) (by kernel_rfl) (by simp) ?_
        refine AllReadyH.consLR rfl (fun K hK => ?_) AllReadyH.nil
        go_simp
        refine wpList_append_flr _ rfl _ _ rfl sE _ _ _ rfl O3.out _ (m.f.drop (i + 1)) rfl P3.out ?f3 ?f4 ?_
        case f3 => have := HI.out; have := HN.out; simp; omega
        case f4 => exact S3.out
        rintro v4 w4 ho hg hb
        rw [HL2.out] at ho
        obtain ⟨ad4, c4, rfl⟩ := own_formR ho
        have K4 := Lib.hid (show Kp X9 w4 from Below.grown K3.out hg (Below.size K3.out) (fun k hk => by have := (O3.out.lt k hk).1; have := SE.out; omega))
        have RF := Lib.hid (HS.out.fly K4.out (w3 := w4) (L := L2) ⟨rfl, rfl, rfl, Nat.le_refl _, fun _ _ _ => rfl⟩ (f := m.f.take i ++ m.f.drop (i + 1)) (by rw [List.length_append, HTI.out, HL2.out]) (by rw [flyB_app]; exact own_baseR (base := sE) ho (Nat.le_trans HS.out.bg (Nat.le_trans (Nat.le_of_lt (old_of_row HS.out.row)) SE.out))) (fun b q => .inr (by have := (ho.lt b q).1; have := SE.out; omega)))
        have r4 := kp_row K4.out HS.out.row
        obtain ⟨x0, x1⟩ := cells_2R r4
        have fz := frozN r4
        clear ho hg hb r4
        refine hK.out _ _ trivial (fun hHeld => ?_)
        clear hK K
        refine wpAnyH_take (i := 17) (v := ?_) rfl (by kernel_rfl) (by kernel_rfl) (by kernel_rfl) (fun _ _ _ h => h) (Or.inl ⟨by rfl, ?_⟩) (by assumption) ?_
        rotate_left
        · intro w hSw; go_simp; try with_reducible rfl
        go_simp
        refine wpAnyH_take (i := 18) (v := ?_) rfl (by kernel_rfl) (by kernel_rfl) (by kernel_rfl) (fun _ _ _ h => h) (Or.inl ⟨by rfl, ?_⟩) (by assumption) ?_
        rotate_left
        · intro w hSw; go_simp; try with_reducible rfl
        go_simp
        refine wpAnyH_ready (rs := [19]) (by kernel_rfl) (by simp) ?_
        refine AllReadyH.cons rfl (fun K hK => ?_) AllReadyH.nil
        go_simp
        refine hK.out _ _ trivial (fun hHeld => ?_)
        clear hK K
        refine wpAnyH_done (by kernel_rfl) ?_ _
        have PY := Lib.hid (show Rp w0 gm sb ⟨m.c, ⟨a0, a1, a2, a3⟩, (m.f.take i ++ m.f.drop (i + 1))⟩ (.slice ad4 L2 c4) (w4.setCell ⟨gm, 1, none⟩ (.slice ad4 L2 c4)) from RF.out.1)
        have AY := Lib.hid (A9.out.trans RF.out.2)
        have BY := Lib.hid (RF.out.2.row B9.out (NOB.out _ LQ.out))
        have ZY := Lib.hid (RF.out.2.row Z9.out (NOB.out _ (Nat.le_refl _)))
        have TY := Lib.hid (RF.out.2.row T9.out (NOB.out _ (Nat.le_succ _)))
        have NBY := Lib.hid (fun b (h1 : w.heap.size ≤ b) (h2 : b < X9.heap.size) => (fun q => (RF.out.2.own b q).elim (NOB.out b h1) (fun q => absurd h2 (by omega)) : ¬ Orf gm sb (.slice ad4 L2 c4) b))
        obtain ⟨YY, hY⟩ : ∃ Y, (w4.setCell ⟨gm, 1, none⟩ (.slice ad4 L2 c4)) = Y := ⟨_, rfl⟩
        rw [hY] at PY AY BY ZY TY
        rw [hY]
        have LZY := Lib.hid (old_of_row ZY.out)
        clear hY x0 x1 fz
        obtain ⟨x0, x1, x2, x3, x4, x5, x6, x7⟩ := cells_8 BY.out
        obtain ⟨u0, u1⟩ := cells_2M TY.out
        go_wp2_with (go_at_call 72; (with_reducible refine (HPT.out _ _ PY.out).mono ?_); rintro e' w8 ⟨rfl, v', hp, ha⟩; have P8 := Lib.hid hp; have A8 := Lib.hid (AY.out.trans ha); have NO := Lib.hid (show ¬ Orf gm sb v' w.heap.size from fun q => (ha.own _ q).elim (NBY.out _ (Nat.le_refl _) LZ9.out) (fun q => by have := LZY.out; omega)); have B8 := Lib.hid (ha.row BY.out (NBY.out _ LQ.out LB9.out)); have Z8 := Lib.hid (ha.row ZY.out (NBY.out _ (Nat.le_refl _) LZ9.out)); obtain ⟨s0, s1, s2, s3, s4, s5, s6, s7⟩ := cells_8 B8.out; obtain ⟨r0, r1, r2, r3, r4, r5, r6, r7⟩ := cells_8 Z8.out; have fz8 := frozN Z8.out; clear hp ha)
        refine bodyPost_ret (results_row_tmpT (p := 6) (u := 7) rfl _ _ w.heap.size 33 _ (0, 0) _ rfl (set_8 _ _ _ _ _ _ _ _ Z8.out) Tryd.underlying33 rfl (by kernel_rfl)) rfl ?_
        exact ⟨rfl, v', P8.out.stay (fun b hb => set_8_eq (fun q => NO.out (q ▸ hb))), set_8_asd A8.out (Nat.le_refl _)⟩
  · go_simp
    refine hK.out _ _ (Kp.trans hHeld (kp_alloc _ _)) (fun hHeld => ?_)
    clear hK K
    refine wpAnyH_ready (rs := [11]) (by kernel_rfl) (by simp) ?_
    refine AllReadyH.cons rfl (fun K hK => ?_) AllReadyH.nil
    go_simp
    go_wp2_with (go_at_call 11; (with_reducible refine (HT.out _).mono ?_); rintro e' w6 ⟨rfl, hk6⟩; have K6 := Lib.hid (Kp.trans hHeld hk6); have HKT := Lib.hid hk6; clear hk6)
    refine hK.out _ _ ?_ (fun hHeld => ?_)
    · exact K6.out
    clear hK K
    refine wpAnyH_take (i := 12) (v := ?_) rfl (by kernel_rfl) (by kernel_rfl) (by kernel_rfl) (fun _ _ _ h => h) (Or.inl ⟨by rfl, ?_⟩) (by assumption) ?_
    rotate_left
    · intro w hSw; go_simp; try with_reducible rfl
    go_simp
    refine wpAnyH_take (i := 13) (v := ?_) rfl (by kernel_rfl) (by kernel_rfl) (by kernel_rfl) (fun _ _ _ h => h) (Or.inl ⟨by rfl, ?_⟩) (by assumption) ?_
    rotate_left
    · intro w hSw; go_simp; try with_reducible rfl
    go_simp
    refine wpAnyH_take (i := 14) (v := ?_) rfl (by kernel_rfl) (by kernel_rfl) (by kernel_rfl) (fun _ _ _ h => h) (Or.inl ⟨by rfl, ?_⟩) (by assumption) ?_
    rotate_left
    · intro w hSw; go_simp; try with_reducible rfl
    go_simp
    have BR := Lib.hid (kp_row HKT.out (show (W.alloc (.cells #[.int .i64 0, .int .i64 0, .int .i64 0, .int .i64 0, .int .i64 0, .int .i64 0, .int .i64 0, .bool false] 33)).drew.heap[W.heap.size]? = some (.cells #[.int .i64 0, .int .i64 0, .int .i64 0, .int .i64 0, .int .i64 0, .int .i64 0, .int .i64 0, .bool false] 33) from (MapKept.heap_alloc W (.cells #[.int .i64 0, .int .i64 0, .int .i64 0, .int .i64 0, .int .i64 0, .int .i64 0, .int .i64 0, .bool false] 33)).1))
    obtain ⟨z0, z1, z2, z3, z4, z5, z6, z7⟩ := cells_8 BR.out
    have fzz := frozN BR.out
    refine wpAnyH_ready (rs := [16]) (by kernel_rfl) (by simp) ?_
    refine AllReadyH.cons rfl (fun K hK => ?_) AllReadyH.nil
    go_simp
    refine hK.out _ _ ?_ (fun hHeld => ?_)
    · exact set_8_kp K6.out (Nat.le_refl _) _ _ _ _ _ _ _ _
    clear hK K z0 z1 z2 z3 z4 z5 z6 z7 fzz
    refine wpAnyH_take (i := 17) (v := ?_) rfl (by kernel_rfl) (by kernel_rfl) (by kernel_rfl) (fun _ _ _ h => h) (Or.inl ⟨by rfl, ?_⟩) (by assumption) ?_
    rotate_left
    · intro w hSw; go_simp; try with_reducible rfl
    go_simp
    refine wpAnyH_done (by kernel_rfl) ?_ _
    obtain ⟨X, hX⟩ : ∃ X, ((((((((w6.setCell ⟨W.heap.size, 0, none⟩ (.int .i64 a0)).setCell ⟨W.heap.size, 1, none⟩ (.int .i64 a1)).setCell ⟨W.heap.size, 2, none⟩ (.int .i64 a2)).setCell ⟨W.heap.size, 3, none⟩ (.int .i64 a3)).setCell ⟨W.heap.size, 4, none⟩ (.int .i64 b1)).setCell ⟨W.heap.size, 5, none⟩ (.int .i64 b2)).setCell ⟨W.heap.size, 6, none⟩ (.int .i64 b3)).setCell ⟨W.heap.size, 7, none⟩ (.bool b4)) = X := ⟨_, rfl⟩
    obtain ⟨qB, hqB⟩ : ∃ q, W.heap.size = q := ⟨_, rfl⟩
    have KX := Lib.hid (show Kp W X from hX ▸ hHeld)
    have TX := Lib.hid (kp_row KX.out TW.out)
    have BX := Lib.hid (show X.heap[qB]? = some (.cells #[.int .i64 a0, .int .i64 a1, .int .i64 a2, .int .i64 a3, .int .i64 b1, .int .i64 b2, .int .i64 b3, .bool b4] 33) by rw [← hX, ← hqB]; exact set_8 _ _ _ _ _ _ _ _ BR.out)
    have LW := Lib.hid (show W.heap.size ≤ qB by rw [← hqB]; exact Nat.le_refl _)
    try rw [hX]
    try rw [hqB]
    clear hX hqB hHeld
    have AX := Lib.hid (Asd.of_kp (Orf gm sb (.slice (some ⟨bv, 0, none⟩) n cp)) (Kp.trans KW.out KX.out))
    have ZX := Lib.hid (kp_row KX.out ZW.out)
    have HX := Lib.hid (HH.out.kp (Kp.trans KW.out KX.out))
    have LQ := Lib.hid (show w.heap.size ≤ qB by have := LW.out; have := WS.out; omega)
    obtain ⟨x0, x1, x2, x3, x4, x5, x6, x7⟩ := cells_8 BX.out
    obtain ⟨u0, u1⟩ := cells_2M TX.out
    obtain ⟨j0, j1⟩ := cells_2R HX.out.row
    obtain ⟨s0, s1, s2, s3, s4, s5, s6, s7⟩ := cells_8 HX.out.seats
    have fs := frozN HX.out.seats
    go_wp2
    go_region
    have sx := HX.out.seat2 ⟨a0, a1, a2, a3⟩
    dsimp only at sx
    obtain ⟨X9, hX9⟩ : ∃ X9, ((((X.setCell ⟨sb, 4, none⟩ (.int .i64 a0)).setCell ⟨sb, 5, none⟩ (.int .i64 a1)).setCell ⟨sb, 6, none⟩ (.int .i64 a2)).setCell ⟨sb, 7, none⟩ (.int .i64 a3)).drew = X9 := ⟨_, rfl⟩
    have HS := Lib.hid (show Rp w0 gm sb ⟨m.c, ⟨a0, a1, a2, a3⟩, m.f⟩ (.slice (some ⟨bv, 0, none⟩) n cp) X9 by rw [← hX9]; exact sx.1.drew)
    have a9 : Asd (Orf gm sb (.slice (some ⟨bv, 0, none⟩) n cp)) (Orf gm sb (.slice (some ⟨bv, 0, none⟩) n cp)) X X9 := by rw [← hX9]; exact sx.2.drewR
    have A9 := Lib.hid (AX.out.trans a9)
    have B9 := Lib.hid (a9.row BX.out (NOB.out _ LQ.out))
    have Z9 := Lib.hid (a9.row ZX.out (NOB.out _ (Nat.le_refl _)))
    have T9 := Lib.hid (a9.row TX.out (NOB.out _ (Nat.le_succ _)))
    have LB9 := Lib.hid (old_of_row B9.out)
    have LZ9 := Lib.hid (old_of_row Z9.out)
    rw [hX9]
    clear sx hX9 a9 x0 x1 x2 x3 x4 x5 x6 x7 u0 u1 j0 j1 s0 s1 s2 s3 s4 s5 s6 s7 fs
    obtain ⟨hii, hi, hl, hn, hnc⟩ := PK.out
    have kD : Kp X9 (X9).drew := kp_drewM (Kp.refl _)
    obtain ⟨wD, hwD⟩ : ∃ x, (X9).drew = x := ⟨_, rfl⟩
    rw [hwD] at kD
    have RD := HS.out.kp kD
    have ownD := RD.own
    rw [show PairM.f _ = m.f from rfl, hn] at ownD
    obtain ⟨jj, hjj⟩ : ∃ jj : Int, ii + 1 = jj := ⟨_, rfl⟩
    have sh := fun w => flyR_head (b := bv) hii (Nat.le_of_lt hi) hnc w
    have st := fun w => flyR_tail (b := bv) (cp := cp) (i := i + 1) (ii := jj) (n := n) (by omega) (by omega) w
    obtain ⟨at2, hat⟩ : ∃ x : Nat, (if cp = i + 1 then 0 else (i + 1) * 2) = x := ⟨_, rfl⟩
    rw [hat] at st
    have p1 := own_takeF ownD (Nat.le_of_lt hi)
    have p2 := own_dropF ownD (i := i + 1) (by omega) ⟨bv, at2, none⟩ (fun q => by rw [← hat, if_neg (by omega)]) (cp - (i + 1))
    obtain ⟨q2, hq2⟩ : ∃ x, n - (i + 1) = x := ⟨_, rfl⟩
    obtain ⟨q3, hq3⟩ : ∃ x, cp - (i + 1) = x := ⟨_, rfl⟩
    rw [hq2, hq3] at st p2
    have hwj : IntKind.i64.wrap jj = jj := IntWalk.i64_in jj (by omega)
    have i0 : 0 ≤ ii := by omega
    have i1 : ii ≤ 1000 := by omega
    obtain ⟨-, e1D⟩ := cells_2R RD.row
    have kE := kp_alloc wD (.cells #[] 57)
    have e1E := kp_cell kE e1D
    have O1 := Lib.hid (show (wD.alloc (.cells #[] 57)).ownsRow wD.heap.size 57 2 (.slice (some ⟨wD.heap.size, 0, none⟩) 0 0) 0 [] from ⟨by simp, Or.inr ⟨wD.heap.size, 0, #[], rfl, Nat.le_refl _, (MapKept.heap_alloc wD _).1, Nat.le_refl _, by omega, by simp, by simp⟩⟩)
    have P1 := Lib.hid (p1.kp kE)
    have P2 := Lib.hid p2
    obtain ⟨wE, hwE⟩ : ∃ x, wD.alloc (.cells #[] 57) = x := ⟨_, rfl⟩
    obtain ⟨sE, hsE⟩ : ∃ x, wD.heap.size = x := ⟨_, rfl⟩
    rw [hwE] at kE e1E O1 P1
    rw [hsE] at O1
    have KE := Lib.hid (Kp.trans kD kE)
    have KDE := Lib.hid kE
    have SE := Lib.hid (show X9.heap.size ≤ sE by rw [← hsE]; exact Below.size kD)
    have HWD := Lib.hid hwD
    have HWE := Lib.hid hwE
    have HSE := Lib.hid hsE
    have HN := Lib.hid hn
    have HQ2 := Lib.hid hq2
    have HI := Lib.hid (And.intro hi hl)
    have HTI := Lib.hid (show (m.f.take i).length = i by rw [List.length_take]; omega)
    obtain ⟨L2, hL2⟩ : ∃ L, i + (m.f.drop (i + 1)).length = L := ⟨_, rfl⟩
    have HL2 := Lib.hid hL2
    clear hL2 kD RD ownD hat p1 p2 hq2 hq3 kE hwD hwE hsE
    clear hi hl hn hnc
    go_wp2_with fail
    refine wp_region_held_drew (S := fun _ => True) (by kernel_rfl) ?_ (fun hHeld => ?_)
    · exact trivial
    rw [HWD.out]
    refine wpAnyH_take (i := 0) (v := ?_) rfl (by kernel_rfl) (by kernel_rfl) (by kernel_rfl) (fun _ _ _ h => h) (Or.inl ⟨by rfl, ?_⟩) (by assumption) ?_
    rotate_left
    · intro w hSw; go_simp; try with_reducible rfl
    go_simp
    refine wpAnyH_take (i := 2) (v := ?_) rfl (by kernel_rfl) (by kernel_rfl) (by kernel_rfl) (fun _ _ _ h => h) (Or.inl ⟨by rfl, ?_⟩) (by assumption) ?_
    rotate_left
    · intro w hSw; go_simp; try with_reducible rfl
    go_simp
    refine wpAnyH_take (i := 3) (v := ?_) rfl (by kernel_rfl) (by kernel_rfl) (by kernel_rfl) (fun _ _ _ h => h) (Or.inl ⟨by rfl, ?_⟩) (by assumption) ?_
    rotate_left
    · intro w hSw; go_simp; try with_reducible rfl
    go_simp
    refine wpAnyH_take (i := 4) (v := ?_) rfl (by kernel_rfl) (by kernel_rfl) (by kernel_rfl) (fun _ _ _ h => h) (Or.inl ⟨by rfl, ?_⟩) (by assumption) ?_
    rotate_left
    · intro w hSw; go_simp; try with_reducible rfl
    go_simp
    refine wpAnyH_take (i := 6) (v := ?_) rfl (by kernel_rfl) (by kernel_rfl) (by kernel_rfl) (fun _ _ _ h => h) (Or.inl ⟨by rfl, ?_⟩) (by assumption) ?_
    rotate_left
    · intro w hSw; go_simp; try with_reducible rfl
    go_simp
    refine wpAnyH_take (i := 9) (v := ?_) rfl (by kernel_rfl) (by kernel_rfl) (by kernel_rfl) (fun _ _ _ h => h) (Or.inl ⟨by rfl, ?_⟩) (by assumption) ?_
    rotate_left
    · intro w hSw; go_simp; try with_reducible rfl
    go_simp
    refine wpAnyH_take (i := 10) (v := ?_) rfl (by kernel_rfl) (by kernel_rfl) (by kernel_rfl) (fun _ _ _ h => h) (Or.inl ⟨by rfl, ?_⟩) (by assumption) ?_
    rotate_left
    · intro w hSw; go_simp; try with_reducible rfl
    go_simp
    refine wpAnyH_take (i := 11) (v := ?_) rfl (by kernel_rfl) (by kernel_rfl) (by kernel_rfl) (fun _ _ _ h => h) (Or.inl ⟨by rfl, ?_⟩) (by assumption) ?_
    rotate_left
    · intro w hSw; go_simp; try with_reducible rfl
    go_simp
    refine wpAnyH_take (i := 13) (v := ?_) rfl (by kernel_rfl) (by kernel_rfl) (by kernel_rfl) (fun _ _ _ h => h) (Or.inl ⟨by rfl, ?_⟩) (by assumption) ?_
    rotate_left
    · intro w hSw; go_simp; try with_reducible rfl
    go_simp
    refine wpAnyH_take (i := 14) (v := ?_) rfl (by kernel_rfl) (by kernel_rfl) (by kernel_rfl) (fun _ _ _ h => h) (Or.inl ⟨by rfl, ?_⟩) (by assumption) ?_
    rotate_left
    · intro w hSw; go_simp; try with_reducible rfl
    go_simp
    refine wpAnyH_ready (rs := [1, 5, 12]) (by kernel_rfl) (by simp) ?_
    refine AllReadyH.cons rfl (fun K hK => ?_) (AllReadyH.cons rfl (fun K hK => ?_) (AllReadyH.cons rfl (fun K hK => ?_) AllReadyH.nil))
    · go_simp
      try rw [HSE.out]
      try rw [HWE.out]
      refine hK.out _ _ trivial (fun hHeld => ?_)
      clear hK K
      refine wpAnyH_ready (rs := [5, 12]) (by kernel_rfl) (by simp) ?_
      refine AllReadyH.cons rfl (fun K hK => ?_) (AllReadyH.cons rfl (fun K hK => ?_) AllReadyH.nil)
      · go_simp
        refine hK.out _ _ trivial (fun hHeld => ?_)
        clear hK K
        refine wpAnyH_take (i := 7) (v := ?_) rfl (by kernel_rfl) (by kernel_rfl) (by kernel_rfl) (fun _ _ _ h => h) (Or.inl ⟨by rfl, ?_⟩) (by assumption) ?_
        rotate_left
        · intro w hSw; go_simp; try with_reducible rfl
        go_simp
        refine wpAnyH_ready (rs := [8, 12]) (by kernel_rfl) (by simp) ?_
        refine AllReadyH.consLR rfl (fun K hK => ?_) (AllReadyH.cons rfl (fun K hK => ?_) AllReadyH.nil)
        · go_simp
          refine wpList_append_flr _ rfl _ _ rfl sE _ _ _ rfl O1.out _ (m.f.take i) rfl P1.out ?f1 ?f2 ?_
          case f1 => have := HI.out; have := HN.out; simp; omega
          case f2 => have := O1.out.lt sE rfl; omega
          rintro v3 w3 ho hg hb
          rw [HTI.out, Nat.zero_add, List.nil_append] at ho
          obtain ⟨ad3, c3, rfl⟩ := own_formR ho
          have K3 := Lib.hid (show Kp X9 w3 from Below.grown KE.out hg (Below.size KE.out) (fun k hk => by have := (O1.out.lt k hk).1; have := SE.out; omega))
          have O3 := Lib.hid ho
          have S3 := Lib.hid (show sE ≤ w3.heap.size from Nat.le_trans (by have := O1.out.lt sE rfl; omega) hg.size)
          have P3 := Lib.hid (P2.out.kp (show Kp wD w3 from Below.grown KDE.out hg (Below.size KDE.out) (fun k hk => by have := (O1.out.lt k hk).1; have := HSE.out; omega)))
          have e13 := kp_cell K3.out (cells_2R HS.out.row).2
          clear ho hg hb
          refine hK.out _ _ trivial (fun hHeld => ?_)
          clear hK K
          refine wpAnyH_ready (rs := [12]) (by kernel_rfl) (by simp) ?_
          refine AllReadyH.cons rfl (fun K hK => ?_) AllReadyH.nil
          go_simp
          refine hK.out _ _ trivial (fun hHeld => ?_)
          clear hK K
          refine wpAnyH_take (i := 15) (v := ?_) rfl (by kernel_rfl) (by kernel_rfl) (by kernel_rfl) (fun _ _ _ h => h) (Or.inl ⟨by rfl, ?_⟩) (by assumption) ?_
          rotate_left
          · intro w hSw; go_simp; try with_reducible rfl
          go_simp
          refine wpAnyH_ready (rs := [16]) (by kernel_rfl) (by simp) ?_
          refine AllReadyH.consLR rfl (fun K hK => ?_) AllReadyH.nil
          go_simp
          refine wpList_append_flr _ rfl _ _ rfl sE _ _ _ rfl O3.out _ (m.f.drop (i + 1)) rfl P3.out ?f3 ?f4 ?_
          case f3 => have := HI.out; have := HN.out; simp; omega
          case f4 => exact S3.out
          rintro v4 w4 ho hg hb
          rw [HL2.out] at ho
          obtain ⟨ad4, c4, rfl⟩ := own_formR ho
          have K4 := Lib.hid (show Kp X9 w4 from Below.grown K3.out hg (Below.size K3.out) (fun k hk => by have := (O3.out.lt k hk).1; have := SE.out; omega))
          have RF := Lib.hid (HS.out.fly K4.out (w3 := w4) (L := L2) ⟨rfl, rfl, rfl, Nat.le_refl _, fun _ _ _ => rfl⟩ (f := m.f.take i ++ m.f.drop (i + 1)) (by rw [List.length_append, HTI.out, HL2.out]) (by rw [flyB_app]; exact own_baseR (base := sE) ho (Nat.le_trans HS.out.bg (Nat.le_trans (Nat.le_of_lt (old_of_row HS.out.row)) SE.out))) (fun b q => .inr (by have := (ho.lt b q).1; have := SE.out; omega)))
          have r4 := kp_row K4.out HS.out.row
          obtain ⟨x0, x1⟩ := cells_2R r4
          have fz := frozN r4
          clear ho hg hb r4
          refine hK.out _ _ trivial (fun hHeld => ?_)
          clear hK K
          refine wpAnyH_take (i := 17) (v := ?_) rfl (by kernel_rfl) (by kernel_rfl) (by kernel_rfl) (fun _ _ _ h => h) (Or.inl ⟨by rfl, ?_⟩) (by assumption) ?_
          rotate_left
          · intro w hSw; go_simp; try with_reducible rfl
          go_simp
          refine wpAnyH_take (i := 18) (v := ?_) rfl (by kernel_rfl) (by kernel_rfl) (by kernel_rfl) (fun _ _ _ h => h) (Or.inl ⟨by rfl, ?_⟩) (by assumption) ?_
          rotate_left
          · intro w hSw; go_simp; try with_reducible rfl
          go_simp
          refine wpAnyH_ready (rs := [19]) (by kernel_rfl) (by simp) ?_
          refine AllReadyH.cons rfl (fun K hK => ?_) AllReadyH.nil
          go_simp
          refine hK.out _ _ trivial (fun hHeld => ?_)
          clear hK K
          refine wpAnyH_done (by kernel_rfl) ?_ _
          have PY := Lib.hid (show Rp w0 gm sb ⟨m.c, ⟨a0, a1, a2, a3⟩, (m.f.take i ++ m.f.drop (i + 1))⟩ (.slice ad4 L2 c4) (w4.setCell ⟨gm, 1, none⟩ (.slice ad4 L2 c4)) from RF.out.1)
          have AY := Lib.hid (A9.out.trans RF.out.2)
          have BY := Lib.hid (RF.out.2.row B9.out (NOB.out _ LQ.out))
          have ZY := Lib.hid (RF.out.2.row Z9.out (NOB.out _ (Nat.le_refl _)))
          have TY := Lib.hid (RF.out.2.row T9.out (NOB.out _ (Nat.le_succ _)))
          have NBY := Lib.hid (fun b (h1 : w.heap.size ≤ b) (h2 : b < X9.heap.size) => (fun q => (RF.out.2.own b q).elim (NOB.out b h1) (fun q => absurd h2 (by omega)) : ¬ Orf gm sb (.slice ad4 L2 c4) b))
          obtain ⟨YY, hY⟩ : ∃ Y, (w4.setCell ⟨gm, 1, none⟩ (.slice ad4 L2 c4)) = Y := ⟨_, rfl⟩
          rw [hY] at PY AY BY ZY TY
          rw [hY]
          have LZY := Lib.hid (old_of_row ZY.out)
          clear hY x0 x1 fz
          obtain ⟨x0, x1, x2, x3, x4, x5, x6, x7⟩ := cells_8 BY.out
          obtain ⟨u0, u1⟩ := cells_2M TY.out
          go_wp2_with (go_at_call 72; (with_reducible refine (HPT.out _ _ PY.out).mono ?_); rintro e' w8 ⟨rfl, v', hp, ha⟩; have P8 := Lib.hid hp; have A8 := Lib.hid (AY.out.trans ha); have NO := Lib.hid (show ¬ Orf gm sb v' w.heap.size from fun q => (ha.own _ q).elim (NBY.out _ (Nat.le_refl _) LZ9.out) (fun q => by have := LZY.out; omega)); have B8 := Lib.hid (ha.row BY.out (NBY.out _ LQ.out LB9.out)); have Z8 := Lib.hid (ha.row ZY.out (NBY.out _ (Nat.le_refl _) LZ9.out)); obtain ⟨s0, s1, s2, s3, s4, s5, s6, s7⟩ := cells_8 B8.out; obtain ⟨r0, r1, r2, r3, r4, r5, r6, r7⟩ := cells_8 Z8.out; have fz8 := frozN Z8.out; clear hp ha)
          refine bodyPost_ret (results_row_tmpT (p := 6) (u := 7) rfl _ _ w.heap.size 33 _ (0, 0) _ rfl (set_8 _ _ _ _ _ _ _ _ Z8.out) Tryd.underlying33 rfl (by kernel_rfl)) rfl ?_
          exact ⟨rfl, v', P8.out.stay (fun b hb => set_8_eq (fun q => NO.out (q ▸ hb))), set_8_asd A8.out (Nat.le_refl _)⟩
        · go_simp
          refine hK.out _ _ trivial (fun hHeld => ?_)
          clear hK K
          refine wpAnyH_take (i := 15) (v := ?_) rfl (by kernel_rfl) (by kernel_rfl) (by kernel_rfl) (fun _ _ _ h => h) (Or.inl ⟨by rfl, ?_⟩) (by assumption) ?_
          rotate_left
          · intro w hSw; go_simp; try with_reducible rfl
          go_simp
          refine wpAnyH_ready (rs := [8]) (by kernel_rfl) (by simp) ?_
          refine AllReadyH.consLR rfl (fun K hK => ?_) AllReadyH.nil
          go_simp
          refine wpList_append_flr _ rfl _ _ rfl sE _ _ _ rfl O1.out _ (m.f.take i) rfl P1.out ?f1 ?f2 ?_
          case f1 => have := HI.out; have := HN.out; simp; omega
          case f2 => have := O1.out.lt sE rfl; omega
          rintro v3 w3 ho hg hb
          rw [HTI.out, Nat.zero_add, List.nil_append] at ho
          obtain ⟨ad3, c3, rfl⟩ := own_formR ho
          have K3 := Lib.hid (show Kp X9 w3 from Below.grown KE.out hg (Below.size KE.out) (fun k hk => by have := (O1.out.lt k hk).1; have := SE.out; omega))
          have O3 := Lib.hid ho
          have S3 := Lib.hid (show sE ≤ w3.heap.size from Nat.le_trans (by have := O1.out.lt sE rfl; omega) hg.size)
          have P3 := Lib.hid (P2.out.kp (show Kp wD w3 from Below.grown KDE.out hg (Below.size KDE.out) (fun k hk => by have := (O1.out.lt k hk).1; have := HSE.out; omega)))
          have e13 := kp_cell K3.out (cells_2R HS.out.row).2
          clear ho hg hb
          refine hK.out _ _ trivial (fun hHeld => ?_)
          clear hK K
          refine wpAnyH_ready (rs := [16]) (by kernel_rfl) (by simp) ?_
          refine AllReadyH.consLR rfl (fun K hK => ?_) AllReadyH.nil
          go_simp
          refine wpList_append_flr _ rfl _ _ rfl sE _ _ _ rfl O3.out _ (m.f.drop (i + 1)) rfl P3.out ?f3 ?f4 ?_
          case f3 => have := HI.out; have := HN.out; simp; omega
          case f4 => exact S3.out
          rintro v4 w4 ho hg hb
          rw [HL2.out] at ho
          obtain ⟨ad4, c4, rfl⟩ := own_formR ho
          have K4 := Lib.hid (show Kp X9 w4 from Below.grown K3.out hg (Below.size K3.out) (fun k hk => by have := (O3.out.lt k hk).1; have := SE.out; omega))
          have RF := Lib.hid (HS.out.fly K4.out (w3 := w4) (L := L2) ⟨rfl, rfl, rfl, Nat.le_refl _, fun _ _ _ => rfl⟩ (f := m.f.take i ++ m.f.drop (i + 1)) (by rw [List.length_append, HTI.out, HL2.out]) (by rw [flyB_app]; exact own_baseR (base := sE) ho (Nat.le_trans HS.out.bg (Nat.le_trans (Nat.le_of_lt (old_of_row HS.out.row)) SE.out))) (fun b q => .inr (by have := (ho.lt b q).1; have := SE.out; omega)))
          have r4 := kp_row K4.out HS.out.row
          obtain ⟨x0, x1⟩ := cells_2R r4
          have fz := frozN r4
          clear ho hg hb r4
          refine hK.out _ _ trivial (fun hHeld => ?_)
          clear hK K
          refine wpAnyH_take (i := 17) (v := ?_) rfl (by kernel_rfl) (by kernel_rfl) (by kernel_rfl) (fun _ _ _ h => h) (Or.inl ⟨by rfl, ?_⟩) (by assumption) ?_
          rotate_left
          · intro w hSw; go_simp; try with_reducible rfl
          go_simp
          refine wpAnyH_take (i := 18) (v := ?_) rfl (by kernel_rfl) (by kernel_rfl) (by kernel_rfl) (fun _ _ _ h => h) (Or.inl ⟨by rfl, ?_⟩) (by assumption) ?_
          rotate_left
          · intro w hSw; go_simp; try with_reducible rfl
          go_simp
          refine wpAnyH_ready (rs := [19]) (by kernel_rfl) (by simp) ?_
          refine AllReadyH.cons rfl (fun K hK => ?_) AllReadyH.nil
          go_simp
          refine hK.out _ _ trivial (fun hHeld => ?_)
          clear hK K
          refine wpAnyH_done (by kernel_rfl) ?_ _
          have PY := Lib.hid (show Rp w0 gm sb ⟨m.c, ⟨a0, a1, a2, a3⟩, (m.f.take i ++ m.f.drop (i + 1))⟩ (.slice ad4 L2 c4) (w4.setCell ⟨gm, 1, none⟩ (.slice ad4 L2 c4)) from RF.out.1)
          have AY := Lib.hid (A9.out.trans RF.out.2)
          have BY := Lib.hid (RF.out.2.row B9.out (NOB.out _ LQ.out))
          have ZY := Lib.hid (RF.out.2.row Z9.out (NOB.out _ (Nat.le_refl _)))
          have TY := Lib.hid (RF.out.2.row T9.out (NOB.out _ (Nat.le_succ _)))
          have NBY := Lib.hid (fun b (h1 : w.heap.size ≤ b) (h2 : b < X9.heap.size) => (fun q => (RF.out.2.own b q).elim (NOB.out b h1) (fun q => absurd h2 (by omega)) : ¬ Orf gm sb (.slice ad4 L2 c4) b))
          obtain ⟨YY, hY⟩ : ∃ Y, (w4.setCell ⟨gm, 1, none⟩ (.slice ad4 L2 c4)) = Y := ⟨_, rfl⟩
          rw [hY] at PY AY BY ZY TY
          rw [hY]
          have LZY := Lib.hid (old_of_row ZY.out)
          clear hY x0 x1 fz
          obtain ⟨x0, x1, x2, x3, x4, x5, x6, x7⟩ := cells_8 BY.out
          obtain ⟨u0, u1⟩ := cells_2M TY.out
          go_wp2_with (go_at_call 72; (with_reducible refine (HPT.out _ _ PY.out).mono ?_); rintro e' w8 ⟨rfl, v', hp, ha⟩; have P8 := Lib.hid hp; have A8 := Lib.hid (AY.out.trans ha); have NO := Lib.hid (show ¬ Orf gm sb v' w.heap.size from fun q => (ha.own _ q).elim (NBY.out _ (Nat.le_refl _) LZ9.out) (fun q => by have := LZY.out; omega)); have B8 := Lib.hid (ha.row BY.out (NBY.out _ LQ.out LB9.out)); have Z8 := Lib.hid (ha.row ZY.out (NBY.out _ (Nat.le_refl _) LZ9.out)); obtain ⟨s0, s1, s2, s3, s4, s5, s6, s7⟩ := cells_8 B8.out; obtain ⟨r0, r1, r2, r3, r4, r5, r6, r7⟩ := cells_8 Z8.out; have fz8 := frozN Z8.out; clear hp ha)
          refine bodyPost_ret (results_row_tmpT (p := 6) (u := 7) rfl _ _ w.heap.size 33 _ (0, 0) _ rfl (set_8 _ _ _ _ _ _ _ _ Z8.out) Tryd.underlying33 rfl (by kernel_rfl)) rfl ?_
          exact ⟨rfl, v', P8.out.stay (fun b hb => set_8_eq (fun q => NO.out (q ▸ hb))), set_8_asd A8.out (Nat.le_refl _)⟩
      · go_simp
        refine hK.out _ _ trivial (fun hHeld => ?_)
        clear hK K
        refine wpAnyH_take (i := 15) (v := ?_) rfl (by kernel_rfl) (by kernel_rfl) (by kernel_rfl) (fun _ _ _ h => h) (Or.inl ⟨by rfl, ?_⟩) (by assumption) ?_
        rotate_left
        · intro w hSw; go_simp; try with_reducible rfl
        go_simp
        refine wpAnyH_ready (rs := [5]) (by kernel_rfl) (by simp) ?_
        refine AllReadyH.cons rfl (fun K hK => ?_) AllReadyH.nil
        go_simp
        refine hK.out _ _ trivial (fun hHeld => ?_)
        clear hK K
        refine wpAnyH_take (i := 7) (v := ?_) rfl (by kernel_rfl) (by kernel_rfl) (by kernel_rfl) (fun _ _ _ h => h) (Or.inl ⟨by rfl, ?_⟩) (by assumption) ?_
        rotate_left
        · intro w hSw; go_simp; try with_reducible rfl
        go_simp
        refine wpAnyH_ready (rs := [8]) (by kernel_rfl) (by simp) ?_
        refine AllReadyH.consLR rfl (fun K hK => ?_) AllReadyH.nil
        go_simp
        refine wpList_append_flr _ rfl _ _ rfl sE _ _ _ rfl O1.out _ (m.f.take i) rfl P1.out ?f1 ?f2 ?_
        case f1 => have := HI.out; have := HN.out; simp; omega
        case f2 => have := O1.out.lt sE rfl; omega
        rintro v3 w3 ho hg hb
        rw [HTI.out, Nat.zero_add, List.nil_append] at ho
        obtain ⟨ad3, c3, rfl⟩ := own_formR ho
        have K3 := Lib.hid (show Kp X9 w3 from Below.grown KE.out hg (Below.size KE.out) (fun k hk => by have := (O1.out.lt k hk).1; have := SE.out; omega))
        have O3 := Lib.hid ho
        have S3 := Lib.hid (show sE ≤ w3.heap.size from Nat.le_trans (by have := O1.out.lt sE rfl; omega) hg.size)
        have P3 := Lib.hid (P2.out.kp (show Kp wD w3 from Below.grown KDE.out hg (Below.size KDE.out) (fun k hk => by have := (O1.out.lt k hk).1; have := HSE.out; omega)))
        have e13 := kp_cell K3.out (cells_2R HS.out.row).2
        clear ho hg hb
        refine hK.out _ _ trivial (fun hHeld => ?_)
        clear hK K
        refine wpAnyH_ready (rs := [16]) (by kernel_rfl) (by simp) ?_
        refine AllReadyH.consLR rfl (fun K hK => ?_) AllReadyH.nil
        go_simp
        refine wpList_append_flr _ rfl _ _ rfl sE _ _ _ rfl O3.out _ (m.f.drop (i + 1)) rfl P3.out ?f3 ?f4 ?_
        case f3 => have := HI.out; have := HN.out; simp; omega
        case f4 => exact S3.out
        rintro v4 w4 ho hg hb
        rw [HL2.out] at ho
        obtain ⟨ad4, c4, rfl⟩ := own_formR ho
        have K4 := Lib.hid (show Kp X9 w4 from Below.grown K3.out hg (Below.size K3.out) (fun k hk => by have := (O3.out.lt k hk).1; have := SE.out; omega))
        have RF := Lib.hid (HS.out.fly K4.out (w3 := w4) (L := L2) ⟨rfl, rfl, rfl, Nat.le_refl _, fun _ _ _ => rfl⟩ (f := m.f.take i ++ m.f.drop (i + 1)) (by rw [List.length_append, HTI.out, HL2.out]) (by rw [flyB_app]; exact own_baseR (base := sE) ho (Nat.le_trans HS.out.bg (Nat.le_trans (Nat.le_of_lt (old_of_row HS.out.row)) SE.out))) (fun b q => .inr (by have := (ho.lt b q).1; have := SE.out; omega)))
        have r4 := kp_row K4.out HS.out.row
        obtain ⟨x0, x1⟩ := cells_2R r4
        have fz := frozN r4
        clear ho hg hb r4
        refine hK.out _ _ trivial (fun hHeld => ?_)
        clear hK K
        refine wpAnyH_take (i := 17) (v := ?_) rfl (by kernel_rfl) (by kernel_rfl) (by kernel_rfl) (fun _ _ _ h => h) (Or.inl ⟨by rfl, ?_⟩) (by assumption) ?_
        rotate_left
        · intro w hSw; go_simp; try with_reducible rfl
        go_simp
        refine wpAnyH_take (i := 18) (v := ?_) rfl (by kernel_rfl) (by kernel_rfl) (by kernel_rfl) (fun _ _ _ h => h) (Or.inl ⟨by rfl, ?_⟩) (by assumption) ?_
        rotate_left
        · intro w hSw; go_simp; try with_reducible rfl
        go_simp
        refine wpAnyH_ready (rs := [19]) (by kernel_rfl) (by simp) ?_
        refine AllReadyH.cons rfl (fun K hK => ?_) AllReadyH.nil
        go_simp
        refine hK.out _ _ trivial (fun hHeld => ?_)
        clear hK K
        refine wpAnyH_done (by kernel_rfl) ?_ _
        have PY := Lib.hid (show Rp w0 gm sb ⟨m.c, ⟨a0, a1, a2, a3⟩, (m.f.take i ++ m.f.drop (i + 1))⟩ (.slice ad4 L2 c4) (w4.setCell ⟨gm, 1, none⟩ (.slice ad4 L2 c4)) from RF.out.1)
        have AY := Lib.hid (A9.out.trans RF.out.2)
        have BY := Lib.hid (RF.out.2.row B9.out (NOB.out _ LQ.out))
        have ZY := Lib.hid (RF.out.2.row Z9.out (NOB.out _ (Nat.le_refl _)))
        have TY := Lib.hid (RF.out.2.row T9.out (NOB.out _ (Nat.le_succ _)))
        have NBY := Lib.hid (fun b (h1 : w.heap.size ≤ b) (h2 : b < X9.heap.size) => (fun q => (RF.out.2.own b q).elim (NOB.out b h1) (fun q => absurd h2 (by omega)) : ¬ Orf gm sb (.slice ad4 L2 c4) b))
        obtain ⟨YY, hY⟩ : ∃ Y, (w4.setCell ⟨gm, 1, none⟩ (.slice ad4 L2 c4)) = Y := ⟨_, rfl⟩
        rw [hY] at PY AY BY ZY TY
        rw [hY]
        have LZY := Lib.hid (old_of_row ZY.out)
        clear hY x0 x1 fz
        obtain ⟨x0, x1, x2, x3, x4, x5, x6, x7⟩ := cells_8 BY.out
        obtain ⟨u0, u1⟩ := cells_2M TY.out
        go_wp2_with (go_at_call 72; (with_reducible refine (HPT.out _ _ PY.out).mono ?_); rintro e' w8 ⟨rfl, v', hp, ha⟩; have P8 := Lib.hid hp; have A8 := Lib.hid (AY.out.trans ha); have NO := Lib.hid (show ¬ Orf gm sb v' w.heap.size from fun q => (ha.own _ q).elim (NBY.out _ (Nat.le_refl _) LZ9.out) (fun q => by have := LZY.out; omega)); have B8 := Lib.hid (ha.row BY.out (NBY.out _ LQ.out LB9.out)); have Z8 := Lib.hid (ha.row ZY.out (NBY.out _ (Nat.le_refl _) LZ9.out)); obtain ⟨s0, s1, s2, s3, s4, s5, s6, s7⟩ := cells_8 B8.out; obtain ⟨r0, r1, r2, r3, r4, r5, r6, r7⟩ := cells_8 Z8.out; have fz8 := frozN Z8.out; clear hp ha)
        refine bodyPost_ret (results_row_tmpT (p := 6) (u := 7) rfl _ _ w.heap.size 33 _ (0, 0) _ rfl (set_8 _ _ _ _ _ _ _ _ Z8.out) Tryd.underlying33 rfl (by kernel_rfl)) rfl ?_
        exact ⟨rfl, v', P8.out.stay (fun b hb => set_8_eq (fun q => NO.out (q ▸ hb))), set_8_asd A8.out (Nat.le_refl _)⟩
    · go_simp
      refine hK.out _ _ trivial (fun hHeld => ?_)
      clear hK K
      refine wpAnyH_take (i := 7) (v := ?_) rfl (by kernel_rfl) (by kernel_rfl) (by kernel_rfl) (fun _ _ _ h => h) (Or.inl ⟨by rfl, ?_⟩) (by assumption) ?_
      rotate_left
      · intro w hSw; go_simp; try with_reducible rfl
      go_simp
      refine wpAnyH_ready (rs := [1, 12]) (by kernel_rfl) (by simp) ?_
      refine AllReadyH.cons rfl (fun K hK => ?_) (AllReadyH.cons rfl (fun K hK => ?_) AllReadyH.nil)
      · go_simp
        try rw [HSE.out]
        try rw [HWE.out]
        refine hK.out _ _ trivial (fun hHeld => ?_)
        clear hK K
        refine wpAnyH_ready (rs := [8, 12]) (by kernel_rfl) (by simp) ?_
        refine AllReadyH.consLR rfl (fun K hK => ?_) (AllReadyH.cons rfl (fun K hK => ?_) AllReadyH.nil)
        · go_simp
          refine wpList_append_flr _ rfl _ _ rfl sE _ _ _ rfl O1.out _ (m.f.take i) rfl P1.out ?f1 ?f2 ?_
          case f1 => have := HI.out; have := HN.out; simp; omega
          case f2 => have := O1.out.lt sE rfl; omega
          rintro v3 w3 ho hg hb
          rw [HTI.out, Nat.zero_add, List.nil_append] at ho
          obtain ⟨ad3, c3, rfl⟩ := own_formR ho
          have K3 := Lib.hid (show Kp X9 w3 from Below.grown KE.out hg (Below.size KE.out) (fun k hk => by have := (O1.out.lt k hk).1; have := SE.out; omega))
          have O3 := Lib.hid ho
          have S3 := Lib.hid (show sE ≤ w3.heap.size from Nat.le_trans (by have := O1.out.lt sE rfl; omega) hg.size)
          have P3 := Lib.hid (P2.out.kp (show Kp wD w3 from Below.grown KDE.out hg (Below.size KDE.out) (fun k hk => by have := (O1.out.lt k hk).1; have := HSE.out; omega)))
          have e13 := kp_cell K3.out (cells_2R HS.out.row).2
          clear ho hg hb
          refine hK.out _ _ trivial (fun hHeld => ?_)
          clear hK K
          refine wpAnyH_ready (rs := [12]) (by kernel_rfl) (by simp) ?_
          refine AllReadyH.cons rfl (fun K hK => ?_) AllReadyH.nil
          go_simp
          refine hK.out _ _ trivial (fun hHeld => ?_)
          clear hK K
          refine wpAnyH_take (i := 15) (v := ?_) rfl (by kernel_rfl) (by kernel_rfl) (by kernel_rfl) (fun _ _ _ h => h) (Or.inl ⟨by rfl, ?_⟩) (by assumption) ?_
          rotate_left
          · intro w hSw; go_simp; try with_reducible rfl
          go_simp
          refine wpAnyH_ready (rs := [16]) (by kernel_rfl) (by simp) ?_
          refine AllReadyH.consLR rfl (fun K hK => ?_) AllReadyH.nil
          go_simp
          refine wpList_append_flr _ rfl _ _ rfl sE _ _ _ rfl O3.out _ (m.f.drop (i + 1)) rfl P3.out ?f3 ?f4 ?_
          case f3 => have := HI.out; have := HN.out; simp; omega
          case f4 => exact S3.out
          rintro v4 w4 ho hg hb
          rw [HL2.out] at ho
          obtain ⟨ad4, c4, rfl⟩ := own_formR ho
          have K4 := Lib.hid (show Kp X9 w4 from Below.grown K3.out hg (Below.size K3.out) (fun k hk => by have := (O3.out.lt k hk).1; have := SE.out; omega))
          have RF := Lib.hid (HS.out.fly K4.out (w3 := w4) (L := L2) ⟨rfl, rfl, rfl, Nat.le_refl _, fun _ _ _ => rfl⟩ (f := m.f.take i ++ m.f.drop (i + 1)) (by rw [List.length_append, HTI.out, HL2.out]) (by rw [flyB_app]; exact own_baseR (base := sE) ho (Nat.le_trans HS.out.bg (Nat.le_trans (Nat.le_of_lt (old_of_row HS.out.row)) SE.out))) (fun b q => .inr (by have := (ho.lt b q).1; have := SE.out; omega)))
          have r4 := kp_row K4.out HS.out.row
          obtain ⟨x0, x1⟩ := cells_2R r4
          have fz := frozN r4
          clear ho hg hb r4
          refine hK.out _ _ trivial (fun hHeld => ?_)
          clear hK K
          refine wpAnyH_take (i := 17) (v := ?_) rfl (by kernel_rfl) (by kernel_rfl) (by kernel_rfl) (fun _ _ _ h => h) (Or.inl ⟨by rfl, ?_⟩) (by assumption) ?_
          rotate_left
          · intro w hSw; go_simp; try with_reducible rfl
          go_simp
          refine wpAnyH_take (i := 18) (v := ?_) rfl (by kernel_rfl) (by kernel_rfl) (by kernel_rfl) (fun _ _ _ h => h) (Or.inl ⟨by rfl, ?_⟩) (by assumption) ?_
          rotate_left
          · intro w hSw; go_simp; try with_reducible rfl
          go_simp
          refine wpAnyH_ready (rs := [19]) (by kernel_rfl) (by simp) ?_
          refine AllReadyH.cons rfl (fun K hK => ?_) AllReadyH.nil
          go_simp
          refine hK.out _ _ trivial (fun hHeld => ?_)
          clear hK K
          refine wpAnyH_done (by kernel_rfl) ?_ _
          have PY := Lib.hid (show Rp w0 gm sb ⟨m.c, ⟨a0, a1, a2, a3⟩, (m.f.take i ++ m.f.drop (i + 1))⟩ (.slice ad4 L2 c4) (w4.setCell ⟨gm, 1, none⟩ (.slice ad4 L2 c4)) from RF.out.1)
          have AY := Lib.hid (A9.out.trans RF.out.2)
          have BY := Lib.hid (RF.out.2.row B9.out (NOB.out _ LQ.out))
          have ZY := Lib.hid (RF.out.2.row Z9.out (NOB.out _ (Nat.le_refl _)))
          have TY := Lib.hid (RF.out.2.row T9.out (NOB.out _ (Nat.le_succ _)))
          have NBY := Lib.hid (fun b (h1 : w.heap.size ≤ b) (h2 : b < X9.heap.size) => (fun q => (RF.out.2.own b q).elim (NOB.out b h1) (fun q => absurd h2 (by omega)) : ¬ Orf gm sb (.slice ad4 L2 c4) b))
          obtain ⟨YY, hY⟩ : ∃ Y, (w4.setCell ⟨gm, 1, none⟩ (.slice ad4 L2 c4)) = Y := ⟨_, rfl⟩
          rw [hY] at PY AY BY ZY TY
          rw [hY]
          have LZY := Lib.hid (old_of_row ZY.out)
          clear hY x0 x1 fz
          obtain ⟨x0, x1, x2, x3, x4, x5, x6, x7⟩ := cells_8 BY.out
          obtain ⟨u0, u1⟩ := cells_2M TY.out
          go_wp2_with (go_at_call 72; (with_reducible refine (HPT.out _ _ PY.out).mono ?_); rintro e' w8 ⟨rfl, v', hp, ha⟩; have P8 := Lib.hid hp; have A8 := Lib.hid (AY.out.trans ha); have NO := Lib.hid (show ¬ Orf gm sb v' w.heap.size from fun q => (ha.own _ q).elim (NBY.out _ (Nat.le_refl _) LZ9.out) (fun q => by have := LZY.out; omega)); have B8 := Lib.hid (ha.row BY.out (NBY.out _ LQ.out LB9.out)); have Z8 := Lib.hid (ha.row ZY.out (NBY.out _ (Nat.le_refl _) LZ9.out)); obtain ⟨s0, s1, s2, s3, s4, s5, s6, s7⟩ := cells_8 B8.out; obtain ⟨r0, r1, r2, r3, r4, r5, r6, r7⟩ := cells_8 Z8.out; have fz8 := frozN Z8.out; clear hp ha)
          refine bodyPost_ret (results_row_tmpT (p := 6) (u := 7) rfl _ _ w.heap.size 33 _ (0, 0) _ rfl (set_8 _ _ _ _ _ _ _ _ Z8.out) Tryd.underlying33 rfl (by kernel_rfl)) rfl ?_
          exact ⟨rfl, v', P8.out.stay (fun b hb => set_8_eq (fun q => NO.out (q ▸ hb))), set_8_asd A8.out (Nat.le_refl _)⟩
        · go_simp
          refine hK.out _ _ trivial (fun hHeld => ?_)
          clear hK K
          refine wpAnyH_take (i := 15) (v := ?_) rfl (by kernel_rfl) (by kernel_rfl) (by kernel_rfl) (fun _ _ _ h => h) (Or.inl ⟨by rfl, ?_⟩) (by assumption) ?_
          rotate_left
          · intro w hSw; go_simp; try with_reducible rfl
          go_simp
          refine wpAnyH_ready (rs := [8]) (by kernel_rfl) (by simp) ?_
          refine AllReadyH.consLR rfl (fun K hK => ?_) AllReadyH.nil
          go_simp
          refine wpList_append_flr _ rfl _ _ rfl sE _ _ _ rfl O1.out _ (m.f.take i) rfl P1.out ?f1 ?f2 ?_
          case f1 => have := HI.out; have := HN.out; simp; omega
          case f2 => have := O1.out.lt sE rfl; omega
          rintro v3 w3 ho hg hb
          rw [HTI.out, Nat.zero_add, List.nil_append] at ho
          obtain ⟨ad3, c3, rfl⟩ := own_formR ho
          have K3 := Lib.hid (show Kp X9 w3 from Below.grown KE.out hg (Below.size KE.out) (fun k hk => by have := (O1.out.lt k hk).1; have := SE.out; omega))
          have O3 := Lib.hid ho
          have S3 := Lib.hid (show sE ≤ w3.heap.size from Nat.le_trans (by have := O1.out.lt sE rfl; omega) hg.size)
          have P3 := Lib.hid (P2.out.kp (show Kp wD w3 from Below.grown KDE.out hg (Below.size KDE.out) (fun k hk => by have := (O1.out.lt k hk).1; have := HSE.out; omega)))
          have e13 := kp_cell K3.out (cells_2R HS.out.row).2
          clear ho hg hb
          refine hK.out _ _ trivial (fun hHeld => ?_)
          clear hK K
          refine wpAnyH_ready (rs := [16]) (by kernel_rfl) (by simp) ?_
          refine AllReadyH.consLR rfl (fun K hK => ?_) AllReadyH.nil
          go_simp
          refine wpList_append_flr _ rfl _ _ rfl sE _ _ _ rfl O3.out _ (m.f.drop (i + 1)) rfl P3.out ?f3 ?f4 ?_
          case f3 => have := HI.out; have := HN.out; simp; omega
          case f4 => exact S3.out
          rintro v4 w4 ho hg hb
          rw [HL2.out] at ho
          obtain ⟨ad4, c4, rfl⟩ := own_formR ho
          have K4 := Lib.hid (show Kp X9 w4 from Below.grown K3.out hg (Below.size K3.out) (fun k hk => by have := (O3.out.lt k hk).1; have := SE.out; omega))
          have RF := Lib.hid (HS.out.fly K4.out (w3 := w4) (L := L2) ⟨rfl, rfl, rfl, Nat.le_refl _, fun _ _ _ => rfl⟩ (f := m.f.take i ++ m.f.drop (i + 1)) (by rw [List.length_append, HTI.out, HL2.out]) (by rw [flyB_app]; exact own_baseR (base := sE) ho (Nat.le_trans HS.out.bg (Nat.le_trans (Nat.le_of_lt (old_of_row HS.out.row)) SE.out))) (fun b q => .inr (by have := (ho.lt b q).1; have := SE.out; omega)))
          have r4 := kp_row K4.out HS.out.row
          obtain ⟨x0, x1⟩ := cells_2R r4
          have fz := frozN r4
          clear ho hg hb r4
          refine hK.out _ _ trivial (fun hHeld => ?_)
          clear hK K
          refine wpAnyH_take (i := 17) (v := ?_) rfl (by kernel_rfl) (by kernel_rfl) (by kernel_rfl) (fun _ _ _ h => h) (Or.inl ⟨by rfl, ?_⟩) (by assumption) ?_
          rotate_left
          · intro w hSw; go_simp; try with_reducible rfl
          go_simp
          refine wpAnyH_take (i := 18) (v := ?_) rfl (by kernel_rfl) (by kernel_rfl) (by kernel_rfl) (fun _ _ _ h => h) (Or.inl ⟨by rfl, ?_⟩) (by assumption) ?_
          rotate_left
          · intro w hSw; go_simp; try with_reducible rfl
          go_simp
          refine wpAnyH_ready (rs := [19]) (by kernel_rfl) (by simp) ?_
          refine AllReadyH.cons rfl (fun K hK => ?_) AllReadyH.nil
          go_simp
          refine hK.out _ _ trivial (fun hHeld => ?_)
          clear hK K
          refine wpAnyH_done (by kernel_rfl) ?_ _
          have PY := Lib.hid (show Rp w0 gm sb ⟨m.c, ⟨a0, a1, a2, a3⟩, (m.f.take i ++ m.f.drop (i + 1))⟩ (.slice ad4 L2 c4) (w4.setCell ⟨gm, 1, none⟩ (.slice ad4 L2 c4)) from RF.out.1)
          have AY := Lib.hid (A9.out.trans RF.out.2)
          have BY := Lib.hid (RF.out.2.row B9.out (NOB.out _ LQ.out))
          have ZY := Lib.hid (RF.out.2.row Z9.out (NOB.out _ (Nat.le_refl _)))
          have TY := Lib.hid (RF.out.2.row T9.out (NOB.out _ (Nat.le_succ _)))
          have NBY := Lib.hid (fun b (h1 : w.heap.size ≤ b) (h2 : b < X9.heap.size) => (fun q => (RF.out.2.own b q).elim (NOB.out b h1) (fun q => absurd h2 (by omega)) : ¬ Orf gm sb (.slice ad4 L2 c4) b))
          obtain ⟨YY, hY⟩ : ∃ Y, (w4.setCell ⟨gm, 1, none⟩ (.slice ad4 L2 c4)) = Y := ⟨_, rfl⟩
          rw [hY] at PY AY BY ZY TY
          rw [hY]
          have LZY := Lib.hid (old_of_row ZY.out)
          clear hY x0 x1 fz
          obtain ⟨x0, x1, x2, x3, x4, x5, x6, x7⟩ := cells_8 BY.out
          obtain ⟨u0, u1⟩ := cells_2M TY.out
          go_wp2_with (go_at_call 72; (with_reducible refine (HPT.out _ _ PY.out).mono ?_); rintro e' w8 ⟨rfl, v', hp, ha⟩; have P8 := Lib.hid hp; have A8 := Lib.hid (AY.out.trans ha); have NO := Lib.hid (show ¬ Orf gm sb v' w.heap.size from fun q => (ha.own _ q).elim (NBY.out _ (Nat.le_refl _) LZ9.out) (fun q => by have := LZY.out; omega)); have B8 := Lib.hid (ha.row BY.out (NBY.out _ LQ.out LB9.out)); have Z8 := Lib.hid (ha.row ZY.out (NBY.out _ (Nat.le_refl _) LZ9.out)); obtain ⟨s0, s1, s2, s3, s4, s5, s6, s7⟩ := cells_8 B8.out; obtain ⟨r0, r1, r2, r3, r4, r5, r6, r7⟩ := cells_8 Z8.out; have fz8 := frozN Z8.out; clear hp ha)
          refine bodyPost_ret (results_row_tmpT (p := 6) (u := 7) rfl _ _ w.heap.size 33 _ (0, 0) _ rfl (set_8 _ _ _ _ _ _ _ _ Z8.out) Tryd.underlying33 rfl (by kernel_rfl)) rfl ?_
          exact ⟨rfl, v', P8.out.stay (fun b hb => set_8_eq (fun q => NO.out (q ▸ hb))), set_8_asd A8.out (Nat.le_refl _)⟩
      · go_simp
        refine hK.out _ _ trivial (fun hHeld => ?_)
        clear hK K
        refine wpAnyH_take (i := 15) (v := ?_) rfl (by kernel_rfl) (by kernel_rfl) (by kernel_rfl) (fun _ _ _ h => h) (Or.inl ⟨by rfl, ?_⟩) (by assumption) ?_
        rotate_left
        · intro w hSw; go_simp; try with_reducible rfl
        go_simp
        refine wpAnyH_ready (rs := [1]) (by kernel_rfl) (by simp) ?_
        refine AllReadyH.cons rfl (fun K hK => ?_) AllReadyH.nil
        go_simp
        try rw [HSE.out]
        try rw [HWE.out]
        refine hK.out _ _ trivial (fun hHeld => ?_)
        clear hK K
        refine wpAnyH_ready (rs := [8]) (by kernel_rfl) (by simp) ?_
        refine AllReadyH.consLR rfl (fun K hK => ?_) AllReadyH.nil
        go_simp
        refine wpList_append_flr _ rfl _ _ rfl sE _ _ _ rfl O1.out _ (m.f.take i) rfl P1.out ?f1 ?f2 ?_
        case f1 => have := HI.out; have := HN.out; simp; omega
        case f2 => have := O1.out.lt sE rfl; omega
        rintro v3 w3 ho hg hb
        rw [HTI.out, Nat.zero_add, List.nil_append] at ho
        obtain ⟨ad3, c3, rfl⟩ := own_formR ho
        have K3 := Lib.hid (show Kp X9 w3 from Below.grown KE.out hg (Below.size KE.out) (fun k hk => by have := (O1.out.lt k hk).1; have := SE.out; omega))
        have O3 := Lib.hid ho
        have S3 := Lib.hid (show sE ≤ w3.heap.size from Nat.le_trans (by have := O1.out.lt sE rfl; omega) hg.size)
        have P3 := Lib.hid (P2.out.kp (show Kp wD w3 from Below.grown KDE.out hg (Below.size KDE.out) (fun k hk => by have := (O1.out.lt k hk).1; have := HSE.out; omega)))
        have e13 := kp_cell K3.out (cells_2R HS.out.row).2
        clear ho hg hb
        refine hK.out _ _ trivial (fun hHeld => ?_)
        clear hK K
        refine wpAnyH_ready (rs := [16]) (by kernel_rfl) (by simp) ?_
        refine AllReadyH.consLR rfl (fun K hK => ?_) AllReadyH.nil
        go_simp
        refine wpList_append_flr _ rfl _ _ rfl sE _ _ _ rfl O3.out _ (m.f.drop (i + 1)) rfl P3.out ?f3 ?f4 ?_
        case f3 => have := HI.out; have := HN.out; simp; omega
        case f4 => exact S3.out
        rintro v4 w4 ho hg hb
        rw [HL2.out] at ho
        obtain ⟨ad4, c4, rfl⟩ := own_formR ho
        have K4 := Lib.hid (show Kp X9 w4 from Below.grown K3.out hg (Below.size K3.out) (fun k hk => by have := (O3.out.lt k hk).1; have := SE.out; omega))
        have RF := Lib.hid (HS.out.fly K4.out (w3 := w4) (L := L2) ⟨rfl, rfl, rfl, Nat.le_refl _, fun _ _ _ => rfl⟩ (f := m.f.take i ++ m.f.drop (i + 1)) (by rw [List.length_append, HTI.out, HL2.out]) (by rw [flyB_app]; exact own_baseR (base := sE) ho (Nat.le_trans HS.out.bg (Nat.le_trans (Nat.le_of_lt (old_of_row HS.out.row)) SE.out))) (fun b q => .inr (by have := (ho.lt b q).1; have := SE.out; omega)))
        have r4 := kp_row K4.out HS.out.row
        obtain ⟨x0, x1⟩ := cells_2R r4
        have fz := frozN r4
        clear ho hg hb r4
        refine hK.out _ _ trivial (fun hHeld => ?_)
        clear hK K
        refine wpAnyH_take (i := 17) (v := ?_) rfl (by kernel_rfl) (by kernel_rfl) (by kernel_rfl) (fun _ _ _ h => h) (Or.inl ⟨by rfl, ?_⟩) (by assumption) ?_
        rotate_left
        · intro w hSw; go_simp; try with_reducible rfl
        go_simp
        refine wpAnyH_take (i := 18) (v := ?_) rfl (by kernel_rfl) (by kernel_rfl) (by kernel_rfl) (fun _ _ _ h => h) (Or.inl ⟨by rfl, ?_⟩) (by assumption) ?_
        rotate_left
        · intro w hSw; go_simp; try with_reducible rfl
        go_simp
        refine wpAnyH_ready (rs := [19]) (by kernel_rfl) (by simp) ?_
        refine AllReadyH.cons rfl (fun K hK => ?_) AllReadyH.nil
        go_simp
        refine hK.out _ _ trivial (fun hHeld => ?_)
        clear hK K
        refine wpAnyH_done (by kernel_rfl) ?_ _
        have PY := Lib.hid (show Rp w0 gm sb ⟨m.c, ⟨a0, a1, a2, a3⟩, (m.f.take i ++ m.f.drop (i + 1))⟩ (.slice ad4 L2 c4) (w4.setCell ⟨gm, 1, none⟩ (.slice ad4 L2 c4)) from RF.out.1)
        have AY := Lib.hid (A9.out.trans RF.out.2)
        have BY := Lib.hid (RF.out.2.row B9.out (NOB.out _ LQ.out))
        have ZY := Lib.hid (RF.out.2.row Z9.out (NOB.out _ (Nat.le_refl _)))
        have TY := Lib.hid (RF.out.2.row T9.out (NOB.out _ (Nat.le_succ _)))
        have NBY := Lib.hid (fun b (h1 : w.heap.size ≤ b) (h2 : b < X9.heap.size) => (fun q => (RF.out.2.own b q).elim (NOB.out b h1) (fun q => absurd h2 (by omega)) : ¬ Orf gm sb (.slice ad4 L2 c4) b))
        obtain ⟨YY, hY⟩ : ∃ Y, (w4.setCell ⟨gm, 1, none⟩ (.slice ad4 L2 c4)) = Y := ⟨_, rfl⟩
        rw [hY] at PY AY BY ZY TY
        rw [hY]
        have LZY := Lib.hid (old_of_row ZY.out)
        clear hY x0 x1 fz
        obtain ⟨x0, x1, x2, x3, x4, x5, x6, x7⟩ := cells_8 BY.out
        obtain ⟨u0, u1⟩ := cells_2M TY.out
        go_wp2_with (go_at_call 72; (with_reducible refine (HPT.out _ _ PY.out).mono ?_); rintro e' w8 ⟨rfl, v', hp, ha⟩; have P8 := Lib.hid hp; have A8 := Lib.hid (AY.out.trans ha); have NO := Lib.hid (show ¬ Orf gm sb v' w.heap.size from fun q => (ha.own _ q).elim (NBY.out _ (Nat.le_refl _) LZ9.out) (fun q => by have := LZY.out; omega)); have B8 := Lib.hid (ha.row BY.out (NBY.out _ LQ.out LB9.out)); have Z8 := Lib.hid (ha.row ZY.out (NBY.out _ (Nat.le_refl _) LZ9.out)); obtain ⟨s0, s1, s2, s3, s4, s5, s6, s7⟩ := cells_8 B8.out; obtain ⟨r0, r1, r2, r3, r4, r5, r6, r7⟩ := cells_8 Z8.out; have fz8 := frozN Z8.out; clear hp ha)
        refine bodyPost_ret (results_row_tmpT (p := 6) (u := 7) rfl _ _ w.heap.size 33 _ (0, 0) _ rfl (set_8 _ _ _ _ _ _ _ _ Z8.out) Tryd.underlying33 rfl (by kernel_rfl)) rfl ?_
        exact ⟨rfl, v', P8.out.stay (fun b hb => set_8_eq (fun q => NO.out (q ▸ hb))), set_8_asd A8.out (Nat.le_refl _)⟩
    · go_simp
      refine hK.out _ _ trivial (fun hHeld => ?_)
      clear hK K
      refine wpAnyH_take (i := 15) (v := ?_) rfl (by kernel_rfl) (by kernel_rfl) (by kernel_rfl) (fun _ _ _ h => h) (Or.inl ⟨by rfl, ?_⟩) (by assumption) ?_
      rotate_left
      · intro w hSw; go_simp; try with_reducible rfl
      go_simp
      refine wpAnyH_ready (rs := [1, 5]) (by kernel_rfl) (by simp) ?_
      refine AllReadyH.cons rfl (fun K hK => ?_) (AllReadyH.cons rfl (fun K hK => ?_) AllReadyH.nil)
      · go_simp
        try rw [HSE.out]
        try rw [HWE.out]
        refine hK.out _ _ trivial (fun hHeld => ?_)
        clear hK K
        refine wpAnyH_ready (rs := [5]) (by kernel_rfl) (by simp) ?_
        refine AllReadyH.cons rfl (fun K hK => ?_) AllReadyH.nil
        go_simp
        refine hK.out _ _ trivial (fun hHeld => ?_)
        clear hK K
        refine wpAnyH_take (i := 7) (v := ?_) rfl (by kernel_rfl) (by kernel_rfl) (by kernel_rfl) (fun _ _ _ h => h) (Or.inl ⟨by rfl, ?_⟩) (by assumption) ?_
        rotate_left
        · intro w hSw; go_simp; try with_reducible rfl
        go_simp
        refine wpAnyH_ready (rs := [8]) (by kernel_rfl) (by simp) ?_
        refine AllReadyH.consLR rfl (fun K hK => ?_) AllReadyH.nil
        go_simp
        refine wpList_append_flr _ rfl _ _ rfl sE _ _ _ rfl O1.out _ (m.f.take i) rfl P1.out ?f1 ?f2 ?_
        case f1 => have := HI.out; have := HN.out; simp; omega
        case f2 => have := O1.out.lt sE rfl; omega
        rintro v3 w3 ho hg hb
        rw [HTI.out, Nat.zero_add, List.nil_append] at ho
        obtain ⟨ad3, c3, rfl⟩ := own_formR ho
        have K3 := Lib.hid (show Kp X9 w3 from Below.grown KE.out hg (Below.size KE.out) (fun k hk => by have := (O1.out.lt k hk).1; have := SE.out; omega))
        have O3 := Lib.hid ho
        have S3 := Lib.hid (show sE ≤ w3.heap.size from Nat.le_trans (by have := O1.out.lt sE rfl; omega) hg.size)
        have P3 := Lib.hid (P2.out.kp (show Kp wD w3 from Below.grown KDE.out hg (Below.size KDE.out) (fun k hk => by have := (O1.out.lt k hk).1; have := HSE.out; omega)))
        have e13 := kp_cell K3.out (cells_2R HS.out.row).2
        clear ho hg hb
        refine hK.out _ _ trivial (fun hHeld => ?_)
        clear hK K
        refine wpAnyH_ready (rs := [16]) (by kernel_rfl) (by simp) ?_
        refine AllReadyH.consLR rfl (fun K hK => ?_) AllReadyH.nil
        go_simp
        refine wpList_append_flr _ rfl _ _ rfl sE _ _ _ rfl O3.out _ (m.f.drop (i + 1)) rfl P3.out ?f3 ?f4 ?_
        case f3 => have := HI.out; have := HN.out; simp; omega
        case f4 => exact S3.out
        rintro v4 w4 ho hg hb
        rw [HL2.out] at ho
        obtain ⟨ad4, c4, rfl⟩ := own_formR ho
        have K4 := Lib.hid (show Kp X9 w4 from Below.grown K3.out hg (Below.size K3.out) (fun k hk => by have := (O3.out.lt k hk).1; have := SE.out; omega))
        have RF := Lib.hid (HS.out.fly K4.out (w3 := w4) (L := L2) ⟨rfl, rfl, rfl, Nat.le_refl _, fun _ _ _ => rfl⟩ (f := m.f.take i ++ m.f.drop (i + 1)) (by rw [List.length_append, HTI.out, HL2.out]) (by rw [flyB_app]; exact own_baseR (base := sE) ho (Nat.le_trans HS.out.bg (Nat.le_trans (Nat.le_of_lt (old_of_row HS.out.row)) SE.out))) (fun b q => .inr (by have := (ho.lt b q).1; have := SE.out; omega)))
        have r4 := kp_row K4.out HS.out.row
        obtain ⟨x0, x1⟩ := cells_2R r4
        have fz := frozN r4
        clear ho hg hb r4
        refine hK.out _ _ trivial (fun hHeld => ?_)
        clear hK K
        refine wpAnyH_take (i := 17) (v := ?_) rfl (by kernel_rfl) (by kernel_rfl) (by kernel_rfl) (fun _ _ _ h => h) (Or.inl ⟨by rfl, ?_⟩) (by assumption) ?_
        rotate_left
        · intro w hSw; go_simp; try with_reducible rfl
        go_simp
        refine wpAnyH_take (i := 18) (v := ?_) rfl (by kernel_rfl) (by kernel_rfl) (by kernel_rfl) (fun _ _ _ h => h) (Or.inl ⟨by rfl, ?_⟩) (by assumption) ?_
        rotate_left
        · intro w hSw; go_simp; try with_reducible rfl
        go_simp
        refine wpAnyH_ready (rs := [19]) (by kernel_rfl) (by simp) ?_
        refine AllReadyH.cons rfl (fun K hK => ?_) AllReadyH.nil
        go_simp
        refine hK.out _ _ trivial (fun hHeld => ?_)
        clear hK K
        refine wpAnyH_done (by kernel_rfl) ?_ _
        have PY := Lib.hid (show Rp w0 gm sb ⟨m.c, ⟨a0, a1, a2, a3⟩, (m.f.take i ++ m.f.drop (i + 1))⟩ (.slice ad4 L2 c4) (w4.setCell ⟨gm, 1, none⟩ (.slice ad4 L2 c4)) from RF.out.1)
        have AY := Lib.hid (A9.out.trans RF.out.2)
        have BY := Lib.hid (RF.out.2.row B9.out (NOB.out _ LQ.out))
        have ZY := Lib.hid (RF.out.2.row Z9.out (NOB.out _ (Nat.le_refl _)))
        have TY := Lib.hid (RF.out.2.row T9.out (NOB.out _ (Nat.le_succ _)))
        have NBY := Lib.hid (fun b (h1 : w.heap.size ≤ b) (h2 : b < X9.heap.size) => (fun q => (RF.out.2.own b q).elim (NOB.out b h1) (fun q => absurd h2 (by omega)) : ¬ Orf gm sb (.slice ad4 L2 c4) b))
        obtain ⟨YY, hY⟩ : ∃ Y, (w4.setCell ⟨gm, 1, none⟩ (.slice ad4 L2 c4)) = Y := ⟨_, rfl⟩
        rw [hY] at PY AY BY ZY TY
        rw [hY]
        have LZY := Lib.hid (old_of_row ZY.out)
        clear hY x0 x1 fz
        obtain ⟨x0, x1, x2, x3, x4, x5, x6, x7⟩ := cells_8 BY.out
        obtain ⟨u0, u1⟩ := cells_2M TY.out
        go_wp2_with (go_at_call 72; (with_reducible refine (HPT.out _ _ PY.out).mono ?_); rintro e' w8 ⟨rfl, v', hp, ha⟩; have P8 := Lib.hid hp; have A8 := Lib.hid (AY.out.trans ha); have NO := Lib.hid (show ¬ Orf gm sb v' w.heap.size from fun q => (ha.own _ q).elim (NBY.out _ (Nat.le_refl _) LZ9.out) (fun q => by have := LZY.out; omega)); have B8 := Lib.hid (ha.row BY.out (NBY.out _ LQ.out LB9.out)); have Z8 := Lib.hid (ha.row ZY.out (NBY.out _ (Nat.le_refl _) LZ9.out)); obtain ⟨s0, s1, s2, s3, s4, s5, s6, s7⟩ := cells_8 B8.out; obtain ⟨r0, r1, r2, r3, r4, r5, r6, r7⟩ := cells_8 Z8.out; have fz8 := frozN Z8.out; clear hp ha)
        refine bodyPost_ret (results_row_tmpT (p := 6) (u := 7) rfl _ _ w.heap.size 33 _ (0, 0) _ rfl (set_8 _ _ _ _ _ _ _ _ Z8.out) Tryd.underlying33 rfl (by kernel_rfl)) rfl ?_
        exact ⟨rfl, v', P8.out.stay (fun b hb => set_8_eq (fun q => NO.out (q ▸ hb))), set_8_asd A8.out (Nat.le_refl _)⟩
      · go_simp
        refine hK.out _ _ trivial (fun hHeld => ?_)
        clear hK K
        refine wpAnyH_take (i := 7) (v := ?_) rfl (by kernel_rfl) (by kernel_rfl) (by kernel_rfl) (fun _ _ _ h => h) (Or.inl ⟨by rfl, ?_⟩) (by assumption) ?_
        rotate_left
        · intro w hSw; go_simp; try with_reducible rfl
        go_simp
        refine wpAnyH_ready (rs := [1]) (by kernel_rfl) (by simp) ?_
        refine AllReadyH.cons rfl (fun K hK => ?_) AllReadyH.nil
        go_simp
        try rw [HSE.out]
        try rw [HWE.out]
        refine hK.out _ _ trivial (fun hHeld => ?_)
        clear hK K
        refine wpAnyH_ready (rs := [8]) (by kernel_rfl) (by simp) ?_
        refine AllReadyH.consLR rfl (fun K hK => ?_) AllReadyH.nil
        go_simp
        refine wpList_append_flr _ rfl _ _ rfl sE _ _ _ rfl O1.out _ (m.f.take i) rfl P1.out ?f1 ?f2 ?_
        case f1 => have := HI.out; have := HN.out; simp; omega
        case f2 => have := O1.out.lt sE rfl; omega
        rintro v3 w3 ho hg hb
        rw [HTI.out, Nat.zero_add, List.nil_append] at ho
        obtain ⟨ad3, c3, rfl⟩ := own_formR ho
        have K3 := Lib.hid (show Kp X9 w3 from Below.grown KE.out hg (Below.size KE.out) (fun k hk => by have := (O1.out.lt k hk).1; have := SE.out; omega))
        have O3 := Lib.hid ho
        have S3 := Lib.hid (show sE ≤ w3.heap.size from Nat.le_trans (by have := O1.out.lt sE rfl; omega) hg.size)
        have P3 := Lib.hid (P2.out.kp (show Kp wD w3 from Below.grown KDE.out hg (Below.size KDE.out) (fun k hk => by have := (O1.out.lt k hk).1; have := HSE.out; omega)))
        have e13 := kp_cell K3.out (cells_2R HS.out.row).2
        clear ho hg hb
        refine hK.out _ _ trivial (fun hHeld => ?_)
        clear hK K
        refine wpAnyH_ready (rs := [16]) (by kernel_rfl) (by simp) ?_
        refine AllReadyH.consLR rfl (fun K hK => ?_) AllReadyH.nil
        go_simp
        refine wpList_append_flr _ rfl _ _ rfl sE _ _ _ rfl O3.out _ (m.f.drop (i + 1)) rfl P3.out ?f3 ?f4 ?_
        case f3 => have := HI.out; have := HN.out; simp; omega
        case f4 => exact S3.out
        rintro v4 w4 ho hg hb
        rw [HL2.out] at ho
        obtain ⟨ad4, c4, rfl⟩ := own_formR ho
        have K4 := Lib.hid (show Kp X9 w4 from Below.grown K3.out hg (Below.size K3.out) (fun k hk => by have := (O3.out.lt k hk).1; have := SE.out; omega))
        have RF := Lib.hid (HS.out.fly K4.out (w3 := w4) (L := L2) ⟨rfl, rfl, rfl, Nat.le_refl _, fun _ _ _ => rfl⟩ (f := m.f.take i ++ m.f.drop (i + 1)) (by rw [List.length_append, HTI.out, HL2.out]) (by rw [flyB_app]; exact own_baseR (base := sE) ho (Nat.le_trans HS.out.bg (Nat.le_trans (Nat.le_of_lt (old_of_row HS.out.row)) SE.out))) (fun b q => .inr (by have := (ho.lt b q).1; have := SE.out; omega)))
        have r4 := kp_row K4.out HS.out.row
        obtain ⟨x0, x1⟩ := cells_2R r4
        have fz := frozN r4
        clear ho hg hb r4
        refine hK.out _ _ trivial (fun hHeld => ?_)
        clear hK K
        refine wpAnyH_take (i := 17) (v := ?_) rfl (by kernel_rfl) (by kernel_rfl) (by kernel_rfl) (fun _ _ _ h => h) (Or.inl ⟨by rfl, ?_⟩) (by assumption) ?_
        rotate_left
        · intro w hSw; go_simp; try with_reducible rfl
        go_simp
        refine wpAnyH_take (i := 18) (v := ?_) rfl (by kernel_rfl) (by kernel_rfl) (by kernel_rfl) (fun _ _ _ h => h) (Or.inl ⟨by rfl, ?_⟩) (by assumption) ?_
        rotate_left
        · intro w hSw; go_simp; try with_reducible rfl
        go_simp
        refine wpAnyH_ready (rs := [19]) (by kernel_rfl) (by simp) ?_
        refine AllReadyH.cons rfl (fun K hK => ?_) AllReadyH.nil
        go_simp
        refine hK.out _ _ trivial (fun hHeld => ?_)
        clear hK K
        refine wpAnyH_done (by kernel_rfl) ?_ _
        have PY := Lib.hid (show Rp w0 gm sb ⟨m.c, ⟨a0, a1, a2, a3⟩, (m.f.take i ++ m.f.drop (i + 1))⟩ (.slice ad4 L2 c4) (w4.setCell ⟨gm, 1, none⟩ (.slice ad4 L2 c4)) from RF.out.1)
        have AY := Lib.hid (A9.out.trans RF.out.2)
        have BY := Lib.hid (RF.out.2.row B9.out (NOB.out _ LQ.out))
        have ZY := Lib.hid (RF.out.2.row Z9.out (NOB.out _ (Nat.le_refl _)))
        have TY := Lib.hid (RF.out.2.row T9.out (NOB.out _ (Nat.le_succ _)))
        have NBY := Lib.hid (fun b (h1 : w.heap.size ≤ b) (h2 : b < X9.heap.size) => (fun q => (RF.out.2.own b q).elim (NOB.out b h1) (fun q => absurd h2 (by omega)) : ¬ Orf gm sb (.slice ad4 L2 c4) b))
        obtain ⟨YY, hY⟩ : ∃ Y, (w4.setCell ⟨gm, 1, none⟩ (.slice ad4 L2 c4)) = Y := ⟨_, rfl⟩
        rw [hY] at PY AY BY ZY TY
        rw [hY]
        have LZY := Lib.hid (old_of_row ZY.out)
        clear hY x0 x1 fz
        obtain ⟨x0, x1, x2, x3, x4, x5, x6, x7⟩ := cells_8 BY.out
        obtain ⟨u0, u1⟩ := cells_2M TY.out
        go_wp2_with (go_at_call 72; (with_reducible refine (HPT.out _ _ PY.out).mono ?_); rintro e' w8 ⟨rfl, v', hp, ha⟩; have P8 := Lib.hid hp; have A8 := Lib.hid (AY.out.trans ha); have NO := Lib.hid (show ¬ Orf gm sb v' w.heap.size from fun q => (ha.own _ q).elim (NBY.out _ (Nat.le_refl _) LZ9.out) (fun q => by have := LZY.out; omega)); have B8 := Lib.hid (ha.row BY.out (NBY.out _ LQ.out LB9.out)); have Z8 := Lib.hid (ha.row ZY.out (NBY.out _ (Nat.le_refl _) LZ9.out)); obtain ⟨s0, s1, s2, s3, s4, s5, s6, s7⟩ := cells_8 B8.out; obtain ⟨r0, r1, r2, r3, r4, r5, r6, r7⟩ := cells_8 Z8.out; have fz8 := frozN Z8.out; clear hp ha)
        refine bodyPost_ret (results_row_tmpT (p := 6) (u := 7) rfl _ _ w.heap.size 33 _ (0, 0) _ rfl (set_8 _ _ _ _ _ _ _ _ Z8.out) Tryd.underlying33 rfl (by kernel_rfl)) rfl ?_
        exact ⟨rfl, v', P8.out.stay (fun b hb => set_8_eq (fun q => NO.out (q ▸ hb))), set_8_asd A8.out (Nat.le_refl _)⟩
end Go.Proofs.YtghjnhdepeiloaaDoor

