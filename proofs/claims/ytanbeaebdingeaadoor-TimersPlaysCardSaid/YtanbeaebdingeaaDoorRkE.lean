/-
  THE DOCUMENT's CLOCK (own work): Drop.
-/
import Derived.Test.YtanbeaebdingeaaDoorRkA
import Derived.Lib.SmallJoins
namespace Go.Proofs.YtanbeaebdingeaaDoor
open Go.RowKit Go.ChangeShapes Go.WideShapes
variable {w0 w w' W w3 : World} {q : Nat} {c : CkM} {v v' : Value}

/-- THE TIMERS REPLACED by a row of the call's own -/
theorem Rk.new (h : Rk w0 q c v w) (hk : Kp w W) {L : Nat} {f : List Tm} (hL : f.length = L) (ho : W.ownsRow w.heap.size 47 5 v' L (tmE.row f)) :
    Rk w0 q ⟨c.now, f⟩ v' (W.setCell ⟨q, 1, none⟩ v') ∧ Asd (Or q v) (Or q v') w (W.setCell ⟨q, 1, none⟩ v') := by
  subst hL
  have hs := Below.size hk
  have hlt := old_of_row h.row
  have n6 : v'.ownBlock ≠ some q := fun e => by have := (ho.lt q e).1; omega
  have r1 := kp_row hk h.row
  refine ⟨⟨(Joins.block_setCell r1 _).trans rfl, h.bq, own_stayG (own_baseG ho (by have := h.bq; omega)) (fun b e => Below.heap_setCell _ _ _ _ (fun e2 => n6 (by rw [← show b = q from e2]; exact e)))⟩, ?_⟩
  refine ⟨hk.os, hk.tape, hk.output, by simpa using hs, fun b hb2 hn => ?_, fun b e => ?_⟩
  · rw [Below.heap_setCell _ _ _ _ (fun e => hn (.inl e))]
    exact Below.block hk b hb2
  · rcases e with rfl | e
    · exact .inl (.inl rfl)
    · exact .inr (ho.lt b e).1
theorem empty_rt (X : World) : (X.alloc (.cells #[] 47)).ownsRow X.heap.size 47 5 (.slice (some ⟨X.heap.size, 0, none⟩) 0 0) 0 (tmE.row []) :=
  ⟨by simp [EncG.row], Or.inr ⟨X.heap.size, 0, #[], rfl, Nat.le_refl _, (MapKept.heap_alloc X _).1, Nat.le_refl _, by omega, by simp, by simp [EncG.row]⟩⟩
set_option maxRecDepth 100000 in
theorem rkDrop_no (H : Rk w0 q c v w) (ok : CkOk c) {k : List UInt8} (h0 : c.has k = false) : Calls Tryd.prog 30 #[.pointer (some ⟨q, 0, none⟩), encStr k] w fun r w' => r = .returned (.bool false) ∧ Kp w w' := by
  have hfi := rkFind H ok.len k
  obtain ⟨ii, hii⟩ : ∃ x, c.findI k = x := ⟨_, rfl⟩
  obtain ⟨s, hs⟩ : ∃ s, (⟨k.toArray⟩ : ByteArray) = s := ⟨_, rfl⟩
  rw [hii] at hfi
  unfold encStr at hfi ⊢
  rw [hs] at hfi ⊢
  have HF := Lib.hid hfi
  have g2 : decide (ii ≥ 0) = false := decide_eq_false (by have := (findI_neg k).2 h0; omega)
  clear H ok h0 hfi hii hs
  go_enter Tryd.func30, Tryd.ntmps30
  go_wp2_with ((go_at_call 20; (with_reducible refine HF.out.mono ?_); rintro e' w6 ⟨rfl, hk6⟩))
  go_ret
  exact ⟨rfl, hk6⟩
set_option maxRecDepth 100000 in
set_option maxHeartbeats 4000000 in
theorem rkDrop_go (H : Rk w0 q c v w) (ok : CkOk c) {k : List UInt8} (h0 : c.has k = true) : Calls Tryd.prog 30 #[.pointer (some ⟨q, 0, none⟩), encStr k] w fun r w' => r = .returned (.bool true) ∧ ∃ v', Rk w0 q (c.drop k) v' w' ∧ Asd (Or q v) (Or q v') w w' := by
  have hfi := rkFind H ok.len k
  obtain ⟨ii, hii⟩ : ∃ x, c.findI k = x := ⟨_, rfl⟩
  obtain ⟨s, hs⟩ : ∃ s, (⟨k.toArray⟩ : ByteArray) = s := ⟨_, rfl⟩
  rw [hii] at hfi
  unfold encStr at hfi ⊢
  rw [hs] at hfi ⊢
  have HF := Lib.hid hfi
  have hlt := idx_lt.2 h0
  have hiI : ii = (c.idx k : Int) := by rw [← hii]; unfold CkM.findI; rw [if_pos hlt]
  unfold CkM.drop
  obtain ⟨i, hi0⟩ : ∃ i, c.idx k = i := ⟨_, rfl⟩
  rw [hi0] at hlt hiI ⊢
  obtain ⟨bv, cp, ev, -⟩ := H.cell hlt
  subst ev
  have HH := Lib.hid H
  have hl := ok.len
  have g2 : decide (ii ≥ 0) = true := decide_eq_true (by omega)
  obtain ⟨n, hn⟩ : ∃ m, c.ts.length = m := ⟨_, rfl⟩
  have HI := Lib.hid (show i < n ∧ n ≤ 64 by omega)
  have HII := Lib.hid (show (i : Int) = ii by omega)
  have HN := Lib.hid hn
  clear H hfi h0 hii hs ok hlt hi0 hl hiI hn
  go_enter Tryd.func30, Tryd.ntmps30
  go_wp2_with ((go_at_call 20; (with_reducible refine HF.out.mono ?_); rintro e' w6 ⟨rfl, hk6⟩))
  have hi := HI.out.1
  have hl := HI.out.2
  have hii := HII.out
  have H6 := Lib.hid (HH.out.kp hk6)
  have HK6 := Lib.hid hk6
  have kD : Kp w6 w6.drew := kp_drewR (Kp.refl _)
  obtain ⟨wD, hwD⟩ : ∃ x, w6.drew = x := ⟨_, rfl⟩
  rw [hwD] at kD
  have RD := H6.out.kp kD
  have ownD := RD.own
  rw [HN.out] at ownD
  obtain ⟨jj, hjj⟩ : ∃ jj : Int, ii + 1 = jj := ⟨_, rfl⟩
  have hnc : n ≤ cp := by
    rcases ownD.2 with ⟨e, _⟩ | ⟨_, _, _, e, _, _, h, _⟩
    · cases e
    · injection e with _ _ e
      omega
  have sz : ∃ i0, Tryd.prog.info? 47 = some i0 ∧ i0.size = 5 := by
    obtain ⟨i0, h1, _, h2, _⟩ := info_rt
    exact ⟨i0, h1, h2⟩
  have sh := fun w => sl_headG (P := Tryd.prog) (b := bv) Tryd.underlying29 sz hii (Nat.le_of_lt hi) hnc w
  have st := fun w => sl_tailG (P := Tryd.prog) (b := bv) (cp := cp) (i := i + 1) (ii := jj) (n := n) Tryd.underlying29 sz (by omega) (by omega) w
  obtain ⟨at2, hat⟩ : ∃ x : Nat, (if cp = i + 1 then 0 else (i + 1) * 5) = x := ⟨_, rfl⟩
  rw [hat] at st
  have p1 := own_takeG (E := tmE) (by decide) ownD (Nat.le_of_lt hi)
  have p2 := own_dropG (E := tmE) (by decide) ownD (i := i + 1) (by omega) ⟨bv, at2, none⟩ (fun q => by rw [← hat, if_neg (by omega)]; rfl) (cp - (i + 1))
  obtain ⟨q2, hq2⟩ : ∃ x, n - (i + 1) = x := ⟨_, rfl⟩
  obtain ⟨q3, hq3⟩ : ∃ x, cp - (i + 1) = x := ⟨_, rfl⟩
  rw [hq2, hq3] at st
  rw [hq2, hq3] at p2
  have hwj : IntKind.i64.wrap jj = jj := IntWalk.i64_in jj (by omega)
  have i0 : 0 ≤ ii := by omega
  have i1 : ii ≤ 1000 := by omega
  have e1D : wD.cell? ⟨q, 1, none⟩ = some (.slice (some ⟨bv, 0, none⟩) n cp) := by rw [← HN.out]; exact cell_row (i := 1) RD.row rfl
  have E1 := Lib.hid (show w6.cell? ⟨q, 1, none⟩ = some (.slice (some ⟨bv, 0, none⟩) n cp) by rw [← HN.out]; exact cell_row (i := 1) H6.out.row rfl)
  have kE := kp_alloc wD (.cells #[] 47)
  have e1E := kp_cell kE e1D
  have O1 := Lib.hid (empty_rt wD)
  have P1 := Lib.hid (p1.kp kE)
  have P2 := Lib.hid p2
  obtain ⟨wE, hwE⟩ : ∃ x, wD.alloc (.cells #[] 47) = x := ⟨_, rfl⟩
  obtain ⟨sE, hsE⟩ : ∃ x, wD.heap.size = x := ⟨_, rfl⟩
  rw [hwE] at kE e1E O1 P1
  rw [hsE] at O1
  have KE := Lib.hid (Kp.trans kD kE)
  have KDE := Lib.hid kE
  have SE := Lib.hid (show w6.heap.size ≤ sE by rw [← hsE]; exact Below.size kD)
  have HWD := Lib.hid hwD
  have HWE := Lib.hid hwE
  have HSE := Lib.hid hsE
  have HTI := Lib.hid (show (c.ts.take i).length = i by rw [List.length_take, HN.out]; omega)
  obtain ⟨L2, hL2⟩ : ∃ L, i + (c.ts.drop (i + 1)).length = L := ⟨_, rfl⟩
  have HL2 := Lib.hid hL2
  clear hL2 kD RD ownD hat p1 p2 hq2 hq3 kE hwD hwE hsE hnc sz hi hl hii hk6
  refine wp_region_held_drew (S := fun _ => True) (by kernel_rfl) ?_ (fun hHeld => ?_)
  · exact trivial
  rw [HWD.out]
  refine wpAnyH_take (i := 0) (v := ?_) rfl (by kernel_rfl) (by kernel_rfl) (by kernel_rfl) (fun _ _ _ h => h) (Or.inl ⟨by rfl, ?_⟩) (by assumption) ?_
  rotate_left
  · intro w hSw; go_simp; try with_reducible rfl
  go_simp
  refine wpAnyH_take (i := 2) (v := ?_) rfl (by kernel_rfl) (by kernel_rfl) (by kernel_rfl) (fun _ _ _ h => h) (Or.inl ⟨by rfl, ?_⟩) (by assumption) ?_
  rotate_left
  · intro w hSw; go_simp; try with_reducible rfl
  go_simp
  refine wpAnyH_take (i := 3) (v := ?_) rfl (by kernel_rfl) (by kernel_rfl) (by kernel_rfl) (fun _ _ _ h => h) (Or.inl ⟨by rfl, ?_⟩) (by assumption) ?_
  rotate_left
  · intro w hSw; go_simp; try with_reducible rfl
  go_simp
  refine wpAnyH_take (i := 4) (v := ?_) rfl (by kernel_rfl) (by kernel_rfl) (by kernel_rfl) (fun _ _ _ h => h) (Or.inl ⟨by rfl, ?_⟩) (by assumption) ?_
  rotate_left
  · intro w hSw; go_simp; try with_reducible rfl
  go_simp
  refine wpAnyH_take (i := 6) (v := ?_) rfl (by kernel_rfl) (by kernel_rfl) (by kernel_rfl) (fun _ _ _ h => h) (Or.inl ⟨by rfl, ?_⟩) (by assumption) ?_
  rotate_left
  · intro w hSw; go_simp; try with_reducible rfl
  go_simp
  refine wpAnyH_take (i := 9) (v := ?_) rfl (by kernel_rfl) (by kernel_rfl) (by kernel_rfl) (fun _ _ _ h => h) (Or.inl ⟨by rfl, ?_⟩) (by assumption) ?_
  rotate_left
  · intro w hSw; go_simp; try with_reducible rfl
  go_simp
  refine wpAnyH_take (i := 10) (v := ?_) rfl (by kernel_rfl) (by kernel_rfl) (by kernel_rfl) (fun _ _ _ h => h) (Or.inl ⟨by rfl, ?_⟩) (by assumption) ?_
  rotate_left
  · intro w hSw; go_simp; try with_reducible rfl
  go_simp
  refine wpAnyH_take (i := 11) (v := ?_) rfl (by kernel_rfl) (by kernel_rfl) (by kernel_rfl) (fun _ _ _ h => h) (Or.inl ⟨by rfl, ?_⟩) (by assumption) ?_
  rotate_left
  · intro w hSw; go_simp; try with_reducible rfl
  go_simp
  refine wpAnyH_take (i := 13) (v := ?_) rfl (by kernel_rfl) (by kernel_rfl) (by kernel_rfl) (fun _ _ _ h => h) (Or.inl ⟨by rfl, ?_⟩) (by assumption) ?_
  rotate_left
  · intro w hSw; go_simp; try with_reducible rfl
  go_simp
  refine wpAnyH_take (i := 14) (v := ?_) rfl (by kernel_rfl) (by kernel_rfl) (by kernel_rfl) (fun _ _ _ h => h) (Or.inl ⟨by rfl, ?_⟩) (by assumption) ?_
  rotate_left
  · intro w hSw; go_simp; try with_reducible rfl
  go_simp
  refine wpAnyH_ready (rs := [1, 5, 12]) (by kernel_rfl) (by simp) ?_
  refine AllReadyH.cons rfl (fun K hK => ?_) (AllReadyH.cons rfl (fun K hK => ?_) (AllReadyH.cons rfl (fun K hK => ?_) AllReadyH.nil))
  · go_simp
    try rw [HSE.out]
    try rw [HWE.out]
    refine hK.out _ _ trivial (fun hHeld => ?_)
    clear hK K
    refine wpAnyH_ready (rs := [5, 12]) (by kernel_rfl) (by simp) ?_
    refine AllReadyH.cons rfl (fun K hK => ?_) (AllReadyH.cons rfl (fun K hK => ?_) AllReadyH.nil)
    · go_simp
      refine hK.out _ _ trivial (fun hHeld => ?_)
      clear hK K
      refine wpAnyH_take (i := 7) (v := ?_) rfl (by kernel_rfl) (by kernel_rfl) (by kernel_rfl) (fun _ _ _ h => h) (Or.inl ⟨by rfl, ?_⟩) (by assumption) ?_
      rotate_left
      · intro w hSw; go_simp; try with_reducible rfl
      go_simp
      refine wpAnyH_ready (rs := [8, 12]) (by kernel_rfl) (by simp) ?_
      refine AllReadyH.consLG rfl (fun K hK => ?_) (AllReadyH.cons rfl (fun K hK => ?_) AllReadyH.nil)
      · go_simp
        refine wpList_append_rwG (E := tmE) ty_rt (by decide) _ rfl _ _ rfl sE _ 0 [] rfl O1.out _ (c.ts.take i) rfl P1.out ?f1 ?f2 ?_
        case f1 => have := HI.out; have := HN.out; simp; omega
        case f2 => have := O1.out.lt sE rfl; omega
        rintro v3 w3 ho hg hb
        rw [HTI.out, Nat.zero_add, List.nil_append] at ho
        obtain ⟨ad3, c3, rfl⟩ := own_formG ho
        have K3 := Lib.hid (show Kp w6 w3 from Below.grown KE.out hg (Below.size KE.out) (fun k hk => by have := (O1.out.lt k hk).1; have := SE.out; omega))
        have O3 := Lib.hid ho
        have S3 := Lib.hid (show sE ≤ w3.heap.size from Nat.le_trans (by have := O1.out.lt sE rfl; omega) hg.size)
        have P3 := Lib.hid (P2.out.kp (show Kp wD w3 from Below.grown KDE.out hg (Below.size KDE.out) (fun k hk => by have := (O1.out.lt k hk).1; have := HSE.out; omega)))
        have e13 : w3.cell? ⟨q, 1, none⟩ = some (.slice (some ⟨bv, 0, none⟩) n cp) := kp_cell K3.out E1.out
        clear ho hg hb
        refine hK.out _ _ trivial (fun hHeld => ?_)
        clear hK K
        refine wpAnyH_ready (rs := [12]) (by kernel_rfl) (by simp) ?_
        refine AllReadyH.cons rfl (fun K hK => ?_) AllReadyH.nil
        go_simp
        refine hK.out _ _ trivial (fun hHeld => ?_)
        clear hK K
        refine wpAnyH_take (i := 15) (v := ?_) rfl (by kernel_rfl) (by kernel_rfl) (by kernel_rfl) (fun _ _ _ h => h) (Or.inl ⟨by rfl, ?_⟩) (by assumption) ?_
        rotate_left
        · intro w hSw; go_simp; try with_reducible rfl
        go_simp
        refine wpAnyH_ready (rs := [16]) (by kernel_rfl) (by simp) ?_
        refine AllReadyH.consLG rfl (fun K hK => ?_) AllReadyH.nil
        go_simp
        refine wpList_append_rwG (E := tmE) ty_rt (by decide) _ rfl _ _ rfl sE _ i (c.ts.take i) rfl O3.out _ (c.ts.drop (i + 1)) rfl P3.out ?f3 ?f4 ?_
        case f3 => have := HI.out; have := HN.out; simp; omega
        case f4 => exact S3.out
        rintro v4 w4 ho hg hb
        rw [HL2.out] at ho
        obtain ⟨ad4, c4, rfl⟩ := own_formG ho
        have K4 := Lib.hid (show Kp w6 w4 from Below.grown K3.out hg (Below.size K3.out) (fun k hk => by have := (O3.out.lt k hk).1; have := SE.out; omega))
        have RF := Lib.hid (H6.out.new K4.out (L := L2) (f := c.ts.take i ++ c.ts.drop (i + 1)) (by rw [List.length_append, HTI.out, HL2.out]) (own_baseG (base := sE) ho SE.out))
        have r4 := kp_row K4.out H6.out.row
        have x1 := cell_row (i := 1) r4 rfl
        have fz := frozR r4
        clear ho hg hb r4
        refine hK.out _ _ trivial (fun hHeld => ?_)
        clear hK K
        refine wpAnyH_take (i := 17) (v := ?_) rfl (by kernel_rfl) (by kernel_rfl) (by kernel_rfl) (fun _ _ _ h => h) (Or.inl ⟨by rfl, ?_⟩) (by assumption) ?_
        rotate_left
        · intro w hSw; go_simp; try with_reducible rfl
        go_simp
        refine wpAnyH_take (i := 18) (v := ?_) rfl (by kernel_rfl) (by kernel_rfl) (by kernel_rfl) (fun _ _ _ h => h) (Or.inl ⟨by rfl, ?_⟩) (by assumption) ?_
        rotate_left
        · intro w hSw; go_simp; try with_reducible rfl
        go_simp
        refine wpAnyH_ready (rs := [19]) (by kernel_rfl) (by simp) ?_
        refine AllReadyH.cons rfl (fun K hK => ?_) AllReadyH.nil
        go_simp
        refine hK.out _ _ trivial (fun hHeld => ?_)
        clear hK K
        refine wpAnyH_done (by kernel_rfl) ?_ _
        go_wp2
        go_ret
        exact ⟨rfl, _, RF.out.1, (Asd.of_kp _ HK6.out).trans RF.out.2⟩
      · go_simp
        refine hK.out _ _ trivial (fun hHeld => ?_)
        clear hK K
        refine wpAnyH_take (i := 15) (v := ?_) rfl (by kernel_rfl) (by kernel_rfl) (by kernel_rfl) (fun _ _ _ h => h) (Or.inl ⟨by rfl, ?_⟩) (by assumption) ?_
        rotate_left
        · intro w hSw; go_simp; try with_reducible rfl
        go_simp
        refine wpAnyH_ready (rs := [8]) (by kernel_rfl) (by simp) ?_
        refine AllReadyH.consLG rfl (fun K hK => ?_) AllReadyH.nil
        go_simp
        refine wpList_append_rwG (E := tmE) ty_rt (by decide) _ rfl _ _ rfl sE _ 0 [] rfl O1.out _ (c.ts.take i) rfl P1.out ?f1 ?f2 ?_
        case f1 => have := HI.out; have := HN.out; simp; omega
        case f2 => have := O1.out.lt sE rfl; omega
        rintro v3 w3 ho hg hb
        rw [HTI.out, Nat.zero_add, List.nil_append] at ho
        obtain ⟨ad3, c3, rfl⟩ := own_formG ho
        have K3 := Lib.hid (show Kp w6 w3 from Below.grown KE.out hg (Below.size KE.out) (fun k hk => by have := (O1.out.lt k hk).1; have := SE.out; omega))
        have O3 := Lib.hid ho
        have S3 := Lib.hid (show sE ≤ w3.heap.size from Nat.le_trans (by have := O1.out.lt sE rfl; omega) hg.size)
        have P3 := Lib.hid (P2.out.kp (show Kp wD w3 from Below.grown KDE.out hg (Below.size KDE.out) (fun k hk => by have := (O1.out.lt k hk).1; have := HSE.out; omega)))
        have e13 : w3.cell? ⟨q, 1, none⟩ = some (.slice (some ⟨bv, 0, none⟩) n cp) := kp_cell K3.out E1.out
        clear ho hg hb
        refine hK.out _ _ trivial (fun hHeld => ?_)
        clear hK K
        refine wpAnyH_ready (rs := [16]) (by kernel_rfl) (by simp) ?_
        refine AllReadyH.consLG rfl (fun K hK => ?_) AllReadyH.nil
        go_simp
        refine wpList_append_rwG (E := tmE) ty_rt (by decide) _ rfl _ _ rfl sE _ i (c.ts.take i) rfl O3.out _ (c.ts.drop (i + 1)) rfl P3.out ?f3 ?f4 ?_
        case f3 => have := HI.out; have := HN.out; simp; omega
        case f4 => exact S3.out
        rintro v4 w4 ho hg hb
        rw [HL2.out] at ho
        obtain ⟨ad4, c4, rfl⟩ := own_formG ho
        have K4 := Lib.hid (show Kp w6 w4 from Below.grown K3.out hg (Below.size K3.out) (fun k hk => by have := (O3.out.lt k hk).1; have := SE.out; omega))
        have RF := Lib.hid (H6.out.new K4.out (L := L2) (f := c.ts.take i ++ c.ts.drop (i + 1)) (by rw [List.length_append, HTI.out, HL2.out]) (own_baseG (base := sE) ho SE.out))
        have r4 := kp_row K4.out H6.out.row
        have x1 := cell_row (i := 1) r4 rfl
        have fz := frozR r4
        clear ho hg hb r4
        refine hK.out _ _ trivial (fun hHeld => ?_)
        clear hK K
        refine wpAnyH_take (i := 17) (v := ?_) rfl (by kernel_rfl) (by kernel_rfl) (by kernel_rfl) (fun _ _ _ h => h) (Or.inl ⟨by rfl, ?_⟩) (by assumption) ?_
        rotate_left
        · intro w hSw; go_simp; try with_reducible rfl
        go_simp
        refine wpAnyH_take (i := 18) (v := ?_) rfl (by kernel_rfl) (by kernel_rfl) (by kernel_rfl) (fun _ _ _ h => h) (Or.inl ⟨by rfl, ?_⟩) (by assumption) ?_
        rotate_left
        · intro w hSw; go_simp; try with_reducible rfl
        go_simp
        refine wpAnyH_ready (rs := [19]) (by kernel_rfl) (by simp) ?_
        refine AllReadyH.cons rfl (fun K hK => ?_) AllReadyH.nil
        go_simp
        refine hK.out _ _ trivial (fun hHeld => ?_)
        clear hK K
        refine wpAnyH_done (by kernel_rfl) ?_ _
        go_wp2
        go_ret
        exact ⟨rfl, _, RF.out.1, (Asd.of_kp _ HK6.out).trans RF.out.2⟩
    · go_simp
      refine hK.out _ _ trivial (fun hHeld => ?_)
      clear hK K
      refine wpAnyH_take (i := 15) (v := ?_) rfl (by kernel_rfl) (by kernel_rfl) (by kernel_rfl) (fun _ _ _ h => h) (Or.inl ⟨by rfl, ?_⟩) (by assumption) ?_
      rotate_left
      · intro w hSw; go_simp; try with_reducible rfl
      go_simp
      refine wpAnyH_ready (rs := [5]) (by kernel_rfl) (by simp) ?_
      refine AllReadyH.cons rfl (fun K hK => ?_) AllReadyH.nil
      go_simp
      refine hK.out _ _ trivial (fun hHeld => ?_)
      clear hK K
      refine wpAnyH_take (i := 7) (v := ?_) rfl (by kernel_rfl) (by kernel_rfl) (by kernel_rfl) (fun _ _ _ h => h) (Or.inl ⟨by rfl, ?_⟩) (by assumption) ?_
      rotate_left
      · intro w hSw; go_simp; try with_reducible rfl
      go_simp
      refine wpAnyH_ready (rs := [8]) (by kernel_rfl) (by simp) ?_
      refine AllReadyH.consLG rfl (fun K hK => ?_) AllReadyH.nil
      go_simp
      refine wpList_append_rwG (E := tmE) ty_rt (by decide) _ rfl _ _ rfl sE _ 0 [] rfl O1.out _ (c.ts.take i) rfl P1.out ?f1 ?f2 ?_
      case f1 => have := HI.out; have := HN.out; simp; omega
      case f2 => have := O1.out.lt sE rfl; omega
      rintro v3 w3 ho hg hb
      rw [HTI.out, Nat.zero_add, List.nil_append] at ho
      obtain ⟨ad3, c3, rfl⟩ := own_formG ho
      have K3 := Lib.hid (show Kp w6 w3 from Below.grown KE.out hg (Below.size KE.out) (fun k hk => by have := (O1.out.lt k hk).1; have := SE.out; omega))
      have O3 := Lib.hid ho
      have S3 := Lib.hid (show sE ≤ w3.heap.size from Nat.le_trans (by have := O1.out.lt sE rfl; omega) hg.size)
      have P3 := Lib.hid (P2.out.kp (show Kp wD w3 from Below.grown KDE.out hg (Below.size KDE.out) (fun k hk => by have := (O1.out.lt k hk).1; have := HSE.out; omega)))
      have e13 : w3.cell? ⟨q, 1, none⟩ = some (.slice (some ⟨bv, 0, none⟩) n cp) := kp_cell K3.out E1.out
      clear ho hg hb
      refine hK.out _ _ trivial (fun hHeld => ?_)
      clear hK K
      refine wpAnyH_ready (rs := [16]) (by kernel_rfl) (by simp) ?_
      refine AllReadyH.consLG rfl (fun K hK => ?_) AllReadyH.nil
      go_simp
      refine wpList_append_rwG (E := tmE) ty_rt (by decide) _ rfl _ _ rfl sE _ i (c.ts.take i) rfl O3.out _ (c.ts.drop (i + 1)) rfl P3.out ?f3 ?f4 ?_
      case f3 => have := HI.out; have := HN.out; simp; omega
      case f4 => exact S3.out
      rintro v4 w4 ho hg hb
      rw [HL2.out] at ho
      obtain ⟨ad4, c4, rfl⟩ := own_formG ho
      have K4 := Lib.hid (show Kp w6 w4 from Below.grown K3.out hg (Below.size K3.out) (fun k hk => by have := (O3.out.lt k hk).1; have := SE.out; omega))
      have RF := Lib.hid (H6.out.new K4.out (L := L2) (f := c.ts.take i ++ c.ts.drop (i + 1)) (by rw [List.length_append, HTI.out, HL2.out]) (own_baseG (base := sE) ho SE.out))
      have r4 := kp_row K4.out H6.out.row
      have x1 := cell_row (i := 1) r4 rfl
      have fz := frozR r4
      clear ho hg hb r4
      refine hK.out _ _ trivial (fun hHeld => ?_)
      clear hK K
      refine wpAnyH_take (i := 17) (v := ?_) rfl (by kernel_rfl) (by kernel_rfl) (by kernel_rfl) (fun _ _ _ h => h) (Or.inl ⟨by rfl, ?_⟩) (by assumption) ?_
      rotate_left
      · intro w hSw; go_simp; try with_reducible rfl
      go_simp
      refine wpAnyH_take (i := 18) (v := ?_) rfl (by kernel_rfl) (by kernel_rfl) (by kernel_rfl) (fun _ _ _ h => h) (Or.inl ⟨by rfl, ?_⟩) (by assumption) ?_
      rotate_left
      · intro w hSw; go_simp; try with_reducible rfl
      go_simp
      refine wpAnyH_ready (rs := [19]) (by kernel_rfl) (by simp) ?_
      refine AllReadyH.cons rfl (fun K hK => ?_) AllReadyH.nil
      go_simp
      refine hK.out _ _ trivial (fun hHeld => ?_)
      clear hK K
      refine wpAnyH_done (by kernel_rfl) ?_ _
      go_wp2
      go_ret
      exact ⟨rfl, _, RF.out.1, (Asd.of_kp _ HK6.out).trans RF.out.2⟩
  · go_simp
    refine hK.out _ _ trivial (fun hHeld => ?_)
    clear hK K
    refine wpAnyH_take (i := 7) (v := ?_) rfl (by kernel_rfl) (by kernel_rfl) (by kernel_rfl) (fun _ _ _ h => h) (Or.inl ⟨by rfl, ?_⟩) (by assumption) ?_
    rotate_left
    · intro w hSw; go_simp; try with_reducible rfl
    go_simp
    refine wpAnyH_ready (rs := [1, 12]) (by kernel_rfl) (by simp) ?_
    refine AllReadyH.cons rfl (fun K hK => ?_) (AllReadyH.cons rfl (fun K hK => ?_) AllReadyH.nil)
    · go_simp
      try rw [HSE.out]
      try rw [HWE.out]
      refine hK.out _ _ trivial (fun hHeld => ?_)
      clear hK K
      refine wpAnyH_ready (rs := [8, 12]) (by kernel_rfl) (by simp) ?_
      refine AllReadyH.consLG rfl (fun K hK => ?_) (AllReadyH.cons rfl (fun K hK => ?_) AllReadyH.nil)
      · go_simp
        refine wpList_append_rwG (E := tmE) ty_rt (by decide) _ rfl _ _ rfl sE _ 0 [] rfl O1.out _ (c.ts.take i) rfl P1.out ?f1 ?f2 ?_
        case f1 => have := HI.out; have := HN.out; simp; omega
        case f2 => have := O1.out.lt sE rfl; omega
        rintro v3 w3 ho hg hb
        rw [HTI.out, Nat.zero_add, List.nil_append] at ho
        obtain ⟨ad3, c3, rfl⟩ := own_formG ho
        have K3 := Lib.hid (show Kp w6 w3 from Below.grown KE.out hg (Below.size KE.out) (fun k hk => by have := (O1.out.lt k hk).1; have := SE.out; omega))
        have O3 := Lib.hid ho
        have S3 := Lib.hid (show sE ≤ w3.heap.size from Nat.le_trans (by have := O1.out.lt sE rfl; omega) hg.size)
        have P3 := Lib.hid (P2.out.kp (show Kp wD w3 from Below.grown KDE.out hg (Below.size KDE.out) (fun k hk => by have := (O1.out.lt k hk).1; have := HSE.out; omega)))
        have e13 : w3.cell? ⟨q, 1, none⟩ = some (.slice (some ⟨bv, 0, none⟩) n cp) := kp_cell K3.out E1.out
        clear ho hg hb
        refine hK.out _ _ trivial (fun hHeld => ?_)
        clear hK K
        refine wpAnyH_ready (rs := [12]) (by kernel_rfl) (by simp) ?_
        refine AllReadyH.cons rfl (fun K hK => ?_) AllReadyH.nil
        go_simp
        refine hK.out _ _ trivial (fun hHeld => ?_)
        clear hK K
        refine wpAnyH_take (i := 15) (v := ?_) rfl (by kernel_rfl) (by kernel_rfl) (by kernel_rfl) (fun _ _ _ h => h) (Or.inl ⟨by rfl, ?_⟩) (by assumption) ?_
        rotate_left
        · intro w hSw; go_simp; try with_reducible rfl
        go_simp
        refine wpAnyH_ready (rs := [16]) (by kernel_rfl) (by simp) ?_
        refine AllReadyH.consLG rfl (fun K hK => ?_) AllReadyH.nil
        go_simp
        refine wpList_append_rwG (E := tmE) ty_rt (by decide) _ rfl _ _ rfl sE _ i (c.ts.take i) rfl O3.out _ (c.ts.drop (i + 1)) rfl P3.out ?f3 ?f4 ?_
        case f3 => have := HI.out; have := HN.out; simp; omega
        case f4 => exact S3.out
        rintro v4 w4 ho hg hb
        rw [HL2.out] at ho
        obtain ⟨ad4, c4, rfl⟩ := own_formG ho
        have K4 := Lib.hid (show Kp w6 w4 from Below.grown K3.out hg (Below.size K3.out) (fun k hk => by have := (O3.out.lt k hk).1; have := SE.out; omega))
        have RF := Lib.hid (H6.out.new K4.out (L := L2) (f := c.ts.take i ++ c.ts.drop (i + 1)) (by rw [List.length_append, HTI.out, HL2.out]) (own_baseG (base := sE) ho SE.out))
        have r4 := kp_row K4.out H6.out.row
        have x1 := cell_row (i := 1) r4 rfl
        have fz := frozR r4
        clear ho hg hb r4
        refine hK.out _ _ trivial (fun hHeld => ?_)
        clear hK K
        refine wpAnyH_take (i := 17) (v := ?_) rfl (by kernel_rfl) (by kernel_rfl) (by kernel_rfl) (fun _ _ _ h => h) (Or.inl ⟨by rfl, ?_⟩) (by assumption) ?_
        rotate_left
        · intro w hSw; go_simp; try with_reducible rfl
        go_simp
        refine wpAnyH_take (i := 18) (v := ?_) rfl (by kernel_rfl) (by kernel_rfl) (by kernel_rfl) (fun _ _ _ h => h) (Or.inl ⟨by rfl, ?_⟩) (by assumption) ?_
        rotate_left
        · intro w hSw; go_simp; try with_reducible rfl
        go_simp
        refine wpAnyH_ready (rs := [19]) (by kernel_rfl) (by simp) ?_
        refine AllReadyH.cons rfl (fun K hK => ?_) AllReadyH.nil
        go_simp
        refine hK.out _ _ trivial (fun hHeld => ?_)
        clear hK K
        refine wpAnyH_done (by kernel_rfl) ?_ _
        go_wp2
        go_ret
        exact ⟨rfl, _, RF.out.1, (Asd.of_kp _ HK6.out).trans RF.out.2⟩
      · go_simp
        refine hK.out _ _ trivial (fun hHeld => ?_)
        clear hK K
        refine wpAnyH_take (i := 15) (v := ?_) rfl (by kernel_rfl) (by kernel_rfl) (by kernel_rfl) (fun _ _ _ h => h) (Or.inl ⟨by rfl, ?_⟩) (by assumption) ?_
        rotate_left
        · intro w hSw; go_simp; try with_reducible rfl
        go_simp
        refine wpAnyH_ready (rs := [8]) (by kernel_rfl) (by simp) ?_
        refine AllReadyH.consLG rfl (fun K hK => ?_) AllReadyH.nil
        go_simp
        refine wpList_append_rwG (E := tmE) ty_rt (by decide) _ rfl _ _ rfl sE _ 0 [] rfl O1.out _ (c.ts.take i) rfl P1.out ?f1 ?f2 ?_
        case f1 => have := HI.out; have := HN.out; simp; omega
        case f2 => have := O1.out.lt sE rfl; omega
        rintro v3 w3 ho hg hb
        rw [HTI.out, Nat.zero_add, List.nil_append] at ho
        obtain ⟨ad3, c3, rfl⟩ := own_formG ho
        have K3 := Lib.hid (show Kp w6 w3 from Below.grown KE.out hg (Below.size KE.out) (fun k hk => by have := (O1.out.lt k hk).1; have := SE.out; omega))
        have O3 := Lib.hid ho
        have S3 := Lib.hid (show sE ≤ w3.heap.size from Nat.le_trans (by have := O1.out.lt sE rfl; omega) hg.size)
        have P3 := Lib.hid (P2.out.kp (show Kp wD w3 from Below.grown KDE.out hg (Below.size KDE.out) (fun k hk => by have := (O1.out.lt k hk).1; have := HSE.out; omega)))
        have e13 : w3.cell? ⟨q, 1, none⟩ = some (.slice (some ⟨bv, 0, none⟩) n cp) := kp_cell K3.out E1.out
        clear ho hg hb
        refine hK.out _ _ trivial (fun hHeld => ?_)
        clear hK K
        refine wpAnyH_ready (rs := [16]) (by kernel_rfl) (by simp) ?_
        refine AllReadyH.consLG rfl (fun K hK => ?_) AllReadyH.nil
        go_simp
        refine wpList_append_rwG (E := tmE) ty_rt (by decide) _ rfl _ _ rfl sE _ i (c.ts.take i) rfl O3.out _ (c.ts.drop (i + 1)) rfl P3.out ?f3 ?f4 ?_
        case f3 => have := HI.out; have := HN.out; simp; omega
        case f4 => exact S3.out
        rintro v4 w4 ho hg hb
        rw [HL2.out] at ho
        obtain ⟨ad4, c4, rfl⟩ := own_formG ho
        have K4 := Lib.hid (show Kp w6 w4 from Below.grown K3.out hg (Below.size K3.out) (fun k hk => by have := (O3.out.lt k hk).1; have := SE.out; omega))
        have RF := Lib.hid (H6.out.new K4.out (L := L2) (f := c.ts.take i ++ c.ts.drop (i + 1)) (by rw [List.length_append, HTI.out, HL2.out]) (own_baseG (base := sE) ho SE.out))
        have r4 := kp_row K4.out H6.out.row
        have x1 := cell_row (i := 1) r4 rfl
        have fz := frozR r4
        clear ho hg hb r4
        refine hK.out _ _ trivial (fun hHeld => ?_)
        clear hK K
        refine wpAnyH_take (i := 17) (v := ?_) rfl (by kernel_rfl) (by kernel_rfl) (by kernel_rfl) (fun _ _ _ h => h) (Or.inl ⟨by rfl, ?_⟩) (by assumption) ?_
        rotate_left
        · intro w hSw; go_simp; try with_reducible rfl
        go_simp
        refine wpAnyH_take (i := 18) (v := ?_) rfl (by kernel_rfl) (by kernel_rfl) (by kernel_rfl) (fun _ _ _ h => h) (Or.inl ⟨by rfl, ?_⟩) (by assumption) ?_
        rotate_left
        · intro w hSw; go_simp; try with_reducible rfl
        go_simp
        refine wpAnyH_ready (rs := [19]) (by kernel_rfl) (by simp) ?_
        refine AllReadyH.cons rfl (fun K hK => ?_) AllReadyH.nil
        go_simp
        refine hK.out _ _ trivial (fun hHeld => ?_)
        clear hK K
        refine wpAnyH_done (by kernel_rfl) ?_ _
        go_wp2
        go_ret
        exact ⟨rfl, _, RF.out.1, (Asd.of_kp _ HK6.out).trans RF.out.2⟩
    · go_simp
      refine hK.out _ _ trivial (fun hHeld => ?_)
      clear hK K
      refine wpAnyH_take (i := 15) (v := ?_) rfl (by kernel_rfl) (by kernel_rfl) (by kernel_rfl) (fun _ _ _ h => h) (Or.inl ⟨by rfl, ?_⟩) (by assumption) ?_
      rotate_left
      · intro w hSw; go_simp; try with_reducible rfl
      go_simp
      refine wpAnyH_ready (rs := [1]) (by kernel_rfl) (by simp) ?_
      refine AllReadyH.cons rfl (fun K hK => ?_) AllReadyH.nil
      go_simp
      try rw [HSE.out]
      try rw [HWE.out]
      refine hK.out _ _ trivial (fun hHeld => ?_)
      clear hK K
      refine wpAnyH_ready (rs := [8]) (by kernel_rfl) (by simp) ?_
      refine AllReadyH.consLG rfl (fun K hK => ?_) AllReadyH.nil
      go_simp
      refine wpList_append_rwG (E := tmE) ty_rt (by decide) _ rfl _ _ rfl sE _ 0 [] rfl O1.out _ (c.ts.take i) rfl P1.out ?f1 ?f2 ?_
      case f1 => have := HI.out; have := HN.out; simp; omega
      case f2 => have := O1.out.lt sE rfl; omega
      rintro v3 w3 ho hg hb
      rw [HTI.out, Nat.zero_add, List.nil_append] at ho
      obtain ⟨ad3, c3, rfl⟩ := own_formG ho
      have K3 := Lib.hid (show Kp w6 w3 from Below.grown KE.out hg (Below.size KE.out) (fun k hk => by have := (O1.out.lt k hk).1; have := SE.out; omega))
      have O3 := Lib.hid ho
      have S3 := Lib.hid (show sE ≤ w3.heap.size from Nat.le_trans (by have := O1.out.lt sE rfl; omega) hg.size)
      have P3 := Lib.hid (P2.out.kp (show Kp wD w3 from Below.grown KDE.out hg (Below.size KDE.out) (fun k hk => by have := (O1.out.lt k hk).1; have := HSE.out; omega)))
      have e13 : w3.cell? ⟨q, 1, none⟩ = some (.slice (some ⟨bv, 0, none⟩) n cp) := kp_cell K3.out E1.out
      clear ho hg hb
      refine hK.out _ _ trivial (fun hHeld => ?_)
      clear hK K
      refine wpAnyH_ready (rs := [16]) (by kernel_rfl) (by simp) ?_
      refine AllReadyH.consLG rfl (fun K hK => ?_) AllReadyH.nil
      go_simp
      refine wpList_append_rwG (E := tmE) ty_rt (by decide) _ rfl _ _ rfl sE _ i (c.ts.take i) rfl O3.out _ (c.ts.drop (i + 1)) rfl P3.out ?f3 ?f4 ?_
      case f3 => have := HI.out; have := HN.out; simp; omega
      case f4 => exact S3.out
      rintro v4 w4 ho hg hb
      rw [HL2.out] at ho
      obtain ⟨ad4, c4, rfl⟩ := own_formG ho
      have K4 := Lib.hid (show Kp w6 w4 from Below.grown K3.out hg (Below.size K3.out) (fun k hk => by have := (O3.out.lt k hk).1; have := SE.out; omega))
      have RF := Lib.hid (H6.out.new K4.out (L := L2) (f := c.ts.take i ++ c.ts.drop (i + 1)) (by rw [List.length_append, HTI.out, HL2.out]) (own_baseG (base := sE) ho SE.out))
      have r4 := kp_row K4.out H6.out.row
      have x1 := cell_row (i := 1) r4 rfl
      have fz := frozR r4
      clear ho hg hb r4
      refine hK.out _ _ trivial (fun hHeld => ?_)
      clear hK K
      refine wpAnyH_take (i := 17) (v := ?_) rfl (by kernel_rfl) (by kernel_rfl) (by kernel_rfl) (fun _ _ _ h => h) (Or.inl ⟨by rfl, ?_⟩) (by assumption) ?_
      rotate_left
      · intro w hSw; go_simp; try with_reducible rfl
      go_simp
      refine wpAnyH_take (i := 18) (v := ?_) rfl (by kernel_rfl) (by kernel_rfl) (by kernel_rfl) (fun _ _ _ h => h) (Or.inl ⟨by rfl, ?_⟩) (by assumption) ?_
      rotate_left
      · intro w hSw; go_simp; try with_reducible rfl
      go_simp
      refine wpAnyH_ready (rs := [19]) (by kernel_rfl) (by simp) ?_
      refine AllReadyH.cons rfl (fun K hK => ?_) AllReadyH.nil
      go_simp
      refine hK.out _ _ trivial (fun hHeld => ?_)
      clear hK K
      refine wpAnyH_done (by kernel_rfl) ?_ _
      go_wp2
      go_ret
      exact ⟨rfl, _, RF.out.1, (Asd.of_kp _ HK6.out).trans RF.out.2⟩
  · go_simp
    refine hK.out _ _ trivial (fun hHeld => ?_)
    clear hK K
    refine wpAnyH_take (i := 15) (v := ?_) rfl (by kernel_rfl) (by kernel_rfl) (by kernel_rfl) (fun _ _ _ h => h) (Or.inl ⟨by rfl, ?_⟩) (by assumption) ?_
    rotate_left
    · intro w hSw; go_simp; try with_reducible rfl
    go_simp
    refine wpAnyH_ready (rs := [1, 5]) (by kernel_rfl) (by simp) ?_
    refine AllReadyH.cons rfl (fun K hK => ?_) (AllReadyH.cons rfl (fun K hK => ?_) AllReadyH.nil)
    · go_simp
      try rw [HSE.out]
      try rw [HWE.out]
      refine hK.out _ _ trivial (fun hHeld => ?_)
      clear hK K
      refine wpAnyH_ready (rs := [5]) (by kernel_rfl) (by simp) ?_
      refine AllReadyH.cons rfl (fun K hK => ?_) AllReadyH.nil
      go_simp
      refine hK.out _ _ trivial (fun hHeld => ?_)
      clear hK K
      refine wpAnyH_take (i := 7) (v := ?_) rfl (by kernel_rfl) (by kernel_rfl) (by kernel_rfl) (fun _ _ _ h => h) (Or.inl ⟨by rfl, ?_⟩) (by assumption) ?_
      rotate_left
      · intro w hSw; go_simp; try with_reducible rfl
      go_simp
      refine wpAnyH_ready (rs := [8]) (by kernel_rfl) (by simp) ?_
      refine AllReadyH.consLG rfl (fun K hK => ?_) AllReadyH.nil
      go_simp
      refine wpList_append_rwG (E := tmE) ty_rt (by decide) _ rfl _ _ rfl sE _ 0 [] rfl O1.out _ (c.ts.take i) rfl P1.out ?f1 ?f2 ?_
      case f1 => have := HI.out; have := HN.out; simp; omega
      case f2 => have := O1.out.lt sE rfl; omega
      rintro v3 w3 ho hg hb
      rw [HTI.out, Nat.zero_add, List.nil_append] at ho
      obtain ⟨ad3, c3, rfl⟩ := own_formG ho
      have K3 := Lib.hid (show Kp w6 w3 from Below.grown KE.out hg (Below.size KE.out) (fun k hk => by have := (O1.out.lt k hk).1; have := SE.out; omega))
      have O3 := Lib.hid ho
      have S3 := Lib.hid (show sE ≤ w3.heap.size from Nat.le_trans (by have := O1.out.lt sE rfl; omega) hg.size)
      have P3 := Lib.hid (P2.out.kp (show Kp wD w3 from Below.grown KDE.out hg (Below.size KDE.out) (fun k hk => by have := (O1.out.lt k hk).1; have := HSE.out; omega)))
      have e13 : w3.cell? ⟨q, 1, none⟩ = some (.slice (some ⟨bv, 0, none⟩) n cp) := kp_cell K3.out E1.out
      clear ho hg hb
      refine hK.out _ _ trivial (fun hHeld => ?_)
      clear hK K
      refine wpAnyH_ready (rs := [16]) (by kernel_rfl) (by simp) ?_
      refine AllReadyH.consLG rfl (fun K hK => ?_) AllReadyH.nil
      go_simp
      refine wpList_append_rwG (E := tmE) ty_rt (by decide) _ rfl _ _ rfl sE _ i (c.ts.take i) rfl O3.out _ (c.ts.drop (i + 1)) rfl P3.out ?f3 ?f4 ?_
      case f3 => have := HI.out; have := HN.out; simp; omega
      case f4 => exact S3.out
      rintro v4 w4 ho hg hb
      rw [HL2.out] at ho
      obtain ⟨ad4, c4, rfl⟩ := own_formG ho
      have K4 := Lib.hid (show Kp w6 w4 from Below.grown K3.out hg (Below.size K3.out) (fun k hk => by have := (O3.out.lt k hk).1; have := SE.out; omega))
      have RF := Lib.hid (H6.out.new K4.out (L := L2) (f := c.ts.take i ++ c.ts.drop (i + 1)) (by rw [List.length_append, HTI.out, HL2.out]) (own_baseG (base := sE) ho SE.out))
      have r4 := kp_row K4.out H6.out.row
      have x1 := cell_row (i := 1) r4 rfl
      have fz := frozR r4
      clear ho hg hb r4
      refine hK.out _ _ trivial (fun hHeld => ?_)
      clear hK K
      refine wpAnyH_take (i := 17) (v := ?_) rfl (by kernel_rfl) (by kernel_rfl) (by kernel_rfl) (fun _ _ _ h => h) (Or.inl ⟨by rfl, ?_⟩) (by assumption) ?_
      rotate_left
      · intro w hSw; go_simp; try with_reducible rfl
      go_simp
      refine wpAnyH_take (i := 18) (v := ?_) rfl (by kernel_rfl) (by kernel_rfl) (by kernel_rfl) (fun _ _ _ h => h) (Or.inl ⟨by rfl, ?_⟩) (by assumption) ?_
      rotate_left
      · intro w hSw; go_simp; try with_reducible rfl
      go_simp
      refine wpAnyH_ready (rs := [19]) (by kernel_rfl) (by simp) ?_
      refine AllReadyH.cons rfl (fun K hK => ?_) AllReadyH.nil
      go_simp
      refine hK.out _ _ trivial (fun hHeld => ?_)
      clear hK K
      refine wpAnyH_done (by kernel_rfl) ?_ _
      go_wp2
      go_ret
      exact ⟨rfl, _, RF.out.1, (Asd.of_kp _ HK6.out).trans RF.out.2⟩
    · go_simp
      refine hK.out _ _ trivial (fun hHeld => ?_)
      clear hK K
      refine wpAnyH_take (i := 7) (v := ?_) rfl (by kernel_rfl) (by kernel_rfl) (by kernel_rfl) (fun _ _ _ h => h) (Or.inl ⟨by rfl, ?_⟩) (by assumption) ?_
      rotate_left
      · intro w hSw; go_simp; try with_reducible rfl
      go_simp
      refine wpAnyH_ready (rs := [1]) (by kernel_rfl) (by simp) ?_
      refine AllReadyH.cons rfl (fun K hK => ?_) AllReadyH.nil
      go_simp
      try rw [HSE.out]
      try rw [HWE.out]
      refine hK.out _ _ trivial (fun hHeld => ?_)
      clear hK K
      refine wpAnyH_ready (rs := [8]) (by kernel_rfl) (by simp) ?_
      refine AllReadyH.consLG rfl (fun K hK => ?_) AllReadyH.nil
      go_simp
      refine wpList_append_rwG (E := tmE) ty_rt (by decide) _ rfl _ _ rfl sE _ 0 [] rfl O1.out _ (c.ts.take i) rfl P1.out ?f1 ?f2 ?_
      case f1 => have := HI.out; have := HN.out; simp; omega
      case f2 => have := O1.out.lt sE rfl; omega
      rintro v3 w3 ho hg hb
      rw [HTI.out, Nat.zero_add, List.nil_append] at ho
      obtain ⟨ad3, c3, rfl⟩ := own_formG ho
      have K3 := Lib.hid (show Kp w6 w3 from Below.grown KE.out hg (Below.size KE.out) (fun k hk => by have := (O1.out.lt k hk).1; have := SE.out; omega))
      have O3 := Lib.hid ho
      have S3 := Lib.hid (show sE ≤ w3.heap.size from Nat.le_trans (by have := O1.out.lt sE rfl; omega) hg.size)
      have P3 := Lib.hid (P2.out.kp (show Kp wD w3 from Below.grown KDE.out hg (Below.size KDE.out) (fun k hk => by have := (O1.out.lt k hk).1; have := HSE.out; omega)))
      have e13 : w3.cell? ⟨q, 1, none⟩ = some (.slice (some ⟨bv, 0, none⟩) n cp) := kp_cell K3.out E1.out
      clear ho hg hb
      refine hK.out _ _ trivial (fun hHeld => ?_)
      clear hK K
      refine wpAnyH_ready (rs := [16]) (by kernel_rfl) (by simp) ?_
      refine AllReadyH.consLG rfl (fun K hK => ?_) AllReadyH.nil
      go_simp
      refine wpList_append_rwG (E := tmE) ty_rt (by decide) _ rfl _ _ rfl sE _ i (c.ts.take i) rfl O3.out _ (c.ts.drop (i + 1)) rfl P3.out ?f3 ?f4 ?_
      case f3 => have := HI.out; have := HN.out; simp; omega
      case f4 => exact S3.out
      rintro v4 w4 ho hg hb
      rw [HL2.out] at ho
      obtain ⟨ad4, c4, rfl⟩ := own_formG ho
      have K4 := Lib.hid (show Kp w6 w4 from Below.grown K3.out hg (Below.size K3.out) (fun k hk => by have := (O3.out.lt k hk).1; have := SE.out; omega))
      have RF := Lib.hid (H6.out.new K4.out (L := L2) (f := c.ts.take i ++ c.ts.drop (i + 1)) (by rw [List.length_append, HTI.out, HL2.out]) (own_baseG (base := sE) ho SE.out))
      have r4 := kp_row K4.out H6.out.row
      have x1 := cell_row (i := 1) r4 rfl
      have fz := frozR r4
      clear ho hg hb r4
      refine hK.out _ _ trivial (fun hHeld => ?_)
      clear hK K
      refine wpAnyH_take (i := 17) (v := ?_) rfl (by kernel_rfl) (by kernel_rfl) (by kernel_rfl) (fun _ _ _ h => h) (Or.inl ⟨by rfl, ?_⟩) (by assumption) ?_
      rotate_left
      · intro w hSw; go_simp; try with_reducible rfl
      go_simp
      refine wpAnyH_take (i := 18) (v := ?_) rfl (by kernel_rfl) (by kernel_rfl) (by kernel_rfl) (fun _ _ _ h => h) (Or.inl ⟨by rfl, ?_⟩) (by assumption) ?_
      rotate_left
      · intro w hSw; go_simp; try with_reducible rfl
      go_simp
      refine wpAnyH_ready (rs := [19]) (by kernel_rfl) (by simp) ?_
      refine AllReadyH.cons rfl (fun K hK => ?_) AllReadyH.nil
      go_simp
      refine hK.out _ _ trivial (fun hHeld => ?_)
      clear hK K
      refine wpAnyH_done (by kernel_rfl) ?_ _
      go_wp2
      go_ret
      exact ⟨rfl, _, RF.out.1, (Asd.of_kp _ HK6.out).trans RF.out.2⟩
theorem rkDrop_any (H : Rk w0 q c v w) (ok : CkOk c) (k : List UInt8) : Calls Tryd.prog 30 #[.pointer (some ⟨q, 0, none⟩), encStr k] w fun r w' => r = .returned (.bool (c.has k)) ∧ ∃ v', Rk w0 q (c.drop k) v' w' ∧ Asd (Or q v) (Or q v') w w' := by
  cases h0 : c.has k with
  | true => exact rkDrop_go H ok h0
  | false =>
    rw [drop_no h0]
    exact (rkDrop_no H ok h0).mono fun r w' ⟨q1, q2⟩ => ⟨q1, v, H.kp q2, Asd.of_kp _ q2⟩
end Go.Proofs.YtanbeaebdingeaaDoor
