/-
  THE DOCUMENT's NET (own work): Copy.
-/
import Derived.Test.YtjffkfcokgcenaaDoorRnD
namespace Go.Proofs.YtjffkfcokgcenaaDoor
open Go.RowKit Go.ChangeShapes Go.WideShapes
variable {w0 w w' W w3 : World} {q : Nat} {m : NetM} {v v' vc : Value} {rb : List Nat}

set_option maxRecDepth 100000 in
theorem rnCopy_no (H : Rn w0 q m v vc rb w) (ii : Int) (h : m.there ii = false) : Calls Tryd.prog 27 #[.pointer (some ⟨q, 0, none⟩), .int .i64 ii] w fun r w' => r = .returned (.int .i64 1) ∧ w = w' := by
  have ht := rnThere_any H ii
  rw [h] at ht
  have HT := Lib.hid ht
  clear H h ht
  go_enter Tryd.func27, Tryd.ntmps27
  go_wp2_with (go_at_call 42; (with_reducible refine HT.out.mono ?_); rintro e' w3 ⟨rfl, rfl⟩)
  go_ret
  exact ⟨rfl, rfl⟩
set_option maxRecDepth 100000 in
theorem rnCopy_full (H : Rn w0 q m v vc rb w) (ii : Int) (h : m.there ii = true) (hf : 63 < m.f.length) : Calls Tryd.prog 27 #[.pointer (some ⟨q, 0, none⟩), .int .i64 ii] w fun r w' => r = .returned (.int .i64 6) ∧ w = w' := by
  have ht := rnThere_any H ii
  rw [h] at ht
  have HT := Lib.hid ht
  obtain ⟨av, cv, rfl⟩ := H.form
  obtain ⟨n, hn⟩ : ∃ n, m.f.length = n := ⟨_, rfl⟩
  have y1 := cell_row (i := 1) H.row rfl
  rw [hn] at y1 hf
  obtain ⟨nf, hnf⟩ : ∃ x : Int, (n : Int) = x := ⟨_, rfl⟩
  have g2 : decide (nf > 63) = true := decide_eq_true (by omega)
  clear H h ht hn hf
  go_enter Tryd.func27, Tryd.ntmps27
  go_wp2_with (go_at_call 42; (with_reducible refine HT.out.mono ?_); rintro e' w3 ⟨rfl, rfl⟩)
  go_ret
  exact ⟨rfl, rfl⟩
set_option maxRecDepth 100000 in
set_option maxHeartbeats 4000000 in
theorem rnCopy_ok (H : Rn w0 q m v vc rb w) (ii : Int) (h : m.there ii = true) (hf : ¬ 63 < m.f.length) (a b : Int) (d : List Int) (hd : m.f.getD ii.toNat lt0 = ⟨a, b, d⟩) : Calls Tryd.prog 27 #[.pointer (some ⟨q, 0, none⟩), .int .i64 ii] w fun r w' => r = .returned (.int .i64 0) ∧ ∃ v', Rn w0 q ⟨m.n, m.f ++ [⟨a, b, d⟩], m.cut, m.lost⟩ v' vc rb w' ∧ Asd (On q v vc rb) (On q v' vc rb) w w' := by
  have ht := rnThere_any H ii
  rw [h] at ht
  have HT := Lib.hid ht
  obtain ⟨hi0, hlt⟩ := there_lt h
  have hown := H.own
  obtain ⟨s, hs⟩ : ∃ s, strOfNums d = s := ⟨_, rfl⟩
  have HS := Lib.hid hs
  rcases hown.2 with ⟨rfl, h0⟩ | ⟨bv, cp, cur, rfl, hb, hh, hnc, -⟩
  · omega
  obtain ⟨n, hN⟩ : ∃ n, m.f.length = n := ⟨_, rfl⟩
  have hget : m.f[ii.toNat] = ⟨a, b, d⟩ := by rw [← hd, List.getD_eq_getElem?_getD, List.getElem?_eq_getElem hlt]; rfl
  have cc : ∀ (k : Nat) (u : Value), k < 3 → (ltE.enc ⟨a, b, d⟩)[k]? = some u → w.cell? ⟨bv, ii.toNat * 3 + k, none⟩ = some u := fun k u hk hu => by
    have := hown.cells rfl (ii.toNat * 3 + k) u (by rw [← hu, ← hget]; exact row_at ltE m.f ii.toNat hlt k hk)
    rw [Addr.add_lit, Nat.zero_add] at this
    exact this
  have kx : Kp w w.drew := kp_drewR (Kp.refl _)
  obtain ⟨X, hX⟩ : ∃ X, w.drew = X := ⟨_, rfl⟩
  rw [hX] at kx
  have HXW := Lib.hid hX
  have ND := Lib.hid (H.kp kx)
  have AD := Lib.hid (Asd.of_kp (On q (.slice (some ⟨bv, 0, none⟩) m.f.length cp) vc rb) kx)
  have c0 : X.cell? ⟨bv, ii.toNat * 3, none⟩ = some (.int .i64 a) := kp_cell kx (cc 0 _ (by decide) rfl)
  have c1 : X.cell? ⟨bv, ii.toNat * 3 + 1, none⟩ = some (.int .i64 b) := kp_cell kx (cc 1 _ (by decide) rfl)
  have c2 : X.cell? ⟨bv, ii.toNat * 3 + 2, none⟩ = some (.string (strOfNums d)) := kp_cell kx (cc 2 _ (by decide) rfl)
  rw [hs] at c2
  have y1 := cell_row (i := 1) H.row rfl
  have e1 := cell_row (i := 1) ND.out.row rfl
  rw [hN] at y1 e1 hf hlt
  have HF := Lib.hid hf
  obtain ⟨nf, hnf⟩ : ∃ x : Int, (n : Int) = x := ⟨_, rfl⟩
  have g2 : decide (nf > 63) = false := decide_eq_false (by omega)
  have i1 : ii < n := by omega
  clear h ht hown hb hh hnc hd hget cc kx hX H hs hf hlt
  go_enter Tryd.func27, Tryd.ntmps27
  go_wp2_with (go_at_call 42; (with_reducible refine HT.out.mono ?_); rintro e' w3 ⟨rfl, rfl⟩)
  clear hnf g2 y1
  refine wp_region_held_drew (S := fun _ => True) (by kernel_rfl) ?_ (fun hHeld => ?_)
  · exact trivial
  rw [HXW.out]
  refine wpAnyH_take (i := 0) (v := ?_) rfl (by kernel_rfl) (by kernel_rfl) (by kernel_rfl) (fun _ _ _ h => h) (Or.inl ⟨by rfl, ?_⟩) (by assumption) ?_
  rotate_left
  · intro w hSw; go_simp; try with_reducible rfl
  go_simp
  refine wpAnyH_take (i := 1) (v := ?_) rfl (by kernel_rfl) (by kernel_rfl) (by kernel_rfl) (fun _ _ _ h => h) (Or.inl ⟨by rfl, ?_⟩) (by assumption) ?_
  rotate_left
  · intro w hSw; go_simp; try with_reducible rfl
  go_simp
  refine wpAnyH_take (i := 2) (v := ?_) rfl (by kernel_rfl) (by kernel_rfl) (by kernel_rfl) (fun _ _ _ h => h) (Or.inl ⟨by rfl, ?_⟩) (by assumption) ?_
  rotate_left
  · intro w hSw; go_simp; try with_reducible rfl
  go_simp
  refine wpAnyH_take (i := 3) (v := ?_) rfl (by kernel_rfl) (by kernel_rfl) (by kernel_rfl) (fun _ _ _ h => h) (Or.inl ⟨by rfl, ?_⟩) (by assumption) ?_
  rotate_left
  · intro w hSw; go_simp; try with_reducible rfl
  go_simp
  refine wpAnyH_take (i := 5) (v := ?_) rfl (by kernel_rfl) (by kernel_rfl) (by kernel_rfl) (fun _ _ _ h => h) (Or.inl ⟨by rfl, ?_⟩) (by assumption) ?_
  rotate_left
  · intro w hSw; go_simp; try with_reducible rfl
  go_simp
  refine wpAnyH_take (i := 6) (v := ?_) rfl (by kernel_rfl) (by kernel_rfl) (by kernel_rfl) (fun _ _ _ h => h) (Or.inl ⟨by rfl, ?_⟩) (by assumption) ?_
  rotate_left
  · intro w hSw; go_simp; try with_reducible rfl
  go_simp
  refine wpAnyH_take (i := 7) (v := ?_) rfl (by kernel_rfl) (by kernel_rfl) (by kernel_rfl) (fun _ _ _ h => h) (Or.inl ⟨by rfl, ?_⟩) (by assumption) ?_
  rotate_left
  · intro w hSw; go_simp; try with_reducible rfl
  go_simp
  refine wpAnyH_take (i := 9) (v := ?_) rfl (by kernel_rfl) (by kernel_rfl) (by kernel_rfl) (fun _ _ _ h => h) (Or.inl ⟨by rfl, ?_⟩) (by assumption) ?_
  rotate_left
  · intro w hSw; go_simp; try with_reducible rfl
  go_simp
  refine wpAnyH_ready (rs := [4, 8]) (by kernel_rfl) (by simp) ?_
  refine AllReadyH.cons rfl (fun K hK => ?_) (AllReadyH.cons rfl (fun K hK => ?_) AllReadyH.nil)
  · go_simp
    refine hK.out _ _ trivial (fun hHeld => ?_)
    clear hK K
    refine wpAnyH_ready (rs := [8]) (by kernel_rfl) (by simp) ?_
    refine AllReadyH.cons rfl (fun K hK => ?_) AllReadyH.nil
    go_simp
    refine hK.out _ _ trivial (fun hHeld => ?_)
    clear hK K
    refine wpAnyH_take (i := 10) (v := ?_) rfl (by kernel_rfl) (by kernel_rfl) (by kernel_rfl) (fun _ _ _ h => h) (Or.inl ⟨by rfl, ?_⟩) (by assumption) ?_
    rotate_left
    · intro w hSw; go_simp; try with_reducible rfl
    go_simp
    refine wpAnyH_ready (rs := [11]) (by kernel_rfl) (by simp) ?_
    refine AllReadyH.cons rfl (fun K hK => ?_) AllReadyH.nil
    go_simp
    refine hK.out _ _ trivial (fun hHeld => ?_)
    clear hK K
    refine wpAnyH_ready (rs := [12]) (by kernel_rfl) (by simp) ?_
    refine AllReadyH.cons rfl (fun K hK => ?_) AllReadyH.nil
    go_simp
    refine hK.out _ _ trivial (fun hHeld => ?_)
    clear hK K
    obtain ⟨Z, hZ⟩ : ∃ Z, X.alloc (.cells #[.int .i64 a, .int .i64 b, .string s] 47) = Z := ⟨_, rfl⟩
    have kz : Kp X Z := by rw [← hZ]; exact kp_alloc _ _
    have rz : Z.heap[X.heap.size]? = some (.cells #[.int .i64 a, .int .i64 b, .string s] 47) := by rw [← hZ]; exact (MapKept.heap_alloc X (.cells #[.int .i64 a, .int .i64 b, .string s] 47)).1
    have KZ := Lib.hid kz
    have PZ := Lib.hid (part_oneR rz HS.out)
    have NZ := Lib.hid (ND.out.kp kz)
    have z1 := cell_row (i := 1) NZ.out.row rfl
    rw [hN] at z1
    rw [hZ]
    clear hZ kz rz
    refine wpAnyH_ready (rs := [13]) (by kernel_rfl) (by simp) ?_
    refine AllReadyH.consLG rfl (fun K hK => ?_) AllReadyH.nil
    go_simp
    refine wpList_append_rwG (E := ltE) ty_ltR (by decide) _ rfl _ _ rfl w0.heap.size _ _ m.f rfl (hN ▸ NZ.out.own) _ [⟨a, b, d⟩] rfl PZ.out ?f1 ?f2 ?_
    case f1 => have := HF.out; simp; omega
    case f2 => have := NZ.out.bq; have := old_of_row NZ.out.row; omega
    rintro v3 w3 ho hg hb
    obtain ⟨ad3, c3, rfl⟩ := own_formG ho
    have RF := Lib.hid (ND.out.letters KZ.out (by rw [hN]; exact hg) (L := n + 1) (f := m.f ++ [⟨a, b, d⟩]) (by rw [List.length_append, hN]; rfl) (show w3.ownsRow w0.heap.size 47 3 (.slice ad3 (n + 1) c3) (n + 1) (ltE.row (m.f ++ [⟨a, b, d⟩])) from ho) (fun b e => by rw [hN]; exact (hb b e).imp id (fun e => Nat.le_trans (Below.size KZ.out) e)))
    have r4 := (hg.block q (old_of_row NZ.out.row) (fun e => NZ.out.ne.1 (by rw [hN]; exact e.symm))).trans NZ.out.row
    have y1 := cell_row (i := 1) r4 rfl
    have fz := frozR r4
    refine hK.out _ _ trivial (fun hHeld => ?_)
    clear hK K
    clear ho hg hb r4
    refine wpAnyH_take (i := 14) (v := ?_) rfl (by kernel_rfl) (by kernel_rfl) (by kernel_rfl) (fun _ _ _ h => h) (Or.inl ⟨by rfl, ?_⟩) (by assumption) ?_
    rotate_left
    · intro w hSw; go_simp; try with_reducible rfl
    go_simp
    refine wpAnyH_take (i := 15) (v := ?_) rfl (by kernel_rfl) (by kernel_rfl) (by kernel_rfl) (fun _ _ _ h => h) (Or.inl ⟨by rfl, ?_⟩) (by assumption) ?_
    rotate_left
    · intro w hSw; go_simp; try with_reducible rfl
    go_simp
    refine wpAnyH_ready (rs := [16]) (by kernel_rfl) (by simp) ?_
    refine AllReadyH.cons rfl (fun K hK => ?_) AllReadyH.nil
    go_simp
    refine hK.out _ _ trivial (fun hHeld => ?_)
    clear hK K
    refine wpAnyH_done (by kernel_rfl) ?_ _
    go_wp2
    go_ret
    exact ⟨rfl, _, RF.out.1, AD.out.trans RF.out.2⟩
  · go_simp
    refine hK.out _ _ trivial (fun hHeld => ?_)
    clear hK K
    refine wpAnyH_take (i := 10) (v := ?_) rfl (by kernel_rfl) (by kernel_rfl) (by kernel_rfl) (fun _ _ _ h => h) (Or.inl ⟨by rfl, ?_⟩) (by assumption) ?_
    rotate_left
    · intro w hSw; go_simp; try with_reducible rfl
    go_simp
    refine wpAnyH_ready (rs := [4, 11]) (by kernel_rfl) (by simp) ?_
    refine AllReadyH.cons rfl (fun K hK => ?_) (AllReadyH.cons rfl (fun K hK => ?_) AllReadyH.nil)
    · go_simp
      refine hK.out _ _ trivial (fun hHeld => ?_)
      clear hK K
      refine wpAnyH_ready (rs := [11]) (by kernel_rfl) (by simp) ?_
      refine AllReadyH.cons rfl (fun K hK => ?_) AllReadyH.nil
      go_simp
      refine hK.out _ _ trivial (fun hHeld => ?_)
      clear hK K
      refine wpAnyH_ready (rs := [12]) (by kernel_rfl) (by simp) ?_
      refine AllReadyH.cons rfl (fun K hK => ?_) AllReadyH.nil
      go_simp
      refine hK.out _ _ trivial (fun hHeld => ?_)
      clear hK K
      obtain ⟨Z, hZ⟩ : ∃ Z, X.alloc (.cells #[.int .i64 a, .int .i64 b, .string s] 47) = Z := ⟨_, rfl⟩
      have kz : Kp X Z := by rw [← hZ]; exact kp_alloc _ _
      have rz : Z.heap[X.heap.size]? = some (.cells #[.int .i64 a, .int .i64 b, .string s] 47) := by rw [← hZ]; exact (MapKept.heap_alloc X (.cells #[.int .i64 a, .int .i64 b, .string s] 47)).1
      have KZ := Lib.hid kz
      have PZ := Lib.hid (part_oneR rz HS.out)
      have NZ := Lib.hid (ND.out.kp kz)
      have z1 := cell_row (i := 1) NZ.out.row rfl
      rw [hN] at z1
      rw [hZ]
      clear hZ kz rz
      refine wpAnyH_ready (rs := [13]) (by kernel_rfl) (by simp) ?_
      refine AllReadyH.consLG rfl (fun K hK => ?_) AllReadyH.nil
      go_simp
      refine wpList_append_rwG (E := ltE) ty_ltR (by decide) _ rfl _ _ rfl w0.heap.size _ _ m.f rfl (hN ▸ NZ.out.own) _ [⟨a, b, d⟩] rfl PZ.out ?f1 ?f2 ?_
      case f1 => have := HF.out; simp; omega
      case f2 => have := NZ.out.bq; have := old_of_row NZ.out.row; omega
      rintro v3 w3 ho hg hb
      obtain ⟨ad3, c3, rfl⟩ := own_formG ho
      have RF := Lib.hid (ND.out.letters KZ.out (by rw [hN]; exact hg) (L := n + 1) (f := m.f ++ [⟨a, b, d⟩]) (by rw [List.length_append, hN]; rfl) (show w3.ownsRow w0.heap.size 47 3 (.slice ad3 (n + 1) c3) (n + 1) (ltE.row (m.f ++ [⟨a, b, d⟩])) from ho) (fun b e => by rw [hN]; exact (hb b e).imp id (fun e => Nat.le_trans (Below.size KZ.out) e)))
      have r4 := (hg.block q (old_of_row NZ.out.row) (fun e => NZ.out.ne.1 (by rw [hN]; exact e.symm))).trans NZ.out.row
      have y1 := cell_row (i := 1) r4 rfl
      have fz := frozR r4
      refine hK.out _ _ trivial (fun hHeld => ?_)
      clear hK K
      clear ho hg hb r4
      refine wpAnyH_take (i := 14) (v := ?_) rfl (by kernel_rfl) (by kernel_rfl) (by kernel_rfl) (fun _ _ _ h => h) (Or.inl ⟨by rfl, ?_⟩) (by assumption) ?_
      rotate_left
      · intro w hSw; go_simp; try with_reducible rfl
      go_simp
      refine wpAnyH_take (i := 15) (v := ?_) rfl (by kernel_rfl) (by kernel_rfl) (by kernel_rfl) (fun _ _ _ h => h) (Or.inl ⟨by rfl, ?_⟩) (by assumption) ?_
      rotate_left
      · intro w hSw; go_simp; try with_reducible rfl
      go_simp
      refine wpAnyH_ready (rs := [16]) (by kernel_rfl) (by simp) ?_
      refine AllReadyH.cons rfl (fun K hK => ?_) AllReadyH.nil
      go_simp
      refine hK.out _ _ trivial (fun hHeld => ?_)
      clear hK K
      refine wpAnyH_done (by kernel_rfl) ?_ _
      go_wp2
      go_ret
      exact ⟨rfl, _, RF.out.1, AD.out.trans RF.out.2⟩
    · go_simp
      refine hK.out _ _ trivial (fun hHeld => ?_)
      clear hK K
      refine wpAnyH_ready (rs := [4, 12]) (by kernel_rfl) (by simp) ?_
      refine AllReadyH.cons rfl (fun K hK => ?_) (AllReadyH.cons rfl (fun K hK => ?_) AllReadyH.nil)
      · go_simp
        refine hK.out _ _ trivial (fun hHeld => ?_)
        clear hK K
        refine wpAnyH_ready (rs := [12]) (by kernel_rfl) (by simp) ?_
        refine AllReadyH.cons rfl (fun K hK => ?_) AllReadyH.nil
        go_simp
        refine hK.out _ _ trivial (fun hHeld => ?_)
        clear hK K
        obtain ⟨Z, hZ⟩ : ∃ Z, X.alloc (.cells #[.int .i64 a, .int .i64 b, .string s] 47) = Z := ⟨_, rfl⟩
        have kz : Kp X Z := by rw [← hZ]; exact kp_alloc _ _
        have rz : Z.heap[X.heap.size]? = some (.cells #[.int .i64 a, .int .i64 b, .string s] 47) := by rw [← hZ]; exact (MapKept.heap_alloc X (.cells #[.int .i64 a, .int .i64 b, .string s] 47)).1
        have KZ := Lib.hid kz
        have PZ := Lib.hid (part_oneR rz HS.out)
        have NZ := Lib.hid (ND.out.kp kz)
        have z1 := cell_row (i := 1) NZ.out.row rfl
        rw [hN] at z1
        rw [hZ]
        clear hZ kz rz
        refine wpAnyH_ready (rs := [13]) (by kernel_rfl) (by simp) ?_
        refine AllReadyH.consLG rfl (fun K hK => ?_) AllReadyH.nil
        go_simp
        refine wpList_append_rwG (E := ltE) ty_ltR (by decide) _ rfl _ _ rfl w0.heap.size _ _ m.f rfl (hN ▸ NZ.out.own) _ [⟨a, b, d⟩] rfl PZ.out ?f1 ?f2 ?_
        case f1 => have := HF.out; simp; omega
        case f2 => have := NZ.out.bq; have := old_of_row NZ.out.row; omega
        rintro v3 w3 ho hg hb
        obtain ⟨ad3, c3, rfl⟩ := own_formG ho
        have RF := Lib.hid (ND.out.letters KZ.out (by rw [hN]; exact hg) (L := n + 1) (f := m.f ++ [⟨a, b, d⟩]) (by rw [List.length_append, hN]; rfl) (show w3.ownsRow w0.heap.size 47 3 (.slice ad3 (n + 1) c3) (n + 1) (ltE.row (m.f ++ [⟨a, b, d⟩])) from ho) (fun b e => by rw [hN]; exact (hb b e).imp id (fun e => Nat.le_trans (Below.size KZ.out) e)))
        have r4 := (hg.block q (old_of_row NZ.out.row) (fun e => NZ.out.ne.1 (by rw [hN]; exact e.symm))).trans NZ.out.row
        have y1 := cell_row (i := 1) r4 rfl
        have fz := frozR r4
        refine hK.out _ _ trivial (fun hHeld => ?_)
        clear hK K
        clear ho hg hb r4
        refine wpAnyH_take (i := 14) (v := ?_) rfl (by kernel_rfl) (by kernel_rfl) (by kernel_rfl) (fun _ _ _ h => h) (Or.inl ⟨by rfl, ?_⟩) (by assumption) ?_
        rotate_left
        · intro w hSw; go_simp; try with_reducible rfl
        go_simp
        refine wpAnyH_take (i := 15) (v := ?_) rfl (by kernel_rfl) (by kernel_rfl) (by kernel_rfl) (fun _ _ _ h => h) (Or.inl ⟨by rfl, ?_⟩) (by assumption) ?_
        rotate_left
        · intro w hSw; go_simp; try with_reducible rfl
        go_simp
        refine wpAnyH_ready (rs := [16]) (by kernel_rfl) (by simp) ?_
        refine AllReadyH.cons rfl (fun K hK => ?_) AllReadyH.nil
        go_simp
        refine hK.out _ _ trivial (fun hHeld => ?_)
        clear hK K
        refine wpAnyH_done (by kernel_rfl) ?_ _
        go_wp2
        go_ret
        exact ⟨rfl, _, RF.out.1, AD.out.trans RF.out.2⟩
      · go_simp
        refine hK.out _ _ trivial (fun hHeld => ?_)
        clear hK K
        obtain ⟨Z, hZ⟩ : ∃ Z, X.alloc (.cells #[.int .i64 a, .int .i64 b, .string s] 47) = Z := ⟨_, rfl⟩
        have kz : Kp X Z := by rw [← hZ]; exact kp_alloc _ _
        have rz : Z.heap[X.heap.size]? = some (.cells #[.int .i64 a, .int .i64 b, .string s] 47) := by rw [← hZ]; exact (MapKept.heap_alloc X (.cells #[.int .i64 a, .int .i64 b, .string s] 47)).1
        have KZ := Lib.hid kz
        have PZ := Lib.hid (part_oneR rz HS.out)
        have NZ := Lib.hid (ND.out.kp kz)
        have z1 := cell_row (i := 1) NZ.out.row rfl
        rw [hN] at z1
        rw [hZ]
        clear hZ kz rz
        refine wpAnyH_ready (rs := [4]) (by kernel_rfl) (by simp) ?_
        refine AllReadyH.cons rfl (fun K hK => ?_) AllReadyH.nil
        go_simp
        refine hK.out _ _ trivial (fun hHeld => ?_)
        clear hK K
        refine wpAnyH_ready (rs := [13]) (by kernel_rfl) (by simp) ?_
        refine AllReadyH.consLG rfl (fun K hK => ?_) AllReadyH.nil
        go_simp
        refine wpList_append_rwG (E := ltE) ty_ltR (by decide) _ rfl _ _ rfl w0.heap.size _ _ m.f rfl (hN ▸ NZ.out.own) _ [⟨a, b, d⟩] rfl PZ.out ?f1 ?f2 ?_
        case f1 => have := HF.out; simp; omega
        case f2 => have := NZ.out.bq; have := old_of_row NZ.out.row; omega
        rintro v3 w3 ho hg hb
        obtain ⟨ad3, c3, rfl⟩ := own_formG ho
        have RF := Lib.hid (ND.out.letters KZ.out (by rw [hN]; exact hg) (L := n + 1) (f := m.f ++ [⟨a, b, d⟩]) (by rw [List.length_append, hN]; rfl) (show w3.ownsRow w0.heap.size 47 3 (.slice ad3 (n + 1) c3) (n + 1) (ltE.row (m.f ++ [⟨a, b, d⟩])) from ho) (fun b e => by rw [hN]; exact (hb b e).imp id (fun e => Nat.le_trans (Below.size KZ.out) e)))
        have r4 := (hg.block q (old_of_row NZ.out.row) (fun e => NZ.out.ne.1 (by rw [hN]; exact e.symm))).trans NZ.out.row
        have y1 := cell_row (i := 1) r4 rfl
        have fz := frozR r4
        refine hK.out _ _ trivial (fun hHeld => ?_)
        clear hK K
        clear ho hg hb r4
        refine wpAnyH_take (i := 14) (v := ?_) rfl (by kernel_rfl) (by kernel_rfl) (by kernel_rfl) (fun _ _ _ h => h) (Or.inl ⟨by rfl, ?_⟩) (by assumption) ?_
        rotate_left
        · intro w hSw; go_simp; try with_reducible rfl
        go_simp
        refine wpAnyH_take (i := 15) (v := ?_) rfl (by kernel_rfl) (by kernel_rfl) (by kernel_rfl) (fun _ _ _ h => h) (Or.inl ⟨by rfl, ?_⟩) (by assumption) ?_
        rotate_left
        · intro w hSw; go_simp; try with_reducible rfl
        go_simp
        refine wpAnyH_ready (rs := [16]) (by kernel_rfl) (by simp) ?_
        refine AllReadyH.cons rfl (fun K hK => ?_) AllReadyH.nil
        go_simp
        refine hK.out _ _ trivial (fun hHeld => ?_)
        clear hK K
        refine wpAnyH_done (by kernel_rfl) ?_ _
        go_wp2
        go_ret
        exact ⟨rfl, _, RF.out.1, AD.out.trans RF.out.2⟩
theorem rnCopy_any (H : Rn w0 q m v vc rb w) (ii : Int) : Calls Tryd.prog 27 #[.pointer (some ⟨q, 0, none⟩), .int .i64 ii] w fun r w' => r = .returned (.int .i64 (m.copy ii).1) ∧ ∃ v', Rn w0 q (m.copy ii).2 v' vc rb w' ∧ Asd (On q v vc rb) (On q v' vc rb) w w' := by
  unfold NetM.copy
  by_cases h1 : m.there ii = false
  · rw [if_pos h1]
    exact (rnCopy_no H ii h1).mono fun r w' ⟨q1, q2⟩ => ⟨q1, v, q2 ▸ H, q2 ▸ Asd.refl _ _⟩
  rw [if_neg h1]
  have h1 : m.there ii = true := by simpa using h1
  by_cases h2 : 63 < m.f.length
  · rw [if_pos h2]
    exact (rnCopy_full H ii h1 h2).mono fun r w' ⟨q1, q2⟩ => ⟨q1, v, q2 ▸ H, q2 ▸ Asd.refl _ _⟩
  rw [if_neg h2]
  obtain ⟨⟨a, b, d⟩, hd⟩ : ∃ l, m.f.getD ii.toNat lt0 = l := ⟨_, rfl⟩
  rw [hd]
  exact rnCopy_ok H ii h1 h2 a b d hd
end Go.Proofs.YtjffkfcokgcenaaDoor
