/-
  A NET's CODE KEEPS ITS CONTRACTS (own work): Copy, Cut.
-/
import Derived.Test.YtjffkfcokgcenaaDoorNtC
namespace Go.Proofs.YtjffkfcokgcenaaDoor
open Go.RowKit Go.ChangeShapes Go.WideShapes
variable {w0 w w' W w3 : World} {q mb : Nat} {m : NetM} {v v' : Value} {ps ps' : List LtP} {ads : List Addr}

set_option maxRecDepth 100000 in
theorem ntCopy_no (H : Nt w0 q m v ps mb w) (ii : Int) (h : m.there ii = false) (e0 : w.cell? ⟨0, 0, none⟩ = some (errI ads 1)) : Calls Tryd.prog 21 #[.pointer (some ⟨q, 0, none⟩), .int .i64 ii] w fun r w' => r = .returned (errI ads 1) ∧ w = w' := by
  have ht := ntHolds_any H ii
  rw [h] at ht
  have HT := Lib.hid ht
  obtain ⟨x, hx⟩ : ∃ x, errI ads 1 = x := ⟨_, rfl⟩
  rw [hx] at e0 ⊢
  clear H h ht hx
  go_enter Tryd.func21, Tryd.ntmps21
  go_wp2_with (go_at_call 36; (with_reducible refine HT.out.mono ?_); rintro e' w3 ⟨rfl, rfl⟩)
  go_ret
  exact ⟨rfl, rfl⟩
set_option maxRecDepth 100000 in
theorem ntCopy_full (H : Nt w0 q m v ps mb w) (ii : Int) (h : m.there ii = true) (hf : 63 < m.f.length) (e0 : w.cell? ⟨5, 0, none⟩ = some (errI ads 6)) : Calls Tryd.prog 21 #[.pointer (some ⟨q, 0, none⟩), .int .i64 ii] w fun r w' => r = .returned (errI ads 6) ∧ w = w' := by
  have ht := ntHolds_any H ii
  rw [h] at ht
  have hr := ntRoom_any H
  rw [show decide (m.f.length < 64) = false from decide_eq_false (by omega)] at hr
  have HT := Lib.hid ht
  have HR := Lib.hid hr
  obtain ⟨x, hx⟩ : ∃ x, errI ads 6 = x := ⟨_, rfl⟩
  rw [hx] at e0 ⊢
  clear H h ht hr hx hf
  go_enter Tryd.func21, Tryd.ntmps21
  go_wp2_with (first | (go_at_call 36; (with_reducible refine HT.out.mono ?_); rintro e' w3 ⟨rfl, rfl⟩) | (go_at_call 34; (with_reducible refine HR.out.mono ?_); rintro e' w4 ⟨rfl, rfl⟩))
  go_ret
  exact ⟨rfl, rfl⟩
theorem part_oneP {b k c : Nat} {x y : Int} {o : Option Addr} {p : LtP} (h : W.heap[b]? = some (.cells #[.int .i64 x, .int .i64 y, .slice o k c] 45 (0, 0))) (hp : p.l.a = x ∧ p.l.b = y ∧ p.v = .slice o k c) : PartG pE (.slice (some ⟨b, 0, none⟩) 1 1) [p] W := by
  obtain ⟨rfl, rfl, h3⟩ := hp
  refine ⟨_, _, rfl, fun e => (by cases e), fun ad e j u hj => ?_⟩
  injection e with e
  subst e
  rw [Addr.add_lit, Nat.zero_add]
  match j, hj with
  | 0, hj => simp [EncG.row, pE] at hj; subst hj; exact cell_row h rfl
  | 1, hj => simp [EncG.row, pE] at hj; subst hj; exact cell_row h rfl
  | 2, hj => simp [EncG.row, pE] at hj; subst hj; rw [h3]; exact cell_row h rfl
  | j + 3, hj => simp [EncG.row, pE] at hj
set_option maxRecDepth 100000 in
set_option maxHeartbeats 4000000 in
theorem ntCopy_base (H : Nt w0 q m v ps mb w) (ii : Int) (h : m.there ii = true) (hf : ¬ 63 < m.f.length) (a b : Int) (op : Option Addr) (k c : Nat) (p : LtP) (hp : ps[ii.toNat]? = some p) (e123 : p.l.a = a ∧ p.l.b = b ∧ p.v = .slice op k c) : Calls Tryd.prog 21 #[.pointer (some ⟨q, 0, none⟩), .int .i64 ii] w fun r w' => r = .returned .nilIface ∧ ∃ v' ps', Nt w0 q ⟨m.n, m.f ++ [p.l], m.cut, m.lost⟩ v' ps' mb w' ∧ Asd (Ob q v ps mb) (Ob q v' ps' mb) w w' := by
  have ht := ntHolds_any H ii
  rw [h] at ht
  have hr := ntRoom_any H
  rw [show decide (m.f.length < 64) = true from decide_eq_true (by omega)] at hr
  have HT := Lib.hid ht
  have HR := Lib.hid hr
  obtain ⟨hi0, hlt⟩ := there_lt h
  have hlp : ii.toNat < ps.length := by rw [H.plen]; exact hlt
  have hget : ps[ii.toNat] = p := by rw [List.getElem?_eq_getElem hlp] at hp; exact Option.some.inj hp
  have HM := Lib.hid (show p ∈ ps from hget ▸ List.getElem_mem hlp)
  have HP := Lib.hid e123
  have hown := H.own
  rcases hown.2 with ⟨rfl, h0⟩ | ⟨bv, cp, cur, rfl, hb, hh, hnc, -⟩
  · omega
  obtain ⟨n, hN⟩ : ∃ n, m.f.length = n := ⟨_, rfl⟩
  have cc : ∀ (k : Nat) (u : Value), k < 3 → (pE.enc p)[k]? = some u → w.cell? ⟨bv, ii.toNat * 3 + k, none⟩ = some u := fun k u hk hu => by
    have := hown.cells rfl (ii.toNat * 3 + k) u (by rw [← hu, ← hget]; exact row_at pE ps ii.toNat hlp k hk)
    rw [Addr.add_lit, Nat.zero_add] at this
    exact this
  have kx : Kp w w.drew := kp_drewR (Kp.refl _)
  obtain ⟨X, hX⟩ : ∃ X, w.drew = X := ⟨_, rfl⟩
  rw [hX] at kx
  have HXW := Lib.hid hX
  have ND := Lib.hid (H.kp kx)
  have AD := Lib.hid (Asd.of_kp (Ob q (.slice (some ⟨bv, 0, none⟩) m.f.length cp) ps mb) kx)
  have c0 : X.cell? ⟨bv, ii.toNat * 3, none⟩ = some (.int .i64 a) := kp_cell kx (by rw [← e123.1]; exact cc 0 _ (by decide) rfl)
  have c1 : X.cell? ⟨bv, ii.toNat * 3 + 1, none⟩ = some (.int .i64 b) := kp_cell kx (by rw [← e123.2.1]; exact cc 1 _ (by decide) rfl)
  have c2 : X.cell? ⟨bv, ii.toNat * 3 + 2, none⟩ = some (.slice op k c) := kp_cell kx (by rw [← e123.2.2]; exact cc 2 _ (by decide) rfl)
  have e1 := cell_row (i := 1) ND.out.row rfl
  rw [hN] at e1 hf hlt
  have HF := Lib.hid hf
  have i1 : ii < n := by omega
  clear h ht hr hown hb hh hnc hp hget cc kx hX H hf hlt e123 hlp
  go_enter Tryd.func21, Tryd.ntmps21
  go_wp2_with (first | (go_at_call 36; (with_reducible refine HT.out.mono ?_); rintro e' w3 ⟨rfl, rfl⟩) | (go_at_call 34; (with_reducible refine HR.out.mono ?_); rintro e' w4 ⟨rfl, rfl⟩))
  refine wp_region_held_drew (S := fun _ => True) (by kernel_rfl) ?_ (fun hHeld => ?_)
  · exact trivial
  rw [HXW.out]
  refine wpAnyH_take (i := 0) (v := ?_) rfl (by kernel_rfl) (by kernel_rfl) (by kernel_rfl) (fun _ _ _ h => h) (Or.inl ⟨by rfl, ?_⟩) (by assumption) ?_
  rotate_left
  · intro w hSw; go_simp; try with_reducible rfl
  go_simp
  refine wpAnyH_take (i := 1) (v := ?_) rfl (by kernel_rfl) (by kernel_rfl) (by kernel_rfl) (fun _ _ _ h => h) (Or.inl ⟨by rfl, ?_⟩) (by assumption) ?_
  rotate_left
  · intro w hSw; go_simp; try with_reducible rfl
  go_simp
  refine wpAnyH_take (i := 2) (v := ?_) rfl (by kernel_rfl) (by kernel_rfl) (by kernel_rfl) (fun _ _ _ h => h) (Or.inl ⟨by rfl, ?_⟩) (by assumption) ?_
  rotate_left
  · intro w hSw; go_simp; try with_reducible rfl
  go_simp
  refine wpAnyH_take (i := 3) (v := ?_) rfl (by kernel_rfl) (by kernel_rfl) (by kernel_rfl) (fun _ _ _ h => h) (Or.inl ⟨by rfl, ?_⟩) (by assumption) ?_
  rotate_left
  · intro w hSw; go_simp; try with_reducible rfl
  go_simp
  refine wpAnyH_take (i := 5) (v := ?_) rfl (by kernel_rfl) (by kernel_rfl) (by kernel_rfl) (fun _ _ _ h => h) (Or.inl ⟨by rfl, ?_⟩) (by assumption) ?_
  rotate_left
  · intro w hSw; go_simp; try with_reducible rfl
  go_simp
  refine wpAnyH_take (i := 6) (v := ?_) rfl (by kernel_rfl) (by kernel_rfl) (by kernel_rfl) (fun _ _ _ h => h) (Or.inl ⟨by rfl, ?_⟩) (by assumption) ?_
  rotate_left
  · intro w hSw; go_simp; try with_reducible rfl
  go_simp
  refine wpAnyH_take (i := 7) (v := ?_) rfl (by kernel_rfl) (by kernel_rfl) (by kernel_rfl) (fun _ _ _ h => h) (Or.inl ⟨by rfl, ?_⟩) (by assumption) ?_
  rotate_left
  · intro w hSw; go_simp; try with_reducible rfl
  go_simp
  refine wpAnyH_take (i := 9) (v := ?_) rfl (by kernel_rfl) (by kernel_rfl) (by kernel_rfl) (fun _ _ _ h => h) (Or.inl ⟨by rfl, ?_⟩) (by assumption) ?_
  rotate_left
  · intro w hSw; go_simp; try with_reducible rfl
  go_simp
  refine wpAnyH_ready (rs := [4, 8]) (by kernel_rfl) (by simp) ?_
  refine AllReadyH.cons rfl (fun K hK => ?_) (AllReadyH.cons rfl (fun K hK => ?_) AllReadyH.nil)
  · go_simp
    refine hK.out _ _ trivial (fun hHeld => ?_)
    clear hK K
    refine wpAnyH_ready (rs := [8]) (by kernel_rfl) (by simp) ?_
    refine AllReadyH.cons rfl (fun K hK => ?_) AllReadyH.nil
    go_simp
    refine hK.out _ _ trivial (fun hHeld => ?_)
    clear hK K
    refine wpAnyH_take (i := 10) (v := ?_) rfl (by kernel_rfl) (by kernel_rfl) (by kernel_rfl) (fun _ _ _ h => h) (Or.inl ⟨by rfl, ?_⟩) (by assumption) ?_
    rotate_left
    · intro w hSw; go_simp; try with_reducible rfl
    go_simp
    refine wpAnyH_ready (rs := [11]) (by kernel_rfl) (by simp) ?_
    refine AllReadyH.cons rfl (fun K hK => ?_) AllReadyH.nil
    go_simp
    refine hK.out _ _ trivial (fun hHeld => ?_)
    clear hK K
    refine wpAnyH_ready (rs := [12]) (by kernel_rfl) (by simp) ?_
    refine AllReadyH.cons rfl (fun K hK => ?_) AllReadyH.nil
    go_simp
    refine hK.out _ _ trivial (fun hHeld => ?_)
    clear hK K
    obtain ⟨Z, hZ⟩ : ∃ Z, X.alloc (.cells #[.int .i64 a, .int .i64 b, .slice op k c] 45) = Z := ⟨_, rfl⟩
    have kz : Kp X Z := by rw [← hZ]; exact kp_alloc _ _
    have rz : Z.heap[X.heap.size]? = some (.cells #[.int .i64 a, .int .i64 b, .slice op k c] 45) := by rw [← hZ]; exact (MapKept.heap_alloc X (.cells #[.int .i64 a, .int .i64 b, .slice op k c] 45)).1
    have KZ := Lib.hid kz
    have PZ := Lib.hid (part_oneP rz HP.out)
    have NZ := Lib.hid (ND.out.kp kz)
    have z1 := cell_row (i := 1) NZ.out.row rfl
    rw [hN] at z1
    rw [hZ]
    clear hZ kz rz
    refine wpAnyH_ready (rs := [13]) (by kernel_rfl) (by simp) ?_
    refine AllReadyH.consLG rfl (fun K hK => ?_) AllReadyH.nil
    go_simp
    refine wpList_append_rwG (E := pE) ty_lt (by decide) _ rfl _ _ rfl w0.heap.size _ _ ps rfl (hN ▸ NZ.out.own) _ [p] rfl PZ.out ?f1 ?f2 ?_
    case f1 => have := HF.out; simp; omega
    case f2 => have := NZ.out.bq; have := old_of_row NZ.out.row; omega
    rintro v3 w3 ho hg hb
    obtain ⟨ad3, c3, rfl⟩ := own_formG ho
    have RF := Lib.hid (ND.out.lettersP KZ.out (by rw [hN]; exact hg) (L := n + 1) (f := m.f ++ [p.l]) (ps' := ps ++ [p]) (by rw [List.length_append, hN]; rfl) (by rw [List.map_append, ND.out.fs]; rfl) (show w3.ownsRow w0.heap.size 45 3 (.slice ad3 (n + 1) c3) (n + 1) (pE.row (ps ++ [p])) from ho) (fun b e => by rw [hN]; exact hb b e) (fun x hx => .inl (by rcases List.mem_append.1 hx with h | h; exact h; rw [List.mem_singleton.1 h]; exact HM.out)))
    have r4 := (hg.block q (old_of_row NZ.out.row) (fun e => NZ.out.ne.1 (by rw [hN]; exact e.symm))).trans NZ.out.row
    have y1 := cell_row (i := 1) r4 rfl
    have fz := frozR r4
    refine hK.out _ _ trivial (fun hHeld => ?_)
    clear hK K
    clear ho hg hb r4
    refine wpAnyH_take (i := 14) (v := ?_) rfl (by kernel_rfl) (by kernel_rfl) (by kernel_rfl) (fun _ _ _ h => h) (Or.inl ⟨by rfl, ?_⟩) (by assumption) ?_
    rotate_left
    · intro w hSw; go_simp; try with_reducible rfl
    go_simp
    refine wpAnyH_take (i := 15) (v := ?_) rfl (by kernel_rfl) (by kernel_rfl) (by kernel_rfl) (fun _ _ _ h => h) (Or.inl ⟨by rfl, ?_⟩) (by assumption) ?_
    rotate_left
    · intro w hSw; go_simp; try with_reducible rfl
    go_simp
    refine wpAnyH_ready (rs := [16]) (by kernel_rfl) (by simp) ?_
    refine AllReadyH.cons rfl (fun K hK => ?_) AllReadyH.nil
    go_simp
    refine hK.out _ _ trivial (fun hHeld => ?_)
    clear hK K
    refine wpAnyH_done (by kernel_rfl) ?_ _
    go_wp2
    go_ret
    exact ⟨rfl, _, _, RF.out.1, AD.out.trans RF.out.2.1⟩
  · go_simp
    refine hK.out _ _ trivial (fun hHeld => ?_)
    clear hK K
    refine wpAnyH_take (i := 10) (v := ?_) rfl (by kernel_rfl) (by kernel_rfl) (by kernel_rfl) (fun _ _ _ h => h) (Or.inl ⟨by rfl, ?_⟩) (by assumption) ?_
    rotate_left
    · intro w hSw; go_simp; try with_reducible rfl
    go_simp
    refine wpAnyH_ready (rs := [4, 11]) (by kernel_rfl) (by simp) ?_
    refine AllReadyH.cons rfl (fun K hK => ?_) (AllReadyH.cons rfl (fun K hK => ?_) AllReadyH.nil)
    · go_simp
      refine hK.out _ _ trivial (fun hHeld => ?_)
      clear hK K
      refine wpAnyH_ready (rs := [11]) (by kernel_rfl) (by simp) ?_
      refine AllReadyH.cons rfl (fun K hK => ?_) AllReadyH.nil
      go_simp
      refine hK.out _ _ trivial (fun hHeld => ?_)
      clear hK K
      refine wpAnyH_ready (rs := [12]) (by kernel_rfl) (by simp) ?_
      refine AllReadyH.cons rfl (fun K hK => ?_) AllReadyH.nil
      go_simp
      refine hK.out _ _ trivial (fun hHeld => ?_)
      clear hK K
      obtain ⟨Z, hZ⟩ : ∃ Z, X.alloc (.cells #[.int .i64 a, .int .i64 b, .slice op k c] 45) = Z := ⟨_, rfl⟩
      have kz : Kp X Z := by rw [← hZ]; exact kp_alloc _ _
      have rz : Z.heap[X.heap.size]? = some (.cells #[.int .i64 a, .int .i64 b, .slice op k c] 45) := by rw [← hZ]; exact (MapKept.heap_alloc X (.cells #[.int .i64 a, .int .i64 b, .slice op k c] 45)).1
      have KZ := Lib.hid kz
      have PZ := Lib.hid (part_oneP rz HP.out)
      have NZ := Lib.hid (ND.out.kp kz)
      have z1 := cell_row (i := 1) NZ.out.row rfl
      rw [hN] at z1
      rw [hZ]
      clear hZ kz rz
      refine wpAnyH_ready (rs := [13]) (by kernel_rfl) (by simp) ?_
      refine AllReadyH.consLG rfl (fun K hK => ?_) AllReadyH.nil
      go_simp
      refine wpList_append_rwG (E := pE) ty_lt (by decide) _ rfl _ _ rfl w0.heap.size _ _ ps rfl (hN ▸ NZ.out.own) _ [p] rfl PZ.out ?f1 ?f2 ?_
      case f1 => have := HF.out; simp; omega
      case f2 => have := NZ.out.bq; have := old_of_row NZ.out.row; omega
      rintro v3 w3 ho hg hb
      obtain ⟨ad3, c3, rfl⟩ := own_formG ho
      have RF := Lib.hid (ND.out.lettersP KZ.out (by rw [hN]; exact hg) (L := n + 1) (f := m.f ++ [p.l]) (ps' := ps ++ [p]) (by rw [List.length_append, hN]; rfl) (by rw [List.map_append, ND.out.fs]; rfl) (show w3.ownsRow w0.heap.size 45 3 (.slice ad3 (n + 1) c3) (n + 1) (pE.row (ps ++ [p])) from ho) (fun b e => by rw [hN]; exact hb b e) (fun x hx => .inl (by rcases List.mem_append.1 hx with h | h; exact h; rw [List.mem_singleton.1 h]; exact HM.out)))
      have r4 := (hg.block q (old_of_row NZ.out.row) (fun e => NZ.out.ne.1 (by rw [hN]; exact e.symm))).trans NZ.out.row
      have y1 := cell_row (i := 1) r4 rfl
      have fz := frozR r4
      refine hK.out _ _ trivial (fun hHeld => ?_)
      clear hK K
      clear ho hg hb r4
      refine wpAnyH_take (i := 14) (v := ?_) rfl (by kernel_rfl) (by kernel_rfl) (by kernel_rfl) (fun _ _ _ h => h) (Or.inl ⟨by rfl, ?_⟩) (by assumption) ?_
      rotate_left
      · intro w hSw; go_simp; try with_reducible rfl
      go_simp
      refine wpAnyH_take (i := 15) (v := ?_) rfl (by kernel_rfl) (by kernel_rfl) (by kernel_rfl) (fun _ _ _ h => h) (Or.inl ⟨by rfl, ?_⟩) (by assumption) ?_
      rotate_left
      · intro w hSw; go_simp; try with_reducible rfl
      go_simp
      refine wpAnyH_ready (rs := [16]) (by kernel_rfl) (by simp) ?_
      refine AllReadyH.cons rfl (fun K hK => ?_) AllReadyH.nil
      go_simp
      refine hK.out _ _ trivial (fun hHeld => ?_)
      clear hK K
      refine wpAnyH_done (by kernel_rfl) ?_ _
      go_wp2
      go_ret
      exact ⟨rfl, _, _, RF.out.1, AD.out.trans RF.out.2.1⟩
    · go_simp
      refine hK.out _ _ trivial (fun hHeld => ?_)
      clear hK K
      refine wpAnyH_ready (rs := [4, 12]) (by kernel_rfl) (by simp) ?_
      refine AllReadyH.cons rfl (fun K hK => ?_) (AllReadyH.cons rfl (fun K hK => ?_) AllReadyH.nil)
      · go_simp
        refine hK.out _ _ trivial (fun hHeld => ?_)
        clear hK K
        refine wpAnyH_ready (rs := [12]) (by kernel_rfl) (by simp) ?_
        refine AllReadyH.cons rfl (fun K hK => ?_) AllReadyH.nil
        go_simp
        refine hK.out _ _ trivial (fun hHeld => ?_)
        clear hK K
        obtain ⟨Z, hZ⟩ : ∃ Z, X.alloc (.cells #[.int .i64 a, .int .i64 b, .slice op k c] 45) = Z := ⟨_, rfl⟩
        have kz : Kp X Z := by rw [← hZ]; exact kp_alloc _ _
        have rz : Z.heap[X.heap.size]? = some (.cells #[.int .i64 a, .int .i64 b, .slice op k c] 45) := by rw [← hZ]; exact (MapKept.heap_alloc X (.cells #[.int .i64 a, .int .i64 b, .slice op k c] 45)).1
        have KZ := Lib.hid kz
        have PZ := Lib.hid (part_oneP rz HP.out)
        have NZ := Lib.hid (ND.out.kp kz)
        have z1 := cell_row (i := 1) NZ.out.row rfl
        rw [hN] at z1
        rw [hZ]
        clear hZ kz rz
        refine wpAnyH_ready (rs := [13]) (by kernel_rfl) (by simp) ?_
        refine AllReadyH.consLG rfl (fun K hK => ?_) AllReadyH.nil
        go_simp
        refine wpList_append_rwG (E := pE) ty_lt (by decide) _ rfl _ _ rfl w0.heap.size _ _ ps rfl (hN ▸ NZ.out.own) _ [p] rfl PZ.out ?f1 ?f2 ?_
        case f1 => have := HF.out; simp; omega
        case f2 => have := NZ.out.bq; have := old_of_row NZ.out.row; omega
        rintro v3 w3 ho hg hb
        obtain ⟨ad3, c3, rfl⟩ := own_formG ho
        have RF := Lib.hid (ND.out.lettersP KZ.out (by rw [hN]; exact hg) (L := n + 1) (f := m.f ++ [p.l]) (ps' := ps ++ [p]) (by rw [List.length_append, hN]; rfl) (by rw [List.map_append, ND.out.fs]; rfl) (show w3.ownsRow w0.heap.size 45 3 (.slice ad3 (n + 1) c3) (n + 1) (pE.row (ps ++ [p])) from ho) (fun b e => by rw [hN]; exact hb b e) (fun x hx => .inl (by rcases List.mem_append.1 hx with h | h; exact h; rw [List.mem_singleton.1 h]; exact HM.out)))
        have r4 := (hg.block q (old_of_row NZ.out.row) (fun e => NZ.out.ne.1 (by rw [hN]; exact e.symm))).trans NZ.out.row
        have y1 := cell_row (i := 1) r4 rfl
        have fz := frozR r4
        refine hK.out _ _ trivial (fun hHeld => ?_)
        clear hK K
        clear ho hg hb r4
        refine wpAnyH_take (i := 14) (v := ?_) rfl (by kernel_rfl) (by kernel_rfl) (by kernel_rfl) (fun _ _ _ h => h) (Or.inl ⟨by rfl, ?_⟩) (by assumption) ?_
        rotate_left
        · intro w hSw; go_simp; try with_reducible rfl
        go_simp
        refine wpAnyH_take (i := 15) (v := ?_) rfl (by kernel_rfl) (by kernel_rfl) (by kernel_rfl) (fun _ _ _ h => h) (Or.inl ⟨by rfl, ?_⟩) (by assumption) ?_
        rotate_left
        · intro w hSw; go_simp; try with_reducible rfl
        go_simp
        refine wpAnyH_ready (rs := [16]) (by kernel_rfl) (by simp) ?_
        refine AllReadyH.cons rfl (fun K hK => ?_) AllReadyH.nil
        go_simp
        refine hK.out _ _ trivial (fun hHeld => ?_)
        clear hK K
        refine wpAnyH_done (by kernel_rfl) ?_ _
        go_wp2
        go_ret
        exact ⟨rfl, _, _, RF.out.1, AD.out.trans RF.out.2.1⟩
      · go_simp
        refine hK.out _ _ trivial (fun hHeld => ?_)
        clear hK K
        obtain ⟨Z, hZ⟩ : ∃ Z, X.alloc (.cells #[.int .i64 a, .int .i64 b, .slice op k c] 45) = Z := ⟨_, rfl⟩
        have kz : Kp X Z := by rw [← hZ]; exact kp_alloc _ _
        have rz : Z.heap[X.heap.size]? = some (.cells #[.int .i64 a, .int .i64 b, .slice op k c] 45) := by rw [← hZ]; exact (MapKept.heap_alloc X (.cells #[.int .i64 a, .int .i64 b, .slice op k c] 45)).1
        have KZ := Lib.hid kz
        have PZ := Lib.hid (part_oneP rz HP.out)
        have NZ := Lib.hid (ND.out.kp kz)
        have z1 := cell_row (i := 1) NZ.out.row rfl
        rw [hN] at z1
        rw [hZ]
        clear hZ kz rz
        refine wpAnyH_ready (rs := [4]) (by kernel_rfl) (by simp) ?_
        refine AllReadyH.cons rfl (fun K hK => ?_) AllReadyH.nil
        go_simp
        refine hK.out _ _ trivial (fun hHeld => ?_)
        clear hK K
        refine wpAnyH_ready (rs := [13]) (by kernel_rfl) (by simp) ?_
        refine AllReadyH.consLG rfl (fun K hK => ?_) AllReadyH.nil
        go_simp
        refine wpList_append_rwG (E := pE) ty_lt (by decide) _ rfl _ _ rfl w0.heap.size _ _ ps rfl (hN ▸ NZ.out.own) _ [p] rfl PZ.out ?f1 ?f2 ?_
        case f1 => have := HF.out; simp; omega
        case f2 => have := NZ.out.bq; have := old_of_row NZ.out.row; omega
        rintro v3 w3 ho hg hb
        obtain ⟨ad3, c3, rfl⟩ := own_formG ho
        have RF := Lib.hid (ND.out.lettersP KZ.out (by rw [hN]; exact hg) (L := n + 1) (f := m.f ++ [p.l]) (ps' := ps ++ [p]) (by rw [List.length_append, hN]; rfl) (by rw [List.map_append, ND.out.fs]; rfl) (show w3.ownsRow w0.heap.size 45 3 (.slice ad3 (n + 1) c3) (n + 1) (pE.row (ps ++ [p])) from ho) (fun b e => by rw [hN]; exact hb b e) (fun x hx => .inl (by rcases List.mem_append.1 hx with h | h; exact h; rw [List.mem_singleton.1 h]; exact HM.out)))
        have r4 := (hg.block q (old_of_row NZ.out.row) (fun e => NZ.out.ne.1 (by rw [hN]; exact e.symm))).trans NZ.out.row
        have y1 := cell_row (i := 1) r4 rfl
        have fz := frozR r4
        refine hK.out _ _ trivial (fun hHeld => ?_)
        clear hK K
        clear ho hg hb r4
        refine wpAnyH_take (i := 14) (v := ?_) rfl (by kernel_rfl) (by kernel_rfl) (by kernel_rfl) (fun _ _ _ h => h) (Or.inl ⟨by rfl, ?_⟩) (by assumption) ?_
        rotate_left
        · intro w hSw; go_simp; try with_reducible rfl
        go_simp
        refine wpAnyH_take (i := 15) (v := ?_) rfl (by kernel_rfl) (by kernel_rfl) (by kernel_rfl) (fun _ _ _ h => h) (Or.inl ⟨by rfl, ?_⟩) (by assumption) ?_
        rotate_left
        · intro w hSw; go_simp; try with_reducible rfl
        go_simp
        refine wpAnyH_ready (rs := [16]) (by kernel_rfl) (by simp) ?_
        refine AllReadyH.cons rfl (fun K hK => ?_) AllReadyH.nil
        go_simp
        refine hK.out _ _ trivial (fun hHeld => ?_)
        clear hK K
        refine wpAnyH_done (by kernel_rfl) ?_ _
        go_wp2
        go_ret
        exact ⟨rfl, _, _, RF.out.1, AD.out.trans RF.out.2.1⟩
theorem ntCopy_any (H : Nt w0 q m v ps mb w) (ii : Int) (E : EP [0, 2, 5] ads w) : Calls Tryd.prog 21 #[.pointer (some ⟨q, 0, none⟩), .int .i64 ii] w fun r w' => r = .returned (errI ads (m.copy ii).1) ∧ ∃ v' ps', Nt w0 q (m.copy ii).2 v' ps' mb w' ∧ Asd (Ob q v ps mb) (Ob q v' ps' mb) w w' := by
  unfold NetM.copy
  by_cases h1 : m.there ii = false
  · rw [if_pos h1]
    exact (ntCopy_no H ii h1 (E.cell 0 (by simp))).mono fun r w' ⟨q1, q2⟩ => ⟨q1, v, ps, q2 ▸ H, q2 ▸ Asd.refl _ _⟩
  rw [if_neg h1]
  have h1 : m.there ii = true := by simpa using h1
  by_cases h2 : 63 < m.f.length
  · rw [if_pos h2]
    exact (ntCopy_full H ii h1 h2 (E.cell 5 (by simp))).mono fun r w' ⟨q1, q2⟩ => ⟨q1, v, ps, q2 ▸ H, q2 ▸ Asd.refl _ _⟩
  rw [if_neg h2]
  have hlp : ii.toNat < ps.length := by rw [H.plen]; exact (there_lt h1).2
  have hp := List.getElem?_eq_getElem hlp
  rw [getD_map H.fs hp]
  exact (ntCopy_base H ii h1 h2 _ _ _ _ _ _ hp ⟨rfl, rfl, rfl⟩).mono fun r w' ⟨q1, q2⟩ => ⟨by rw [q1, errI_nil], q2⟩
set_option maxRecDepth 100000 in
theorem ntCut_no (H : Nt w0 q m v ps mb w) (a b : Int) (is : Bool) (h : (m.has a && m.has b) = false) (e0 : w.cell? ⟨0, 0, none⟩ = some (errI ads 1)) : Calls Tryd.prog 18 #[.pointer (some ⟨q, 0, none⟩), .int .i64 a, .int .i64 b, .bool is] w fun r w' => r = .returned (errI ads 1) ∧ w = w' := by
  have ha := ntHas_any H a
  have hb := ntHas_any H b
  obtain ⟨x, hx⟩ : ∃ x, errI ads 1 = x := ⟨_, rfl⟩
  rw [hx] at e0 ⊢
  cases h1 : m.has a with
  | false =>
    rw [h1] at ha
    have HA := Lib.hid ha
    clear H h ha hb h1 hx
    go_enter Tryd.func18, Tryd.ntmps18
    go_wp2_with (go_at_call 33; (with_reducible refine HA.out.mono ?_); rintro e' w3 ⟨rfl, rfl⟩)
    go_ret
    exact ⟨rfl, rfl⟩
  | true =>
    rw [h1, Bool.true_and] at h
    rw [h1] at ha
    rw [h] at hb
    have HA := Lib.hid ha
    have HB := Lib.hid hb
    clear H h ha hb h1 hx
    go_enter Tryd.func18, Tryd.ntmps18
    go_wp2_with (first | (go_at_call 33; (with_reducible refine HB.out.mono ?_); rintro e' w4 ⟨rfl, rfl⟩) | (go_at_call 33; (with_reducible refine HA.out.mono ?_); rintro e' w3 ⟨rfl, rfl⟩))
    go_ret
    exact ⟨rfl, rfl⟩
set_option maxRecDepth 100000 in
theorem ntCut_t (H : Nt w0 q m v ps mb w) (hm : Nok m) (a b : Int) (h1 : m.has a = true) (h2 : m.has b = true) : Calls Tryd.prog 18 #[.pointer (some ⟨q, 0, none⟩), .int .i64 a, .int .i64 b, .bool true] w fun r w' => r = .returned .nilIface ∧ Nt w0 q ⟨m.n, m.f, m.cut.set a.toNat ((m.cut.getD a.toNat []).set b.toNat true), m.lost⟩ v ps mb w' ∧ Asd (Ob q v ps mb) (Ob q v ps mb) w w' := by
  have ha := ntHas_any H a
  have hb := ntHas_any H b
  rw [h1] at ha
  rw [h2] at hb
  obtain ⟨DC, hDC⟩ := H.cuts
  obtain ⟨w8, D8, hrun, hc8, hg8⟩ := hDC.put hm h1 h2
  obtain ⟨n1, n2, n3, n4⟩ := H.ne
  have c0 := cell_row (i := 2) H.row rfl
  have bl : ∀ b, Ob q v ps mb b → b ≠ mb → w8.heap[b]? = w.heap[b]? := fun b e1 e2 => hg8.block b (H.mem b e1).2 (fun e => e2 (Option.some.inj e))
  have FIN := Lib.hid (show Nt w0 q ⟨m.n, m.f, m.cut.set a.toNat ((m.cut.getD a.toNat []).set b.toNat true), m.lost⟩ v ps mb w8 ∧ Asd (Ob q v ps mb) (Ob q v ps mb) w w8 from
    ⟨⟨(bl q (.inl rfl) n2).trans H.row, H.bq, own_stayG H.own (fun b e => bl b (.inr (.inl e)) (fun e2 => n3 (by rw [← e2]; exact e))), H.fs, fun p hp => own_stayG (H.dat p hp) (fun b e => bl b (.inr (.inr (.inr ⟨p, hp, e⟩))) (fun e2 => (n4 p hp).2.1 (by rw [← e2]; exact e))), ⟨D8, hc8⟩, H.bm⟩,
     ⟨hg8.os, hg8.tape, hg8.output, hg8.size, fun b hb hn => hg8.block b hb (fun e => hn (.inr (.inr (.inl (Option.some.inj e))))), fun b e => .inl e⟩⟩)
  have HA := Lib.hid ha
  have HB := Lib.hid hb
  clear H ha hb h1 h2 hm hDC hc8 hg8 n1 n2 n3 n4 bl
  go_enter Tryd.func18, Tryd.ntmps18
  go_wp2_with (first | (go_at_call 33; (with_reducible refine HB.out.mono ?_); rintro e' w4 ⟨rfl, rfl⟩) | (go_at_call 33; (with_reducible refine HA.out.mono ?_); rintro e' w3 ⟨rfl, rfl⟩))
  go_ret
  exact ⟨rfl, FIN.out⟩
set_option maxRecDepth 100000 in
theorem ntCut_f (H : Nt w0 q m v ps mb w) (hm : Nok m) (a b : Int) (h1 : m.has a = true) (h2 : m.has b = true) : Calls Tryd.prog 18 #[.pointer (some ⟨q, 0, none⟩), .int .i64 a, .int .i64 b, .bool false] w fun r w' => r = .returned .nilIface ∧ Nt w0 q ⟨m.n, m.f, m.cut.set a.toNat ((m.cut.getD a.toNat []).set b.toNat false), m.lost⟩ v ps mb w' ∧ Asd (Ob q v ps mb) (Ob q v ps mb) w w' := by
  have ha := ntHas_any H a
  have hb := ntHas_any H b
  rw [h1] at ha
  rw [h2] at hb
  obtain ⟨DC, hDC⟩ := H.cuts
  obtain ⟨w8, D8, hrun, hc8, hg8⟩ := hDC.del hm h1 h2
  obtain ⟨n1, n2, n3, n4⟩ := H.ne
  have c0 := cell_row (i := 2) H.row rfl
  have bl : ∀ b, Ob q v ps mb b → b ≠ mb → w8.heap[b]? = w.heap[b]? := fun b e1 e2 => hg8.block b (H.mem b e1).2 (fun e => e2 (Option.some.inj e))
  have FIN := Lib.hid (show Nt w0 q ⟨m.n, m.f, m.cut.set a.toNat ((m.cut.getD a.toNat []).set b.toNat false), m.lost⟩ v ps mb w8 ∧ Asd (Ob q v ps mb) (Ob q v ps mb) w w8 from
    ⟨⟨(bl q (.inl rfl) n2).trans H.row, H.bq, own_stayG H.own (fun b e => bl b (.inr (.inl e)) (fun e2 => n3 (by rw [← e2]; exact e))), H.fs, fun p hp => own_stayG (H.dat p hp) (fun b e => bl b (.inr (.inr (.inr ⟨p, hp, e⟩))) (fun e2 => (n4 p hp).2.1 (by rw [← e2]; exact e))), ⟨D8, hc8⟩, H.bm⟩,
     ⟨hg8.os, hg8.tape, hg8.output, hg8.size, fun b hb hn => hg8.block b hb (fun e => hn (.inr (.inr (.inl (Option.some.inj e))))), fun b e => .inl e⟩⟩)
  have HA := Lib.hid ha
  have HB := Lib.hid hb
  clear H ha hb h1 h2 hm hDC hc8 hg8 n1 n2 n3 n4 bl
  go_enter Tryd.func18, Tryd.ntmps18
  go_wp2_with (first | (go_at_call 33; (with_reducible refine HB.out.mono ?_); rintro e' w4 ⟨rfl, rfl⟩) | (go_at_call 33; (with_reducible refine HA.out.mono ?_); rintro e' w3 ⟨rfl, rfl⟩))
  go_ret
  exact ⟨rfl, FIN.out⟩
theorem ntCut_any (H : Nt w0 q m v ps mb w) (hm : Nok m) (a b : Int) (is : Bool) (E : EP [0, 2, 5] ads w) : Calls Tryd.prog 18 #[.pointer (some ⟨q, 0, none⟩), .int .i64 a, .int .i64 b, .bool is] w fun r w' => r = .returned (errI ads (m.cutW a b is).1) ∧ ∃ v' ps', Nt w0 q (m.cutW a b is).2 v' ps' mb w' ∧ Asd (Ob q v ps mb) (Ob q v' ps' mb) w w' := by
  unfold NetM.cutW
  by_cases h : (m.has a && m.has b) = false
  · rw [if_pos h]
    exact (ntCut_no H a b is h (E.cell 0 (by simp))).mono fun r w' ⟨q1, q2⟩ => ⟨q1, v, ps, q2 ▸ H, q2 ▸ Asd.refl _ _⟩
  · rw [if_neg h]
    have h : (m.has a && m.has b) = true := by simpa using h
    rw [Bool.and_eq_true] at h
    cases is with
    | true => exact (ntCut_t H hm a b h.1 h.2).mono fun r w' ⟨q1, q2⟩ => ⟨by rw [q1, errI_nil], v, ps, q2⟩
    | false => exact (ntCut_f H hm a b h.1 h.2).mono fun r w' ⟨q1, q2⟩ => ⟨by rw [q1, errI_nil], v, ps, q2⟩
end Go.Proofs.YtjffkfcokgcenaaDoor
