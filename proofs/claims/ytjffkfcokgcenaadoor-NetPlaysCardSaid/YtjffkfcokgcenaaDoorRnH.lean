/-
  THE DOCUMENT's NET (own work): New.
-/
import Derived.Test.YtjffkfcokgcenaaDoorRnG
namespace Go.Proofs.YtjffkfcokgcenaaDoor
open Go.RowKit Go.ChangeShapes Go.WideShapes
variable {w0 w w' W w3 : World} {q n j b : Nat} {vc vc' : Value} {rb : List Nat}

def fls (n : Nat) : Array Value := ((List.replicate n false).map Value.bool).toArray
set_option maxRecDepth 100000 in
theorem mk_boolsN : ∀ (n : Nat), 1 ≤ n → n ≤ 4 → ∀ w : World, (Instr.makeSlice 54 (.int .i64 (n : Int)) (.int .i64 (n : Int))).run Tryd.prog w = .ok (.slice (some ⟨w.heap.size, 0, none⟩) n n) (w.alloc (.cells (fls n) 4))
  | 1, _, _, w => by kernel_rfl
  | 2, _, _, w => by kernel_rfl
  | 3, _, _, w => by kernel_rfl
  | 4, _, _, w => by kernel_rfl
  | n + 5, _, h, _ => by omega
/-- WHILE THE WAYS ARE MADE -/
structure RnN (w0 : World) (q n j : Nat) (vc : Value) (rb : List Nat) (w : World) : Prop where
  row : w.heap[q]? = some (.cells #[.int .i64 n, .slice none 0 0, vc, .int .i64 0] 41 (0, 0))
  bq : w0.heap.size ≤ q
  cuts : w.ownsRow w0.heap.size 54 1 vc j ((wayE n).row rb)
  rows : ∀ (i : Nat) (h : i < rb.length), w0.heap.size ≤ rb[i] ∧ w.heap[rb[i]]? = some (.cells (fls n) 4 (0, 0))
  nd : rb.Nodup
theorem RnN.kp (h : RnN w0 q n j vc rb w) (hk : Kp w w') : RnN w0 q n j vc rb w' :=
  ⟨kp_row hk h.row, h.bq, own_kp3 h.cuts hk, fun i hi => ⟨(h.rows i hi).1, kp_row hk (h.rows i hi).2⟩, h.nd⟩
theorem RnN.ne (h : RnN w0 q n j vc rb w) : vc.ownBlock ≠ some q ∧ q ∉ rb ∧ (∀ b, vc.ownBlock = some b → b ∉ rb) := by
  have hc : ∀ b, vc.ownBlock = some b → ∃ cs x, w.heap[b]? = some (.cells cs 54 x) := fun b hb => by
    rcases h.cuts.2 with ⟨rfl, _⟩ | ⟨g', cap, cur, rfl, _, hh, _⟩
    · cases hb
    · have e : g' = b := by injection hb
      subst e
      exact ⟨_, _, hh⟩
  have hr : ∀ b, b ∈ rb → ∃ cs x, w.heap[b]? = some (.cells cs 4 x) := fun b hb => by
    obtain ⟨i, hi, rfl⟩ := List.getElem_of_mem hb
    exact ⟨_, _, (h.rows i hi).2⟩
  have ty : ∀ {b : Nat} {c1 c2 : Array Value} {t1 t2 : TypeId} {x1 x2 : Nat × Nat}, w.heap[b]? = some (.cells c1 t1 x1) → w.heap[b]? = some (.cells c2 t2 x2) → t1 = t2 := fun h1 h2 => by
    rw [h1] at h2
    injection h2 with h2
    injection h2
  refine ⟨fun e => ?_, fun e => ?_, fun b e e2 => ?_⟩
  · obtain ⟨_, _, h1⟩ := hc _ e
    exact absurd (ty h.row h1) (by decide)
  · obtain ⟨_, _, h1⟩ := hr _ e
    exact absurd (ty h.row h1) (by decide)
  · obtain ⟨_, _, h1⟩ := hc _ e
    obtain ⟨_, _, h2⟩ := hr _ e2
    exact absurd (ty h1 h2) (by decide)
theorem RnN.step (h : RnN w0 q n j vc rb w) (hk : Kp w W) (hrb : W.heap[b]? = some (.cells (fls n) 4 (0, 0))) (hb : w.heap.size ≤ b) (hg : W.grownBy w3 vc.ownBlock) (ho : w3.ownsRow w0.heap.size 54 1 vc' (j + 1) ((wayE n).row (rb ++ [b]))) (hbb : ∀ b, vc'.ownBlock = some b → vc.ownBlock = some b ∨ W.heap.size ≤ b) :
    RnN w0 q n (j + 1) vc' (rb ++ [b]) (w3.setCell ⟨q, 2, none⟩ vc') ∧ (∀ B, B.heap.size ≤ q → (∀ b, vc.ownBlock = some b → B.heap.size ≤ b) → Kp B w → Kp B (w3.setCell ⟨q, 2, none⟩ vc') ∧ (∀ b, vc'.ownBlock = some b → B.heap.size ≤ b)) := by
  obtain ⟨n1, n2, n3⟩ := h.ne
  have hs := Below.size hk
  have lq := old_of_row h.row
  have lb := old_of_row hrb
  have r1 : w3.heap[q]? = some (.cells #[.int .i64 n, .slice none 0 0, vc, .int .i64 0] 41 (0, 0)) := by rw [hg.block q (by omega) (fun e => n1 e.symm)]; exact kp_row hk h.row
  have n6 : vc'.ownBlock ≠ some q := fun e => (hbb q e).elim n1 (fun e => by omega)
  have r2 : ∀ x, x ∈ rb → w3.heap[x]? = w.heap[x]? ∧ x ≠ q := fun x hx => by
    obtain ⟨i, hi, rfl⟩ := List.getElem_of_mem hx
    have := old_of_row (h.rows i hi).2
    exact ⟨by rw [hg.block _ (by omega) (fun e => n3 _ e.symm hx)]; exact Below.block hk _ this, fun e => n2 (e ▸ hx)⟩
  have r3 : w3.heap[b]? = some (.cells (fls n) 4 (0, 0)) := by
    rw [hg.block b lb (fun e => ?_)]
    · exact hrb
    · have := (h.cuts.lt b e.symm).2
      omega
  refine ⟨⟨(Joins.block_setCell r1 _).trans rfl, h.bq, own_stayG ho (fun b e => Below.heap_setCell _ _ _ _ (fun e2 => n6 (by rw [← show b = q from e2]; exact e))), fun i hi => ?_, ?_⟩, fun B hB hvB hKB => ⟨?_, fun b e => (hbb b e).elim (hvB b) (fun e => Nat.le_trans (Below.size hKB) (Nat.le_trans hs e))⟩⟩
  · by_cases hi2 : i < rb.length
    · rw [List.getElem_append_left hi2]
      have hm := List.getElem_mem hi2
      refine ⟨(h.rows i hi2).1, ?_⟩
      rw [Below.heap_setCell _ _ _ _ (fun e => (r2 _ hm).2 e), (r2 _ hm).1]
      exact (h.rows i hi2).2
    · have e : i = rb.length := by simp at hi; omega
      subst e
      rw [List.getElem_append_right (Nat.le_refl _)]
      simp only [Nat.sub_self, List.getElem_cons_zero]
      refine ⟨by have := h.bq; omega, ?_⟩
      rw [Below.heap_setCell _ _ _ _ (fun e => by have : b = q := e; omega)]
      exact r3
  · refine List.nodup_append.2 ⟨h.nd, by simp, fun x hx y hy => ?_⟩
    rw [List.mem_singleton.1 hy]
    intro e
    obtain ⟨i, hi, rfl⟩ := List.getElem_of_mem hx
    have := old_of_row (h.rows i hi).2
    omega
  · exact Below.setCell (Below.grown (Kp.trans hKB hk) hg (Nat.le_trans (Below.size hKB) hs) (fun k hk => hvB k hk)) hB _
theorem RnN.fin (h : RnN w0 q n n vc rb w) : Rn w0 q (NetM.new n) (.slice none 0 0) vc rb w := by
  have hl : rb.length = n := own_lenG (E := wayE n) Nat.zero_lt_one h.cuts
  refine ⟨h.row, h.bq, World.ownsRow_nil _ _ _ _, h.cuts, fun i hi => ⟨(h.rows i hi).1, ?_⟩, h.nd⟩
  rw [(h.rows i hi).2]
  have hi2 : i < n := by omega
  unfold NetM.new fls
  dsimp only
  rw [List.getD_eq_getElem?_getD, List.getElem?_replicate, if_pos hi2]
  rfl
theorem part_way {W : World} {c b n : Nat} (h : W.heap[c]? = some (.cells #[.slice (some ⟨b, 0, none⟩) n n] 54 (0, 0))) : PartG (wayE n) (.slice (some ⟨c, 0, none⟩) 1 1) [b] W := by
  refine ⟨_, _, rfl, fun e => (by cases e), fun ad e i u hi => ?_⟩
  injection e with e
  subst e
  rw [Addr.add_lit, Nat.zero_add]
  match i, hi with
  | 0, hi => simp [EncG.row, wayE] at hi; subst hi; exact cell_row h rfl
  | i + 1, hi => simp [EncG.row, wayE] at hi
set_option maxRecDepth 100000 in
set_option maxHeartbeats 2000000 in
theorem rnNew_base (h1 : 1 ≤ n) (h4 : n ≤ 4) (w : World) : Calls Tryd.prog 11 #[.int .i64 n] w fun r w' => ∃ q vc rb, r = .returned (.pointer (some ⟨q, 0, none⟩)) ∧ Rn w q (NetM.new n) (.slice none 0 0) vc rb w' ∧ Kp w w' := by
  obtain ⟨nn, hnn⟩ : ∃ x : Int, (n : Int) = x := ⟨_, rfl⟩
  have hmk := mk_boolsN n h1 h4
  rw [hnn] at hmk ⊢
  obtain ⟨q, hq⟩ : ∃ q, w.heap.size = q := ⟨_, rfl⟩
  have HQ := Lib.hid hq
  have r0 := (MapKept.heap_alloc w (.cells #[.int .i64 nn, .slice none 0 0, .slice none 0 0, .int .i64 0] 41)).1
  have k0 := kp_alloc w (.cells #[.int .i64 nn, .slice none 0 0, .slice none 0 0, .int .i64 0] 41)
  obtain ⟨Z0, hZ0⟩ : ∃ Z, w.alloc (.cells #[.int .i64 nn, .slice none 0 0, .slice none 0 0, .int .i64 0] 41) = Z := ⟨_, rfl⟩
  rw [hZ0, hq] at r0
  rw [hZ0] at k0
  have N0 := Lib.hid (show RnN w q n 0 (.slice none 0 0) [] Z0 from ⟨by rw [hnn]; exact r0, Nat.le_of_eq hq, World.ownsRow_nil _ _ _ _, fun i hi => (by cases hi), List.nodup_nil⟩)
  have K0 := Lib.hid k0
  have HZ0 := Lib.hid hZ0
  have HN := Lib.hid (And.intro hnn (And.intro h1 h4))
  have n1 : 1 ≤ nn := by omega
  have n4 : nn ≤ 4 := by omega
  clear r0 k0 hZ0 hq hnn h1 h4
  go_enter Tryd.func11, Tryd.ntmps11
  go_wp2_with fail
  rw [HZ0.out]
  try rw [HQ.out]
  go_loopw [4] (fun i wr => ∃ j : Nat, j ≤ n ∧ i = .int .i64 j ∧ ∃ vc rb, RnN w q n j vc rb wr ∧ (∀ b, vc.ownBlock = some b → w.heap.size ≤ b) ∧ Kp w wr) (fun i _ => n - (intOf i).toNat)
  case atStart => exact ⟨0, Nat.zero_le _, rfl, _, _, N0.out, fun b hb => (by cases hb), K0.out⟩
  case round =>
    obtain ⟨j, hj, rfl, vc, rb, hr, hvb, hkw⟩ := hrel
    obtain ⟨jj, hjj⟩ : ∃ jj : Int, (j : Int) = jj := ⟨_, rfl⟩
    rw [hjj]
    have HJI := Lib.hid hjj
    have HKW := Lib.hid hkw
    have HVB := Lib.hid hvb
    have HR := Lib.hid hr
    have hnn := HN.out.1
    have hn4 := HN.out.2.2
    by_cases hlt : j < n
    · have hlt2 : jj < nn := by omega
      have j0 : 0 ≤ jj := by omega
      have HJ := Lib.hid (show j < 4 ∧ j < n by omega)
      have kx : Kp wr wr.drew := kp_drewR (Kp.refl _)
      obtain ⟨XD, hX⟩ : ∃ X, wr.drew = X := ⟨_, rfl⟩
      rw [hX] at kx
      have HXD := Lib.hid hX
      have KXD := Lib.hid kx
      have KX := Lib.hid (Kp.refl XD)
      have NX := Lib.hid (show RnN w q n j vc rb XD from hr.kp kx)
      obtain ⟨av, cv, hvc⟩ := own_formG hr.cuts
      subst hvc
      have y1 := cell_row (i := 2) NX.out.row rfl
      clear hr hvb hkw kx hX hj hjj hlt hnn hn4
      go_wp2_with fail
      refine wp_region_held_drew (S := fun _ => True) (by kernel_rfl) ?_ (fun hHeld => ?_)
      · exact trivial
      rw [HXD.out]
      refine wpAnyH_take (i := 0) (v := ?_) rfl (by kernel_rfl) (by kernel_rfl) (by kernel_rfl) (fun _ _ _ h => h) (Or.inl ⟨by rfl, ?_⟩) (by assumption) ?_
      rotate_left
      · intro w hSw; go_simp; try with_reducible rfl
      go_simp
      refine wpAnyH_take (i := 1) (v := ?_) rfl (by kernel_rfl) (by kernel_rfl) (by kernel_rfl) (fun _ _ _ h => h) (Or.inl ⟨by rfl, ?_⟩) (by assumption) ?_
      rotate_left
      · intro w hSw; go_simp; try with_reducible rfl
      go_simp
      refine wpAnyH_take (i := 2) (v := ?_) rfl (by kernel_rfl) (by kernel_rfl) (by kernel_rfl) (fun _ _ _ h => h) (Or.inl ⟨by rfl, ?_⟩) (by assumption) ?_
      rotate_left
      · intro w hSw; go_simp; try with_reducible rfl
      go_simp
      refine wpAnyH_take (i := 3) (v := ?_) rfl (by kernel_rfl) (by kernel_rfl) (by kernel_rfl) (fun _ _ _ h => h) (Or.inl ⟨by rfl, ?_⟩) (by assumption) ?_
      rotate_left
      · intro w hSw; go_simp; try with_reducible rfl
      go_simp
      refine wpAnyH_take (i := 5) (v := ?_) rfl (by kernel_rfl) (by kernel_rfl) (by kernel_rfl) (fun _ _ _ h => h) (Or.inl ⟨by rfl, ?_⟩) (by assumption) ?_
      rotate_left
      · intro w hSw; go_simp; try with_reducible rfl
      go_simp
      refine wpAnyH_ready (rs := [4, 6]) (by kernel_rfl) (by simp) ?_
      refine AllReadyH.cons rfl (fun K hK => ?_) (AllReadyH.cons rfl (fun K hK => ?_) AllReadyH.nil)
      · go_simp
        refine hK.out _ _ trivial (fun hHeld => ?_)
        clear hK K
        refine wpAnyH_ready (rs := [6]) (by kernel_rfl) (by simp) ?_
        refine AllReadyH.cons rfl (fun K hK => ?_) AllReadyH.nil
        go_simp
        refine hK.out _ _ trivial (fun hHeld => ?_)
        clear hK K
        obtain ⟨b6, hb6⟩ : ∃ x, XD.heap.size = x := ⟨_, rfl⟩
        obtain ⟨Z6, hZ⟩ : ∃ Z, XD.alloc (.cells (fls n) 4) = Z := ⟨_, rfl⟩
        have k6 : Kp XD Z6 := by rw [← hZ]; exact kp_alloc _ _
        have R6 := Lib.hid (show Z6.heap[b6]? = some (.cells (fls n) 4) by rw [← hZ, ← hb6]; exact (MapKept.heap_alloc XD (.cells (fls n) 4)).1)
        have K6 := Lib.hid k6
        have z2 := cell_row (i := 2) (kp_row k6 NX.out.row) rfl
        have B6 := Lib.hid (show XD.heap.size = b6 from hb6)
        rw [hZ]
        try rw [hb6]
        clear hZ k6 hb6
        refine wpAnyH_ready (rs := [7]) (by kernel_rfl) (by simp) ?_
        refine AllReadyH.cons rfl (fun K hK => ?_) AllReadyH.nil
        go_simp
        refine hK.out _ _ trivial (fun hHeld => ?_)
        clear hK K
        obtain ⟨b7, hb7⟩ : ∃ x, Z6.heap.size = x := ⟨_, rfl⟩
        obtain ⟨Z7, hZ⟩ : ∃ Z, Z6.alloc (.cells #[.slice (some ⟨b6, 0, none⟩) n n] 54) = Z := ⟨_, rfl⟩
        have k7 : Kp Z6 Z7 := by rw [← hZ]; exact kp_alloc _ _
        have P7 := Lib.hid (part_way (n := n) (b := b6) (show Z7.heap[b7]? = some (.cells #[.slice (some ⟨b6, 0, none⟩) n n] 54) by rw [← hZ, ← hb7]; exact (MapKept.heap_alloc Z6 (.cells #[.slice (some ⟨b6, 0, none⟩) n n] 54)).1))
        have K7 := Lib.hid (Kp.trans K6.out k7)
        have R7 := Lib.hid (kp_row k7 R6.out)
        have N7 := Lib.hid (NX.out.kp K7.out)
        have z3 := cell_row (i := 2) N7.out.row rfl
        rw [hZ]
        try rw [hb7]
        clear hZ k7 hb7
        refine wpAnyH_ready (rs := [8]) (by kernel_rfl) (by simp) ?_
        refine AllReadyH.consLG rfl (fun K hK => ?_) AllReadyH.nil
        go_simp
        refine wpList_append_rwG (E := wayE n) ty_bbR Nat.zero_lt_one _ rfl _ _ rfl w.heap.size _ j rb rfl N7.out.cuts _ [b6] rfl P7.out ?f1 ?f2 ?_
        case f1 => have := HJ.out; simp; omega
        case f2 => have := N7.out.bq; have := old_of_row N7.out.row; omega
        rintro v8 w8 ho hg hb
        obtain ⟨ad8, c8, rfl⟩ := own_formG ho
        have ST := Lib.hid (NX.out.step K7.out R7.out (by have := B6.out; omega) hg ho hb)
        have r8 := (hg.block q (old_of_row N7.out.row) (fun e => N7.out.ne.1 e.symm)).trans N7.out.row
        have y8 := cell_row (i := 2) r8 rfl
        have fz := frozR r8
        refine hK.out _ _ trivial (fun hHeld => ?_)
        clear hK K
        clear ho hg hb r8
        refine wpAnyH_take (i := 9) (v := ?_) rfl (by kernel_rfl) (by kernel_rfl) (by kernel_rfl) (fun _ _ _ h => h) (Or.inl ⟨by rfl, ?_⟩) (by assumption) ?_
        rotate_left
        · intro w hSw; go_simp; try with_reducible rfl
        go_simp
        refine wpAnyH_take (i := 10) (v := ?_) rfl (by kernel_rfl) (by kernel_rfl) (by kernel_rfl) (fun _ _ _ h => h) (Or.inl ⟨by rfl, ?_⟩) (by assumption) ?_
        rotate_left
        · intro w hSw; go_simp; try with_reducible rfl
        go_simp
        refine wpAnyH_ready (rs := [11]) (by kernel_rfl) (by simp) ?_
        refine AllReadyH.cons rfl (fun K hK => ?_) AllReadyH.nil
        go_simp
        refine hK.out _ _ trivial (fun hHeld => ?_)
        clear hK K
        refine wpAnyH_done (by kernel_rfl) ?_ _
        go_wp2
        have hj1 := HJI.out
        skip
        go_roundw
        case rel =>
          have hj1 := HJI.out
          obtain ⟨S1, S2⟩ := ST.out
          obtain ⟨S3, S4⟩ := S2 w (by have := HQ.out; omega) HVB.out (Kp.trans HKW.out KXD.out)
          exact ⟨j + 1, by have := HJ.out; omega, by rw [← hj1]; rfl, _, _, S1, S4, S3⟩
        case measure => have h1 := HJ.out; have h2 := HJI.out; simp [intOf]; omega
      · go_simp
        refine hK.out _ _ trivial (fun hHeld => ?_)
        clear hK K
        obtain ⟨b6, hb6⟩ : ∃ x, XD.heap.size = x := ⟨_, rfl⟩
        obtain ⟨Z6, hZ⟩ : ∃ Z, XD.alloc (.cells (fls n) 4) = Z := ⟨_, rfl⟩
        have k6 : Kp XD Z6 := by rw [← hZ]; exact kp_alloc _ _
        have R6 := Lib.hid (show Z6.heap[b6]? = some (.cells (fls n) 4) by rw [← hZ, ← hb6]; exact (MapKept.heap_alloc XD (.cells (fls n) 4)).1)
        have K6 := Lib.hid k6
        have z2 := cell_row (i := 2) (kp_row k6 NX.out.row) rfl
        have B6 := Lib.hid (show XD.heap.size = b6 from hb6)
        rw [hZ]
        try rw [hb6]
        clear hZ k6 hb6
        refine wpAnyH_ready (rs := [4, 7]) (by kernel_rfl) (by simp) ?_
        refine AllReadyH.cons rfl (fun K hK => ?_) (AllReadyH.cons rfl (fun K hK => ?_) AllReadyH.nil)
        · go_simp
          refine hK.out _ _ trivial (fun hHeld => ?_)
          clear hK K
          refine wpAnyH_ready (rs := [7]) (by kernel_rfl) (by simp) ?_
          refine AllReadyH.cons rfl (fun K hK => ?_) AllReadyH.nil
          go_simp
          refine hK.out _ _ trivial (fun hHeld => ?_)
          clear hK K
          obtain ⟨b7, hb7⟩ : ∃ x, Z6.heap.size = x := ⟨_, rfl⟩
          obtain ⟨Z7, hZ⟩ : ∃ Z, Z6.alloc (.cells #[.slice (some ⟨b6, 0, none⟩) n n] 54) = Z := ⟨_, rfl⟩
          have k7 : Kp Z6 Z7 := by rw [← hZ]; exact kp_alloc _ _
          have P7 := Lib.hid (part_way (n := n) (b := b6) (show Z7.heap[b7]? = some (.cells #[.slice (some ⟨b6, 0, none⟩) n n] 54) by rw [← hZ, ← hb7]; exact (MapKept.heap_alloc Z6 (.cells #[.slice (some ⟨b6, 0, none⟩) n n] 54)).1))
          have K7 := Lib.hid (Kp.trans K6.out k7)
          have R7 := Lib.hid (kp_row k7 R6.out)
          have N7 := Lib.hid (NX.out.kp K7.out)
          have z3 := cell_row (i := 2) N7.out.row rfl
          rw [hZ]
          try rw [hb7]
          clear hZ k7 hb7
          refine wpAnyH_ready (rs := [8]) (by kernel_rfl) (by simp) ?_
          refine AllReadyH.consLG rfl (fun K hK => ?_) AllReadyH.nil
          go_simp
          refine wpList_append_rwG (E := wayE n) ty_bbR Nat.zero_lt_one _ rfl _ _ rfl w.heap.size _ j rb rfl N7.out.cuts _ [b6] rfl P7.out ?f1 ?f2 ?_
          case f1 => have := HJ.out; simp; omega
          case f2 => have := N7.out.bq; have := old_of_row N7.out.row; omega
          rintro v8 w8 ho hg hb
          obtain ⟨ad8, c8, rfl⟩ := own_formG ho
          have ST := Lib.hid (NX.out.step K7.out R7.out (by have := B6.out; omega) hg ho hb)
          have r8 := (hg.block q (old_of_row N7.out.row) (fun e => N7.out.ne.1 e.symm)).trans N7.out.row
          have y8 := cell_row (i := 2) r8 rfl
          have fz := frozR r8
          refine hK.out _ _ trivial (fun hHeld => ?_)
          clear hK K
          clear ho hg hb r8
          refine wpAnyH_take (i := 9) (v := ?_) rfl (by kernel_rfl) (by kernel_rfl) (by kernel_rfl) (fun _ _ _ h => h) (Or.inl ⟨by rfl, ?_⟩) (by assumption) ?_
          rotate_left
          · intro w hSw; go_simp; try with_reducible rfl
          go_simp
          refine wpAnyH_take (i := 10) (v := ?_) rfl (by kernel_rfl) (by kernel_rfl) (by kernel_rfl) (fun _ _ _ h => h) (Or.inl ⟨by rfl, ?_⟩) (by assumption) ?_
          rotate_left
          · intro w hSw; go_simp; try with_reducible rfl
          go_simp
          refine wpAnyH_ready (rs := [11]) (by kernel_rfl) (by simp) ?_
          refine AllReadyH.cons rfl (fun K hK => ?_) AllReadyH.nil
          go_simp
          refine hK.out _ _ trivial (fun hHeld => ?_)
          clear hK K
          refine wpAnyH_done (by kernel_rfl) ?_ _
          go_wp2
          have hj1 := HJI.out
          skip
          go_roundw
          case rel =>
            have hj1 := HJI.out
            obtain ⟨S1, S2⟩ := ST.out
            obtain ⟨S3, S4⟩ := S2 w (by have := HQ.out; omega) HVB.out (Kp.trans HKW.out KXD.out)
            exact ⟨j + 1, by have := HJ.out; omega, by rw [← hj1]; rfl, _, _, S1, S4, S3⟩
          case measure => have h1 := HJ.out; have h2 := HJI.out; simp [intOf]; omega
        · go_simp
          refine hK.out _ _ trivial (fun hHeld => ?_)
          clear hK K
          obtain ⟨b7, hb7⟩ : ∃ x, Z6.heap.size = x := ⟨_, rfl⟩
          obtain ⟨Z7, hZ⟩ : ∃ Z, Z6.alloc (.cells #[.slice (some ⟨b6, 0, none⟩) n n] 54) = Z := ⟨_, rfl⟩
          have k7 : Kp Z6 Z7 := by rw [← hZ]; exact kp_alloc _ _
          have P7 := Lib.hid (part_way (n := n) (b := b6) (show Z7.heap[b7]? = some (.cells #[.slice (some ⟨b6, 0, none⟩) n n] 54) by rw [← hZ, ← hb7]; exact (MapKept.heap_alloc Z6 (.cells #[.slice (some ⟨b6, 0, none⟩) n n] 54)).1))
          have K7 := Lib.hid (Kp.trans K6.out k7)
          have R7 := Lib.hid (kp_row k7 R6.out)
          have N7 := Lib.hid (NX.out.kp K7.out)
          have z3 := cell_row (i := 2) N7.out.row rfl
          rw [hZ]
          try rw [hb7]
          clear hZ k7 hb7
          refine wpAnyH_ready (rs := [4]) (by kernel_rfl) (by simp) ?_
          refine AllReadyH.cons rfl (fun K hK => ?_) AllReadyH.nil
          go_simp
          refine hK.out _ _ trivial (fun hHeld => ?_)
          clear hK K
          refine wpAnyH_ready (rs := [8]) (by kernel_rfl) (by simp) ?_
          refine AllReadyH.consLG rfl (fun K hK => ?_) AllReadyH.nil
          go_simp
          refine wpList_append_rwG (E := wayE n) ty_bbR Nat.zero_lt_one _ rfl _ _ rfl w.heap.size _ j rb rfl N7.out.cuts _ [b6] rfl P7.out ?f1 ?f2 ?_
          case f1 => have := HJ.out; simp; omega
          case f2 => have := N7.out.bq; have := old_of_row N7.out.row; omega
          rintro v8 w8 ho hg hb
          obtain ⟨ad8, c8, rfl⟩ := own_formG ho
          have ST := Lib.hid (NX.out.step K7.out R7.out (by have := B6.out; omega) hg ho hb)
          have r8 := (hg.block q (old_of_row N7.out.row) (fun e => N7.out.ne.1 e.symm)).trans N7.out.row
          have y8 := cell_row (i := 2) r8 rfl
          have fz := frozR r8
          refine hK.out _ _ trivial (fun hHeld => ?_)
          clear hK K
          clear ho hg hb r8
          refine wpAnyH_take (i := 9) (v := ?_) rfl (by kernel_rfl) (by kernel_rfl) (by kernel_rfl) (fun _ _ _ h => h) (Or.inl ⟨by rfl, ?_⟩) (by assumption) ?_
          rotate_left
          · intro w hSw; go_simp; try with_reducible rfl
          go_simp
          refine wpAnyH_take (i := 10) (v := ?_) rfl (by kernel_rfl) (by kernel_rfl) (by kernel_rfl) (fun _ _ _ h => h) (Or.inl ⟨by rfl, ?_⟩) (by assumption) ?_
          rotate_left
          · intro w hSw; go_simp; try with_reducible rfl
          go_simp
          refine wpAnyH_ready (rs := [11]) (by kernel_rfl) (by simp) ?_
          refine AllReadyH.cons rfl (fun K hK => ?_) AllReadyH.nil
          go_simp
          refine hK.out _ _ trivial (fun hHeld => ?_)
          clear hK K
          refine wpAnyH_done (by kernel_rfl) ?_ _
          go_wp2
          have hj1 := HJI.out
          skip
          go_roundw
          case rel =>
            have hj1 := HJI.out
            obtain ⟨S1, S2⟩ := ST.out
            obtain ⟨S3, S4⟩ := S2 w (by have := HQ.out; omega) HVB.out (Kp.trans HKW.out KXD.out)
            exact ⟨j + 1, by have := HJ.out; omega, by rw [← hj1]; rfl, _, _, S1, S4, S3⟩
          case measure => have h1 := HJ.out; have h2 := HJI.out; simp [intOf]; omega
    · have hex : ¬ jj < nn := by omega
      have e : j = n := by omega
      subst e
      have RF := Lib.hid hr.fin
      clear hr hvb hkw hj hjj hlt hnn hn4
      go_wp2
      go_ret
      exact ⟨_, rfl, ⟨_, _, RF.out⟩, HKW.out⟩
theorem rnNew_any (h1 : 1 ≤ n) (h4 : n ≤ 4) (hw : w0.heap.size ≤ w.heap.size) : Calls Tryd.prog 11 #[.int .i64 n] w fun r w' => ∃ q vc rb, r = .returned (.pointer (some ⟨q, 0, none⟩)) ∧ Rn w0 q (NetM.new n) (.slice none 0 0) vc rb w' ∧ (∀ b, On q (.slice none 0 0) vc rb b → w.heap.size ≤ b) ∧ Kp w w' := by
  refine (rnNew_base h1 h4 w).mono ?_
  rintro r w' ⟨q, vc, rb, rfl, hr, hk⟩
  exact ⟨q, vc, rb, rfl, ⟨hr.row, Nat.le_trans hw hr.bq, own_baseG hr.own hw, own_baseG hr.cuts hw, fun i hi => ⟨Nat.le_trans hw (hr.rows i hi).1, (hr.rows i hi).2⟩, hr.nd⟩, fun b hb => (hr.mem b hb).1, hk⟩
end Go.Proofs.YtjffkfcokgcenaaDoor
