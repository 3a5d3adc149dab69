/-
  THE DOCUMENT's NET (own work): Move.
-/
import Derived.Test.YtjffkfcokgcenaaDoorRnF
namespace Go.Proofs.YtjffkfcokgcenaaDoor
open Go.RowKit Go.ChangeShapes Go.WideShapes
variable {w0 w w' W w3 : World} {q : Nat} {m : NetM} {v v' vc : Value} {rb : List Nat}

/-- the beginning and the end of a row of the call's own, nil too -/
theorem own_headG {α : Type} {E : EncG α} {P : Program} {T e : TypeId} {w : World} {base n i : Nat} {v : Value} {f : List α} {ii : Int} (hu : P.underlying T = some (.slice e)) (hz : ∃ i0, P.info? e = some i0 ∧ i0.size = E.k) (h0 : 0 < E.k) (h : w.ownsRow base e E.k v n (E.row f)) (hii : (i : Int) = ii) (hi : i ≤ n) :
    ∃ A C, (∀ w, (Instr.slice T v none (some (.int .i64 ii)) none).run P w = .ok (.slice A i C) w) ∧ PartG E (.slice A i C) (f.take i) w := by
  rcases h.2 with ⟨rfl, h1⟩ | ⟨g, cp, cur, rfl, hg, hh, hnc, hr⟩
  · subst h1
    obtain rfl : i = 0 := by omega
    have he : P.elem T = e := by simp [Program.elem, hu]
    refine ⟨none, 0, fun w => ?_, none, 0, by simp, fun _ => by simp, fun ad q => by cases q⟩
    have hs : (Go.sizeOf e).run P w = .ok E.k w := by
      obtain ⟨i0, h1, h2⟩ := hz
      simp [sizeOf, typeInfo, h1, h2]
    rw [run_slice_h w T _ _ _ (by rw [hu, he]) .i64 _ (by omega) (by omega), he, hs]
    have e : ii.toNat = 0 := by omega
    simp [Result.andThen, sliced, e]
  · exact ⟨_, _, fun w => sl_headG hu hz hii hi hnc w, own_takeG h0 h hi⟩
theorem own_tailG {α : Type} {E : EncG α} {P : Program} {T e : TypeId} {w : World} {base n i : Nat} {v : Value} {f : List α} {ii : Int} (hu : P.underlying T = some (.slice e)) (hz : ∃ i0, P.info? e = some i0 ∧ i0.size = E.k) (h0 : 0 < E.k) (h : w.ownsRow base e E.k v n (E.row f)) (hii : (i : Int) = ii) (hi : i ≤ n) :
    ∃ A C, (∀ w, (Instr.slice T v (some (.int .i64 ii)) none none).run P w = .ok (.slice A (n - i) C) w) ∧ PartG E (.slice A (n - i) C) (f.drop i) w := by
  rcases h.2 with ⟨rfl, h1⟩ | ⟨g, cp, cur, rfl, hg, hh, hnc, hr⟩
  · subst h1
    obtain rfl : i = 0 := by omega
    have he : P.elem T = e := by simp [Program.elem, hu]
    have hf : f = [] := List.length_eq_zero_iff.1 (own_lenG h0 h)
    subst hf
    refine ⟨none, 0, fun w => ?_, none, 0, by simp, fun _ => by simp, fun ad q => by cases q⟩
    have hs : (Go.sizeOf e).run P w = .ok E.k w := by
      obtain ⟨i0, h1, h2⟩ := hz
      simp [sizeOf, typeInfo, h1, h2]
    rw [run_slice_l w T _ _ _ (by rw [hu, he]) .i64 _ (by omega) (by omega), he, hs]
    have e : ii.toNat = 0 := by omega
    simp [Result.andThen, sliced, e]
  · refine ⟨_, _, fun w => sl_tailG hu hz hii hi w, own_dropG h0 h hi _ (fun q => ?_) _⟩
    rw [if_neg (by omega)]
theorem empty_rowR (X : World) : (X.alloc (.cells #[] 47)).ownsRow X.heap.size 47 3 (.slice (some ⟨X.heap.size, 0, none⟩) 0 0) 0 (ltE.row []) :=
  ⟨by simp [EncG.row], Or.inr ⟨X.heap.size, 0, #[], rfl, Nat.le_refl _, (MapKept.heap_alloc X _).1, Nat.le_refl _, by omega, by simp, by simp [EncG.row]⟩⟩
set_option maxRecDepth 100000 in
theorem rnMove_no (H : Rn w0 q m v vc rb w) (ii tt : Int) (h : (m.there ii && m.there tt) = false) : Calls Tryd.prog 28 #[.pointer (some ⟨q, 0, none⟩), .int .i64 ii, .int .i64 tt] w fun r w' => r = .returned (.int .i64 1) ∧ w = w' := by
  have ha := rnThere_any H ii
  have hb := rnThere_any H tt
  cases h1 : m.there ii with
  | false =>
    rw [h1] at ha
    have HA := Lib.hid ha
    clear H h ha hb h1
    go_enter Tryd.func28, Tryd.ntmps28
    go_wp2_with (go_at_call 42; (with_reducible refine HA.out.mono ?_); rintro e' w3 ⟨rfl, rfl⟩)
    go_ret
    exact ⟨rfl, rfl⟩
  | true =>
    rw [h1, Bool.true_and] at h
    rw [h1] at ha
    rw [h] at hb
    have HA := Lib.hid ha
    have HB := Lib.hid hb
    clear H h ha hb h1
    go_enter Tryd.func28, Tryd.ntmps28
    go_wp2_with (first | (go_at_call 42; (with_reducible refine HB.out.mono ?_); rintro e' w4 ⟨rfl, rfl⟩) | (go_at_call 42; (with_reducible refine HA.out.mono ?_); rintro e' w3 ⟨rfl, rfl⟩))
    go_ret
    exact ⟨rfl, rfl⟩
theorem own_kp3 {base : Nat} {e : TypeId} {k n : Nat} {u : Value} {xs : List Value} (h : w.ownsRow base e k u n xs) (hk : Kp w w') : w'.ownsRow base e k u n xs := own_stayG h fun b hb => Below.block hk b (h.lt b hb).2
theorem PartG.grown {α : Type} {E : EncG α} {f : List α} {b n c : Nat} {o : Option Nat} (h : PartG E (.slice (some ⟨b, 0, none⟩) n c) f w) (hg : w.grownBy w' o) (hb : o ≠ some b) : PartG E (.slice (some ⟨b, 0, none⟩) n c) f w' := by
  obtain ⟨a, cap, h1, h2, h3⟩ := h
  refine ⟨a, cap, h1, h2, fun ad e j u hj => ?_⟩
  have h4 := h3 ad e j u hj
  injection h1 with h1 _ _
  rw [e] at h1
  injection h1 with h1
  subst h1
  rw [Addr.add_lit] at h4 ⊢
  have hlt : b < w.heap.size := old_of_cell h4
  unfold World.cell? at h4 ⊢
  dsimp only at h4 ⊢
  rw [hg.block b hlt (fun e => hb e.symm)]
  exact h4
set_option maxRecDepth 100000 in
set_option maxHeartbeats 4000000 in
theorem rnMove_ok (H : Rn w0 q m v vc rb w) (hl : m.f.length ≤ 64) (ii tt : Int) (h : m.there ii = true) (h2 : m.there tt = true) (a b : Int) (d : List Int) (s : ByteArray) (hs : strOfNums d = s) (hd : m.f.getD ii.toNat lt0 = ⟨a, b, d⟩) : Calls Tryd.prog 28 #[.pointer (some ⟨q, 0, none⟩), .int .i64 ii, .int .i64 tt] w fun r w' => r = .returned (.int .i64 0) ∧ ∃ v', Rn w0 q ⟨m.n, (m.but ii.toNat).take tt.toNat ++ ⟨a, b, d⟩ :: (m.but ii.toNat).drop tt.toNat, m.cut, m.lost⟩ v' vc rb w' ∧ Asd (On q v vc rb) (On q v' vc rb) w w' := by
  have ha := rnThere_any H ii
  have hb := rnThere_any H tt
  rw [h] at ha
  rw [h2] at hb
  have HA := Lib.hid ha
  have HB := Lib.hid hb
  obtain ⟨hi0, hlt⟩ := there_lt h
  obtain ⟨ht0, htl⟩ := there_lt h2
  have hbl := but_len hlt
  obtain ⟨W, hW⟩ : ∃ W, w.alloc (.cells #[.int .i64 a, .int .i64 b, .string s] 47) = W := ⟨_, rfl⟩
  have k1 := kp_alloc w (.cells #[.int .i64 a, .int .i64 b, .string s] 47)
  have r1 := (MapKept.heap_alloc w (.cells #[.int .i64 a, .int .i64 b, .string s] 47)).1
  rw [hW] at k1 r1
  have KW := Lib.hid k1
  have RW := Lib.hid r1
  have HH := Lib.hid H
  have HS := Lib.hid hs
  have HWO := Lib.hid (rnWithout_any (H.kp KW.out) hl ii.toNat ii (by omega) hlt)
  have hown := H.own
  rcases hown.2 with ⟨rfl, h0⟩ | ⟨bv, cp, cur, rfl, hbb, hh, hnc, -⟩
  · omega
  obtain ⟨n, hN⟩ : ∃ n, m.f.length = n := ⟨_, rfl⟩
  have hget : m.f[ii.toNat] = ⟨a, b, d⟩ := by rw [← hd, List.getD_eq_getElem?_getD, List.getElem?_eq_getElem hlt]; rfl
  have cc : ∀ (k : Nat) (u : Value), k < 3 → (ltE.enc ⟨a, b, d⟩)[k]? = some u → w.cell? ⟨bv, ii.toNat * 3 + k, none⟩ = some u := fun k u hk hu => by
    have := hown.cells rfl (ii.toNat * 3 + k) u (by rw [← hu, ← hget]; exact row_at ltE m.f ii.toNat hlt k hk)
    rw [Addr.add_lit, Nat.zero_add] at this
    exact this
  have c0 : w.cell? ⟨bv, ii.toNat * 3, none⟩ = some (.int .i64 a) := cc 0 _ (by decide) rfl
  have c1 : w.cell? ⟨bv, ii.toNat * 3 + 1, none⟩ = some (.int .i64 b) := cc 1 _ (by decide) rfl
  have c2 : w.cell? ⟨bv, ii.toNat * 3 + 2, none⟩ = some (.string s) := by rw [← hs]; exact cc 2 _ (by decide) rfl
  have y1 := cell_row (i := 1) H.row rfl
  obtain ⟨g, hg⟩ : ∃ g, m.but ii.toNat = g := ⟨_, rfl⟩
  obtain ⟨t, ht⟩ : ∃ t, tt.toNat = t := ⟨_, rfl⟩
  rw [hg, ht]
  rw [hg] at hbl HWO
  rw [ht] at htl
  have HT5 := Lib.hid (show t ≤ g.length by omega)
  have HG := Lib.hid (show g.length ≤ 64 by omega)
  have HTL := Lib.hid (show (g.take t).length = t by rw [List.length_take]; omega)
  have HTT := Lib.hid (show (t : Int) = tt by omega)
  have t1 : tt ≤ 1000 := by omega
  rw [hN] at y1 hlt
  have i1 : ii < n := by omega
  have HW := Lib.hid hW
  clear h h2 ha hb hown hbb hh hnc hd hget cc hW H hs hlt k1 r1 hl hN hbl hg htl
  go_enter Tryd.func28, Tryd.ntmps28
  go_wp2_with (first | (go_at_call 42; (with_reducible refine HB.out.mono ?_); rintro e' w4 ⟨rfl, rfl⟩) | (go_at_call 42; (with_reducible refine HA.out.mono ?_); rintro e' w3 ⟨rfl, rfl⟩) | (go_at_call 43; (try rw [HW.out]); (with_reducible refine HWO.out.mono ?_); rintro e' wq ⟨vq, rfl, ho, hk⟩; obtain ⟨aq, cq, hvq⟩ := own_formG ho; subst hvq; have HO := Lib.hid ho; have KQ := Lib.hid hk; clear ho hk))
  obtain ⟨A1, C1, st, hph⟩ := own_headG (E := ltE) (P := Tryd.prog) Tryd.underlying38 (info_ltR.imp fun _ h => ⟨h.1, h.2.2.1⟩) (by decide) HO.out HTT.out HT5.out
  obtain ⟨A2, C2, se, hpt⟩ := own_tailG (E := ltE) (P := Tryd.prog) Tryd.underlying38 (info_ltR.imp fun _ h => ⟨h.1, h.2.2.1⟩) (by decide) HO.out HTT.out HT5.out
  have kx : Kp wq wq.drew := kp_drewR (Kp.refl _)
  obtain ⟨XD, hX⟩ : ∃ X, wq.drew = X := ⟨_, rfl⟩
  rw [hX] at kx
  have HXD := Lib.hid hX
  have KXD := Lib.hid (Kp.trans KW.out (Kp.trans KQ.out kx))
  have KD := Lib.hid (Kp.refl XD)
  have PH := Lib.hid (hph.kp kx)
  have PT := Lib.hid (hpt.kp kx)
  have TX := Lib.hid (kp_row KQ.out RW.out)
  have HBX := Lib.hid (kp_row kx TX.out)
  obtain ⟨u, hu⟩ : ∃ u, (g.drop t).length = u := ⟨_, rfl⟩
  have HU := Lib.hid hu
  rw [show g.length - t = u by rw [← hu, List.length_drop]] at se PT
  clear hu
  clear hph hpt kx hX
  refine wp_region_held_drew (S := fun w' => w'.heap[w.heap.size]? = some (.cells #[.int .i64 a, .int .i64 b, .string s] 47)) (by kernel_rfl) ?_ (fun hHeld => ?_)
  · exact kp_row (kp_drewR (Kp.refl _)) TX.out
  rw [HXD.out] at hHeld ⊢
  refine wpAnyH_take (i := 0) (v := ?_) rfl (by kernel_rfl) (by kernel_rfl) (by kernel_rfl) (fun _ _ _ h => h) (Or.inl ⟨by rfl, ?_⟩) (by assumption) ?_
  rotate_left
  · intro w hSw; go_simp; try with_reducible rfl
  go_simp
  refine wpAnyH_take (i := 2) (v := ?_) rfl (by kernel_rfl) (by kernel_rfl) (by kernel_rfl) (fun _ _ _ h => h) (Or.inl ⟨by rfl, ?_⟩) (by assumption) ?_
  rotate_left
  · intro w hSw; go_simp; try with_reducible rfl
  go_simp
  refine wpAnyH_take (i := 3) (v := ?_) rfl (by kernel_rfl) (by kernel_rfl) (by kernel_rfl) (fun _ _ _ h => h) (Or.inl ⟨by rfl, ?_⟩) (by assumption) ?_
  rotate_left
  · intro w hSw; go_simp; try with_reducible rfl
  go_simp
  refine wpAnyH_take (i := 4) (v := ?_) rfl (by kernel_rfl) (by kernel_rfl) (by kernel_rfl) (fun _ _ _ h => h) (Or.inl ⟨by rfl, ?_⟩) (by assumption) ?_
  rotate_left
  · intro w hSw; go_simp; try with_reducible rfl
  go_simp
  refine wpAnyH_take (i := 6) (v := ?_) rfl (by kernel_rfl) (by kernel_rfl) (by kernel_rfl) (fun _ _ _ h => h) (Or.inl ⟨by rfl, ?_⟩) (by assumption) ?_
  rotate_left
  · intro w hSw; have q0 := cell_row (i := 0) hSw rfl; have q1 := cell_row (i := 1) hSw rfl; have q2 := cell_row (i := 2) hSw rfl; go_simp; try with_reducible rfl
  go_simp
  refine wpAnyH_take (i := 9) (v := ?_) rfl (by kernel_rfl) (by kernel_rfl) (by kernel_rfl) (fun _ _ _ h => h) (Or.inl ⟨by rfl, ?_⟩) (by assumption) ?_
  rotate_left
  · intro w hSw; go_simp; try with_reducible rfl
  go_simp
  refine wpAnyH_take (i := 10) (v := ?_) rfl (by kernel_rfl) (by kernel_rfl) (by kernel_rfl) (fun _ _ _ h => h) (Or.inl ⟨by rfl, ?_⟩) (by assumption) ?_
  rotate_left
  · intro w hSw; go_simp; try with_reducible rfl
  go_simp
  refine wpAnyH_take (i := 11) (v := ?_) rfl (by kernel_rfl) (by kernel_rfl) (by kernel_rfl) (fun _ _ _ h => h) (Or.inl ⟨by rfl, ?_⟩) (by assumption) ?_
  rotate_left
  · intro w hSw; go_simp; try with_reducible rfl
  go_simp
  refine wpAnyH_ready (rs := [1, 7]) (by kernel_rfl) (by simp) ?_
  refine AllReadyH.cons rfl (fun K hK => ?_) (AllReadyH.cons rfl (fun K hK => ?_) AllReadyH.nil)
  · go_simp
    refine hK.out _ _ (kp_row (kp_alloc _ _) hHeld) (fun hHeld => ?_)
    clear hK K
    have O1 := Lib.hid (empty_rowR XD)
    obtain ⟨Z1, hZ⟩ : ∃ Z, XD.alloc (.cells #[] 47) = Z := ⟨_, rfl⟩
    have K1 := Lib.hid (show Kp XD Z1 by rw [← hZ]; exact Kp.trans KD.out (kp_alloc _ _))
    obtain ⟨s1, hs1⟩ : ∃ x, XD.heap.size = x := ⟨_, rfl⟩
    have L1 := Lib.hid (show XD.heap.size ≤ s1 by rw [← hs1]; exact Below.size KD.out)
    rw [hZ] at hHeld O1 ⊢
    rw [hs1] at O1
    try rw [hs1]
    clear hZ hs1
    refine wpAnyH_ready (rs := [5, 7]) (by kernel_rfl) (by simp) ?_
    refine AllReadyH.consLG rfl (fun K hK => ?_) (AllReadyH.cons rfl (fun K hK => ?_) AllReadyH.nil)
    · go_simp
      refine wpList_append_rwG (E := ltE) ty_ltR (by decide) _ rfl _ _ rfl s1 _ 0 [] rfl O1.out _ (g.take t) rfl (PH.out.kp K1.out) ?f1 ?f2 ?_
      case f1 => have := HT5.out; have := HG.out; simp; omega
      case f2 => have := O1.out.lt s1 rfl; omega
      rintro v5 w5 ho hg hb
      rw [HTL.out, Nat.zero_add, List.nil_append] at ho
      obtain ⟨ad5, c5, rfl⟩ := own_formG ho
      have k5 : Kp Z1 w5 → True := fun _ => trivial
      have K5 := Lib.hid (show Kp XD w5 from Below.grown K1.out hg (Below.size K1.out) (fun k hk => by have := (O1.out.lt k hk).1; have := L1.out; omega))
      have S5 := Lib.hid (show s1 ≤ w5.heap.size from Nat.le_trans (by have := O1.out.lt s1 rfl; omega) hg.size)
      have O5 := Lib.hid ho
      refine hK.out _ _ (kp_row K5.out HBX.out) (fun hHeld => ?_)
      clear hK K ho hg hb k5
      refine wpAnyH_ready (rs := [7]) (by kernel_rfl) (by simp) ?_
      refine AllReadyH.cons rfl (fun K hK => ?_) AllReadyH.nil
      go_simp
      refine hK.out _ _ (kp_row (kp_alloc _ _) hHeld) (fun hHeld => ?_)
      clear hK K
      obtain ⟨Z7, hZ⟩ : ∃ Z, w5.alloc (.cells #[.int .i64 a, .int .i64 b, .string s] 47) = Z := ⟨_, rfl⟩
      have k7 : Kp w5 Z7 := by rw [← hZ]; exact kp_alloc _ _
      have r7 : Z7.heap[w5.heap.size]? = some (.cells #[.int .i64 a, .int .i64 b, .string s] 47) := by rw [← hZ]; exact (MapKept.heap_alloc w5 (.cells #[.int .i64 a, .int .i64 b, .string s] 47)).1
      have K7 := Lib.hid (Kp.trans K5.out k7)
      have P7 := Lib.hid (part_oneR r7 HS.out)
      have K57 := Lib.hid k7
      obtain ⟨b7, hb7⟩ : ∃ x, w5.heap.size = x := ⟨_, rfl⟩
      rw [hb7] at P7
      try rw [hb7]
      have O5 := Lib.hid (own_kp3 O5.out k7)
      rw [hZ] at hHeld ⊢
      try rw [hb7]
      clear hZ k7 r7 hb7
      refine wpAnyH_ready (rs := [8]) (by kernel_rfl) (by simp) ?_
      refine AllReadyH.consLG rfl (fun K hK => ?_) AllReadyH.nil
      go_simp
      refine wpList_append_rwG (E := ltE) ty_ltR (by decide) _ rfl _ _ rfl s1 _ t (g.take t) rfl O5.out _ [⟨a, b, d⟩] rfl P7.out ?g1 ?g2 ?_
      case g1 => have := HT5.out; have := HG.out; simp; omega
      case g2 => exact Nat.le_trans S5.out (by first | exact Nat.le_refl _ | exact Below.size K57.out)
      rintro v8 w8 ho hg hb
      obtain ⟨ad8, c8, rfl⟩ := own_formG ho
      have K8 := Lib.hid (show Kp XD w8 from Below.grown K7.out hg (Below.size K7.out) (fun k hk => by have := (O5.out.lt k hk).1; have := L1.out; omega))
      have S8 := Lib.hid (show s1 ≤ w8.heap.size from Nat.le_trans (Nat.le_trans S5.out (by first | exact Nat.le_refl _ | exact Below.size K57.out)) hg.size)
      have O8 := Lib.hid (show w8.ownsRow s1 47 3 (.slice ad8 (t + 1) c8) (t + 1) (ltE.row (g.take t ++ [⟨a, b, d⟩])) from ho)
      refine hK.out _ _ (kp_row K8.out HBX.out) (fun hHeld => ?_)
      clear hK K ho hg hb
      refine wpAnyH_ready (rs := [12]) (by kernel_rfl) (by simp) ?_
      refine AllReadyH.consLG rfl (fun K hK => ?_) AllReadyH.nil
      go_simp
      refine wpList_append_rwG (E := ltE) ty_ltR (by decide) _ rfl _ _ rfl s1 _ (t + 1) (g.take t ++ [(⟨a, b, d⟩ : LtM)]) rfl O8.out _ (g.drop t) rfl (PT.out.kp K8.out) ?g3 ?g4 ?_
      case g3 => have := HT5.out; have := HG.out; simp; omega
      case g4 => exact S8.out
      rintro v9 w9 ho hg hb
      rw [HU.out] at ho
      obtain ⟨ad9, c9, rfl⟩ := own_formG ho
      have K9 := Lib.hid (show Kp XD w9 from Below.grown K8.out hg (Below.size K8.out) (fun k hk => by have := (O8.out.lt k hk).1; have := L1.out; omega))
      have RF := Lib.hid (HH.out.letters (Kp.trans KXD.out K9.out) (w3 := w9) (v' := .slice ad9 (t + 1 + u) c9) (f := g.take t ++ ⟨a, b, d⟩ :: g.drop t) ⟨rfl, rfl, rfl, Nat.le_refl _, fun _ _ _ => rfl⟩ (L := t + 1 + u) (by rw [List.length_append, HTL.out, List.length_cons, HU.out]; omega) (by rw [List.append_assoc] at ho; exact own_baseG ho (Nat.le_trans HH.out.bq (Nat.le_trans (Nat.le_of_lt (old_of_row HH.out.row)) (Nat.le_trans (Below.size KXD.out) L1.out)))) (fun b e => .inr (Nat.le_trans (Below.size KXD.out) (Nat.le_trans L1.out (ho.lt b e).1))))
      have r9 := kp_row (Kp.trans KXD.out K9.out) HH.out.row
      have y9 := cell_row (i := 1) r9 rfl
      have fz := frozR r9
      have B9 := Lib.hid (kp_row K9.out HBX.out)
      refine hK.out _ _ B9.out (fun hHeld => ?_)
      clear hK K ho hg hb r9
      refine wpAnyH_take (i := 13) (v := ?_) rfl (by kernel_rfl) (by kernel_rfl) (by kernel_rfl) (fun _ _ _ h => h) (Or.inl ⟨by rfl, ?_⟩) (by assumption) ?_
      rotate_left
      · intro w hSw; go_simp; try with_reducible rfl
      go_simp
      refine wpAnyH_take (i := 14) (v := ?_) rfl (by kernel_rfl) (by kernel_rfl) (by kernel_rfl) (fun _ _ _ h => h) (Or.inl ⟨by rfl, ?_⟩) (by assumption) ?_
      rotate_left
      · intro w hSw; go_simp; try with_reducible rfl
      go_simp
      refine wpAnyH_ready (rs := [15]) (by kernel_rfl) (by simp) ?_
      refine AllReadyH.cons rfl (fun K hK => ?_) AllReadyH.nil
      go_simp
      refine hK.out _ _ ((Below.heap_setCell _ _ _ _ (by have := old_of_row HH.out.row; show w.heap.size ≠ q; omega)).trans B9.out) (fun hHeld => ?_)
      clear hK K
      refine wpAnyH_done (by kernel_rfl) ?_ _
      go_wp2
      go_ret
      exact ⟨rfl, _, RF.out.1, RF.out.2⟩
    · go_simp
      refine hK.out _ _ (kp_row (kp_alloc _ _) hHeld) (fun hHeld => ?_)
      clear hK K
      obtain ⟨Z7, hZ⟩ : ∃ Z, Z1.alloc (.cells #[.int .i64 a, .int .i64 b, .string s] 47) = Z := ⟨_, rfl⟩
      have k7 : Kp Z1 Z7 := by rw [← hZ]; exact kp_alloc _ _
      have r7 : Z7.heap[Z1.heap.size]? = some (.cells #[.int .i64 a, .int .i64 b, .string s] 47) := by rw [← hZ]; exact (MapKept.heap_alloc Z1 (.cells #[.int .i64 a, .int .i64 b, .string s] 47)).1
      have K7 := Lib.hid (Kp.trans K1.out k7)
      have P7 := Lib.hid (part_oneR r7 HS.out)
      have K57 := Lib.hid k7
      obtain ⟨b7, hb7⟩ : ∃ x, Z1.heap.size = x := ⟨_, rfl⟩
      rw [hb7] at P7
      try rw [hb7]
      have P7N := Lib.hid (show b7 ≠ s1 by have := (O1.out.lt s1 rfl).2; omega)
      have O1 := Lib.hid (own_kp3 O1.out k7)
      rw [hZ] at hHeld ⊢
      try rw [hb7]
      clear hZ k7 r7 hb7
      refine wpAnyH_ready (rs := [5]) (by kernel_rfl) (by simp) ?_
      refine AllReadyH.consLG rfl (fun K hK => ?_) AllReadyH.nil
      go_simp
      refine wpList_append_rwG (E := ltE) ty_ltR (by decide) _ rfl _ _ rfl s1 _ 0 [] rfl O1.out _ (g.take t) rfl (PH.out.kp K7.out) ?f1 ?f2 ?_
      case f1 => have := HT5.out; have := HG.out; simp; omega
      case f2 => have := O1.out.lt s1 rfl; omega
      rintro v5 w5 ho hg hb
      rw [HTL.out, Nat.zero_add, List.nil_append] at ho
      obtain ⟨ad5, c5, rfl⟩ := own_formG ho
      have k5 : Kp Z7 w5 → True := fun _ => trivial
      have K5 := Lib.hid (show Kp XD w5 from Below.grown K7.out hg (Below.size K7.out) (fun k hk => by have := (O1.out.lt k hk).1; have := L1.out; omega))
      have S5 := Lib.hid (show s1 ≤ w5.heap.size from Nat.le_trans (by have := O1.out.lt s1 rfl; omega) hg.size)
      have O5 := Lib.hid ho
      have P7 := Lib.hid (P7.out.grown hg (fun e => P7N.out (Option.some.inj e).symm))
      refine hK.out _ _ (kp_row K5.out HBX.out) (fun hHeld => ?_)
      clear hK K ho hg hb k5
      refine wpAnyH_ready (rs := [8]) (by kernel_rfl) (by simp) ?_
      refine AllReadyH.consLG rfl (fun K hK => ?_) AllReadyH.nil
      go_simp
      refine wpList_append_rwG (E := ltE) ty_ltR (by decide) _ rfl _ _ rfl s1 _ t (g.take t) rfl O5.out _ [⟨a, b, d⟩] rfl P7.out ?g1 ?g2 ?_
      case g1 => have := HT5.out; have := HG.out; simp; omega
      case g2 => exact Nat.le_trans S5.out (by first | exact Nat.le_refl _ | exact Below.size K57.out)
      rintro v8 w8 ho hg hb
      obtain ⟨ad8, c8, rfl⟩ := own_formG ho
      have K8 := Lib.hid (show Kp XD w8 from Below.grown K5.out hg (Below.size K5.out) (fun k hk => by have := (O5.out.lt k hk).1; have := L1.out; omega))
      have S8 := Lib.hid (show s1 ≤ w8.heap.size from Nat.le_trans (Nat.le_trans S5.out (by first | exact Nat.le_refl _ | exact Below.size K57.out)) hg.size)
      have O8 := Lib.hid (show w8.ownsRow s1 47 3 (.slice ad8 (t + 1) c8) (t + 1) (ltE.row (g.take t ++ [⟨a, b, d⟩])) from ho)
      refine hK.out _ _ (kp_row K8.out HBX.out) (fun hHeld => ?_)
      clear hK K ho hg hb
      refine wpAnyH_ready (rs := [12]) (by kernel_rfl) (by simp) ?_
      refine AllReadyH.consLG rfl (fun K hK => ?_) AllReadyH.nil
      go_simp
      refine wpList_append_rwG (E := ltE) ty_ltR (by decide) _ rfl _ _ rfl s1 _ (t + 1) (g.take t ++ [(⟨a, b, d⟩ : LtM)]) rfl O8.out _ (g.drop t) rfl (PT.out.kp K8.out) ?g3 ?g4 ?_
      case g3 => have := HT5.out; have := HG.out; simp; omega
      case g4 => exact S8.out
      rintro v9 w9 ho hg hb
      rw [HU.out] at ho
      obtain ⟨ad9, c9, rfl⟩ := own_formG ho
      have K9 := Lib.hid (show Kp XD w9 from Below.grown K8.out hg (Below.size K8.out) (fun k hk => by have := (O8.out.lt k hk).1; have := L1.out; omega))
      have RF := Lib.hid (HH.out.letters (Kp.trans KXD.out K9.out) (w3 := w9) (v' := .slice ad9 (t + 1 + u) c9) (f := g.take t ++ ⟨a, b, d⟩ :: g.drop t) ⟨rfl, rfl, rfl, Nat.le_refl _, fun _ _ _ => rfl⟩ (L := t + 1 + u) (by rw [List.length_append, HTL.out, List.length_cons, HU.out]; omega) (by rw [List.append_assoc] at ho; exact own_baseG ho (Nat.le_trans HH.out.bq (Nat.le_trans (Nat.le_of_lt (old_of_row HH.out.row)) (Nat.le_trans (Below.size KXD.out) L1.out)))) (fun b e => .inr (Nat.le_trans (Below.size KXD.out) (Nat.le_trans L1.out (ho.lt b e).1))))
      have r9 := kp_row (Kp.trans KXD.out K9.out) HH.out.row
      have y9 := cell_row (i := 1) r9 rfl
      have fz := frozR r9
      have B9 := Lib.hid (kp_row K9.out HBX.out)
      refine hK.out _ _ B9.out (fun hHeld => ?_)
      clear hK K ho hg hb r9
      refine wpAnyH_take (i := 13) (v := ?_) rfl (by kernel_rfl) (by kernel_rfl) (by kernel_rfl) (fun _ _ _ h => h) (Or.inl ⟨by rfl, ?_⟩) (by assumption) ?_
      rotate_left
      · intro w hSw; go_simp; try with_reducible rfl
      go_simp
      refine wpAnyH_take (i := 14) (v := ?_) rfl (by kernel_rfl) (by kernel_rfl) (by kernel_rfl) (fun _ _ _ h => h) (Or.inl ⟨by rfl, ?_⟩) (by assumption) ?_
      rotate_left
      · intro w hSw; go_simp; try with_reducible rfl
      go_simp
      refine wpAnyH_ready (rs := [15]) (by kernel_rfl) (by simp) ?_
      refine AllReadyH.cons rfl (fun K hK => ?_) AllReadyH.nil
      go_simp
      refine hK.out _ _ ((Below.heap_setCell _ _ _ _ (by have := old_of_row HH.out.row; show w.heap.size ≠ q; omega)).trans B9.out) (fun hHeld => ?_)
      clear hK K
      refine wpAnyH_done (by kernel_rfl) ?_ _
      go_wp2
      go_ret
      exact ⟨rfl, _, RF.out.1, RF.out.2⟩
  · go_simp
    refine hK.out _ _ (kp_row (kp_alloc _ _) hHeld) (fun hHeld => ?_)
    clear hK K
    obtain ⟨Z7, hZ⟩ : ∃ Z, XD.alloc (.cells #[.int .i64 a, .int .i64 b, .string s] 47) = Z := ⟨_, rfl⟩
    have k7 : Kp XD Z7 := by rw [← hZ]; exact kp_alloc _ _
    have r7 : Z7.heap[XD.heap.size]? = some (.cells #[.int .i64 a, .int .i64 b, .string s] 47) := by rw [← hZ]; exact (MapKept.heap_alloc XD (.cells #[.int .i64 a, .int .i64 b, .string s] 47)).1
    have K7 := Lib.hid (Kp.trans KD.out k7)
    have P7 := Lib.hid (part_oneR r7 HS.out)
    have K57 := Lib.hid k7
    obtain ⟨b7, hb7⟩ : ∃ x, XD.heap.size = x := ⟨_, rfl⟩
    rw [hb7] at P7
    try rw [hb7]
    have B7 := Lib.hid (show b7 < Z7.heap.size by rw [← hb7]; exact old_of_row r7)
    rw [hZ] at hHeld ⊢
    try rw [hb7]
    clear hZ k7 r7 hb7
    refine wpAnyH_ready (rs := [1]) (by kernel_rfl) (by simp) ?_
    refine AllReadyH.cons rfl (fun K hK => ?_) AllReadyH.nil
    go_simp
    refine hK.out _ _ (kp_row (kp_alloc _ _) hHeld) (fun hHeld => ?_)
    clear hK K
    have O1 := Lib.hid (empty_rowR Z7)
    obtain ⟨Z1, hZ⟩ : ∃ Z, Z7.alloc (.cells #[] 47) = Z := ⟨_, rfl⟩
    have K1 := Lib.hid (show Kp XD Z1 by rw [← hZ]; exact Kp.trans K7.out (kp_alloc _ _))
    obtain ⟨s1, hs1⟩ : ∃ x, Z7.heap.size = x := ⟨_, rfl⟩
    have L1 := Lib.hid (show XD.heap.size ≤ s1 by rw [← hs1]; exact Below.size K7.out)
    rw [hZ] at hHeld O1 ⊢
    rw [hs1] at O1
    try rw [hs1]
    have P7 := Lib.hid (P7.out.kp (show Kp Z7 Z1 by rw [← hZ]; exact kp_alloc _ _))
    have P7N := Lib.hid (show b7 ≠ s1 by have := B7.out; omega)
    clear hZ hs1
    refine wpAnyH_ready (rs := [5]) (by kernel_rfl) (by simp) ?_
    refine AllReadyH.consLG rfl (fun K hK => ?_) AllReadyH.nil
    go_simp
    refine wpList_append_rwG (E := ltE) ty_ltR (by decide) _ rfl _ _ rfl s1 _ 0 [] rfl O1.out _ (g.take t) rfl (PH.out.kp K1.out) ?f1 ?f2 ?_
    case f1 => have := HT5.out; have := HG.out; simp; omega
    case f2 => have := O1.out.lt s1 rfl; omega
    rintro v5 w5 ho hg hb
    rw [HTL.out, Nat.zero_add, List.nil_append] at ho
    obtain ⟨ad5, c5, rfl⟩ := own_formG ho
    have k5 : Kp Z1 w5 → True := fun _ => trivial
    have K5 := Lib.hid (show Kp XD w5 from Below.grown K1.out hg (Below.size K1.out) (fun k hk => by have := (O1.out.lt k hk).1; have := L1.out; omega))
    have S5 := Lib.hid (show s1 ≤ w5.heap.size from Nat.le_trans (by have := O1.out.lt s1 rfl; omega) hg.size)
    have O5 := Lib.hid ho
    have P7 := Lib.hid (P7.out.grown hg (fun e => P7N.out (Option.some.inj e).symm))
    refine hK.out _ _ (kp_row K5.out HBX.out) (fun hHeld => ?_)
    clear hK K ho hg hb k5
    refine wpAnyH_ready (rs := [8]) (by kernel_rfl) (by simp) ?_
    refine AllReadyH.consLG rfl (fun K hK => ?_) AllReadyH.nil
    go_simp
    refine wpList_append_rwG (E := ltE) ty_ltR (by decide) _ rfl _ _ rfl s1 _ t (g.take t) rfl O5.out _ [⟨a, b, d⟩] rfl P7.out ?g1 ?g2 ?_
    case g1 => have := HT5.out; have := HG.out; simp; omega
    case g2 => exact Nat.le_trans S5.out (by first | exact Nat.le_refl _ | exact Below.size K57.out)
    rintro v8 w8 ho hg hb
    obtain ⟨ad8, c8, rfl⟩ := own_formG ho
    have K8 := Lib.hid (show Kp XD w8 from Below.grown K5.out hg (Below.size K5.out) (fun k hk => by have := (O5.out.lt k hk).1; have := L1.out; omega))
    have S8 := Lib.hid (show s1 ≤ w8.heap.size from Nat.le_trans (Nat.le_trans S5.out (by first | exact Nat.le_refl _ | exact Below.size K57.out)) hg.size)
    have O8 := Lib.hid (show w8.ownsRow s1 47 3 (.slice ad8 (t + 1) c8) (t + 1) (ltE.row (g.take t ++ [⟨a, b, d⟩])) from ho)
    refine hK.out _ _ (kp_row K8.out HBX.out) (fun hHeld => ?_)
    clear hK K ho hg hb
    refine wpAnyH_ready (rs := [12]) (by kernel_rfl) (by simp) ?_
    refine AllReadyH.consLG rfl (fun K hK => ?_) AllReadyH.nil
    go_simp
    refine wpList_append_rwG (E := ltE) ty_ltR (by decide) _ rfl _ _ rfl s1 _ (t + 1) (g.take t ++ [(⟨a, b, d⟩ : LtM)]) rfl O8.out _ (g.drop t) rfl (PT.out.kp K8.out) ?g3 ?g4 ?_
    case g3 => have := HT5.out; have := HG.out; simp; omega
    case g4 => exact S8.out
    rintro v9 w9 ho hg hb
    rw [HU.out] at ho
    obtain ⟨ad9, c9, rfl⟩ := own_formG ho
    have K9 := Lib.hid (show Kp XD w9 from Below.grown K8.out hg (Below.size K8.out) (fun k hk => by have := (O8.out.lt k hk).1; have := L1.out; omega))
    have RF := Lib.hid (HH.out.letters (Kp.trans KXD.out K9.out) (w3 := w9) (v' := .slice ad9 (t + 1 + u) c9) (f := g.take t ++ ⟨a, b, d⟩ :: g.drop t) ⟨rfl, rfl, rfl, Nat.le_refl _, fun _ _ _ => rfl⟩ (L := t + 1 + u) (by rw [List.length_append, HTL.out, List.length_cons, HU.out]; omega) (by rw [List.append_assoc] at ho; exact own_baseG ho (Nat.le_trans HH.out.bq (Nat.le_trans (Nat.le_of_lt (old_of_row HH.out.row)) (Nat.le_trans (Below.size KXD.out) L1.out)))) (fun b e => .inr (Nat.le_trans (Below.size KXD.out) (Nat.le_trans L1.out (ho.lt b e).1))))
    have r9 := kp_row (Kp.trans KXD.out K9.out) HH.out.row
    have y9 := cell_row (i := 1) r9 rfl
    have fz := frozR r9
    have B9 := Lib.hid (kp_row K9.out HBX.out)
    refine hK.out _ _ B9.out (fun hHeld => ?_)
    clear hK K ho hg hb r9
    refine wpAnyH_take (i := 13) (v := ?_) rfl (by kernel_rfl) (by kernel_rfl) (by kernel_rfl) (fun _ _ _ h => h) (Or.inl ⟨by rfl, ?_⟩) (by assumption) ?_
    rotate_left
    · intro w hSw; go_simp; try with_reducible rfl
    go_simp
    refine wpAnyH_take (i := 14) (v := ?_) rfl (by kernel_rfl) (by kernel_rfl) (by kernel_rfl) (fun _ _ _ h => h) (Or.inl ⟨by rfl, ?_⟩) (by assumption) ?_
    rotate_left
    · intro w hSw; go_simp; try with_reducible rfl
    go_simp
    refine wpAnyH_ready (rs := [15]) (by kernel_rfl) (by simp) ?_
    refine AllReadyH.cons rfl (fun K hK => ?_) AllReadyH.nil
    go_simp
    refine hK.out _ _ ((Below.heap_setCell _ _ _ _ (by have := old_of_row HH.out.row; show w.heap.size ≠ q; omega)).trans B9.out) (fun hHeld => ?_)
    clear hK K
    refine wpAnyH_done (by kernel_rfl) ?_ _
    go_wp2
    go_ret
    exact ⟨rfl, _, RF.out.1, RF.out.2⟩
theorem rnMove_any (H : Rn w0 q m v vc rb w) (hm : Nok m) (ii tt : Int) : Calls Tryd.prog 28 #[.pointer (some ⟨q, 0, none⟩), .int .i64 ii, .int .i64 tt] w fun r w' => r = .returned (.int .i64 (m.move ii tt).1) ∧ ∃ v', Rn w0 q (m.move ii tt).2 v' vc rb w' ∧ Asd (On q v vc rb) (On q v' vc rb) w w' := by
  unfold NetM.move
  by_cases h1 : (m.there ii && m.there tt) = false
  · rw [if_pos h1]
    exact (rnMove_no H ii tt h1).mono fun r w' ⟨q1, q2⟩ => ⟨q1, v, q2 ▸ H, q2 ▸ Asd.refl _ _⟩
  rw [if_neg h1]
  have h1 : (m.there ii && m.there tt) = true := by simpa using h1
  rw [Bool.and_eq_true] at h1
  obtain ⟨⟨a, b, d⟩, hd⟩ : ∃ l, m.f.getD ii.toNat lt0 = l := ⟨_, rfl⟩
  rw [hd]
  exact rnMove_ok H hm.len ii tt h1.1 h1.2 a b d _ rfl hd
end Go.Proofs.YtjffkfcokgcenaaDoor
