/-
  A NET's CODE KEEPS ITS CONTRACTS (own work): Move.
-/
import Derived.Test.YtjffkfcokgcenaaDoorNtE
namespace Go.Proofs.YtjffkfcokgcenaaDoor
open Go.RowKit Go.ChangeShapes Go.WideShapes
variable {w0 w w' W w3 : World} {q mb : Nat} {m : NetM} {v v' : Value} {ps ps' : List LtP} {ads : List Addr}

theorem insert_any {B bv bx n cp i : Nat} {ii : Int} {p : LtP} {x y : Int} {o : Option Addr} {k c : Nat} (hown : w.ownsRow B 45 3 (.slice (some ⟨bv, 0, none⟩) n cp) n (pE.row ps)) (hcp : n + 1 ≤ cp) (hn : n ≤ 1000) (hi : i ≤ n) (hii : (i : Int) = ii) (hxr : w.heap[bx]? = some (.cells #[.int .i64 x, .int .i64 y, .slice o k c] 45 (0, 0))) (hp : p.l.a = x ∧ p.l.b = y ∧ p.v = .slice o k c) (hne : bx ≠ bv) : Calls Tryd.prog 38 #[.slice (some ⟨bv, 0, none⟩) n cp, .int .i64 ii, .slice (some ⟨bx, 0, none⟩) 1 1] w fun r w' => r = .returned (.slice (some ⟨bv, 0, none⟩) (n + 1) cp) ∧ w'.ownsRow B 45 3 (.slice (some ⟨bv, 0, none⟩) (n + 1) cp) (n + 1) (pE.row (ps.take i ++ p :: ps.drop i)) ∧ w.grownBy w' (some bv) := by
  by_cases h : i < n
  · obtain ⟨rfl, rfl, h3⟩ := hp
    exact insert_mid hown hcp hn h hii (by rw [hxr]; show _ = some (Obj.cells #[_, _, p.v] _ _); rw [h3]) hne
  · have e : i = n := by omega
    subst e
    have hl : ps.length = i := own_lenG (E := pE) (by decide) hown
    have h := insert_end hown hcp hii (part_oneP hxr hp)
    rw [List.take_of_length_le (by omega), List.drop_of_length_le (by omega)]
    exact h
set_option maxRecDepth 100000 in
theorem ntMove_no (H : Nt w0 q m v ps mb w) (ii tt : Int) (h : (m.there ii && m.there tt) = false) (e0 : w.cell? ⟨0, 0, none⟩ = some (errI ads 1)) : Calls Tryd.prog 22 #[.pointer (some ⟨q, 0, none⟩), .int .i64 ii, .int .i64 tt] w fun r w' => r = .returned (errI ads 1) ∧ w = w' := by
  have ha := ntHolds_any H ii
  have hb := ntHolds_any H tt
  obtain ⟨x, hx⟩ : ∃ x, errI ads 1 = x := ⟨_, rfl⟩
  rw [hx] at e0 ⊢
  cases h1 : m.there ii with
  | false =>
    rw [h1] at ha
    have HA := Lib.hid ha
    clear H h ha hb h1 hx
    go_enter Tryd.func22, Tryd.ntmps22
    go_wp2_with (go_at_call 36; (with_reducible refine HA.out.mono ?_); rintro e' w3 ⟨rfl, rfl⟩)
    go_ret
    exact ⟨rfl, rfl⟩
  | true =>
    rw [h1, Bool.true_and] at h
    rw [h1] at ha
    rw [h] at hb
    have HA := Lib.hid ha
    have HB := Lib.hid hb
    clear H h ha hb h1 hx
    go_enter Tryd.func22, Tryd.ntmps22
    go_wp2_with (first | (go_at_call 36; (with_reducible refine HB.out.mono ?_); rintro e' w4 ⟨rfl, rfl⟩) | (go_at_call 36; (with_reducible refine HA.out.mono ?_); rintro e' w3 ⟨rfl, rfl⟩))
    go_ret
    exact ⟨rfl, rfl⟩
theorem Asd.trans2 {P P' Q Q' : Nat → Prop} {a b c : World} (h : Asd P P' a b) (k : Asd Q Q' b c) (hQ : ∀ i, Q i → P i ∨ a.heap.size ≤ i) : Asd P Q' a c :=
  ⟨k.os.trans h.os, k.tape.trans h.tape, k.output.trans h.output, Nat.le_trans h.size k.size, fun i hi hn => (k.block i (Nat.lt_of_lt_of_le hi h.size) (fun q => (hQ i q).elim hn (fun q => by omega))).trans (h.block i hi hn), fun i q => (k.own i q).elim (hQ i) (fun q => .inr (Nat.le_trans h.size q))⟩
theorem Nt.neD (h : Nt w0 q m v ps mb w) {B : Nat} {p : LtP} (hp : DatP B p w) : p.v.ownBlock ≠ some q ∧ p.v.ownBlock ≠ some mb ∧ ∀ b, v.ownBlock = some b → p.v.ownBlock ≠ some b := by
  have hv : ∀ b, v.ownBlock = some b → ∃ cs x, w.heap[b]? = some (.cells cs 45 x) := fun b hb => by
    rcases h.own.2 with ⟨rfl, _⟩ | ⟨g', cap, cur, rfl, _, hh, _⟩
    · cases hb
    · have e : g' = b := by injection hb
      subst e
      exact ⟨_, _, hh⟩
  have hd : ∀ b, p.v.ownBlock = some b → ∃ cs x, w.heap[b]? = some (.cells cs 5 x) := fun b hb => by
    rcases hp.2 with ⟨e, _⟩ | ⟨g', cap, cur, e, _, hh, _⟩
    · rw [e] at hb; cases hb
    · rw [e] at hb
      have e : g' = b := by injection hb
      subst e
      exact ⟨_, _, hh⟩
  obtain ⟨D, ⟨es, clock, hm, _⟩, _⟩ := h.cuts
  have ty : ∀ {b : Nat} {c1 c2 : Array Value} {t1 t2 : TypeId} {x1 x2 : Nat × Nat}, w.heap[b]? = some (.cells c1 t1 x1) → w.heap[b]? = some (.cells c2 t2 x2) → t1 = t2 := fun h1 h2 => by
    rw [h1] at h2
    injection h2 with h2
    injection h2
  refine ⟨fun e => ?_, fun e => ?_, fun b e e2 => ?_⟩
  · obtain ⟨_, _, h1⟩ := hd _ e
    exact absurd (ty h.row h1) (by decide)
  · obtain ⟨_, _, h1⟩ := hd _ e
    rw [hm] at h1
    cases h1
  · obtain ⟨_, _, h1⟩ := hv _ e
    obtain ⟨_, _, h2⟩ := hd _ e2
    exact absurd (ty h1 h2) (by decide)
/-- as lettersP, where the bytes of a letter that comes back lie beside the net's own -/
theorem Nt.lettersPx (h : Nt w0 q m v ps mb w) (hk : Kp w W) (hg : W.grownBy w3 v.ownBlock) {L : Nat} {f : List LtM} (hL : f.length = L) (hf : ps'.map (·.l) = f) (ho : w3.ownsRow w0.heap.size 45 3 v' L (pE.row ps')) (hb : ∀ b, v'.ownBlock = some b → v.ownBlock = some b ∨ W.heap.size ≤ b)
    {p : LtP} (hs : ∀ x ∈ ps', x ∈ ps ∨ x = p) (hd : DatP w0.heap.size p w) :
    Nt w0 q ⟨m.n, f, m.cut, m.lost⟩ v' ps' mb (w3.setCell ⟨q, 1, none⟩ v') ∧ Asd (Ob q v (p :: ps) mb) (Ob q v' ps' mb) w (w3.setCell ⟨q, 1, none⟩ v') := by
  subst hL
  obtain ⟨n1, n2, n3, n4⟩ := h.ne
  have hsz := Below.size hk
  have old : ∀ b, b < w.heap.size → v.ownBlock ≠ some b → w3.heap[b]? = w.heap[b]? := fun b e1 e2 => by
    rw [hg.block b (by omega) (fun e => e2 e.symm)]
    exact Below.block hk b e1
  have lq := old_of_row h.row
  obtain ⟨DC, hDC⟩ := h.cuts
  have n6 : v'.ownBlock ≠ some q := fun e => (hb q e).elim n1 (fun e => by omega)
  have r1 : w3.heap[q]? = some (.cells #[.int .i64 m.n, v, .map (some mb), .int .i64 m.lost] 70 (0, 0)) := by rw [old q lq n1]; exact h.row
  have hall : ∀ x, x ∈ ps ∨ x = p → DatP w0.heap.size x w := fun x hx => hx.elim (h.dat x) (fun e => e ▸ hd)
  have dold : ∀ x, DatP w0.heap.size x w → DatP w0.heap.size x (w3.setCell ⟨q, 1, none⟩ v') := fun x h1 => by
    obtain ⟨p1, p2, p3⟩ := h.neD h1
    refine own_stayG h1 (fun b e => ?_)
    rw [Below.heap_setCell _ _ _ _ (fun e2 => p1 (by rw [← show b = q from e2]; exact e))]
    exact old b (h1.lt b e).2 (fun e2 => p3 b e2 e)
  refine ⟨⟨(Joins.block_setCell r1 _).trans rfl, h.bq, own_stayG ho (fun b e => Below.heap_setCell _ _ _ _ (fun e2 => n6 (by rw [← show b = q from e2]; exact e))), hf, fun x hx => dold x (hall x (hs x hx)), ⟨DC, ⟨(hDC.kept (w' := w3.setCell ⟨q, 1, none⟩ v') ?_).own, hDC.at', hDC.only⟩⟩, h.bm⟩, ?_⟩
  · rw [Below.heap_setCell _ _ _ _ (fun e2 => n2 (show mb = q from e2).symm)]
    exact old mb hDC.lt n3
  · refine ⟨hg.os.trans hk.os, hg.tape.trans hk.tape, hg.output.trans hk.output, by simpa using Nat.le_trans hsz hg.size, fun b hb2 hn => ?_, fun b e => ?_⟩
    · rw [Below.heap_setCell _ _ _ _ (fun e => hn (.inl e))]
      exact old b hb2 (fun e => hn (.inr (.inl e)))
    · rcases e with rfl | e | rfl | ⟨x, hx, e⟩
      · exact .inl (.inl rfl)
      · exact (hb b e).imp (fun e => .inr (.inl e)) (fun e => Nat.le_trans hsz e)
      · exact .inl (.inr (.inr (.inl rfl)))
      · rcases hs x hx with h1 | h1
        · exact .inl (.inr (.inr (.inr ⟨x, List.mem_cons_of_mem _ h1, e⟩)))
        · exact .inl (.inr (.inr (.inr ⟨x, h1 ▸ List.mem_cons_self, e⟩)))
set_option maxRecDepth 100000 in
set_option maxHeartbeats 2000000 in
theorem ntMove_ok (H : Nt w0 q m v ps mb w) (hm : Nok m) (ii tt : Int) (h : m.there ii = true) (h2 : m.there tt = true) : Calls Tryd.prog 22 #[.pointer (some ⟨q, 0, none⟩), .int .i64 ii, .int .i64 tt] w fun r w' => r = .returned .nilIface ∧ ∃ v' ps', Nt w0 q ⟨m.n, (m.but ii.toNat).take tt.toNat ++ m.f.getD ii.toNat lt0 :: (m.but ii.toNat).drop tt.toNat, m.cut, m.lost⟩ v' ps' mb w' ∧ Asd (Ob q v ps mb) (Ob q v' ps' mb) w w' := by
  have ha := ntHolds_any H ii
  have hb := ntHolds_any H tt
  rw [h] at ha
  rw [h2] at hb
  have HA := Lib.hid ha
  have HB := Lib.hid hb
  obtain ⟨hi0, hlt⟩ := there_lt h
  obtain ⟨ht0, htl⟩ := there_lt h2
  have hbl := but_len hlt
  obtain ⟨p, ps5, hpl, hpm, hsub, hpu⟩ := ntPull_any H hm.len ii h
  rw [← hpl]
  have hl64 := hm.len
  obtain ⟨g, hg⟩ : ∃ g, m.but ii.toNat = g := ⟨_, rfl⟩
  obtain ⟨t, ht⟩ : ∃ t, tt.toNat = t := ⟨_, rfl⟩
  rw [hg] at hbl hpu ⊢
  rw [ht] at htl ⊢
  obtain ⟨n1, hn1⟩ : ∃ n1, m.f.length - 1 = n1 := ⟨_, rfl⟩
  rw [hn1] at hpu
  obtain ⟨a, e1⟩ : ∃ a, p.l.a = a := ⟨_, rfl⟩
  obtain ⟨b, e2⟩ : ∃ b, p.l.b = b := ⟨_, rfl⟩
  obtain ⟨op, e3⟩ : ∃ o, p.o = o := ⟨_, rfl⟩
  obtain ⟨k, e4⟩ : ∃ k, p.l.d.length = k := ⟨_, rfl⟩
  obtain ⟨c, e5⟩ : ∃ c, p.c = c := ⟨_, rfl⟩
  have e6 : p.v = .slice op k c := by unfold LtP.v; rw [e3, e4, e5]
  rw [e1, e2, e6] at hpu
  have HPU := Lib.hid hpu
  have HP := Lib.hid (show p.l.a = a ∧ p.l.b = b ∧ p.v = .slice op k c from ⟨e1, e2, e6⟩)
  have HPM := Lib.hid hpm
  have HSB := Lib.hid hsub
  have HLN := Lib.hid (show g.length = n1 by omega)
  have HML := Lib.hid (show m.f.length = n1 + 1 by omega)
  have HT := Lib.hid (show t ≤ n1 by omega)
  have HTT := Lib.hid (show (t : Int) = tt by omega)
  have HN9 := Lib.hid (show n1 ≤ 1000 by omega)
  have HWQ := Lib.hid (old_of_row H.row)
  clear H hm h h2 ha hb hlt htl hbl hpl hpm hsub hpu hl64 hg ht hn1 e1 e2 e3 e4 e5 e6 hi0 ht0
  go_enter Tryd.func22, Tryd.ntmps22
  go_wp2_with (first | (go_at_call 36; (with_reducible refine HB.out.mono ?_); rintro e' w4 ⟨rfl, rfl⟩) | (go_at_call 36; (with_reducible refine HA.out.mono ?_); rintro e' w3 ⟨rfl, rfl⟩) | (go_at_call 37; (with_reducible refine HPU.out.mono ?_); rintro e' w5 ⟨rfl, v5, hn5, ha5, hd5, bv, cp, hv5, hcp⟩; subst hv5; have N5 := Lib.hid hn5; have A5 := Lib.hid ha5; have D5 := Lib.hid hd5; have HC5 := Lib.hid hcp; clear hn5 ha5 hd5 hcp))
  obtain ⟨b6, hb6⟩ : ∃ x, w5.heap.size = x := ⟨_, rfl⟩
  obtain ⟨W6, hW6⟩ : ∃ X, w5.alloc (.cells #[.int .i64 a, .int .i64 b, .slice op k c] 45) = X := ⟨_, rfl⟩
  have k6 : Kp w5 W6 := by rw [← hW6]; exact kp_alloc _ _
  have x6 : W6.heap[b6]? = some (.cells #[.int .i64 a, .int .i64 b, .slice op k c] 45) := by rw [← hW6, ← hb6]; exact (MapKept.heap_alloc w5 _).1
  have HB5 := Lib.hid (show b6 ≠ bv from fun e => by have := (N5.out.own.lt bv rfl).2; omega)
  have HQ6 := Lib.hid (show q < b6 by have := old_of_row N5.out.row; omega)
  rw [hW6]
  try rw [hb6]
  have kd : Kp W6 W6.drew := kp_drewR (Kp.refl _)
  obtain ⟨XD, hXD⟩ : ∃ Y, W6.drew = Y := ⟨_, rfl⟩
  rw [hXD] at kd
  have HXD := Lib.hid hXD
  have X6 := Lib.hid x6
  have HBX := Lib.hid (kp_row kd x6)
  have KD := Lib.hid (Kp.trans k6 kd)
  have ND := Lib.hid (N5.out.kp KD.out)
  have DD := Lib.hid ((D5.out p HPM.out).kp KD.out)
  have AD := Lib.hid (A5.out.trans (Asd.of_kp _ KD.out))
  have y1 := cell_row (i := 1) ND.out.row rfl
  have HCP := Lib.hid (show n1 + 1 ≤ cp by have := HC5.out; have := HML.out; omega)
  clear hb6 hW6 k6 x6 kd hXD
  refine wp_region_held_drew (S := fun w' => w'.heap[b6]? = some (.cells #[.int .i64 a, .int .i64 b, .slice op k c] 45)) (by kernel_rfl) ?_ (fun hHeld => ?_)
  · exact kp_row (kp_drewR (Kp.refl _)) X6.out
  rw [HXD.out] at hHeld ⊢
  refine wpAnyH_take (i := 0) (v := ?_) rfl (by kernel_rfl) (by kernel_rfl) (by kernel_rfl) (fun _ _ _ h => h) (Or.inl ⟨by rfl, ?_⟩) (by assumption) ?_
  rotate_left
  · intro w hSw; go_simp; try with_reducible rfl
  go_simp
  refine wpAnyH_take (i := 1) (v := ?_) rfl (by kernel_rfl) (by kernel_rfl) (by kernel_rfl) (fun _ _ _ h => h) (Or.inl ⟨by rfl, ?_⟩) (by assumption) ?_
  rotate_left
  · intro w hSw; go_simp; try with_reducible rfl
  go_simp
  refine wpAnyH_take (i := 2) (v := ?_) rfl (by kernel_rfl) (by kernel_rfl) (by kernel_rfl) (fun _ _ _ h => h) (Or.inl ⟨by rfl, ?_⟩) (by assumption) ?_
  rotate_left
  · intro w hSw; go_simp; try with_reducible rfl
  go_simp
  refine wpAnyH_take (i := 3) (v := ?_) rfl (by kernel_rfl) (by kernel_rfl) (by kernel_rfl) (fun _ _ _ h => h) (Or.inl ⟨by rfl, ?_⟩) (by assumption) ?_
  rotate_left
  · intro w hSw; go_simp; try with_reducible rfl
  go_simp
  refine wpAnyH_take (i := 5) (v := ?_) rfl (by kernel_rfl) (by kernel_rfl) (by kernel_rfl) (fun _ _ _ h => h) (Or.inl ⟨by rfl, ?_⟩) (by assumption) ?_
  rotate_left
  · intro w hSw; go_simp; try with_reducible rfl
  go_simp
  refine wpAnyH_take (i := 6) (v := ?_) rfl (by kernel_rfl) (by kernel_rfl) (by kernel_rfl) (fun _ _ _ h => h) (Or.inl ⟨by rfl, ?_⟩) (by assumption) ?_
  rotate_left
  · intro w hSw; have q0 := cell_row (i := 0) hSw rfl; have q1 := cell_row (i := 1) hSw rfl; have q2 := cell_row (i := 2) hSw rfl; go_simp; try with_reducible rfl
  go_simp
  refine wpAnyH_ready (rs := [4, 7]) (by kernel_rfl) (by simp) ?_
  refine AllReadyH.cons rfl (fun K hK => ?_) (AllReadyH.cons rfl (fun K hK => ?_) AllReadyH.nil)
  · go_simp
    refine hK.out _ _ hHeld (fun hHeld => ?_)
    clear hK K
    refine wpAnyH_ready (rs := [7]) (by kernel_rfl) (by simp) ?_
    refine AllReadyH.cons rfl (fun K hK => ?_) AllReadyH.nil
    go_simp
    refine hK.out _ _ (kp_row (kp_alloc _ _) hHeld) (fun hHeld => ?_)
    clear hK K
    obtain ⟨b7, hb7⟩ : ∃ x, XD.heap.size = x := ⟨_, rfl⟩
    obtain ⟨Z7, hZ⟩ : ∃ Z, XD.alloc (.cells #[.int .i64 a, .int .i64 b, .slice op k c] 45) = Z := ⟨_, rfl⟩
    have k7 : Kp XD Z7 := by rw [← hZ]; exact kp_alloc _ _
    have R7 := Lib.hid (show Z7.heap[b7]? = some (.cells #[.int .i64 a, .int .i64 b, .slice op k c] 45) by rw [← hZ, ← hb7]; exact (MapKept.heap_alloc XD (.cells #[.int .i64 a, .int .i64 b, .slice op k c] 45)).1)
    have K7 := Lib.hid k7
    have N7 := Lib.hid (ND.out.kp k7)
    have z2 := cell_row (i := 1) N7.out.row rfl
    have B7 := Lib.hid (show b7 ≠ bv by have := (ND.out.own.lt bv rfl).2; omega)
    rw [hZ] at hHeld ⊢
    try rw [hb7]
    clear hZ k7 hb7
    refine wpAnyH_ready (rs := [8]) (by kernel_rfl) (by simp) ?_
    refine AllReadyH.cons rfl (fun K hK => ?_) AllReadyH.nil
    go_simp
    go_wp2_with (go_at_call 38; (with_reducible refine (insert_any (i := t) (p := p) (show Z7.ownsRow w0.heap.size 45 3 (.slice (some ⟨bv, 0, none⟩) n1 cp) n1 (pE.row ps5) from HLN.out ▸ N7.out.own) HCP.out HN9.out HT.out HTT.out R7.out HP.out B7.out).mono ?_); rintro e' w8 ⟨rfl, ho, hg⟩; have O8 := Lib.hid ho; have G8 := Lib.hid hg; clear ho hg)
    have RF := Lib.hid (ND.out.lettersPx K7.out G8.out (f := g.take t ++ p.l :: g.drop t) (ps' := ps5.take t ++ p :: ps5.drop t) (L := n1 + 1) (by rw [List.length_append, List.length_cons, List.length_take, List.length_drop, HLN.out]; have := HT.out; omega) (by rw [List.map_append, List.map_take, List.map_cons, List.map_drop, ND.out.fs]) O8.out (fun b e => .inl e) (fun x hx => by rcases List.mem_append.1 hx with h | h; exact .inl (List.mem_of_mem_take h); rcases List.mem_cons.1 h with h | h; exact .inr h; exact .inl (List.mem_of_mem_drop h)) DD.out)
    have r8 := (G8.out.block q (old_of_row N7.out.row) (fun e => N7.out.ne.1 e.symm)).trans N7.out.row
    have y8 := cell_row (i := 1) r8 rfl
    have fz := frozR r8
    have B8 := Lib.hid (show w8.heap[b6]? = some (.cells #[.int .i64 a, .int .i64 b, .slice op k c] 45) from (G8.out.block _ (old_of_row (kp_row K7.out HBX.out)) (fun e => HB5.out (Option.some.inj e))).trans (kp_row K7.out HBX.out))
    refine hK.out _ _ B8.out (fun hHeld => ?_)
    clear hK K
    refine wpAnyH_take (i := 9) (v := ?_) rfl (by kernel_rfl) (by kernel_rfl) (by kernel_rfl) (fun _ _ _ h => h) (Or.inl ⟨by rfl, ?_⟩) (by assumption) ?_
    rotate_left
    · intro w hSw; go_simp; try with_reducible rfl
    go_simp
    refine wpAnyH_take (i := 10) (v := ?_) rfl (by kernel_rfl) (by kernel_rfl) (by kernel_rfl) (fun _ _ _ h => h) (Or.inl ⟨by rfl, ?_⟩) (by assumption) ?_
    rotate_left
    · intro w hSw; go_simp; try with_reducible rfl
    go_simp
    refine wpAnyH_ready (rs := [11]) (by kernel_rfl) (by simp) ?_
    refine AllReadyH.cons rfl (fun K hK => ?_) AllReadyH.nil
    go_simp
    refine hK.out _ _ ((Below.heap_setCell _ _ _ _ (by have := HQ6.out; show b6 ≠ q; omega)).trans B8.out) (fun hHeld => ?_)
    clear hK K
    refine wpAnyH_done (by kernel_rfl) ?_ _
    go_wp2
    go_ret
    refine ⟨rfl, _, _, RF.out.1, AD.out.trans2 RF.out.2 (fun i hi => ?_)⟩
    rcases hi with h | h | h | ⟨x, hx, h⟩
    · exact .inl (.inl h)
    · exact A5.out.own i (.inr (.inl h))
    · exact .inl (.inr (.inr (.inl h)))
    · rcases List.mem_cons.1 hx with e | hx
      · exact .inl (.inr (.inr (.inr ⟨x, e ▸ HPM.out, h⟩)))
      · exact .inl (.inr (.inr (.inr ⟨x, HSB.out x hx, h⟩)))
  · go_simp
    refine hK.out _ _ (kp_row (kp_alloc _ _) hHeld) (fun hHeld => ?_)
    clear hK K
    obtain ⟨b7, hb7⟩ : ∃ x, XD.heap.size = x := ⟨_, rfl⟩
    obtain ⟨Z7, hZ⟩ : ∃ Z, XD.alloc (.cells #[.int .i64 a, .int .i64 b, .slice op k c] 45) = Z := ⟨_, rfl⟩
    have k7 : Kp XD Z7 := by rw [← hZ]; exact kp_alloc _ _
    have R7 := Lib.hid (show Z7.heap[b7]? = some (.cells #[.int .i64 a, .int .i64 b, .slice op k c] 45) by rw [← hZ, ← hb7]; exact (MapKept.heap_alloc XD (.cells #[.int .i64 a, .int .i64 b, .slice op k c] 45)).1)
    have K7 := Lib.hid k7
    have N7 := Lib.hid (ND.out.kp k7)
    have z2 := cell_row (i := 1) N7.out.row rfl
    have B7 := Lib.hid (show b7 ≠ bv by have := (ND.out.own.lt bv rfl).2; omega)
    rw [hZ] at hHeld ⊢
    try rw [hb7]
    clear hZ k7 hb7
    refine wpAnyH_ready (rs := [4]) (by kernel_rfl) (by simp) ?_
    refine AllReadyH.cons rfl (fun K hK => ?_) AllReadyH.nil
    go_simp
    refine hK.out _ _ hHeld (fun hHeld => ?_)
    clear hK K
    refine wpAnyH_ready (rs := [8]) (by kernel_rfl) (by simp) ?_
    refine AllReadyH.cons rfl (fun K hK => ?_) AllReadyH.nil
    go_simp
    go_wp2_with (go_at_call 38; (with_reducible refine (insert_any (i := t) (p := p) (show Z7.ownsRow w0.heap.size 45 3 (.slice (some ⟨bv, 0, none⟩) n1 cp) n1 (pE.row ps5) from HLN.out ▸ N7.out.own) HCP.out HN9.out HT.out HTT.out R7.out HP.out B7.out).mono ?_); rintro e' w8 ⟨rfl, ho, hg⟩; have O8 := Lib.hid ho; have G8 := Lib.hid hg; clear ho hg)
    have RF := Lib.hid (ND.out.lettersPx K7.out G8.out (f := g.take t ++ p.l :: g.drop t) (ps' := ps5.take t ++ p :: ps5.drop t) (L := n1 + 1) (by rw [List.length_append, List.length_cons, List.length_take, List.length_drop, HLN.out]; have := HT.out; omega) (by rw [List.map_append, List.map_take, List.map_cons, List.map_drop, ND.out.fs]) O8.out (fun b e => .inl e) (fun x hx => by rcases List.mem_append.1 hx with h | h; exact .inl (List.mem_of_mem_take h); rcases List.mem_cons.1 h with h | h; exact .inr h; exact .inl (List.mem_of_mem_drop h)) DD.out)
    have r8 := (G8.out.block q (old_of_row N7.out.row) (fun e => N7.out.ne.1 e.symm)).trans N7.out.row
    have y8 := cell_row (i := 1) r8 rfl
    have fz := frozR r8
    have B8 := Lib.hid (show w8.heap[b6]? = some (.cells #[.int .i64 a, .int .i64 b, .slice op k c] 45) from (G8.out.block _ (old_of_row (kp_row K7.out HBX.out)) (fun e => HB5.out (Option.some.inj e))).trans (kp_row K7.out HBX.out))
    refine hK.out _ _ B8.out (fun hHeld => ?_)
    clear hK K
    refine wpAnyH_take (i := 9) (v := ?_) rfl (by kernel_rfl) (by kernel_rfl) (by kernel_rfl) (fun _ _ _ h => h) (Or.inl ⟨by rfl, ?_⟩) (by assumption) ?_
    rotate_left
    · intro w hSw; go_simp; try with_reducible rfl
    go_simp
    refine wpAnyH_take (i := 10) (v := ?_) rfl (by kernel_rfl) (by kernel_rfl) (by kernel_rfl) (fun _ _ _ h => h) (Or.inl ⟨by rfl, ?_⟩) (by assumption) ?_
    rotate_left
    · intro w hSw; go_simp; try with_reducible rfl
    go_simp
    refine wpAnyH_ready (rs := [11]) (by kernel_rfl) (by simp) ?_
    refine AllReadyH.cons rfl (fun K hK => ?_) AllReadyH.nil
    go_simp
    refine hK.out _ _ ((Below.heap_setCell _ _ _ _ (by have := HQ6.out; show b6 ≠ q; omega)).trans B8.out) (fun hHeld => ?_)
    clear hK K
    refine wpAnyH_done (by kernel_rfl) ?_ _
    go_wp2
    go_ret
    refine ⟨rfl, _, _, RF.out.1, AD.out.trans2 RF.out.2 (fun i hi => ?_)⟩
    rcases hi with h | h | h | ⟨x, hx, h⟩
    · exact .inl (.inl h)
    · exact A5.out.own i (.inr (.inl h))
    · exact .inl (.inr (.inr (.inl h)))
    · rcases List.mem_cons.1 hx with e | hx
      · exact .inl (.inr (.inr (.inr ⟨x, e ▸ HPM.out, h⟩)))
      · exact .inl (.inr (.inr (.inr ⟨x, HSB.out x hx, h⟩)))
theorem ntMove_any (H : Nt w0 q m v ps mb w) (hm : Nok m) (ii tt : Int) (E : EP [0, 2, 5] ads w) : Calls Tryd.prog 22 #[.pointer (some ⟨q, 0, none⟩), .int .i64 ii, .int .i64 tt] w fun r w' => r = .returned (errI ads (m.move ii tt).1) ∧ ∃ v' ps', Nt w0 q (m.move ii tt).2 v' ps' mb w' ∧ Asd (Ob q v ps mb) (Ob q v' ps' mb) w w' := by
  unfold NetM.move
  by_cases h1 : (m.there ii && m.there tt) = false
  · rw [if_pos h1]
    exact (ntMove_no H ii tt h1 (E.cell 0 (by simp))).mono fun r w' ⟨q1, q2⟩ => ⟨q1, v, ps, q2 ▸ H, q2 ▸ Asd.refl _ _⟩
  rw [if_neg h1]
  have h1 : (m.there ii && m.there tt) = true := by simpa using h1
  rw [Bool.and_eq_true] at h1
  exact (ntMove_ok H hm ii tt h1.1 h1.2).mono fun r w' ⟨q1, q2⟩ => ⟨by rw [q1, errI_nil], q2⟩
end Go.Proofs.YtjffkfcokgcenaaDoor
