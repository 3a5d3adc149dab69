/-
  THE DOCUMENT's TAPE (own work): liaisonref06.
-/
import Derived.Test.YtpehmkglkjlmfaaDoorTapC
import Derived.Test.YtpehmkglkjlmfaaDoorAppB
import Derived.Lib.SmallJoins
import Derived.Lib.Strings
import Derived.Lib.TrimByte
import Derived.BigQuiet
import Derived.Laws.BytesArg
namespace Go.Proofs.YtpehmkglkjlmfaaDoor
open Go.RowKit Go.ChangeShapes Go.WideShapes

theorem s6_append (xs ys : List Int) : strOfNums xs ++ strOfNums ys = strOfNums (xs ++ ys) := by
  apply ByteArray.ext
  apply Array.ext'
  rw [ByteArray.data_append, Array.toList_append, strOfNums_data, strOfNums_data, strOfNums_data, List.map_append]
def objM (m : TM) : Obj := .cells #[.string (strOfNums m.sure), .string (strOfNums m.tail), .int .i64 m.room, .int .i64 m.left, .bool m.off] 56 (0, 0)
/-- THE DOCUMENT's TAPE lies in the block g. -/
def MoC (g : Nat) (m : TM) (w : World) : Prop := w.heap[g]? = some (objM m)
theorem MoC.c0 {g : Nat} {m : TM} {w : World} (h : MoC g m w) : w.cell? ⟨g, 0, none⟩ = some (.string (strOfNums m.sure)) := by unfold World.cell?; dsimp only; rw [h]; rfl
theorem MoC.c1 {g : Nat} {m : TM} {w : World} (h : MoC g m w) : w.cell? ⟨g, 1, none⟩ = some (.string (strOfNums m.tail)) := by unfold World.cell?; dsimp only; rw [h]; rfl
theorem MoC.c2 {g : Nat} {m : TM} {w : World} (h : MoC g m w) : w.cell? ⟨g, 2, none⟩ = some (.int .i64 m.room) := by unfold World.cell?; dsimp only; rw [h]; rfl
theorem MoC.c3 {g : Nat} {m : TM} {w : World} (h : MoC g m w) : w.cell? ⟨g, 3, none⟩ = some (.int .i64 m.left) := by unfold World.cell?; dsimp only; rw [h]; rfl
theorem MoC.c4 {g : Nat} {m : TM} {w : World} (h : MoC g m w) : w.cell? ⟨g, 4, none⟩ = some (.bool m.off) := by unfold World.cell?; dsimp only; rw [h]; rfl
theorem MoC.z {g : Nat} {m : TM} {w : World} (h : MoC g m w) (i : Nat) : w.frozen? ⟨g, i, none⟩ = false := by unfold World.frozen?; dsimp only; rw [h]; simp [objM]
/-- only the block g is another -/
abbrev On (g : Nat) (w w' : World) : Prop := Asd (fun b => b = g) (fun b => b = g) w w'
theorem On.refl (g : Nat) (w : World) : On g w w := ⟨rfl, rfl, rfl, Nat.le_refl _, fun _ _ _ => rfl, fun _ h => .inl h⟩
theorem On.set {g : Nat} {w w' : World} (h : On g w w') (i : Nat) (v : Value) : On g w (w'.setCell ⟨g, i, none⟩ v) :=
  ⟨h.os, h.tape, h.output, by simp; exact h.size, fun b hb hne => by rw [Below.heap_setCell _ _ _ _ (show b ≠ g from hne)]; exact h.block b hb hne, h.own⟩
theorem On.drew {g : Nat} {w w' : World} (h : On g w w') : On g w w'.drew := ⟨h.os, h.tape, h.output, h.size, h.block, h.own⟩
theorem On.drewN {g : Nat} {w w' : World} (h : On g w w') (n : Nat) : On g w (w'.drewN n) := ⟨h.os, h.tape, h.output, h.size, h.block, h.own⟩
theorem On.trans {g : Nat} {a b c : World} (h : On g a b) (k : On g b c) : On g a c :=
  ⟨k.os.trans h.os, k.tape.trans h.tape, k.output.trans h.output, Nat.le_trans h.size k.size, fun b hb hne => (k.block b (Nat.lt_of_lt_of_le hb h.size) hne).trans (h.block b hb hne), fun _ h => .inl h⟩
theorem MoC.drewN {g : Nat} {m : TM} {w : World} (h : MoC g m w) (n : Nat) : MoC g m (w.drewN n) := h
theorem MoC.set0 {g : Nat} {m : TM} {w : World} (h : MoC g m w) (s : List Int) : MoC g { m with sure := s } (w.setCell ⟨g, 0, none⟩ (.string (strOfNums s))) := (Joins.block_setCell h _).trans rfl
theorem MoC.set1 {g : Nat} {m : TM} {w : World} (h : MoC g m w) (s : List Int) : MoC g { m with tail := s } (w.setCell ⟨g, 1, none⟩ (.string (strOfNums s))) := (Joins.block_setCell h _).trans rfl
theorem MoC.set2 {g : Nat} {m : TM} {w : World} (h : MoC g m w) (n : Int) : MoC g { m with room := n } (w.setCell ⟨g, 2, none⟩ (.int .i64 n)) := (Joins.block_setCell h _).trans rfl
theorem MoC.set3 {g : Nat} {m : TM} {w : World} (h : MoC g m w) (n : Int) : MoC g { m with left := n } (w.setCell ⟨g, 3, none⟩ (.int .i64 n)) := (Joins.block_setCell h _).trans rfl
theorem MoC.set4 {g : Nat} {m : TM} {w : World} (h : MoC g m w) (b : Bool) : MoC g { m with off := b } (w.setCell ⟨g, 4, none⟩ (.bool b)) := (Joins.block_setCell h _).trans rfl

theorem ref6_new (r : Int) (w : World) : Calls Tryd.prog 13 #[.int .i64 r] w fun e w' => e = .returned (.pointer (some ⟨w.heap.size, 0, none⟩)) ∧ MoC w.heap.size (newM r) w' ∧ w' = w.alloc (objM (newM r)) := by
  go_enter Tryd.func13, Tryd.ntmps13
  go_wp2
  go_ret
  exact ⟨rfl, (MapKept.heap_alloc w _).1, rfl⟩

set_option maxRecDepth 20000 in
theorem ref6_step (g : Nat) (m : TM) (hm : Mok m) (w : World) (h : MoC g m w) :
    Calls Tryd.prog 62 #[.pointer (some ⟨g, 0, none⟩)] w fun e w' => e = .returned (.int .i64 (stepM m).1) ∧ MoC g (stepM m).2 w' ∧ On g w w' := by
  have c3 := h.c3
  have c4 := h.c4
  have z := h.z
  have l0 := hm.l0
  have l1 := hm.l1
  have H := Lib.hid h
  obtain ⟨ll, hll⟩ : ∃ x, m.left = x := ⟨_, rfl⟩
  obtain ⟨oo, hoo⟩ : ∃ x, m.off = x := ⟨_, rfl⟩
  rw [hll] at c3 l0 l1
  rw [hoo] at c4
  by_cases hl : ll = 0
  · have e : stepM m = (7, { m with off := true }) := by unfold stepM; rw [if_pos (.inl (hll.trans hl))]
    rw [e]
    subst hl
    clear h hm hll hoo e
    go_enter Tryd.func62, Tryd.ntmps62
    go_wp2
    go_ret
    exact ⟨rfl, H.out.set4 true, (On.refl _ _).set _ _⟩
  · have hle : (ll == 0) = false := beq_eq_false_iff_ne.2 hl
    cases oo with
    | true =>
      have e : stepM m = (7, { m with off := true }) := by unfold stepM; rw [if_pos (.inr hoo)]
      have e2 : ({ m with off := true } : TM) = m := by cases m; simp only [TM.mk.injEq, true_and] at hoo ⊢; exact hoo.symm
      rw [e, e2]
      clear h hm hll hoo e e2
      go_enter Tryd.func62, Tryd.ntmps62
      go_wp2
      go_ret
      exact ⟨rfl, H.out, On.refl _ _⟩
    | false =>
      by_cases hp : 0 < ll
      · have e : stepM m = (0, { m with left := ll - 1 }) := by unfold stepM; rw [if_neg (by rw [hll, hoo]; simp [hl]), if_pos (by rw [hll]; exact hp), hll]
        rw [e]
        have hgt : ll > 0 := hp
        clear h hm hll hoo e
        go_enter Tryd.func62, Tryd.ntmps62
        go_wp2
        go_ret
        exact ⟨rfl, H.out.set3 _, (On.refl _ _).set _ _⟩
      · have e : stepM m = (0, m) := by unfold stepM; rw [if_neg (by rw [hll, hoo]; simp [hl]), if_neg (by rw [hll]; exact hp)]
        rw [e]
        have hgt : ¬ ll > 0 := hp
        clear h hm hll hoo e
        go_enter Tryd.func62, Tryd.ntmps62
        go_wp2
        go_ret
        exact ⟨rfl, H.out, On.refl _ _⟩

set_option maxRecDepth 20000 in
set_option maxHeartbeats 1000000 in
theorem ref6_sync (g : Nat) (m : TM) (hm : Mok m) (w : World) (h : MoC g m w) :
    Calls Tryd.prog 64 #[.pointer (some ⟨g, 0, none⟩)] w fun e w' => e = .returned (.int .i64 (syncM m).1) ∧ MoC g (syncM m).2 w' ∧ On g w w' := by
  have hln := hm.len
  have H := Lib.hid h
  have HST := Lib.hid (fun w1 (q : MoC g m w1) => ref6_step g m hm w1 q)
  have hsame := stepM_same m
  obtain ⟨m', hm'⟩ : ∃ x, (stepM m).2 = x := ⟨_, rfl⟩
  obtain ⟨sv, hsv⟩ : ∃ x, strOfNums m.sure = x := ⟨_, rfl⟩
  obtain ⟨tv, htv⟩ : ∃ x, strOfNums m.tail = x := ⟨_, rfl⟩
  have zs : sv.size = m.sure.length := by rw [← hsv, strOfNums_size]
  have zt : tv.size = m.tail.length := by rw [← htv, strOfNums_size]
  have HSV := Lib.hid hsv
  have HTV := Lib.hid htv
  have HCT := Lib.hid (show sv ++ tv = strOfNums (m.sure ++ m.tail) by rw [← hsv, ← htv, s6_append])
  have HSZ := Lib.hid (show ¬ 9223372036854775807 < sv.size + tv.size by omega)
  rcases stepM_two m with hk | hk
  · have e : syncM m = (0, { m' with sure := m.sure ++ m.tail, tail := [] }) := by unfold syncM; rw [if_pos hk, hm']
    rw [e]
    have HST := HST.out
    simp only [hk, hm'] at HST
    rw [hm'] at hsame
    have HST := Lib.hid HST
    have HSM := Lib.hid hsame
    clear e h hm hln hsv htv hk hm' hsame zs zt
    go_enter Tryd.func64, Tryd.ntmps64
    go_wp2_with (go_at_call 62; (with_reducible refine (HST.out _ H.out).mono ?_); rintro e w2 ⟨rfl, hm2, ho2⟩; have d0 := hm2.c0; have d1 := hm2.c1; rw [HSM.out.1, HSV.out] at d0; rw [HSM.out.2.1, HTV.out] at d1; have dz := hm2.z; have M2 := Lib.hid hm2; have O2 := Lib.hid ho2; clear hm2 ho2)
    refine wp_region_any (by kernel_rfl) ?_
    change wpAny _ _ _ _ _ _ _ (World.drew _)
    refine wpAny_take (i := 0) (v := ?_) rfl (by kernel_rfl) (by kernel_rfl) (by kernel_rfl) (fun _ _ _ h => h) (Or.inl ⟨by rfl, ?_⟩) ?_
    rotate_left
    · intro w; go_simp; try with_reducible rfl
    go_simp
    refine wpAny_take (i := 1) (v := ?_) rfl (by kernel_rfl) (by kernel_rfl) (by kernel_rfl) (fun _ _ _ h => h) (Or.inl ⟨by rfl, ?_⟩) ?_
    rotate_left
    · intro w; go_simp; try with_reducible rfl
    go_simp
    refine wpAny_take (i := 2) (v := ?_) rfl (by kernel_rfl) (by kernel_rfl) (by kernel_rfl) (fun _ _ _ h => h) (Or.inl ⟨by rfl, ?_⟩) ?_
    rotate_left
    · intro w; go_simp; try with_reducible rfl
    go_simp
    refine wpAny_take (i := 3) (v := ?_) rfl (by kernel_rfl) (by kernel_rfl) (by kernel_rfl) (fun _ _ _ h => h) (Or.inl ⟨by rfl, ?_⟩) ?_
    rotate_left
    · intro w; go_simp; try with_reducible rfl
    go_simp
    refine wpAny_take (i := 4) (v := ?_) rfl (by kernel_rfl) (by kernel_rfl) (by kernel_rfl) (fun _ _ _ h => h) (Or.inl ⟨by rfl, ?_⟩) ?_
    rotate_left
    · intro w; go_simp; try with_reducible rfl
    go_simp
    refine wpAny_take (i := 6) (v := ?_) rfl (by kernel_rfl) (by kernel_rfl) (by kernel_rfl) (fun _ _ _ h => h) (Or.inl ⟨by rfl, ?_⟩) ?_
    rotate_left
    · intro w; go_simp; try with_reducible rfl
    go_simp
    refine wpAny_take (i := 7) (v := ?_) rfl (by kernel_rfl) (by kernel_rfl) (by kernel_rfl) (fun _ _ _ h => h) (Or.inl ⟨by rfl, ?_⟩) ?_
    rotate_left
    · intro w; go_simp; try with_reducible rfl
    go_simp
    refine wpAny_take (i := 8) (v := ?_) rfl (by kernel_rfl) (by kernel_rfl) (by kernel_rfl) (fun _ _ _ h => h) (Or.inl ⟨by rfl, ?_⟩) ?_
    rotate_left
    · intro w; go_simp; try with_reducible rfl
    go_simp
    refine wpAny_ready (rs := [5, 9]) (by kernel_rfl) (by simp) ?_
    refine AllReady.cons rfl (fun K hK => ?_) (AllReady.cons rfl (fun K hK => ?_) AllReady.nil)
    · go_simp
      refine hK _ _ ?_
      clear hK K
      refine wpAny_ready (rs := [9]) (by kernel_rfl) (by simp) ?_
      refine AllReady.cons rfl (fun K hK => ?_) AllReady.nil
      go_simp
      refine hK _ _ ?_
      clear hK K
      refine wpAny_take (i := 10) (v := ?_) rfl (by kernel_rfl) (by kernel_rfl) (by kernel_rfl) (fun _ _ _ h => h) (Or.inl ⟨by rfl, ?_⟩) ?_
      rotate_left
      · intro w; go_simp; rw [if_neg HSZ.out]; try with_reducible rfl
      go_simp
      refine wpAny_take (i := 11) (v := ?_) rfl (by kernel_rfl) (by kernel_rfl) (by kernel_rfl) (fun _ _ _ h => h) (Or.inl ⟨by rfl, ?_⟩) ?_
      rotate_left
      · intro w; go_simp; try with_reducible rfl
      go_simp
      refine wpAny_take (i := 12) (v := ?_) rfl (by kernel_rfl) (by kernel_rfl) (by kernel_rfl) (fun _ _ _ h => h) (Or.inl ⟨by rfl, ?_⟩) ?_
      rotate_left
      · intro w; go_simp; try with_reducible rfl
      go_simp
      refine wpAny_ready (rs := [13]) (by kernel_rfl) (by simp) ?_
      refine AllReady.cons rfl (fun K hK => ?_) AllReady.nil
      go_simp
      refine hK _ _ ?_
      clear hK K
      refine wpAny_take (i := 14) (v := ?_) rfl (by kernel_rfl) (by kernel_rfl) (by kernel_rfl) (fun _ _ _ h => h) (Or.inl ⟨by rfl, ?_⟩) ?_
      rotate_left
      · intro w; go_simp; try with_reducible rfl
      go_simp
      refine wpAny_take (i := 15) (v := ?_) rfl (by kernel_rfl) (by kernel_rfl) (by kernel_rfl) (fun _ _ _ h => h) (Or.inl ⟨by rfl, ?_⟩) ?_
      rotate_left
      · intro w; go_simp; try with_reducible rfl
      go_simp
      refine wpAny_ready (rs := [16]) (by kernel_rfl) (by simp) ?_
      refine AllReady.cons rfl (fun K hK => ?_) AllReady.nil
      go_simp
      refine hK _ _ ?_
      clear hK K
      refine wpAny_done (by kernel_rfl) ?_ _
      go_wp2
      go_ret
      refine ⟨rfl, ?_, O2.out.drew.set _ _ |>.set _ _⟩
      have q := (M2.out.set0 (m.sure ++ m.tail)).set1 []
      rw [← HCT.out] at q
      exact q
    · go_simp
      refine hK _ _ ?_
      clear hK K
      refine wpAny_ready (rs := [5]) (by kernel_rfl) (by simp) ?_
      refine AllReady.cons rfl (fun K hK => ?_) AllReady.nil
      go_simp
      refine hK _ _ ?_
      clear hK K
      refine wpAny_take (i := 10) (v := ?_) rfl (by kernel_rfl) (by kernel_rfl) (by kernel_rfl) (fun _ _ _ h => h) (Or.inl ⟨by rfl, ?_⟩) ?_
      rotate_left
      · intro w; go_simp; rw [if_neg HSZ.out]; try with_reducible rfl
      go_simp
      refine wpAny_take (i := 11) (v := ?_) rfl (by kernel_rfl) (by kernel_rfl) (by kernel_rfl) (fun _ _ _ h => h) (Or.inl ⟨by rfl, ?_⟩) ?_
      rotate_left
      · intro w; go_simp; try with_reducible rfl
      go_simp
      refine wpAny_take (i := 12) (v := ?_) rfl (by kernel_rfl) (by kernel_rfl) (by kernel_rfl) (fun _ _ _ h => h) (Or.inl ⟨by rfl, ?_⟩) ?_
      rotate_left
      · intro w; go_simp; try with_reducible rfl
      go_simp
      refine wpAny_ready (rs := [13]) (by kernel_rfl) (by simp) ?_
      refine AllReady.cons rfl (fun K hK => ?_) AllReady.nil
      go_simp
      refine hK _ _ ?_
      clear hK K
      refine wpAny_take (i := 14) (v := ?_) rfl (by kernel_rfl) (by kernel_rfl) (by kernel_rfl) (fun _ _ _ h => h) (Or.inl ⟨by rfl, ?_⟩) ?_
      rotate_left
      · intro w; go_simp; try with_reducible rfl
      go_simp
      refine wpAny_take (i := 15) (v := ?_) rfl (by kernel_rfl) (by kernel_rfl) (by kernel_rfl) (fun _ _ _ h => h) (Or.inl ⟨by rfl, ?_⟩) ?_
      rotate_left
      · intro w; go_simp; try with_reducible rfl
      go_simp
      refine wpAny_ready (rs := [16]) (by kernel_rfl) (by simp) ?_
      refine AllReady.cons rfl (fun K hK => ?_) AllReady.nil
      go_simp
      refine hK _ _ ?_
      clear hK K
      refine wpAny_done (by kernel_rfl) ?_ _
      go_wp2
      go_ret
      refine ⟨rfl, ?_, O2.out.drew.set _ _ |>.set _ _⟩
      have q := (M2.out.set0 (m.sure ++ m.tail)).set1 []
      rw [← HCT.out] at q
      exact q
  · have e : syncM m = stepM m := by unfold syncM; rw [if_neg (by rw [hk]; decide)]
    rw [e]
    have HST := HST.out
    simp only [hk, hm'] at HST ⊢
    have HST := Lib.hid HST
    clear e h hm hln hsv htv hk hm' hsame zs zt
    go_enter Tryd.func64, Tryd.ntmps64
    go_wp2_with (go_at_call 62; (with_reducible refine (HST.out _ H.out).mono ?_); rintro e w2 ⟨rfl, hm2, ho2⟩; have dz := hm2.z; have M2 := Lib.hid hm2; have O2 := Lib.hid ho2; clear hm2 ho2)
    go_ret
    exact ⟨rfl, M2.out, O2.out⟩

set_option maxRecDepth 20000 in
set_option maxHeartbeats 1000000 in
theorem ref6_swap (g : Nat) (m : TM) (hm : Mok m) (bs : List Int) (hb : bs.length ≤ 100000) (w : World) (h : MoC g m w) :
    Calls Tryd.prog 65 #[.pointer (some ⟨g, 0, none⟩), .string (strOfNums bs)] w fun e w' => e = .returned (.int .i64 (swapM m bs).1) ∧ MoC g (swapM m bs).2 w' ∧ On g w w' := by
  have c2 := h.c2
  have hr0 := hm.r0
  have hr1 := hm.r1
  have H := Lib.hid h
  have HST := Lib.hid (fun w1 (q : MoC g m w1) => ref6_step g m hm w1 q)
  have hsame := stepM_same m
  obtain ⟨m', hm'⟩ : ∃ x, (stepM m).2 = x := ⟨_, rfl⟩
  obtain ⟨bv, hbv⟩ : ∃ x, strOfNums bs = x := ⟨_, rfl⟩
  obtain ⟨rr, hrr⟩ : ∃ x, m.room = x := ⟨_, rfl⟩
  obtain ⟨nn, hnn⟩ : ∃ x : Int, (bs.length : Int) = x := ⟨_, rfl⟩
  have zb : (bv.size : Int) = nn := by rw [← hbv, strOfNums_size, hnn]
  have HBV := Lib.hid hbv
  rw [hrr] at c2 hr0 hr1
  rw [hbv]
  have x3 : 0 ≤ nn ∧ nn ≤ 100000 := by omega
  by_cases hf : rr < nn
  · have e : swapM m bs = (6, m) := by unfold swapM; rw [if_pos (by rw [hrr, hnn]; exact hf)]
    rw [e]
    have hg : nn > rr := hf
    clear e hf h hm hbv hrr hnn hsame hm'
    go_enter Tryd.func65, Tryd.ntmps65
    go_wp2
    go_ret
    exact ⟨rfl, H.out, On.refl _ _⟩
  · have hg : ¬ nn > rr := hf
    have hnf : ¬ m.room < (bs.length : Int) := by rw [hrr, hnn]; exact hf
    rcases stepM_two m with hk | hk
    · have e : swapM m bs = (0, { m' with sure := bs, tail := [] }) := by unfold swapM; rw [if_neg hnf, if_pos hk, hm']
      rw [e]
      have HST := HST.out
      simp only [hk, hm'] at HST
      have HST := Lib.hid HST
      clear e hf h hm hbv hrr hnn hsame hm' hnf hk
      go_enter Tryd.func65, Tryd.ntmps65
      go_wp2_with (go_at_call 62; (with_reducible refine (HST.out _ H.out).mono ?_); rintro e w2 ⟨rfl, hm2, ho2⟩; have d0 := hm2.c0; have d1 := hm2.c1; have dz := hm2.z; have M2 := Lib.hid hm2; have O2 := Lib.hid ho2; clear hm2 ho2)
      go_ret
      refine ⟨rfl, ?_, (O2.out.set _ _).set _ _⟩
      have q := (M2.out.set0 bs).set1 []
      rw [HBV.out] at q
      exact q
    · have e : swapM m bs = stepM m := by unfold swapM; rw [if_neg hnf, if_neg (by rw [hk]; decide)]
      rw [e]
      have HST := HST.out
      simp only [hk, hm'] at HST ⊢
      have HST := Lib.hid HST
      clear e hf h hm hbv hrr hnn hsame hm' hnf hk
      go_enter Tryd.func65, Tryd.ntmps65
      go_wp2_with (go_at_call 62; (with_reducible refine (HST.out _ H.out).mono ?_); rintro e w2 ⟨rfl, hm2, ho2⟩; have dz := hm2.z; have M2 := Lib.hid hm2; have O2 := Lib.hid ho2; clear hm2 ho2)
      go_ret
      exact ⟨rfl, M2.out, O2.out⟩

theorem ref6_arm (g : Nat) (m : TM) (n : Int) (w : World) (h : MoC g m w) :
    Calls Tryd.prog 42 #[.pointer (some ⟨g, 0, none⟩), .int .i64 n] w fun e w' => e = .returned (.tuple #[]) ∧ MoC g (armM m n) w' ∧ On g w w' := by
  have c3 := h.c3
  have dz := h.z
  have H := Lib.hid h
  by_cases hn : n < 0
  · have e : armM m n = { m with left := -1 } := by unfold armM; rw [if_pos hn]
    rw [e]
    clear e h
    go_enter Tryd.func42, Tryd.ntmps42
    go_wp2
    go_end0
    exact ⟨rfl, (H.out.set3 n).set3 (-1), ((On.refl _ _).set _ _).set _ _⟩
  · have e : armM m n = { m with left := n } := by unfold armM; rw [if_neg hn]
    rw [e]
    clear e h
    go_enter Tryd.func42, Tryd.ntmps42
    go_wp2
    go_end0
    exact ⟨rfl, H.out.set3 n, (On.refl _ _).set _ _⟩

theorem slice_take (S : List Int) (n : Nat) (hn : n ≤ S.length) (nn : Int) (hnn : (n : Int) = nn) (w : World) :
    (Instr.slice 9 (.string (strOfNums S)) none (some (.int .i64 nn)) none).run Tryd.prog w = .ok (.string (strOfNums (S.take n))) w := by
  subst hnn
  have hx : (strOfNums S).extract 0 n = strOfNums (S.take n) := by
    rw [Lib.extract_upto]
    show _ = (⟨((S.take n).map fun n => UInt8.ofNat n.toNat).toArray⟩ : ByteArray)
    rw [List.map_take]
    rfl
  have hz : n ≤ (strOfNums S).size := by rw [strOfNums_size]; exact hn
  simp [go_sem, Tryd.underlying9]
  rw [if_pos hz, hx]

set_option maxRecDepth 20000 in
set_option maxHeartbeats 1000000 in
theorem ref6_cut (g : Nat) (m : TM) (hm : Mok m) (n : Int) (w : World) (h : MoC g m w) :
    Calls Tryd.prog 38 #[.pointer (some ⟨g, 0, none⟩), .int .i64 n] w fun e w' => e = .returned (.int .i64 (cutsM m n).1) ∧ MoC g (cutsM m n).2 w' ∧ On g w w' := by
  have hln := hm.len
  have c0 := h.c0
  have c1 := h.c1
  have H := Lib.hid h
  have HST := Lib.hid (fun w1 (q : MoC g m w1) => ref6_step g m hm w1 q)
  have hsame := stepM_same m
  obtain ⟨m', hm'⟩ : ∃ x, (stepM m).2 = x := ⟨_, rfl⟩
  obtain ⟨sv, hsv⟩ : ∃ x, strOfNums m.sure = x := ⟨_, rfl⟩
  obtain ⟨tv, htv⟩ : ∃ x, strOfNums m.tail = x := ⟨_, rfl⟩
  obtain ⟨av, hav⟩ : ∃ x, strOfNums m.all = x := ⟨_, rfl⟩
  obtain ⟨aa, haa⟩ : ∃ x : Int, (m.all.length : Int) = x := ⟨_, rfl⟩
  have za : (av.size : Int) = aa := by rw [← hav, strOfNums_size, haa]
  have hcat : sv ++ tv = av := by rw [← hsv, ← htv, ← hav, TM.all, s6_append]
  have zs : sv.size = m.sure.length := by rw [← hsv, strOfNums_size]
  have zt : tv.size = m.tail.length := by rw [← htv, strOfNums_size]
  have hsz : ¬ 9223372036854775807 < sv.size + tv.size := by omega
  have HSL := Lib.hid (fun (q : 0 ≤ n ∧ n ≤ aa) (w : World) => slice_take m.all n.toNat (by omega) n (by omega) w)
  rw [hav] at HSL
  have HAV := Lib.hid hav
  rw [hsv] at c0
  rw [htv] at c1
  have HN := fun (q : n < 0 ∨ aa < n) => show cutsM m n = (1, m) from by unfold cutsM; rw [if_pos (by rw [haa]; exact q)]
  have a0 : 0 ≤ aa := by omega
  by_cases hn : n < 0
  · have e := HN (.inl hn)
    rw [e]
    clear e HN h hm hln hsv htv hav haa hsame hm' zs zt
    go_enter Tryd.func38, Tryd.ntmps38
    go_wp2
    go_quiet (fail)
    go_wp2
    go_ret
    exact ⟨rfl, H.out.drewN _, (On.refl _ _).drewN _⟩
  · by_cases hf : aa < n
    · have e := HN (.inr hf)
      rw [e]
      have hg : n > aa := hf
      clear e HN h hm hln hsv htv hav haa hsame hm' zs zt hf
      go_enter Tryd.func38, Tryd.ntmps38
      go_wp2
      go_quiet (fail)
      go_wp2
      go_ret
      exact ⟨rfl, H.out.drewN _, (On.refl _ _).drewN _⟩
    · have hg : ¬ n > aa := hf
      have hnf : ¬ (n < 0 ∨ (m.all.length : Int) < n) := by rw [haa]; omega
      have hsl := HSL.out ⟨by omega, by omega⟩
      rcases stepM_two m with hk | hk
      · have e : cutsM m n = (0, { m' with sure := m.all.take n.toNat, tail := [] }) := by unfold cutsM; rw [if_neg hnf, if_pos hk, hm']
        rw [e]
        have HST := HST.out
        simp only [hk, hm'] at HST
        have HST := Lib.hid HST
        clear e HN h hm hln hsv htv hav haa hsame hm' zs zt hf hnf hk
        go_enter Tryd.func38, Tryd.ntmps38
        go_wp2
        go_quiet (fail)
        go_wp2_with (go_at_call 62; (with_reducible refine (HST.out _ (H.out.drewN _)).mono ?_); rintro e w2 ⟨rfl, hm2, ho2⟩; have d0 := hm2.c0; have d1 := hm2.c1; have dz := hm2.z; have M2 := Lib.hid hm2; have O2 := Lib.hid ho2; clear hm2 ho2)
        go_ret
        exact ⟨rfl, (M2.out.set0 _).set1 [], ((On.refl _ _).drewN _).trans ((O2.out.set _ _).set _ _)⟩
      · have e : cutsM m n = stepM m := by unfold cutsM; rw [if_neg hnf, if_neg (by rw [hk]; decide)]
        rw [e]
        have HST := HST.out
        simp only [hk, hm'] at HST ⊢
        have HST := Lib.hid HST
        clear e HN h hm hln hsv htv hav haa hsame hm' zs zt hf hnf hk
        go_enter Tryd.func38, Tryd.ntmps38
        go_wp2
        go_quiet (fail)
        go_wp2_with (go_at_call 62; (with_reducible refine (HST.out _ (H.out.drewN _)).mono ?_); rintro e w2 ⟨rfl, hm2, ho2⟩; have dz := hm2.z; have M2 := Lib.hid hm2; have O2 := Lib.hid ho2; clear hm2 ho2)
        go_ret
        exact ⟨rfl, M2.out, ((On.refl _ _).drewN _).trans O2.out⟩

set_option maxRecDepth 20000 in
set_option maxHeartbeats 4000000 in
theorem ref6_crash (g : Nat) (m : TM) (hm : Mok m) (n : Int) (w : World) (h : MoC g m w) :
    Calls Tryd.prog 43 #[.pointer (some ⟨g, 0, none⟩), .int .i64 n] w fun e w' => e = .returned (.tuple #[]) ∧ MoC g (crashM m n) w' ∧ On g w w' := by
  have hln := hm.len
  have c0 := h.c0
  have c1 := h.c1
  have c3 := h.c3
  have c4 := h.c4
  have dz := h.z
  have H := Lib.hid h
  obtain ⟨sv, hsv⟩ : ∃ x, strOfNums m.sure = x := ⟨_, rfl⟩
  obtain ⟨tv, htv⟩ : ∃ x, strOfNums m.tail = x := ⟨_, rfl⟩
  obtain ⟨kv, hkv⟩ : ∃ x, strOfNums (m.tail.take n.toNat) = x := ⟨_, rfl⟩
  obtain ⟨tt, htt⟩ : ∃ x : Int, (m.tail.length : Int) = x := ⟨_, rfl⟩
  have zt : (tv.size : Int) = tt := by rw [← htv, strOfNums_size, htt]
  have zs : sv.size = m.sure.length := by rw [← hsv, strOfNums_size]
  have zk : kv.size ≤ m.tail.length := by rw [← hkv, strOfNums_size, List.length_take]; omega
  have HCT := Lib.hid (show sv ++ kv = strOfNums (m.sure ++ m.tail.take n.toNat) by rw [← hsv, ← hkv, s6_append])
  have HSZ := Lib.hid (show ¬ 9223372036854775807 < sv.size + kv.size by omega)
  have HSL := fun (k : Nat) (hk : k ≤ m.tail.length) (hk2 : m.tail.take k = m.tail.take n.toNat) (kk : Int) (hkk : (k : Int) = kk) (w : World) => slice_take m.tail k hk kk hkk w
  have HSL : ∀ (k : Nat), k ≤ m.tail.length → m.tail.take k = m.tail.take n.toNat → ∀ kk : Int, (k : Int) = kk → ∀ w, (Instr.slice 9 (.string tv) none (some (.int .i64 kk)) none).run Tryd.prog w = .ok (.string kv) w := fun k h1 h2 kk h3 w => by
    have := HSL k h1 h2 kk h3 w
    rw [h2, hkv, htv] at this
    exact this
  rw [hsv] at c0
  rw [htv] at c1
  have t0 : 0 ≤ tt := by omega
  by_cases hn : n < 0
  · have hsl := HSL 0 (by omega) (by rw [show n.toNat = 0 by omega]) 0 rfl
    have hg : ¬ (0 : Int) > tt := by omega
    clear HSL h hm hln hsv htv hkv htt zs zk
    go_enter Tryd.func43, Tryd.ntmps43
    go_wp2
    refine wp_region_any (by kernel_rfl) ?_
    change wpAny _ _ _ _ _ _ _ (World.drew _)
    refine wpAny_take (i := 0) (v := ?_) rfl (by kernel_rfl) (by kernel_rfl) (by kernel_rfl) (fun _ _ _ h => h) (Or.inl ⟨by rfl, ?_⟩) ?_
    rotate_left
    · intro w; go_simp; try with_reducible rfl
    go_simp
    refine wpAny_take (i := 1) (v := ?_) rfl (by kernel_rfl) (by kernel_rfl) (by kernel_rfl) (fun _ _ _ h => h) (Or.inl ⟨by rfl, ?_⟩) ?_
    rotate_left
    · intro w; go_simp; try with_reducible rfl
    go_simp
    refine wpAny_take (i := 2) (v := ?_) rfl (by kernel_rfl) (by kernel_rfl) (by kernel_rfl) (fun _ _ _ h => h) (Or.inl ⟨by rfl, ?_⟩) ?_
    rotate_left
    · intro w; go_simp; try with_reducible rfl
    go_simp
    refine wpAny_take (i := 3) (v := ?_) rfl (by kernel_rfl) (by kernel_rfl) (by kernel_rfl) (fun _ _ _ h => h) (Or.inl ⟨by rfl, ?_⟩) ?_
    rotate_left
    · intro w; go_simp; try with_reducible rfl
    go_simp
    refine wpAny_take (i := 4) (v := ?_) rfl (by kernel_rfl) (by kernel_rfl) (by kernel_rfl) (fun _ _ _ h => h) (Or.inl ⟨by rfl, ?_⟩) ?_
    rotate_left
    · intro w; go_simp; try with_reducible rfl
    go_simp
    refine wpAny_take (i := 5) (v := ?_) rfl (by kernel_rfl) (by kernel_rfl) (by kernel_rfl) (fun _ _ _ h => h) (Or.inl ⟨by rfl, ?_⟩) ?_
    rotate_left
    · intro w; go_simp; try with_reducible rfl
    go_simp
    refine wpAny_take (i := 6) (v := ?_) rfl (by kernel_rfl) (by kernel_rfl) (by kernel_rfl) (fun _ _ _ h => h) (Or.inl ⟨by rfl, ?_⟩) ?_
    rotate_left
    · intro w; go_simp; try with_reducible rfl
    go_simp
    refine wpAny_take (i := 8) (v := ?_) rfl (by kernel_rfl) (by kernel_rfl) (by kernel_rfl) (fun _ _ _ h => h) (Or.inl ⟨by rfl, ?_⟩) ?_
    rotate_left
    · intro w; go_simp; try with_reducible rfl
    go_simp
    refine wpAny_take (i := 9) (v := ?_) rfl (by kernel_rfl) (by kernel_rfl) (by kernel_rfl) (fun _ _ _ h => h) (Or.inl ⟨by rfl, ?_⟩) ?_
    rotate_left
    · intro w; go_simp; try with_reducible rfl
    go_simp
    refine wpAny_take (i := 10) (v := ?_) rfl (by kernel_rfl) (by kernel_rfl) (by kernel_rfl) (fun _ _ _ h => h) (Or.inl ⟨by rfl, ?_⟩) ?_
    rotate_left
    · intro w; go_simp; try with_reducible rfl
    go_simp
    refine wpAny_take (i := 12) (v := ?_) rfl (by kernel_rfl) (by kernel_rfl) (by kernel_rfl) (fun _ _ _ h => h) (Or.inl ⟨by rfl, ?_⟩) ?_
    rotate_left
    · intro w; go_simp; try with_reducible rfl
    go_simp
    refine wpAny_ready (rs := [7, 11]) (by kernel_rfl) (by simp) ?_
    refine AllReady.cons rfl (fun K hK => ?_) (AllReady.cons rfl (fun K hK => ?_) AllReady.nil)
    · go_simp
      refine hK _ _ ?_
      clear hK K
      refine wpAny_ready (rs := [11]) (by kernel_rfl) (by simp) ?_
      refine AllReady.cons rfl (fun K hK => ?_) AllReady.nil
      go_simp
      refine hK _ _ ?_
      clear hK K
      refine wpAny_take (i := 13) (v := ?_) rfl (by kernel_rfl) (by kernel_rfl) (by kernel_rfl) (fun _ _ _ h => h) (Or.inl ⟨by rfl, ?_⟩) ?_
      rotate_left
      · intro w; go_simp; try with_reducible rfl
      go_simp
      refine wpAny_take (i := 14) (v := ?_) rfl (by kernel_rfl) (by kernel_rfl) (by kernel_rfl) (fun _ _ _ h => h) (Or.inl ⟨by rfl, ?_⟩) ?_
      rotate_left
      · intro w; go_simp; rw [if_neg HSZ.out]; try with_reducible rfl
      go_simp
      refine wpAny_take (i := 15) (v := ?_) rfl (by kernel_rfl) (by kernel_rfl) (by kernel_rfl) (fun _ _ _ h => h) (Or.inl ⟨by rfl, ?_⟩) ?_
      rotate_left
      · intro w; go_simp; try with_reducible rfl
      go_simp
      refine wpAny_take (i := 16) (v := ?_) rfl (by kernel_rfl) (by kernel_rfl) (by kernel_rfl) (fun _ _ _ h => h) (Or.inl ⟨by rfl, ?_⟩) ?_
      rotate_left
      · intro w; go_simp; try with_reducible rfl
      go_simp
      refine wpAny_ready (rs := [17]) (by kernel_rfl) (by simp) ?_
      refine AllReady.cons rfl (fun K hK => ?_) AllReady.nil
      go_simp
      refine hK _ _ ?_
      clear hK K
      refine wpAny_take (i := 18) (v := ?_) rfl (by kernel_rfl) (by kernel_rfl) (by kernel_rfl) (fun _ _ _ h => h) (Or.inl ⟨by rfl, ?_⟩) ?_
      rotate_left
      · intro w; go_simp; try with_reducible rfl
      go_simp
      refine wpAny_take (i := 19) (v := ?_) rfl (by kernel_rfl) (by kernel_rfl) (by kernel_rfl) (fun _ _ _ h => h) (Or.inl ⟨by rfl, ?_⟩) ?_
      rotate_left
      · intro w; go_simp; try with_reducible rfl
      go_simp
      refine wpAny_ready (rs := [20]) (by kernel_rfl) (by simp) ?_
      refine AllReady.cons rfl (fun K hK => ?_) AllReady.nil
      go_simp
      refine hK _ _ ?_
      clear hK K
      refine wpAny_take (i := 21) (v := ?_) rfl (by kernel_rfl) (by kernel_rfl) (by kernel_rfl) (fun _ _ _ h => h) (Or.inl ⟨by rfl, ?_⟩) ?_
      rotate_left
      · intro w; go_simp; try with_reducible rfl
      go_simp
      refine wpAny_take (i := 22) (v := ?_) rfl (by kernel_rfl) (by kernel_rfl) (by kernel_rfl) (fun _ _ _ h => h) (Or.inl ⟨by rfl, ?_⟩) ?_
      rotate_left
      · intro w; go_simp; try with_reducible rfl
      go_simp
      refine wpAny_ready (rs := [23]) (by kernel_rfl) (by simp) ?_
      refine AllReady.cons rfl (fun K hK => ?_) AllReady.nil
      go_simp
      refine hK _ _ ?_
      clear hK K
      refine wpAny_take (i := 24) (v := ?_) rfl (by kernel_rfl) (by kernel_rfl) (by kernel_rfl) (fun _ _ _ h => h) (Or.inl ⟨by rfl, ?_⟩) ?_
      rotate_left
      · intro w; go_simp; try with_reducible rfl
      go_simp
      refine wpAny_take (i := 25) (v := ?_) rfl (by kernel_rfl) (by kernel_rfl) (by kernel_rfl) (fun _ _ _ h => h) (Or.inl ⟨by rfl, ?_⟩) ?_
      rotate_left
      · intro w; go_simp; try with_reducible rfl
      go_simp
      refine wpAny_ready (rs := [26]) (by kernel_rfl) (by simp) ?_
      refine AllReady.cons rfl (fun K hK => ?_) AllReady.nil
      go_simp
      refine hK _ _ ?_
      clear hK K
      refine wpAny_done (by kernel_rfl) ?_ _
      go_wp2
      go_end0
      refine ⟨rfl, ?_, ((((On.refl _ _).drew.set _ _).set _ _).set _ _).set _ _⟩
      have q := (((H.out.set0 (m.sure ++ m.tail.take n.toNat)).set1 []).set4 false).set3 (-1)
      rw [← HCT.out] at q
      exact q
    · go_simp
      refine hK _ _ ?_
      clear hK K
      refine wpAny_take (i := 13) (v := ?_) rfl (by kernel_rfl) (by kernel_rfl) (by kernel_rfl) (fun _ _ _ h => h) (Or.inl ⟨by rfl, ?_⟩) ?_
      rotate_left
      · intro w; go_simp; try with_reducible rfl
      go_simp
      refine wpAny_ready (rs := [7]) (by kernel_rfl) (by simp) ?_
      refine AllReady.cons rfl (fun K hK => ?_) AllReady.nil
      go_simp
      refine hK _ _ ?_
      clear hK K
      refine wpAny_take (i := 14) (v := ?_) rfl (by kernel_rfl) (by kernel_rfl) (by kernel_rfl) (fun _ _ _ h => h) (Or.inl ⟨by rfl, ?_⟩) ?_
      rotate_left
      · intro w; go_simp; rw [if_neg HSZ.out]; try with_reducible rfl
      go_simp
      refine wpAny_take (i := 15) (v := ?_) rfl (by kernel_rfl) (by kernel_rfl) (by kernel_rfl) (fun _ _ _ h => h) (Or.inl ⟨by rfl, ?_⟩) ?_
      rotate_left
      · intro w; go_simp; try with_reducible rfl
      go_simp
      refine wpAny_take (i := 16) (v := ?_) rfl (by kernel_rfl) (by kernel_rfl) (by kernel_rfl) (fun _ _ _ h => h) (Or.inl ⟨by rfl, ?_⟩) ?_
      rotate_left
      · intro w; go_simp; try with_reducible rfl
      go_simp
      refine wpAny_ready (rs := [17]) (by kernel_rfl) (by simp) ?_
      refine AllReady.cons rfl (fun K hK => ?_) AllReady.nil
      go_simp
      refine hK _ _ ?_
      clear hK K
      refine wpAny_take (i := 18) (v := ?_) rfl (by kernel_rfl) (by kernel_rfl) (by kernel_rfl) (fun _ _ _ h => h) (Or.inl ⟨by rfl, ?_⟩) ?_
      rotate_left
      · intro w; go_simp; try with_reducible rfl
      go_simp
      refine wpAny_take (i := 19) (v := ?_) rfl (by kernel_rfl) (by kernel_rfl) (by kernel_rfl) (fun _ _ _ h => h) (Or.inl ⟨by rfl, ?_⟩) ?_
      rotate_left
      · intro w; go_simp; try with_reducible rfl
      go_simp
      refine wpAny_ready (rs := [20]) (by kernel_rfl) (by simp) ?_
      refine AllReady.cons rfl (fun K hK => ?_) AllReady.nil
      go_simp
      refine hK _ _ ?_
      clear hK K
      refine wpAny_take (i := 21) (v := ?_) rfl (by kernel_rfl) (by kernel_rfl) (by kernel_rfl) (fun _ _ _ h => h) (Or.inl ⟨by rfl, ?_⟩) ?_
      rotate_left
      · intro w; go_simp; try with_reducible rfl
      go_simp
      refine wpAny_take (i := 22) (v := ?_) rfl (by kernel_rfl) (by kernel_rfl) (by kernel_rfl) (fun _ _ _ h => h) (Or.inl ⟨by rfl, ?_⟩) ?_
      rotate_left
      · intro w; go_simp; try with_reducible rfl
      go_simp
      refine wpAny_ready (rs := [23]) (by kernel_rfl) (by simp) ?_
      refine AllReady.cons rfl (fun K hK => ?_) AllReady.nil
      go_simp
      refine hK _ _ ?_
      clear hK K
      refine wpAny_take (i := 24) (v := ?_) rfl (by kernel_rfl) (by kernel_rfl) (by kernel_rfl) (fun _ _ _ h => h) (Or.inl ⟨by rfl, ?_⟩) ?_
      rotate_left
      · intro w; go_simp; try with_reducible rfl
      go_simp
      refine wpAny_take (i := 25) (v := ?_) rfl (by kernel_rfl) (by kernel_rfl) (by kernel_rfl) (fun _ _ _ h => h) (Or.inl ⟨by rfl, ?_⟩) ?_
      rotate_left
      · intro w; go_simp; try with_reducible rfl
      go_simp
      refine wpAny_ready (rs := [26]) (by kernel_rfl) (by simp) ?_
      refine AllReady.cons rfl (fun K hK => ?_) AllReady.nil
      go_simp
      refine hK _ _ ?_
      clear hK K
      refine wpAny_done (by kernel_rfl) ?_ _
      go_wp2
      go_end0
      refine ⟨rfl, ?_, ((((On.refl _ _).drew.set _ _).set _ _).set _ _).set _ _⟩
      have q := (((H.out.set0 (m.sure ++ m.tail.take n.toNat)).set1 []).set4 false).set3 (-1)
      rw [← HCT.out] at q
      exact q
  · by_cases hf : tt < n
    · have hsl := HSL m.tail.length (by omega) (by rw [List.take_length, List.take_of_length_le (by omega)]) tt htt
      have hg : n > tt := hf
      clear HSL h hm hln hsv htv hkv htt zs zk hf
      go_enter Tryd.func43, Tryd.ntmps43
      go_wp2
      refine wp_region_any (by kernel_rfl) ?_
      change wpAny _ _ _ _ _ _ _ (World.drew _)
      refine wpAny_take (i := 0) (v := ?_) rfl (by kernel_rfl) (by kernel_rfl) (by kernel_rfl) (fun _ _ _ h => h) (Or.inl ⟨by rfl, ?_⟩) ?_
      rotate_left
      · intro w; go_simp; try with_reducible rfl
      go_simp
      refine wpAny_take (i := 1) (v := ?_) rfl (by kernel_rfl) (by kernel_rfl) (by kernel_rfl) (fun _ _ _ h => h) (Or.inl ⟨by rfl, ?_⟩) ?_
      rotate_left
      · intro w; go_simp; try with_reducible rfl
      go_simp
      refine wpAny_take (i := 2) (v := ?_) rfl (by kernel_rfl) (by kernel_rfl) (by kernel_rfl) (fun _ _ _ h => h) (Or.inl ⟨by rfl, ?_⟩) ?_
      rotate_left
      · intro w; go_simp; try with_reducible rfl
      go_simp
      refine wpAny_take (i := 3) (v := ?_) rfl (by kernel_rfl) (by kernel_rfl) (by kernel_rfl) (fun _ _ _ h => h) (Or.inl ⟨by rfl, ?_⟩) ?_
      rotate_left
      · intro w; go_simp; try with_reducible rfl
      go_simp
      refine wpAny_take (i := 4) (v := ?_) rfl (by kernel_rfl) (by kernel_rfl) (by kernel_rfl) (fun _ _ _ h => h) (Or.inl ⟨by rfl, ?_⟩) ?_
      rotate_left
      · intro w; go_simp; try with_reducible rfl
      go_simp
      refine wpAny_take (i := 5) (v := ?_) rfl (by kernel_rfl) (by kernel_rfl) (by kernel_rfl) (fun _ _ _ h => h) (Or.inl ⟨by rfl, ?_⟩) ?_
      rotate_left
      · intro w; go_simp; try with_reducible rfl
      go_simp
      refine wpAny_take (i := 6) (v := ?_) rfl (by kernel_rfl) (by kernel_rfl) (by kernel_rfl) (fun _ _ _ h => h) (Or.inl ⟨by rfl, ?_⟩) ?_
      rotate_left
      · intro w; go_simp; try with_reducible rfl
      go_simp
      refine wpAny_take (i := 8) (v := ?_) rfl (by kernel_rfl) (by kernel_rfl) (by kernel_rfl) (fun _ _ _ h => h) (Or.inl ⟨by rfl, ?_⟩) ?_
      rotate_left
      · intro w; go_simp; try with_reducible rfl
      go_simp
      refine wpAny_take (i := 9) (v := ?_) rfl (by kernel_rfl) (by kernel_rfl) (by kernel_rfl) (fun _ _ _ h => h) (Or.inl ⟨by rfl, ?_⟩) ?_
      rotate_left
      · intro w; go_simp; try with_reducible rfl
      go_simp
      refine wpAny_take (i := 10) (v := ?_) rfl (by kernel_rfl) (by kernel_rfl) (by kernel_rfl) (fun _ _ _ h => h) (Or.inl ⟨by rfl, ?_⟩) ?_
      rotate_left
      · intro w; go_simp; try with_reducible rfl
      go_simp
      refine wpAny_take (i := 12) (v := ?_) rfl (by kernel_rfl) (by kernel_rfl) (by kernel_rfl) (fun _ _ _ h => h) (Or.inl ⟨by rfl, ?_⟩) ?_
      rotate_left
      · intro w; go_simp; try with_reducible rfl
      go_simp
      refine wpAny_ready (rs := [7, 11]) (by kernel_rfl) (by simp) ?_
      refine AllReady.cons rfl (fun K hK => ?_) (AllReady.cons rfl (fun K hK => ?_) AllReady.nil)
      · go_simp
        refine hK _ _ ?_
        clear hK K
        refine wpAny_ready (rs := [11]) (by kernel_rfl) (by simp) ?_
        refine AllReady.cons rfl (fun K hK => ?_) AllReady.nil
        go_simp
        refine hK _ _ ?_
        clear hK K
        refine wpAny_take (i := 13) (v := ?_) rfl (by kernel_rfl) (by kernel_rfl) (by kernel_rfl) (fun _ _ _ h => h) (Or.inl ⟨by rfl, ?_⟩) ?_
        rotate_left
        · intro w; go_simp; try with_reducible rfl
        go_simp
        refine wpAny_take (i := 14) (v := ?_) rfl (by kernel_rfl) (by kernel_rfl) (by kernel_rfl) (fun _ _ _ h => h) (Or.inl ⟨by rfl, ?_⟩) ?_
        rotate_left
        · intro w; go_simp; rw [if_neg HSZ.out]; try with_reducible rfl
        go_simp
        refine wpAny_take (i := 15) (v := ?_) rfl (by kernel_rfl) (by kernel_rfl) (by kernel_rfl) (fun _ _ _ h => h) (Or.inl ⟨by rfl, ?_⟩) ?_
        rotate_left
        · intro w; go_simp; try with_reducible rfl
        go_simp
        refine wpAny_take (i := 16) (v := ?_) rfl (by kernel_rfl) (by kernel_rfl) (by kernel_rfl) (fun _ _ _ h => h) (Or.inl ⟨by rfl, ?_⟩) ?_
        rotate_left
        · intro w; go_simp; try with_reducible rfl
        go_simp
        refine wpAny_ready (rs := [17]) (by kernel_rfl) (by simp) ?_
        refine AllReady.cons rfl (fun K hK => ?_) AllReady.nil
        go_simp
        refine hK _ _ ?_
        clear hK K
        refine wpAny_take (i := 18) (v := ?_) rfl (by kernel_rfl) (by kernel_rfl) (by kernel_rfl) (fun _ _ _ h => h) (Or.inl ⟨by rfl, ?_⟩) ?_
        rotate_left
        · intro w; go_simp; try with_reducible rfl
        go_simp
        refine wpAny_take (i := 19) (v := ?_) rfl (by kernel_rfl) (by kernel_rfl) (by kernel_rfl) (fun _ _ _ h => h) (Or.inl ⟨by rfl, ?_⟩) ?_
        rotate_left
        · intro w; go_simp; try with_reducible rfl
        go_simp
        refine wpAny_ready (rs := [20]) (by kernel_rfl) (by simp) ?_
        refine AllReady.cons rfl (fun K hK => ?_) AllReady.nil
        go_simp
        refine hK _ _ ?_
        clear hK K
        refine wpAny_take (i := 21) (v := ?_) rfl (by kernel_rfl) (by kernel_rfl) (by kernel_rfl) (fun _ _ _ h => h) (Or.inl ⟨by rfl, ?_⟩) ?_
        rotate_left
        · intro w; go_simp; try with_reducible rfl
        go_simp
        refine wpAny_take (i := 22) (v := ?_) rfl (by kernel_rfl) (by kernel_rfl) (by kernel_rfl) (fun _ _ _ h => h) (Or.inl ⟨by rfl, ?_⟩) ?_
        rotate_left
        · intro w; go_simp; try with_reducible rfl
        go_simp
        refine wpAny_ready (rs := [23]) (by kernel_rfl) (by simp) ?_
        refine AllReady.cons rfl (fun K hK => ?_) AllReady.nil
        go_simp
        refine hK _ _ ?_
        clear hK K
        refine wpAny_take (i := 24) (v := ?_) rfl (by kernel_rfl) (by kernel_rfl) (by kernel_rfl) (fun _ _ _ h => h) (Or.inl ⟨by rfl, ?_⟩) ?_
        rotate_left
        · intro w; go_simp; try with_reducible rfl
        go_simp
        refine wpAny_take (i := 25) (v := ?_) rfl (by kernel_rfl) (by kernel_rfl) (by kernel_rfl) (fun _ _ _ h => h) (Or.inl ⟨by rfl, ?_⟩) ?_
        rotate_left
        · intro w; go_simp; try with_reducible rfl
        go_simp
        refine wpAny_ready (rs := [26]) (by kernel_rfl) (by simp) ?_
        refine AllReady.cons rfl (fun K hK => ?_) AllReady.nil
        go_simp
        refine hK _ _ ?_
        clear hK K
        refine wpAny_done (by kernel_rfl) ?_ _
        go_wp2
        go_end0
        refine ⟨rfl, ?_, ((((On.refl _ _).drew.set _ _).set _ _).set _ _).set _ _⟩
        have q := (((H.out.set0 (m.sure ++ m.tail.take n.toNat)).set1 []).set4 false).set3 (-1)
        rw [← HCT.out] at q
        exact q
      · go_simp
        refine hK _ _ ?_
        clear hK K
        refine wpAny_take (i := 13) (v := ?_) rfl (by kernel_rfl) (by kernel_rfl) (by kernel_rfl) (fun _ _ _ h => h) (Or.inl ⟨by rfl, ?_⟩) ?_
        rotate_left
        · intro w; go_simp; try with_reducible rfl
        go_simp
        refine wpAny_ready (rs := [7]) (by kernel_rfl) (by simp) ?_
        refine AllReady.cons rfl (fun K hK => ?_) AllReady.nil
        go_simp
        refine hK _ _ ?_
        clear hK K
        refine wpAny_take (i := 14) (v := ?_) rfl (by kernel_rfl) (by kernel_rfl) (by kernel_rfl) (fun _ _ _ h => h) (Or.inl ⟨by rfl, ?_⟩) ?_
        rotate_left
        · intro w; go_simp; rw [if_neg HSZ.out]; try with_reducible rfl
        go_simp
        refine wpAny_take (i := 15) (v := ?_) rfl (by kernel_rfl) (by kernel_rfl) (by kernel_rfl) (fun _ _ _ h => h) (Or.inl ⟨by rfl, ?_⟩) ?_
        rotate_left
        · intro w; go_simp; try with_reducible rfl
        go_simp
        refine wpAny_take (i := 16) (v := ?_) rfl (by kernel_rfl) (by kernel_rfl) (by kernel_rfl) (fun _ _ _ h => h) (Or.inl ⟨by rfl, ?_⟩) ?_
        rotate_left
        · intro w; go_simp; try with_reducible rfl
        go_simp
        refine wpAny_ready (rs := [17]) (by kernel_rfl) (by simp) ?_
        refine AllReady.cons rfl (fun K hK => ?_) AllReady.nil
        go_simp
        refine hK _ _ ?_
        clear hK K
        refine wpAny_take (i := 18) (v := ?_) rfl (by kernel_rfl) (by kernel_rfl) (by kernel_rfl) (fun _ _ _ h => h) (Or.inl ⟨by rfl, ?_⟩) ?_
        rotate_left
        · intro w; go_simp; try with_reducible rfl
        go_simp
        refine wpAny_take (i := 19) (v := ?_) rfl (by kernel_rfl) (by kernel_rfl) (by kernel_rfl) (fun _ _ _ h => h) (Or.inl ⟨by rfl, ?_⟩) ?_
        rotate_left
        · intro w; go_simp; try with_reducible rfl
        go_simp
        refine wpAny_ready (rs := [20]) (by kernel_rfl) (by simp) ?_
        refine AllReady.cons rfl (fun K hK => ?_) AllReady.nil
        go_simp
        refine hK _ _ ?_
        clear hK K
        refine wpAny_take (i := 21) (v := ?_) rfl (by kernel_rfl) (by kernel_rfl) (by kernel_rfl) (fun _ _ _ h => h) (Or.inl ⟨by rfl, ?_⟩) ?_
        rotate_left
        · intro w; go_simp; try with_reducible rfl
        go_simp
        refine wpAny_take (i := 22) (v := ?_) rfl (by kernel_rfl) (by kernel_rfl) (by kernel_rfl) (fun _ _ _ h => h) (Or.inl ⟨by rfl, ?_⟩) ?_
        rotate_left
        · intro w; go_simp; try with_reducible rfl
        go_simp
        refine wpAny_ready (rs := [23]) (by kernel_rfl) (by simp) ?_
        refine AllReady.cons rfl (fun K hK => ?_) AllReady.nil
        go_simp
        refine hK _ _ ?_
        clear hK K
        refine wpAny_take (i := 24) (v := ?_) rfl (by kernel_rfl) (by kernel_rfl) (by kernel_rfl) (fun _ _ _ h => h) (Or.inl ⟨by rfl, ?_⟩) ?_
        rotate_left
        · intro w; go_simp; try with_reducible rfl
        go_simp
        refine wpAny_take (i := 25) (v := ?_) rfl (by kernel_rfl) (by kernel_rfl) (by kernel_rfl) (fun _ _ _ h => h) (Or.inl ⟨by rfl, ?_⟩) ?_
        rotate_left
        · intro w; go_simp; try with_reducible rfl
        go_simp
        refine wpAny_ready (rs := [26]) (by kernel_rfl) (by simp) ?_
        refine AllReady.cons rfl (fun K hK => ?_) AllReady.nil
        go_simp
        refine hK _ _ ?_
        clear hK K
        refine wpAny_done (by kernel_rfl) ?_ _
        go_wp2
        go_end0
        refine ⟨rfl, ?_, ((((On.refl _ _).drew.set _ _).set _ _).set _ _).set _ _⟩
        have q := (((H.out.set0 (m.sure ++ m.tail.take n.toNat)).set1 []).set4 false).set3 (-1)
        rw [← HCT.out] at q
        exact q
    · have hsl := HSL n.toNat (by omega) rfl n (by omega)
      have hg : ¬ n > tt := hf
      clear HSL h hm hln hsv htv hkv htt zs zk hf
      go_enter Tryd.func43, Tryd.ntmps43
      go_wp2
      refine wp_region_any (by kernel_rfl) ?_
      change wpAny _ _ _ _ _ _ _ (World.drew _)
      refine wpAny_take (i := 0) (v := ?_) rfl (by kernel_rfl) (by kernel_rfl) (by kernel_rfl) (fun _ _ _ h => h) (Or.inl ⟨by rfl, ?_⟩) ?_
      rotate_left
      · intro w; go_simp; try with_reducible rfl
      go_simp
      refine wpAny_take (i := 1) (v := ?_) rfl (by kernel_rfl) (by kernel_rfl) (by kernel_rfl) (fun _ _ _ h => h) (Or.inl ⟨by rfl, ?_⟩) ?_
      rotate_left
      · intro w; go_simp; try with_reducible rfl
      go_simp
      refine wpAny_take (i := 2) (v := ?_) rfl (by kernel_rfl) (by kernel_rfl) (by kernel_rfl) (fun _ _ _ h => h) (Or.inl ⟨by rfl, ?_⟩) ?_
      rotate_left
      · intro w; go_simp; try with_reducible rfl
      go_simp
      refine wpAny_take (i := 3) (v := ?_) rfl (by kernel_rfl) (by kernel_rfl) (by kernel_rfl) (fun _ _ _ h => h) (Or.inl ⟨by rfl, ?_⟩) ?_
      rotate_left
      · intro w; go_simp; try with_reducible rfl
      go_simp
      refine wpAny_take (i := 4) (v := ?_) rfl (by kernel_rfl) (by kernel_rfl) (by kernel_rfl) (fun _ _ _ h => h) (Or.inl ⟨by rfl, ?_⟩) ?_
      rotate_left
      · intro w; go_simp; try with_reducible rfl
      go_simp
      refine wpAny_take (i := 5) (v := ?_) rfl (by kernel_rfl) (by kernel_rfl) (by kernel_rfl) (fun _ _ _ h => h) (Or.inl ⟨by rfl, ?_⟩) ?_
      rotate_left
      · intro w; go_simp; try with_reducible rfl
      go_simp
      refine wpAny_take (i := 6) (v := ?_) rfl (by kernel_rfl) (by kernel_rfl) (by kernel_rfl) (fun _ _ _ h => h) (Or.inl ⟨by rfl, ?_⟩) ?_
      rotate_left
      · intro w; go_simp; try with_reducible rfl
      go_simp
      refine wpAny_take (i := 8) (v := ?_) rfl (by kernel_rfl) (by kernel_rfl) (by kernel_rfl) (fun _ _ _ h => h) (Or.inl ⟨by rfl, ?_⟩) ?_
      rotate_left
      · intro w; go_simp; try with_reducible rfl
      go_simp
      refine wpAny_take (i := 9) (v := ?_) rfl (by kernel_rfl) (by kernel_rfl) (by kernel_rfl) (fun _ _ _ h => h) (Or.inl ⟨by rfl, ?_⟩) ?_
      rotate_left
      · intro w; go_simp; try with_reducible rfl
      go_simp
      refine wpAny_take (i := 10) (v := ?_) rfl (by kernel_rfl) (by kernel_rfl) (by kernel_rfl) (fun _ _ _ h => h) (Or.inl ⟨by rfl, ?_⟩) ?_
      rotate_left
      · intro w; go_simp; try with_reducible rfl
      go_simp
      refine wpAny_take (i := 12) (v := ?_) rfl (by kernel_rfl) (by kernel_rfl) (by kernel_rfl) (fun _ _ _ h => h) (Or.inl ⟨by rfl, ?_⟩) ?_
      rotate_left
      · intro w; go_simp; try with_reducible rfl
      go_simp
      refine wpAny_ready (rs := [7, 11]) (by kernel_rfl) (by simp) ?_
      refine AllReady.cons rfl (fun K hK => ?_) (AllReady.cons rfl (fun K hK => ?_) AllReady.nil)
      · go_simp
        refine hK _ _ ?_
        clear hK K
        refine wpAny_ready (rs := [11]) (by kernel_rfl) (by simp) ?_
        refine AllReady.cons rfl (fun K hK => ?_) AllReady.nil
        go_simp
        refine hK _ _ ?_
        clear hK K
        refine wpAny_take (i := 13) (v := ?_) rfl (by kernel_rfl) (by kernel_rfl) (by kernel_rfl) (fun _ _ _ h => h) (Or.inl ⟨by rfl, ?_⟩) ?_
        rotate_left
        · intro w; go_simp; try with_reducible rfl
        go_simp
        refine wpAny_take (i := 14) (v := ?_) rfl (by kernel_rfl) (by kernel_rfl) (by kernel_rfl) (fun _ _ _ h => h) (Or.inl ⟨by rfl, ?_⟩) ?_
        rotate_left
        · intro w; go_simp; rw [if_neg HSZ.out]; try with_reducible rfl
        go_simp
        refine wpAny_take (i := 15) (v := ?_) rfl (by kernel_rfl) (by kernel_rfl) (by kernel_rfl) (fun _ _ _ h => h) (Or.inl ⟨by rfl, ?_⟩) ?_
        rotate_left
        · intro w; go_simp; try with_reducible rfl
        go_simp
        refine wpAny_take (i := 16) (v := ?_) rfl (by kernel_rfl) (by kernel_rfl) (by kernel_rfl) (fun _ _ _ h => h) (Or.inl ⟨by rfl, ?_⟩) ?_
        rotate_left
        · intro w; go_simp; try with_reducible rfl
        go_simp
        refine wpAny_ready (rs := [17]) (by kernel_rfl) (by simp) ?_
        refine AllReady.cons rfl (fun K hK => ?_) AllReady.nil
        go_simp
        refine hK _ _ ?_
        clear hK K
        refine wpAny_take (i := 18) (v := ?_) rfl (by kernel_rfl) (by kernel_rfl) (by kernel_rfl) (fun _ _ _ h => h) (Or.inl ⟨by rfl, ?_⟩) ?_
        rotate_left
        · intro w; go_simp; try with_reducible rfl
        go_simp
        refine wpAny_take (i := 19) (v := ?_) rfl (by kernel_rfl) (by kernel_rfl) (by kernel_rfl) (fun _ _ _ h => h) (Or.inl ⟨by rfl, ?_⟩) ?_
        rotate_left
        · intro w; go_simp; try with_reducible rfl
        go_simp
        refine wpAny_ready (rs := [20]) (by kernel_rfl) (by simp) ?_
        refine AllReady.cons rfl (fun K hK => ?_) AllReady.nil
        go_simp
        refine hK _ _ ?_
        clear hK K
        refine wpAny_take (i := 21) (v := ?_) rfl (by kernel_rfl) (by kernel_rfl) (by kernel_rfl) (fun _ _ _ h => h) (Or.inl ⟨by rfl, ?_⟩) ?_
        rotate_left
        · intro w; go_simp; try with_reducible rfl
        go_simp
        refine wpAny_take (i := 22) (v := ?_) rfl (by kernel_rfl) (by kernel_rfl) (by kernel_rfl) (fun _ _ _ h => h) (Or.inl ⟨by rfl, ?_⟩) ?_
        rotate_left
        · intro w; go_simp; try with_reducible rfl
        go_simp
        refine wpAny_ready (rs := [23]) (by kernel_rfl) (by simp) ?_
        refine AllReady.cons rfl (fun K hK => ?_) AllReady.nil
        go_simp
        refine hK _ _ ?_
        clear hK K
        refine wpAny_take (i := 24) (v := ?_) rfl (by kernel_rfl) (by kernel_rfl) (by kernel_rfl) (fun _ _ _ h => h) (Or.inl ⟨by rfl, ?_⟩) ?_
        rotate_left
        · intro w; go_simp; try with_reducible rfl
        go_simp
        refine wpAny_take (i := 25) (v := ?_) rfl (by kernel_rfl) (by kernel_rfl) (by kernel_rfl) (fun _ _ _ h => h) (Or.inl ⟨by rfl, ?_⟩) ?_
        rotate_left
        · intro w; go_simp; try with_reducible rfl
        go_simp
        refine wpAny_ready (rs := [26]) (by kernel_rfl) (by simp) ?_
        refine AllReady.cons rfl (fun K hK => ?_) AllReady.nil
        go_simp
        refine hK _ _ ?_
        clear hK K
        refine wpAny_done (by kernel_rfl) ?_ _
        go_wp2
        go_end0
        refine ⟨rfl, ?_, ((((On.refl _ _).drew.set _ _).set _ _).set _ _).set _ _⟩
        have q := (((H.out.set0 (m.sure ++ m.tail.take n.toNat)).set1 []).set4 false).set3 (-1)
        rw [← HCT.out] at q
        exact q
      · go_simp
        refine hK _ _ ?_
        clear hK K
        refine wpAny_take (i := 13) (v := ?_) rfl (by kernel_rfl) (by kernel_rfl) (by kernel_rfl) (fun _ _ _ h => h) (Or.inl ⟨by rfl, ?_⟩) ?_
        rotate_left
        · intro w; go_simp; try with_reducible rfl
        go_simp
        refine wpAny_ready (rs := [7]) (by kernel_rfl) (by simp) ?_
        refine AllReady.cons rfl (fun K hK => ?_) AllReady.nil
        go_simp
        refine hK _ _ ?_
        clear hK K
        refine wpAny_take (i := 14) (v := ?_) rfl (by kernel_rfl) (by kernel_rfl) (by kernel_rfl) (fun _ _ _ h => h) (Or.inl ⟨by rfl, ?_⟩) ?_
        rotate_left
        · intro w; go_simp; rw [if_neg HSZ.out]; try with_reducible rfl
        go_simp
        refine wpAny_take (i := 15) (v := ?_) rfl (by kernel_rfl) (by kernel_rfl) (by kernel_rfl) (fun _ _ _ h => h) (Or.inl ⟨by rfl, ?_⟩) ?_
        rotate_left
        · intro w; go_simp; try with_reducible rfl
        go_simp
        refine wpAny_take (i := 16) (v := ?_) rfl (by kernel_rfl) (by kernel_rfl) (by kernel_rfl) (fun _ _ _ h => h) (Or.inl ⟨by rfl, ?_⟩) ?_
        rotate_left
        · intro w; go_simp; try with_reducible rfl
        go_simp
        refine wpAny_ready (rs := [17]) (by kernel_rfl) (by simp) ?_
        refine AllReady.cons rfl (fun K hK => ?_) AllReady.nil
        go_simp
        refine hK _ _ ?_
        clear hK K
        refine wpAny_take (i := 18) (v := ?_) rfl (by kernel_rfl) (by kernel_rfl) (by kernel_rfl) (fun _ _ _ h => h) (Or.inl ⟨by rfl, ?_⟩) ?_
        rotate_left
        · intro w; go_simp; try with_reducible rfl
        go_simp
        refine wpAny_take (i := 19) (v := ?_) rfl (by kernel_rfl) (by kernel_rfl) (by kernel_rfl) (fun _ _ _ h => h) (Or.inl ⟨by rfl, ?_⟩) ?_
        rotate_left
        · intro w; go_simp; try with_reducible rfl
        go_simp
        refine wpAny_ready (rs := [20]) (by kernel_rfl) (by simp) ?_
        refine AllReady.cons rfl (fun K hK => ?_) AllReady.nil
        go_simp
        refine hK _ _ ?_
        clear hK K
        refine wpAny_take (i := 21) (v := ?_) rfl (by kernel_rfl) (by kernel_rfl) (by kernel_rfl) (fun _ _ _ h => h) (Or.inl ⟨by rfl, ?_⟩) ?_
        rotate_left
        · intro w; go_simp; try with_reducible rfl
        go_simp
        refine wpAny_take (i := 22) (v := ?_) rfl (by kernel_rfl) (by kernel_rfl) (by kernel_rfl) (fun _ _ _ h => h) (Or.inl ⟨by rfl, ?_⟩) ?_
        rotate_left
        · intro w; go_simp; try with_reducible rfl
        go_simp
        refine wpAny_ready (rs := [23]) (by kernel_rfl) (by simp) ?_
        refine AllReady.cons rfl (fun K hK => ?_) AllReady.nil
        go_simp
        refine hK _ _ ?_
        clear hK K
        refine wpAny_take (i := 24) (v := ?_) rfl (by kernel_rfl) (by kernel_rfl) (by kernel_rfl) (fun _ _ _ h => h) (Or.inl ⟨by rfl, ?_⟩) ?_
        rotate_left
        · intro w; go_simp; try with_reducible rfl
        go_simp
        refine wpAny_take (i := 25) (v := ?_) rfl (by kernel_rfl) (by kernel_rfl) (by kernel_rfl) (fun _ _ _ h => h) (Or.inl ⟨by rfl, ?_⟩) ?_
        rotate_left
        · intro w; go_simp; try with_reducible rfl
        go_simp
        refine wpAny_ready (rs := [26]) (by kernel_rfl) (by simp) ?_
        refine AllReady.cons rfl (fun K hK => ?_) AllReady.nil
        go_simp
        refine hK _ _ ?_
        clear hK K
        refine wpAny_done (by kernel_rfl) ?_ _
        go_wp2
        go_end0
        refine ⟨rfl, ?_, ((((On.refl _ _).drew.set _ _).set _ _).set _ _).set _ _⟩
        have q := (((H.out.set0 (m.sure ++ m.tail.take n.toNat)).set1 []).set4 false).set3 (-1)
        rw [← HCT.out] at q
        exact q

set_option maxRecDepth 20000 in
set_option maxHeartbeats 1000000 in
theorem ref6_append (g : Nat) (m : TM) (hm : Mok m) (bs : List Int) (hb : bs.length ≤ 100000) (w : World) (h : MoC g m w) :
    Calls Tryd.prog 63 #[.pointer (some ⟨g, 0, none⟩), .string (strOfNums bs)] w fun e w' => e = .returned (.int .i64 (appM m bs).1) ∧ MoC g (appM m bs).2 w' ∧ On g w w' := by
  have c0 := h.c0
  have c1 := h.c1
  have c2 := h.c2
  have H := Lib.hid h
  have hr0 := hm.r0
  have hr1 := hm.r1
  have hln := hm.len
  have HST := Lib.hid (fun w1 (q : MoC g m w1) => ref6_step g m hm w1 q)
  obtain ⟨sv, hsv⟩ : ∃ x, strOfNums m.sure = x := ⟨_, rfl⟩
  obtain ⟨tv, htv⟩ : ∃ x, strOfNums m.tail = x := ⟨_, rfl⟩
  obtain ⟨bv, hbv⟩ : ∃ x, strOfNums bs = x := ⟨_, rfl⟩
  obtain ⟨rr, hrr⟩ : ∃ x, m.room = x := ⟨_, rfl⟩
  obtain ⟨aa, haa⟩ : ∃ x : Int, (m.sure.length : Int) = x := ⟨_, rfl⟩
  obtain ⟨tt, htt⟩ : ∃ x : Int, (m.tail.length : Int) = x := ⟨_, rfl⟩
  obtain ⟨nn, hnn⟩ : ∃ x : Int, (bs.length : Int) = x := ⟨_, rfl⟩
  have zs : (sv.size : Int) = aa := by rw [← hsv, strOfNums_size, haa]
  have zt : (tv.size : Int) = tt := by rw [← htv, strOfNums_size, htt]
  have zb : (bv.size : Int) = nn := by rw [← hbv, strOfNums_size, hnn]
  have hcat : tv ++ bv = strOfNums (m.tail ++ bs) := by rw [← htv, ← hbv, s6_append]
  have HCT := Lib.hid hcat
  have HTV := Lib.hid htv
  have HTZ := Lib.hid (show ¬ 9223372036854775807 < tv.size + bv.size by omega)
  rw [hsv] at c0
  rw [htv] at c1
  rw [hrr] at c2 hr0 hr1
  rw [hbv]
  have x1 : 0 ≤ aa ∧ aa ≤ 65536 := by omega
  have x2 : 0 ≤ tt ∧ tt ≤ 65536 := by omega
  have x3 : 0 ≤ nn ∧ nn ≤ 100000 := by omega
  by_cases hf : rr - aa - tt < nn
  · have e : appM m bs = (6, m) := by unfold appM; rw [if_pos (by rw [hrr, haa, htt, hnn]; exact hf)]
    rw [e]
    have hg : nn > rr - aa - tt := hf
    clear e hf h hm hln hsv htv hbv hrr haa htt hnn hcat
    go_enter Tryd.func63, Tryd.ntmps63
    go_wp2
    go_quiet (fail)
    go_wp2
    go_ret
    exact ⟨rfl, H.out.drewN _, (On.refl _ _).drewN _⟩
  · have hg : ¬ nn > rr - aa - tt := hf
    have hnf : ¬ m.room - (m.sure.length : Int) - (m.tail.length : Int) < (bs.length : Int) := by rw [hrr, haa, htt, hnn]; exact hf
    have hsame := stepM_same m
    obtain ⟨m', hm'⟩ : ∃ x, (stepM m).2 = x := ⟨_, rfl⟩
    rcases stepM_two m with hk | hk
    · have e : appM m bs = (0, { m' with tail := m.tail ++ bs }) := by unfold appM; rw [if_neg hnf, if_pos hk, hm']
      rw [e]
      have HST := HST.out
      simp only [hk, hm'] at HST
      rw [hm'] at hsame
      have HST := Lib.hid HST
      have HSM := Lib.hid hsame
      clear e hf h hm hln hsv htv hbv hrr haa htt hnn hcat hk hm' hnf hsame
      go_enter Tryd.func63, Tryd.ntmps63
      go_wp2
      go_quiet (fail)
      go_wp2_with (go_at_call 62; (with_reducible refine (HST.out _ (H.out.drewN _)).mono ?_); rintro e w2 ⟨rfl, hm2, ho2⟩; have d1 := hm2.c1; rw [HSM.out.2.1, HTV.out] at d1; have dz := hm2.z; have M2 := Lib.hid hm2; have O2 := Lib.hid ho2; clear hm2 ho2)
      go_ret
      refine ⟨rfl, ?_, ((On.refl _ _).drewN _).trans (O2.out.set _ _)⟩
      have q := M2.out.set1 (m.tail ++ bs)
      rw [← HCT.out] at q
      exact q
    · have e : appM m bs = stepM m := by unfold appM; rw [if_neg hnf, if_neg (by rw [hk]; decide)]
      rw [e]
      have HST := HST.out
      simp only [hk, hm'] at HST ⊢
      have HST := Lib.hid HST
      clear e hf h hm hln hsv htv hbv hrr haa htt hnn hcat hk hm' hnf hsame
      go_enter Tryd.func63, Tryd.ntmps63
      go_wp2
      go_quiet (fail)
      go_wp2_with (go_at_call 62; (with_reducible refine (HST.out _ (H.out.drewN _)).mono ?_); rintro e w2 ⟨rfl, hm2, ho2⟩; have M2 := Lib.hid hm2; have O2 := Lib.hid ho2; clear hm2 ho2)
      go_ret
      exact ⟨rfl, M2.out, ((On.refl _ _).drewN _).trans O2.out⟩
end Go.Proofs.YtpehmkglkjlmfaaDoor
