/-
  A MOVE OF A SCRIPT (own work): the law's do; on: is a seat on the way to an end?
-/
import Derived.Test.YtghjnhdepeiloaaDoorMvD
import Derived.Test.YtghjnhdepeiloaaDoorSlM
import Derived.Test.YtghjnhdepeiloaaDoorRefL
namespace Go.Proofs.YtghjnhdepeiloaaDoor
open Go.RowKit Go.ChangeShapes Go.WideShapes

/-- what a move of a script does -/
def doM (m : PairM) (o : OpD) : EffM × PairM :=
  if o.a = 1 then (eff0, (m.act o.e o.k).2) else if o.a = 2 then (eff0, (m.again o.e).2) else if o.a = 3 then ((m.deliver o.i o.c).1.2, (m.deliver o.i o.c).2) else if o.a = 4 then (eff0, (m.drop o.i).2) else (eff0, m)
def opV (o : OpD) : Array Value := #[.int .i64 o.a, .int .i64 o.e, .int .i64 o.k, .int .i64 o.i, .bool o.c]
def OpD.ok (o : OpD) : Prop := i64M o.a ∧ i64M o.e ∧ i64M o.k ∧ i64M o.i
theorem pok_do {m : PairM} (h : Pok m) (o : OpD) : Pok (doM m o).2 := by
  unfold doM
  split
  · exact pok_act h _ _
  · split
    · exact pok_again h _
    · split
      · exact pok_deliver h _ _
      · split
        · exact pok_drop h _
        · exact h
theorem set_8_neM {b c : Nat} {w : World} {y0 y1 y2 y3 y4 y5 y6 y7 : Value} (hne : c ≠ b) : ((((((((w.setCell ⟨b, 0, none⟩ y0).setCell ⟨b, 1, none⟩ y1).setCell ⟨b, 2, none⟩ y2).setCell ⟨b, 3, none⟩ y3).setCell ⟨b, 4, none⟩ y4).setCell ⟨b, 5, none⟩ y5).setCell ⟨b, 6, none⟩ y6).setCell ⟨b, 7, none⟩ y7).heap[c]? = w.heap[c]? := by
  rw [Below.heap_setCell _ _ _ _ hne, Below.heap_setCell _ _ _ _ hne, Below.heap_setCell _ _ _ _ hne, Below.heap_setCell _ _ _ _ hne, Below.heap_setCell _ _ _ _ hne, Below.heap_setCell _ _ _ _ hne, Below.heap_setCell _ _ _ _ hne, Below.heap_setCell _ _ _ _ hne]
variable {ads : List Addr} {J : Nat → PairM → (Nat → Prop) → World → Prop} {w0 B w w1 w2 : World} {F : Nat → Prop} {g : Nat} {m : PairM}
/-- a store into a block that is let alone -/
theorem At.set1 (C : MovC ads w0 J) (h : At J w0 B F g m w1) {b i : Nat} {y : Value} (hF : F b) (hb : B.heap.size ≤ b) : At J w0 B F g m (w1.setCell ⟨b, i, none⟩ y) := by
  obtain ⟨O, hj, hO, hb0, hB, hFF, hp⟩ := h
  refine ⟨O, C.stay hj (by simp) (fun b' q => Below.heap_setCell _ _ _ _ (fun e => (hFF b hF).1 (by have e : b' = b := e; rw [← e]; exact q))), hO, hb0, Below.setCell hB hb _, fun b' q => ⟨(hFF b' q).1, by simpa using (hFF b' q).2⟩, hp⟩
theorem At.set8 (C : MovC ads w0 J) (h : At J w0 B F g m w1) {b : Nat} {y0 y1 y2 y3 y4 y5 y6 y7 : Value} (hF : F b) (hb : B.heap.size ≤ b) : At J w0 B F g m ((((((((w1.setCell ⟨b, 0, none⟩ y0).setCell ⟨b, 1, none⟩ y1).setCell ⟨b, 2, none⟩ y2).setCell ⟨b, 3, none⟩ y3).setCell ⟨b, 4, none⟩ y4).setCell ⟨b, 5, none⟩ y5).setCell ⟨b, 6, none⟩ y6).setCell ⟨b, 7, none⟩ y7) :=
  ((((((((h.set1 C hF hb).set1 C hF hb).set1 C hF hb).set1 C hF hb).set1 C hF hb).set1 C hF hb).set1 C hF hb).set1 C hF hb)
theorem At.lt (h : At J w0 B F g m w1) {b : Nat} (hF : F b) : b < w1.heap.size := (h.choose_spec.2.2.2.2.1 b hF).2
set_option maxRecDepth 100000 in
theorem do_1 (C : MovC ads w0 J) (h : At J w0 B F g m w) (a e k i : Int) (c : Bool) (ha : a = 1) (ie : i64M e) (ik : i64M k) : Calls Tryd.prog 26 #[.pointer (some ⟨g, 0, none⟩), .agg #[.int .i64 a, .int .i64 e, .int .i64 k, .int .i64 i, .bool c]] w fun r w' => r = .returned (.agg #[.int .i64 0, .int .i64 0, .int .i64 0, .int .i64 0, .int .i64 0, .int .i64 0, .int .i64 0, .bool false]) ∧ At J w0 B F g (m.act e k).2 w' ∧ (∀ b, F b → w'.heap[b]? = w.heap[b]?) := by
  have k1 := kp_alloc w (.cells #[.int .i64 a, .int .i64 e, .int .i64 k, .int .i64 i, .bool c] 47)
  have k2 := kp_alloc (w.alloc (.cells #[.int .i64 a, .int .i64 e, .int .i64 k, .int .i64 i, .bool c] 47)) (.cells #[.int .i64 0, .int .i64 0, .int .i64 0, .int .i64 0, .int .i64 0, .int .i64 0, .int .i64 0, .bool false] 27)
  have s1 : (w.alloc (.cells #[.int .i64 a, .int .i64 e, .int .i64 k, .int .i64 i, .bool c] 47)).heap.size = w.heap.size + 1 := by simp
  have r1 := kp_row k2 (MapKept.heap_alloc w (.cells #[.int .i64 a, .int .i64 e, .int .i64 k, .int .i64 i, .bool c] 47)).1
  have r2 := (MapKept.heap_alloc (w.alloc (.cells #[.int .i64 a, .int .i64 e, .int .i64 k, .int .i64 i, .bool c] 47)) (.cells #[.int .i64 0, .int .i64 0, .int .i64 0, .int .i64 0, .int .i64 0, .int .i64 0, .int .i64 0, .bool false] 27)).1
  have at2 := (h.more C (.cells #[.int .i64 a, .int .i64 e, .int .i64 k, .int .i64 i, .bool c] 47)).more C (.cells #[.int .i64 0, .int .i64 0, .int .i64 0, .int .i64 0, .int .i64 0, .int .i64 0, .int .i64 0, .bool false] 27)
  rw [s1] at r2 at2
  have HB := Lib.hid (Below.size h.base)
  have HLT := Lib.hid (fun b (q : F b) => h.lt q)
  obtain ⟨W, hW⟩ : ∃ W, (w.alloc (.cells #[.int .i64 a, .int .i64 e, .int .i64 k, .int .i64 i, .bool c] 47)).alloc (.cells #[.int .i64 0, .int .i64 0, .int .i64 0, .int .i64 0, .int .i64 0, .int .i64 0, .int .i64 0, .bool false] 27) = W := ⟨_, rfl⟩
  have KW := Lib.hid (show Kp w W from hW ▸ Kp.trans k1 k2)
  have A2 := Lib.hid (show At J w0 B (fun b => (F b ∨ b = w.heap.size) ∨ b = w.heap.size + 1) g m W from hW ▸ at2)
  obtain ⟨e0, e1, e2, e3, e4⟩ := cells_5 r1
  obtain ⟨z0, z1, z2, z3, z4, z5, z6, z7⟩ := cells_8 r2
  have fz := frozN r2
  have R2 := Lib.hid (show W.heap[w.heap.size + 1]? = some (.cells #[.int .i64 0, .int .i64 0, .int .i64 0, .int .i64 0, .int .i64 0, .int .i64 0, .int .i64 0, .bool false] 27) from hW ▸ r2)
  have HW := Lib.hid hW
  have HC := Lib.hid (at_do C A2.out e k ie ik)
  have HCC := Lib.hid C
  subst ha
  clear k1 k2 s1 r1 r2 at2 hW h C
  go_enter Tryd.func26, Tryd.ntmps26
  go_wp2_with (go_at_call 29; rw [HW.out]; (with_reducible refine HC.out.mono ?_); rintro e' w4 ⟨rfl, ha, hf⟩; have A4 := Lib.hid ha; have F4 := Lib.hid hf; have r4 := (hf (w.heap.size + 1) (.inr rfl)).trans R2.out; have R4 := Lib.hid r4; obtain ⟨x0, x1, x2, x3, x4, x5, x6, x7⟩ := cells_8 r4; have fx := frozN r4; clear ha hf r4)
  refine bodyPost_ret (results_cell_row (p := 4) rfl _ _ (w.heap.size + 1) 27 _ (0, 0) _ rfl (set_8 _ _ _ _ _ _ _ _ R4.out) Tryd.underlying27 rfl (by kernel_rfl)) rfl ?_
  refine ⟨rfl, ((A4.out.set8 HCC.out (.inr rfl) (Nat.le_trans HB.out (Nat.le_succ _))).less fun b q => .inl (.inl q)), fun b q => ?_⟩
  have h1 := HLT.out b q
  exact (set_8_neM (by omega)).trans ((F4.out b (.inl (.inl q))).trans (Below.block KW.out b h1))
set_option maxRecDepth 100000 in
theorem do_2 (C : MovC ads w0 J) (h : At J w0 B F g m w) (a e k i : Int) (c : Bool) (ha : a = 2) (ie : i64M e) : Calls Tryd.prog 26 #[.pointer (some ⟨g, 0, none⟩), .agg #[.int .i64 a, .int .i64 e, .int .i64 k, .int .i64 i, .bool c]] w fun r w' => r = .returned (.agg #[.int .i64 0, .int .i64 0, .int .i64 0, .int .i64 0, .int .i64 0, .int .i64 0, .int .i64 0, .bool false]) ∧ At J w0 B F g (m.again e).2 w' ∧ (∀ b, F b → w'.heap[b]? = w.heap[b]?) := by
  have k1 := kp_alloc w (.cells #[.int .i64 a, .int .i64 e, .int .i64 k, .int .i64 i, .bool c] 47)
  have k2 := kp_alloc (w.alloc (.cells #[.int .i64 a, .int .i64 e, .int .i64 k, .int .i64 i, .bool c] 47)) (.cells #[.int .i64 0, .int .i64 0, .int .i64 0, .int .i64 0, .int .i64 0, .int .i64 0, .int .i64 0, .bool false] 27)
  have s1 : (w.alloc (.cells #[.int .i64 a, .int .i64 e, .int .i64 k, .int .i64 i, .bool c] 47)).heap.size = w.heap.size + 1 := by simp
  have r1 := kp_row k2 (MapKept.heap_alloc w (.cells #[.int .i64 a, .int .i64 e, .int .i64 k, .int .i64 i, .bool c] 47)).1
  have r2 := (MapKept.heap_alloc (w.alloc (.cells #[.int .i64 a, .int .i64 e, .int .i64 k, .int .i64 i, .bool c] 47)) (.cells #[.int .i64 0, .int .i64 0, .int .i64 0, .int .i64 0, .int .i64 0, .int .i64 0, .int .i64 0, .bool false] 27)).1
  have at2 := (h.more C (.cells #[.int .i64 a, .int .i64 e, .int .i64 k, .int .i64 i, .bool c] 47)).more C (.cells #[.int .i64 0, .int .i64 0, .int .i64 0, .int .i64 0, .int .i64 0, .int .i64 0, .int .i64 0, .bool false] 27)
  rw [s1] at r2 at2
  have HB := Lib.hid (Below.size h.base)
  have HLT := Lib.hid (fun b (q : F b) => h.lt q)
  obtain ⟨W, hW⟩ : ∃ W, (w.alloc (.cells #[.int .i64 a, .int .i64 e, .int .i64 k, .int .i64 i, .bool c] 47)).alloc (.cells #[.int .i64 0, .int .i64 0, .int .i64 0, .int .i64 0, .int .i64 0, .int .i64 0, .int .i64 0, .bool false] 27) = W := ⟨_, rfl⟩
  have KW := Lib.hid (show Kp w W from hW ▸ Kp.trans k1 k2)
  have A2 := Lib.hid (show At J w0 B (fun b => (F b ∨ b = w.heap.size) ∨ b = w.heap.size + 1) g m W from hW ▸ at2)
  obtain ⟨e0, e1, e2, e3, e4⟩ := cells_5 r1
  obtain ⟨z0, z1, z2, z3, z4, z5, z6, z7⟩ := cells_8 r2
  have fz := frozN r2
  have R2 := Lib.hid (show W.heap[w.heap.size + 1]? = some (.cells #[.int .i64 0, .int .i64 0, .int .i64 0, .int .i64 0, .int .i64 0, .int .i64 0, .int .i64 0, .bool false] 27) from hW ▸ r2)
  have HW := Lib.hid hW
  have HC := Lib.hid (at_again C A2.out e ie)
  have HCC := Lib.hid C
  subst ha
  clear k1 k2 s1 r1 r2 at2 hW h C
  go_enter Tryd.func26, Tryd.ntmps26
  go_wp2_with (go_at_call 30; rw [HW.out]; (with_reducible refine HC.out.mono ?_); rintro e' w4 ⟨rfl, ha, hf⟩; have A4 := Lib.hid ha; have F4 := Lib.hid hf; have r4 := (hf (w.heap.size + 1) (.inr rfl)).trans R2.out; have R4 := Lib.hid r4; obtain ⟨x0, x1, x2, x3, x4, x5, x6, x7⟩ := cells_8 r4; have fx := frozN r4; clear ha hf r4)
  refine bodyPost_ret (results_cell_row (p := 4) rfl _ _ (w.heap.size + 1) 27 _ (0, 0) _ rfl (set_8 _ _ _ _ _ _ _ _ R4.out) Tryd.underlying27 rfl (by kernel_rfl)) rfl ?_
  refine ⟨rfl, ((A4.out.set8 HCC.out (.inr rfl) (Nat.le_trans HB.out (Nat.le_succ _))).less fun b q => .inl (.inl q)), fun b q => ?_⟩
  have h1 := HLT.out b q
  exact (set_8_neM (by omega)).trans ((F4.out b (.inl (.inl q))).trans (Below.block KW.out b h1))
set_option maxRecDepth 100000 in
theorem do_4 (C : MovC ads w0 J) (h : At J w0 B F g m w) (a e k i : Int) (c : Bool) (ha : a = 4) (ii : i64M i) : Calls Tryd.prog 26 #[.pointer (some ⟨g, 0, none⟩), .agg #[.int .i64 a, .int .i64 e, .int .i64 k, .int .i64 i, .bool c]] w fun r w' => r = .returned (.agg #[.int .i64 0, .int .i64 0, .int .i64 0, .int .i64 0, .int .i64 0, .int .i64 0, .int .i64 0, .bool false]) ∧ At J w0 B F g (m.drop i).2 w' ∧ (∀ b, F b → w'.heap[b]? = w.heap[b]?) := by
  have k1 := kp_alloc w (.cells #[.int .i64 a, .int .i64 e, .int .i64 k, .int .i64 i, .bool c] 47)
  have k2 := kp_alloc (w.alloc (.cells #[.int .i64 a, .int .i64 e, .int .i64 k, .int .i64 i, .bool c] 47)) (.cells #[.int .i64 0, .int .i64 0, .int .i64 0, .int .i64 0, .int .i64 0, .int .i64 0, .int .i64 0, .bool false] 27)
  have s1 : (w.alloc (.cells #[.int .i64 a, .int .i64 e, .int .i64 k, .int .i64 i, .bool c] 47)).heap.size = w.heap.size + 1 := by simp
  have r1 := kp_row k2 (MapKept.heap_alloc w (.cells #[.int .i64 a, .int .i64 e, .int .i64 k, .int .i64 i, .bool c] 47)).1
  have r2 := (MapKept.heap_alloc (w.alloc (.cells #[.int .i64 a, .int .i64 e, .int .i64 k, .int .i64 i, .bool c] 47)) (.cells #[.int .i64 0, .int .i64 0, .int .i64 0, .int .i64 0, .int .i64 0, .int .i64 0, .int .i64 0, .bool false] 27)).1
  have at2 := (h.more C (.cells #[.int .i64 a, .int .i64 e, .int .i64 k, .int .i64 i, .bool c] 47)).more C (.cells #[.int .i64 0, .int .i64 0, .int .i64 0, .int .i64 0, .int .i64 0, .int .i64 0, .int .i64 0, .bool false] 27)
  rw [s1] at r2 at2
  have HB := Lib.hid (Below.size h.base)
  have HLT := Lib.hid (fun b (q : F b) => h.lt q)
  obtain ⟨W, hW⟩ : ∃ W, (w.alloc (.cells #[.int .i64 a, .int .i64 e, .int .i64 k, .int .i64 i, .bool c] 47)).alloc (.cells #[.int .i64 0, .int .i64 0, .int .i64 0, .int .i64 0, .int .i64 0, .int .i64 0, .int .i64 0, .bool false] 27) = W := ⟨_, rfl⟩
  have KW := Lib.hid (show Kp w W from hW ▸ Kp.trans k1 k2)
  have A2 := Lib.hid (show At J w0 B (fun b => (F b ∨ b = w.heap.size) ∨ b = w.heap.size + 1) g m W from hW ▸ at2)
  obtain ⟨e0, e1, e2, e3, e4⟩ := cells_5 r1
  obtain ⟨z0, z1, z2, z3, z4, z5, z6, z7⟩ := cells_8 r2
  have fz := frozN r2
  have R2 := Lib.hid (show W.heap[w.heap.size + 1]? = some (.cells #[.int .i64 0, .int .i64 0, .int .i64 0, .int .i64 0, .int .i64 0, .int .i64 0, .int .i64 0, .bool false] 27) from hW ▸ r2)
  have HW := Lib.hid hW
  have HC := Lib.hid (at_drop C A2.out i ii)
  have HCC := Lib.hid C
  subst ha
  clear k1 k2 s1 r1 r2 at2 hW h C
  go_enter Tryd.func26, Tryd.ntmps26
  go_wp2_with (go_at_call 46; rw [HW.out]; (with_reducible refine HC.out.mono ?_); rintro e' w4 ⟨rfl, ha, hf⟩; have A4 := Lib.hid ha; have F4 := Lib.hid hf; have r4 := (hf (w.heap.size + 1) (.inr rfl)).trans R2.out; have R4 := Lib.hid r4; obtain ⟨x0, x1, x2, x3, x4, x5, x6, x7⟩ := cells_8 r4; have fx := frozN r4; clear ha hf r4)
  refine bodyPost_ret (results_cell_row (p := 4) rfl _ _ (w.heap.size + 1) 27 _ (0, 0) _ rfl (set_8 _ _ _ _ _ _ _ _ R4.out) Tryd.underlying27 rfl (by kernel_rfl)) rfl ?_
  refine ⟨rfl, ((A4.out.set8 HCC.out (.inr rfl) (Nat.le_trans HB.out (Nat.le_succ _))).less fun b q => .inl (.inl q)), fun b q => ?_⟩
  have h1 := HLT.out b q
  exact (set_8_neM (by omega)).trans ((F4.out b (.inl (.inl q))).trans (Below.block KW.out b h1))
set_option maxRecDepth 100000 in
theorem do_no (C : MovC ads w0 J) (h : At J w0 B F g m w) (a e k i : Int) (c : Bool) (h1 : (a == 1) = false) (h2 : (a == 2) = false) (h3 : (a == 3) = false) (h4 : (a == 4) = false) : Calls Tryd.prog 26 #[.pointer (some ⟨g, 0, none⟩), .agg #[.int .i64 a, .int .i64 e, .int .i64 k, .int .i64 i, .bool c]] w fun r w' => r = .returned (.agg #[.int .i64 0, .int .i64 0, .int .i64 0, .int .i64 0, .int .i64 0, .int .i64 0, .int .i64 0, .bool false]) ∧ At J w0 B F g m w' ∧ (∀ b, F b → w'.heap[b]? = w.heap[b]?) := by
  have k1 := kp_alloc w (.cells #[.int .i64 a, .int .i64 e, .int .i64 k, .int .i64 i, .bool c] 47)
  have k2 := kp_alloc (w.alloc (.cells #[.int .i64 a, .int .i64 e, .int .i64 k, .int .i64 i, .bool c] 47)) (.cells #[.int .i64 0, .int .i64 0, .int .i64 0, .int .i64 0, .int .i64 0, .int .i64 0, .int .i64 0, .bool false] 27)
  have s1 : (w.alloc (.cells #[.int .i64 a, .int .i64 e, .int .i64 k, .int .i64 i, .bool c] 47)).heap.size = w.heap.size + 1 := by simp
  have r1 := kp_row k2 (MapKept.heap_alloc w (.cells #[.int .i64 a, .int .i64 e, .int .i64 k, .int .i64 i, .bool c] 47)).1
  have r2 := (MapKept.heap_alloc (w.alloc (.cells #[.int .i64 a, .int .i64 e, .int .i64 k, .int .i64 i, .bool c] 47)) (.cells #[.int .i64 0, .int .i64 0, .int .i64 0, .int .i64 0, .int .i64 0, .int .i64 0, .int .i64 0, .bool false] 27)).1
  have at2 := (h.more C (.cells #[.int .i64 a, .int .i64 e, .int .i64 k, .int .i64 i, .bool c] 47)).more C (.cells #[.int .i64 0, .int .i64 0, .int .i64 0, .int .i64 0, .int .i64 0, .int .i64 0, .int .i64 0, .bool false] 27)
  rw [s1] at r2 at2
  have HB := Lib.hid (Below.size h.base)
  have HLT := Lib.hid (fun b (q : F b) => h.lt q)
  obtain ⟨W, hW⟩ : ∃ W, (w.alloc (.cells #[.int .i64 a, .int .i64 e, .int .i64 k, .int .i64 i, .bool c] 47)).alloc (.cells #[.int .i64 0, .int .i64 0, .int .i64 0, .int .i64 0, .int .i64 0, .int .i64 0, .int .i64 0, .bool false] 27) = W := ⟨_, rfl⟩
  have KW := Lib.hid (show Kp w W from hW ▸ Kp.trans k1 k2)
  have A2 := Lib.hid (show At J w0 B (fun b => (F b ∨ b = w.heap.size) ∨ b = w.heap.size + 1) g m W from hW ▸ at2)
  obtain ⟨e0, e1, e2, e3, e4⟩ := cells_5 r1
  obtain ⟨z0, z1, z2, z3, z4, z5, z6, z7⟩ := cells_8 r2
  have fz := frozN r2
  have R2 := Lib.hid (show W.heap[w.heap.size + 1]? = some (.cells #[.int .i64 0, .int .i64 0, .int .i64 0, .int .i64 0, .int .i64 0, .int .i64 0, .int .i64 0, .bool false] 27) from hW ▸ r2)
  have HW := Lib.hid hW
  have R1 := Lib.hid r2
  clear k1 k2 s1 r1 r2 at2 hW h C
  go_enter Tryd.func26, Tryd.ntmps26
  go_wp2
  refine bodyPost_ret (results_cell_row (p := 4) rfl _ _ (w.heap.size + 1) 27 _ (0, 0) _ rfl R1.out Tryd.underlying27 rfl (by kernel_rfl)) rfl ?_
  rw [HW.out]
  exact ⟨rfl, A2.out.less fun b q => .inl (.inl q), fun b q => Below.block KW.out b (HLT.out b q)⟩
set_option maxRecDepth 100000 in
theorem do_3 (C : MovC ads w0 J) (h : At J w0 B F g m w) (e k i : Int) (c : Bool) (ii : i64M i) (a0 a1 a2 a3 b1 b2 b3 : Int) (b4 : Bool) (hy : (m.deliver i c).1.2 = ⟨⟨a0, a1, a2, a3⟩, b1, b2, b3, b4⟩) : Calls Tryd.prog 26 #[.pointer (some ⟨g, 0, none⟩), .agg #[.int .i64 3, .int .i64 e, .int .i64 k, .int .i64 i, .bool c]] w fun r w' => r = .returned (.agg #[.int .i64 a0, .int .i64 a1, .int .i64 a2, .int .i64 a3, .int .i64 b1, .int .i64 b2, .int .i64 b3, .bool b4]) ∧ At J w0 B F g (m.deliver i c).2 w' ∧ (∀ b, F b → w'.heap[b]? = w.heap[b]?) := by
  have k1 := kp_alloc w (.cells #[.int .i64 3, .int .i64 e, .int .i64 k, .int .i64 i, .bool c] 47)
  have k2 := kp_alloc (w.alloc (.cells #[.int .i64 3, .int .i64 e, .int .i64 k, .int .i64 i, .bool c] 47)) (.cells #[.int .i64 0, .int .i64 0, .int .i64 0, .int .i64 0, .int .i64 0, .int .i64 0, .int .i64 0, .bool false] 27)
  have s1 : (w.alloc (.cells #[.int .i64 3, .int .i64 e, .int .i64 k, .int .i64 i, .bool c] 47)).heap.size = w.heap.size + 1 := by simp
  have r1 := kp_row k2 (MapKept.heap_alloc w (.cells #[.int .i64 3, .int .i64 e, .int .i64 k, .int .i64 i, .bool c] 47)).1
  have r2 := (MapKept.heap_alloc (w.alloc (.cells #[.int .i64 3, .int .i64 e, .int .i64 k, .int .i64 i, .bool c] 47)) (.cells #[.int .i64 0, .int .i64 0, .int .i64 0, .int .i64 0, .int .i64 0, .int .i64 0, .int .i64 0, .bool false] 27)).1
  have at2 := (h.more C (.cells #[.int .i64 3, .int .i64 e, .int .i64 k, .int .i64 i, .bool c] 47)).more C (.cells #[.int .i64 0, .int .i64 0, .int .i64 0, .int .i64 0, .int .i64 0, .int .i64 0, .int .i64 0, .bool false] 27)
  rw [s1] at r2 at2
  have HB := Lib.hid (Below.size h.base)
  have HLT := Lib.hid (fun b (q : F b) => h.lt q)
  obtain ⟨W, hW⟩ : ∃ W, (w.alloc (.cells #[.int .i64 3, .int .i64 e, .int .i64 k, .int .i64 i, .bool c] 47)).alloc (.cells #[.int .i64 0, .int .i64 0, .int .i64 0, .int .i64 0, .int .i64 0, .int .i64 0, .int .i64 0, .bool false] 27) = W := ⟨_, rfl⟩
  have KW := Lib.hid (show Kp w W from hW ▸ Kp.trans k1 k2)
  have A2 := Lib.hid (show At J w0 B (fun b => (F b ∨ b = w.heap.size) ∨ b = w.heap.size + 1) g m W from hW ▸ at2)
  obtain ⟨e0, e1, e2, e3, e4⟩ := cells_5 r1
  obtain ⟨z0, z1, z2, z3, z4, z5, z6, z7⟩ := cells_8 r2
  have fz := frozN r2
  have R2 := Lib.hid (show W.heap[w.heap.size + 1]? = some (.cells #[.int .i64 0, .int .i64 0, .int .i64 0, .int .i64 0, .int .i64 0, .int .i64 0, .int .i64 0, .bool false] 27) from hW ▸ r2)
  have HW := Lib.hid hW
  have hc := at_deliver C A2.out i c ii
  rw [hy] at hc
  obtain ⟨q, hq⟩ : ∃ q, errI ads (m.deliver i c).1.1 = q := ⟨_, rfl⟩
  rw [hq] at hc
  dsimp only [effV] at hc
  have HC := Lib.hid hc
  have HCC := Lib.hid C
  clear k1 k2 s1 r1 r2 at2 hW h C hc hq hy
  go_enter Tryd.func26, Tryd.ntmps26
  go_wp2_with (go_at_call 28; rw [HW.out]; (with_reducible refine HC.out.mono ?_); rintro e' w4 ⟨rfl, ha, hf⟩; have hk4 := kp_alloc w4 (.cells #[.int .i64 a0, .int .i64 a1, .int .i64 a2, .int .i64 a3, .int .i64 b1, .int .i64 b2, .int .i64 b3, .bool b4] 27); have A4 := Lib.hid (ha.kp HCC.out hk4); have r4 := (hf (w.heap.size + 1) (.inr rfl)).trans R2.out; have lt4 : w.heap.size + 1 < w4.heap.size := old_of_row r4; have F4 := Lib.hid (fun b (q : F b) => (Below.block hk4 b (ha.lt (.inl (.inl q)))).trans (hf b (.inl (.inl q)))); have R4 := Lib.hid (kp_row hk4 r4); have B4 := Lib.hid (MapKept.heap_alloc w4 (.cells #[.int .i64 a0, .int .i64 a1, .int .i64 a2, .int .i64 a3, .int .i64 b1, .int .i64 b2, .int .i64 b3, .bool b4] 27)).1; obtain ⟨x0, x1, x2, x3, x4, x5, x6, x7⟩ := cells_8 R4.out; have fx := frozN R4.out; obtain ⟨v0, v1, v2, v3, v4, v5, v6, v7⟩ := cells_8 B4.out; clear ha hf r4 hk4 lt4)
  refine bodyPost_ret (results_cell_row (p := 4) rfl _ _ (w.heap.size + 1) 27 _ (0, 0) _ rfl (set_8 _ _ _ _ _ _ _ _ R4.out) Tryd.underlying27 rfl (by kernel_rfl)) rfl ?_
  refine ⟨rfl, ((A4.out.set8 HCC.out (.inr rfl) (Nat.le_trans HB.out (Nat.le_succ _))).less fun b q => .inl (.inl q)), fun b q => ?_⟩
  have h1 := HLT.out b q
  exact (set_8_neM (by omega)).trans ((F4.out b q).trans (Below.block KW.out b h1))
theorem at_doL (C : MovC ads w0 J) (h : At J w0 B F g m w) (o : OpD) (ho : o.ok) : Calls Tryd.prog 26 #[.pointer (some ⟨g, 0, none⟩), .agg (opV o)] w fun r w' => r = .returned (.agg (effV (doM m o).1)) ∧ At J w0 B F g (doM m o).2 w' ∧ (∀ b, F b → w'.heap[b]? = w.heap[b]?) := by
  obtain ⟨a, e, k, i, c⟩ := o
  obtain ⟨ia, ie, ik, ii⟩ := ho
  dsimp only [opV] at ie ik ii ⊢
  unfold doM
  dsimp only
  by_cases h1 : a = 1
  · rw [if_pos h1]; exact do_1 C h a e k i c h1 ie ik
  rw [if_neg h1]
  by_cases h2 : a = 2
  · rw [if_pos h2]; exact do_2 C h a e k i c h2 ie
  rw [if_neg h2]
  by_cases h3 : a = 3
  · rw [if_pos h3]
    subst h3
    obtain ⟨⟨⟨a0, a1, a2, a3⟩, b1, b2, b3, b4⟩, hy⟩ : ∃ y, (m.deliver i c).1.2 = y := ⟨_, rfl⟩
    rw [hy]
    exact do_3 C h e k i c ii a0 a1 a2 a3 b1 b2 b3 b4 hy
  rw [if_neg h3]
  by_cases h4 : a = 4
  · rw [if_pos h4]; exact do_4 C h a e k i c h4 ii
  rw [if_neg h4]
  exact do_no C h a e k i c (by simpa using h1) (by simpa using h2) (by simpa using h3) (by simpa using h4)
set_option maxRecDepth 100000 in
theorem onS_any (z : SeatM) (how : Int) (w : World) : Calls Tryd.prog 27 #[.agg #[.int .i64 z.p, .int .i64 z.e, .int .i64 z.s, .int .i64 z.h], .int .i64 how] w fun r w' => r = .returned (.bool (onM (z.s, z.h) how)) ∧ Kp w w' := by
  obtain ⟨p, e, s, h⟩ := z
  dsimp only
  have KB := Lib.hid (kp_alloc w (.cells #[.int .i64 p, .int .i64 e, .int .i64 s, .int .i64 h] 23))
  have HR := Lib.hid (MapKept.heap_alloc w (.cells #[.int .i64 p, .int .i64 e, .int .i64 s, .int .i64 h] 23)).1
  obtain ⟨g0, g1, g2, g3⟩ := cells_4 HR.out
  unfold onM
  dsimp only
  by_cases h14 : s = 14
  · subst h14
    rw [if_pos rfl, show decide (h = how) = (h == how) by rw [Bool.eq_iff_iff]; simp]
    (go_enter Tryd.func27, Tryd.ntmps27; go_wp2; go_ret; exact ⟨by first | rfl | (simp; done), KB.out⟩)
  rw [if_neg h14]
  have b14 : (s == 14) = false := by simpa using h14
  clear h14
  by_cases h7 : how = 7
  · subst h7
    rw [if_pos rfl, show decide (s = 6) = (s == 6) by rw [Bool.eq_iff_iff]; simp]
    (go_enter Tryd.func27, Tryd.ntmps27; go_wp2; go_ret; exact ⟨by first | rfl | (simp; done), KB.out⟩)
  rw [if_neg h7]
  by_cases h8 : how = 8
  · subst h8
    rw [if_pos rfl, show decide (s = 7) = (s == 7) by rw [Bool.eq_iff_iff]; simp]
    (go_enter Tryd.func27, Tryd.ntmps27; go_wp2; go_ret; exact ⟨by first | rfl | (simp; done), KB.out⟩)
  rw [if_neg h8]
  by_cases h6 : how = 6
  · subst h6
    rw [if_pos rfl]
    by_cases h2 : s = 2
    · subst h2
      rw [decide_eq_true (.inl rfl)]
      (go_enter Tryd.func27, Tryd.ntmps27; go_wp2; go_ret; exact ⟨by first | rfl | (simp; done), KB.out⟩)
    · have b2 : (s == 2) = false := by simpa using h2
      rw [show decide (s = 2 ∨ s = 3) = (s == 3) by rw [Bool.eq_iff_iff]; simp [h2]]
      clear h2
      (go_enter Tryd.func27, Tryd.ntmps27; go_wp2; go_ret; exact ⟨by first | rfl | (simp; done), KB.out⟩)
  rw [if_neg h6]
  by_cases h1 : how = 1
  · subst h1
    rw [if_pos rfl, show decide (s = 13) = (s == 13) by rw [Bool.eq_iff_iff]; simp]
    (go_enter Tryd.func27, Tryd.ntmps27; go_wp2; go_ret; exact ⟨by first | rfl | (simp; done), KB.out⟩)
  rw [if_neg h1]
  by_cases h4 : how = 4
  · subst h4
    rw [if_pos rfl]
    by_cases h8' : s ≥ 8
    · have d8 : decide (s ≥ 8) = true := decide_eq_true h8'
      rw [show failT s = decide (s ≤ 11) by unfold failT; rw [decide_eq_decide]; omega]
      clear h8'
      (go_enter Tryd.func27, Tryd.ntmps27; go_wp2; go_ret; exact ⟨by first | rfl | (simp; done), KB.out⟩)
    · have d8 : decide (s ≥ 8) = false := decide_eq_false h8'
      rw [show failT s = false by unfold failT; exact decide_eq_false (by omega)]
      clear h8'
      (go_enter Tryd.func27, Tryd.ntmps27; go_wp2; go_ret; exact ⟨by first | rfl | (simp; done), KB.out⟩)
  rw [if_neg h4]
  by_cases h5 : how = 5
  · subst h5
    rw [if_pos rfl, show decide (s = 12) = (s == 12) by rw [Bool.eq_iff_iff]; simp]
    (go_enter Tryd.func27, Tryd.ntmps27; go_wp2; go_ret; exact ⟨by first | rfl | (simp; done), KB.out⟩)
  rw [if_neg h5]
  have c7 : (how == 7) = false := by simpa using h7
  have c8 : (how == 8) = false := by simpa using h8
  have c6 : (how == 6) = false := by simpa using h6
  have c1 : (how == 1) = false := by simpa using h1
  have c4 : (how == 4) = false := by simpa using h4
  have c5 : (how == 5) = false := by simpa using h5
  clear h7 h8 h6 h1 h4 h5
  (go_enter Tryd.func27, Tryd.ntmps27; go_wp2; go_ret; exact ⟨by first | rfl | (simp; done), KB.out⟩)
end Go.Proofs.YtghjnhdepeiloaaDoor
