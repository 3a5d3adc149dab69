/-
  MovesPairs: for every protocol and script of moves, a pair answers just as the document says. Condition: package api's errors hold what their declarations lay.
-/
import Derived.Test.YtghjnhdepeiloaaDoorMvD
import Derived.Test.YtghjnhdepeiloaaDoorSlM
import Derived.Test.YtghjnhdepeiloaaDoorRefL
import Derived.Test.YtghjnhdepeiloaaDoorPrM
import Derived.Test.YtghjnhdepeiloaaDoorPrG
import Derived.Test.YtghjnhdepeiloaaDoorMvF
import Derived.LoopTactic
import Derived.LoopN
import Derived.Test.YtghjnhdepeiloaaDoorRows
import Derived.Test.YtghjnhdepeiloaaDoorLaidE
import Derived.Test.YtghjnhdepeiloaaDoorMpX
import Derived.Test.YtghjnhdepeiloaaDoorOpZ
import Derived.Test.YtghjnhdepeiloaaDoorCards
import Derived.Test.YtghjnhdepeiloaaDoorTie
import Derived.Test.YtghjnhdepeiloaaDoorFrame
import Derived.SevenTiedAt

namespace Go.Proofs.YtghjnhdepeiloaaDoor
open Go.RowKit Go.ChangeShapes Go.WideShapes

/-- what a move of a script does -/
def doM (m : PairM) (o : OpD) : EffM × PairM :=
  if o.a = 1 then (eff0, (m.act o.e o.k).2) else if o.a = 2 then (eff0, (m.again o.e).2) else if o.a = 3 then ((m.deliver o.i o.c).1.2, (m.deliver o.i o.c).2) else if o.a = 4 then (eff0, (m.drop o.i).2) else (eff0, m)
def opV (o : OpD) : Array Value := #[.int .i64 o.a, .int .i64 o.e, .int .i64 o.k, .int .i64 o.i, .bool o.c]
def OpD.ok (o : OpD) : Prop := i64M o.a ∧ i64M o.e ∧ i64M o.k ∧ i64M o.i
theorem pok_do {m : PairM} (h : Pok m) (o : OpD) : Pok (doM m o).2 := by
  unfold doM
  split
  · exact pok_act h _ _
  · split
    · exact pok_again h _
    · split
      · exact pok_deliver h _ _
      · split
        · exact pok_drop h _
        · exact h
theorem set_8_neM {b c : Nat} {w : World} {y0 y1 y2 y3 y4 y5 y6 y7 : Value} (hne : c ≠ b) : ((((((((w.setCell ⟨b, 0, none⟩ y0).setCell ⟨b, 1, none⟩ y1).setCell ⟨b, 2, none⟩ y2).setCell ⟨b, 3, none⟩ y3).setCell ⟨b, 4, none⟩ y4).setCell ⟨b, 5, none⟩ y5).setCell ⟨b, 6, none⟩ y6).setCell ⟨b, 7, none⟩ y7).heap[c]? = w.heap[c]? := by
  rw [Below.heap_setCell _ _ _ _ hne, Below.heap_setCell _ _ _ _ hne, Below.heap_setCell _ _ _ _ hne, Below.heap_setCell _ _ _ _ hne, Below.heap_setCell _ _ _ _ hne, Below.heap_setCell _ _ _ _ hne, Below.heap_setCell _ _ _ _ hne, Below.heap_setCell _ _ _ _ hne]
variable {ads : List Addr} {J : Nat → PairM → (Nat → Prop) → World → Prop} {w0 B w w1 w2 : World} {F : Nat → Prop} {g : Nat} {m : PairM}
/-- a store into a block that is let alone -/
theorem At.set1 (C : MovC ads w0 J) (h : At J w0 B F g m w1) {b i : Nat} {y : Value} (hF : F b) (hb : B.heap.size ≤ b) : At J w0 B F g m (w1.setCell ⟨b, i, none⟩ y) := by
  obtain ⟨O, hj, hO, hb0, hB, hFF, hp⟩ := h
  refine ⟨O, C.stay hj (by simp) (fun b' q => Below.heap_setCell _ _ _ _ (fun e => (hFF b hF).1 (by have e : b' = b := e; rw [← e]; exact q))), hO, hb0, Below.setCell hB hb _, fun b' q => ⟨(hFF b' q).1, by simpa using (hFF b' q).2⟩, hp⟩
theorem At.set8 (C : MovC ads w0 J) (h : At J w0 B F g m w1) {b : Nat} {y0 y1 y2 y3 y4 y5 y6 y7 : Value} (hF : F b) (hb : B.heap.size ≤ b) : At J w0 B F g m ((((((((w1.setCell ⟨b, 0, none⟩ y0).setCell ⟨b, 1, none⟩ y1).setCell ⟨b, 2, none⟩ y2).setCell ⟨b, 3, none⟩ y3).setCell ⟨b, 4, none⟩ y4).setCell ⟨b, 5, none⟩ y5).setCell ⟨b, 6, none⟩ y6).setCell ⟨b, 7, none⟩ y7) :=
  ((((((((h.set1 C hF hb).set1 C hF hb).set1 C hF hb).set1 C hF hb).set1 C hF hb).set1 C hF hb).set1 C hF hb).set1 C hF hb)
theorem At.lt (h : At J w0 B F g m w1) {b : Nat} (hF : F b) : b < w1.heap.size := (h.choose_spec.2.2.2.2.1 b hF).2
set_option maxRecDepth 100000 in
theorem do_1 (C : MovC ads w0 J) (h : At J w0 B F g m w) (a e k i : Int) (c : Bool) (ha : a = 1) (ie : i64M e) (ik : i64M k) : Calls Tryd.prog 26 #[.pointer (some ⟨g, 0, none⟩), .agg #[.int .i64 a, .int .i64 e, .int .i64 k, .int .i64 i, .bool c]] w fun r w' => r = .returned (.agg #[.int .i64 0, .int .i64 0, .int .i64 0, .int .i64 0, .int .i64 0, .int .i64 0, .int .i64 0, .bool false]) ∧ At J w0 B F g (m.act e k).2 w' ∧ (∀ b, F b → w'.heap[b]? = w.heap[b]?) := by
  have k1 := kp_alloc w (.cells #[.int .i64 a, .int .i64 e, .int .i64 k, .int .i64 i, .bool c] 47)
  have k2 := kp_alloc (w.alloc (.cells #[.int .i64 a, .int .i64 e, .int .i64 k, .int .i64 i, .bool c] 47)) (.cells #[.int .i64 0, .int .i64 0, .int .i64 0, .int .i64 0, .int .i64 0, .int .i64 0, .int .i64 0, .bool false] 27)
  have s1 : (w.alloc (.cells #[.int .i64 a, .int .i64 e, .int .i64 k, .int .i64 i, .bool c] 47)).heap.size = w.heap.size + 1 := by simp
  have r1 := kp_row k2 (MapKept.heap_alloc w (.cells #[.int .i64 a, .int .i64 e, .int .i64 k, .int .i64 i, .bool c] 47)).1
  have r2 := (MapKept.heap_alloc (w.alloc (.cells #[.int .i64 a, .int .i64 e, .int .i64 k, .int .i64 i, .bool c] 47)) (.cells #[.int .i64 0, .int .i64 0, .int .i64 0, .int .i64 0, .int .i64 0, .int .i64 0, .int .i64 0, .bool false] 27)).1
  have at2 := (h.more C (.cells #[.int .i64 a, .int .i64 e, .int .i64 k, .int .i64 i, .bool c] 47)).more C (.cells #[.int .i64 0, .int .i64 0, .int .i64 0, .int .i64 0, .int .i64 0, .int .i64 0, .int .i64 0, .bool false] 27)
  rw [s1] at r2 at2
  have HB := Lib.hid (Below.size h.base)
  have HLT := Lib.hid (fun b (q : F b) => h.lt q)
  obtain ⟨W, hW⟩ : ∃ W, (w.alloc (.cells #[.int .i64 a, .int .i64 e, .int .i64 k, .int .i64 i, .bool c] 47)).alloc (.cells #[.int .i64 0, .int .i64 0, .int .i64 0, .int .i64 0, .int .i64 0, .int .i64 0, .int .i64 0, .bool false] 27) = W := ⟨_, rfl⟩
  have KW := Lib.hid (show Kp w W from hW ▸ Kp.trans k1 k2)
  have A2 := Lib.hid (show At J w0 B (fun b => (F b ∨ b = w.heap.size) ∨ b = w.heap.size + 1) g m W from hW ▸ at2)
  obtain ⟨e0, e1, e2, e3, e4⟩ := cells_5 r1
  obtain ⟨z0, z1, z2, z3, z4, z5, z6, z7⟩ := cells_8 r2
  have fz := frozN r2
  have R2 := Lib.hid (show W.heap[w.heap.size + 1]? = some (.cells #[.int .i64 0, .int .i64 0, .int .i64 0, .int .i64 0, .int .i64 0, .int .i64 0, .int .i64 0, .bool false] 27) from hW ▸ r2)
  have HW := Lib.hid hW
  have HC := Lib.hid (at_do C A2.out e k ie ik)
  have HCC := Lib.hid C
  subst ha
  clear k1 k2 s1 r1 r2 at2 hW h C
  go_enter Tryd.func26, Tryd.ntmps26
  go_wp2_with (go_at_call 29; rw [HW.out]; (with_reducible refine HC.out.mono ?_); rintro e' w4 ⟨rfl, ha, hf⟩; have A4 := Lib.hid ha; have F4 := Lib.hid hf; have r4 := (hf (w.heap.size + 1) (.inr rfl)).trans R2.out; have R4 := Lib.hid r4; obtain ⟨x0, x1, x2, x3, x4, x5, x6, x7⟩ := cells_8 r4; have fx := frozN r4; clear ha hf r4)
  refine bodyPost_ret (results_cell_row (p := 4) rfl _ _ (w.heap.size + 1) 27 _ (0, 0) _ rfl (set_8 _ _ _ _ _ _ _ _ R4.out) Tryd.underlying27 rfl (by kernel_rfl)) rfl ?_
  refine ⟨rfl, ((A4.out.set8 HCC.out (.inr rfl) (Nat.le_trans HB.out (Nat.le_succ _))).less fun b q => .inl (.inl q)), fun b q => ?_⟩
  have h1 := HLT.out b q
  exact (set_8_neM (by omega)).trans ((F4.out b (.inl (.inl q))).trans (Below.block KW.out b h1))
set_option maxRecDepth 100000 in
theorem do_2 (C : MovC ads w0 J) (h : At J w0 B F g m w) (a e k i : Int) (c : Bool) (ha : a = 2) (ie : i64M e) : Calls Tryd.prog 26 #[.pointer (some ⟨g, 0, none⟩), .agg #[.int .i64 a, .int .i64 e, .int .i64 k, .int .i64 i, .bool c]] w fun r w' => r = .returned (.agg #[.int .i64 0, .int .i64 0, .int .i64 0, .int .i64 0, .int .i64 0, .int .i64 0, .int .i64 0, .bool false]) ∧ At J w0 B F g (m.again e).2 w' ∧ (∀ b, F b → w'.heap[b]? = w.heap[b]?) := by
  have k1 := kp_alloc w (.cells #[.int .i64 a, .int .i64 e, .int .i64 k, .int .i64 i, .bool c] 47)
  have k2 := kp_alloc (w.alloc (.cells #[.int .i64 a, .int .i64 e, .int .i64 k, .int .i64 i, .bool c] 47)) (.cells #[.int .i64 0, .int .i64 0, .int .i64 0, .int .i64 0, .int .i64 0, .int .i64 0, .int .i64 0, .bool false] 27)
  have s1 : (w.alloc (.cells #[.int .i64 a, .int .i64 e, .int .i64 k, .int .i64 i, .bool c] 47)).heap.size = w.heap.size + 1 := by simp
  have r1 := kp_row k2 (MapKept.heap_alloc w (.cells #[.int .i64 a, .int .i64 e, .int .i64 k, .int .i64 i, .bool c] 47)).1
  have r2 := (MapKept.heap_alloc (w.alloc (.cells #[.int .i64 a, .int .i64 e, .int .i64 k, .int .i64 i, .bool c] 47)) (.cells #[.int .i64 0, .int .i64 0, .int .i64 0, .int .i64 0, .int .i64 0, .int .i64 0, .int .i64 0, .bool false] 27)).1
  have at2 := (h.more C (.cells #[.int .i64 a, .int .i64 e, .int .i64 k, .int .i64 i, .bool c] 47)).more C (.cells #[.int .i64 0, .int .i64 0, .int .i64 0, .int .i64 0, .int .i64 0, .int .i64 0, .int .i64 0, .bool false] 27)
  rw [s1] at r2 at2
  have HB := Lib.hid (Below.size h.base)
  have HLT := Lib.hid (fun b (q : F b) => h.lt q)
  obtain ⟨W, hW⟩ : ∃ W, (w.alloc (.cells #[.int .i64 a, .int .i64 e, .int .i64 k, .int .i64 i, .bool c] 47)).alloc (.cells #[.int .i64 0, .int .i64 0, .int .i64 0, .int .i64 0, .int .i64 0, .int .i64 0, .int .i64 0, .bool false] 27) = W := ⟨_, rfl⟩
  have KW := Lib.hid (show Kp w W from hW ▸ Kp.trans k1 k2)
  have A2 := Lib.hid (show At J w0 B (fun b => (F b ∨ b = w.heap.size) ∨ b = w.heap.size + 1) g m W from hW ▸ at2)
  obtain ⟨e0, e1, e2, e3, e4⟩ := cells_5 r1
  obtain ⟨z0, z1, z2, z3, z4, z5, z6, z7⟩ := cells_8 r2
  have fz := frozN r2
  have R2 := Lib.hid (show W.heap[w.heap.size + 1]? = some (.cells #[.int .i64 0, .int .i64 0, .int .i64 0, .int .i64 0, .int .i64 0, .int .i64 0, .int .i64 0, .bool false] 27) from hW ▸ r2)
  have HW := Lib.hid hW
  have HC := Lib.hid (at_again C A2.out e ie)
  have HCC := Lib.hid C
  subst ha
  clear k1 k2 s1 r1 r2 at2 hW h C
  go_enter Tryd.func26, Tryd.ntmps26
  go_wp2_with (go_at_call 30; rw [HW.out]; (with_reducible refine HC.out.mono ?_); rintro e' w4 ⟨rfl, ha, hf⟩; have A4 := Lib.hid ha; have F4 := Lib.hid hf; have r4 := (hf (w.heap.size + 1) (.inr rfl)).trans R2.out; have R4 := Lib.hid r4; obtain ⟨x0, x1, x2, x3, x4, x5, x6, x7⟩ := cells_8 r4; have fx := frozN r4; clear ha hf r4)
  refine bodyPost_ret (results_cell_row (p := 4) rfl _ _ (w.heap.size + 1) 27 _ (0, 0) _ rfl (set_8 _ _ _ _ _ _ _ _ R4.out) Tryd.underlying27 rfl (by kernel_rfl)) rfl ?_
  refine ⟨rfl, ((A4.out.set8 HCC.out (.inr rfl) (Nat.le_trans HB.out (Nat.le_succ _))).less fun b q => .inl (.inl q)), fun b q => ?_⟩
  have h1 := HLT.out b q
  exact (set_8_neM (by omega)).trans ((F4.out b (.inl (.inl q))).trans (Below.block KW.out b h1))
set_option maxRecDepth 100000 in
theorem do_4 (C : MovC ads w0 J) (h : At J w0 B F g m w) (a e k i : Int) (c : Bool) (ha : a = 4) (ii : i64M i) : Calls Tryd.prog 26 #[.pointer (some ⟨g, 0, none⟩), .agg #[.int .i64 a, .int .i64 e, .int .i64 k, .int .i64 i, .bool c]] w fun r w' => r = .returned (.agg #[.int .i64 0, .int .i64 0, .int .i64 0, .int .i64 0, .int .i64 0, .int .i64 0, .int .i64 0, .bool false]) ∧ At J w0 B F g (m.drop i).2 w' ∧ (∀ b, F b → w'.heap[b]? = w.heap[b]?) := by
  have k1 := kp_alloc w (.cells #[.int .i64 a, .int .i64 e, .int .i64 k, .int .i64 i, .bool c] 47)
  have k2 := kp_alloc (w.alloc (.cells #[.int .i64 a, .int .i64 e, .int .i64 k, .int .i64 i, .bool c] 47)) (.cells #[.int .i64 0, .int .i64 0, .int .i64 0, .int .i64 0, .int .i64 0, .int .i64 0, .int .i64 0, .bool false] 27)
  have s1 : (w.alloc (.cells #[.int .i64 a, .int .i64 e, .int .i64 k, .int .i64 i, .bool c] 47)).heap.size = w.heap.size + 1 := by simp
  have r1 := kp_row k2 (MapKept.heap_alloc w (.cells #[.int .i64 a, .int .i64 e, .int .i64 k, .int .i64 i, .bool c] 47)).1
  have r2 := (MapKept.heap_alloc (w.alloc (.cells #[.int .i64 a, .int .i64 e, .int .i64 k, .int .i64 i, .bool c] 47)) (.cells #[.int .i64 0, .int .i64 0, .int .i64 0, .int .i64 0, .int .i64 0, .int .i64 0, .int .i64 0, .bool false] 27)).1
  have at2 := (h.more C (.cells #[.int .i64 a, .int .i64 e, .int .i64 k, .int .i64 i, .bool c] 47)).more C (.cells #[.int .i64 0, .int .i64 0, .int .i64 0, .int .i64 0, .int .i64 0, .int .i64 0, .int .i64 0, .bool false] 27)
  rw [s1] at r2 at2
  have HB := Lib.hid (Below.size h.base)
  have HLT := Lib.hid (fun b (q : F b) => h.lt q)
  obtain ⟨W, hW⟩ : ∃ W, (w.alloc (.cells #[.int .i64 a, .int .i64 e, .int .i64 k, .int .i64 i, .bool c] 47)).alloc (.cells #[.int .i64 0, .int .i64 0, .int .i64 0, .int .i64 0, .int .i64 0, .int .i64 0, .int .i64 0, .bool false] 27) = W := ⟨_, rfl⟩
  have KW := Lib.hid (show Kp w W from hW ▸ Kp.trans k1 k2)
  have A2 := Lib.hid (show At J w0 B (fun b => (F b ∨ b = w.heap.size) ∨ b = w.heap.size + 1) g m W from hW ▸ at2)
  obtain ⟨e0, e1, e2, e3, e4⟩ := cells_5 r1
  obtain ⟨z0, z1, z2, z3, z4, z5, z6, z7⟩ := cells_8 r2
  have fz := frozN r2
  have R2 := Lib.hid (show W.heap[w.heap.size + 1]? = some (.cells #[.int .i64 0, .int .i64 0, .int .i64 0, .int .i64 0, .int .i64 0, .int .i64 0, .int .i64 0, .bool false] 27) from hW ▸ r2)
  have HW := Lib.hid hW
  have HC := Lib.hid (at_drop C A2.out i ii)
  have HCC := Lib.hid C
  subst ha
  clear k1 k2 s1 r1 r2 at2 hW h C
  go_enter Tryd.func26, Tryd.ntmps26
  go_wp2_with (go_at_call 46; rw [HW.out]; (with_reducible refine HC.out.mono ?_); rintro e' w4 ⟨rfl, ha, hf⟩; have A4 := Lib.hid ha; have F4 := Lib.hid hf; have r4 := (hf (w.heap.size + 1) (.inr rfl)).trans R2.out; have R4 := Lib.hid r4; obtain ⟨x0, x1, x2, x3, x4, x5, x6, x7⟩ := cells_8 r4; have fx := frozN r4; clear ha hf r4)
  refine bodyPost_ret (results_cell_row (p := 4) rfl _ _ (w.heap.size + 1) 27 _ (0, 0) _ rfl (set_8 _ _ _ _ _ _ _ _ R4.out) Tryd.underlying27 rfl (by kernel_rfl)) rfl ?_
  refine ⟨rfl, ((A4.out.set8 HCC.out (.inr rfl) (Nat.le_trans HB.out (Nat.le_succ _))).less fun b q => .inl (.inl q)), fun b q => ?_⟩
  have h1 := HLT.out b q
  exact (set_8_neM (by omega)).trans ((F4.out b (.inl (.inl q))).trans (Below.block KW.out b h1))
set_option maxRecDepth 100000 in
theorem do_no (C : MovC ads w0 J) (h : At J w0 B F g m w) (a e k i : Int) (c : Bool) (h1 : (a == 1) = false) (h2 : (a == 2) = false) (h3 : (a == 3) = false) (h4 : (a == 4) = false) : Calls Tryd.prog 26 #[.pointer (some ⟨g, 0, none⟩), .agg #[.int .i64 a, .int .i64 e, .int .i64 k, .int .i64 i, .bool c]] w fun r w' => r = .returned (.agg #[.int .i64 0, .int .i64 0, .int .i64 0, .int .i64 0, .int .i64 0, .int .i64 0, .int .i64 0, .bool false]) ∧ At J w0 B F g m w' ∧ (∀ b, F b → w'.heap[b]? = w.heap[b]?) := by
  have k1 := kp_alloc w (.cells #[.int .i64 a, .int .i64 e, .int .i64 k, .int .i64 i, .bool c] 47)
  have k2 := kp_alloc (w.alloc (.cells #[.int .i64 a, .int .i64 e, .int .i64 k, .int .i64 i, .bool c] 47)) (.cells #[.int .i64 0, .int .i64 0, .int .i64 0, .int .i64 0, .int .i64 0, .int .i64 0, .int .i64 0, .bool false] 27)
  have s1 : (w.alloc (.cells #[.int .i64 a, .int .i64 e, .int .i64 k, .int .i64 i, .bool c] 47)).heap.size = w.heap.size + 1 := by simp
  have r1 := kp_row k2 (MapKept.heap_alloc w (.cells #[.int .i64 a, .int .i64 e, .int .i64 k, .int .i64 i, .bool c] 47)).1
  have r2 := (MapKept.heap_alloc (w.alloc (.cells #[.int .i64 a, .int .i64 e, .int .i64 k, .int .i64 i, .bool c] 47)) (.cells #[.int .i64 0, .int .i64 0, .int .i64 0, .int .i64 0, .int .i64 0, .int .i64 0, .int .i64 0, .bool false] 27)).1
  have at2 := (h.more C (.cells #[.int .i64 a, .int .i64 e, .int .i64 k, .int .i64 i, .bool c] 47)).more C (.cells #[.int .i64 0, .int .i64 0, .int .i64 0, .int .i64 0, .int .i64 0, .int .i64 0, .int .i64 0, .bool false] 27)
  rw [s1] at r2 at2
  have HB := Lib.hid (Below.size h.base)
  have HLT := Lib.hid (fun b (q : F b) => h.lt q)
  obtain ⟨W, hW⟩ : ∃ W, (w.alloc (.cells #[.int .i64 a, .int .i64 e, .int .i64 k, .int .i64 i, .bool c] 47)).alloc (.cells #[.int .i64 0, .int .i64 0, .int .i64 0, .int .i64 0, .int .i64 0, .int .i64 0, .int .i64 0, .bool false] 27) = W := ⟨_, rfl⟩
  have KW := Lib.hid (show Kp w W from hW ▸ Kp.trans k1 k2)
  have A2 := Lib.hid (show At J w0 B (fun b => (F b ∨ b = w.heap.size) ∨ b = w.heap.size + 1) g m W from hW ▸ at2)
  obtain ⟨e0, e1, e2, e3, e4⟩ := cells_5 r1
  obtain ⟨z0, z1, z2, z3, z4, z5, z6, z7⟩ := cells_8 r2
  have fz := frozN r2
  have R2 := Lib.hid (show W.heap[w.heap.size + 1]? = some (.cells #[.int .i64 0, .int .i64 0, .int .i64 0, .int .i64 0, .int .i64 0, .int .i64 0, .int .i64 0, .bool false] 27) from hW ▸ r2)
  have HW := Lib.hid hW
  have R1 := Lib.hid r2
  clear k1 k2 s1 r1 r2 at2 hW h C
  go_enter Tryd.func26, Tryd.ntmps26
  go_wp2
  refine bodyPost_ret (results_cell_row (p := 4) rfl _ _ (w.heap.size + 1) 27 _ (0, 0) _ rfl R1.out Tryd.underlying27 rfl (by kernel_rfl)) rfl ?_
  rw [HW.out]
  exact ⟨rfl, A2.out.less fun b q => .inl (.inl q), fun b q => Below.block KW.out b (HLT.out b q)⟩
set_option maxRecDepth 100000 in
theorem do_3 (C : MovC ads w0 J) (h : At J w0 B F g m w) (e k i : Int) (c : Bool) (ii : i64M i) (a0 a1 a2 a3 b1 b2 b3 : Int) (b4 : Bool) (hy : (m.deliver i c).1.2 = ⟨⟨a0, a1, a2, a3⟩, b1, b2, b3, b4⟩) : Calls Tryd.prog 26 #[.pointer (some ⟨g, 0, none⟩), .agg #[.int .i64 3, .int .i64 e, .int .i64 k, .int .i64 i, .bool c]] w fun r w' => r = .returned (.agg #[.int .i64 a0, .int .i64 a1, .int .i64 a2, .int .i64 a3, .int .i64 b1, .int .i64 b2, .int .i64 b3, .bool b4]) ∧ At J w0 B F g (m.deliver i c).2 w' ∧ (∀ b, F b → w'.heap[b]? = w.heap[b]?) := by
  have k1 := kp_alloc w (.cells #[.int .i64 3, .int .i64 e, .int .i64 k, .int .i64 i, .bool c] 47)
  have k2 := kp_alloc (w.alloc (.cells #[.int .i64 3, .int .i64 e, .int .i64 k, .int .i64 i, .bool c] 47)) (.cells #[.int .i64 0, .int .i64 0, .int .i64 0, .int .i64 0, .int .i64 0, .int .i64 0, .int .i64 0, .bool false] 27)
  have s1 : (w.alloc (.cells #[.int .i64 3, .int .i64 e, .int .i64 k, .int .i64 i, .bool c] 47)).heap.size = w.heap.size + 1 := by simp
  have r1 := kp_row k2 (MapKept.heap_alloc w (.cells #[.int .i64 3, .int .i64 e, .int .i64 k, .int .i64 i, .bool c] 47)).1
  have r2 := (MapKept.heap_alloc (w.alloc (.cells #[.int .i64 3, .int .i64 e, .int .i64 k, .int .i64 i, .bool c] 47)) (.cells #[.int .i64 0, .int .i64 0, .int .i64 0, .int .i64 0, .int .i64 0, .int .i64 0, .int .i64 0, .bool false] 27)).1
  have at2 := (h.more C (.cells #[.int .i64 3, .int .i64 e, .int .i64 k, .int .i64 i, .bool c] 47)).more C (.cells #[.int .i64 0, .int .i64 0, .int .i64 0, .int .i64 0, .int .i64 0, .int .i64 0, .int .i64 0, .bool false] 27)
  rw [s1] at r2 at2
  have HB := Lib.hid (Below.size h.base)
  have HLT := Lib.hid (fun b (q : F b) => h.lt q)
  obtain ⟨W, hW⟩ : ∃ W, (w.alloc (.cells #[.int .i64 3, .int .i64 e, .int .i64 k, .int .i64 i, .bool c] 47)).alloc (.cells #[.int .i64 0, .int .i64 0, .int .i64 0, .int .i64 0, .int .i64 0, .int .i64 0, .int .i64 0, .bool false] 27) = W := ⟨_, rfl⟩
  have KW := Lib.hid (show Kp w W from hW ▸ Kp.trans k1 k2)
  have A2 := Lib.hid (show At J w0 B (fun b => (F b ∨ b = w.heap.size) ∨ b = w.heap.size + 1) g m W from hW ▸ at2)
  obtain ⟨e0, e1, e2, e3, e4⟩ := cells_5 r1
  obtain ⟨z0, z1, z2, z3, z4, z5, z6, z7⟩ := cells_8 r2
  have fz := frozN r2
  have R2 := Lib.hid (show W.heap[w.heap.size + 1]? = some (.cells #[.int .i64 0, .int .i64 0, .int .i64 0, .int .i64 0, .int .i64 0, .int .i64 0, .int .i64 0, .bool false] 27) from hW ▸ r2)
  have HW := Lib.hid hW
  have hc := at_deliver C A2.out i c ii
  rw [hy] at hc
  obtain ⟨q, hq⟩ : ∃ q, errI ads (m.deliver i c).1.1 = q := ⟨_, rfl⟩
  rw [hq] at hc
  dsimp only [effV] at hc
  have HC := Lib.hid hc
  have HCC := Lib.hid C
  clear k1 k2 s1 r1 r2 at2 hW h C hc hq hy
  go_enter Tryd.func26, Tryd.ntmps26
  go_wp2_with (go_at_call 28; rw [HW.out]; (with_reducible refine HC.out.mono ?_); rintro e' w4 ⟨rfl, ha, hf⟩; have hk4 := kp_alloc w4 (.cells #[.int .i64 a0, .int .i64 a1, .int .i64 a2, .int .i64 a3, .int .i64 b1, .int .i64 b2, .int .i64 b3, .bool b4] 27); have A4 := Lib.hid (ha.kp HCC.out hk4); have r4 := (hf (w.heap.size + 1) (.inr rfl)).trans R2.out; have lt4 : w.heap.size + 1 < w4.heap.size := old_of_row r4; have F4 := Lib.hid (fun b (q : F b) => (Below.block hk4 b (ha.lt (.inl (.inl q)))).trans (hf b (.inl (.inl q)))); have R4 := Lib.hid (kp_row hk4 r4); have B4 := Lib.hid (MapKept.heap_alloc w4 (.cells #[.int .i64 a0, .int .i64 a1, .int .i64 a2, .int .i64 a3, .int .i64 b1, .int .i64 b2, .int .i64 b3, .bool b4] 27)).1; obtain ⟨x0, x1, x2, x3, x4, x5, x6, x7⟩ := cells_8 R4.out; have fx := frozN R4.out; obtain ⟨v0, v1, v2, v3, v4, v5, v6, v7⟩ := cells_8 B4.out; clear ha hf r4 hk4 lt4)
  refine bodyPost_ret (results_cell_row (p := 4) rfl _ _ (w.heap.size + 1) 27 _ (0, 0) _ rfl (set_8 _ _ _ _ _ _ _ _ R4.out) Tryd.underlying27 rfl (by kernel_rfl)) rfl ?_
  refine ⟨rfl, ((A4.out.set8 HCC.out (.inr rfl) (Nat.le_trans HB.out (Nat.le_succ _))).less fun b q => .inl (.inl q)), fun b q => ?_⟩
  have h1 := HLT.out b q
  exact (set_8_neM (by omega)).trans ((F4.out b q).trans (Below.block KW.out b h1))
theorem at_doL (C : MovC ads w0 J) (h : At J w0 B F g m w) (o : OpD) (ho : o.ok) : Calls Tryd.prog 26 #[.pointer (some ⟨g, 0, none⟩), .agg (opV o)] w fun r w' => r = .returned (.agg (effV (doM m o).1)) ∧ At J w0 B F g (doM m o).2 w' ∧ (∀ b, F b → w'.heap[b]? = w.heap[b]?) := by
  obtain ⟨a, e, k, i, c⟩ := o
  obtain ⟨ia, ie, ik, ii⟩ := ho
  dsimp only [opV] at ie ik ii ⊢
  unfold doM
  dsimp only
  by_cases h1 : a = 1
  · rw [if_pos h1]; exact do_1 C h a e k i c h1 ie ik
  rw [if_neg h1]
  by_cases h2 : a = 2
  · rw [if_pos h2]; exact do_2 C h a e k i c h2 ie
  rw [if_neg h2]
  by_cases h3 : a = 3
  · rw [if_pos h3]
    subst h3
    obtain ⟨⟨⟨a0, a1, a2, a3⟩, b1, b2, b3, b4⟩, hy⟩ : ∃ y, (m.deliver i c).1.2 = y := ⟨_, rfl⟩
    rw [hy]
    exact do_3 C h e k i c ii a0 a1 a2 a3 b1 b2 b3 b4 hy
  rw [if_neg h3]
  by_cases h4 : a = 4
  · rw [if_pos h4]; exact do_4 C h a e k i c h4 ii
  rw [if_neg h4]
  exact do_no C h a e k i c (by simpa using h1) (by simpa using h2) (by simpa using h3) (by simpa using h4)
set_option maxRecDepth 100000 in
theorem onS_any (z : SeatM) (how : Int) (w : World) : Calls Tryd.prog 27 #[.agg #[.int .i64 z.p, .int .i64 z.e, .int .i64 z.s, .int .i64 z.h], .int .i64 how] w fun r w' => r = .returned (.bool (onM (z.s, z.h) how)) ∧ Kp w w' := by
  obtain ⟨p, e, s, h⟩ := z
  dsimp only
  have KB := Lib.hid (kp_alloc w (.cells #[.int .i64 p, .int .i64 e, .int .i64 s, .int .i64 h] 23))
  have HR := Lib.hid (MapKept.heap_alloc w (.cells #[.int .i64 p, .int .i64 e, .int .i64 s, .int .i64 h] 23)).1
  obtain ⟨g0, g1, g2, g3⟩ := cells_4 HR.out
  unfold onM
  dsimp only
  by_cases h14 : s = 14
  · subst h14
    rw [if_pos rfl, show decide (h = how) = (h == how) by rw [Bool.eq_iff_iff]; simp]
    (go_enter Tryd.func27, Tryd.ntmps27; go_wp2; go_ret; exact ⟨by first | rfl | (simp; done), KB.out⟩)
  rw [if_neg h14]
  have b14 : (s == 14) = false := by simpa using h14
  clear h14
  by_cases h7 : how = 7
  · subst h7
    rw [if_pos rfl, show decide (s = 6) = (s == 6) by rw [Bool.eq_iff_iff]; simp]
    (go_enter Tryd.func27, Tryd.ntmps27; go_wp2; go_ret; exact ⟨by first | rfl | (simp; done), KB.out⟩)
  rw [if_neg h7]
  by_cases h8 : how = 8
  · subst h8
    rw [if_pos rfl, show decide (s = 7) = (s == 7) by rw [Bool.eq_iff_iff]; simp]
    (go_enter Tryd.func27, Tryd.ntmps27; go_wp2; go_ret; exact ⟨by first | rfl | (simp; done), KB.out⟩)
  rw [if_neg h8]
  by_cases h6 : how = 6
  · subst h6
    rw [if_pos rfl]
    by_cases h2 : s = 2
    · subst h2
      rw [decide_eq_true (.inl rfl)]
      (go_enter Tryd.func27, Tryd.ntmps27; go_wp2; go_ret; exact ⟨by first | rfl | (simp; done), KB.out⟩)
    · have b2 : (s == 2) = false := by simpa using h2
      rw [show decide (s = 2 ∨ s = 3) = (s == 3) by rw [Bool.eq_iff_iff]; simp [h2]]
      clear h2
      (go_enter Tryd.func27, Tryd.ntmps27; go_wp2; go_ret; exact ⟨by first | rfl | (simp; done), KB.out⟩)
  rw [if_neg h6]
  by_cases h1 : how = 1
  · subst h1
    rw [if_pos rfl, show decide (s = 13) = (s == 13) by rw [Bool.eq_iff_iff]; simp]
    (go_enter Tryd.func27, Tryd.ntmps27; go_wp2; go_ret; exact ⟨by first | rfl | (simp; done), KB.out⟩)
  rw [if_neg h1]
  by_cases h4 : how = 4
  · subst h4
    rw [if_pos rfl]
    by_cases h8' : s ≥ 8
    · have d8 : decide (s ≥ 8) = true := decide_eq_true h8'
      rw [show failT s = decide (s ≤ 11) by unfold failT; rw [decide_eq_decide]; omega]
      clear h8'
      (go_enter Tryd.func27, Tryd.ntmps27; go_wp2; go_ret; exact ⟨by first | rfl | (simp; done), KB.out⟩)
    · have d8 : decide (s ≥ 8) = false := decide_eq_false h8'
      rw [show failT s = false by unfold failT; exact decide_eq_false (by omega)]
      clear h8'
      (go_enter Tryd.func27, Tryd.ntmps27; go_wp2; go_ret; exact ⟨by first | rfl | (simp; done), KB.out⟩)
  rw [if_neg h4]
  by_cases h5 : how = 5
  · subst h5
    rw [if_pos rfl, show decide (s = 12) = (s == 12) by rw [Bool.eq_iff_iff]; simp]
    (go_enter Tryd.func27, Tryd.ntmps27; go_wp2; go_ret; exact ⟨by first | rfl | (simp; done), KB.out⟩)
  rw [if_neg h5]
  have c7 : (how == 7) = false := by simpa using h7
  have c8 : (how == 8) = false := by simpa using h8
  have c6 : (how == 6) = false := by simpa using h6
  have c1 : (how == 1) = false := by simpa using h1
  have c4 : (how == 4) = false := by simpa using h4
  have c5 : (how == 5) = false := by simpa using h5
  clear h7 h8 h6 h1 h4 h5
  (go_enter Tryd.func27, Tryd.ntmps27; go_wp2; go_ret; exact ⟨by first | rfl | (simp; done), KB.out⟩)
end Go.Proofs.YtghjnhdepeiloaaDoor

namespace Go.Proofs.YtghjnhdepeiloaaDoor
open Go.RowKit Go.ChangeShapes Go.WideShapes
variable {w0 w w' W w3 : World} {gm sb : Nat} {m : PairM} {v v' : Value}
theorem rpDl_any (H : Rp w0 gm sb m v w) (hm : Pok m) (ii : Int) (cp : Bool) : Calls Tryd.prog 45 #[.pointer (some ⟨gm, 0, none⟩), .int .i64 ii, .bool cp] w fun r w' => r = .returned (.tuple #[.agg (effV (m.deliver ii cp).1.2), .int .i64 (m.deliver ii cp).1.1]) ∧ ∃ v', Rp w0 gm sb (m.deliver ii cp).2 v' w' ∧ Asd (Orf gm sb v) (Orf gm sb v') w w' := by
  have hl := hm.2
  unfold PairM.deliver
  by_cases hi : ii < 0 ∨ (m.f.length : Int) ≤ ii
  · rw [if_pos hi]
    exact (rpDl_range H ii cp (by omega)).mono fun r w' ⟨q1, q2⟩ => ⟨q1, v, H.kp q2, Asd.of_kp _ q2⟩
  rw [if_neg hi]
  by_cases hc : cp = true ∧ 63 < m.f.length
  · rw [if_pos hc]
    obtain ⟨rfl, h63⟩ := hc
    exact (rpDl_full H ii (by omega) h63).mono fun r w' ⟨q1, q2⟩ => ⟨q1, v, H.kp q2, Asd.of_kp _ q2⟩
  rw [if_neg hc]
  have hlt : ii.toNat < m.f.length := by omega
  rw [fly_get hlt]
  obtain ⟨h1, h2, h3⟩ := pok_fly hm hlt
  obtain ⟨⟨to, k⟩, hq⟩ : ∃ q, m.f[ii.toNat] = q := ⟨_, rfl⟩
  rw [hq] at h1 h2 h3 ⊢
  dsimp only at h1 h2 h3 ⊢
  rw [if_neg (by simpa using h2)]
  obtain ⟨⟨n, ⟨⟨a0, a1, a2, a3⟩, b1, b2, b3, b4⟩⟩, hy⟩ : ∃ y, SeatM.tell (m.seat to) k = y := ⟨_, rfl⟩
  rw [hy] at h2 ⊢
  dsimp only at h2 ⊢
  subst h2
  cases cp with
  | true =>
    rw [if_pos rfl]
    have hl' : m.f.length ≤ 63 := by simpa using hc
    rcases h1 with rfl | rfl
    · exact rpDl_true1 H hl' ii.toNat ii (by omega) hlt k hq a0 a1 a2 a3 b1 b2 b3 b4 hy
    · exact rpDl_true2 H hl' ii.toNat ii (by omega) hlt k hq a0 a1 a2 a3 b1 b2 b3 b4 hy
  | false =>
    rw [if_neg (by decide)]
    rcases h1 with rfl | rfl
    · exact rpDl_false1 H hl ii.toNat ii (by omega) hlt k hq a0 a1 a2 a3 b1 b2 b3 b4 hy
    · exact rpDl_false2 H hl ii.toNat ii (by omega) hlt k hq a0 a1 a2 a3 b1 b2 b3 b4 hy
end Go.Proofs.YtghjnhdepeiloaaDoor

namespace Go.Proofs.YtghjnhdepeiloaaDoor
open Go.RowKit Go.ChangeShapes Go.WideShapes

theorem tell_numP (z : SeatM) (k : Int) : 0 ≤ (z.tell k).1 ∧ (z.tell k).1 ≤ 14 := by
  unfold SeatM.tell
  split
  · exact ⟨by decide, by decide⟩
  · split
    · exact ⟨Int.le_refl _, by show (0 : Int) ≤ 14; decide⟩
    · exact ⟨Int.le_refl _, by show (0 : Int) ≤ 14; decide⟩
theorem step_numP (p e k s : Int) : 0 ≤ (stepT p e k s).1 ∧ (stepT p e k s).1 ≤ 14 := by
  unfold stepT
  repeat' split
  all_goals (dsimp only; omega)
theorem act_numP (z : SeatM) (k : Int) : 0 ≤ (z.act k).1 ∧ (z.act k).1 ≤ 14 := by
  unfold SeatM.act
  split
  · exact ⟨by decide, by decide⟩
  · split
    · exact step_numP _ _ _ _
    · exact ⟨Int.le_refl _, by show (0 : Int) ≤ 14; decide⟩
theorem pact_num (m : PairM) (e k : Int) : 0 ≤ (m.act e k).1 ∧ (m.act e k).1 ≤ 14 := by
  unfold PairM.act
  split
  · exact ⟨by dsimp only; omega, by dsimp only; omega⟩
  · split
    · exact ⟨by dsimp only; omega, by dsimp only; omega⟩
    · split
      · exact act_numP _ _
      · exact ⟨Int.le_refl _, by show (0 : Int) ≤ 14; decide⟩
theorem pdel_num (m : PairM) (i : Int) (c : Bool) : 0 ≤ (m.deliver i c).1.1 ∧ (m.deliver i c).1.1 ≤ 14 := by
  unfold PairM.deliver
  split
  · exact ⟨by dsimp only; omega, by dsimp only; omega⟩
  · split
    · exact ⟨by dsimp only; omega, by dsimp only; omega⟩
    · split
      · exact tell_numP _ _
      · exact ⟨Int.le_refl _, by show (0 : Int) ≤ 14; decide⟩
theorem pdrop_num (m : PairM) (i : Int) : 0 ≤ (m.drop i).1 ∧ (m.drop i).1 ≤ 14 := by
  unfold PairM.drop
  split
  · exact ⟨by dsimp only; omega, by dsimp only; omega⟩
  · exact ⟨Int.le_refl _, by show (0 : Int) ≤ 14; decide⟩
theorem pok_e {m : PairM} (h : Pok m) : m.c.e = 1 ∧ m.x.e = 2 := by
  obtain ⟨⟨p, r, hp, R⟩, _⟩ := h
  have h1 := seat_e R (e := 1) (.inl rfl)
  have h2 := seat_e R (e := 2) (.inr rfl)
  have g1 : m.seat 1 = m.c := rfl
  have g2 : m.seat 2 = m.x := rfl
  rw [g1] at h1
  rw [g2] at h2
  rw [h1, h2]
  exact ⟨rfl, rfl⟩
variable {ads : List Addr} {J : Nat → PairM → (Nat → Prop) → World → Prop} {w0 B w w1 w2 : World} {O1 O2 : Nat → Prop} {g gm sb : Nat} {m : PairM} {v : Value}
/-- behind a call that changes only blocks that are let alone -/
theorem At.asd (C : MovC ads w0 J) (h : At J w0 B O1 g m w1) (ha : Asd O1 O2 w1 w2) (hFB : ∀ b, O1 b → B.heap.size ≤ b) (hlt : ∀ b, O2 b → b < w2.heap.size) : At J w0 B O2 g m w2 := by
  obtain ⟨O, hj, hO, hb, hB, hF, hp⟩ := h
  refine ⟨O, C.stay hj ha.size (fun b hb => ha.block b (C.mem hj b hb).2 (fun q => (hF b q).1 hb)), hO, hb, ha.kp hB hFB, fun b q => ⟨fun q2 => ?_, hlt b q⟩, hp⟩
  rcases ha.own b q with q3 | q3
  · exact (hF b q3).1 q2
  · exact absurd (C.mem hj b q2).2 (by omega)
set_option maxRecDepth 100000 in
set_option maxHeartbeats 2000000 in
theorem step_1 (C : MovC ads w0 J) (V : St ads w0) (h : At J w0 w0 (Orf gm sb v) g m w) (R : Rp w0 gm sb m v w) (e k i : Int) (c : Bool) (ie : i64M e) (ik : i64M k) : Calls Tryd.prog 23 #[.pointer (some ⟨g, 0, none⟩), .pointer (some ⟨gm, 0, none⟩), .agg #[.int .i64 1, .int .i64 e, .int .i64 k, .int .i64 i, .bool c]] w fun r w' => r = .returned (.bool true) ∧ ∃ v', At J w0 w0 (Orf gm sb v') g (m.act e k).2 w' ∧ Rp w0 gm sb (m.act e k).2 v' w' := by
  have k1 := kp_alloc w (.cells #[.int .i64 1, .int .i64 e, .int .i64 k, .int .i64 i, .bool c] 47)
  have r1 := (MapKept.heap_alloc w (.cells #[.int .i64 1, .int .i64 e, .int .i64 k, .int .i64 i, .bool c] 47)).1
  have HPK := Lib.hid h.pok
  have HCC := Lib.hid C
  have HNQ := Lib.hid (fun (q : Orf gm sb v w.heap.size) => Nat.lt_irrefl _ (R.mem _ q).2)
  have HOB := Lib.hid (fun b (q : Orf gm sb v b) => (R.mem b q).1)
  have kx : Kp w (w.alloc (.cells #[.int .i64 1, .int .i64 e, .int .i64 k, .int .i64 i, .bool c] 47)).drew := kp_drewM k1
  obtain ⟨X, hX⟩ : ∃ X, (w.alloc (.cells #[.int .i64 1, .int .i64 e, .int .i64 k, .int .i64 i, .bool c] 47)).drew = X := ⟨_, rfl⟩
  have a1 := (h.more C (.cells #[.int .i64 1, .int .i64 e, .int .i64 k, .int .i64 i, .bool c] 47)).kp C (kp_drewM (Kp.refl _))
  have tx := kp_row (kp_drewM (Kp.refl _)) r1
  rw [hX] at kx a1 tx
  have TX := Lib.hid tx
  have RX := Lib.hid (R.kp kx)
  have HT1 := Lib.hid r1
  have HXW := Lib.hid hX
  have hd := at_do C a1 e k ie ik
  have hr := fun w1 (H1 : Rp w0 gm sb m v w1) => rpDo_any H1 HPK.out.2 e k
  have hb := pact_num m e k
  obtain ⟨⟨n1, m'⟩, hy⟩ : ∃ y, m.act e k = y := ⟨_, rfl⟩
  rw [hy] at hd hr hb ⊢
  dsimp only at hd hr hb ⊢
  have hn := fun w1 (hk : Kp w0 w1) => num_errN ads w1 (V.below hk) n1 hb.1 hb.2
  obtain ⟨d1, hd1⟩ : ∃ d, errI ads n1 = d := ⟨_, rfl⟩
  rw [hd1] at hn hd
  have HN := Lib.hid hn
  have HD := Lib.hid hd
  have HR := Lib.hid hr
  obtain ⟨x0, x1, x2, x3, x4⟩ := cells_5 r1
  clear k1 kx a1 tx hX hd hr hy h R C V r1 hb hn hd1
  go_enter Tryd.func23, Tryd.ntmps23
  go_wp2_with fail
  refine wp_region_held_drew (S := fun w' => w'.heap[w.heap.size]? = some (.cells #[.int .i64 1, .int .i64 e, .int .i64 k, .int .i64 i, .bool c] 47)) (by kernel_rfl) ?_ (fun hHeld => ?_)
  · exact kp_row (kp_drewM (Kp.refl _)) HT1.out
  rw [HXW.out]
  refine wpAnyH_take (i := 0) (v := ?_) rfl (by kernel_rfl) (by kernel_rfl) (by kernel_rfl) (fun _ _ _ h => h) (Or.inl ⟨by rfl, ?_⟩) (by assumption) ?_
  rotate_left
  · intro w hSw; obtain ⟨q0, q1, q2, q3, q4⟩ := cells_5 hSw; go_simp; try with_reducible rfl
  go_simp
  refine wpAnyH_take (i := 1) (v := ?_) rfl (by kernel_rfl) (by kernel_rfl) (by kernel_rfl) (fun _ _ _ h => h) (Or.inl ⟨by rfl, ?_⟩) (by assumption) ?_
  rotate_left
  · intro w hSw; obtain ⟨q0, q1, q2, q3, q4⟩ := cells_5 hSw; go_simp; try with_reducible rfl
  go_simp
  refine wpAnyH_take (i := 2) (v := ?_) rfl (by kernel_rfl) (by kernel_rfl) (by kernel_rfl) (fun _ _ _ h => h) (Or.inl ⟨by rfl, ?_⟩) (by assumption) ?_
  rotate_left
  · intro w hSw; obtain ⟨q0, q1, q2, q3, q4⟩ := cells_5 hSw; go_simp; try with_reducible rfl
  go_simp
  refine wpAnyH_take (i := 3) (v := ?_) rfl (by kernel_rfl) (by kernel_rfl) (by kernel_rfl) (fun _ _ _ h => h) (Or.inl ⟨by rfl, ?_⟩) (by assumption) ?_
  rotate_left
  · intro w hSw; obtain ⟨q0, q1, q2, q3, q4⟩ := cells_5 hSw; go_simp; try with_reducible rfl
  go_simp
  refine wpAnyH_take (i := 4) (v := ?_) rfl (by kernel_rfl) (by kernel_rfl) (by kernel_rfl) (fun _ _ _ h => h) (Or.inl ⟨by rfl, ?_⟩) (by assumption) ?_
  rotate_left
  · intro w hSw; obtain ⟨q0, q1, q2, q3, q4⟩ := cells_5 hSw; go_simp; try with_reducible rfl
  go_simp
  refine wpAnyH_take (i := 7) (v := ?_) rfl (by kernel_rfl) (by kernel_rfl) (by kernel_rfl) (fun _ _ _ h => h) (Or.inl ⟨by rfl, ?_⟩) (by assumption) ?_
  rotate_left
  · intro w hSw; obtain ⟨q0, q1, q2, q3, q4⟩ := cells_5 hSw; go_simp; try with_reducible rfl
  go_simp
  refine wpAnyH_take (i := 8) (v := ?_) rfl (by kernel_rfl) (by kernel_rfl) (by kernel_rfl) (fun _ _ _ h => h) (Or.inl ⟨by rfl, ?_⟩) (by assumption) ?_
  rotate_left
  · intro w hSw; obtain ⟨q0, q1, q2, q3, q4⟩ := cells_5 hSw; go_simp; try with_reducible rfl
  go_simp
  refine wpAnyH_take (i := 9) (v := ?_) rfl (by kernel_rfl) (by kernel_rfl) (by kernel_rfl) (fun _ _ _ h => h) (Or.inl ⟨by rfl, ?_⟩) (by assumption) ?_
  rotate_left
  · intro w hSw; obtain ⟨q0, q1, q2, q3, q4⟩ := cells_5 hSw; go_simp; try with_reducible rfl
  go_simp
  refine wpAnyH_take (i := 10) (v := ?_) rfl (by kernel_rfl) (by kernel_rfl) (by kernel_rfl) (fun _ _ _ h => h) (Or.inl ⟨by rfl, ?_⟩) (by assumption) ?_
  rotate_left
  · intro w hSw; obtain ⟨q0, q1, q2, q3, q4⟩ := cells_5 hSw; go_simp; try with_reducible rfl
  go_simp
  refine wpAnyH_take (i := 11) (v := ?_) rfl (by kernel_rfl) (by kernel_rfl) (by kernel_rfl) (fun _ _ _ h => h) (Or.inl ⟨by rfl, ?_⟩) (by assumption) ?_
  rotate_left
  · intro w hSw; obtain ⟨q0, q1, q2, q3, q4⟩ := cells_5 hSw; go_simp; try with_reducible rfl
  go_simp
  refine wpAnyH_ready (rs := [5]) (by kernel_rfl) (by simp) ?_
  refine AllReadyH.cons rfl (fun K hK => ?_) AllReadyH.nil
  go_simp
  go_wp2_with (go_at_call 29; (with_reducible refine HD.out.mono ?_); rintro e' w4 ⟨rfl, ha, hf⟩; have A4 := Lib.hid (ha.less fun b q => .inl q); have T4 := Lib.hid ((hf _ (.inr rfl)).trans TX.out); have R4 := Lib.hid (RX.out.stay (fun b q => hf b (.inl q))); clear ha hf)
  refine hK.out _ _ ?_ (fun hHeld => ?_)
  · exact T4.out
  clear hK K
  refine wpAnyH_ready (rs := [6]) (by kernel_rfl) (by simp) ?_
  refine AllReadyH.cons rfl (fun K hK => ?_) AllReadyH.nil
  go_simp
  go_wp2_with (go_at_call 15; (with_reducible refine (HN.out _ A4.out.base).mono ?_); rintro e' w5 ⟨rfl, hk⟩; have A5 := Lib.hid (A4.out.kp HCC.out hk); have T5 := Lib.hid (kp_row hk T4.out); have R5 := Lib.hid (R4.out.kp hk); clear hk)
  refine hK.out _ _ ?_ (fun hHeld => ?_)
  · exact T5.out
  clear hK K
  refine wpAnyH_ready (rs := [12]) (by kernel_rfl) (by simp) ?_
  refine AllReadyH.cons rfl (fun K hK => ?_) AllReadyH.nil
  go_simp
  go_wp2_with (go_at_call 43; (with_reducible refine (HR.out _ R5.out).mono ?_); rintro e' w6 ⟨rfl, v', hp, ha⟩; have R6 := Lib.hid hp; have A6 := Lib.hid (A5.out.asd HCC.out ha HOB.out (fun b q => (hp.mem b q).2)); have T6 := Lib.hid (ha.row T5.out HNQ.out); clear hp ha)
  refine hK.out _ _ ?_ (fun hHeld => ?_)
  · exact T6.out
  clear hK K
  refine wpAnyH_take (i := 13) (v := ?_) rfl (by kernel_rfl) (by kernel_rfl) (by kernel_rfl) (fun _ _ _ h => h) (Or.inl ⟨by rfl, ?_⟩) (by assumption) ?_
  rotate_left
  · intro w hSw; go_simp; try with_reducible rfl
  go_simp
  refine wpAnyH_take (i := 14) (v := ?_) rfl (by kernel_rfl) (by kernel_rfl) (by kernel_rfl) (fun _ _ _ h => h) (Or.inl ⟨by rfl, ?_⟩) (by assumption) ?_
  rotate_left
  · intro w hSw; go_simp; try with_reducible rfl
  go_simp
  refine wpAnyH_done (by kernel_rfl) ?_ _
  go_wp2
  go_ret
  exact ⟨by first | rfl | simp | (congr 1; simp), _, A6.out, R6.out⟩
set_option maxRecDepth 100000 in
set_option maxHeartbeats 2000000 in
theorem step_2 (C : MovC ads w0 J) (h : At J w0 w0 (Orf gm sb v) g m w) (R : Rp w0 gm sb m v w) (e k i : Int) (c : Bool) (ie : i64M e) : Calls Tryd.prog 23 #[.pointer (some ⟨g, 0, none⟩), .pointer (some ⟨gm, 0, none⟩), .agg #[.int .i64 2, .int .i64 e, .int .i64 k, .int .i64 i, .bool c]] w fun r w' => r = .returned (.bool true) ∧ ∃ v', At J w0 w0 (Orf gm sb v') g (m.again e).2 w' ∧ Rp w0 gm sb (m.again e).2 v' w' := by
  have k1 := kp_alloc w (.cells #[.int .i64 2, .int .i64 e, .int .i64 k, .int .i64 i, .bool c] 47)
  have r1 := (MapKept.heap_alloc w (.cells #[.int .i64 2, .int .i64 e, .int .i64 k, .int .i64 i, .bool c] 47)).1
  have HPK := Lib.hid h.pok
  have HCC := Lib.hid C
  have HNQ := Lib.hid (fun (q : Orf gm sb v w.heap.size) => Nat.lt_irrefl _ (R.mem _ q).2)
  have HOB := Lib.hid (fun b (q : Orf gm sb v b) => (R.mem b q).1)
  have kx : Kp w (w.alloc (.cells #[.int .i64 2, .int .i64 e, .int .i64 k, .int .i64 i, .bool c] 47)).drew := kp_drewM k1
  obtain ⟨X, hX⟩ : ∃ X, (w.alloc (.cells #[.int .i64 2, .int .i64 e, .int .i64 k, .int .i64 i, .bool c] 47)).drew = X := ⟨_, rfl⟩
  have a1 := (h.more C (.cells #[.int .i64 2, .int .i64 e, .int .i64 k, .int .i64 i, .bool c] 47)).kp C (kp_drewM (Kp.refl _))
  have tx := kp_row (kp_drewM (Kp.refl _)) r1
  rw [hX] at kx a1 tx
  have TX := Lib.hid tx
  have RX := Lib.hid (R.kp kx)
  have HT1 := Lib.hid r1
  have HXW := Lib.hid hX
  have hd := at_again C a1 e ie
  have hr := fun w1 (H1 : Rp w0 gm sb m v w1) => rpAgain_any H1 (pok_e HPK.out).1 (pok_e HPK.out).2 e
  obtain ⟨⟨n1, m'⟩, hy⟩ : ∃ y, m.again e = y := ⟨_, rfl⟩
  rw [hy] at hd hr ⊢
  dsimp only at hd hr ⊢
  have HD := Lib.hid hd
  have HR := Lib.hid hr
  obtain ⟨x0, x1, x2, x3, x4⟩ := cells_5 r1
  clear k1 kx a1 tx hX hd hr hy h R C r1
  go_enter Tryd.func23, Tryd.ntmps23
  go_wp2_with fail
  refine wp_region_held_drew (S := fun w' => w'.heap[w.heap.size]? = some (.cells #[.int .i64 2, .int .i64 e, .int .i64 k, .int .i64 i, .bool c] 47)) (by kernel_rfl) ?_ (fun hHeld => ?_)
  · exact kp_row (kp_drewM (Kp.refl _)) HT1.out
  rw [HXW.out]
  refine wpAnyH_take (i := 0) (v := ?_) rfl (by kernel_rfl) (by kernel_rfl) (by kernel_rfl) (fun _ _ _ h => h) (Or.inl ⟨by rfl, ?_⟩) (by assumption) ?_
  rotate_left
  · intro w hSw; obtain ⟨q0, q1, q2, q3, q4⟩ := cells_5 hSw; go_simp; try with_reducible rfl
  go_simp
  refine wpAnyH_take (i := 1) (v := ?_) rfl (by kernel_rfl) (by kernel_rfl) (by kernel_rfl) (fun _ _ _ h => h) (Or.inl ⟨by rfl, ?_⟩) (by assumption) ?_
  rotate_left
  · intro w hSw; obtain ⟨q0, q1, q2, q3, q4⟩ := cells_5 hSw; go_simp; try with_reducible rfl
  go_simp
  refine wpAnyH_take (i := 2) (v := ?_) rfl (by kernel_rfl) (by kernel_rfl) (by kernel_rfl) (fun _ _ _ h => h) (Or.inl ⟨by rfl, ?_⟩) (by assumption) ?_
  rotate_left
  · intro w hSw; obtain ⟨q0, q1, q2, q3, q4⟩ := cells_5 hSw; go_simp; try with_reducible rfl
  go_simp
  refine wpAnyH_take (i := 4) (v := ?_) rfl (by kernel_rfl) (by kernel_rfl) (by kernel_rfl) (fun _ _ _ h => h) (Or.inl ⟨by rfl, ?_⟩) (by assumption) ?_
  rotate_left
  · intro w hSw; obtain ⟨q0, q1, q2, q3, q4⟩ := cells_5 hSw; go_simp; try with_reducible rfl
  go_simp
  refine wpAnyH_take (i := 5) (v := ?_) rfl (by kernel_rfl) (by kernel_rfl) (by kernel_rfl) (fun _ _ _ h => h) (Or.inl ⟨by rfl, ?_⟩) (by assumption) ?_
  rotate_left
  · intro w hSw; obtain ⟨q0, q1, q2, q3, q4⟩ := cells_5 hSw; go_simp; try with_reducible rfl
  go_simp
  refine wpAnyH_take (i := 6) (v := ?_) rfl (by kernel_rfl) (by kernel_rfl) (by kernel_rfl) (fun _ _ _ h => h) (Or.inl ⟨by rfl, ?_⟩) (by assumption) ?_
  rotate_left
  · intro w hSw; obtain ⟨q0, q1, q2, q3, q4⟩ := cells_5 hSw; go_simp; try with_reducible rfl
  go_simp
  refine wpAnyH_ready (rs := [3]) (by kernel_rfl) (by simp) ?_
  refine AllReadyH.cons rfl (fun K hK => ?_) AllReadyH.nil
  go_simp
  go_wp2_with (go_at_call 30; (with_reducible refine HD.out.mono ?_); rintro e' w4 ⟨rfl, ha, hf⟩; have A4 := Lib.hid (ha.less fun b q => .inl q); have T4 := Lib.hid ((hf _ (.inr rfl)).trans TX.out); have R4 := Lib.hid (RX.out.stay (fun b q => hf b (.inl q))); clear ha hf)
  refine hK.out _ _ ?_ (fun hHeld => ?_)
  · exact T4.out
  clear hK K
  refine wpAnyH_ready (rs := [7]) (by kernel_rfl) (by simp) ?_
  refine AllReadyH.cons rfl (fun K hK => ?_) AllReadyH.nil
  go_simp
  go_wp2_with (go_at_call 44; (with_reducible refine (HR.out _ R4.out).mono ?_); rintro e' w6 ⟨rfl, v', hp, ha⟩; have R6 := Lib.hid hp; have A6 := Lib.hid (A4.out.asd HCC.out ha HOB.out (fun b q => (hp.mem b q).2)); have T6 := Lib.hid (ha.row T4.out HNQ.out); clear hp ha)
  refine hK.out _ _ ?_ (fun hHeld => ?_)
  · exact T6.out
  clear hK K
  refine wpAnyH_take (i := 8) (v := ?_) rfl (by kernel_rfl) (by kernel_rfl) (by kernel_rfl) (fun _ _ _ h => h) (Or.inl ⟨by rfl, ?_⟩) (by assumption) ?_
  rotate_left
  · intro w hSw; go_simp; try with_reducible rfl
  go_simp
  refine wpAnyH_take (i := 9) (v := ?_) rfl (by kernel_rfl) (by kernel_rfl) (by kernel_rfl) (fun _ _ _ h => h) (Or.inl ⟨by rfl, ?_⟩) (by assumption) ?_
  rotate_left
  · intro w hSw; go_simp; try with_reducible rfl
  go_simp
  refine wpAnyH_done (by kernel_rfl) ?_ _
  go_wp2
  go_ret
  exact ⟨by first | rfl | simp | (congr 1; simp), _, A6.out, R6.out⟩
set_option maxRecDepth 100000 in
set_option maxHeartbeats 2000000 in
theorem step_4 (C : MovC ads w0 J) (V : St ads w0) (h : At J w0 w0 (Orf gm sb v) g m w) (R : Rp w0 gm sb m v w) (e k i : Int) (c : Bool) (ii : i64M i) : Calls Tryd.prog 23 #[.pointer (some ⟨g, 0, none⟩), .pointer (some ⟨gm, 0, none⟩), .agg #[.int .i64 4, .int .i64 e, .int .i64 k, .int .i64 i, .bool c]] w fun r w' => r = .returned (.bool true) ∧ ∃ v', At J w0 w0 (Orf gm sb v') g (m.drop i).2 w' ∧ Rp w0 gm sb (m.drop i).2 v' w' := by
  have k1 := kp_alloc w (.cells #[.int .i64 4, .int .i64 e, .int .i64 k, .int .i64 i, .bool c] 47)
  have r1 := (MapKept.heap_alloc w (.cells #[.int .i64 4, .int .i64 e, .int .i64 k, .int .i64 i, .bool c] 47)).1
  have HPK := Lib.hid h.pok
  have HCC := Lib.hid C
  have HNQ := Lib.hid (fun (q : Orf gm sb v w.heap.size) => Nat.lt_irrefl _ (R.mem _ q).2)
  have HOB := Lib.hid (fun b (q : Orf gm sb v b) => (R.mem b q).1)
  have kx : Kp w (w.alloc (.cells #[.int .i64 4, .int .i64 e, .int .i64 k, .int .i64 i, .bool c] 47)).drew := kp_drewM k1
  obtain ⟨X, hX⟩ : ∃ X, (w.alloc (.cells #[.int .i64 4, .int .i64 e, .int .i64 k, .int .i64 i, .bool c] 47)).drew = X := ⟨_, rfl⟩
  have a1 := (h.more C (.cells #[.int .i64 4, .int .i64 e, .int .i64 k, .int .i64 i, .bool c] 47)).kp C (kp_drewM (Kp.refl _))
  have tx := kp_row (kp_drewM (Kp.refl _)) r1
  rw [hX] at kx a1 tx
  have TX := Lib.hid tx
  have RX := Lib.hid (R.kp kx)
  have HT1 := Lib.hid r1
  have HXW := Lib.hid hX
  have hd := at_drop C a1 i ii
  have hr := fun w1 (H1 : Rp w0 gm sb m v w1) => rpDrop_any H1 HPK.out.2 i
  have hb := pdrop_num m i
  obtain ⟨⟨n1, m'⟩, hy⟩ : ∃ y, m.drop i = y := ⟨_, rfl⟩
  rw [hy] at hd hr hb ⊢
  dsimp only at hd hr hb ⊢
  have hn := fun w1 (hk : Kp w0 w1) => num_errN ads w1 (V.below hk) n1 hb.1 hb.2
  obtain ⟨d1, hd1⟩ : ∃ d, errI ads n1 = d := ⟨_, rfl⟩
  rw [hd1] at hn hd
  have HN := Lib.hid hn
  have HD := Lib.hid hd
  have HR := Lib.hid hr
  obtain ⟨x0, x1, x2, x3, x4⟩ := cells_5 r1
  clear k1 kx a1 tx hX hd hr hy h R C V r1 hb hn hd1
  go_enter Tryd.func23, Tryd.ntmps23
  go_wp2_with fail
  refine wp_region_held_drew (S := fun w' => w'.heap[w.heap.size]? = some (.cells #[.int .i64 4, .int .i64 e, .int .i64 k, .int .i64 i, .bool c] 47)) (by kernel_rfl) ?_ (fun hHeld => ?_)
  · exact kp_row (kp_drewM (Kp.refl _)) HT1.out
  rw [HXW.out]
  refine wpAnyH_take (i := 0) (v := ?_) rfl (by kernel_rfl) (by kernel_rfl) (by kernel_rfl) (fun _ _ _ h => h) (Or.inl ⟨by rfl, ?_⟩) (by assumption) ?_
  rotate_left
  · intro w hSw; obtain ⟨q0, q1, q2, q3, q4⟩ := cells_5 hSw; go_simp; try with_reducible rfl
  go_simp
  refine wpAnyH_take (i := 1) (v := ?_) rfl (by kernel_rfl) (by kernel_rfl) (by kernel_rfl) (fun _ _ _ h => h) (Or.inl ⟨by rfl, ?_⟩) (by assumption) ?_
  rotate_left
  · intro w hSw; obtain ⟨q0, q1, q2, q3, q4⟩ := cells_5 hSw; go_simp; try with_reducible rfl
  go_simp
  refine wpAnyH_take (i := 2) (v := ?_) rfl (by kernel_rfl) (by kernel_rfl) (by kernel_rfl) (fun _ _ _ h => h) (Or.inl ⟨by rfl, ?_⟩) (by assumption) ?_
  rotate_left
  · intro w hSw; obtain ⟨q0, q1, q2, q3, q4⟩ := cells_5 hSw; go_simp; try with_reducible rfl
  go_simp
  refine wpAnyH_take (i := 5) (v := ?_) rfl (by kernel_rfl) (by kernel_rfl) (by kernel_rfl) (fun _ _ _ h => h) (Or.inl ⟨by rfl, ?_⟩) (by assumption) ?_
  rotate_left
  · intro w hSw; obtain ⟨q0, q1, q2, q3, q4⟩ := cells_5 hSw; go_simp; try with_reducible rfl
  go_simp
  refine wpAnyH_take (i := 6) (v := ?_) rfl (by kernel_rfl) (by kernel_rfl) (by kernel_rfl) (fun _ _ _ h => h) (Or.inl ⟨by rfl, ?_⟩) (by assumption) ?_
  rotate_left
  · intro w hSw; obtain ⟨q0, q1, q2, q3, q4⟩ := cells_5 hSw; go_simp; try with_reducible rfl
  go_simp
  refine wpAnyH_take (i := 7) (v := ?_) rfl (by kernel_rfl) (by kernel_rfl) (by kernel_rfl) (fun _ _ _ h => h) (Or.inl ⟨by rfl, ?_⟩) (by assumption) ?_
  rotate_left
  · intro w hSw; obtain ⟨q0, q1, q2, q3, q4⟩ := cells_5 hSw; go_simp; try with_reducible rfl
  go_simp
  refine wpAnyH_ready (rs := [3]) (by kernel_rfl) (by simp) ?_
  refine AllReadyH.cons rfl (fun K hK => ?_) AllReadyH.nil
  go_simp
  go_wp2_with (go_at_call 46; (with_reducible refine HD.out.mono ?_); rintro e' w4 ⟨rfl, ha, hf⟩; have A4 := Lib.hid (ha.less fun b q => .inl q); have T4 := Lib.hid ((hf _ (.inr rfl)).trans TX.out); have R4 := Lib.hid (RX.out.stay (fun b q => hf b (.inl q))); clear ha hf)
  refine hK.out _ _ ?_ (fun hHeld => ?_)
  · exact T4.out
  clear hK K
  refine wpAnyH_ready (rs := [4]) (by kernel_rfl) (by simp) ?_
  refine AllReadyH.cons rfl (fun K hK => ?_) AllReadyH.nil
  go_simp
  go_wp2_with (go_at_call 15; (with_reducible refine (HN.out _ A4.out.base).mono ?_); rintro e' w5 ⟨rfl, hk⟩; have A5 := Lib.hid (A4.out.kp HCC.out hk); have T5 := Lib.hid (kp_row hk T4.out); have R5 := Lib.hid (R4.out.kp hk); clear hk)
  refine hK.out _ _ ?_ (fun hHeld => ?_)
  · exact T5.out
  clear hK K
  refine wpAnyH_ready (rs := [8]) (by kernel_rfl) (by simp) ?_
  refine AllReadyH.cons rfl (fun K hK => ?_) AllReadyH.nil
  go_simp
  go_wp2_with (go_at_call 47; (with_reducible refine (HR.out _ R5.out).mono ?_); rintro e' w6 ⟨rfl, v', hp, ha⟩; have R6 := Lib.hid hp; have A6 := Lib.hid (A5.out.asd HCC.out ha HOB.out (fun b q => (hp.mem b q).2)); have T6 := Lib.hid (ha.row T5.out HNQ.out); clear hp ha)
  refine hK.out _ _ ?_ (fun hHeld => ?_)
  · exact T6.out
  clear hK K
  refine wpAnyH_take (i := 9) (v := ?_) rfl (by kernel_rfl) (by kernel_rfl) (by kernel_rfl) (fun _ _ _ h => h) (Or.inl ⟨by rfl, ?_⟩) (by assumption) ?_
  rotate_left
  · intro w hSw; go_simp; try with_reducible rfl
  go_simp
  refine wpAnyH_take (i := 10) (v := ?_) rfl (by kernel_rfl) (by kernel_rfl) (by kernel_rfl) (fun _ _ _ h => h) (Or.inl ⟨by rfl, ?_⟩) (by assumption) ?_
  rotate_left
  · intro w hSw; go_simp; try with_reducible rfl
  go_simp
  refine wpAnyH_done (by kernel_rfl) ?_ _
  go_wp2
  go_ret
  exact ⟨by first | rfl | simp | (congr 1; simp), _, A6.out, R6.out⟩
set_option maxRecDepth 100000 in
theorem step_no (C : MovC ads w0 J) (h : At J w0 w0 (Orf gm sb v) g m w) (R : Rp w0 gm sb m v w) (e k i : Int) (c : Bool) (a : Int) (h1 : (a == 1) = false) (h2 : (a == 2) = false) (h3 : (a == 3) = false) (h4 : (a == 4) = false) : Calls Tryd.prog 23 #[.pointer (some ⟨g, 0, none⟩), .pointer (some ⟨gm, 0, none⟩), .agg #[.int .i64 a, .int .i64 e, .int .i64 k, .int .i64 i, .bool c]] w fun r w' => r = .returned (.bool true) ∧ ∃ v', At J w0 w0 (Orf gm sb v') g m w' ∧ Rp w0 gm sb m v' w' := by
  have k1 := kp_alloc w (.cells #[.int .i64 a, .int .i64 e, .int .i64 k, .int .i64 i, .bool c] 47)
  have r1 := (MapKept.heap_alloc w (.cells #[.int .i64 a, .int .i64 e, .int .i64 k, .int .i64 i, .bool c] 47)).1
  have HPK := Lib.hid h.pok
  have HCC := Lib.hid C
  have HNQ := Lib.hid (fun (q : Orf gm sb v w.heap.size) => Nat.lt_irrefl _ (R.mem _ q).2)
  have HOB := Lib.hid (fun b (q : Orf gm sb v b) => (R.mem b q).1)
  have A1 := Lib.hid (h.kp C k1)
  have R1 := Lib.hid (R.kp k1)
  obtain ⟨x0, x1, x2, x3, x4⟩ := cells_5 r1
  clear k1 h R C r1
  go_enter Tryd.func23, Tryd.ntmps23
  go_wp2
  go_ret
  exact ⟨rfl, _, A1.out, R1.out⟩
set_option maxRecDepth 100000 in
set_option maxHeartbeats 2000000 in
theorem step_3 (C : MovC ads w0 J) (V : St ads w0) (h : At J w0 w0 (Orf gm sb v) g m w) (R : Rp w0 gm sb m v w) (e k i : Int) (c : Bool) (ii : i64M i) : Calls Tryd.prog 23 #[.pointer (some ⟨g, 0, none⟩), .pointer (some ⟨gm, 0, none⟩), .agg #[.int .i64 3, .int .i64 e, .int .i64 k, .int .i64 i, .bool c]] w fun r w' => r = .returned (.bool true) ∧ ∃ v', At J w0 w0 (Orf gm sb v') g (m.deliver i c).2 w' ∧ Rp w0 gm sb (m.deliver i c).2 v' w' := by
  have k1 := kp_alloc w (.cells #[.int .i64 3, .int .i64 e, .int .i64 k, .int .i64 i, .bool c] 47)
  have r1 := (MapKept.heap_alloc w (.cells #[.int .i64 3, .int .i64 e, .int .i64 k, .int .i64 i, .bool c] 47)).1
  have HPK := Lib.hid h.pok
  have HCC := Lib.hid C
  have HNQ := Lib.hid (fun (q : Orf gm sb v w.heap.size) => Nat.lt_irrefl _ (R.mem _ q).2)
  have HOB := Lib.hid (fun b (q : Orf gm sb v b) => (R.mem b q).1)
  have a1 := h.more C (.cells #[.int .i64 3, .int .i64 e, .int .i64 k, .int .i64 i, .bool c] 47)
  obtain ⟨X, hX⟩ : ∃ X, w.alloc (.cells #[.int .i64 3, .int .i64 e, .int .i64 k, .int .i64 i, .bool c] 47) = X := ⟨_, rfl⟩
  have HXW := Lib.hid hX
  have r1' := r1
  rw [hX] at k1 a1 r1'
  have TX := Lib.hid r1'
  have RX := Lib.hid (R.kp k1)
  have hd := at_deliver C a1 i c ii
  have hr := fun w1 (H1 : Rp w0 gm sb m v w1) => rpDl_any H1 HPK.out i c
  have hb := pdel_num m i c
  obtain ⟨⟨⟨n1, ⟨⟨a0, a1, a2, a3⟩, b1, b2, b3, b4⟩⟩, m'⟩, hy⟩ : ∃ y, m.deliver i c = y := ⟨_, rfl⟩
  rw [hy] at hd hr hb ⊢
  dsimp only [effV] at hd hr hb ⊢
  have hn := fun w1 (hk : Kp w0 w1) => num_errN ads w1 (V.below hk) n1 hb.1 hb.2
  obtain ⟨d1, hd1⟩ : ∃ d, errI ads n1 = d := ⟨_, rfl⟩
  rw [hd1] at hn hd
  have HN := Lib.hid hn
  have HD := Lib.hid hd
  have HR := Lib.hid hr
  have HSM := Lib.hid (fun w => same_t a0 a1 a2 a3 b1 b2 b3 b4 w)
  obtain ⟨x0, x1, x2, x3, x4⟩ := cells_5 r1
  clear k1 hX hd hr hy h R C V r1 r1' hb hn hd1
  go_enter Tryd.func23, Tryd.ntmps23
  go_wp2_with (first | (go_at_call 28; (try rw [HXW.out]); (with_reducible refine HD.out.mono ?_); rintro e' w4 ⟨rfl, ha, hf⟩; have hk4 := kp_alloc w4 (.cells #[.int .i64 a0, .int .i64 a1, .int .i64 a2, .int .i64 a3, .int .i64 b1, .int .i64 b2, .int .i64 b3, .bool b4] 27); have r4 := RX.out.stay (fun b q => hf b (.inl q)); have t4 := (hf _ (.inr rfl)).trans TX.out; have A4 := Lib.hid ((ha.less fun b q => .inl q).kp HCC.out hk4); have T4 := Lib.hid (kp_row hk4 t4); have R4 := Lib.hid (r4.kp hk4); have N4 := Lib.hid (fun (q : Orf gm sb v w4.heap.size) => Nat.lt_irrefl _ (r4.mem _ q).2); have B4 := Lib.hid (MapKept.heap_alloc w4 (.cells #[.int .i64 a0, .int .i64 a1, .int .i64 a2, .int .i64 a3, .int .i64 b1, .int .i64 b2, .int .i64 b3, .bool b4] 27)).1; obtain ⟨y0, y1, y2, y3, y4⟩ := cells_5 T4.out; clear ha hf hk4 r4 t4) | (go_at_call 45; (with_reducible refine (HR.out _ R4.out).mono ?_); rintro e' w6 ⟨rfl, v', hp, ha⟩; have hk6 := kp_alloc w6 (.cells #[.int .i64 a0, .int .i64 a1, .int .i64 a2, .int .i64 a3, .int .i64 b1, .int .i64 b2, .int .i64 b3, .bool b4] 33); have R6 := Lib.hid (hp.kp hk6); have A6 := Lib.hid ((A4.out.asd HCC.out ha HOB.out (fun b q => (hp.mem b q).2)).kp HCC.out hk6); have B6 := Lib.hid (kp_row hk6 (ha.row B4.out N4.out)); have D6 := Lib.hid (MapKept.heap_alloc w6 (.cells #[.int .i64 a0, .int .i64 a1, .int .i64 a2, .int .i64 a3, .int .i64 b1, .int .i64 b2, .int .i64 b3, .bool b4] 33)).1; obtain ⟨u0, u1, u2, u3, u4, u5, u6, u7⟩ := cells_8 B6.out; obtain ⟨s0, s1, s2, s3, s4, s5, s6, s7⟩ := cells_8 D6.out; clear hp ha hk6) | (go_at_call 14; (with_reducible refine (HSM.out _).mono ?_); rintro e' w7 ⟨rfl, hk⟩; have R7 := Lib.hid (R6.out.kp hk); have A7 := Lib.hid (A6.out.kp HCC.out hk); clear hk) | (go_at_call 15; (with_reducible refine (HN.out _ A7.out.base).mono ?_); rintro e' w8 ⟨rfl, hk⟩; have A8 := Lib.hid (A7.out.kp HCC.out hk); have R8 := Lib.hid (R7.out.kp hk); clear hk))
  go_ret
  exact ⟨by first | rfl | simp | (congr 1; simp), _, A8.out, R8.out⟩
theorem stepM_any (C : MovC ads w0 J) (V : St ads w0) (h : At J w0 w0 (Orf gm sb v) g m w) (R : Rp w0 gm sb m v w) (o : OpD) (ho : o.ok) : Calls Tryd.prog 23 #[.pointer (some ⟨g, 0, none⟩), .pointer (some ⟨gm, 0, none⟩), .agg (opV o)] w fun r w' => r = .returned (.bool true) ∧ ∃ v', At J w0 w0 (Orf gm sb v') g (doM m o).2 w' ∧ Rp w0 gm sb (doM m o).2 v' w' := by
  obtain ⟨a, e, k, i, c⟩ := o
  obtain ⟨ia, ie, ik, ii⟩ := ho
  dsimp only [opV] at ie ik ii ⊢
  unfold doM
  dsimp only
  by_cases h1 : a = 1
  · subst h1; rw [if_pos rfl]; exact step_1 C V h R e k i c ie ik
  rw [if_neg h1]
  by_cases h2 : a = 2
  · subst h2; rw [if_pos rfl]; exact step_2 C h R e k i c ie
  rw [if_neg h2]
  by_cases h3 : a = 3
  · subst h3; rw [if_pos rfl]; exact step_3 C V h R e k i c ii
  rw [if_neg h3]
  by_cases h4 : a = 4
  · subst h4; rw [if_pos rfl]; exact step_4 C V h R e k i c ii
  rw [if_neg h4]
  exact step_no C h R e k i c a (by simpa using h1) (by simpa using h2) (by simpa using h3) (by simpa using h4)
end Go.Proofs.YtghjnhdepeiloaaDoor

namespace Go.Proofs.YtghjnhdepeiloaaDoor
open Go.RowKit Go.ChangeShapes Go.WideShapes
variable {ads : List Addr} {J : Nat → PairM → (Nat → Prop) → World → Prop}

/-- S may be changed on the way -/
theorem wpAnyH_mono {P : Program} {md : Region.Mode} {ops : Array Oper} {Q : Exit → Act → World → Prop} {S S' : World → Prop} (hs : ∀ w, S' w → S w) : ∀ (fuel : Nat) (listed : Array Bool) (a : Act) (w : World), wpAnyH P md ops Q S' fuel listed a w → wpAnyH P md ops Q S fuel listed a w
  | 0, _, _, _, h => h
  | fuel + 1, _, _, _, h => ⟨h.1, fun i hi => wpOp_mono (fun a' w' h' => ⟨hs _ h'.1, wpAnyH_mono hs fuel _ a' w' h'.2⟩) (h.2 i hi)⟩
theorem rseat_neq (a b c d : Int) (w : World) : (binOp .neq 25 (.agg #[.int .i64 a, .int .i64 b, .int .i64 c, .int .i64 d]) (.agg #[.int .i64 a, .int .i64 b, .int .i64 c, .int .i64 d])).run Tryd.prog w = .ok (.bool false) w := by
  have ha : Tryd.prog.stoodInHeld 25 = false := by kernel_rfl
  rw [run_neq_struct, show (10000 : Nat) = 9999 + 1 from rfl, run_equalIn_agg w 9999 25 _ _ rseat_fields ha]
  simp [Program.fieldsOf, Tryd.underlying25, Op.eqFields, part, go_sem, Tryd.underlying3]
theorem rfly_fields : Tryd.prog.underlying 57 = some (.struct (Tryd.prog.fieldsOf 57)) := by
  unfold Program.fieldsOf
  rw [Tryd.underlying57]
theorem rfly_neq (a b : Int) (w : World) : (binOp .neq 57 (.agg #[.int .i64 a, .int .i64 b]) (.agg #[.int .i64 a, .int .i64 b])).run Tryd.prog w = .ok (.bool false) w := by
  have ha : Tryd.prog.stoodInHeld 57 = false := by kernel_rfl
  rw [run_neq_struct, show (10000 : Nat) = 9999 + 1 from rfl, run_equalIn_agg w 9999 57 _ _ rfly_fields ha]
  simp [Program.fieldsOf, Tryd.underlying57, Op.eqFields, part, go_sem, Tryd.underlying3]
theorem rfly_guard (op : BinOp) (x y : Operand) (a b a' b' : Int) (w : World) : (eqGuard op 57 x y (.agg #[.int .i64 a, .int .i64 b]) (.agg #[.int .i64 a', .int .i64 b'])).run Tryd.prog w = .ok () w := run_eqGuard_agg w op 57 x y _ _ (by kernel_rfl)
set_option maxRecDepth 100000 in
theorem pairs_long (p : Int) (a : Option Addr) (n cap : Nat) (w : World) (hl : 200 < n) (C : MovC ads w J) : Calls Tryd.prog 4 #[.int .i64 p, .slice a n cap] w fun r w' => r = .returned (.bool true) ∧ Kp w w' := by
  have HAL := Lib.hid (alive11_any C w (Kp.refl w))
  obtain ⟨nn, hnn⟩ : ∃ x : Int, (n : Int) = x := ⟨_, rfl⟩
  have d1 : decide (nn > 200) = true := decide_eq_true (by omega)
  clear C hl
  go_enter Tryd.func4, Tryd.ntmps4
  go_wp2_with (go_at_call 9; (with_reducible refine HAL.out.mono ?_); rintro e' w1 ⟨rfl, hk⟩; have K1 := Lib.hid hk; clear hk)
  go_ret
  exact ⟨rfl, K1.out⟩
set_option maxRecDepth 100000 in
theorem pairs_bad (p : Int) (ip : i64M p) (hp : ¬ (p = 1 ∨ p = 2)) (a : Option Addr) (n cap : Nat) (w : World) (hl : ¬ 200 < n) (V : St ads w) (C : MovC ads w J) : Calls Tryd.prog 4 #[.int .i64 p, .slice a n cap] w fun r w' => r = .returned (.bool true) ∧ Kp w w' := by
  have HAL := Lib.hid (alive11_any C w (Kp.refl w))
  obtain ⟨nn, hnn⟩ : ∃ x : Int, (n : Int) = x := ⟨_, rfl⟩
  have d1 : decide (nn > 200) = false := decide_eq_false (by omega)
  have hu := fun w1 (hk : Kp w w1) => num_errN ads w1 (V.below hk) 14 (by decide) (by decide)
  have hw := fun w1 (hk : Kp w w1) => C.pnew_no w1 hk p hp ip
  obtain ⟨q, hq⟩ : ∃ q, errI ads 14 = q := ⟨_, rfl⟩
  rw [hq] at hu hw
  have HNW := Lib.hid hw
  have HNU := Lib.hid hu
  clear C V hl hw hu hq ip
  by_cases q1 : p < 1
  · have b1 : decide (p < 1) = true := decide_eq_true q1
    clear hp q1
    go_enter Tryd.func4, Tryd.ntmps4
    go_wp2_with (first | (go_at_call 9; (with_reducible refine HAL.out.mono ?_); rintro e' w1 ⟨rfl, hk⟩; have K1 := Lib.hid hk; clear hk) | (go_at_call 21; (with_reducible refine (HNW.out _ K1.out).mono ?_); rintro e' w2 ⟨rfl, hk⟩; have K2 := Lib.hid (Kp.trans K1.out hk); clear hk) | (go_at_call 15; (with_reducible refine (HNU.out _ K2.out).mono ?_); rintro e' w3 ⟨rfl, hk⟩; have K3 := Lib.hid (Kp.trans K2.out hk); clear hk))
    go_ret
    exact ⟨by first | rfl | (simp; done), K3.out⟩
  · have b1 : decide (p < 1) = false := decide_eq_false q1
    have q2 : p > 2 := by omega
    have b2 : decide (p > 2) = true := decide_eq_true q2
    clear hp q1 q2
    go_enter Tryd.func4, Tryd.ntmps4
    go_wp2_with (first | (go_at_call 9; (with_reducible refine HAL.out.mono ?_); rintro e' w1 ⟨rfl, hk⟩; have K1 := Lib.hid hk; clear hk) | (go_at_call 21; (with_reducible refine (HNW.out _ K1.out).mono ?_); rintro e' w2 ⟨rfl, hk⟩; have K2 := Lib.hid (Kp.trans K1.out hk); clear hk) | (go_at_call 15; (with_reducible refine (HNU.out _ K2.out).mono ?_); rintro e' w3 ⟨rfl, hk⟩; have K3 := Lib.hid (Kp.trans K2.out hk); clear hk))
    go_ret
    exact ⟨by first | rfl | (simp; done), K3.out⟩
set_option maxRecDepth 100000 in
set_option maxHeartbeats 8000000 in
theorem pairs_in (p : Int) (hp : p = 1 ∨ p = 2) (a : Option Addr) (cap n : Nat) (os : List OpD) (hm : os.length = n) (w : World) (hel : ∀ (j : Nat) (h : j < os.length), ∃ b off, a = some ⟨b, off, none⟩ ∧ OpM os[j] b (off + j * 5) w) (hl : ¬ 200 < n) (V : St ads w) (C : MovC ads w J) : Calls Tryd.prog 4 #[.int .i64 p, .slice a n cap] w fun r w' => r = .returned (.bool true) ∧ Kp w w' := by
  have HAL := Lib.hid (alive11_any C w (Kp.refl w))
  have HCC := Lib.hid C
  have HNW := Lib.hid (fun w1 (hk : Kp w w1) => at_new C (Kp.refl w) hk p hp)
  have HE := Lib.hid hel
  have HM := Lib.hid hm
  obtain ⟨nn, hnn⟩ : ∃ x : Int, (n : Int) = x := ⟨_, rfl⟩
  have HNN := Lib.hid hnn
  have d1 : decide (nn > 200) = false := decide_eq_false (by omega)
  have l1 : nn ≤ 200 := by omega
  have HVV := Lib.hid V
  have HRN := Lib.hid (fun w1 (hk : Kp w w1) => rpNew_any (w0 := w) p (Below.size hk))
  have b1 : decide (p < 1) = false := decide_eq_false (by omega)
  have b2 : decide (p > 2) = false := decide_eq_false (by omega)
  clear C V hel hm hl hp
  go_enter Tryd.func4, Tryd.ntmps4
  go_wp2_with (first | (go_at_call 9; (with_reducible refine HAL.out.mono ?_); rintro e' w1 ⟨rfl, hk⟩; have K1 := Lib.hid hk; clear hk) | (go_at_call 21; (with_reducible refine (HNW.out _ K1.out).mono ?_); rintro e' w2 ⟨g, rfl, ha, -⟩; have A2 := Lib.hid ha; clear ha) | (go_at_call 22; (with_reducible refine (HRN.out _ A2.out.base).mono ?_); rintro e' w3 ⟨gm, sb, rfl, hr, hge, hk⟩; have R3 := Lib.hid hr; have A3 := Lib.hid (A2.out.asd HCC.out (O2 := Orf gm sb (.slice none 0 0)) ⟨hk.os, hk.tape, hk.output, Below.size hk, fun b hb _ => Below.block hk b hb, fun b q => .inr (hge b q)⟩ (fun b q => q.elim) (fun b q => (hr.mem b q).2)); clear hr hge hk))
  clear b1 b2 d1
  go_loopw [45] (fun i wr => ∃ j : Nat, j ≤ n ∧ i = .int .i64 j ∧ ∃ mj v, At J w w (Orf gm sb v) g mj wr ∧ Rp w gm sb mj v wr) (fun i _ => n - (intOf i).toNat)
  case atStart => exact ⟨0, Nat.zero_le _, rfl, _, _, A3.out, R3.out⟩
  case round =>
    obtain ⟨j, hj, rfl, mj, v, hat, hrp⟩ := hrel
    have A := Lib.hid hat
    have RA := Lib.hid hrp
    clear hat hrp
    obtain ⟨jj, hjj⟩ : ∃ jj : Int, (j : Int) = jj := ⟨_, rfl⟩
    rw [hjj]
    have HJ := Lib.hid hjj
    have hnn := HNN.out
    by_cases hlt : j < n
    · have hjl : jj < nn := by omega
      have hj0 : 0 ≤ jj := by omega
      have htn : jj.toNat = j := by omega
      have hjo : j < os.length := by rw [HM.out]; exact hlt
      obtain ⟨b, off, rfl, hc0⟩ := HE.out j hjo
      have hc := hc0.kp (A.out.base)
      obtain ⟨⟨oa, oe, ok, oi, oc⟩, hod⟩ : ∃ o, os[j] = o := ⟨_, rfl⟩
      rw [hod] at hc
      have f0 : wr.cell? ⟨b, off + jj.toNat * 5, none⟩ = some (.int .i64 oa) := by rw [htn]; exact hc.a
      have f1 : wr.cell? ⟨b, off + jj.toNat * 5 + 1, none⟩ = some (.int .i64 oe) := by rw [htn]; exact hc.e
      have f2 : wr.cell? ⟨b, off + jj.toNat * 5 + 2, none⟩ = some (.int .i64 ok) := by rw [htn]; exact hc.k
      have f3 : wr.cell? ⟨b, off + jj.toNat * 5 + 3, none⟩ = some (.int .i64 oi) := by rw [htn]; exact hc.i
      have f4 : wr.cell? ⟨b, off + jj.toNat * 5 + 4, none⟩ = some (.bool oc) := by rw [htn]; exact hc.c
      have hook : OpD.ok ⟨oa, oe, ok, oi, oc⟩ := ⟨hc.wa, hc.we, hc.wk, hc.wi⟩
      have k9 := kp_drewM (kp_alloc wr (.cells #[.int .i64 oa, .int .i64 oe, .int .i64 ok, .int .i64 oi, .bool oc] 47))
      have r9 := kp_row (kp_drewM (Kp.refl (wr.alloc (.cells #[.int .i64 oa, .int .i64 oe, .int .i64 ok, .int .i64 oi, .bool oc] 47)))) (MapKept.heap_alloc wr (.cells #[.int .i64 oa, .int .i64 oe, .int .i64 ok, .int .i64 oi, .bool oc] 47)).1
      obtain ⟨W, hW⟩ : ∃ W, (wr.alloc (.cells #[.int .i64 oa, .int .i64 oe, .int .i64 ok, .int .i64 oi, .bool oc] 47)).drew = W := ⟨_, rfl⟩
      rw [hW] at k9 r9
      obtain ⟨t0, t1, t2, t3, t4⟩ := cells_5 r9
      have hst := stepM_any HCC.out HVV.out (A.out.kp HCC.out k9) (RA.out.kp k9) ⟨oa, oe, ok, oi, oc⟩ hook
      have hpk := pok_do A.out.pok ⟨oa, oe, ok, oi, oc⟩
      obtain ⟨m', hm'⟩ : ∃ y, (doM mj ⟨oa, oe, ok, oi, oc⟩).2 = y := ⟨_, rfl⟩
      rw [hm'] at hst hpk
      obtain ⟨⟨cp, ce, cs, ch⟩, ⟨xp, xe, xs, xh⟩, f⟩ := m'
      dsimp only [opV] at hst
      obtain ⟨nf, hnf⟩ : ∃ n, f.length = n := ⟨_, rfl⟩
      have l2 : (nf : Int) ≤ 64 := by have := hpk.2; dsimp only at this; omega
      have HST := Lib.hid hst
      have HWN := Lib.hid hW
      have HNF := Lib.hid hnf
      have HFM := Lib.hid (fun v1 w1 (h : Rp w gm sb ⟨⟨cp, ce, cs, ch⟩, ⟨xp, xe, xs, xh⟩, f⟩ v1 w1) => (show ∃ a c, v1 = .slice a nf c by have := h.form; dsimp only at this; rw [hnf] at this; exact this))
      have HSL := Lib.hid (fun v1 w1 (h : SlF v1 f w1) => (show ∃ a c, v1 = .slice a nf c ∧ ∀ (j : Nat) (h : j < f.length), ∃ b off, a = some ⟨b, off, none⟩ ∧ w1.cell? ⟨b, off + j * 2, none⟩ = some (.int .i64 f[j].1) ∧ w1.cell? ⟨b, off + j * 2 + 1, none⟩ = some (.int .i64 f[j].2) by obtain ⟨a, c, h1, h2⟩ := h; exact ⟨a, c, by rw [h1, hnf], h2⟩))
      have HS1 := Lib.hid (fun (O1 : Nat → Prop) w1 (h : At J w w O1 g ⟨⟨cp, ce, cs, ch⟩, ⟨xp, xe, xs, xh⟩, f⟩ w1) => (show Calls Tryd.prog 24 #[.pointer (some ⟨g, 0, none⟩), .int .i64 1] w1 fun r w' => r = .returned (.agg #[.int .i64 cp, .int .i64 ce, .int .i64 cs, .int .i64 ch]) ∧ Kp w1 w' from at_seat HCC.out h 1 (by decide)))
      have HS2 := Lib.hid (fun (O1 : Nat → Prop) w1 (h : At J w w O1 g ⟨⟨cp, ce, cs, ch⟩, ⟨xp, xe, xs, xh⟩, f⟩ w1) => (show Calls Tryd.prog 24 #[.pointer (some ⟨g, 0, none⟩), .int .i64 2] w1 fun r w' => r = .returned (.agg #[.int .i64 xp, .int .i64 xe, .int .i64 xs, .int .i64 xh]) ∧ Kp w1 w' from at_seat HCC.out h 2 (by decide)))
      have HFL := Lib.hid (fun (O1 : Nat → Prop) w1 (h : At J w w O1 g ⟨⟨cp, ce, cs, ch⟩, ⟨xp, xe, xs, xh⟩, f⟩ w1) => (show Calls Tryd.prog 25 #[.pointer (some ⟨g, 0, none⟩)] w1 fun r w' => ∃ v, r = .returned v ∧ SlF v f w' ∧ Kp w1 w' from at_flight HCC.out h))
      have e1q := fun w => rseat_neq cp ce cs ch w
      have e1g := fun op x y w => rseat_guard op x y cp ce cs ch cp ce cs ch w
      have e2q := fun w => rseat_neq xp xe xs xh w
      have e2g := fun op x y w => rseat_guard op x y xp xe xs xh xp xe xs xh w
      have HLT := Lib.hid hlt
      clear hc hc0 hod k9 r9 hst hpk hm' hW hnf hjj hj hlt hnn hook htn hjo
      go_wp2_with fail
      refine wp_region_held_drew (S := fun _ => True) (by kernel_rfl) ?_ (fun hHeld => ?_)
      · exact trivial
      rw [HWN.out]
      refine wpAnyH_take (i := 0) (v := ?_) rfl (by kernel_rfl) (by kernel_rfl) (by kernel_rfl) (fun _ _ _ h => h) (Or.inl ⟨by rfl, ?_⟩) (by assumption) ?_
      rotate_left
      · intro w hSw; go_simp; try with_reducible rfl
      go_simp
      refine wpAnyH_take (i := 1) (v := ?_) rfl (by kernel_rfl) (by kernel_rfl) (by kernel_rfl) (fun _ _ _ h => h) (Or.inl ⟨by rfl, ?_⟩) (by assumption) ?_
      rotate_left
      · intro w hSw; go_simp; try with_reducible rfl
      go_simp
      refine wpAnyH_ready (rs := [2]) (by kernel_rfl) (by simp) ?_
      refine AllReadyH.cons rfl (fun K hK => ?_) AllReadyH.nil
      go_simp
      refine hK.out _ _ ?_ (fun hHeld => ?_)
      · exact trivial
      clear hK K
      refine wpAnyH_ready (rs := [3]) (by kernel_rfl) (by simp) ?_
      refine AllReadyH.cons rfl (fun K hK => ?_) AllReadyH.nil
      go_simp
      go_wp2_with (go_at_call 23; (with_reducible refine HST.out.mono ?_); rintro e' w4 ⟨rfl, v', ha, hr⟩; obtain ⟨a9, c9, hv9⟩ := HFM.out _ _ hr; subst hv9; have A4 := Lib.hid ha; have R4 := Lib.hid hr; clear ha hr)
      refine hK.out _ _ ?_ (fun hHeld => ?_)
      · exact trivial
      clear hK K
      refine wpAnyH_take (i := 4) (v := ?_) rfl (by kernel_rfl) (by kernel_rfl) (by kernel_rfl) (fun _ _ _ h => h) (Or.inl ⟨by rfl, ?_⟩) (by assumption) ?_
      rotate_left
      · intro w hSw; go_simp; try with_reducible rfl
      go_simp
      refine wpAnyH_take (i := 5) (v := ?_) rfl (by kernel_rfl) (by kernel_rfl) (by kernel_rfl) (fun _ _ _ h => h) (Or.inl ⟨by rfl, ?_⟩) (by assumption) ?_
      rotate_left
      · intro w hSw; go_simp; try with_reducible rfl
      go_simp
      refine wpAnyH_take (i := 6) (v := ?_) rfl (by kernel_rfl) (by kernel_rfl) (by kernel_rfl) (fun _ _ _ h => h) (Or.inl ⟨by rfl, ?_⟩) (by assumption) ?_
      rotate_left
      · intro w hSw; go_simp; try with_reducible rfl
      go_simp
      refine wpAnyH_take (i := 8) (v := ?_) rfl (by kernel_rfl) (by kernel_rfl) (by kernel_rfl) (fun _ _ _ h => h) (Or.inl ⟨by rfl, ?_⟩) (by assumption) ?_
      rotate_left
      · intro w hSw; go_simp; try with_reducible rfl
      go_simp
      refine wpAnyH_take (i := 9) (v := ?_) rfl (by kernel_rfl) (by kernel_rfl) (by kernel_rfl) (fun _ _ _ h => h) (Or.inl ⟨by rfl, ?_⟩) (by assumption) ?_
      rotate_left
      · intro w hSw; go_simp; try with_reducible rfl
      go_simp
      refine wpAnyH_take (i := 10) (v := ?_) rfl (by kernel_rfl) (by kernel_rfl) (by kernel_rfl) (fun _ _ _ h => h) (Or.inl ⟨by rfl, ?_⟩) (by assumption) ?_
      rotate_left
      · intro w hSw; go_simp; try with_reducible rfl
      go_simp
      refine wpAnyH_mono (S' := fun w' => Kp w4 w') (fun _ _ => trivial) _ _ _ _ ?_
      clear hHeld
      have hHeld : Kp w4 w4 := Kp.refl _
      have GR := Lib.hid (show w4.heap[gm]? = some (.cells #[.slice (some ⟨sb, 0, none⟩) 2 2, .slice a9 nf c9] 53 (0, 0)) from R4.out.row)
      have SR := Lib.hid (show w4.heap[sb]? = some (.cells #[.int .i64 cp, .int .i64 ce, .int .i64 cs, .int .i64 ch, .int .i64 xp, .int .i64 xe, .int .i64 xs, .int .i64 xh] 25 (0, 0)) from R4.out.seats)
      refine wpAnyH_take (i := 11) (v := ?_) rfl (by kernel_rfl) (by kernel_rfl) (by kernel_rfl) (fun _ _ _ h => h) (Or.inl ⟨by rfl, ?_⟩) (by assumption) ?_
      rotate_left
      · intro w hSw; obtain ⟨q0, q1⟩ := cells_2R (kp_row hSw GR.out); go_simp; try with_reducible rfl
      go_simp
      refine wpAnyH_take (i := 12) (v := ?_) rfl (by kernel_rfl) (by kernel_rfl) (by kernel_rfl) (fun _ _ _ h => h) (Or.inl ⟨by rfl, ?_⟩) (by assumption) ?_
      rotate_left
      · intro w hSw; go_simp; try with_reducible rfl
      go_simp
      refine wpAnyH_take (i := 13) (v := ?_) rfl (by kernel_rfl) (by kernel_rfl) (by kernel_rfl) (fun _ _ _ h => h) (Or.inl ⟨by rfl, ?_⟩) (by assumption) ?_
      rotate_left
      · intro w hSw; obtain ⟨q0, q1, q2, q3, q4, q5, q6, q7⟩ := cells_8 (kp_row hSw SR.out); go_simp; try with_reducible rfl
      go_simp
      refine wpAnyH_ready (rs := [7]) (by kernel_rfl) (by simp) ?_
      refine AllReadyH.cons rfl (fun K hK => ?_) AllReadyH.nil
      go_simp
      go_wp2_with (go_at_call 24; (with_reducible refine (HS1.out _ _ (A4.out.kp HCC.out hHeld)).mono ?_); rintro e' w5 ⟨rfl, hk⟩; have K5 := Lib.hid (Kp.trans hHeld hk); clear hk)
      refine hK.out _ _ ?_ (fun hHeld => ?_)
      · exact K5.out
      clear hK K
      refine wpAnyH_take (i := 14) (v := ?_) rfl (by kernel_rfl) (by kernel_rfl) (by kernel_rfl) (fun _ _ _ h => h) (Or.inl ⟨by rfl, ?_⟩) (by assumption) ?_
      rotate_left
      · intro w hSw; go_simp; try with_reducible rfl
      go_simp
      refine wpAnyH_take (i := 15) (v := ?_) rfl (by kernel_rfl) (by kernel_rfl) (by kernel_rfl) (fun _ _ _ h => h) (Or.inl ⟨by rfl, ?_⟩) (by assumption) ?_
      rotate_left
      · intro w hSw; go_simp; try with_reducible rfl
      go_simp
      refine wpAnyH_take (i := 16) (v := ?_) rfl (by kernel_rfl) (by kernel_rfl) (by kernel_rfl) (fun _ _ _ h => h) (Or.inl ⟨by rfl, ?_⟩) (by assumption) ?_
      rotate_left
      · intro w hSw; go_simp; try with_reducible rfl
      go_simp
      refine wpAnyH_take (i := 17) (v := ?_) rfl (by kernel_rfl) (by kernel_rfl) (by kernel_rfl) (fun _ _ _ h => h) (Or.inl ⟨by rfl, ?_⟩) (by assumption) ?_
      rotate_left
      · intro w hSw; go_simp; try with_reducible rfl
      go_simp
      refine wpAnyH_take (i := 19) (v := ?_) rfl (by kernel_rfl) (by kernel_rfl) (by kernel_rfl) (fun _ _ _ h => h) (Or.inl ⟨by rfl, ?_⟩) (by assumption) ?_
      rotate_left
      · intro w hSw; go_simp; try with_reducible rfl
      go_simp
      refine wpAnyH_take (i := 20) (v := ?_) rfl (by kernel_rfl) (by kernel_rfl) (by kernel_rfl) (fun _ _ _ h => h) (Or.inl ⟨by rfl, ?_⟩) (by assumption) ?_
      rotate_left
      · intro w hSw; go_simp; try with_reducible rfl
      go_simp
      refine wpAnyH_take (i := 21) (v := ?_) rfl (by kernel_rfl) (by kernel_rfl) (by kernel_rfl) (fun _ _ _ h => h) (Or.inl ⟨by rfl, ?_⟩) (by assumption) ?_
      rotate_left
      · intro w hSw; go_simp; try with_reducible rfl
      go_simp
      refine wpAnyH_take (i := 22) (v := ?_) rfl (by kernel_rfl) (by kernel_rfl) (by kernel_rfl) (fun _ _ _ h => h) (Or.inl ⟨by rfl, ?_⟩) (by assumption) ?_
      rotate_left
      · intro w hSw; obtain ⟨q0, q1⟩ := cells_2R (kp_row hSw GR.out); go_simp; try with_reducible rfl
      go_simp
      refine wpAnyH_take (i := 23) (v := ?_) rfl (by kernel_rfl) (by kernel_rfl) (by kernel_rfl) (fun _ _ _ h => h) (Or.inl ⟨by rfl, ?_⟩) (by assumption) ?_
      rotate_left
      · intro w hSw; go_simp; try with_reducible rfl
      go_simp
      refine wpAnyH_take (i := 24) (v := ?_) rfl (by kernel_rfl) (by kernel_rfl) (by kernel_rfl) (fun _ _ _ h => h) (Or.inl ⟨by rfl, ?_⟩) (by assumption) ?_
      rotate_left
      · intro w hSw; obtain ⟨q0, q1, q2, q3, q4, q5, q6, q7⟩ := cells_8 (kp_row hSw SR.out); go_simp; try with_reducible rfl
      go_simp
      refine wpAnyH_ready (rs := [18]) (by kernel_rfl) (by simp) ?_
      refine AllReadyH.cons rfl (fun K hK => ?_) AllReadyH.nil
      go_simp
      go_wp2_with (go_at_call 24; (with_reducible refine (HS2.out _ _ (A4.out.kp HCC.out hHeld)).mono ?_); rintro e' w6 ⟨rfl, hk⟩; have K6 := Lib.hid (Kp.trans hHeld hk); clear hk)
      refine hK.out _ _ ?_ (fun hHeld => ?_)
      · exact K6.out
      clear hK K
      refine wpAnyH_take (i := 25) (v := ?_) rfl (by kernel_rfl) (by kernel_rfl) (by kernel_rfl) (fun _ _ _ h => h) (Or.inl ⟨by rfl, ?_⟩) (by assumption) ?_
      rotate_left
      · intro w hSw; go_simp; try with_reducible rfl
      go_simp
      refine wpAnyH_take (i := 26) (v := ?_) rfl (by kernel_rfl) (by kernel_rfl) (by kernel_rfl) (fun _ _ _ h => h) (Or.inl ⟨by rfl, ?_⟩) (by assumption) ?_
      rotate_left
      · intro w hSw; go_simp; try with_reducible rfl
      go_simp
      refine wpAnyH_done (by kernel_rfl) ?_ _
      clear e1q e1g e2q e2g
      go_wp2_with (go_at_call 25; (with_reducible refine (HFL.out _ _ (A4.out.kp HCC.out K6.out)).mono ?_); rintro e' w7 ⟨v7, rfl, hs, hk⟩; obtain ⟨a7, c7, rfl, hsf⟩ := HSL.out _ _ hs; have S7 := Lib.hid hsf; have K7 := Lib.hid (Kp.trans K6.out hk); have G7 := Lib.hid (kp_row K7.out GR.out); obtain ⟨z0, z1⟩ := cells_2R G7.out; clear hs hk hsf)
      go_loopw [88] (fun i wr => ∃ q : Nat, q ≤ nf ∧ i = .int .i64 q ∧ Kp w7 wr) (fun i _ => nf - (intOf i).toNat)
      case atStart => exact ⟨0, Nat.zero_le _, rfl, Kp.refl _⟩
      case round =>
        obtain ⟨q, hq, rfl, hkq⟩ := hrel
        have KQ := Lib.hid hkq
        obtain ⟨qq, hqq⟩ : ∃ x : Int, (q : Int) = x := ⟨_, rfl⟩
        rw [hqq]
        have HQ := Lib.hid hqq
        have hnf := HNF.out
        by_cases hlt2 : q < nf
        · have hql : qq < (nf : Int) := by omega
          have hq0 : 0 ≤ qq := by omega
          have hlf : q < f.length := by omega
          have HLQ := Lib.hid hlt2
          obtain ⟨b8, o8, h9, f0, f1⟩ := S7.out q hlf
          subst h9
          obtain ⟨⟨to, k⟩, hfq⟩ : ∃ y, f[q] = y := ⟨_, rfl⟩
          rw [hfq] at f0 f1
          dsimp only at f0 f1
          rw [show q * 2 = qq.toNat * 2 by omega] at f0 f1
          have F0 := Lib.hid f0
          have F1 := Lib.hid f1
          have ow := R4.out.own
          have hbv : ∃ bv, a9 = some ⟨bv, 0, none⟩ := by
            rcases ow.2 with ⟨h0, h1⟩ | ⟨bv, cv, cur, hv, -⟩
            · injection h0 with h0 h2 h3
              omega
            · injection hv with hv
              exact ⟨bv, hv⟩
          obtain ⟨bv, rfl⟩ := hbv
          have d0 := ow.cells rfl (2 * q) _ (flyB_at f q hlf).1
          have d1 := ow.cells rfl (2 * q + 1) _ (flyB_at f q hlf).2
          rw [Addr.add_lit, hfq] at d0 d1
          dsimp only at d0 d1
          rw [Nat.zero_add, show 2 * q = qq.toNat * 2 by omega] at d0
          rw [Nat.zero_add, show 2 * q + 1 = qq.toNat * 2 + 1 by omega] at d1
          have E0 := Lib.hid d0
          have E1 := Lib.hid d1
          have eq3 := fun w => rfly_neq to k w
          have eg3 := fun op x y w => rfly_guard op x y to k to k w
          clear hq hkq hqq hnf hlt2 hlf f0 f1 d0 d1 hfq ow
          go_wp2_with fail
          refine wp_region_held_drew (S := fun w' => Kp w7 w') (by kernel_rfl) ?_ (fun hHeld => ?_)
          · exact kp_drewM KQ.out
          refine wpAnyH_take (i := 0) (v := ?_) rfl (by kernel_rfl) (by kernel_rfl) (by kernel_rfl) (fun _ _ _ h => h) (Or.inl ⟨by rfl, ?_⟩) (by assumption) ?_
          rotate_left
          · intro w hSw; go_simp; try with_reducible rfl
          go_simp
          refine wpAnyH_take (i := 1) (v := ?_) rfl (by kernel_rfl) (by kernel_rfl) (by kernel_rfl) (fun _ _ _ h => h) (Or.inl ⟨by rfl, ?_⟩) (by assumption) ?_
          rotate_left
          · intro w hSw; go_simp; try with_reducible rfl
          go_simp
          refine wpAnyH_take (i := 2) (v := ?_) rfl (by kernel_rfl) (by kernel_rfl) (by kernel_rfl) (fun _ _ _ h => h) (Or.inl ⟨by rfl, ?_⟩) (by assumption) ?_
          rotate_left
          · intro w hSw; go_simp; try with_reducible rfl
          go_simp
          refine wpAnyH_take (i := 3) (v := ?_) rfl (by kernel_rfl) (by kernel_rfl) (by kernel_rfl) (fun _ _ _ h => h) (Or.inl ⟨by rfl, ?_⟩) (by assumption) ?_
          rotate_left
          · intro w hSw; have q0 := kp_cell hSw F0.out; have q1 := kp_cell hSw F1.out; go_simp; try with_reducible rfl
          go_simp
          refine wpAnyH_take (i := 4) (v := ?_) rfl (by kernel_rfl) (by kernel_rfl) (by kernel_rfl) (fun _ _ _ h => h) (Or.inl ⟨by rfl, ?_⟩) (by assumption) ?_
          rotate_left
          · intro w hSw; go_simp; try with_reducible rfl
          go_simp
          refine wpAnyH_take (i := 5) (v := ?_) rfl (by kernel_rfl) (by kernel_rfl) (by kernel_rfl) (fun _ _ _ h => h) (Or.inl ⟨by rfl, ?_⟩) (by assumption) ?_
          rotate_left
          · intro w hSw; go_simp; try with_reducible rfl
          go_simp
          refine wpAnyH_take (i := 6) (v := ?_) rfl (by kernel_rfl) (by kernel_rfl) (by kernel_rfl) (fun _ _ _ h => h) (Or.inl ⟨by rfl, ?_⟩) (by assumption) ?_
          rotate_left
          · intro w hSw; go_simp; try with_reducible rfl
          go_simp
          refine wpAnyH_take (i := 7) (v := ?_) rfl (by kernel_rfl) (by kernel_rfl) (by kernel_rfl) (fun _ _ _ h => h) (Or.inl ⟨by rfl, ?_⟩) (by assumption) ?_
          rotate_left
          · intro w hSw; obtain ⟨q0, q1⟩ := cells_2R (kp_row hSw G7.out); go_simp; try with_reducible rfl
          go_simp
          refine wpAnyH_take (i := 8) (v := ?_) rfl (by kernel_rfl) (by kernel_rfl) (by kernel_rfl) (fun _ _ _ h => h) (Or.inl ⟨by rfl, ?_⟩) (by assumption) ?_
          rotate_left
          · intro w hSw; go_simp; try with_reducible rfl
          go_simp
          refine wpAnyH_take (i := 9) (v := ?_) rfl (by kernel_rfl) (by kernel_rfl) (by kernel_rfl) (fun _ _ _ h => h) (Or.inl ⟨by rfl, ?_⟩) (by assumption) ?_
          rotate_left
          · intro w hSw; go_simp; try with_reducible rfl
          go_simp
          refine wpAnyH_take (i := 10) (v := ?_) rfl (by kernel_rfl) (by kernel_rfl) (by kernel_rfl) (fun _ _ _ h => h) (Or.inl ⟨by rfl, ?_⟩) (by assumption) ?_
          rotate_left
          · intro w hSw; have q0 := kp_cell (Kp.trans K7.out hSw) E0.out; have q1 := kp_cell (Kp.trans K7.out hSw) E1.out; go_simp; try with_reducible rfl
          go_simp
          refine wpAnyH_take (i := 11) (v := ?_) rfl (by kernel_rfl) (by kernel_rfl) (by kernel_rfl) (fun _ _ _ h => h) (Or.inl ⟨by rfl, ?_⟩) (by assumption) ?_
          rotate_left
          · intro w hSw; go_simp; try with_reducible rfl
          go_simp
          refine wpAnyH_done (by kernel_rfl) ?_ _
          go_wp2
          have hq1 : (q : Int) = qq := HQ.out
          have hlq1 : q < nf := HLQ.out
          go_roundw
          case rel => exact ⟨q + 1, hlq1, by rw [← hq1]; rfl, hHeld⟩
          case measure => simp [intOf]; omega
        · have hexq : ¬ qq < (nf : Int) := by omega
          clear hq hkq hqq hnf hlt2
          go_wp2
          have hj1 : (j : Int) = jj := HJ.out
          have hlt1 : j < n := HLT.out
          go_roundw
          case rel => exact ⟨j + 1, hlt1, by rw [← hj1]; rfl, _, _, A4.out.kp HCC.out (Kp.trans K7.out KQ.out), R4.out.kp (Kp.trans K7.out KQ.out)⟩
          case measure => simp [intOf]; omega
    · have hex : ¬ jj < nn := by omega
      have HS0 := Lib.hid (fun w1 (h : At J w w (Orf gm sb v) g mj w1) => (show Calls Tryd.prog 24 #[.pointer (some ⟨g, 0, none⟩), .int .i64 0] w1 fun r w' => r = .returned (.agg #[.int .i64 0, .int .i64 0, .int .i64 0, .int .i64 0]) ∧ Kp w1 w' from at_seat HCC.out h 0 (by decide)))
      have HS3 := Lib.hid (fun w1 (h : At J w w (Orf gm sb v) g mj w1) => (show Calls Tryd.prog 24 #[.pointer (some ⟨g, 0, none⟩), .int .i64 3] w1 fun r w' => r = .returned (.agg #[.int .i64 0, .int .i64 0, .int .i64 0, .int .i64 0]) ∧ Kp w1 w' from at_seat HCC.out h 3 (by decide)))
      have hse := fun w => mseat_eql 0 0 0 0 0 0 0 0 w
      have hsg := fun op x y w => mseat_guard op x y 0 0 0 0 0 0 0 0 w
      simp only [and_self, decide_true] at hse
      clear hjj hj hlt hnn
      go_wp2_with (first | (go_at_call 24; (with_reducible refine (HS3.out _ A20.out).mono ?_); rintro e' w21 ⟨rfl, hk⟩; have A21 := Lib.hid (A20.out.kp HCC.out hk); clear hk) | (go_at_call 24; (with_reducible refine (HS0.out _ A.out).mono ?_); rintro e' w20 ⟨rfl, hk⟩; have A20 := Lib.hid (A.out.kp HCC.out hk); clear hk))
      go_ret
      exact ⟨by first | rfl | (simp; done), A21.out.base⟩
theorem pairs_any (p : Int) (v : Value) (os : List OpD) (w : World) (ip : i64M p) (hs : SlM v os w) (V : St ads w) (C : MovC ads w J) : Calls Tryd.prog 4 #[.int .i64 p, v] w fun r w' => r = .returned (.bool true) ∧ Kp w w' := by
  obtain ⟨a, cap, rfl, hel⟩ := hs
  by_cases hl : 200 < os.length
  · exact pairs_long p a _ cap w hl C
  by_cases hp : p = 1 ∨ p = 2
  · exact pairs_in p hp a cap _ os rfl w hel hl V C
  · exact pairs_bad p ip hp a _ cap w hl V C
end Go.Proofs.YtghjnhdepeiloaaDoor

namespace Go.Proofs.YtghjnhdepeiloaaDoor
open Go.RowKit

theorem movesPairs_walk (p : Int) (v1 : Value) (o : List OpD) (W : World) (kp : -9223372036854775808 ≤ p ∧ p ≤ 9223372036854775807) (koa : SlM v1 o W) (_kob : o.length ≤ maxLen) (hL : laidMetH Tryd.prog Rows.movesPairsRow.laid W) :
    Calls Tryd.prog 4 #[.int .i64 p, v1] W fun e w' => e = .returned (.bool true) ∧ Below W.heap.size W w' := by
  obtain ⟨ads, V⟩ := st_of_laid (l := Rows.movesPairsRow.laid) (by kernel_rfl) (by kernel_rfl) hL
  have E : EP [0, 3, 5, 8, 13] ads W := ep_of_st V (by decide)
  have C := movC_of ads W E
  exact pairs_any p v1 o W kp koa V C

end Go.Proofs.YtghjnhdepeiloaaDoor

namespace Go.Proofs.YtghjnhdepeiloaaDoor
open Go.ChangeShapes Go.WideShapes Go.ChangeAt Go.WideMaps Go.WideElems Go.RowKit


theorem movesPairs_met (os : Os) (args : Array Value) : laidMetH Tryd.prog Rows.movesPairsRow.laid ((World.doorLaid Tryd.prog 4000 os).forCall (fun _ _ => 0) ⟨#[], args, []⟩).memory :=
  laidMetH_of_parts3 (fuel := 8) (laidMet_of_run' 8 (by kernel_rfl) (by kernel_rfl)) (by kernel_rfl) (by kernel_rfl)

set_option maxRecDepth 100000 in
theorem movesPairs_lifted (os : Os) (started : os.Started) (H : Type) (enc : TypeId × Value → H) :
    ReturnsInHanded {} Tryd.checked os 4 .any (fun w args => (Rows.movesPairsSpec.pre enc Tryd.prog Tryd.f4 [] false w args ∧ laidMetH Tryd.prog Rows.movesPairsRow.laid w) ∧ sizedMet enc Tryd.prog Tryd.f4 (OpenSpec.ofChange Rows.movesPairsSpec) false w args)
      (Rows.movesPairsSpec.post enc Tryd.prog Tryd.f4 false true false false) := by
  refine returnsInHanded_of_change_and (C := Tryd.checked) (X := fun w _ => laidMetH Tryd.prog Rows.movesPairsRow.laid w) (fun _ _ _ hh h => h.of_heap hh) own started (by kernel_rfl) Tryd.func4
    (ChangeSpec.witness_shaped (enc := enc) (C := Tryd.checked) (os := os) (X := fun w _ => laidMetH Tryd.prog Rows.movesPairsRow.laid w) false (World.doorLaid Tryd.prog 4000 os) #[.int .i64 0, .slice none 0 0] 8 rfl (World.shaped_of_RefB (by kernel_rfl) (by kernel_rfl)) (by kernel_rfl) (by kernel_rfl) (by kernel_rfl) (movesPairs_met os _)) ?_
  intro W base args ds gs before hval0 hW _ hsz hL _
  have hval : ∀ (j : Nat) t v, Tryd.f4.params[j]? = some t → args[j]? = some v → Value.okWide Tryd.prog W .any base t v := hval0
  have hW' := hW
  obtain ⟨p, q, hA0, hV, rfl, hfz, hnd⟩ := hW
  have hA : DataW.TrodAll enc Tryd.prog W 0 (fun _ => true) true Tryd.f4.params.toList args.toList ds p := hA0
  rw [Tryd.params4] at hA hval
  obtain ⟨v0, vs0, d0, ds0, p0, q0, e0, rfl, rfl, h0, r0⟩ := trodAll_cons hA
  obtain ⟨v1, vs1, d1, ds1, p1, q1, e1, rfl, rfl, h1, r1⟩ := trodAll_cons r0
  obtain ⟨rfl, rfl, rfl⟩ := trodAll_nil r1
  obtain rfl : args = #[v0, v1] := by cases args; simp_all
  obtain ⟨rfl, rfl⟩ := trodVars_none hV
  obtain ⟨p, rfl, rfl, rfl, hp⟩ := open_int Tryd.underlying3 (hval 0 3 v0 rfl rfl) h0
  obtain ⟨o, koa, kob⟩ := open_opsM (hval 1 40 v1 rfl rfl) h1
  clear hA0 hval0
  have kp : -9223372036854775808 ≤ p ∧ p ≤ 9223372036854775807 := by simpa [Lit.wf, IntKind.min, IntKind.max, IntKind.bits, IntKind.signed] using hp
  refine (movesPairs_walk p v1 o W kp koa kob hL).mono fun e W' ⟨he, hw⟩ => ?_
  subst he
  exact ⟨_, rfl, law_post laidOut hW' rfl rfl rfl Tryd.underlying4 (par_ok (by kernel_rfl)) hw⟩

theorem movesPairs_said : Rows.MovesPairsSaid :=
  OpenClaim.holds_of_wide 4 Tryd.f4 rfl rfl rfl rfl rfl rfl rfl ⟨rfl, rfl, rfl, rfl, rfl⟩ rfl rfl rfl rfl rfl (by kernel_rfl) Tryd.func4 (by kernel_rfl)
    (of_decide_eq_true (by kernel_rfl)) (by unfold Func.isWrapper; first | (rw [if_pos (by decide +kernel)]; kernel_rfl) | (rw [if_neg (by decide +kernel)]; exact ⟨rfl, rfl⟩))
    (fun os started H enc _ => movesPairs_lifted os started H enc)

theorem movesPairs_holds : Rows.MovesPairsCardSaid :=
  Claim7.holds_tied_plain_at .later [] _ _ _ _ movesPairs_said (fun _ h => by cases h) (by kernel_rfl) (fun _ h => by cases h) movesPairs_row_tie rfl ⟨rfl, rfl⟩ (by kernel_rfl) rfl
    (fun f fn hf hfn => by
      obtain rfl : f = 4 := Option.some.inj ((show Tryd.prog.funcNamed "liaison/liaisonlaw11.MovesPairs" = some 4 by kernel_rfl).symm.trans hf) |>.symm
      obtain rfl : fn = Tryd.f4 := (Option.some.inj (Tryd.func4.symm.trans hfn)).symm
      exact ⟨by kernel_rfl, stand_ok (P := Tryd.prog) (by kernel_rfl)⟩)
    (by kernel_rfl)
end Go.Proofs.YtghjnhdepeiloaaDoor

