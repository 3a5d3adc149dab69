/-
  THE LANDED CLOCK (own work): its blocks; New, Now, Len, At, Tick, Drop.
-/
import Derived.Test.YtanbeaebdingeaaDoorTmM
import Derived.Test.YtanbeaebdingeaaDoorAsdW
import Derived.Test.YtanbeaebdingeaaDoorRwG
import Derived.Test.YtanbeaebdingeaaDoorFz
import Derived.Test.YtanbeaebdingeaaDoorStFl
import Derived.Test.YtanbeaebdingeaaDoorLaidE
import Derived.Maps.OwnSet
import Derived.Maps.RangeWalk
import Derived.StringKeys
import Derived.Sort.KeysCollected
import Derived.Carry
import Derived.Lib.Hide
namespace Go.Proofs.YtanbeaebdingeaaDoor
open Go.RowKit Go.ChangeShapes Go.WideShapes

theorem cell_row {b i : Nat} {t : TypeId} {w : World} {cs : Array Value} {x : Nat × Nat} {v : Value} (h : w.heap[b]? = some (.cells cs t x)) (hv : cs[i]? = some v) : w.cell? ⟨b, i, none⟩ = some v := by
  unfold World.cell?
  dsimp only
  rw [h]
  exact hv
theorem frozR {b : Nat} {t : TypeId} {w : World} {cs : Array Value} (h : w.heap[b]? = some (.cells cs t (0, 0))) (i : Nat) : w.frozen? ⟨b, i, none⟩ = false := by
  unfold World.frozen?
  dsimp only
  rw [h]
  simp
theorem kp_drewR {a b : World} (h : Kp a b) : Kp a b.drew := ⟨h.os, h.tape, h.output, h.size, h.block⟩
theorem kp_drewN {a b : World} (h : Kp a b) (n : Nat) : Kp a (b.drewN n) := ⟨h.os, h.tape, h.output, h.size, h.block⟩
theorem asd_setN {O : Nat → Prop} {g i : Nat} {w : World} (h : O g) (y : Value) : Asd O O w (w.setCell ⟨g, i, none⟩ y) where
  os := rfl
  tape := rfl
  output := rfl
  size := by simp
  block := fun b _ hn => Below.heap_setCell _ _ _ _ (fun e => hn (by rw [e]; exact h))
  own := fun b q => .inl q
theorem asd_map {O : Nat → Prop} {g : Nat} {w w' : World} (h : O g) (hg : w.grownBy w' (some g)) : Asd O O w w' where
  os := hg.os
  tape := hg.tape
  output := hg.output
  size := hg.size
  block := fun b hb hn => hg.block b hb (fun e => hn (by injection e with e; rw [e]; exact h))
  own := fun b q => .inl q

/-- a timer as a value, and as what the map's reading says -/
def Tm.v (t : Tm) : Value := .agg #[.float .f64 t.a, .int .i64 t.n, .float .f64 t.b, .float .f64 t.m]
def Tm.cells (t : Tm) : Array Value := #[.float .f64 t.a, .int .i64 t.n, .float .f64 t.b, .float .f64 t.m]
def tmD (a : Nat) (n : Int) (b m : Nat) : DataW Unit := .agg [.lit (.float .f64 a), .lit (.int .i64 n), .lit (.float .f64 b), .lit (.float .f64 m)]
def Tm.d (t : Tm) : DataW Unit := tmD t.a t.n t.b t.m
def tmR : Value → Option (DataW Unit × List MemPlace)
  | .agg cs => match cs.toList with
    | [.float .f64 a, .int .i64 n, .float .f64 b, .float .f64 m] => some (tmD a n b m, [])
    | _ => none
  | _ => none
theorem tmR_mk (a : Nat) (n : Int) (b m : Nat) : tmR (.agg #[.float .f64 a, .int .i64 n, .float .f64 b, .float .f64 m]) = some (tmD a n b m, []) := rfl
theorem tmR_inv {v : Value} {y : DataW Unit × List MemPlace} (h : tmR v = some y) : ∃ a n b m, v = .agg #[.float .f64 a, .int .i64 n, .float .f64 b, .float .f64 m] ∧ y = (tmD a n b m, []) := by
  unfold tmR at h
  split at h
  · rename_i cs
    split at h
    · rename_i a n b m he
      injection h with h
      refine ⟨a, n, b, m, ?_, h.symm⟩
      congr 1
      exact Array.toList_inj.1 he
    · cases h
  · cases h
theorem tmD_inj {a a' : Nat} {n n' : Int} {b b' m m' : Nat} (h : tmD a n b m = tmD a' n' b' m') : a = a' ∧ n = n' ∧ b = b' ∧ m = m' := by
  simpa [tmD] using h
theorem tmR_is {v : Value} {t : Tm} {ps : List MemPlace} (h : tmR v = some (t.d, ps)) : v = t.v := by
  obtain ⟨a, n, b, m, rfl, e⟩ := tmR_inv h
  injection e with e
  obtain ⟨rfl, rfl, rfl, rfl⟩ := tmD_inj e.symm
  rfl
theorem kS : Maps.Keyed Tryd.prog 9 := Maps.string_keyed Tryd.underlying9
theorem key_str {k : List UInt8} (h : k.length ≤ maxLen) : keyOf Tryd.prog 9 (encStr k) = some (.string k) := by
  have := WideMaps.keyOf_string_mk Tryd.underlying9 (s := ⟨k.toArray⟩) (by simpa [ByteArray.size] using h)
  simpa using this
theorem key_lit {k : List UInt8} (h : k.length ≤ maxLen) : WideAt.IsKeyLit (.string k) := kS.key (key_str h)
theorem zero_tm (w : World) : (zeroValue 71).run Tryd.prog w = .ok tm0.v w := by kernel_rfl

/-- THE MAP's READING D TELLS THE TIMERS OF c. -/
structure MapM (D : DataW Unit) (c : CkM) : Prop where
  at' : ∀ k : List UInt8, k.length ≤ maxLen → ∀ zd, D.atKey (.string k) zd = match c.look k with | some t => t.d | none => zd
  size : Maps.size D = c.ts.length
theorem MapM.has {D : DataW Unit} {c : CkM} (h : MapM D c) {k : List UInt8} (hk : k.length ≤ maxLen) : Maps.has D (.string k) = c.has k := by
  have ha := h.at' k hk
  unfold CkM.has
  cases hl : c.look k with
  | some t =>
    rw [hl] at ha
    exact Maps.has_true_of_atKey ha
  | none =>
    rw [hl] at ha
    exact Maps.has_false_of_atKey ha
theorem MapM.get {D : DataW Unit} {c : CkM} (h : MapM D c) {k : List UInt8} (hk : k.length ≤ maxLen) : D.atKey (.string k) tm0.d = (c.getT k).d := by
  rw [h.at' k hk]
  cases hl : c.look k with
  | some t => rw [getT_some hl]
  | none => rw [getT_none hl]
theorem mapM_new : MapM (.map []) ckNew where
  at' := fun k hk zd => by rw [WideAt.atKey_none _ (fun p hp => by cases hp)]; rfl
  size := rfl
theorem mapM_put {D : DataW Unit} {c : CkM} (h : MapM D c) (T : Maps.Tidy D) (nd : c.ts.Pairwise (fun x y => x.k ≠ y.k)) {t : Tm} (ht : t.k.length ≤ maxLen) : MapM (D.put (.string t.k) t.d) (c.put t) where
  at' := fun k hk zd => by
    rw [look_put nd]
    by_cases e : k = t.k
    · rw [if_pos e, e, Maps.atKey_put_same T.isMap (key_lit ht)]
    · rw [if_neg e, Maps.atKey_put_other (fun q => e (by injection q))]
      exact h.at' k hk zd
  size := by rw [Maps.size_put T, h.has ht, put_len, h.size]
theorem mapM_drop {D : DataW Unit} {c : CkM} (h : MapM D c) (T : Maps.Tidy D) (nd : c.ts.Pairwise (fun x y => x.k ≠ y.k)) {k : List UInt8} (hk : k.length ≤ maxLen) : MapM (D.del (.string k)) (c.drop k) where
  at' := fun k' hk' zd => by
    rw [look_drop nd]
    by_cases e : k' = k
    · rw [if_pos e, e, Maps.atKey_del_same]
    · rw [if_neg e, Maps.atKey_del_other (fun q => e (by injection q))]
      exact h.at' k' hk' zd
  size := by
    have hs := Maps.size_del (k := .string k) T
    rw [h.has hk, h.size] at hs
    cases hh : c.has k with
    | true =>
      rw [hh, if_pos rfl] at hs
      have := drop_len hh
      omega
    | false =>
      rw [hh] at hs
      rw [drop_no hh]
      simpa using hs
/-- few entries, few keys -/
theorem own_fits {w : World} {b n : Nat} {D : DataW Unit} (h : w.ownsMap Tryd.prog 9 tmR b n D) (hs : Maps.size D ≤ 64) : w.ownsMap Tryd.prog 9 tmR b 64 D := by
  obtain ⟨es, clock, hb, F, _, rfl⟩ := h
  refine ⟨es, clock, hb, F, ?_, rfl⟩
  simpa [Maps.size, length_sorted] using hs
/-- THE LANDED CLOCK: its block, its map -/
structure Lk (w0 : World) (q mb : Nat) (c : CkM) (w : World) : Prop where
  row : w.heap[q]? = some (.cells #[.float .f64 c.now, .map (some mb)] 65 (0, 0))
  bq : w0.heap.size ≤ q
  bm : w0.heap.size ≤ mb
  map : ∃ D, w.ownsMap Tryd.prog 9 tmR mb 64 D ∧ MapM D c
  ok : CkOk c
def Ol (q mb : Nat) (b : Nat) : Prop := b = q ∨ b = mb
variable {w0 w w' W w3 : World} {q mb : Nat} {c : CkM}
theorem Lk.mem (h : Lk w0 q mb c w) : ∀ b, Ol q mb b → w0.heap.size ≤ b ∧ b < w.heap.size := by
  obtain ⟨D, hD, _⟩ := h.map
  rintro b (rfl | rfl)
  · exact ⟨h.bq, old_of_row h.row⟩
  · exact ⟨h.bm, hD.lt⟩
theorem ownsMap_stay {b n : Nat} {D : DataW Unit} (h : w.ownsMap Tryd.prog 9 tmR b n D) (hb : w'.heap[b]? = w.heap[b]?) : w'.ownsMap Tryd.prog 9 tmR b n D := by
  obtain ⟨es, clock, h1, r⟩ := h
  exact ⟨es, clock, hb.trans h1, r⟩
theorem Lk.stay (h : Lk w0 q mb c w) (hb : ∀ b, Ol q mb b → w'.heap[b]? = w.heap[b]?) : Lk w0 q mb c w' := by
  obtain ⟨D, hD, hm⟩ := h.map
  exact ⟨by rw [hb q (.inl rfl)]; exact h.row, h.bq, h.bm, ⟨D, ownsMap_stay hD (hb mb (.inr rfl)), hm⟩, h.ok⟩
theorem Lk.kp (h : Lk w0 q mb c w) (hk : Kp w w') : Lk w0 q mb c w' := h.stay fun b hb => Below.block hk b (h.mem b hb).2
theorem Lk.base {w1 : World} (h : Lk w0 q mb c w) (hb : w1.heap.size ≤ w0.heap.size) : Lk w1 q mb c w := ⟨h.row, Nat.le_trans hb h.bq, Nat.le_trans hb h.bm, h.map, h.ok⟩
theorem Lk.ne (h : Lk w0 q mb c w) : mb ≠ q := fun e => by
  obtain ⟨D, ⟨es, clock, hb, _⟩, _⟩ := h.map
  rw [e, h.row] at hb
  cases hb
/-- a key looked up -/
theorem Lk.look (h : Lk w0 q mb c w) {k : List UInt8} (hk : k.length ≤ maxLen) : (Instr.lookup 63 (.map (some mb)) (encStr k) true).run Tryd.prog w = .ok (.tuple #[(c.getT k).v, .bool (c.has k)]) w := by
  obtain ⟨D, hD, hm⟩ := h.map
  obtain ⟨v, ps, hr, hv⟩ := hD.look_ok kS Tryd.underlying63 (zero_tm w) (zd := tm0.d) (zp := []) rfl (key_str hk)
  rw [hm.get hk] at hv
  rw [hr, hm.has hk, tmR_is hv]
theorem Lk.look1 (h : Lk w0 q mb c w) {k : List UInt8} (hk : k.length ≤ maxLen) : (Instr.lookup 63 (.map (some mb)) (encStr k) false).run Tryd.prog w = .ok (c.getT k).v w := by
  obtain ⟨D, hD, hm⟩ := h.map
  obtain ⟨v, ps, hr, hv⟩ := hD.lookup kS Tryd.underlying63 (zero_tm w) (zd := tm0.d) (zp := []) rfl (key_str hk)
  rw [hm.get hk] at hv
  rw [hr, tmR_is hv]
theorem Lk.len (h : Lk w0 q mb c w) (ty : TypeId) : (Builtin.len_ #[63] ty #[.map (some mb)]).run Tryd.prog w = .ok (.int .i64 c.ts.length) w := by
  obtain ⟨D, hD, hm⟩ := h.map
  rw [hD.len Tryd.underlying63, hm.size]
/-- a timer put in, a timer dropped -/
theorem Lk.put (h : Lk w0 q mb c w) {t : Tm} (ht : t.ok) (hl : c.has t.k = true ∨ c.ts.length ≤ 63) : ∃ w', (Instr.mapUpdate 63 (.map (some mb)) (encStr t.k) t.v).run Tryd.prog w = .ok () w' ∧ Lk w0 q mb (c.put t) w' ∧ Asd (Ol q mb) (Ol q mb) w w' := by
  obtain ⟨D, hD, hm⟩ := h.map
  obtain ⟨w', hr, ho, hg⟩ := hD.update kS Tryd.underlying63 (by unfold maxLen; omega) (key_str ht.k) (tmR_mk t.a t.n t.b t.m)
  have hc := put_ok h.ok ht hl
  have hm2 := mapM_put hm (hD.tidy kS) h.ok.nd ht.k
  refine ⟨w', hr, ⟨?_, h.bq, h.bm, ⟨_, own_fits ho (Nat.le_trans (Nat.le_of_eq hm2.size) hc.len), hm2⟩, hc⟩, asd_map (.inr rfl) hg⟩
  rw [hg.block q (old_of_row h.row) (fun e => h.ne (Option.some.inj e).symm)]
  exact h.row
theorem Lk.del (h : Lk w0 q mb c w) {k : List UInt8} (hk : k.length ≤ maxLen) (ty : TypeId) : ∃ w', (Builtin.delete_ #[63, 9] ty #[.map (some mb), encStr k]).run Tryd.prog w = .ok (.tuple #[]) w' ∧ Lk w0 q mb (c.drop k) w' ∧ Asd (Ol q mb) (Ol q mb) w w' := by
  obtain ⟨D, hD, hm⟩ := h.map
  obtain ⟨w', hr, ho, ht⟩ := hD.drop kS Tryd.underlying63 (key_str hk) ty
  have hc := drop_ok h.ok k
  have hm2 := mapM_drop hm (hD.tidy kS) h.ok.nd hk
  refine ⟨w', hr, ⟨?_, h.bq, h.bm, ⟨_, ho, hm2⟩, hc⟩, asd_map (.inr rfl) ht.grown⟩
  rw [ht.grown.block q (old_of_row h.row) (fun e => h.ne (Option.some.inj e).symm)]
  exact h.row
set_option maxRecDepth 100000 in
theorem lkNew (w : World) : Calls Tryd.prog 9 #[] w fun r w' => ∃ q mb, r = .returned (.pointer (some ⟨q, 0, none⟩)) ∧ Lk w q mb ckNew w' ∧ Kp w w' := by
  have hmm := @run_makeMap Tryd.prog
  have k1 := kp_alloc w (.map #[] 0)
  have k2 := kp_alloc (w.alloc (.map #[] 0)) (.cells #[.float .f64 0, .map (some w.heap.size)] 65)
  have r2 := (MapKept.heap_alloc (w.alloc (.map #[] 0)) (.cells #[.float .f64 0, .map (some w.heap.size)] 65)).1
  rw [show (w.alloc (.map #[] 0)).heap.size = w.heap.size + 1 by simp] at r2
  have cm := ownsMap_stay ((World.ownsMap_made w Tryd.prog 9 tmR).mono (Nat.zero_le 64)) (Below.block k2 w.heap.size (by simp))
  obtain ⟨W, hW⟩ : ∃ W, (w.alloc (.map #[] 0)).alloc (.cells #[.float .f64 0, .map (some w.heap.size)] 65) = W := ⟨_, rfl⟩
  rw [hW] at k2 r2 cm
  have FIN := Lib.hid (show Lk w (w.heap.size + 1) w.heap.size ckNew W from ⟨r2, by omega, Nat.le_refl _, ⟨_, cm, mapM_new⟩, ckNew_ok⟩)
  have KW := Lib.hid (Kp.trans k1 k2)
  have HW := Lib.hid hW
  clear k1 k2 r2 cm hW
  go_enter Tryd.func9, Tryd.ntmps9
  go_wp2
  go_ret
  rw [HW.out]
  exact ⟨_, _, rfl, FIN.out, KW.out⟩
set_option maxRecDepth 100000 in
theorem lkNow (H : Lk w0 q mb c w) : Calls Tryd.prog 12 #[.pointer (some ⟨q, 0, none⟩)] w fun r w' => r = .returned (.float .f64 c.now) ∧ w = w' := by
  have e0 := cell_row (i := 0) H.row rfl
  clear H
  go_enter Tryd.func12, Tryd.ntmps12
  go_wp2
  go_ret
  exact ⟨rfl, rfl⟩
set_option maxRecDepth 100000 in
theorem lkLen (H : Lk w0 q mb c w) : Calls Tryd.prog 13 #[.pointer (some ⟨q, 0, none⟩)] w fun r w' => r = .returned (.int .i64 c.ts.length) ∧ w = w' := by
  have e0 := cell_row (i := 1) H.row rfl
  have hl := H.len
  obtain ⟨n, hn⟩ : ∃ n : Int, (c.ts.length : Int) = n := ⟨_, rfl⟩
  rw [hn]
  simp only [hn] at hl
  clear H hn
  go_enter Tryd.func13, Tryd.ntmps13
  go_wp2
  go_ret
  exact ⟨rfl, rfl⟩
set_option maxRecDepth 100000 in
theorem lkAt (H : Lk w0 q mb c w) {k : List UInt8} (hk : k.length ≤ maxLen) : Calls Tryd.prog 19 #[.pointer (some ⟨q, 0, none⟩), encStr k] w fun r w' => r = .returned (.tuple #[.float .f64 (c.getT k).a, .int .i64 (c.getT k).n, .bool (c.has k)]) ∧ Kp w w' := by
  have e0 := cell_row (i := 1) H.row rfl
  have hl := H.look hk
  obtain ⟨⟨kk, a, n, b, m⟩, ht⟩ : ∃ t, c.getT k = t := ⟨_, rfl⟩
  obtain ⟨is, his⟩ : ∃ x, c.has k = x := ⟨_, rfl⟩
  obtain ⟨s, hs⟩ : ∃ s, (⟨k.toArray⟩ : ByteArray) = s := ⟨_, rfl⟩
  unfold encStr at hl ⊢
  rw [ht, his, hs] at hl
  rw [ht, his, hs]
  unfold Tm.v at hl
  dsimp only at hl ⊢
  have k1 := kp_alloc w (.cells #[.float .f64 a, .int .i64 n, .float .f64 b, .float .f64 m] 71)
  have r1 := (MapKept.heap_alloc w (.cells #[.float .f64 a, .int .i64 n, .float .f64 b, .float .f64 m] 71)).1
  have KW := Lib.hid k1
  have x0 : (w.alloc (.cells #[.float .f64 a, .int .i64 n, .float .f64 b, .float .f64 m] 71)).cell? ⟨w.heap.size, 0, none⟩ = some (.float .f64 a) := cell_row (i := 0) r1 rfl
  have x1 : (w.alloc (.cells #[.float .f64 a, .int .i64 n, .float .f64 b, .float .f64 m] 71)).cell? ⟨w.heap.size, 1, none⟩ = some (.int .i64 n) := cell_row (i := 1) r1 rfl
  have hsf := store_fl
  clear H ht his hs hk k1 r1
  go_enter Tryd.func19, Tryd.ntmps19
  go_wp2
  go_quiet (fail)
  go_wp2
  go_ret3
  exact ⟨rfl, kp_drewN KW.out _⟩
theorem errI_some (ads : List Addr) (k : Int) (h : k ≠ 0) : ∃ o, errI ads k = .iface 131 (.pointer o) := ⟨_, by unfold errI; rw [if_neg h]⟩
theorem Lk.setNow (h : Lk w0 q mb c w) {r : Nat} (hr : r ≤ 9218868437227405312) : Lk w0 q mb ⟨r, c.ts⟩ (w.setCell ⟨q, 0, none⟩ (.float .f64 r)) ∧ Asd (Ol q mb) (Ol q mb) w (w.setCell ⟨q, 0, none⟩ (.float .f64 r)) := by
  obtain ⟨D, hD, hm⟩ := h.map
  refine ⟨⟨(Joins.block_setCell h.row _).trans rfl, h.bq, h.bm, ⟨D, ownsMap_stay hD (Below.heap_setCell _ _ _ _ h.ne), ⟨hm.at', hm.size⟩⟩, ⟨hr, h.ok.len, h.ok.nd, h.ok.each⟩⟩, asd_setN (.inl rfl) _⟩
/-- delete, at the operation -/
theorem wpList_del_lk {ops : Array Oper} {rest : List Oper} {o : Oper} {a : Act} {Q : Exit → Act → World → Prop} (hg : o.guard = none) (m x : Operand) (hop : o.op = Op.call { callee := Callee.builtin Builtin.delete, args := #[m, x], argTypes := #[63, 9] })
    (H : Lk w0 q mb c w) {k : List UInt8} {s : ByteArray} (hk : k.length ≤ maxLen) (hs : (⟨k.toArray⟩ : ByteArray) = s) (hm : a.eval m = .map (some mb)) (hx : a.eval x = .string s)
    (hK : ∀ w', Lk w0 q mb (c.drop k) w' → Asd (Ol q mb) (Ol q mb) w w' → wpList Tryd.prog ops Q rest (a.put o.dst (.tuple #[])) w') : wpList Tryd.prog ops Q (o :: rest) a w := by
  refine wpList_plain hg fun K' hK' => ?_
  obtain ⟨w', hrun, r1, r2⟩ := H.del hk o.type
  rw [← hs] at hx
  unfold Oper.wp
  simp [execOp, hop, resolve, invoke, builtin, hm, hx, hrun, Result.andThen]
  exact hK' _ _ (hK w' r1 r2)
set_option maxRecDepth 100000 in
theorem lkTick_ok (H : Lk w0 q mb c w) {x : Nat} (hx : Fl.dl x = true) : Calls Tryd.prog 25 #[.pointer (some ⟨q, 0, none⟩), .float .f64 x] w fun r w' => r = .returned .nilIface ∧ Lk w0 q mb ⟨Fl.addR c.now (Fl.plain x), c.ts⟩ w' ∧ Asd (Ol q mb) (Ol q mb) w w' := by
  have hr := add_plain H.ok.now hx
  have hle := (add_le H.ok.now (Fl.dl_plain hx).1).2.1
  obtain ⟨r, hrr⟩ : ∃ r, Fl.addR c.now (Fl.plain x) = r := ⟨_, rfl⟩
  rw [hrr] at hr hle ⊢
  have HL := Lib.hid (fun w1 : World => later_ok c.now x r w1 (Fl.dl_of_le H.ok.now).1 hx hr)
  have FIN := Lib.hid (H.setNow hle)
  have e0 : w.cell? ⟨q, 0, none⟩ = some (.float .f64 c.now) := cell_row (i := 0) H.row rfl
  have fz := frozR H.row 0
  have hsf := store_fl
  obtain ⟨nw, hnw⟩ : ∃ x, c.now = x := ⟨_, rfl⟩
  rw [hnw] at e0 HL
  clear H hr hle hrr hnw hx
  go_enter Tryd.func25, Tryd.ntmps25
  go_wp2_with (go_at_call 42; (with_reducible refine (HL.out _).mono ?_); rintro e' w3 ⟨rfl, rfl⟩)
  go_ret
  exact ⟨rfl, FIN.out⟩
set_option maxRecDepth 100000 in
theorem lkTick_no (H : Lk w0 q mb c w) {x : Nat} (h64 : x < 18446744073709551616) (hx : Fl.dl x = false) {ads : List Addr} (E : EP [0, 3, 5, 7] ads w) : Calls Tryd.prog 25 #[.pointer (some ⟨q, 0, none⟩), .float .f64 x] w fun r w' => r = .returned (errI ads 4) ∧ Kp w w' := by
  have ec := E.cell 3 (by decide)
  obtain ⟨o4, ho4⟩ := errI_some ads 4 (by decide)
  have ec : w.cell? ⟨3, 0, none⟩ = some (errI ads 4) := ec
  rw [ho4] at ec ⊢
  have HL := Lib.hid (later_err c.now x _ w (by have := H.ok.now; omega) h64 (.inr hx) ec)
  have e0 : w.cell? ⟨q, 0, none⟩ = some (.float .f64 c.now) := cell_row (i := 0) H.row rfl
  obtain ⟨nw, hnw⟩ : ∃ x, c.now = x := ⟨_, rfl⟩
  rw [hnw] at e0 HL
  clear H hnw hx E ec ho4
  go_enter Tryd.func25, Tryd.ntmps25
  go_wp2_with (go_at_call 42; (with_reducible refine HL.out.mono ?_); rintro e' w3 ⟨rfl, hk3⟩)
  go_ret
  exact ⟨rfl, hk3⟩
set_option maxRecDepth 100000 in
theorem lkDrop (H : Lk w0 q mb c w) {k : List UInt8} (hk : k.length ≤ maxLen) : Calls Tryd.prog 23 #[.pointer (some ⟨q, 0, none⟩), encStr k] w fun r w' => r = .returned (.bool (c.has k)) ∧ Lk w0 q mb (c.drop k) w' ∧ Asd (Ol q mb) (Ol q mb) w w' := by
  have e0 : w.cell? ⟨q, 1, none⟩ = some (.map (some mb)) := cell_row (i := 1) H.row rfl
  have hl := H.look hk
  obtain ⟨⟨kk, a, n, b, m⟩, ht⟩ : ∃ t, c.getT k = t := ⟨_, rfl⟩
  obtain ⟨is, his⟩ : ∃ x, c.has k = x := ⟨_, rfl⟩
  obtain ⟨s, hs⟩ : ∃ s, (⟨k.toArray⟩ : ByteArray) = s := ⟨_, rfl⟩
  unfold encStr at hl ⊢
  rw [ht, his, hs] at hl
  rw [his, hs]
  unfold Tm.v at hl
  dsimp only at hl
  have k1 := kp_alloc w (.cells #[.float .f64 a, .int .i64 n, .float .f64 b, .float .f64 m] 71)
  obtain ⟨W, hW⟩ : ∃ W, w.alloc (.cells #[.float .f64 a, .int .i64 n, .float .f64 b, .float .f64 m] 71) = W := ⟨_, rfl⟩
  rw [hW] at k1
  have KW := Lib.hid k1
  have HW := Lib.hid (H.kp k1)
  have HK := Lib.hid hk
  have HS := Lib.hid hs
  have hsf := store_fl
  have e1 := cell_row (i := 1) HW.out.row rfl
  clear H ht his hs hk k1
  go_enter Tryd.func23, Tryd.ntmps23
  go_wp2_with (at_delete; refine wpList_del_lk rfl _ _ rfl HW.out HK.out HS.out rfl rfl ?_; intro wD hL hA)
  go_ret
  exact ⟨rfl, hL, (Asd.of_kp _ KW.out).trans hA⟩
end Go.Proofs.YtanbeaebdingeaaDoor
