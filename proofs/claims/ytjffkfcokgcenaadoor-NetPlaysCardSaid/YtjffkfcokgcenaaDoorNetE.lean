/-
  BOTH NETS (own work): the landed one and the document's, beside blocks G that their calls leave alone.
-/
import Derived.Test.YtjffkfcokgcenaaDoorNetD
import Derived.Test.YtjffkfcokgcenaaDoorRnH
namespace Go.Proofs.YtjffkfcokgcenaaDoor
open Go.RowKit Go.Shelf Go.ChangeShapes Go.WideShapes

variable {ads : List Addr} {J : Nat → NetM → (Nat → Prop) → World → Prop} {w0 B w w' w1 w2 : World} {F F2 G G2 : Nat → Prop} {g q : Nat} {m m2 : NetM}
theorem Asd.beside {O O' G : Nat → Prop} (h : Asd O O' w w') : Asd (fun b => O b ∨ G b) (fun b => O' b ∨ G b) w w' :=
  ⟨h.os, h.tape, h.output, h.size, fun b hb hn => h.block b hb (fun q => hn (.inl q)), fun b hb => by
    rcases hb with hb | hb
    · rcases h.own b hb with q | q
      · exact .inl (.inl q)
      · exact .inr q
    · exact .inl (.inr hb)⟩
theorem Asd.beside2 {O G G' : Nat → Prop} (h : Asd G G' w w') : Asd (fun b => O b ∨ G b) (fun b => O b ∨ G' b) w w' :=
  ⟨h.os, h.tape, h.output, h.size, fun b hb hn => h.block b hb (fun q => hn (.inr q)), fun b hb => by
    rcases hb with hb | hb
    · exact .inl (.inl hb)
    · rcases h.own b hb with q | q
      · exact .inl (.inr q)
      · exact .inr q⟩
/-- THE LANDED NET STANDS AS m, THE DOCUMENT's AS m2; the blocks G are neither's. -/
def Bt (J : Nat → NetM → (Nat → Prop) → World → Prop) (w0 : World) (g q : Nat) (G : Nat → Prop) (m m2 : NetM) (w : World) : Prop :=
  ∃ v vc rb, AtN J w0 w0 (fun b => On q v vc rb b ∨ G b) g m w ∧ Rn w0 q m2 v vc rb w ∧ ∀ b, G b → w0.heap.size ≤ b ∧ ¬ On q v vc rb b
theorem Bt.base (h : Bt J w0 g q G m m2 w) : Kp w0 w := by
  obtain ⟨v, vc, rb, h1, -, -⟩ := h
  exact h1.base
theorem Bt.nok (h : Bt J w0 g q G m m2 w) : Nok m := by
  obtain ⟨v, vc, rb, h1, -, -⟩ := h
  exact h1.nok
theorem Bt.in (h : Bt J w0 g q G m m2 w) (b : Nat) (hb : G b) : w0.heap.size ≤ b ∧ b < w.heap.size := by
  obtain ⟨v, vc, rb, h1, -, h3⟩ := h
  exact ⟨(h3 b hb).1, h1.lt b (.inr hb)⟩
theorem Bt.see (h : Bt J w0 g q G m m2 w) : ∃ v vc rb, Rn w0 q m2 v vc rb w := by
  obtain ⟨v, vc, rb, -, h2, -⟩ := h
  exact ⟨v, vc, rb, h2⟩
theorem Bt.kp (C : NetC ads w0 J) (h : Bt J w0 g q G m m2 w) (hk : Kp w w') : Bt J w0 g q G m m2 w' := by
  obtain ⟨v, vc, rb, h1, h2, h3⟩ := h
  exact ⟨v, vc, rb, h1.kp C hk, h2.kp hk, h3⟩
theorem Bt.less (h : Bt J w0 g q G m m2 w) (hG : ∀ b, G2 b → G b) : Bt J w0 g q G2 m m2 w := by
  obtain ⟨v, vc, rb, h1, h2, h3⟩ := h
  exact ⟨v, vc, rb, h1.less (fun b hb => hb.elim .inl (fun q => .inr (hG b q))), h2, fun b hb => h3 b (hG b hb)⟩
theorem Bt.upto (C : NetC ads w0 J) (h : Bt J w0 g q G m m2 w) (hk : Kp w w') : Bt J w0 g q (fun b => G b ∨ (w.heap.size ≤ b ∧ b < w'.heap.size)) m m2 w' := by
  obtain ⟨v, vc, rb, h1, h2, h3⟩ := h
  refine ⟨v, vc, rb, (h1.upto C hk).less (fun b hb => ?_), h2.kp hk, fun b hb => ?_⟩
  · rcases hb with hb | hb | hb
    · exact .inl (.inl hb)
    · exact .inl (.inr hb)
    · exact .inr hb
  · rcases hb with hb | hb
    · exact h3 b hb
    · exact ⟨Nat.le_trans (Below.size h1.base) hb.1, fun hq => absurd (h2.mem b hq).2 (by omega)⟩
theorem Bt.more (C : NetC ads w0 J) (h : Bt J w0 g q G m m2 w) (o : Obj) : Bt J w0 g q (fun b => G b ∨ b = w.heap.size) m m2 (w.alloc o) :=
  (h.upto C (kp_alloc w o)).less fun b hb => hb.elim .inl (fun e => .inr (by subst e; simp))
/-- behind a call that changes only the blocks G -/
theorem Bt.own (C : NetC ads w0 J) (h : Bt J w0 g q G m m2 w) (ha : Asd G G2 w w') (hlt : ∀ b, G2 b → b < w'.heap.size) : Bt J w0 g q G2 m m2 w' := by
  obtain ⟨v, vc, rb, h1, h2, h3⟩ := h
  have h2' : Rn w0 q m2 v vc rb w' := h2.stay (fun b hb => ha.block b (h2.mem b hb).2 (fun hg => (h3 b hg).2 hb))
  refine ⟨v, vc, rb, h1.asd C ha.beside2 (fun b hb => hb.elim (fun e => (h2.mem b e).1) (fun e => (h3 b e).1)) (fun b hb => hb.elim (fun e => (h2'.mem b e).2) (fun e => hlt b e)), h2', fun b hb => ?_⟩
  rcases ha.own b hb with hb' | hb'
  · exact h3 b hb'
  · exact ⟨Nat.le_trans (Below.size h1.base) hb', fun hq => absurd (h2.mem b hq).2 (by omega)⟩
/-- a store into a block of G -/
theorem Bt.set (C : NetC ads w0 J) (h : Bt J w0 g q G m m2 w) {b i : Nat} (y : Value) (hb : G b) : Bt J w0 g q G m m2 (w.setCell ⟨b, i, none⟩ y) :=
  h.own C (asd_setN hb y) (fun c hc => by rw [World.size_setCell]; exact (h.in c hc).2)
/-- behind a call of the document's net -/
theorem Bt.ref (C : NetC ads w0 J) {v v' vc : Value} {rb : List Nat} {m3 : NetM} (h1 : AtN J w0 w0 (fun b => On q v vc rb b ∨ G b) g m w) (h2 : Rn w0 q m2 v vc rb w) (h3 : ∀ b, G b → w0.heap.size ≤ b ∧ ¬ On q v vc rb b) (h2' : Rn w0 q m3 v' vc rb w') (ha : Asd (On q v vc rb) (On q v' vc rb) w w') :
    Bt J w0 g q G m m3 w' ∧ ∀ b, G b → w'.heap[b]? = w.heap[b]? := by
  refine ⟨⟨v', vc, rb, h1.asd C ha.beside (fun b hb => hb.elim (fun e => (h2.mem b e).1) (fun e => (h3 b e).1)) (fun b hb => hb.elim (fun e => (h2'.mem b e).2) (fun e => Nat.lt_of_lt_of_le (h1.lt b (.inr e)) ha.size)), h2', fun b hb => ⟨(h3 b hb).1, fun hq => ?_⟩⟩, fun b hb => ha.block b (h1.lt b (.inr hb)) (h3 b hb).2⟩
  rcases ha.own b hq with e | e
  · exact (h3 b hb).2 e
  · exact absurd (h1.lt b (.inr hb)) (by omega)
theorem bt_new (C : NetC ads w0 J) (hk : Kp w0 w) (n : Nat) (h1 : 1 ≤ n) (h4 : n ≤ 4) (h : AtN J w0 w0 G g m w) (hG : ∀ b, G b → w0.heap.size ≤ b) : Calls Tryd.prog 11 #[.int .i64 n] w fun r w' => ∃ q, r = .returned (.pointer (some ⟨q, 0, none⟩)) ∧ Bt J w0 g q G m (NetM.new n) w' ∧ Kp w w' := by
  refine (rnNew_any h1 h4 (Below.size hk)).mono ?_
  rintro r w' ⟨q, vc, rb, rfl, h2, h3, hk'⟩
  refine ⟨q, rfl, ⟨_, vc, rb, (h.upto C hk').less (fun b hb => ?_), h2, fun b hb => ⟨hG b hb, fun hq => ?_⟩⟩, hk'⟩
  · rcases hb with hb | hb
    · exact .inr ⟨h3 b hb, (h2.mem b hb).2⟩
    · exact .inl hb
  · exact absurd (h.lt b hb) (by have := h3 b hq; omega)
theorem bt_put (_C : NetC ads w0 J) (h : Bt J w0 g q G m m2 w) (a b : Int) (o : Option Addr) (k c : Nat) (d : List Int) (hk : d.length = k) (hs : SlB (.slice o k c) d w) (hi : InB d) : Calls Tryd.prog 19 #[.pointer (some ⟨g, 0, none⟩), .agg #[.int .i64 a, .int .i64 b, .slice o k c]] w fun r w' => r = .returned (.tuple #[.bool (m.put ⟨a, b, d⟩).1.1, errI ads (m.put ⟨a, b, d⟩).1.2]) ∧ Bt J w0 g q G (m.put ⟨a, b, d⟩).2 m2 w' ∧ (∀ b, G b → w'.heap[b]? = w.heap[b]?) := by
  obtain ⟨v, vc, rb, h1, h2, h3⟩ := h
  refine (atN_put _C h1 a b o k c d hk hs hi).mono ?_
  rintro r w' ⟨e, h4, h5⟩
  exact ⟨e, ⟨v, vc, rb, h4, h2.stay (fun b hb => h5 b (.inl hb)), h3⟩, fun b hb => h5 b (.inr hb)⟩
theorem bt_copy (_C : NetC ads w0 J) (h : Bt J w0 g q G m m2 w) (i : Int) : Calls Tryd.prog 21 #[.pointer (some ⟨g, 0, none⟩), .int .i64 i] w fun r w' => r = .returned (errI ads (m.copy i).1) ∧ Bt J w0 g q G (m.copy i).2 m2 w' ∧ (∀ b, G b → w'.heap[b]? = w.heap[b]?) := by
  obtain ⟨v, vc, rb, h1, h2, h3⟩ := h
  refine (atN_copy _C h1 i).mono ?_
  rintro r w' ⟨e, h4, h5⟩
  exact ⟨e, ⟨v, vc, rb, h4, h2.stay (fun b hb => h5 b (.inl hb)), h3⟩, fun b hb => h5 b (.inr hb)⟩
theorem bt_move (_C : NetC ads w0 J) (h : Bt J w0 g q G m m2 w) (i t : Int) : Calls Tryd.prog 22 #[.pointer (some ⟨g, 0, none⟩), .int .i64 i, .int .i64 t] w fun r w' => r = .returned (errI ads (m.move i t).1) ∧ Bt J w0 g q G (m.move i t).2 m2 w' ∧ (∀ b, G b → w'.heap[b]? = w.heap[b]?) := by
  obtain ⟨v, vc, rb, h1, h2, h3⟩ := h
  refine (atN_move _C h1 i t).mono ?_
  rintro r w' ⟨e, h4, h5⟩
  exact ⟨e, ⟨v, vc, rb, h4, h2.stay (fun b hb => h5 b (.inl hb)), h3⟩, fun b hb => h5 b (.inr hb)⟩
theorem bt_cutW (_C : NetC ads w0 J) (h : Bt J w0 g q G m m2 w) (a b : Int) (is : Bool) : Calls Tryd.prog 18 #[.pointer (some ⟨g, 0, none⟩), .int .i64 a, .int .i64 b, .bool is] w fun r w' => r = .returned (errI ads (m.cutW a b is).1) ∧ Bt J w0 g q G (m.cutW a b is).2 m2 w' ∧ (∀ b, G b → w'.heap[b]? = w.heap[b]?) := by
  obtain ⟨v, vc, rb, h1, h2, h3⟩ := h
  refine (atN_cutW _C h1 a b is).mono ?_
  rintro r w' ⟨e, h4, h5⟩
  exact ⟨e, ⟨v, vc, rb, h4, h2.stay (fun b hb => h5 b (.inl hb)), h3⟩, fun b hb => h5 b (.inr hb)⟩
theorem bt_take (C : NetC ads w0 J) (h : Bt J w0 g q G m m2 w) (i : Int) : Calls Tryd.prog 20 #[.pointer (some ⟨g, 0, none⟩), .int .i64 i] w fun r w' => ∃ o c, r = .returned (.tuple #[.agg #[.int .i64 (m.take i).1.1.a, .int .i64 (m.take i).1.1.b, .slice o (m.take i).1.1.d.length c], errI ads (m.take i).1.2]) ∧ w'.ownsRow w.heap.size 5 1 (.slice o (m.take i).1.1.d.length c) (m.take i).1.1.d.length ((m.take i).1.1.d.map (Value.int .u8)) ∧ Bt J w0 g q (fun b => G b ∨ (Value.slice o (m.take i).1.1.d.length c).ownBlock = some b) (m.take i).2 m2 w' ∧ (∀ b, G b → w'.heap[b]? = w.heap[b]?) := by
  obtain ⟨v, vc, rb, h1, h2, h3⟩ := h
  refine (atN_take C h1 i).mono ?_
  rintro r w' ⟨o, c, e, hs, h4, h5⟩
  refine ⟨o, c, e, hs, ⟨v, vc, rb, h4.less (fun b hb => ?_), h2.stay (fun b hb => h5 b (.inl hb)), fun b hb => ?_⟩, fun b hb => h5 b (.inr hb)⟩
  · rcases hb with hb | hb | hb
    · exact .inl (.inl hb)
    · exact .inl (.inr hb)
    · exact .inr hb
  · rcases hb with hb | hb
    · exact h3 b hb
    · exact ⟨Nat.le_trans (Below.size h1.base) (hs.lt b hb).1, fun hq => absurd (h2.mem b hq).2 (by have := (hs.lt b hb).1; omega)⟩
theorem bt_len (C : NetC ads w0 J) (h : Bt J w0 g q G m m2 w) : Calls Tryd.prog 13 #[.pointer (some ⟨g, 0, none⟩)] w fun r w' => r = .returned (.int .i64 m.f.length) ∧ w = w' := by
  obtain ⟨v, vc, rb, h1, h2, h3⟩ := h
  exact atN_len C h1
theorem bt_lost (C : NetC ads w0 J) (h : Bt J w0 g q G m m2 w) : Calls Tryd.prog 14 #[.pointer (some ⟨g, 0, none⟩)] w fun r w' => r = .returned (.int .i64 m.lost) ∧ w = w' := by
  obtain ⟨v, vc, rb, h1, h2, h3⟩ := h
  exact atN_lost C h1
theorem bt_letters (C : NetC ads w0 J) (h : Bt J w0 g q G m m2 w) : Calls Tryd.prog 15 #[.pointer (some ⟨g, 0, none⟩)] w fun r w' => ∃ v ps, r = .returned v ∧ Hand w.heap.size m.f v ps w' ∧ Kp w w' := by
  obtain ⟨v, vc, rb, h1, h2, h3⟩ := h
  exact atN_letters C h1
theorem bt_to (C : NetC ads w0 J) (h : Bt J w0 g q G m m2 w) (nd : Int) : Calls Tryd.prog 17 #[.pointer (some ⟨g, 0, none⟩), .int .i64 nd] w fun r w' => ∃ lb Own, r = .returned (.func (.func 32) #[] lb) ∧ Kp w w' ∧ (∀ b, Own b → b < w'.heap.size ∧ w0.heap.size ≤ b ∧ ¬ G b) ∧ SeqT lb Own m.f nd w' := by
  obtain ⟨v, vc, rb, h1, h2, h3⟩ := h
  refine (atN_to C h1 nd).mono ?_
  rintro r w' ⟨lb, Own, e, hk, h4, h5⟩
  exact ⟨lb, Own, e, hk, fun b hb => ⟨(h4 b hb).1, (h4 b hb).2.1, fun hq => (h4 b hb).2.2 (.inr hq)⟩, h5⟩
theorem br_put (C : NetC ads w0 J) (h : Bt J w0 g q G m m2 w) (hm : Nok m2) (l : LtM) : Calls Tryd.prog 25 #[.pointer (some ⟨q, 0, none⟩), .agg #[.int .i64 l.a, .int .i64 l.b, .string (strOfNums l.d)]] w fun r w' => r = .returned (.tuple #[.bool (m2.put l).1.1, .int .i64 (m2.put l).1.2]) ∧ Bt J w0 g q G m (m2.put l).2 w' ∧ (∀ b, G b → w'.heap[b]? = w.heap[b]?) := by
  obtain ⟨v, vc, rb, h1, h2, h3⟩ := h
  refine (rnPut_any h2 hm l).mono ?_
  rintro r w' ⟨e, v', h4, h5⟩
  exact ⟨e, Bt.ref C h1 h2 h3 h4 h5⟩
theorem br_take (C : NetC ads w0 J) (h : Bt J w0 g q G m m2 w) (hm : Nok m2) (i : Int) : Calls Tryd.prog 26 #[.pointer (some ⟨q, 0, none⟩), .int .i64 i] w fun r w' => r = .returned (.tuple #[.agg (ltV (m2.take i).1.1), .int .i64 (m2.take i).1.2]) ∧ Bt J w0 g q G m (m2.take i).2 w' ∧ (∀ b, G b → w'.heap[b]? = w.heap[b]?) := by
  obtain ⟨v, vc, rb, h1, h2, h3⟩ := h
  refine (rnTake_any h2 hm i).mono ?_
  rintro r w' ⟨e, v', h4, h5⟩
  exact ⟨e, Bt.ref C h1 h2 h3 h4 h5⟩
theorem br_copy (C : NetC ads w0 J) (h : Bt J w0 g q G m m2 w) (i : Int) : Calls Tryd.prog 27 #[.pointer (some ⟨q, 0, none⟩), .int .i64 i] w fun r w' => r = .returned (.int .i64 (m2.copy i).1) ∧ Bt J w0 g q G m (m2.copy i).2 w' ∧ (∀ b, G b → w'.heap[b]? = w.heap[b]?) := by
  obtain ⟨v, vc, rb, h1, h2, h3⟩ := h
  refine (rnCopy_any h2 i).mono ?_
  rintro r w' ⟨e, v', h4, h5⟩
  exact ⟨e, Bt.ref C h1 h2 h3 h4 h5⟩
theorem br_move (C : NetC ads w0 J) (h : Bt J w0 g q G m m2 w) (hm : Nok m2) (i t : Int) : Calls Tryd.prog 28 #[.pointer (some ⟨q, 0, none⟩), .int .i64 i, .int .i64 t] w fun r w' => r = .returned (.int .i64 (m2.move i t).1) ∧ Bt J w0 g q G m (m2.move i t).2 w' ∧ (∀ b, G b → w'.heap[b]? = w.heap[b]?) := by
  obtain ⟨v, vc, rb, h1, h2, h3⟩ := h
  refine (rnMove_any h2 hm i t).mono ?_
  rintro r w' ⟨e, v', h4, h5⟩
  exact ⟨e, Bt.ref C h1 h2 h3 h4 h5⟩
theorem br_cutW (C : NetC ads w0 J) (h : Bt J w0 g q G m m2 w) (hm : Nok m2) (a b : Int) (is : Bool) : Calls Tryd.prog 29 #[.pointer (some ⟨q, 0, none⟩), .int .i64 a, .int .i64 b, .bool is] w fun r w' => r = .returned (.int .i64 (m2.cutW a b is).1) ∧ Bt J w0 g q G m (m2.cutW a b is).2 w' ∧ (∀ b, G b → w'.heap[b]? = w.heap[b]?) := by
  obtain ⟨v, vc, rb, h1, h2, h3⟩ := h
  refine (rnCut_any h2 hm a b is).mono ?_
  rintro r w' ⟨e, h4, h5⟩
  exact ⟨e, Bt.ref C h1 h2 h3 h4 h5⟩
end Go.Proofs.YtjffkfcokgcenaaDoor
