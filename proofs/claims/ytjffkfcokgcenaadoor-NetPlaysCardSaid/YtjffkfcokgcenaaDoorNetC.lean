/-
  WHAT PACKAGE net ANSWERS (own work), as the laws of layer 12 want it: a field a function, over whatever a net is made of (J; its own blocks O).
-/
import Derived.Test.YtjffkfcokgcenaaDoorNtJ
namespace Go.Proofs.YtjffkfcokgcenaaDoor
open Go.RowKit Go.Shelf Go.ChangeShapes Go.WideShapes

structure NetC (ads : List Addr) (w0 : World) (J : Nat → NetM → (Nat → Prop) → World → Prop) : Prop where
  stay : ∀ {g m O w w'}, J g m O w → (∀ b, O b → w'.heap[b]? = w.heap[b]?) → J g m O w'
  mem : ∀ {g m O w}, J g m O w → ∀ b, O b → w0.heap.size ≤ b ∧ b < w.heap.size
  new_ok : ∀ w1, Kp w0 w1 → ∀ n : Nat, 1 ≤ n → n ≤ 4 → Calls Tryd.prog 9 #[.int .i64 n] w1 fun r w' => ∃ g O, r = .returned (.tuple #[.pointer (some ⟨g, 0, none⟩), .nilIface]) ∧ J g (NetM.new n) O w' ∧ (∀ b, O b → w1.heap.size ≤ b) ∧ Kp w1 w'
  new_no : ∀ w1, Kp w0 w1 → ∀ n : Int, ¬ (1 ≤ n ∧ n ≤ 4) → Calls Tryd.prog 9 #[.int .i64 n] w1 fun r w' => r = .returned (.tuple #[.pointer none, errI ads 1]) ∧ Kp w1 w'
  put : ∀ w1, Kp w0 w1 → ∀ g m O, J g m O w1 → Nok m → ∀ (a b : Int) (o : Option Addr) (k c : Nat) (d : List Int), d.length = k → SlB (.slice o k c) d w1 → Calls Tryd.prog 19 #[.pointer (some ⟨g, 0, none⟩), .agg #[.int .i64 a, .int .i64 b, .slice o k c]] w1 fun r w' => r = .returned (.tuple #[.bool (m.put ⟨a, b, d⟩).1.1, errI ads (m.put ⟨a, b, d⟩).1.2]) ∧ ∃ O', J g (m.put ⟨a, b, d⟩).2 O' w' ∧ Asd O O' w1 w'
  take : ∀ w1, Kp w0 w1 → ∀ g m O, J g m O w1 → Nok m → ∀ i : Int, Calls Tryd.prog 20 #[.pointer (some ⟨g, 0, none⟩), .int .i64 i] w1 fun r w' => ∃ o c, r = .returned (.tuple #[.agg #[.int .i64 (m.take i).1.1.a, .int .i64 (m.take i).1.1.b, .slice o (m.take i).1.1.d.length c], errI ads (m.take i).1.2]) ∧ w'.ownsRow w1.heap.size 5 1 (.slice o (m.take i).1.1.d.length c) (m.take i).1.1.d.length ((m.take i).1.1.d.map (Value.int .u8)) ∧ ∃ O', J g (m.take i).2 O' w' ∧ Asd O O' w1 w' ∧ ∀ b, (Value.slice o (m.take i).1.1.d.length c).ownBlock = some b → ¬ O' b
  copy : ∀ w1, Kp w0 w1 → ∀ g m O, J g m O w1 → Nok m → ∀ i : Int, Calls Tryd.prog 21 #[.pointer (some ⟨g, 0, none⟩), .int .i64 i] w1 fun r w' => r = .returned (errI ads (m.copy i).1) ∧ ∃ O', J g (m.copy i).2 O' w' ∧ Asd O O' w1 w'
  move : ∀ w1, Kp w0 w1 → ∀ g m O, J g m O w1 → Nok m → ∀ i t : Int, Calls Tryd.prog 22 #[.pointer (some ⟨g, 0, none⟩), .int .i64 i, .int .i64 t] w1 fun r w' => r = .returned (errI ads (m.move i t).1) ∧ ∃ O', J g (m.move i t).2 O' w' ∧ Asd O O' w1 w'
  cutW : ∀ w1, Kp w0 w1 → ∀ g m O, J g m O w1 → Nok m → ∀ (a b : Int) (is : Bool), Calls Tryd.prog 18 #[.pointer (some ⟨g, 0, none⟩), .int .i64 a, .int .i64 b, .bool is] w1 fun r w' => r = .returned (errI ads (m.cutW a b is).1) ∧ ∃ O', J g (m.cutW a b is).2 O' w' ∧ Asd O O' w1 w'
  len : ∀ w1, Kp w0 w1 → ∀ g m O, J g m O w1 → Nok m → Calls Tryd.prog 13 #[.pointer (some ⟨g, 0, none⟩)] w1 fun r w' => r = .returned (.int .i64 m.f.length) ∧ w1 = w'
  lost : ∀ w1, Kp w0 w1 → ∀ g m O, J g m O w1 → Nok m → Calls Tryd.prog 14 #[.pointer (some ⟨g, 0, none⟩)] w1 fun r w' => r = .returned (.int .i64 m.lost) ∧ w1 = w'
  letters : ∀ w1, Kp w0 w1 → ∀ g m O, J g m O w1 → Nok m → Calls Tryd.prog 15 #[.pointer (some ⟨g, 0, none⟩)] w1 fun r w' => ∃ v ps, r = .returned v ∧ Hand w1.heap.size m.f v ps w' ∧ Kp w1 w'
  to : ∀ w1, Kp w0 w1 → ∀ g m O, J g m O w1 → Nok m → ∀ nd : Int, Calls Tryd.prog 17 #[.pointer (some ⟨g, 0, none⟩), .int .i64 nd] w1 fun r w' => ∃ lb Own, r = .returned (.func (.func 32) #[] lb) ∧ Kp w1 w' ∧ (∀ b, Own b → b < w'.heap.size ∧ (w1.heap.size ≤ b ∨ O b)) ∧ SeqT lb Own m.f nd w'
/-- A NET MADE BEHIND B; its calls leave the blocks F alone. -/
def AtN (J : Nat → NetM → (Nat → Prop) → World → Prop) (w0 B : World) (F : Nat → Prop) (g : Nat) (m : NetM) (w1 : World) : Prop :=
  ∃ O, J g m O w1 ∧ (∀ b, O b → B.heap.size ≤ b) ∧ Kp w0 B ∧ Kp B w1 ∧ (∀ b, F b → ¬ O b ∧ b < w1.heap.size) ∧ Nok m
variable {ads : List Addr} {J : Nat → NetM → (Nat → Prop) → World → Prop} {w0 B w1 w2 : World} {F F2 : Nat → Prop} {g : Nat} {m : NetM}
theorem AtN.base (h : AtN J w0 B F g m w1) : Kp B w1 := h.choose_spec.2.2.2.1
theorem AtN.nok (h : AtN J w0 B F g m w1) : Nok m := h.choose_spec.2.2.2.2.2
theorem AtN.lt (h : AtN J w0 B F g m w1) : ∀ b, F b → b < w1.heap.size := fun b hb => (h.choose_spec.2.2.2.2.1 b hb).2
theorem AtN.kp (C : NetC ads w0 J) (h : AtN J w0 B F g m w1) (hk : Kp w1 w2) : AtN J w0 B F g m w2 := by
  obtain ⟨O, hj, hO, hb, hB, hF, hp⟩ := h
  exact ⟨O, C.stay hj (fun b hb => Below.block hk b (C.mem hj b hb).2), hO, hb, Kp.trans hB hk, fun b q => ⟨(hF b q).1, Nat.lt_of_lt_of_le (hF b q).2 (Below.size hk)⟩, hp⟩
theorem AtN.more (C : NetC ads w0 J) (h : AtN J w0 B F g m w1) (o : Obj) : AtN J w0 B (fun b => F b ∨ b = w1.heap.size) g m (w1.alloc o) := by
  have hk := kp_alloc w1 o
  have hs : (w1.alloc o).heap.size = w1.heap.size + 1 := by simp
  obtain ⟨O, hj, hO, hb, hB, hF, hp⟩ := h
  refine ⟨O, C.stay hj (fun b hb => Below.block hk b (C.mem hj b hb).2), hO, hb, Kp.trans hB hk, fun b q => ?_, hp⟩
  rcases q with q | rfl
  · exact ⟨(hF b q).1, Nat.lt_of_lt_of_le (hF b q).2 (Below.size hk)⟩
  · exact ⟨fun q => Nat.lt_irrefl _ (C.mem hj _ q).2, by omega⟩
/-- more blocks that are let alone: any that were made since -/
theorem AtN.upto (C : NetC ads w0 J) (h : AtN J w0 B F g m w1) (hk : Kp w1 w2) : AtN J w0 B (fun b => F b ∨ (w1.heap.size ≤ b ∧ b < w2.heap.size)) g m w2 := by
  obtain ⟨O, hj, hO, hb, hB, hF, hp⟩ := h
  refine ⟨O, C.stay hj (fun b hb => Below.block hk b (C.mem hj b hb).2), hO, hb, Kp.trans hB hk, fun b q => ?_, hp⟩
  rcases q with q | q
  · exact ⟨(hF b q).1, Nat.lt_of_lt_of_le (hF b q).2 (Below.size hk)⟩
  · exact ⟨fun q2 => by have := (C.mem hj _ q2).2; omega, q.2⟩
theorem AtN.less (h : AtN J w0 B F g m w1) (hG : ∀ b, F2 b → F b) : AtN J w0 B F2 g m w1 := by
  obtain ⟨O, hj, hO, hb, hB, hF, hp⟩ := h
  exact ⟨O, hj, hO, hb, hB, fun b q => hF b (hG b q), hp⟩
/-- behind a call that changes only blocks that are let alone -/
theorem AtN.asd (C : NetC ads w0 J) (h : AtN J w0 B F g m w1) (ha : Asd F F2 w1 w2) (hFB : ∀ b, F b → B.heap.size ≤ b) (hlt : ∀ b, F2 b → b < w2.heap.size) : AtN J w0 B F2 g m w2 := by
  obtain ⟨O, hj, hO, hb, hB, hF, hp⟩ := h
  refine ⟨O, C.stay hj (fun b hb => ha.block b (C.mem hj b hb).2 (fun q => (hF b q).1 hb)), hO, hb, ha.kp hB hFB, fun b q => ⟨fun q2 => ?_, hlt b q⟩, hp⟩
  rcases ha.own b q with q3 | q3
  · exact (hF b q3).1 q2
  · exact absurd (C.mem hj b q2).2 (by omega)
theorem AtN.call {m' : NetM} (h : AtN J w0 B F g m w1) {O O' : Nat → Prop} (hO : ∀ b, O b → B.heap.size ≤ b) (hF : ∀ b, F b → ¬ O b ∧ b < w1.heap.size) (hj : J g m' O' w2) (ha : Asd O O' w1 w2) (hp : Nok m') :
    AtN J w0 B F g m' w2 ∧ (∀ b, F b → w2.heap[b]? = w1.heap[b]?) := by
  obtain ⟨_, _, _, hb, hB, _, _⟩ := h
  refine ⟨⟨O', hj, fun b q => ?_, hb, ha.kp hB hO, fun b q => ⟨fun q2 => ?_, Nat.lt_of_lt_of_le (hF b q).2 ha.size⟩, hp⟩, fun b q => ha.block b (hF b q).2 (hF b q).1⟩
  · rcases ha.own b q with q | q
    · exact hO b q
    · exact Nat.le_trans (Below.size hB) q
  · rcases ha.own b q2 with q3 | q3
    · exact (hF b q).1 q3
    · exact absurd (hF b q).2 (by omega)
theorem atN_new (C : NetC ads w0 J) (hb : Kp w0 B) (hB : Kp B w1) (n : Nat) (h1 : 1 ≤ n) (h4 : n ≤ 4) : Calls Tryd.prog 9 #[.int .i64 n] w1 fun r w' => ∃ g, r = .returned (.tuple #[.pointer (some ⟨g, 0, none⟩), .nilIface]) ∧ AtN J w0 B (fun _ => False) g (NetM.new n) w' ∧ Kp w1 w' := by
  refine (C.new_ok w1 (Kp.trans hb hB) n h1 h4).mono ?_
  rintro r w' ⟨g, O, rfl, hj, hO, hk⟩
  exact ⟨g, rfl, ⟨O, hj, fun b q => Nat.le_trans (Below.size hB) (hO b q), hb, Kp.trans hB hk, fun b q => q.elim, nok_new h1 h4⟩, hk⟩
theorem atN_put (C : NetC ads w0 J) (h : AtN J w0 B F g m w1) (a b : Int) (o : Option Addr) (k c : Nat) (d : List Int) (hk : d.length = k) (hs : SlB (.slice o k c) d w1) (hi : InB d) : Calls Tryd.prog 19 #[.pointer (some ⟨g, 0, none⟩), .agg #[.int .i64 a, .int .i64 b, .slice o k c]] w1 fun r w' => r = .returned (.tuple #[.bool (m.put ⟨a, b, d⟩).1.1, errI ads (m.put ⟨a, b, d⟩).1.2]) ∧ AtN J w0 B F g (m.put ⟨a, b, d⟩).2 w' ∧ (∀ b, F b → w'.heap[b]? = w1.heap[b]?) := by
  have h' := h
  obtain ⟨O, hj, hO, hb, hB, hF, hp⟩ := h
  refine (C.put w1 (Kp.trans hb hB) g m O hj hp a b o k c d hk hs).mono ?_
  rintro r w' ⟨rfl, O', hj', ha⟩
  exact ⟨rfl, h'.call hO hF hj' ha (nok_put hp ⟨a, b, d⟩ hi)⟩
theorem atN_copy (C : NetC ads w0 J) (h : AtN J w0 B F g m w1) (i : Int) : Calls Tryd.prog 21 #[.pointer (some ⟨g, 0, none⟩), .int .i64 i] w1 fun r w' => r = .returned (errI ads (m.copy i).1) ∧ AtN J w0 B F g (m.copy i).2 w' ∧ (∀ b, F b → w'.heap[b]? = w1.heap[b]?) := by
  have h' := h
  obtain ⟨O, hj, hO, hb, hB, hF, hp⟩ := h
  refine (C.copy w1 (Kp.trans hb hB) g m O hj hp i).mono ?_
  rintro r w' ⟨rfl, O', hj', ha⟩
  exact ⟨rfl, h'.call hO hF hj' ha (nok_copy hp i)⟩
theorem atN_move (C : NetC ads w0 J) (h : AtN J w0 B F g m w1) (i t : Int) : Calls Tryd.prog 22 #[.pointer (some ⟨g, 0, none⟩), .int .i64 i, .int .i64 t] w1 fun r w' => r = .returned (errI ads (m.move i t).1) ∧ AtN J w0 B F g (m.move i t).2 w' ∧ (∀ b, F b → w'.heap[b]? = w1.heap[b]?) := by
  have h' := h
  obtain ⟨O, hj, hO, hb, hB, hF, hp⟩ := h
  refine (C.move w1 (Kp.trans hb hB) g m O hj hp i t).mono ?_
  rintro r w' ⟨rfl, O', hj', ha⟩
  exact ⟨rfl, h'.call hO hF hj' ha (nok_move hp i t)⟩
theorem atN_cutW (C : NetC ads w0 J) (h : AtN J w0 B F g m w1) (a b : Int) (is : Bool) : Calls Tryd.prog 18 #[.pointer (some ⟨g, 0, none⟩), .int .i64 a, .int .i64 b, .bool is] w1 fun r w' => r = .returned (errI ads (m.cutW a b is).1) ∧ AtN J w0 B F g (m.cutW a b is).2 w' ∧ (∀ b, F b → w'.heap[b]? = w1.heap[b]?) := by
  have h' := h
  obtain ⟨O, hj, hO, hb, hB, hF, hp⟩ := h
  refine (C.cutW w1 (Kp.trans hb hB) g m O hj hp a b is).mono ?_
  rintro r w' ⟨rfl, O', hj', ha⟩
  exact ⟨rfl, h'.call hO hF hj' ha (nok_cut hp a b is)⟩
theorem atN_take (C : NetC ads w0 J) (h : AtN J w0 B F g m w1) (i : Int) : Calls Tryd.prog 20 #[.pointer (some ⟨g, 0, none⟩), .int .i64 i] w1 fun r w' => ∃ o c, r = .returned (.tuple #[.agg #[.int .i64 (m.take i).1.1.a, .int .i64 (m.take i).1.1.b, .slice o (m.take i).1.1.d.length c], errI ads (m.take i).1.2]) ∧ w'.ownsRow w1.heap.size 5 1 (.slice o (m.take i).1.1.d.length c) (m.take i).1.1.d.length ((m.take i).1.1.d.map (Value.int .u8)) ∧ AtN J w0 B (fun b => F b ∨ (Value.slice o (m.take i).1.1.d.length c).ownBlock = some b) g (m.take i).2 w' ∧ (∀ b, F b → w'.heap[b]? = w1.heap[b]?) := by
  have h' := h
  obtain ⟨O, hj, hO, hb, hB, hF, hp⟩ := h
  refine (C.take w1 (Kp.trans hb hB) g m O hj hp i).mono ?_
  rintro r w' ⟨o, c, rfl, hsl, O', hj', ha, hn⟩
  obtain ⟨⟨O2, hj2, hO2, hb2, hB2, hF2, hp2⟩, hf⟩ := h'.call hO hF hj' ha (nok_take hp i)
  refine ⟨o, c, rfl, hsl, ⟨O', hj', fun b q => ?_, hb, hB2, fun b q => ?_, hp2⟩, hf⟩
  · rcases ha.own b q with q | q
    · exact hO b q
    · exact Nat.le_trans (Below.size hB) q
  · rcases q with q | q
    · refine ⟨fun q2 => ?_, (hF2 b q).2⟩
      rcases ha.own b q2 with q3 | q3
      · exact (hF b q).1 q3
      · exact absurd (hF b q).2 (by omega)
    · exact ⟨hn b q, (hsl.lt b q).2⟩
theorem atN_len (C : NetC ads w0 J) (h : AtN J w0 B F g m w1) : Calls Tryd.prog 13 #[.pointer (some ⟨g, 0, none⟩)] w1 fun r w' => r = .returned (.int .i64 m.f.length) ∧ w1 = w' := by
  obtain ⟨O, hj, hO, hb, hB, hF, hp⟩ := h
  exact C.len w1 (Kp.trans hb hB) g m O hj hp
theorem atN_lost (C : NetC ads w0 J) (h : AtN J w0 B F g m w1) : Calls Tryd.prog 14 #[.pointer (some ⟨g, 0, none⟩)] w1 fun r w' => r = .returned (.int .i64 m.lost) ∧ w1 = w' := by
  obtain ⟨O, hj, hO, hb, hB, hF, hp⟩ := h
  exact C.lost w1 (Kp.trans hb hB) g m O hj hp
theorem atN_letters (C : NetC ads w0 J) (h : AtN J w0 B F g m w1) : Calls Tryd.prog 15 #[.pointer (some ⟨g, 0, none⟩)] w1 fun r w' => ∃ v ps, r = .returned v ∧ Hand w1.heap.size m.f v ps w' ∧ Kp w1 w' := by
  obtain ⟨O, hj, hO, hb, hB, hF, hp⟩ := h
  exact C.letters w1 (Kp.trans hb hB) g m O hj hp
theorem atN_to (C : NetC ads w0 J) (h : AtN J w0 B F g m w1) (nd : Int) : Calls Tryd.prog 17 #[.pointer (some ⟨g, 0, none⟩), .int .i64 nd] w1 fun r w' => ∃ lb Own, r = .returned (.func (.func 32) #[] lb) ∧ Kp w1 w' ∧ (∀ b, Own b → b < w'.heap.size ∧ B.heap.size ≤ b ∧ ¬ F b) ∧ SeqT lb Own m.f nd w' := by
  obtain ⟨O, hj, hO, hb, hB, hF, hp⟩ := h
  refine (C.to w1 (Kp.trans hb hB) g m O hj hp nd).mono ?_
  rintro r w' ⟨lb, Own, rfl, hk, ho, hs⟩
  refine ⟨lb, Own, rfl, hk, fun b hb => ⟨(ho b hb).1, ?_, fun q => ?_⟩, hs⟩
  · rcases (ho b hb).2 with q | q
    · exact Nat.le_trans (Below.size hB) q
    · exact hO b q
  · rcases (ho b hb).2 with q2 | q2
    · have := (hF b q).2; omega
    · exact (hF b q).1 q2
end Go.Proofs.YtjffkfcokgcenaaDoor
