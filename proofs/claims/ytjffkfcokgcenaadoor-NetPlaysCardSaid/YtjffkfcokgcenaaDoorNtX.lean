/-
  WHAT PACKAGE net ANSWERS (own work): NetC out of the landed code's contracts.
-/
import Derived.Test.YtjffkfcokgcenaaDoorNetC
namespace Go.Proofs.YtjffkfcokgcenaaDoor
open Go.RowKit Go.ChangeShapes Go.WideShapes

/-- a net: its block, letters, bytes, ways; these are its own blocks -/
def JN (w0 : World) (g : Nat) (m : NetM) (O : Nat → Prop) (w : World) : Prop := ∃ v ps mb, Nt w0 g m v ps mb w ∧ O = Ob g v ps mb
theorem netC_of (ads : List Addr) (w0 : World) (E : EP [0, 2, 5] ads w0) : NetC ads w0 (JN w0) where
  stay := by
    rintro g m O w w' ⟨v, ps, mb, h, rfl⟩ hb
    exact ⟨v, ps, mb, h.stay hb, rfl⟩
  mem := by
    rintro g m O w ⟨v, ps, mb, h, rfl⟩ b hb
    exact h.mem b hb
  new_ok := fun w1 hk n h1 h4 => (ntNew_ok n h1 h4 (Below.size hk)).mono fun r w' ⟨q, mb, e, h, hO, hk'⟩ => ⟨q, _, e, ⟨_, _, mb, h, rfl⟩, hO, hk'⟩
  new_no := fun w1 hk n hn => ntNew_no n hn ((E.kp hk).cell 0 (by simp))
  put := fun w1 hk g m O ⟨v, ps, mb, h, e⟩ hm => fun a b o k c d hdk hs => (ntPut_any h hm a b o k c d hdk hs (E.kp hk)).mono fun r w' ⟨q1, v', ps', q2, q3⟩ => ⟨q1, _, ⟨v', ps', mb, q2, rfl⟩, e ▸ q3⟩
  take := fun w1 hk g m O ⟨v, ps, mb, h, e⟩ hm => fun i => (ntTake_any h hm i (E.kp hk)).mono fun r w' ⟨o, c, q1, q0, v', ps', q2, q3, q4⟩ => ⟨o, c, q1, q0, _, ⟨v', ps', mb, q2, rfl⟩, e ▸ q3, q4⟩
  copy := fun w1 hk g m O ⟨v, ps, mb, h, e⟩ hm => fun i => (ntCopy_any h i (E.kp hk)).mono fun r w' ⟨q1, v', ps', q2, q3⟩ => ⟨q1, _, ⟨v', ps', mb, q2, rfl⟩, e ▸ q3⟩
  move := fun w1 hk g m O ⟨v, ps, mb, h, e⟩ hm => fun i t => (ntMove_any h hm i t (E.kp hk)).mono fun r w' ⟨q1, v', ps', q2, q3⟩ => ⟨q1, _, ⟨v', ps', mb, q2, rfl⟩, e ▸ q3⟩
  cutW := fun w1 hk g m O ⟨v, ps, mb, h, e⟩ hm => fun a b is => (ntCut_any h hm a b is (E.kp hk)).mono fun r w' ⟨q1, v', ps', q2, q3⟩ => ⟨q1, _, ⟨v', ps', mb, q2, rfl⟩, e ▸ q3⟩
  len := fun w1 hk g m O ⟨v, ps, mb, h, e⟩ hm => ntLen_any h
  lost := fun w1 hk g m O ⟨v, ps, mb, h, e⟩ hm => ntLost_any h
  letters := fun w1 hk g m O ⟨v, ps, mb, h, e⟩ hm => ntLetters_any h hm
  to := fun w1 hk g m O ⟨v, ps, mb, h, e⟩ hm nd => e ▸ ntTo_any h hm nd
end Go.Proofs.YtjffkfcokgcenaaDoor
