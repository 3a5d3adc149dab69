/-
  WHAT A CALL ON AN OBJECT LEAVES ALONE (own work).
-/
import Derived.Test.YtanbeaebdingeaaDoorKp
namespace Go.Proofs.YtanbeaebdingeaaDoor
open Go.RowKit

/-- OLD MEMORY BUT THE TAPE's OWN (O) IS AS IT WAS; what it has now (O') is that or new. -/
structure Asd (O O' : Nat → Prop) (w w' : World) : Prop where
  os : w'.os = w.os
  tape : w'.tape = w.tape
  output : w'.output = w.output
  size : w.heap.size ≤ w'.heap.size
  block : ∀ b, b < w.heap.size → ¬ O b → w'.heap[b]? = w.heap[b]?
  own : ∀ b, O' b → O b ∨ w.heap.size ≤ b
theorem Asd.kp {O O' : Nat → Prop} {W w w' : World} (h : Asd O O' w w') (hk : Kp W w) (hO : ∀ b, O b → W.heap.size ≤ b) : Kp W w' :=
  ⟨h.os.trans hk.os, h.tape.trans hk.tape, h.output.trans hk.output, Nat.le_trans (Below.size hk) h.size, fun b hb => by
    rw [h.block b (Nat.lt_of_lt_of_le hb (Below.size hk)) (fun q => absurd (hO b q) (by omega))]; exact Below.block hk b hb⟩
theorem Asd.row {O O' : Nat → Prop} {w w' : World} (h : Asd O O' w w') {b : Nat} {o : Obj} (hr : w.heap[b]? = some o) (hO : ¬ O b) : w'.heap[b]? = some o := by
  rw [h.block b (old_of_row hr) hO]; exact hr
theorem Asd.refl (P : Nat → Prop) (w : World) : Asd P P w w := ⟨rfl, rfl, rfl, Nat.le_refl _, fun _ _ _ => rfl, fun _ h => .inl h⟩
theorem Asd.trans {P P' P'' : Nat → Prop} {a b c : World} (h : Asd P P' a b) (k : Asd P' P'' b c) : Asd P P'' a c :=
  ⟨k.os.trans h.os, k.tape.trans h.tape, k.output.trans h.output, Nat.le_trans h.size k.size, fun i hi hn => by
    rw [k.block i (Nat.lt_of_lt_of_le hi h.size) (fun q => by rcases h.own i q with q | q; exact hn q; omega)]
    exact h.block i hi hn, fun i q => by
    rcases k.own i q with q | q
    · exact h.own i q
    · exact .inr (Nat.le_trans h.size q)⟩
theorem Asd.of_kp (P : Nat → Prop) {w w' : World} (h : Kp w w') : Asd P P w w' := ⟨h.os, h.tape, h.output, Below.size h, fun b hb _ => Below.block h b hb, fun _ q => .inl q⟩
end Go.Proofs.YtanbeaebdingeaaDoor
