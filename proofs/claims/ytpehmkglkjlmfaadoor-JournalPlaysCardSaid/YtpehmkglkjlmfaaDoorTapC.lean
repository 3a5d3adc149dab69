/-
  WHAT PACKAGE tape ANSWERS (own work), as the laws of layer 6 want it: over whatever a tape is made of (R; its own blocks O).
-/
import Derived.Test.YtpehmkglkjlmfaaDoorTapM
namespace Go.Proofs.YtpehmkglkjlmfaaDoor
open Go.RowKit

/-- OLD MEMORY BUT THE TAPE's OWN (O) IS AS IT WAS; what it has now (O') is that or new. -/
structure Asd (O O' : Nat → Prop) (w w' : World) : Prop where
  os : w'.os = w.os
  tape : w'.tape = w.tape
  output : w'.output = w.output
  size : w.heap.size ≤ w'.heap.size
  block : ∀ b, b < w.heap.size → ¬ O b → w'.heap[b]? = w.heap[b]?
  own : ∀ b, O' b → O b ∨ w.heap.size ≤ b
theorem Asd.kp {O O' : Nat → Prop} {W w w' : World} (h : Asd O O' w w') (hk : Kp W w) (hO : ∀ b, O b → W.heap.size ≤ b) : Kp W w' :=
  ⟨h.os.trans hk.os, h.tape.trans hk.tape, h.output.trans hk.output, Nat.le_trans (Below.size hk) h.size, fun b hb => by
    rw [h.block b (Nat.lt_of_lt_of_le hb (Below.size hk)) (fun q => absurd (hO b q) (by omega))]; exact Below.block hk b hb⟩
theorem Asd.row {O O' : Nat → Prop} {w w' : World} (h : Asd O O' w w') {b : Nat} {o : Obj} (hr : w.heap[b]? = some o) (hO : ¬ O b) : w'.heap[b]? = some o := by
  rw [h.block b (old_of_row hr) hO]; exact hr

/-- PACKAGE tape's CONTRACTS behind a world. -/
structure TapC (ads : List Addr) (w0 : World) (R : Nat → TM → (Nat → Prop) → World → Prop) : Prop where
  stay : ∀ {g m O w w'}, R g m O w → w.heap.size ≤ w'.heap.size → (∀ b, O b → w'.heap[b]? = w.heap[b]?) → R g m O w'
  mem : ∀ {g m O w}, R g m O w → ∀ b, O b → w0.heap.size ≤ b ∧ b < w.heap.size
  new_ok : ∀ w1, Kp w0 w1 → ∀ r, 0 ≤ r → r ≤ 65536 → Calls Tryd.prog 10 #[.int .i64 r] w1 fun e w' => ∃ g O, e = .returned (.tuple #[.pointer (some ⟨g, 0, none⟩), .nilIface]) ∧ R g (newM r) O w' ∧ (∀ b, O b → w1.heap.size ≤ b) ∧ Kp w1 w'
  new_no : ∀ w1, Kp w0 w1 → ∀ r, (r < 0 ∨ 65536 < r) → -9223372036854775808 ≤ r → r ≤ 9223372036854775807 → Calls Tryd.prog 10 #[.int .i64 r] w1 fun e w' => e = .returned (.tuple #[.pointer none, errI ads 1]) ∧ Kp w1 w'
  append : ∀ w1, Kp w0 w1 → ∀ g m O, R g m O w1 → Mok m → ∀ a n c bs, SlB (.slice a n c) bs w1 → bs.length = n → n ≤ c → InB bs → n ≤ 100000 → (0 < n → ∀ ad, a = some ad → ¬ O ad.block) →
    Calls Tryd.prog 25 #[.pointer (some ⟨g, 0, none⟩), .slice a n c] w1 fun e w' => e = .returned (errI ads (appM m bs).1) ∧ ∃ O', R g (appM m bs).2 O' w' ∧ Asd O O' w1 w'
  sync : ∀ w1, Kp w0 w1 → ∀ g m O, R g m O w1 → Mok m → Calls Tryd.prog 26 #[.pointer (some ⟨g, 0, none⟩)] w1 fun e w' => e = .returned (errI ads (syncM m).1) ∧ ∃ O', R g (syncM m).2 O' w' ∧ Asd O O' w1 w'
  swap : ∀ w1, Kp w0 w1 → ∀ g m O, R g m O w1 → Mok m → ∀ a n c bs, SlB (.slice a n c) bs w1 → bs.length = n → n ≤ c → InB bs → n ≤ 100000 → (0 < n → ∀ ad, a = some ad → ¬ O ad.block) →
    Calls Tryd.prog 57 #[.pointer (some ⟨g, 0, none⟩), .slice a n c] w1 fun e w' => e = .returned (errI ads (swapM m bs).1) ∧ ∃ O', R g (swapM m bs).2 O' w' ∧ Asd O O' w1 w'
  cut : ∀ w1, Kp w0 w1 → ∀ g m O, R g m O w1 → Mok m → ∀ n, -9223372036854775808 ≤ n → n ≤ 9223372036854775807 → Calls Tryd.prog 37 #[.pointer (some ⟨g, 0, none⟩), .int .i64 n] w1 fun e w' => e = .returned (errI ads (cutsM m n).1) ∧ ∃ O', R g (cutsM m n).2 O' w' ∧ Asd O O' w1 w'
  setRoom : ∀ w1, Kp w0 w1 → ∀ g m O, R g m O w1 → Mok m → ∀ n, -9223372036854775808 ≤ n → n ≤ 9223372036854775807 → Calls Tryd.prog 32 #[.pointer (some ⟨g, 0, none⟩), .int .i64 n] w1 fun e w' => e = .returned (errI ads (roomM m n).1) ∧ ∃ O', R g (roomM m n).2 O' w' ∧ Asd O O' w1 w'
  arm : ∀ w1, Kp w0 w1 → ∀ g m O, R g m O w1 → Mok m → ∀ n, -9223372036854775808 ≤ n → n ≤ 9223372036854775807 → Calls Tryd.prog 29 #[.pointer (some ⟨g, 0, none⟩), .int .i64 n] w1 fun e w' => e = .returned (.tuple #[]) ∧ ∃ O', R g (armM m n) O' w' ∧ Asd O O' w1 w'
  crash : ∀ w1, Kp w0 w1 → ∀ g m O, R g m O w1 → Mok m → ∀ n, -9223372036854775808 ≤ n → n ≤ 9223372036854775807 → Calls Tryd.prog 30 #[.pointer (some ⟨g, 0, none⟩), .int .i64 n] w1 fun e w' => e = .returned (.tuple #[]) ∧ ∃ O', R g (crashM m n) O' w' ∧ Asd O O' w1 w'
  bytes : ∀ w1, Kp w0 w1 → ∀ g m O, R g m O w1 → Mok m → Calls Tryd.prog 21 #[.pointer (some ⟨g, 0, none⟩)] w1 fun e w' => ∃ a c, e = .returned (.slice a m.all.length c) ∧ SlB (.slice a m.all.length c) m.all w' ∧ Kp w1 w'
  off : ∀ w1, Kp w0 w1 → ∀ g m O, R g m O w1 → Mok m → Calls Tryd.prog 41 #[.pointer (some ⟨g, 0, none⟩)] w1 fun e w' => e = .returned (.bool m.off) ∧ Kp w1 w'
end Go.Proofs.YtpehmkglkjlmfaaDoor
