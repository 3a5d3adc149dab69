/-
  WHAT PACKAGE moves ANSWERS (own work), as the laws of layer 11 want it: a field a function; a pair over whatever it is made of (J; its own blocks O).
-/
import Derived.Test.YtghjnhdepeiloaaDoorMovE
import Derived.Test.YtghjnhdepeiloaaDoorErrI
import Derived.Test.YtghjnhdepeiloaaDoorAsdW
namespace Go.Proofs.YtghjnhdepeiloaaDoor
open Go.RowKit

def i64M (x : Int) : Prop := -9223372036854775808 ≤ x ∧ x ≤ 9223372036854775807
instance (x : Int) : Decidable (i64M x) := by unfold i64M; infer_instance
/-- the cells of a seat; of an effect -/
def seatV (z : SeatM) : Array Value := #[.int .i64 z.p, .int .i64 z.e, .int .i64 z.s, .int .i64 z.h]
def effV (y : EffM) : Array Value := #[.int .i64 y.z.p, .int .i64 y.z.e, .int .i64 y.z.s, .int .i64 y.z.h, .int .i64 y.send, .int .i64 y.fault, .int .i64 y.work, .bool y.changed]
def SeatM.ok (z : SeatM) : Prop := i64M z.p ∧ i64M z.e ∧ i64M z.s ∧ i64M z.h
/-- a pair that can come to be -/
def Pok (m : PairM) : Prop := (∃ p r, (p = 1 ∨ p = 2) ∧ Rep p r m) ∧ m.f.length ≤ 64
/-- what is on its way, as a slice of kinds -/
def SlF (v : Value) (f : List (Int × Int)) (w : World) : Prop :=
  ∃ a cap, v = .slice a f.length cap ∧ ∀ (j : Nat) (h : j < f.length), ∃ b off, a = some ⟨b, off, none⟩ ∧ w.cell? ⟨b, off + j * 2, none⟩ = some (.int .i64 f[j].1) ∧ w.cell? ⟨b, off + j * 2 + 1, none⟩ = some (.int .i64 f[j].2)
theorem SlF.kp {v : Value} {f : List (Int × Int)} {w w' : World} (h : SlF v f w) (hk : Kp w w') : SlF v f w' := by
  obtain ⟨a, cap, h1, h2⟩ := h
  refine ⟨a, cap, h1, fun j hj => ?_⟩
  obtain ⟨b, off, h3, h4, h5⟩ := h2 j hj
  exact ⟨b, off, h3, kp_cell hk h4, kp_cell hk h5⟩
def newS (p e : Int) : SeatM := if rightT p e = true then ⟨p, e, 1, 0⟩ else ⟨0, 0, 0, 0⟩
/-- of another side the zero one -/
def seatO (m : PairM) (e : Int) : SeatM := if e = 1 then m.c else if e = 2 then m.x else ⟨0, 0, 0, 0⟩

structure MovC (ads : List Addr) (w0 : World) (J : Nat → PairM → (Nat → Prop) → World → Prop) : Prop where
  new : ∀ w1, Kp w0 w1 → ∀ p e : Int, i64M p → i64M e → Calls Tryd.prog 31 #[.int .i64 p, .int .i64 e] w1 fun r w' => r = .returned (.tuple #[.agg (seatV (newS p e)), errI ads (if rightT p e = true then 0 else 14)]) ∧ Kp w1 w'
  right : ∀ w1, Kp w0 w1 → ∀ z : SeatM, z.ok → Calls Tryd.prog 16 #[.agg (seatV z)] w1 fun r w' => r = .returned (.bool z.right) ∧ Kp w1 w'
  tell : ∀ w1, Kp w0 w1 → ∀ (z : SeatM) (k : Int), z.ok → i64M k → Calls Tryd.prog 10 #[.agg (seatV z), .int .i64 k] w1 fun r w' => r = .returned (.tuple #[.agg (effV (z.tell k).2), errI ads (z.tell k).1]) ∧ Kp w1 w'
  act : ∀ w1, Kp w0 w1 → ∀ (z : SeatM) (k : Int), z.ok → i64M k → Calls Tryd.prog 12 #[.agg (seatV z), .int .i64 k] w1 fun r w' => r = .returned (.tuple #[.agg (effV (z.act k).2), errI ads (z.act k).1]) ∧ Kp w1 w'
  waits : ∀ w1, Kp w0 w1 → ∀ z : SeatM, z.ok → Calls Tryd.prog 19 #[.agg (seatV z)] w1 fun r w' => r = .returned (.int .i64 (if z.right = true then z.waits else 0)) ∧ Kp w1 w'
  work : ∀ w1, Kp w0 w1 → ∀ z : SeatM, z.ok → Calls Tryd.prog 18 #[.agg (seatV z)] w1 fun r w' => r = .returned (.int .i64 (if z.right = true then z.work else 0)) ∧ Kp w1 w'
  stay : ∀ {g m O w w'}, J g m O w → w.heap.size ≤ w'.heap.size → (∀ b, O b → w'.heap[b]? = w.heap[b]?) → J g m O w'
  mem : ∀ {g m O w}, J g m O w → ∀ b, O b → w0.heap.size ≤ b ∧ b < w.heap.size
  pnew_ok : ∀ w1, Kp w0 w1 → ∀ p : Int, p = 1 ∨ p = 2 → Calls Tryd.prog 21 #[.int .i64 p] w1 fun r w' => ∃ g O, r = .returned (.tuple #[.pointer (some ⟨g, 0, none⟩), .nilIface]) ∧ J g (PairM.new p) O w' ∧ (∀ b, O b → w1.heap.size ≤ b) ∧ Kp w1 w'
  pnew_no : ∀ w1, Kp w0 w1 → ∀ p : Int, ¬ (p = 1 ∨ p = 2) → i64M p → Calls Tryd.prog 21 #[.int .i64 p] w1 fun r w' => r = .returned (.tuple #[.pointer none, errI ads 14]) ∧ Kp w1 w'
  pdo : ∀ w1, Kp w0 w1 → ∀ g m O, J g m O w1 → Pok m → ∀ e k : Int, i64M e → i64M k → Calls Tryd.prog 29 #[.pointer (some ⟨g, 0, none⟩), .int .i64 e, .int .i64 k] w1 fun r w' => r = .returned (errI ads (m.act e k).1) ∧ ∃ O', J g (m.act e k).2 O' w' ∧ Asd O O' w1 w'
  pagain : ∀ w1, Kp w0 w1 → ∀ g m O, J g m O w1 → Pok m → ∀ e : Int, i64M e → Calls Tryd.prog 30 #[.pointer (some ⟨g, 0, none⟩), .int .i64 e] w1 fun r w' => r = .returned (.bool (m.again e).1) ∧ ∃ O', J g (m.again e).2 O' w' ∧ Asd O O' w1 w'
  pdeliver : ∀ w1, Kp w0 w1 → ∀ g m O, J g m O w1 → Pok m → ∀ (i : Int) (c : Bool), i64M i → Calls Tryd.prog 28 #[.pointer (some ⟨g, 0, none⟩), .int .i64 i, .bool c] w1 fun r w' => r = .returned (.tuple #[.agg (effV (m.deliver i c).1.2), errI ads (m.deliver i c).1.1]) ∧ ∃ O', J g (m.deliver i c).2 O' w' ∧ Asd O O' w1 w'
  pdrop : ∀ w1, Kp w0 w1 → ∀ g m O, J g m O w1 → Pok m → ∀ i : Int, i64M i → Calls Tryd.prog 46 #[.pointer (some ⟨g, 0, none⟩), .int .i64 i] w1 fun r w' => r = .returned (errI ads (m.drop i).1) ∧ ∃ O', J g (m.drop i).2 O' w' ∧ Asd O O' w1 w'
  pseat : ∀ w1, Kp w0 w1 → ∀ g m O, J g m O w1 → Pok m → ∀ e : Int, i64M e → Calls Tryd.prog 24 #[.pointer (some ⟨g, 0, none⟩), .int .i64 e] w1 fun r w' => r = .returned (.agg (seatV (seatO m e))) ∧ Kp w1 w'
  pflight : ∀ w1, Kp w0 w1 → ∀ g m O, J g m O w1 → Pok m → Calls Tryd.prog 25 #[.pointer (some ⟨g, 0, none⟩)] w1 fun r w' => ∃ v, r = .returned v ∧ SlF v m.f w' ∧ Kp w1 w'
theorem pok_new {p : Int} (hp : p = 1 ∨ p = 2) : Pok (PairM.new p) := ⟨⟨p, _, hp, rep_new hp⟩, Nat.zero_le _⟩
end Go.Proofs.YtghjnhdepeiloaaDoor
