/-
  WHERE THE TABLES LEAD (own work): from a state to the next ones, and on; nothing of the program.
-/
import Derived.Test.YtghjnhdepeiloaaDoorTabM
namespace Go.Proofs.YtghjnhdepeiloaaDoor
open Go.RowKit

/-- where one kind leads, by what is told; by itself -/
def lookN (p e x k : Int) : Option Int := if (lookT p e k x).1 = 0 ∧ (lookT p e k x).2.1 = 1 then some (lookT p e k x).2.2.1 else none
def stepN (p e x k : Int) : Option Int := if (stepT p e k x).1 = 0 then some (stepT p e k x).2 else none
def nextT (p e x : Int) : List Int := (takesL p e).filterMap (lookN p e x) ++ (sendsL p e).filterMap (stepN p e x)
/-- a list's numbers that aren't there yet, each behind those there -/
def addT (sn : List Int) : List Int → List Int
  | [] => sn
  | n :: l => addT (if n ∈ sn then sn else sn ++ [n]) l
def seenT (p e s : Int) : Nat → List Int
  | 0 => [s]
  | i + 1 => addT (seenT p e s i) (nextT p e ((seenT p e s i).getD i 0))
def sidesT : List (Int × Int) := [(1, 1), (1, 2), (2, 1), (2, 2)]
theorem rightT_mem {p e : Int} (h : rightT p e = true) : (p, e) ∈ sidesT := by
  unfold rightT at h
  have := of_decide_eq_true h
  rcases this with ⟨rfl | rfl, rfl | rfl⟩ <;> decide
/-- nothing leads out of Ended; Ended is a state -/
theorem end_none : ∀ q ∈ sidesT, nextT q.1 q.2 14 = [] ∧ (14 : Int) ∈ statesL q.1 q.2 := by decide +kernel
/-- what a state leads to is a state -/
theorem next_in : ∀ q ∈ sidesT, ∀ x ∈ statesL q.1 q.2, ∀ n ∈ nextT q.1 q.2 x, n ∈ statesL q.1 q.2 := by decide +kernel
/-- of all states: what is seen are states, no more than there are; where all is gone through, Ended is seen -/
theorem seen_ok : ∀ q ∈ sidesT, ∀ s ∈ statesL q.1 q.2, ∀ i ∈ List.range 15, (∀ x ∈ seenT q.1 q.2 s i, x ∈ statesL q.1 q.2) ∧ (seenT q.1 q.2 s i).length ≤ 14 ∧ ((seenT q.1 q.2 s i).length = i → (14 : Int) ∈ seenT q.1 q.2 s i) := by decide +kernel
/-- the kinds and states of a side -/
theorem lists_len : ∀ q ∈ sidesT, (statesL q.1 q.2).length ≤ 14 ∧ (takesL q.1 q.2).length ≤ 14 ∧ (sendsL q.1 q.2).length ≤ 14 := by decide +kernel
end Go.Proofs.YtghjnhdepeiloaaDoor
