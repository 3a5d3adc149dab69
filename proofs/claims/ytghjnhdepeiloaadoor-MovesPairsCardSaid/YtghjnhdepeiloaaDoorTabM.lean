/-
  THE STATE TABLES (own work): a side's states and kinds, its cells, what it does by itself, what it waits with; what each call answers.
-/
import Derived.Test.YtghjnhdepeiloaaDoorKp
namespace Go.Proofs.YtghjnhdepeiloaaDoor
open Go.RowKit

def rightT (p e : Int) : Bool := decide ((p = 1 ∨ p = 2) ∧ (e = 1 ∨ e = 2))
def hasT (p e s : Int) : Bool := if s = 4 ∨ s = 10 then decide (p = 2) else if s = 3 then decide (p = 2 ∧ e = 1) else decide (1 ≤ s ∧ s ≤ 14)
def failT (s : Int) : Bool := decide (8 ≤ s ∧ s ≤ 11)
def upT (k : Int) : Bool := decide (k = 1 ∨ (3 ≤ k ∧ k ≤ 8))
def downT (p k : Int) : Bool := decide ((k = 2 ∧ p = 2) ∨ (9 ≤ k ∧ k ≤ 14))
def takesT (p e k : Int) : Bool := if e = 1 then upT k else downT p k
def sendsT (p e k : Int) : Bool := if e = 2 then upT k else downT p k
def waitT (e s : Int) : Int :=
  if e = 1 then (if s = 2 ∨ s = 3 then 10 else if s = 4 then 2 else if s = 6 then 9 else if s = 7 then 11 else 0)
  else (if s = 5 then 3 else if failT s then 4 else if s = 12 then 5 else if s = 13 then 1 else 0)
def toT (s : Int) : Int × Int × Int := (1, s, 0)
def ignT : Int × Int × Int := (2, 0, 0)
def againT (k : Int) : Int × Int × Int := (3, 0, k)
def badT : Int × Int × Int := (4, 0, 0)
/-- the cell of what a coordinator is told -/
def coordT (p k s : Int) : Int × Int × Int :=
  if k = 1 then (if s = 1 ∨ s = 2 ∨ s = 3 ∨ s = 4 then toT 13 else if s = 13 then ignT else if s = 14 then againT 13 else badT)
  else if k = 3 then (if s = 1 ∨ s = 2 then (if p = 1 then toT 5 else badT) else if s = 3 ∨ s = 4 then toT 5 else if s = 5 ∨ s = 11 ∨ s = 14 then ignT else if s = 6 then againT 9 else if s = 7 then againT 11 else badT)
  else if k = 4 then (if s = 1 then toT 8 else if s = 2 ∨ s = 3 then toT 9 else if s = 4 then toT 10 else if s = 7 then toT 11 else if failT s then ignT else if s = 14 then againT 12 else badT)
  else if k = 5 then (if s = 1 ∨ s = 2 ∨ s = 3 ∨ s = 4 then toT 12 else if s = 12 then ignT else if s = 14 then againT 14 else badT)
  else if k = 6 ∨ k = 7 ∨ k = 8 then (if s = 14 then ignT else if (k = 6 ∧ (s = 2 ∨ s = 3)) ∨ (k = 7 ∧ s = 6) ∨ (k = 8 ∧ s = 7) then toT 14 else badT)
  else badT
/-- the cell of what a participant is told -/
def partT (k s : Int) : Int × Int × Int :=
  if k = 2 then (if s = 1 then toT 4 else if waitT 2 s ≠ 0 then againT (waitT 2 s) else ignT)
  else if k = 10 then (if s = 1 ∨ s = 4 then toT 2 else if waitT 2 s ≠ 0 then againT (waitT 2 s) else if s = 14 then againT 6 else ignT)
  else if k = 9 then (if s = 5 then toT 6 else if s = 6 then ignT else if s = 14 then againT 7 else badT)
  else if k = 11 then (if s = 5 then toT 7 else if s = 7 then ignT else if s = 11 then againT 4 else if s = 14 then againT 8 else badT)
  else if k = 12 ∨ k = 13 ∨ k = 14 then (if s = 14 then ignT else if (k = 12 ∧ failT s = true) ∨ (k = 13 ∧ s = 13) ∨ (k = 14 ∧ s = 12) then toT 14 else badT)
  else badT
def cellT (p e k s : Int) : Int × Int × Int := if e = 1 then coordT p k s else partT k s
/-- the state to which a side goes by itself; 0: it may not -/
def goesT (p k s : Int) : Int :=
  if k = 2 then (if s = 1 then 4 else 0)
  else if k = 10 then (if s = 1 then 2 else if s = 4 then 3 else 0)
  else if k = 9 then (if s = 5 then 6 else 0)
  else if k = 11 then (if s = 5 then 7 else 0)
  else if k = 12 then (if failT s then 14 else 0)
  else if k = 13 then (if s = 13 then 14 else 0)
  else if k = 14 then (if s = 12 then 14 else 0)
  else if k = 1 then (if s = 1 ∨ s = 4 then 13 else 0)
  else if k = 5 then (if s = 1 ∨ s = 4 then 12 else 0)
  else if k = 3 then (if (p = 1 ∧ s = 1) ∨ (p = 2 ∧ s = 4) then 5 else 0)
  else if k = 4 then (if s = 1 then 8 else if s = 2 then 9 else if s = 4 then 10 else if s = 7 then 11 else 0)
  else if k = 6 then (if s = 2 then 14 else 0)
  else if k = 7 then (if s = 6 then 14 else 0)
  else if k = 8 then (if s = 7 then 14 else 0) else 0
/-- WHAT EACH CALL ANSWERS: the error's number, and else -/
def lookT (p e k s : Int) : Int × (Int × Int × Int) :=
  if rightT p e = false then (14, 0, 0, 0) else if takesT p e k = false then (4, 0, 0, 0) else if hasT p e s = false then (1, 0, 0, 0) else (0, cellT p e k s)
def stepT (p e k s : Int) : Int × Int :=
  if rightT p e = false then (14, 0) else if sendsT p e k = false then (4, 0) else if hasT p e s = false then (1, 0) else if goesT p k s = 0 then (9, 0) else (0, goesT p k s)
def waitsT (p e s : Int) : Int × Int :=
  if rightT p e = false then (14, 0) else if hasT p e s = false then (1, 0) else (0, waitT e s)
def allT : List Int := [1, 2, 3, 4, 5, 6, 7, 8, 9, 10, 11, 12, 13, 14, 15, 16, 17, 18, 19]
def statesL (p e : Int) : List Int := allT.filter (hasT p e)
def takesL (p e : Int) : List Int := allT.filter (takesT p e)
def sendsL (p e : Int) : List Int := allT.filter (sendsT p e)
/-- the cells of a cell -/
def cellV (c : Int × Int × Int) : Array Value := #[.int .i64 c.1, .int .i64 c.2.1, .int .i64 c.2.2]
end Go.Proofs.YtghjnhdepeiloaaDoor
