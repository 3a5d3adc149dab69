/-
  A CONTEXT AS IT IS TOLD (own work): its numbers and its time; which is right, open, the same; a new one, a child.
-/
import Derived.Test.YtldamfpoemgkpaaDoorRiA
import Derived.Test.YtldamfpoemgkpaaDoorFn
namespace Go.Proofs.YtldamfpoemgkpaaDoor
open Go.RowKit

structure CX where
  n : Int
  s : Int
  o : Int
  d : Int
  x : Nat
deriving DecidableEq
def CX.nums (c : CX) : List Int := [c.n, c.s, c.o, c.d]
def CX.cells (c : CX) : Array Value := #[.int .i64 c.n, .int .i64 c.s, .int .i64 c.o, .int .i64 c.d, .float .f64 c.x]
/-- its time is a float's bits -/
def CX.wf (c : CX) : Prop := c.x < 18446744073709551616
def noX : CX := ⟨0, 0, 0, 0, 0⟩
theorem noX_wf : noX.wf := by unfold CX.wf noX; decide
/-- a time in its plain form -/
def tmX (x : Nat) : Bool := Fl.dl x && decide (Fl.plain x = x)
def outX (o : Int) : Bool := decide (o = 1 ∨ o = 2)
def rightX (c : CX) : Bool := rightA c.n c.s && (outX c.o && (decide (0 ≤ c.d ∧ c.d ≤ 3) && tmX c.x))
def openX (c : CX) (t : Nat) : Bool := rightX c && (Fl.dl t && decide (Fl.plain t < c.x))
def sameX (a b : CX) : Bool := decide (a.n = b.n ∧ a.s = b.s ∧ a.o = b.o ∧ a.d = b.d) && decide (Fl.plain a.x = Fl.plain b.x)
/-- WHAT New ANSWERS: the error's number, the context -/
def newX (n s o : Int) (t l : Nat) : Int × CX :=
  if rightA n s = false then (1, noX) else if outX o = false ∨ Fl.dl t = false ∨ Fl.dl l = false then (4, noX) else (0, ⟨n, s, o, 0, (Ieee.double.add (Fl.plain t) (Fl.plain l)).getD 0⟩)
def childX (c : CX) (n s o : Int) : Int × CX :=
  if rightX c = false then (4, noX) else if rightA n s = false then (1, noX) else if outX o = false then (4, noX) else if 2 < c.d then (11, noX) else (0, ⟨n, s, o, c.d + 1, c.x⟩)
theorem tmX_le {x : Nat} (h : tmX x = true) : x ≤ 9218868437227405312 := by
  unfold tmX at h
  rw [Bool.and_eq_true] at h
  have h1 := (Fl.dl_plain h.1).1
  rw [of_decide_eq_true h.2] at h1
  exact h1
theorem tmX_of {x : Nat} (h : x ≤ 9218868437227405312) : tmX x = true := by
  obtain ⟨h1, _, h3⟩ := Fl.dl_of_le h
  unfold tmX
  rw [h1, h3]
  simp
end Go.Proofs.YtldamfpoemgkpaaDoor
