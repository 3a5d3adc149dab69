/-
  SEATS AND PAIRS (own work): what comes of a kind that is told or done; a pair's moves; all that a pair can come to.
-/
import Derived.Test.YtghjnhdepeiloaaDoorTabM
namespace Go.Proofs.YtghjnhdepeiloaaDoor
open Go.RowKit

structure SeatM where
  (p e s h : Int)
deriving DecidableEq
structure EffM where
  (z : SeatM) (send fault work : Int) (changed : Bool)
def eff0 : EffM := ⟨⟨0, 0, 0, 0⟩, 0, 0, 0, false⟩
def SeatM.right (z : SeatM) : Bool := rightT z.p z.e && hasT z.p z.e z.s && (if z.s = 14 then decide (z.h = 1 ∨ (4 ≤ z.h ∧ z.h ≤ 8)) else decide (z.h = 0))
def SeatM.work (z : SeatM) : Int := if z.e = 2 then (if z.s = 4 then 2 else if z.s = 6 then 9 else if z.s = 2 then 10 else if z.s = 7 then 11 else 0) else 0
def SeatM.waits (z : SeatM) : Int := waitT z.e z.s
/-- the effect of a change -/
def SeatM.moved (z : SeatM) (s h send : Int) : EffM := ⟨⟨z.p, z.e, s, if s = 14 then h else z.h⟩, send, 0, SeatM.work ⟨z.p, z.e, s, if s = 14 then h else z.h⟩, true⟩
/-- by what a participant ends that is told a kind; by what a seat ends that does one -/
def howT (k : Int) : Int := if k = 12 then 4 else if k = 13 then 1 else if k = 14 then 5 else 0
def howD (k : Int) : Int := if k = 12 then 4 else if k = 13 then 1 else if k = 14 then 5 else k
def SeatM.tellC (z : SeatM) (k : Int) (c : Int × Int × Int) : EffM :=
  if c.1 = 2 then ⟨z, 0, 0, 0, false⟩ else if c.1 = 3 then ⟨z, c.2.2, 0, 0, false⟩ else if c.1 = 4 then ⟨z, 0, 1, 0, false⟩
  else if z.e = 1 then (if c.2.1 = 13 then z.moved 14 1 13 else if c.2.1 = 12 then z.moved 14 5 14 else if 8 ≤ c.2.1 ∧ c.2.1 ≤ 11 then z.moved 14 4 12 else z.moved c.2.1 k 0)
  else z.moved c.2.1 (howT k) 0
/-- WHAT COMES OF A KIND THAT IS TOLD, the error's number first -/
def SeatM.tell (z : SeatM) (k : Int) : Int × EffM :=
  if z.right = false then (4, eff0) else if (lookT z.p z.e k z.s).1 ≠ 0 then (0, ⟨z, 0, 2, 0, false⟩) else (0, z.tellC k (lookT z.p z.e k z.s).2)
/-- WHAT COMES OF A KIND THAT IS DONE -/
def SeatM.act (z : SeatM) (k : Int) : Int × EffM :=
  if z.right = false then (4, eff0) else if (stepT z.p z.e k z.s).1 ≠ 0 then ((stepT z.p z.e k z.s).1, eff0) else (0, z.moved (stepT z.p z.e k z.s).2 (howD k) k)

structure PairM where
  (c x : SeatM) (f : List (Int × Int))
def PairM.new (p : Int) : PairM := ⟨⟨p, 1, 1, 0⟩, ⟨p, 2, 1, 0⟩, []⟩
def PairM.seat (m : PairM) (e : Int) : SeatM := if e = 1 then m.c else m.x
def PairM.set (m : PairM) (e : Int) (z : SeatM) : PairM := if e = 1 then ⟨z, m.x, m.f⟩ else ⟨m.c, z, m.f⟩
def putF (f : List (Int × Int)) (e k : Int) : List (Int × Int) := if k = 0 then f else f ++ [(3 - e, k)]
def PairM.act (m : PairM) (e k : Int) : Int × PairM :=
  if e ≠ 1 ∧ e ≠ 2 then (1, m) else if 63 < m.f.length then (6, m) else if ((m.seat e).act k).1 ≠ 0 then (((m.seat e).act k).1, m)
  else (0, ⟨(m.set e ((m.seat e).act k).2.z).c, (m.set e ((m.seat e).act k).2.z).x, putF m.f e ((m.seat e).act k).2.send⟩)
def PairM.again (m : PairM) (e : Int) : Bool × PairM :=
  if (e ≠ 1 ∧ e ≠ 2) ∨ 63 < m.f.length then (false, m) else (decide ((m.seat e).waits ≠ 0), ⟨m.c, m.x, putF m.f e (m.seat e).waits⟩)
def PairM.deliver (m : PairM) (i : Int) (copies : Bool) : (Int × EffM) × PairM :=
  if i < 0 ∨ m.f.length ≤ i then ((1, eff0), m) else if copies = true ∧ 63 < m.f.length then ((6, eff0), m)
  else if ((m.seat (m.f.getD i.toNat (0, 0)).1).tell (m.f.getD i.toNat (0, 0)).2).1 ≠ 0 then ((((m.seat (m.f.getD i.toNat (0, 0)).1).tell (m.f.getD i.toNat (0, 0)).2).1, eff0), m)
  else ((0, ((m.seat (m.f.getD i.toNat (0, 0)).1).tell (m.f.getD i.toNat (0, 0)).2).2),
    ⟨(m.set (m.f.getD i.toNat (0, 0)).1 ((m.seat (m.f.getD i.toNat (0, 0)).1).tell (m.f.getD i.toNat (0, 0)).2).2.z).c, (m.set (m.f.getD i.toNat (0, 0)).1 ((m.seat (m.f.getD i.toNat (0, 0)).1).tell (m.f.getD i.toNat (0, 0)).2).2.z).x,
      putF (if copies = true then m.f else m.f.take i.toNat ++ m.f.drop (i.toNat + 1)) (m.f.getD i.toNat (0, 0)).1 ((m.seat (m.f.getD i.toNat (0, 0)).1).tell (m.f.getD i.toNat (0, 0)).2).2.send⟩)
def PairM.drop (m : PairM) (i : Int) : Int × PairM :=
  if i < 0 ∨ m.f.length ≤ i then (1, m) else (0, ⟨m.c, m.x, m.f.take i.toNat ++ m.f.drop (i.toNat + 1)⟩)

structure RS where
  (c x : Int × Int) (h : List (Int × Int)) (w : List Int) (d : Bool)
deriving DecidableEq
def reach1 : List RS := [⟨(1, 0), (1, 0), [], [], false⟩, ⟨(2, 0), (1, 0), [(2, 10)], [], false⟩, ⟨(1, 0), (13, 0), [(1, 1)], [], false⟩, ⟨(1, 0), (5, 0), [(1, 3)], [], true⟩, ⟨(1, 0), (8, 0), [(1, 4)], [], false⟩, ⟨(1, 0), (12, 0), [(1, 5)], [], false⟩, ⟨(2, 0), (13, 0), [(1, 1), (2, 10)], [], false⟩, ⟨(2, 0), (5, 0), [(1, 3), (2, 10)], [], true⟩, ⟨(2, 0), (8, 0), [(1, 4), (2, 10)], [], false⟩, ⟨(2, 0), (12, 0), [(1, 5), (2, 10)], [], false⟩, ⟨(2, 0), (2, 0), [(2, 10)], [10], false⟩, ⟨(14, 1), (13, 0), [(1, 1), (2, 13)], [], false⟩, ⟨(5, 0), (5, 0), [(1, 3)], [], true⟩, ⟨(14, 4), (8, 0), [(1, 4), (2, 12)], [], false⟩, ⟨(14, 5), (12, 0), [(1, 5), (2, 14)], [], false⟩, ⟨(14, 1), (13, 0), [(1, 1), (2, 10), (2, 13)], [], false⟩, ⟨(5, 0), (5, 0), [(1, 3), (2, 10)], [], true⟩, ⟨(14, 4), (8, 0), [(1, 4), (2, 10), (2, 12)], [], false⟩, ⟨(14, 5), (12, 0), [(1, 5), (2, 10), (2, 14)], [], false⟩, ⟨(2, 0), (9, 0), [(1, 4), (2, 10)], [10], false⟩, ⟨(2, 0), (14, 6), [(1, 6), (2, 10)], [10], false⟩, ⟨(14, 1), (14, 1), [(1, 1), (2, 13)], [], false⟩, ⟨(6, 0), (5, 0), [(1, 3), (2, 9)], [], true⟩, ⟨(7, 0), (5, 0), [(1, 3), (2, 11)], [], true⟩, ⟨(14, 4), (14, 4), [(1, 4), (2, 12)], [], false⟩, ⟨(14, 5), (14, 5), [(1, 5), (2, 14)], [], false⟩, ⟨(14, 1), (14, 1), [(1, 1), (2, 10), (2, 13)], [], false⟩, ⟨(6, 0), (5, 0), [(1, 3), (2, 9), (2, 10)], [], true⟩, ⟨(7, 0), (5, 0), [(1, 3), (2, 10), (2, 11)], [], true⟩, ⟨(14, 4), (14, 4), [(1, 4), (2, 10), (2, 12)], [], false⟩, ⟨(14, 5), (14, 5), [(1, 5), (2, 10), (2, 14)], [], false⟩, ⟨(14, 4), (9, 0), [(1, 4), (2, 10), (2, 12)], [10], false⟩, ⟨(14, 6), (14, 6), [(1, 6), (2, 10)], [10], false⟩, ⟨(6, 0), (6, 0), [(1, 3), (2, 9)], [9], true⟩, ⟨(7, 0), (7, 0), [(1, 3), (2, 11)], [11], true⟩, ⟨(14, 1), (14, 1), [(1, 1), (1, 6), (2, 10), (2, 13)], [], false⟩, ⟨(6, 0), (6, 0), [(1, 3), (2, 9), (2, 10)], [9], true⟩, ⟨(7, 0), (7, 0), [(1, 3), (2, 10), (2, 11)], [11], true⟩, ⟨(14, 4), (14, 4), [(1, 4), (1, 6), (2, 10), (2, 12)], [], false⟩, ⟨(14, 5), (14, 5), [(1, 5), (1, 6), (2, 10), (2, 14)], [], false⟩, ⟨(14, 4), (14, 4), [(1, 4), (2, 10), (2, 12)], [10], false⟩, ⟨(6, 0), (14, 7), [(1, 3), (1, 7), (2, 9)], [9], true⟩, ⟨(7, 0), (11, 0), [(1, 3), (1, 4), (2, 11)], [11], true⟩, ⟨(7, 0), (14, 8), [(1, 3), (1, 8), (2, 11)], [11], true⟩, ⟨(6, 0), (14, 7), [(1, 3), (1, 7), (2, 9), (2, 10)], [9], true⟩, ⟨(7, 0), (11, 0), [(1, 3), (1, 4), (2, 10), (2, 11)], [11], true⟩, ⟨(7, 0), (14, 8), [(1, 3), (1, 8), (2, 10), (2, 11)], [11], true⟩, ⟨(14, 4), (14, 4), [(1, 4), (1, 6), (2, 10), (2, 12)], [10], false⟩, ⟨(14, 7), (14, 7), [(1, 3), (1, 7), (2, 9)], [9], true⟩, ⟨(14, 4), (11, 0), [(1, 3), (1, 4), (2, 11), (2, 12)], [11], true⟩, ⟨(14, 8), (14, 8), [(1, 3), (1, 8), (2, 11)], [11], true⟩, ⟨(6, 0), (14, 7), [(1, 3), (1, 6), (1, 7), (2, 9), (2, 10)], [9], true⟩, ⟨(14, 7), (14, 7), [(1, 3), (1, 7), (2, 9), (2, 10)], [9], true⟩, ⟨(14, 4), (11, 0), [(1, 3), (1, 4), (2, 10), (2, 11), (2, 12)], [11], true⟩, ⟨(7, 0), (14, 8), [(1, 3), (1, 6), (1, 8), (2, 10), (2, 11)], [11], true⟩, ⟨(14, 8), (14, 8), [(1, 3), (1, 8), (2, 10), (2, 11)], [11], true⟩, ⟨(14, 4), (14, 4), [(1, 3), (1, 4), (2, 11), (2, 12)], [11], true⟩, ⟨(14, 7), (14, 7), [(1, 3), (1, 6), (1, 7), (2, 9), (2, 10)], [9], true⟩, ⟨(14, 4), (14, 4), [(1, 3), (1, 4), (2, 10), (2, 11), (2, 12)], [11], true⟩, ⟨(14, 8), (14, 8), [(1, 3), (1, 6), (1, 8), (2, 10), (2, 11)], [11], true⟩, ⟨(14, 4), (14, 4), [(1, 3), (1, 4), (1, 8), (2, 11), (2, 12)], [11], true⟩, ⟨(14, 4), (14, 4), [(1, 3), (1, 4), (1, 6), (2, 10), (2, 11), (2, 12)], [11], true⟩, ⟨(14, 4), (14, 4), [(1, 3), (1, 4), (1, 8), (2, 10), (2, 11), (2, 12)], [11], true⟩, ⟨(14, 4), (14, 4), [(1, 3), (1, 4), (1, 6), (1, 8), (2, 10), (2, 11), (2, 12)], [11], true⟩]
def reach2 : List RS := [⟨(1, 0), (1, 0), [], [], false⟩, ⟨(4, 0), (1, 0), [(2, 2)], [], false⟩, ⟨(2, 0), (1, 0), [(2, 10)], [], false⟩, ⟨(1, 0), (13, 0), [(1, 1)], [], false⟩, ⟨(1, 0), (8, 0), [(1, 4)], [], false⟩, ⟨(1, 0), (12, 0), [(1, 5)], [], false⟩, ⟨(3, 0), (1, 0), [(2, 2), (2, 10)], [], false⟩, ⟨(4, 0), (13, 0), [(1, 1), (2, 2)], [], false⟩, ⟨(4, 0), (8, 0), [(1, 4), (2, 2)], [], false⟩, ⟨(4, 0), (12, 0), [(1, 5), (2, 2)], [], false⟩, ⟨(4, 0), (4, 0), [(2, 2)], [2], false⟩, ⟨(2, 0), (13, 0), [(1, 1), (2, 10)], [], false⟩, ⟨(2, 0), (8, 0), [(1, 4), (2, 10)], [], false⟩, ⟨(2, 0), (12, 0), [(1, 5), (2, 10)], [], false⟩, ⟨(2, 0), (2, 0), [(2, 10)], [10], false⟩, ⟨(14, 1), (13, 0), [(1, 1), (2, 13)], [], false⟩, ⟨(14, 4), (8, 0), [(1, 4), (2, 12)], [], false⟩, ⟨(14, 5), (12, 0), [(1, 5), (2, 14)], [], false⟩, ⟨(3, 0), (13, 0), [(1, 1), (2, 2), (2, 10)], [], false⟩, ⟨(3, 0), (8, 0), [(1, 4), (2, 2), (2, 10)], [], false⟩, ⟨(3, 0), (12, 0), [(1, 5), (2, 2), (2, 10)], [], false⟩, ⟨(3, 0), (2, 0), [(2, 2), (2, 10)], [10], false⟩, ⟨(3, 0), (4, 0), [(2, 2), (2, 10)], [2], false⟩, ⟨(14, 1), (13, 0), [(1, 1), (2, 2), (2, 13)], [], false⟩, ⟨(14, 4), (8, 0), [(1, 4), (2, 2), (2, 12)], [], false⟩, ⟨(14, 5), (12, 0), [(1, 5), (2, 2), (2, 14)], [], false⟩, ⟨(4, 0), (13, 0), [(1, 1), (2, 2)], [2], false⟩, ⟨(4, 0), (5, 0), [(1, 3), (2, 2)], [2], true⟩, ⟨(4, 0), (10, 0), [(1, 4), (2, 2)], [2], false⟩, ⟨(4, 0), (12, 0), [(1, 5), (2, 2)], [2], false⟩, ⟨(14, 1), (13, 0), [(1, 1), (2, 10), (2, 13)], [], false⟩, ⟨(14, 4), (8, 0), [(1, 4), (2, 10), (2, 12)], [], false⟩, ⟨(14, 5), (12, 0), [(1, 5), (2, 10), (2, 14)], [], false⟩, ⟨(2, 0), (9, 0), [(1, 4), (2, 10)], [10], false⟩, ⟨(2, 0), (14, 6), [(1, 6), (2, 10)], [10], false⟩, ⟨(14, 1), (14, 1), [(1, 1), (2, 13)], [], false⟩, ⟨(14, 4), (14, 4), [(1, 4), (2, 12)], [], false⟩, ⟨(14, 5), (14, 5), [(1, 5), (2, 14)], [], false⟩, ⟨(14, 1), (13, 0), [(1, 1), (2, 2), (2, 10), (2, 13)], [], false⟩, ⟨(14, 4), (8, 0), [(1, 4), (2, 2), (2, 10), (2, 12)], [], false⟩, ⟨(14, 5), (12, 0), [(1, 5), (2, 2), (2, 10), (2, 14)], [], false⟩, ⟨(3, 0), (9, 0), [(1, 4), (2, 2), (2, 10)], [10], false⟩, ⟨(3, 0), (14, 6), [(1, 6), (2, 2), (2, 10)], [10], false⟩, ⟨(3, 0), (13, 0), [(1, 1), (2, 2), (2, 10)], [2], false⟩, ⟨(3, 0), (5, 0), [(1, 3), (2, 2), (2, 10)], [2], true⟩, ⟨(3, 0), (10, 0), [(1, 4), (2, 2), (2, 10)], [2], false⟩, ⟨(3, 0), (12, 0), [(1, 5), (2, 2), (2, 10)], [2], false⟩, ⟨(3, 0), (2, 0), [(2, 2), (2, 10)], [2, 10], false⟩, ⟨(14, 1), (14, 1), [(1, 1), (2, 2), (2, 13)], [], false⟩, ⟨(14, 4), (14, 4), [(1, 4), (2, 2), (2, 12)], [], false⟩, ⟨(14, 5), (14, 5), [(1, 5), (2, 2), (2, 14)], [], false⟩, ⟨(14, 1), (13, 0), [(1, 1), (2, 2), (2, 13)], [2], false⟩, ⟨(5, 0), (5, 0), [(1, 3), (2, 2)], [2], true⟩, ⟨(14, 4), (10, 0), [(1, 4), (2, 2), (2, 12)], [2], false⟩, ⟨(14, 5), (12, 0), [(1, 5), (2, 2), (2, 14)], [2], false⟩, ⟨(14, 1), (14, 1), [(1, 1), (2, 10), (2, 13)], [], false⟩, ⟨(14, 4), (14, 4), [(1, 4), (2, 10), (2, 12)], [], false⟩, ⟨(14, 5), (14, 5), [(1, 5), (2, 10), (2, 14)], [], false⟩, ⟨(14, 4), (9, 0), [(1, 4), (2, 10), (2, 12)], [10], false⟩, ⟨(14, 6), (14, 6), [(1, 6), (2, 10)], [10], false⟩, ⟨(14, 1), (14, 1), [(1, 1), (2, 2), (2, 10), (2, 13)], [], false⟩, ⟨(14, 4), (14, 4), [(1, 4), (2, 2), (2, 10), (2, 12)], [], false⟩, ⟨(14, 5), (14, 5), [(1, 5), (2, 2), (2, 10), (2, 14)], [], false⟩, ⟨(14, 4), (9, 0), [(1, 4), (2, 2), (2, 10), (2, 12)], [10], false⟩, ⟨(14, 6), (14, 6), [(1, 6), (2, 2), (2, 10)], [10], false⟩, ⟨(14, 1), (13, 0), [(1, 1), (2, 2), (2, 10), (2, 13)], [2], false⟩, ⟨(5, 0), (5, 0), [(1, 3), (2, 2), (2, 10)], [2], true⟩, ⟨(14, 4), (10, 0), [(1, 4), (2, 2), (2, 10), (2, 12)], [2], false⟩, ⟨(14, 5), (12, 0), [(1, 5), (2, 2), (2, 10), (2, 14)], [2], false⟩, ⟨(3, 0), (9, 0), [(1, 4), (2, 2), (2, 10)], [2, 10], false⟩, ⟨(3, 0), (14, 6), [(1, 6), (2, 2), (2, 10)], [2, 10], false⟩, ⟨(14, 1), (14, 1), [(1, 1), (2, 2), (2, 13)], [2], false⟩, ⟨(6, 0), (5, 0), [(1, 3), (2, 2), (2, 9)], [2], true⟩, ⟨(7, 0), (5, 0), [(1, 3), (2, 2), (2, 11)], [2], true⟩, ⟨(14, 4), (14, 4), [(1, 4), (2, 2), (2, 12)], [2], false⟩, ⟨(14, 5), (14, 5), [(1, 5), (2, 2), (2, 14)], [2], false⟩, ⟨(14, 1), (14, 1), [(1, 1), (1, 6), (2, 10), (2, 13)], [], false⟩, ⟨(14, 4), (14, 4), [(1, 4), (1, 6), (2, 10), (2, 12)], [], false⟩, ⟨(14, 5), (14, 5), [(1, 5), (1, 6), (2, 10), (2, 14)], [], false⟩, ⟨(14, 4), (14, 4), [(1, 4), (2, 10), (2, 12)], [10], false⟩, ⟨(14, 1), (14, 1), [(1, 1), (1, 6), (2, 2), (2, 10), (2, 13)], [], false⟩, ⟨(14, 4), (14, 4), [(1, 4), (1, 6), (2, 2), (2, 10), (2, 12)], [], false⟩, ⟨(14, 5), (14, 5), [(1, 5), (1, 6), (2, 2), (2, 10), (2, 14)], [], false⟩, ⟨(14, 4), (14, 4), [(1, 4), (2, 2), (2, 10), (2, 12)], [10], false⟩, ⟨(14, 1), (14, 1), [(1, 1), (2, 2), (2, 10), (2, 13)], [2], false⟩, ⟨(6, 0), (5, 0), [(1, 3), (2, 2), (2, 9), (2, 10)], [2], true⟩, ⟨(7, 0), (5, 0), [(1, 3), (2, 2), (2, 10), (2, 11)], [2], true⟩, ⟨(14, 4), (14, 4), [(1, 4), (2, 2), (2, 10), (2, 12)], [2], false⟩, ⟨(14, 5), (14, 5), [(1, 5), (2, 2), (2, 10), (2, 14)], [2], false⟩, ⟨(14, 4), (9, 0), [(1, 4), (2, 2), (2, 10), (2, 12)], [2, 10], false⟩, ⟨(14, 6), (14, 6), [(1, 6), (2, 2), (2, 10)], [2, 10], false⟩, ⟨(6, 0), (6, 0), [(1, 3), (2, 2), (2, 9)], [2, 9], true⟩, ⟨(7, 0), (7, 0), [(1, 3), (2, 2), (2, 11)], [2, 11], true⟩, ⟨(14, 4), (14, 4), [(1, 4), (1, 6), (2, 10), (2, 12)], [10], false⟩, ⟨(14, 4), (14, 4), [(1, 4), (1, 6), (2, 2), (2, 10), (2, 12)], [10], false⟩, ⟨(14, 1), (14, 1), [(1, 1), (1, 6), (2, 2), (2, 10), (2, 13)], [2], false⟩, ⟨(6, 0), (6, 0), [(1, 3), (2, 2), (2, 9), (2, 10)], [2, 9], true⟩, ⟨(7, 0), (7, 0), [(1, 3), (2, 2), (2, 10), (2, 11)], [2, 11], true⟩, ⟨(14, 4), (14, 4), [(1, 4), (1, 6), (2, 2), (2, 10), (2, 12)], [2], false⟩, ⟨(14, 5), (14, 5), [(1, 5), (1, 6), (2, 2), (2, 10), (2, 14)], [2], false⟩, ⟨(14, 4), (14, 4), [(1, 4), (2, 2), (2, 10), (2, 12)], [2, 10], false⟩, ⟨(6, 0), (14, 7), [(1, 3), (1, 7), (2, 2), (2, 9)], [2, 9], true⟩, ⟨(7, 0), (11, 0), [(1, 3), (1, 4), (2, 2), (2, 11)], [2, 11], true⟩, ⟨(7, 0), (14, 8), [(1, 3), (1, 8), (2, 2), (2, 11)], [2, 11], true⟩, ⟨(6, 0), (14, 7), [(1, 3), (1, 7), (2, 2), (2, 9), (2, 10)], [2, 9], true⟩, ⟨(7, 0), (11, 0), [(1, 3), (1, 4), (2, 2), (2, 10), (2, 11)], [2, 11], true⟩, ⟨(7, 0), (14, 8), [(1, 3), (1, 8), (2, 2), (2, 10), (2, 11)], [2, 11], true⟩, ⟨(14, 4), (14, 4), [(1, 4), (1, 6), (2, 2), (2, 10), (2, 12)], [2, 10], false⟩, ⟨(14, 7), (14, 7), [(1, 3), (1, 7), (2, 2), (2, 9)], [2, 9], true⟩, ⟨(14, 4), (11, 0), [(1, 3), (1, 4), (2, 2), (2, 11), (2, 12)], [2, 11], true⟩, ⟨(14, 8), (14, 8), [(1, 3), (1, 8), (2, 2), (2, 11)], [2, 11], true⟩, ⟨(14, 7), (14, 7), [(1, 3), (1, 7), (2, 2), (2, 9), (2, 10)], [2, 9], true⟩, ⟨(6, 0), (14, 7), [(1, 3), (1, 6), (1, 7), (2, 2), (2, 9), (2, 10)], [2, 9], true⟩, ⟨(14, 4), (11, 0), [(1, 3), (1, 4), (2, 2), (2, 10), (2, 11), (2, 12)], [2, 11], true⟩, ⟨(7, 0), (14, 8), [(1, 3), (1, 6), (1, 8), (2, 2), (2, 10), (2, 11)], [2, 11], true⟩, ⟨(14, 8), (14, 8), [(1, 3), (1, 8), (2, 2), (2, 10), (2, 11)], [2, 11], true⟩, ⟨(14, 4), (14, 4), [(1, 3), (1, 4), (2, 2), (2, 11), (2, 12)], [2, 11], true⟩, ⟨(14, 7), (14, 7), [(1, 3), (1, 6), (1, 7), (2, 2), (2, 9), (2, 10)], [2, 9], true⟩, ⟨(14, 4), (14, 4), [(1, 3), (1, 4), (2, 2), (2, 10), (2, 11), (2, 12)], [2, 11], true⟩, ⟨(14, 8), (14, 8), [(1, 3), (1, 6), (1, 8), (2, 2), (2, 10), (2, 11)], [2, 11], true⟩, ⟨(14, 4), (14, 4), [(1, 3), (1, 4), (1, 8), (2, 2), (2, 11), (2, 12)], [2, 11], true⟩, ⟨(14, 4), (14, 4), [(1, 3), (1, 4), (1, 6), (2, 2), (2, 10), (2, 11), (2, 12)], [2, 11], true⟩, ⟨(14, 4), (14, 4), [(1, 3), (1, 4), (1, 8), (2, 2), (2, 10), (2, 11), (2, 12)], [2, 11], true⟩, ⟨(14, 4), (14, 4), [(1, 3), (1, 4), (1, 6), (1, 8), (2, 2), (2, 10), (2, 11), (2, 12)], [2, 11], true⟩]
def reach (p : Int) : List RS := if p = 1 then reach1 else reach2
def RS.seat (r : RS) (p e : Int) : SeatM := if e = 1 then ⟨p, 1, r.c.1, r.c.2⟩ else ⟨p, 2, r.x.1, r.x.2⟩
/-- does the effect y at the side e (told: dl) lead to r'? -/
def RS.goes (r : RS) (e : Int) (y : EffM) (dl : Bool) (r' : RS) : Bool :=
  decide (r'.c = (if e = 1 then (y.z.s, y.z.h) else r.c)) && decide (r'.x = (if e = 1 then r.x else (y.z.s, y.z.h))) &&
  r.h.all (fun q => r'.h.contains q) && (decide (y.send = 0) || r'.h.contains (3 - e, y.send)) &&
  [2, 9, 10, 11].all (fun k => decide (r'.w.contains k = (r.w.contains k || (dl && decide (e = 2) && decide (y.work = k))))) &&
  decide (r'.d = (r.d || decide ((if e = 1 then r.x else (y.z.s, y.z.h)).1 = 5)))
/-- is work told of once, and Close and Compensate behind Completed? -/
def RS.fair (r : RS) (e : Int) (y : EffM) (dl : Bool) : Bool :=
  !(dl && decide (e = 2) && decide (y.work ≠ 0)) || ([2, 9, 10, 11].contains y.work && !r.w.contains y.work && (!(decide (y.work = 9) || decide (y.work = 11)) || r.d))
def RS.ok (r : RS) (p e : Int) (y : EffM) (dl : Bool) : Bool := decide (y.z.p = p) && decide (y.z.e = e) && y.z.right && r.fair e y dl && (reach p).any (r.goes e y dl)
def RS.closed (p : Int) (r : RS) : Bool :=
  [1, 2].all (fun e => (r.seat p e).right && allT.all (fun k => decide (((r.seat p e).act k).1 ≠ 0) || r.ok p e ((r.seat p e).act k).2 false) &&
    (decide ((r.seat p e).waits = 0) || r.ok p e ⟨r.seat p e, (r.seat p e).waits, 0, 0, false⟩ false)) &&
  r.h.all (fun q => (decide (q.1 = 1) || decide (q.1 = 2)) && decide (((r.seat p q.1).tell q.2).1 = 0) && r.ok p q.1 ((r.seat p q.1).tell q.2).2 true)
def onM (z : Int × Int) (how : Int) : Bool :=
  if z.1 = 14 then decide (z.2 = how) else if how = 7 then decide (z.1 = 6) else if how = 8 then decide (z.1 = 7) else if how = 6 then decide (z.1 = 2 ∨ z.1 = 3)
  else if how = 1 then decide (z.1 = 13) else if how = 4 then failT z.1 else if how = 5 then decide (z.1 = 12) else false
def RS.safe (r : RS) : Bool :=
  (!decide (r.c.1 = 14) || onM r.x r.c.2) && (!decide (r.x.1 = 14) || onM r.c r.x.2) &&
  (!decide (r.c.1 = 5 ∨ r.c.1 = 6 ∨ r.c.1 = 7) || decide (r.x.1 = 5 ∨ r.x.1 = 6 ∨ r.x.1 = 7 ∨ r.x.1 = 11 ∨ r.x.1 = 14)) && !(r.w.contains 9 && r.w.contains 11)
theorem reach_closed1 : (reach 1).all (RS.closed 1) = true := by decide +kernel
theorem reach_closed2 : (reach 2).all (RS.closed 2) = true := by decide +kernel
theorem reach_safe1 : (reach 1).all RS.safe = true := by decide +kernel
theorem reach_safe2 : (reach 2).all RS.safe = true := by decide +kernel
theorem reach_start1 : (⟨(1, 0), (1, 0), [], [], false⟩ : RS) ∈ reach 1 := by decide +kernel
theorem reach_start2 : (⟨(1, 0), (1, 0), [], [], false⟩ : RS) ∈ reach 2 := by decide +kernel
theorem reach_closed {p : Int} (hp : p = 1 ∨ p = 2) : ∀ r ∈ reach p, r.closed p = true := by
  rcases hp with rfl | rfl
  · exact List.all_eq_true.1 reach_closed1
  · exact List.all_eq_true.1 reach_closed2
theorem reach_safe {p : Int} (hp : p = 1 ∨ p = 2) : ∀ r ∈ reach p, r.safe = true := by
  rcases hp with rfl | rfl
  · exact List.all_eq_true.1 reach_safe1
  · exact List.all_eq_true.1 reach_safe2
theorem reach_start {p : Int} (hp : p = 1 ∨ p = 2) : (⟨(1, 0), (1, 0), [], [], false⟩ : RS) ∈ reach p := by
  rcases hp with rfl | rfl
  · exact reach_start1
  · exact reach_start2
end Go.Proofs.YtghjnhdepeiloaaDoor
