/-
  PARTS OF THIS PROOF (own work): FacM, ByF, FacC.
-/
import Derived.Test.YtpemeenfhkgmpaaGreatDoorZb02
import Derived.Test.YtpemeenfhkgmpaaGreatDoorZb01
import Derived.Lib.SmallJoins
import Derived.Laws.AppendOwnNone
import Derived.Laws.OwnMore
import Derived.Lib.SlBytesConst
import Derived.Laws.Bits64b
import Derived.Lib.SliceRun
import Derived.StillTailTactics
import Derived.BigQuiet
import Derived.Deep.RegionWith
import Derived.Laws.Strings
namespace Go.Proofs.YtpemeenfhkgmpaaGreatDoor
open Go.RowKit

structure FX where
  k : Int
  n : Int
  s : Int
  r : Int
  e : Int
  p : Int
  q : Int
  o : Int
  d : Int
  a : Int
  t : Int
  h : Int
  c : Int
  x : Nat
deriving DecidableEq
def FX.nums (f : FX) : List Int := [f.k, f.n, f.s, f.r, f.e, f.p, f.q, f.o, f.d, f.a, f.t, f.h, f.c]
def FX.cells (f : FX) : Array Value := #[.int .i64 f.k, .int .i64 f.n, .int .i64 f.s, .int .i64 f.r, .int .i64 f.e, .int .i64 f.p, .int .i64 f.q, .int .i64 f.o, .int .i64 f.d, .int .i64 f.a, .int .i64 f.t, .int .i64 f.h, .int .i64 f.c, .float .f64 f.x]
def FX.wf (f : FX) : Prop := f.x < 18446744073709551616
def noF : FX := ⟨0, 0, 0, 0, 0, 0, 0, 0, 0, 0, 0, 0, 0, 0⟩
def ofF (l : List Int) (x : Nat) : FX := ⟨l.getD 0 0, l.getD 1 0, l.getD 2 0, l.getD 3 0, l.getD 4 0, l.getD 5 0, l.getD 6 0, l.getD 7 0, l.getD 8 0, l.getD 9 0, l.getD 10 0, l.getD 11 0, l.getD 12 0, x⟩
theorem nums_ofF {l : List Int} (x : Nat) (h : l.length = 13) : (ofF l x).nums = l := by
  match l, h with
  | [k, n, s, r, e, p, q, o, d, a, t, hh, c], _ => rfl
theorem thirteen {l : List Int} (h : l.length = 13) : ∃ k n s r e p q o d a t hh c, l = [k, n, s, r, e, p, q, o, d, a, t, hh, c] := by
  match l, h with
  | [k, n, s, r, e, p, q, o, d, a, t, hh, c], _ => exact ⟨k, n, s, r, e, p, q, o, d, a, t, hh, c, rfl⟩
/-- a state and how it ended go together -/
def seatX (t h : Int) : Bool := if t = 14 then decide (h = 1 ∨ 4 ≤ h ∧ h ≤ 8) else decide (1 ≤ t ∧ t ≤ 13 ∧ h = 0)
def ctxF (f : FX) : CX := ⟨f.n, f.s, f.o, f.d, f.x⟩
/-- the places that a kind names -/
def namedF (k : Int) : List Int :=
  if k = 1 then [1, 2, 7, 8, 9] else if k = 2 then [1, 2, 3, 4, 5, 6] else if k = 3 then [1, 2, 3, 10, 11] else if k = 4 then [1, 2, 12] else
  if k = 5 then [1, 2] else if k = 6 then [1, 2, 5, 6] else if k = 7 then [3, 5] else if k = 8 then [5, 10, 11] else []
def okF (f : FX) : Bool :=
  if f.k = 1 then rightX (ctxF f) && decide (0 ≤ f.a ∧ f.a ≤ 8)
  else if f.k = 2 then rightA f.n f.s && decide (0 ≤ f.r ∧ f.r ≤ 5 ∧ 0 ≤ f.e ∧ f.e ≤ 3 ∧ 0 ≤ f.p ∧ f.p ≤ 7 ∧ (f.q = 1 ∨ f.q = 2))
  else if f.k = 3 then rightA f.n f.s && (decide (0 ≤ f.r ∧ f.r ≤ 5) && seatX f.t f.h)
  else if f.k = 4 then rightA f.n f.s && decide (f.c = 1 ∨ f.c = 2)
  else if f.k = 5 then rightA f.n f.s
  else if f.k = 6 then rightA f.n f.s && decide (0 ≤ f.p ∧ f.p ≤ 7 ∧ (f.q = 1 ∨ f.q = 2))
  else if f.k = 7 then decide (0 ≤ f.p ∧ f.p ≤ 7 ∧ 0 ≤ f.r ∧ f.r ≤ 5)
  else if f.k = 8 then decide (0 ≤ f.p ∧ f.p ≤ 7) && seatX f.t f.h
  else false
/-- all from a place on are 0, or named -/
def restF (nm : List Int) : Int → List Int → Bool
  | _, [] => true
  | i, n :: l => decide (i = 0 ∨ n = 0 ∨ i ∈ nm) && restF nm (i + 1) l
/-- WHICH FACTS ARE RIGHT, as the document says it -/
def rightF (f : FX) : Bool := restF (namedF f.k) 0 f.nums && (okF f && decide (f.k = 1 ∨ f.x = 0))
def sameF (a b : FX) : Bool := decide (a.nums = b.nums) && decide (Fl.plain a.x = Fl.plain b.x)

/-- a rule: what it names is in range, and is taken out -/
inductive RuM where
  | rg (tag : Nat) (lo hi : Int)
  | act
  | ctx
  | seat
def RuM.ok : RuM → List Int → Nat → Bool
  | .rg tag lo hi, l, _ => decide (lo ≤ l.getD (tag - 1) 0 ∧ l.getD (tag - 1) 0 ≤ hi)
  | .act, l, _ => rightA (l.getD 1 0) (l.getD 2 0)
  | .ctx, l, x => rightX ⟨l.getD 1 0, l.getD 2 0, l.getD 7 0, l.getD 8 0, x⟩
  | .seat, l, _ => seatX (l.getD 10 0) (l.getD 11 0)
def RuM.tkL : RuM → List Int → List Int
  | .rg tag _ _, l => l.set (tag - 1) 0
  | .act, l => (l.set 1 0).set 2 0
  | .ctx, l => (((l.set 1 0).set 2 0).set 7 0).set 8 0
  | .seat, l => (l.set 10 0).set 11 0
def RuM.tkX : RuM → Nat → Nat
  | .ctx, _ => 0
  | _, x => x
theorem RuM.tkL_len (r : RuM) (l : List Int) : (r.tkL l).length = l.length := by cases r <;> simp [RuM.tkL]
theorem RuM.tkX_wf (r : RuM) {x : Nat} (h : x < 18446744073709551616) : r.tkX x < 18446744073709551616 := by
  cases r
  all_goals first | exact h | (show 0 < 18446744073709551616; decide)
def runR : List RuM → List Int → Nat → Option (List Int × Nat)
  | [], l, x => some (l, x)
  | r :: rs, l, x => if r.ok l x = true then runR rs (r.tkL l) (r.tkX x) else none
def rulesM (k : Int) : List RuM :=
  if k = 1 then [.ctx, .rg 10 0 8] else if k = 2 then [.act, .rg 4 0 5, .rg 5 0 3, .rg 6 0 7, .rg 7 1 2] else if k = 3 then [.act, .rg 4 0 5, .seat] else if k = 4 then [.act, .rg 13 1 2] else
  if k = 5 then [.act] else if k = 6 then [.rg 6 0 7, .act, .rg 7 1 2] else if k = 7 then [.rg 6 0 7, .rg 4 0 5] else if k = 8 then [.rg 6 0 7, .seat] else []
/-- what is left is the kind alone -/
def leftF (k : Int) (o : Option (List Int × Nat)) : Bool :=
  match o with
  | none => false
  | some (l, x) => decide (l = [k, 0, 0, 0, 0, 0, 0, 0, 0, 0, 0, 0, 0]) && decide (x = 0)
theorem rest_cons (nm : List Int) (i n : Int) (l : List Int) : restF nm i (n :: l) = (decide (i = 0 ∨ n = 0 ∨ i ∈ nm) && restF nm (i + 1) l) := rfl
theorem right_rules {f : FX} (h : 1 ≤ f.k ∧ f.k ≤ 8) : rightF f = leftF f.k (runR (rulesM f.k) f.nums f.x) := by
  obtain ⟨k, n, s, r, e, p, q, o, d, a, t, hh, c, x⟩ := f
  dsimp only at h ⊢
  have hk : k = 1 ∨ k = 2 ∨ k = 3 ∨ k = 4 ∨ k = 5 ∨ k = 6 ∨ k = 7 ∨ k = 8 := by omega
  rcases hk with rfl | rfl | rfl | rfl | rfl | rfl | rfl | rfl
  · cases hc : rightX ⟨n, s, o, d, x⟩ <;> by_cases ha : 0 ≤ a ∧ a ≤ 8 <;> simp [rightF, okF, ctxF, namedF, restF, FX.nums, rulesM, runR, RuM.ok, RuM.tkL, RuM.tkX, leftF, hc, ha]
  · by_cases h1 : 0 ≤ r ∧ r ≤ 5 <;> by_cases h2 : 0 ≤ e ∧ e ≤ 3 <;> by_cases h3 : 0 ≤ p ∧ p ≤ 7 <;> by_cases h4 : q = 1 ∨ q = 2
    all_goals have h5 : (1 ≤ q ∧ q ≤ 2) = (q = 1 ∨ q = 2) := propext (by omega)
    all_goals cases hc : rightA n s <;> simp [rightF, okF, namedF, restF, FX.nums, rulesM, runR, RuM.ok, RuM.tkL, RuM.tkX, leftF, hc, h1, h2, h3, h4, h5, and_comm]
  · by_cases h1 : 0 ≤ r ∧ r ≤ 5 <;> cases h2 : seatX t hh <;> cases hc : rightA n s <;> simp [rightF, okF, namedF, restF, FX.nums, rulesM, runR, RuM.ok, RuM.tkL, RuM.tkX, leftF, hc, h1, h2]
  · by_cases h4 : c = 1 ∨ c = 2
    all_goals have h5 : (1 ≤ c ∧ c ≤ 2) = (c = 1 ∨ c = 2) := propext (by omega)
    all_goals cases hc : rightA n s <;> simp [rightF, okF, namedF, restF, FX.nums, rulesM, runR, RuM.ok, RuM.tkL, RuM.tkX, leftF, hc, h4, h5]
  · cases hc : rightA n s <;> simp [rightF, okF, namedF, restF, FX.nums, rulesM, runR, RuM.ok, RuM.tkL, RuM.tkX, leftF, hc]
  · by_cases h3 : 0 ≤ p ∧ p ≤ 7 <;> by_cases h4 : q = 1 ∨ q = 2
    all_goals have h5 : (1 ≤ q ∧ q ≤ 2) = (q = 1 ∨ q = 2) := propext (by omega)
    all_goals cases hc : rightA n s <;> simp [rightF, okF, namedF, restF, FX.nums, rulesM, runR, RuM.ok, RuM.tkL, RuM.tkX, leftF, hc, h3, h4, h5]
  · by_cases h3 : 0 ≤ p ∧ p ≤ 7 <;> by_cases h1 : 0 ≤ r ∧ r ≤ 5
    all_goals simp [rightF, okF, namedF, restF, FX.nums, rulesM, runR, RuM.ok, RuM.tkL, RuM.tkX, leftF, h1, h3]
  · by_cases h3 : 0 ≤ p ∧ p ≤ 7 <;> cases h2 : seatX t hh <;> simp [rightF, okF, namedF, restF, FX.nums, rulesM, runR, RuM.ok, RuM.tkL, RuM.tkX, leftF, h2, h3]
theorem right_far {f : FX} (h : ¬ (1 ≤ f.k ∧ f.k ≤ 8)) : rightF f = false := by
  unfold rightF okF
  rw [if_neg (by omega), if_neg (by omega), if_neg (by omega), if_neg (by omega), if_neg (by omega), if_neg (by omega), if_neg (by omega), if_neg (by omega)]
  simp
open Go.RowKit Go.ChangeShapes Go.WideShapes

/-- the fields' numbers and the float, as the document puts them: a place a tag, tag 14 the float -/
def putG : List Int → Option Nat → List (Int × List Int) → Option (List Int × Option Nat)
  | l, o, [] => some (l, o)
  | l, o, x :: fs =>
    if x.1 = 14 then (if (toFl x.2).2 = 0 then putG l (some (toFl x.2).1) fs else none)
    else if 14 < x.1 ∨ x.2.length = 0 ∨ (toNum x.2).2 ≠ 0 then none else putG (l.set (x.1 - 1).toNat (toNum x.2).1) o fs
def finG : Option (List Int × Option Nat) → Int × FX
  | some (l, o) => if (o.isSome = decide ((ofF l (o.getD 0)).k = 1)) ∧ rightF (ofF l (o.getD 0)) = true then (0, ofF l (o.getD 0)) else (4, noF)
  | none => (4, noF)
/-- WHAT Read ANSWERS: the error's number, the fact -/
def decG (bs : List Int) : Int × FX :=
  if (splitQ 17 bs 0 0).1 ≠ 0 then ((splitQ 17 bs 0 0).1, noF) else finG (putG (List.replicate 13 0) none (splitQ 17 bs 0 0).2)
/-- a fact's fields -/
def tailF (f : FX) : List (Int × List Int) := if f.k = 1 then [(14, f8 (Fl.plain f.x))] else []
def rowG (f : FX) : List (Int × List Int) := rowF 1 f.nums ++ tailF f
/-- a fact's bytes -/
def encF (f : FX) : List Int := joinB (rowG f)

open Go.RowKit Go.ChangeShapes Go.WideShapes

structure FacC (ads : List Addr) (w : World) : Prop where
  right : ∀ w1, Kp w w1 → ∀ f : FX, f.wf → Calls Tryz.prog 27 #[.agg f.cells] w1 fun e w' => e = .returned (.bool (rightF f)) ∧ Kp w1 w'
theorem FacC.kp {ads : List Addr} {w w' : World} (C : FacC ads w) (hk : Kp w w') : FacC ads w' where
  right := fun w1 h => C.right w1 (Kp.trans hk h)
end Go.Proofs.YtpemeenfhkgmpaaGreatDoor
