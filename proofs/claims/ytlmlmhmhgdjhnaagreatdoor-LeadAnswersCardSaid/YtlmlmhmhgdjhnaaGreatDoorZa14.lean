/- Parts of this proof (own work). -/
import Derived.Test.YtlmlmhmhgdjhnaaGreatDoorZa06
set_option maxRecDepth 100000
set_option maxHeartbeats 40000000
namespace Go.Proofs.YtlmlmhmhgdjhnaaGreatDoor
open Go.RowKit Go.ChangeShapes Go.WideShapes
theorem results_row_tmpT {P : Program} {fn : Func} {p u : Tmp} {ty : TypeId} (h : fn.results = #[.cell p ty, .tmp u]) (tmps : Array Value) (w : World) (g : Nat) (t : TypeId) (cs : Array Value) (fr : Nat × Nat) (d : TypeDesc)
  (hp : tmps.getD p undef = .pointer (some ⟨g, 0, none⟩)) (hg : w.heap[g]? = some (.cells cs t fr))
  (hu : P.underlying ty = some d) (hd : (match d with | .struct _ | .array _ _ => true | _ => false) = true) (hi : (P.info? ty).map (·.size) = some cs.size) :
  (results fn tmps).run P w = .ok (.tuple #[.agg cs, tmps.getD u undef]) w := by
 have hp' : tmps[p]?.getD undef = .pointer (some ⟨g, 0, none⟩) := by simpa using hp
 simp [results, h, hp', asAddr, run_loadVar_row w g t ty cs fr d hg hu hd hi]
theorem hasT_rng {p e s : Int} (h : hasT p e s = true) : s = 1 ∨ s = 2 ∨ s = 3 ∨ s = 4 ∨ s = 5 ∨ s = 6 ∨ s = 7 ∨ s = 8 ∨ s = 9 ∨ s = 10 ∨ s = 11 ∨ s = 12 ∨ s = 13 ∨ s = 14 := by
 unfold hasT at h
 split at h
 ·omega
 split at h
 ·omega
 ·have := of_decide_eq_true h; omega
theorem upT_rng {k : Int} (h : upT k = true) : k = 1 ∨ k = 3 ∨ k = 4 ∨ k = 5 ∨ k = 6 ∨ k = 7 ∨ k = 8 := by
 have := of_decide_eq_true h; omega
theorem downT_rng {p k : Int} (h : downT p k = true) : k = 2 ∨ k = 9 ∨ k = 10 ∨ k = 11 ∨ k = 12 ∨ k = 13 ∨ k = 14 := by
 have := of_decide_eq_true h; omega
theorem rightT_rng {p e : Int} (h : rightT p e = true) : (p = 1 ∨ p = 2) ∧ (e = 1 ∨ e = 2) := of_decide_eq_true h
theorem sendsT_or {p e k : Int} (h : sendsT p e k = true) : upT k = true ∨ downT p k = true := by
 unfold sendsT at h
 split at h
 ·exact .inl h
 ·exact .inr h
end Go.Proofs.YtlmlmhmhgdjhnaaGreatDoor
