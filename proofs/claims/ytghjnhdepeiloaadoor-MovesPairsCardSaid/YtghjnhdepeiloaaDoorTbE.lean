/-
  PACKAGE tables (own work): pick, States, Takes, Sends.
-/
import Derived.Test.YtghjnhdepeiloaaDoorTbA
import Derived.Test.YtghjnhdepeiloaaDoorTliV
import Derived.Test.YtghjnhdepeiloaaDoorRefL
import Derived.Laws.EntriesVeiled
namespace Go.Proofs.YtghjnhdepeiloaaDoor
open Go.RowKit Go.ChangeShapes Go.WideShapes

theorem kp_drewU {a b : World} (h : Kp a b) : Kp a b.drew := ⟨h.os, h.tape, h.output, h.size, h.block⟩
theorem kp_drewT {a b : World} (h : Kp a b) (n : Nat) : Kp a (b.drewN n) := ⟨h.os, h.tape, h.output, h.size, h.block⟩
theorem states_14 : ∀ q ∈ sidesT, statesL q.1 q.2 = (allT.take 14).filter (hasT q.1 q.2) := by decide +kernel
end Go.Proofs.YtghjnhdepeiloaaDoor
