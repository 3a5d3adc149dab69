/-
  THE WALK OF TablesMeet (own work).
-/
import Derived.Test.YtghjnhdepeiloaaDoorTabC
import Derived.Test.YtghjnhdepeiloaaDoorTabE
import Derived.Test.YtghjnhdepeiloaaDoorSlN
import Derived.Test.YtghjnhdepeiloaaDoorRefL
namespace Go.Proofs.YtghjnhdepeiloaaDoor
open Go.RowKit Go.ChangeShapes Go.WideShapes

theorem meet_lists {p : Int} (hp : p = 1 ∨ p = 2) : takesL p 2 = sendsL p 1 ∧ takesL p 1 = sendsL p 2 ∧ (sendsL p 1).length ≤ 14 ∧ (sendsL p 2).length ≤ 14 := by
  rcases hp with rfl | rfl <;> decide +kernel
theorem wait_in : ∀ q ∈ sidesT, ∀ s ∈ allT, hasT q.1 q.2 s = true → waitT q.2 s ≠ 0 → waitT q.2 s ∈ sendsL q.1 q.2 := by decide +kernel
theorem errI_iface (ads : List Addr) (k : Int) (h : k ≠ 0) : ∃ q, errI ads k = .iface 128 (.pointer q) := ⟨_, if_neg h⟩
theorem hasT_all {p e s : Int} (h : hasT p e s = true) : s ∈ allT := by
  have := hasT_rng h
  unfold allT
  simp only [List.mem_cons, List.not_mem_nil, or_false]
  omega
end Go.Proofs.YtghjnhdepeiloaaDoor
