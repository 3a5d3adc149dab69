/-
  WHERE NUMBERS STAND IN A TEXT (own work): package ids' four lists of places.
-/
import Derived.Test.YtldamfpoemgkpaaDoorLibI
import Derived.Test.YtldamfpoemgkpaaDoorPvE
import Derived.Laws.OwnMore
namespace Go.Proofs.YtldamfpoemgkpaaDoor
open Go.RowKit Go.ChangeShapes Go.WideShapes

/-- a place: its mark, its bound -/
def cellP (x : Int × Int) : List Value := [.string (strOfNums [x.1]), .int .i64 x.2]
/-- A LIST OF PLACES in memory. -/
def PlC (v : Value) (ps : List (Int × Int)) (w : World) : Prop :=
  ∃ g cap, v = .slice (some ⟨g, 0, none⟩) ps.length cap ∧ ∀ j, j < ps.length → w.cell? ⟨g, 2 * j, none⟩ = some (.string (strOfNums [(ps.getD j (0, 0)).1])) ∧ w.cell? ⟨g, 2 * j + 1, none⟩ = some (.int .i64 (ps.getD j (0, 0)).2)
theorem PlC.kp {v : Value} {ps : List (Int × Int)} {w w' : World} (h : PlC v ps w) (hk : Kp w w') : PlC v ps w' := by
  obtain ⟨g, cap, h1, h2⟩ := h
  exact ⟨g, cap, h1, fun j hj => ⟨kp_cell hk (h2 j hj).1, kp_cell hk (h2 j hj).2⟩⟩
def nodeL : List (Int × Int) := [(110, 4)]
def actL : List (Int × Int) := [(97, 4), (46, 1000000)]
def regL : List (Int × Int) := [(97, 4), (46, 1000000), (47, 6)]
def partL : List (Int × Int) := [(112, 4), (46, 8)]
theorem info_place : (Tryd.prog.info? 95).map (fun i => (i.zero, i.size, i.bytes)) = some (some (.agg #[.string ⟨#[]⟩, .int .i64 0]), 2, 24) := by kernel_rfl

theorem two_pl (w : World) (a b c d : Int) : PlC (.slice (some ⟨w.heap.size, 0, none⟩) 2 2) [(a, b), (c, d)] (w.alloc (.cells #[.string (strOfNums [a]), .int .i64 b, .string (strOfNums [c]), .int .i64 d] 95)) := by
  refine ⟨w.heap.size, 2, rfl, fun j hj => ?_⟩
  have hj1 : j < 2 := hj
  have hr := (MapKept.heap_alloc w (.cells #[.string (strOfNums [a]), .int .i64 b, .string (strOfNums [c]), .int .i64 d] 95)).1
  match j, hj1 with
  | 0, _ | 1, _ => constructor <;> (unfold World.cell?; dsimp only; rw [hr]; rfl)
theorem actPl_own (w : World) : Calls Tryd.prog 58 #[] w fun e w' => e = .returned (.slice (some ⟨w.heap.size, 0, none⟩) 2 2) ∧ w' = w.alloc (.cells #[.string (strOfNums [97]), .int .i64 4, .string (strOfNums [46]), .int .i64 1000000] 95) := by
  go_enter Tryd.func58, Tryd.ntmps58
  go_wp2
  go_ret
  exact ⟨rfl, rfl⟩
theorem actPl_any (w : World) : Calls Tryd.prog 58 #[] w fun e w' => ∃ v, e = .returned v ∧ PlC v actL w' ∧ Kp w w' := by
  refine (actPl_own w).mono ?_
  rintro e w' ⟨rfl, rfl⟩
  exact ⟨_, rfl, two_pl w 97 4 46 1000000, kp_alloc _ _⟩
end Go.Proofs.YtldamfpoemgkpaaDoor
