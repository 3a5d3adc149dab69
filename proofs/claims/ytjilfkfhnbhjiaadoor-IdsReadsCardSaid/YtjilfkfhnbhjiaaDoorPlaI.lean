/-
  WHERE NUMBERS STAND IN A TEXT (own work): package ids' four lists of places.
-/
import Derived.Test.YtjilfkfhnbhjiaaDoorLibI
import Derived.Test.YtjilfkfhnbhjiaaDoorPvE
import Derived.Laws.OwnMore
namespace Go.Proofs.YtjilfkfhnbhjiaaDoor
open Go.RowKit Go.ChangeShapes Go.WideShapes

/-- a place: its mark, its bound -/
def cellP (x : Int × Int) : List Value := [.string (strOfNums [x.1]), .int .i64 x.2]
/-- A LIST OF PLACES in memory. -/
def PlC (v : Value) (ps : List (Int × Int)) (w : World) : Prop :=
  ∃ g cap, v = .slice (some ⟨g, 0, none⟩) ps.length cap ∧ ∀ j, j < ps.length → w.cell? ⟨g, 2 * j, none⟩ = some (.string (strOfNums [(ps.getD j (0, 0)).1])) ∧ w.cell? ⟨g, 2 * j + 1, none⟩ = some (.int .i64 (ps.getD j (0, 0)).2)
theorem PlC.kp {v : Value} {ps : List (Int × Int)} {w w' : World} (h : PlC v ps w) (hk : Kp w w') : PlC v ps w' := by
  obtain ⟨g, cap, h1, h2⟩ := h
  exact ⟨g, cap, h1, fun j hj => ⟨kp_cell hk (h2 j hj).1, kp_cell hk (h2 j hj).2⟩⟩
def nodeL : List (Int × Int) := [(110, 4)]
def actL : List (Int × Int) := [(97, 4), (46, 1000000)]
def regL : List (Int × Int) := [(97, 4), (46, 1000000), (47, 6)]
def partL : List (Int × Int) := [(112, 4), (46, 8)]
theorem info_place : (Tryd.prog.info? 67).map (fun i => (i.zero, i.size, i.bytes)) = some (some (.agg #[.string ⟨#[]⟩, .int .i64 0]), 2, 24) := by kernel_rfl

theorem nodePl_any (w : World) : Calls Tryd.prog 26 #[] w fun e w' => ∃ v, e = .returned v ∧ PlC v nodeL w' ∧ Kp w w' := by
  go_enter Tryd.func26, Tryd.ntmps26
  go_wp2
  go_ret
  refine ⟨_, rfl, ⟨w.heap.size, 1, rfl, fun j hj => ?_⟩, kp_alloc _ _⟩
  have hj1 : j < 1 := hj
  obtain rfl : j = 0 := by omega
  have hr := (MapKept.heap_alloc w (.cells #[.string ⟨#[110]⟩, .int .i64 4] 67)).1
  constructor <;> (unfold World.cell?; dsimp only; rw [hr]; rfl)
theorem two_pl (w : World) (a b c d : Int) : PlC (.slice (some ⟨w.heap.size, 0, none⟩) 2 2) [(a, b), (c, d)] (w.alloc (.cells #[.string (strOfNums [a]), .int .i64 b, .string (strOfNums [c]), .int .i64 d] 67)) := by
  refine ⟨w.heap.size, 2, rfl, fun j hj => ?_⟩
  have hj1 : j < 2 := hj
  have hr := (MapKept.heap_alloc w (.cells #[.string (strOfNums [a]), .int .i64 b, .string (strOfNums [c]), .int .i64 d] 67)).1
  match j, hj1 with
  | 0, _ | 1, _ => constructor <;> (unfold World.cell?; dsimp only; rw [hr]; rfl)
theorem actPl_own (w : World) : Calls Tryd.prog 27 #[] w fun e w' => e = .returned (.slice (some ⟨w.heap.size, 0, none⟩) 2 2) ∧ w' = w.alloc (.cells #[.string (strOfNums [97]), .int .i64 4, .string (strOfNums [46]), .int .i64 1000000] 67) := by
  go_enter Tryd.func27, Tryd.ntmps27
  go_wp2
  go_ret
  exact ⟨rfl, rfl⟩
theorem actPl_any (w : World) : Calls Tryd.prog 27 #[] w fun e w' => ∃ v, e = .returned v ∧ PlC v actL w' ∧ Kp w w' := by
  refine (actPl_own w).mono ?_
  rintro e w' ⟨rfl, rfl⟩
  exact ⟨_, rfl, two_pl w 97 4 46 1000000, kp_alloc _ _⟩
theorem partPl_any (w : World) : Calls Tryd.prog 29 #[] w fun e w' => ∃ v, e = .returned v ∧ PlC v partL w' ∧ Kp w w' := by
  have h2 := two_pl w 112 4 46 8
  go_enter Tryd.func29, Tryd.ntmps29
  go_wp2
  go_ret
  exact ⟨_, rfl, h2, kp_alloc _ _⟩

set_option maxRecDepth 20000 in
set_option maxHeartbeats 1000000 in
theorem regPl_any (w : World) : Calls Tryd.prog 28 #[] w fun e w' => ∃ v, e = .returned v ∧ PlC v regL w' ∧ Kp w w' := by
  have h2 := actPl_own w
  obtain ⟨o1, ho1⟩ : ∃ o, Obj.cells #[.string (strOfNums [97]), .int .i64 4, .string (strOfNums [46]), .int .i64 1000000] 67 = o := ⟨_, rfl⟩
  rw [ho1] at h2
  have hr1 : (w.alloc o1).heap[w.heap.size]? = some o1 := (MapKept.heap_alloc w o1).1
  obtain ⟨i0, hi, hz0, hz1, hz2⟩ := info_parts info_place
  have HI := Lib.hid (And.intro hz1 hz2)
  have HI2 := Lib.hid hi
  have HI3 := Lib.hid hz0
  have H2 := Lib.hid h2
  have hk1 : Kp w (w.alloc o1) := kp_alloc _ _
  have own1 : ((w.alloc o1).alloc (.cells #[.string ⟨#[47]⟩, .int .i64 6] 67)).ownsRow w.heap.size 67 2 (.slice (some ⟨w.heap.size, 0, none⟩) 2 2) 2 [.string (strOfNums [97]), .int .i64 4, .string (strOfNums [46]), .int .i64 1000000] := by
    refine own_kp ?_ (kp_alloc _ _)
    subst ho1
    exact ⟨by simp, Or.inr ⟨w.heap.size, 2, _, rfl, Nat.le_refl _, hr1, Nat.le_refl _, by decide, by simp, by simp⟩⟩
  have hb2 : ((w.alloc o1).alloc (.cells #[.string ⟨#[47]⟩, .int .i64 6] 67)).heap[(w.alloc o1).heap.size]? = some (.cells #[.string ⟨#[47]⟩, .int .i64 6] 67 (0, 0)) := (MapKept.heap_alloc _ _).1
  have hz : (w.alloc o1).heap.size = w.heap.size + 1 := by simp
  have OW := Lib.hid own1
  have HB := Lib.hid hb2
  have K2 := Lib.hid (Kp.trans hk1 (kp_alloc (w.alloc o1) (.cells #[.string ⟨#[47]⟩, .int .i64 6] 67)))
  have HZ := Lib.hid hz
  clear h2 hr1 hi hz0 hz1 hz2 hk1 own1 hb2 hz ho1
  go_enter Tryd.func28, Tryd.ntmps28
  go_wp2_with (first | (go_at_call 27; (with_reducible refine H2.out.mono ?_); rintro e w1 ⟨rfl, rfl⟩) | (at_builtin; refine wpList_append_own _ rfl (.tmp 1) (.tmp 3) 55 rfl w.heap.size 67 i0 (.agg #[.string ⟨#[]⟩, .int .i64 0]) 2 24 Tryd.underlying55 HI2.out HI3.out HI.out.1 HI.out.2 rfl (by decide) _ _ _ rfl OW.out ⟨w.heap.size + 1, 0, none⟩ 1 1 [.string ⟨#[47]⟩, .int .i64 6] ?c0 ?c1 ?c2 ?c3 ?c4 ?c5 ?c6 ?_))
  case c0 => rfl
  case c1 => rfl
  case c2 =>
    intro i u hi
    rw [add_plain]
    unfold World.cell?
    dsimp only
    have hb := HB.out
    rw [HZ.out] at hb
    rw [hb]
    have hi2 : i < 2 := by
      rcases Nat.lt_or_ge i 2 with q | q
      · exact q
      · rw [List.getElem?_eq_none (by simpa using q)] at hi; cases hi
    match i, hi2, hi with
    | 0, _, hi | 1, _, hi => simpa using hi
  case c3 => intro u hu; simp at hu; rcases hu with rfl | rfl <;> rfl
  case c4 => unfold maxLen; omega
  case c5 => omega
  case c6 => exact Below.size K2.out
  intro v' w' hown hgr _
  have kp3 : Kp w w' := Below.grown K2.out hgr (Below.size K2.out) (fun k hk => by simp [Value.ownBlock] at hk; omega)
  have HP : PlC v' regL w' := by
    rcases hown.2 with ⟨_, h0⟩ | ⟨g, cap, cur, rfl, hg, _, _⟩
    · omega
    · refine ⟨g, cap, rfl, fun j hj => ?_⟩
      have hj3 : j < 3 := hj
      rw [hown.cellAt (2 * j) (by omega), hown.cellAt (2 * j + 1) (by omega)]
      match j, hj3 with
      | 0, _ | 1, _ | 2, _ => exact ⟨rfl, rfl⟩
  have HPP := Lib.hid HP
  have KP := Lib.hid kp3
  clear HP kp3 hown hgr
  go_wp2
  go_ret
  exact ⟨_, rfl, HPP.out, KP.out⟩
end Go.Proofs.YtjilfkfhnbhjiaaDoor
