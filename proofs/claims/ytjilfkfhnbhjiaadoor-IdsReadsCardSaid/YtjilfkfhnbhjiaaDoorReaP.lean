/-
  IdsReads' PARTS (own work).
-/
import Derived.Test.YtjilfkfhnbhjiaaDoorBackV
namespace Go.Proofs.YtjilfkfhnbhjiaaDoor
open Go.RowKit Go.ChangeShapes Go.WideShapes

theorem numM_len {S P lims : List Int} (h : (numM S P lims).2 = 0) : (numM S P lims).1.length = P.count 35 := by
  unfold numM at h ⊢
  split at h
  · cases h
  · rename_i l b hr
    split at h
    · rename_i hb
      split at h
      · rename_i ha
        have := readM_len _ _ _ hr
        simp only [hb, ha, if_true]
        simpa using this
      · cases h
    · cases h
theorem numM_bad {S P lims : List Int} (h : (numM S P lims).2 ≠ 0) : (numM S P lims).1 = [] := by
  unfold numM at h ⊢
  split at h
  · rfl
  · rename_i l b hr
    split at h
    · rename_i hb
      simp only [hb, if_true]
      split at h
      · exact absurd rfl h
      · rename_i ha; rw [if_neg ha]
    · rename_i hb; rw [if_neg hb]
theorem nums_node (s : ByteArray) (hs : s.size ≤ 200) (w : World) :
    Calls Tryd.prog 23 #[.string s, .string ⟨#[110, 35]⟩, .slice (some ⟨w.heap.size, 0, none⟩) 1 1] (w.alloc (.cells #[.int .i64 4] 3)) fun e w' =>
      ∃ v, e = .returned (.tuple #[v, .int .i64 (nodeN (strB s)).2]) ∧ w'.ownsRow w.heap.size 3 1 v (nodeN (strB s)).1.length ((nodeN (strB s)).1.map (Value.int .i64)) ∧ Kp w w' := by
  have hr := (MapKept.heap_alloc w (.cells #[.int .i64 4] 3)).1
  refine (numbers_any s ⟨#[110, 35]⟩ (by omega) (by decide) w.heap.size 1 [4] 1 rfl (by decide) _ (fun j hj => ?_)).mono ?_
  · unfold World.cell?
    dsimp only
    rw [hr]
    have hjk : j < 1 := hj
    match j, hjk with
    | 0, _ => rfl
  · rintro e w' ⟨v, h1, h2, h3⟩
    exact ⟨v, h1, own_mono h2 (Below.size (kp_alloc _ _)), Kp.trans (kp_alloc _ _) h3⟩
theorem nums_act (s : ByteArray) (hs : s.size ≤ 200) (w : World) :
    Calls Tryd.prog 23 #[.string s, .string ⟨#[97, 35, 46, 35]⟩, .slice (some ⟨w.heap.size, 0, none⟩) 2 2] (w.alloc (.cells #[.int .i64 4, .int .i64 1000000] 3)) fun e w' =>
      ∃ v, e = .returned (.tuple #[v, .int .i64 (actN (strB s)).2]) ∧ w'.ownsRow w.heap.size 3 1 v (actN (strB s)).1.length ((actN (strB s)).1.map (Value.int .i64)) ∧ Kp w w' := by
  have hr := (MapKept.heap_alloc w (.cells #[.int .i64 4, .int .i64 1000000] 3)).1
  refine (numbers_any s ⟨#[97, 35, 46, 35]⟩ (by omega) (by decide) w.heap.size 2 [4, 1000000] 2 rfl (by decide) _ (fun j hj => ?_)).mono ?_
  · unfold World.cell?
    dsimp only
    rw [hr]
    have hjk : j < 2 := hj
    match j, hjk with
    | 0, _ => rfl
    | 1, _ => rfl
  · rintro e w' ⟨v, h1, h2, h3⟩
    exact ⟨v, h1, own_mono h2 (Below.size (kp_alloc _ _)), Kp.trans (kp_alloc _ _) h3⟩
theorem nums_reg (s : ByteArray) (hs : s.size ≤ 200) (w : World) :
    Calls Tryd.prog 23 #[.string s, .string ⟨#[97, 35, 46, 35, 47, 35]⟩, .slice (some ⟨w.heap.size, 0, none⟩) 3 3] (w.alloc (.cells #[.int .i64 4, .int .i64 1000000, .int .i64 6] 3)) fun e w' =>
      ∃ v, e = .returned (.tuple #[v, .int .i64 (regN (strB s)).2]) ∧ w'.ownsRow w.heap.size 3 1 v (regN (strB s)).1.length ((regN (strB s)).1.map (Value.int .i64)) ∧ Kp w w' := by
  have hr := (MapKept.heap_alloc w (.cells #[.int .i64 4, .int .i64 1000000, .int .i64 6] 3)).1
  refine (numbers_any s ⟨#[97, 35, 46, 35, 47, 35]⟩ (by omega) (by decide) w.heap.size 3 [4, 1000000, 6] 3 rfl (by decide) _ (fun j hj => ?_)).mono ?_
  · unfold World.cell?
    dsimp only
    rw [hr]
    have hjk : j < 3 := hj
    match j, hjk with
    | 0, _ => rfl
    | 1, _ => rfl
    | 2, _ => rfl
  · rintro e w' ⟨v, h1, h2, h3⟩
    exact ⟨v, h1, own_mono h2 (Below.size (kp_alloc _ _)), Kp.trans (kp_alloc _ _) h3⟩
theorem nums_part (s : ByteArray) (hs : s.size ≤ 200) (w : World) :
    Calls Tryd.prog 23 #[.string s, .string ⟨#[112, 35, 46, 35]⟩, .slice (some ⟨w.heap.size, 0, none⟩) 2 2] (w.alloc (.cells #[.int .i64 4, .int .i64 8] 3)) fun e w' =>
      ∃ v, e = .returned (.tuple #[v, .int .i64 (partN (strB s)).2]) ∧ w'.ownsRow w.heap.size 3 1 v (partN (strB s)).1.length ((partN (strB s)).1.map (Value.int .i64)) ∧ Kp w w' := by
  have hr := (MapKept.heap_alloc w (.cells #[.int .i64 4, .int .i64 8] 3)).1
  refine (numbers_any s ⟨#[112, 35, 46, 35]⟩ (by omega) (by decide) w.heap.size 2 [4, 8] 2 rfl (by decide) _ (fun j hj => ?_)).mono ?_
  · unfold World.cell?
    dsimp only
    rw [hr]
    have hjk : j < 2 := hj
    match j, hjk with
    | 0, _ => rfl
    | 1, _ => rfl
  · rintro e w' ⟨v, h1, h2, h3⟩
    exact ⟨v, h1, own_mono h2 (Below.size (kp_alloc _ _)), Kp.trans (kp_alloc _ _) h3⟩
end Go.Proofs.YtjilfkfhnbhjiaaDoor
