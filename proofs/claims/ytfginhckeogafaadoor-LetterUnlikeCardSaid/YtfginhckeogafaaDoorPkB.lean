/-
  A MESSAGE AS THE DOCUMENT HAS IT (own work): liaisonref08.Right.
-/
import Derived.Test.YtfginhckeogafaaDoorPkA

namespace Go.Proofs.YtfginhckeogafaaDoor
open Go.RowKit Go.ChangeShapes Go.WideShapes

set_option maxRecDepth 100000 in
theorem rit_0 (k f t n s r p o c : Int) (w : World) (hy : k < 1) :
    Calls Tryd.prog 11 #[.agg #[.int .i64 k, .int .i64 f, .int .i64 t, .int .i64 n, .int .i64 s, .int .i64 r, .int .i64 p, .int .i64 o, .int .i64 c]] w fun e w' => e = .returned (.bool false) ∧ Kp w w' := by
  go_enter Tryd.func11, Tryd.ntmps11
  go_wp2
  go_ret
  exact ⟨rfl, kp_alloc _ _⟩
set_option maxRecDepth 100000 in
theorem rit_1 (k f t n s r p o c : Int) (w : World) (hy : k > 19) :
    Calls Tryd.prog 11 #[.agg #[.int .i64 k, .int .i64 f, .int .i64 t, .int .i64 n, .int .i64 s, .int .i64 r, .int .i64 p, .int .i64 o, .int .i64 c]] w fun e w' => e = .returned (.bool false) ∧ Kp w w' := by
  have g0 : ¬ k < 1 := by omega
  go_enter Tryd.func11, Tryd.ntmps11
  go_wp2
  go_ret
  exact ⟨rfl, kp_alloc _ _⟩
set_option maxRecDepth 100000 in
theorem rit_2 (k f t n s r p o c : Int) (w : World) (h0 : 1 ≤ k) (h1 : k ≤ 19) (hy : f < 0) :
    Calls Tryd.prog 11 #[.agg #[.int .i64 k, .int .i64 f, .int .i64 t, .int .i64 n, .int .i64 s, .int .i64 r, .int .i64 p, .int .i64 o, .int .i64 c]] w fun e w' => e = .returned (.bool false) ∧ Kp w w' := by
  have g0 : ¬ k < 1 := by omega
  have g1 : ¬ k > 19 := by omega
  go_enter Tryd.func11, Tryd.ntmps11
  go_wp2
  go_ret
  exact ⟨rfl, kp_alloc _ _⟩
set_option maxRecDepth 100000 in
theorem rit_3 (k f t n s r p o c : Int) (w : World) (h0 : 1 ≤ k) (h1 : k ≤ 19) (hy : f > 3) :
    Calls Tryd.prog 11 #[.agg #[.int .i64 k, .int .i64 f, .int .i64 t, .int .i64 n, .int .i64 s, .int .i64 r, .int .i64 p, .int .i64 o, .int .i64 c]] w fun e w' => e = .returned (.bool false) ∧ Kp w w' := by
  have g0 : ¬ k < 1 := by omega
  have g1 : ¬ k > 19 := by omega
  have g2 : ¬ f < 0 := by omega
  go_enter Tryd.func11, Tryd.ntmps11
  go_wp2
  go_ret
  exact ⟨rfl, kp_alloc _ _⟩
set_option maxRecDepth 100000 in
theorem rit_4 (k f t n s r p o c : Int) (w : World) (h0 : 1 ≤ k) (h1 : k ≤ 19) (h2 : 0 ≤ f) (h3 : f ≤ 3) (hy : t < 0) :
    Calls Tryd.prog 11 #[.agg #[.int .i64 k, .int .i64 f, .int .i64 t, .int .i64 n, .int .i64 s, .int .i64 r, .int .i64 p, .int .i64 o, .int .i64 c]] w fun e w' => e = .returned (.bool false) ∧ Kp w w' := by
  have g0 : ¬ k < 1 := by omega
  have g1 : ¬ k > 19 := by omega
  have g2 : ¬ f < 0 := by omega
  have g3 : ¬ f > 3 := by omega
  go_enter Tryd.func11, Tryd.ntmps11
  go_wp2
  go_ret
  exact ⟨rfl, kp_alloc _ _⟩
set_option maxRecDepth 100000 in
theorem rit_5 (k f t n s r p o c : Int) (w : World) (h0 : 1 ≤ k) (h1 : k ≤ 19) (h2 : 0 ≤ f) (h3 : f ≤ 3) (hy : t > 3) :
    Calls Tryd.prog 11 #[.agg #[.int .i64 k, .int .i64 f, .int .i64 t, .int .i64 n, .int .i64 s, .int .i64 r, .int .i64 p, .int .i64 o, .int .i64 c]] w fun e w' => e = .returned (.bool false) ∧ Kp w w' := by
  have g0 : ¬ k < 1 := by omega
  have g1 : ¬ k > 19 := by omega
  have g2 : ¬ f < 0 := by omega
  have g3 : ¬ f > 3 := by omega
  have g4 : ¬ t < 0 := by omega
  go_enter Tryd.func11, Tryd.ntmps11
  go_wp2
  go_ret
  exact ⟨rfl, kp_alloc _ _⟩
set_option maxRecDepth 100000 in
theorem rit_6 (k f t n s r p o c : Int) (w : World) (h0 : 1 ≤ k) (h1 : k ≤ 19) (h2 : 0 ≤ f) (h3 : f ≤ 3) (h4 : 0 ≤ t) (h5 : t ≤ 3) (hy : rightA n s = false) :
    Calls Tryd.prog 11 #[.agg #[.int .i64 k, .int .i64 f, .int .i64 t, .int .i64 n, .int .i64 s, .int .i64 r, .int .i64 p, .int .i64 o, .int .i64 c]] w fun e w' => e = .returned (.bool false) ∧ Kp w w' := by
  have g0 : ¬ k < 1 := by omega
  have g1 : ¬ k > 19 := by omega
  have g2 : ¬ f < 0 := by omega
  have g3 : ¬ f > 3 := by omega
  have g4 : ¬ t < 0 := by omega
  have g5 : ¬ t > 3 := by omega
  have HA := Lib.hid (fun w1 => refRight_any n s w1)
  rw [hy] at HA
  have CK : (w.alloc (.cells #[.int .i64 k, .int .i64 f, .int .i64 t, .int .i64 n, .int .i64 s, .int .i64 r, .int .i64 p, .int .i64 o, .int .i64 c] 25)).cell? ⟨w.heap.size, 0, none⟩ = some (.int .i64 k) := by unfold World.cell?; dsimp only; rw [(MapKept.heap_alloc w _).1]; rfl
  have CR : (w.alloc (.cells #[.int .i64 k, .int .i64 f, .int .i64 t, .int .i64 n, .int .i64 s, .int .i64 r, .int .i64 p, .int .i64 o, .int .i64 c] 25)).cell? ⟨w.heap.size, 5, none⟩ = some (.int .i64 r) := by unfold World.cell?; dsimp only; rw [(MapKept.heap_alloc w _).1]; rfl
  have CP : (w.alloc (.cells #[.int .i64 k, .int .i64 f, .int .i64 t, .int .i64 n, .int .i64 s, .int .i64 r, .int .i64 p, .int .i64 o, .int .i64 c] 25)).cell? ⟨w.heap.size, 6, none⟩ = some (.int .i64 p) := by unfold World.cell?; dsimp only; rw [(MapKept.heap_alloc w _).1]; rfl
  have CO : (w.alloc (.cells #[.int .i64 k, .int .i64 f, .int .i64 t, .int .i64 n, .int .i64 s, .int .i64 r, .int .i64 p, .int .i64 o, .int .i64 c] 25)).cell? ⟨w.heap.size, 7, none⟩ = some (.int .i64 o) := by unfold World.cell?; dsimp only; rw [(MapKept.heap_alloc w _).1]; rfl
  have CC : (w.alloc (.cells #[.int .i64 k, .int .i64 f, .int .i64 t, .int .i64 n, .int .i64 s, .int .i64 r, .int .i64 p, .int .i64 o, .int .i64 c] 25)).cell? ⟨w.heap.size, 8, none⟩ = some (.int .i64 c) := by unfold World.cell?; dsimp only; rw [(MapKept.heap_alloc w _).1]; rfl
  clear hy
  go_enter Tryd.func11, Tryd.ntmps11
  go_wp2_with (go_at_call 35; (with_reducible refine (HA.out _).mono ?_); rintro e w2 ⟨rfl, hk2⟩; have K2 := Lib.hid (Kp.trans (kp_alloc w (.cells #[.int .i64 k, .int .i64 f, .int .i64 t, .int .i64 n, .int .i64 s, .int .i64 r, .int .i64 p, .int .i64 o, .int .i64 c] 25)) hk2); have cR := kp_cell hk2 CR; have cP := kp_cell hk2 CP; have cO := kp_cell hk2 CO; have cC := kp_cell hk2 CC; have cK := kp_cell hk2 CK; clear hk2)
  go_ret
  exact ⟨rfl, K2.out⟩
set_option maxRecDepth 100000 in
theorem rit_7 (k f t n s r p o c : Int) (w : World) (h0 : 1 ≤ k) (h1 : k ≤ 19) (h2 : 0 ≤ f) (h3 : f ≤ 3) (h4 : 0 ≤ t) (h5 : t ≤ 3) (hy6 : rightA n s = true) (hy : r < 0) :
    Calls Tryd.prog 11 #[.agg #[.int .i64 k, .int .i64 f, .int .i64 t, .int .i64 n, .int .i64 s, .int .i64 r, .int .i64 p, .int .i64 o, .int .i64 c]] w fun e w' => e = .returned (.bool false) ∧ Kp w w' := by
  have g0 : ¬ k < 1 := by omega
  have g1 : ¬ k > 19 := by omega
  have g2 : ¬ f < 0 := by omega
  have g3 : ¬ f > 3 := by omega
  have g4 : ¬ t < 0 := by omega
  have g5 : ¬ t > 3 := by omega
  have HA := Lib.hid (fun w1 => refRight_any n s w1)
  rw [hy6] at HA
  have CK : (w.alloc (.cells #[.int .i64 k, .int .i64 f, .int .i64 t, .int .i64 n, .int .i64 s, .int .i64 r, .int .i64 p, .int .i64 o, .int .i64 c] 25)).cell? ⟨w.heap.size, 0, none⟩ = some (.int .i64 k) := by unfold World.cell?; dsimp only; rw [(MapKept.heap_alloc w _).1]; rfl
  have CR : (w.alloc (.cells #[.int .i64 k, .int .i64 f, .int .i64 t, .int .i64 n, .int .i64 s, .int .i64 r, .int .i64 p, .int .i64 o, .int .i64 c] 25)).cell? ⟨w.heap.size, 5, none⟩ = some (.int .i64 r) := by unfold World.cell?; dsimp only; rw [(MapKept.heap_alloc w _).1]; rfl
  have CP : (w.alloc (.cells #[.int .i64 k, .int .i64 f, .int .i64 t, .int .i64 n, .int .i64 s, .int .i64 r, .int .i64 p, .int .i64 o, .int .i64 c] 25)).cell? ⟨w.heap.size, 6, none⟩ = some (.int .i64 p) := by unfold World.cell?; dsimp only; rw [(MapKept.heap_alloc w _).1]; rfl
  have CO : (w.alloc (.cells #[.int .i64 k, .int .i64 f, .int .i64 t, .int .i64 n, .int .i64 s, .int .i64 r, .int .i64 p, .int .i64 o, .int .i64 c] 25)).cell? ⟨w.heap.size, 7, none⟩ = some (.int .i64 o) := by unfold World.cell?; dsimp only; rw [(MapKept.heap_alloc w _).1]; rfl
  have CC : (w.alloc (.cells #[.int .i64 k, .int .i64 f, .int .i64 t, .int .i64 n, .int .i64 s, .int .i64 r, .int .i64 p, .int .i64 o, .int .i64 c] 25)).cell? ⟨w.heap.size, 8, none⟩ = some (.int .i64 c) := by unfold World.cell?; dsimp only; rw [(MapKept.heap_alloc w _).1]; rfl
  clear hy6
  go_enter Tryd.func11, Tryd.ntmps11
  go_wp2_with (go_at_call 35; (with_reducible refine (HA.out _).mono ?_); rintro e w2 ⟨rfl, hk2⟩; have K2 := Lib.hid (Kp.trans (kp_alloc w (.cells #[.int .i64 k, .int .i64 f, .int .i64 t, .int .i64 n, .int .i64 s, .int .i64 r, .int .i64 p, .int .i64 o, .int .i64 c] 25)) hk2); have cR := kp_cell hk2 CR; have cP := kp_cell hk2 CP; have cO := kp_cell hk2 CO; have cC := kp_cell hk2 CC; have cK := kp_cell hk2 CK; clear hk2)
  go_ret
  exact ⟨rfl, K2.out⟩
set_option maxRecDepth 100000 in
theorem rit_8 (k f t n s r p o c : Int) (w : World) (h0 : 1 ≤ k) (h1 : k ≤ 19) (h2 : 0 ≤ f) (h3 : f ≤ 3) (h4 : 0 ≤ t) (h5 : t ≤ 3) (hy6 : rightA n s = true) (hy : r > 5) :
    Calls Tryd.prog 11 #[.agg #[.int .i64 k, .int .i64 f, .int .i64 t, .int .i64 n, .int .i64 s, .int .i64 r, .int .i64 p, .int .i64 o, .int .i64 c]] w fun e w' => e = .returned (.bool false) ∧ Kp w w' := by
  have g0 : ¬ k < 1 := by omega
  have g1 : ¬ k > 19 := by omega
  have g2 : ¬ f < 0 := by omega
  have g3 : ¬ f > 3 := by omega
  have g4 : ¬ t < 0 := by omega
  have g5 : ¬ t > 3 := by omega
  have g7 : ¬ r < 0 := by omega
  have HA := Lib.hid (fun w1 => refRight_any n s w1)
  rw [hy6] at HA
  have CK : (w.alloc (.cells #[.int .i64 k, .int .i64 f, .int .i64 t, .int .i64 n, .int .i64 s, .int .i64 r, .int .i64 p, .int .i64 o, .int .i64 c] 25)).cell? ⟨w.heap.size, 0, none⟩ = some (.int .i64 k) := by unfold World.cell?; dsimp only; rw [(MapKept.heap_alloc w _).1]; rfl
  have CR : (w.alloc (.cells #[.int .i64 k, .int .i64 f, .int .i64 t, .int .i64 n, .int .i64 s, .int .i64 r, .int .i64 p, .int .i64 o, .int .i64 c] 25)).cell? ⟨w.heap.size, 5, none⟩ = some (.int .i64 r) := by unfold World.cell?; dsimp only; rw [(MapKept.heap_alloc w _).1]; rfl
  have CP : (w.alloc (.cells #[.int .i64 k, .int .i64 f, .int .i64 t, .int .i64 n, .int .i64 s, .int .i64 r, .int .i64 p, .int .i64 o, .int .i64 c] 25)).cell? ⟨w.heap.size, 6, none⟩ = some (.int .i64 p) := by unfold World.cell?; dsimp only; rw [(MapKept.heap_alloc w _).1]; rfl
  have CO : (w.alloc (.cells #[.int .i64 k, .int .i64 f, .int .i64 t, .int .i64 n, .int .i64 s, .int .i64 r, .int .i64 p, .int .i64 o, .int .i64 c] 25)).cell? ⟨w.heap.size, 7, none⟩ = some (.int .i64 o) := by unfold World.cell?; dsimp only; rw [(MapKept.heap_alloc w _).1]; rfl
  have CC : (w.alloc (.cells #[.int .i64 k, .int .i64 f, .int .i64 t, .int .i64 n, .int .i64 s, .int .i64 r, .int .i64 p, .int .i64 o, .int .i64 c] 25)).cell? ⟨w.heap.size, 8, none⟩ = some (.int .i64 c) := by unfold World.cell?; dsimp only; rw [(MapKept.heap_alloc w _).1]; rfl
  clear hy6
  go_enter Tryd.func11, Tryd.ntmps11
  go_wp2_with (go_at_call 35; (with_reducible refine (HA.out _).mono ?_); rintro e w2 ⟨rfl, hk2⟩; have K2 := Lib.hid (Kp.trans (kp_alloc w (.cells #[.int .i64 k, .int .i64 f, .int .i64 t, .int .i64 n, .int .i64 s, .int .i64 r, .int .i64 p, .int .i64 o, .int .i64 c] 25)) hk2); have cR := kp_cell hk2 CR; have cP := kp_cell hk2 CP; have cO := kp_cell hk2 CO; have cC := kp_cell hk2 CC; have cK := kp_cell hk2 CK; clear hk2)
  go_ret
  exact ⟨rfl, K2.out⟩
set_option maxRecDepth 100000 in
theorem rit_9 (k f t n s r p o c : Int) (w : World) (h0 : 1 ≤ k) (h1 : k ≤ 19) (h2 : 0 ≤ f) (h3 : f ≤ 3) (h4 : 0 ≤ t) (h5 : t ≤ 3) (h7 : 0 ≤ r) (h8 : r ≤ 5) (hy6 : rightA n s = true) (hy : p < 0) :
    Calls Tryd.prog 11 #[.agg #[.int .i64 k, .int .i64 f, .int .i64 t, .int .i64 n, .int .i64 s, .int .i64 r, .int .i64 p, .int .i64 o, .int .i64 c]] w fun e w' => e = .returned (.bool false) ∧ Kp w w' := by
  have g0 : ¬ k < 1 := by omega
  have g1 : ¬ k > 19 := by omega
  have g2 : ¬ f < 0 := by omega
  have g3 : ¬ f > 3 := by omega
  have g4 : ¬ t < 0 := by omega
  have g5 : ¬ t > 3 := by omega
  have g7 : ¬ r < 0 := by omega
  have g8 : ¬ r > 5 := by omega
  have HA := Lib.hid (fun w1 => refRight_any n s w1)
  rw [hy6] at HA
  have CK : (w.alloc (.cells #[.int .i64 k, .int .i64 f, .int .i64 t, .int .i64 n, .int .i64 s, .int .i64 r, .int .i64 p, .int .i64 o, .int .i64 c] 25)).cell? ⟨w.heap.size, 0, none⟩ = some (.int .i64 k) := by unfold World.cell?; dsimp only; rw [(MapKept.heap_alloc w _).1]; rfl
  have CR : (w.alloc (.cells #[.int .i64 k, .int .i64 f, .int .i64 t, .int .i64 n, .int .i64 s, .int .i64 r, .int .i64 p, .int .i64 o, .int .i64 c] 25)).cell? ⟨w.heap.size, 5, none⟩ = some (.int .i64 r) := by unfold World.cell?; dsimp only; rw [(MapKept.heap_alloc w _).1]; rfl
  have CP : (w.alloc (.cells #[.int .i64 k, .int .i64 f, .int .i64 t, .int .i64 n, .int .i64 s, .int .i64 r, .int .i64 p, .int .i64 o, .int .i64 c] 25)).cell? ⟨w.heap.size, 6, none⟩ = some (.int .i64 p) := by unfold World.cell?; dsimp only; rw [(MapKept.heap_alloc w _).1]; rfl
  have CO : (w.alloc (.cells #[.int .i64 k, .int .i64 f, .int .i64 t, .int .i64 n, .int .i64 s, .int .i64 r, .int .i64 p, .int .i64 o, .int .i64 c] 25)).cell? ⟨w.heap.size, 7, none⟩ = some (.int .i64 o) := by unfold World.cell?; dsimp only; rw [(MapKept.heap_alloc w _).1]; rfl
  have CC : (w.alloc (.cells #[.int .i64 k, .int .i64 f, .int .i64 t, .int .i64 n, .int .i64 s, .int .i64 r, .int .i64 p, .int .i64 o, .int .i64 c] 25)).cell? ⟨w.heap.size, 8, none⟩ = some (.int .i64 c) := by unfold World.cell?; dsimp only; rw [(MapKept.heap_alloc w _).1]; rfl
  clear hy6
  go_enter Tryd.func11, Tryd.ntmps11
  go_wp2_with (go_at_call 35; (with_reducible refine (HA.out _).mono ?_); rintro e w2 ⟨rfl, hk2⟩; have K2 := Lib.hid (Kp.trans (kp_alloc w (.cells #[.int .i64 k, .int .i64 f, .int .i64 t, .int .i64 n, .int .i64 s, .int .i64 r, .int .i64 p, .int .i64 o, .int .i64 c] 25)) hk2); have cR := kp_cell hk2 CR; have cP := kp_cell hk2 CP; have cO := kp_cell hk2 CO; have cC := kp_cell hk2 CC; have cK := kp_cell hk2 CK; clear hk2)
  go_ret
  exact ⟨rfl, K2.out⟩
set_option maxRecDepth 100000 in
theorem rit_10 (k f t n s r p o c : Int) (w : World) (h0 : 1 ≤ k) (h1 : k ≤ 19) (h2 : 0 ≤ f) (h3 : f ≤ 3) (h4 : 0 ≤ t) (h5 : t ≤ 3) (h7 : 0 ≤ r) (h8 : r ≤ 5) (hy6 : rightA n s = true) (hy : p > 7) :
    Calls Tryd.prog 11 #[.agg #[.int .i64 k, .int .i64 f, .int .i64 t, .int .i64 n, .int .i64 s, .int .i64 r, .int .i64 p, .int .i64 o, .int .i64 c]] w fun e w' => e = .returned (.bool false) ∧ Kp w w' := by
  have g0 : ¬ k < 1 := by omega
  have g1 : ¬ k > 19 := by omega
  have g2 : ¬ f < 0 := by omega
  have g3 : ¬ f > 3 := by omega
  have g4 : ¬ t < 0 := by omega
  have g5 : ¬ t > 3 := by omega
  have g7 : ¬ r < 0 := by omega
  have g8 : ¬ r > 5 := by omega
  have g9 : ¬ p < 0 := by omega
  have HA := Lib.hid (fun w1 => refRight_any n s w1)
  rw [hy6] at HA
  have CK : (w.alloc (.cells #[.int .i64 k, .int .i64 f, .int .i64 t, .int .i64 n, .int .i64 s, .int .i64 r, .int .i64 p, .int .i64 o, .int .i64 c] 25)).cell? ⟨w.heap.size, 0, none⟩ = some (.int .i64 k) := by unfold World.cell?; dsimp only; rw [(MapKept.heap_alloc w _).1]; rfl
  have CR : (w.alloc (.cells #[.int .i64 k, .int .i64 f, .int .i64 t, .int .i64 n, .int .i64 s, .int .i64 r, .int .i64 p, .int .i64 o, .int .i64 c] 25)).cell? ⟨w.heap.size, 5, none⟩ = some (.int .i64 r) := by unfold World.cell?; dsimp only; rw [(MapKept.heap_alloc w _).1]; rfl
  have CP : (w.alloc (.cells #[.int .i64 k, .int .i64 f, .int .i64 t, .int .i64 n, .int .i64 s, .int .i64 r, .int .i64 p, .int .i64 o, .int .i64 c] 25)).cell? ⟨w.heap.size, 6, none⟩ = some (.int .i64 p) := by unfold World.cell?; dsimp only; rw [(MapKept.heap_alloc w _).1]; rfl
  have CO : (w.alloc (.cells #[.int .i64 k, .int .i64 f, .int .i64 t, .int .i64 n, .int .i64 s, .int .i64 r, .int .i64 p, .int .i64 o, .int .i64 c] 25)).cell? ⟨w.heap.size, 7, none⟩ = some (.int .i64 o) := by unfold World.cell?; dsimp only; rw [(MapKept.heap_alloc w _).1]; rfl
  have CC : (w.alloc (.cells #[.int .i64 k, .int .i64 f, .int .i64 t, .int .i64 n, .int .i64 s, .int .i64 r, .int .i64 p, .int .i64 o, .int .i64 c] 25)).cell? ⟨w.heap.size, 8, none⟩ = some (.int .i64 c) := by unfold World.cell?; dsimp only; rw [(MapKept.heap_alloc w _).1]; rfl
  clear hy6
  go_enter Tryd.func11, Tryd.ntmps11
  go_wp2_with (go_at_call 35; (with_reducible refine (HA.out _).mono ?_); rintro e w2 ⟨rfl, hk2⟩; have K2 := Lib.hid (Kp.trans (kp_alloc w (.cells #[.int .i64 k, .int .i64 f, .int .i64 t, .int .i64 n, .int .i64 s, .int .i64 r, .int .i64 p, .int .i64 o, .int .i64 c] 25)) hk2); have cR := kp_cell hk2 CR; have cP := kp_cell hk2 CP; have cO := kp_cell hk2 CO; have cC := kp_cell hk2 CC; have cK := kp_cell hk2 CK; clear hk2)
  go_ret
  exact ⟨rfl, K2.out⟩
set_option maxRecDepth 100000 in
theorem rit_k17a (f t n s r p o c : Int) (w : World) (h2 : 0 ≤ f) (h3 : f ≤ 3) (h4 : 0 ≤ t) (h5 : t ≤ 3) (h7 : 0 ≤ r) (h8 : r ≤ 5) (h9 : 0 ≤ p) (h10 : p ≤ 7) (hy6 : rightA n s = true) (z0 : ¬ r = 0) :
    Calls Tryd.prog 11 #[.agg #[.int .i64 17, .int .i64 f, .int .i64 t, .int .i64 n, .int .i64 s, .int .i64 r, .int .i64 p, .int .i64 o, .int .i64 c]] w fun e w' => e = .returned (.bool false) ∧ Kp w w' := by
  have g2 : ¬ f < 0 := by omega
  have g3 : ¬ f > 3 := by omega
  have g4 : ¬ t < 0 := by omega
  have g5 : ¬ t > 3 := by omega
  have g7 : ¬ r < 0 := by omega
  have g8 : ¬ r > 5 := by omega
  have g9 : ¬ p < 0 := by omega
  have g10 : ¬ p > 7 := by omega
  have HA := Lib.hid (fun w1 => refRight_any n s w1)
  rw [hy6] at HA
  have CK : (w.alloc (.cells #[.int .i64 17, .int .i64 f, .int .i64 t, .int .i64 n, .int .i64 s, .int .i64 r, .int .i64 p, .int .i64 o, .int .i64 c] 25)).cell? ⟨w.heap.size, 0, none⟩ = some (.int .i64 17) := by unfold World.cell?; dsimp only; rw [(MapKept.heap_alloc w _).1]; rfl
  have CR : (w.alloc (.cells #[.int .i64 17, .int .i64 f, .int .i64 t, .int .i64 n, .int .i64 s, .int .i64 r, .int .i64 p, .int .i64 o, .int .i64 c] 25)).cell? ⟨w.heap.size, 5, none⟩ = some (.int .i64 r) := by unfold World.cell?; dsimp only; rw [(MapKept.heap_alloc w _).1]; rfl
  have CP : (w.alloc (.cells #[.int .i64 17, .int .i64 f, .int .i64 t, .int .i64 n, .int .i64 s, .int .i64 r, .int .i64 p, .int .i64 o, .int .i64 c] 25)).cell? ⟨w.heap.size, 6, none⟩ = some (.int .i64 p) := by unfold World.cell?; dsimp only; rw [(MapKept.heap_alloc w _).1]; rfl
  have CO : (w.alloc (.cells #[.int .i64 17, .int .i64 f, .int .i64 t, .int .i64 n, .int .i64 s, .int .i64 r, .int .i64 p, .int .i64 o, .int .i64 c] 25)).cell? ⟨w.heap.size, 7, none⟩ = some (.int .i64 o) := by unfold World.cell?; dsimp only; rw [(MapKept.heap_alloc w _).1]; rfl
  have CC : (w.alloc (.cells #[.int .i64 17, .int .i64 f, .int .i64 t, .int .i64 n, .int .i64 s, .int .i64 r, .int .i64 p, .int .i64 o, .int .i64 c] 25)).cell? ⟨w.heap.size, 8, none⟩ = some (.int .i64 c) := by unfold World.cell?; dsimp only; rw [(MapKept.heap_alloc w _).1]; rfl
  clear hy6
  go_enter Tryd.func11, Tryd.ntmps11
  go_wp2_with (go_at_call 35; (with_reducible refine (HA.out _).mono ?_); rintro e w2 ⟨rfl, hk2⟩; have K2 := Lib.hid (Kp.trans (kp_alloc w (.cells #[.int .i64 17, .int .i64 f, .int .i64 t, .int .i64 n, .int .i64 s, .int .i64 r, .int .i64 p, .int .i64 o, .int .i64 c] 25)) hk2); have cR := kp_cell hk2 CR; have cP := kp_cell hk2 CP; have cO := kp_cell hk2 CO; have cC := kp_cell hk2 CC; have cK := kp_cell hk2 CK; clear hk2)
  go_ret
  exact ⟨by first | rfl | simp [*], K2.out⟩
set_option maxRecDepth 100000 in
theorem rit_k17b (f t n s p o c : Int) (w : World) (h2 : 0 ≤ f) (h3 : f ≤ 3) (h4 : 0 ≤ t) (h5 : t ≤ 3) (h9 : 0 ≤ p) (h10 : p ≤ 7) (hy6 : rightA n s = true) (z0 : ¬ c = 0) :
    Calls Tryd.prog 11 #[.agg #[.int .i64 17, .int .i64 f, .int .i64 t, .int .i64 n, .int .i64 s, .int .i64 0, .int .i64 p, .int .i64 o, .int .i64 c]] w fun e w' => e = .returned (.bool false) ∧ Kp w w' := by
  have g2 : ¬ f < 0 := by omega
  have g3 : ¬ f > 3 := by omega
  have g4 : ¬ t < 0 := by omega
  have g5 : ¬ t > 3 := by omega
  have g9 : ¬ p < 0 := by omega
  have g10 : ¬ p > 7 := by omega
  have HA := Lib.hid (fun w1 => refRight_any n s w1)
  rw [hy6] at HA
  have CK : (w.alloc (.cells #[.int .i64 17, .int .i64 f, .int .i64 t, .int .i64 n, .int .i64 s, .int .i64 0, .int .i64 p, .int .i64 o, .int .i64 c] 25)).cell? ⟨w.heap.size, 0, none⟩ = some (.int .i64 17) := by unfold World.cell?; dsimp only; rw [(MapKept.heap_alloc w _).1]; rfl
  have CR : (w.alloc (.cells #[.int .i64 17, .int .i64 f, .int .i64 t, .int .i64 n, .int .i64 s, .int .i64 0, .int .i64 p, .int .i64 o, .int .i64 c] 25)).cell? ⟨w.heap.size, 5, none⟩ = some (.int .i64 0) := by unfold World.cell?; dsimp only; rw [(MapKept.heap_alloc w _).1]; rfl
  have CP : (w.alloc (.cells #[.int .i64 17, .int .i64 f, .int .i64 t, .int .i64 n, .int .i64 s, .int .i64 0, .int .i64 p, .int .i64 o, .int .i64 c] 25)).cell? ⟨w.heap.size, 6, none⟩ = some (.int .i64 p) := by unfold World.cell?; dsimp only; rw [(MapKept.heap_alloc w _).1]; rfl
  have CO : (w.alloc (.cells #[.int .i64 17, .int .i64 f, .int .i64 t, .int .i64 n, .int .i64 s, .int .i64 0, .int .i64 p, .int .i64 o, .int .i64 c] 25)).cell? ⟨w.heap.size, 7, none⟩ = some (.int .i64 o) := by unfold World.cell?; dsimp only; rw [(MapKept.heap_alloc w _).1]; rfl
  have CC : (w.alloc (.cells #[.int .i64 17, .int .i64 f, .int .i64 t, .int .i64 n, .int .i64 s, .int .i64 0, .int .i64 p, .int .i64 o, .int .i64 c] 25)).cell? ⟨w.heap.size, 8, none⟩ = some (.int .i64 c) := by unfold World.cell?; dsimp only; rw [(MapKept.heap_alloc w _).1]; rfl
  clear hy6
  go_enter Tryd.func11, Tryd.ntmps11
  go_wp2_with (go_at_call 35; (with_reducible refine (HA.out _).mono ?_); rintro e w2 ⟨rfl, hk2⟩; have K2 := Lib.hid (Kp.trans (kp_alloc w (.cells #[.int .i64 17, .int .i64 f, .int .i64 t, .int .i64 n, .int .i64 s, .int .i64 0, .int .i64 p, .int .i64 o, .int .i64 c] 25)) hk2); have cR := kp_cell hk2 CR; have cP := kp_cell hk2 CP; have cO := kp_cell hk2 CO; have cC := kp_cell hk2 CC; have cK := kp_cell hk2 CK; clear hk2)
  go_ret
  exact ⟨by first | rfl | simp [*], K2.out⟩
set_option maxRecDepth 100000 in
theorem rit_k17c (f t n s p : Int) (w : World) (h2 : 0 ≤ f) (h3 : f ≤ 3) (h4 : 0 ≤ t) (h5 : t ≤ 3) (h9 : 0 ≤ p) (h10 : p ≤ 7) (hy6 : rightA n s = true) :
    Calls Tryd.prog 11 #[.agg #[.int .i64 17, .int .i64 f, .int .i64 t, .int .i64 n, .int .i64 s, .int .i64 0, .int .i64 p, .int .i64 1, .int .i64 0]] w fun e w' => e = .returned (.bool true) ∧ Kp w w' := by
  have g2 : ¬ f < 0 := by omega
  have g3 : ¬ f > 3 := by omega
  have g4 : ¬ t < 0 := by omega
  have g5 : ¬ t > 3 := by omega
  have g9 : ¬ p < 0 := by omega
  have g10 : ¬ p > 7 := by omega
  have HA := Lib.hid (fun w1 => refRight_any n s w1)
  rw [hy6] at HA
  have CK : (w.alloc (.cells #[.int .i64 17, .int .i64 f, .int .i64 t, .int .i64 n, .int .i64 s, .int .i64 0, .int .i64 p, .int .i64 1, .int .i64 0] 25)).cell? ⟨w.heap.size, 0, none⟩ = some (.int .i64 17) := by unfold World.cell?; dsimp only; rw [(MapKept.heap_alloc w _).1]; rfl
  have CR : (w.alloc (.cells #[.int .i64 17, .int .i64 f, .int .i64 t, .int .i64 n, .int .i64 s, .int .i64 0, .int .i64 p, .int .i64 1, .int .i64 0] 25)).cell? ⟨w.heap.size, 5, none⟩ = some (.int .i64 0) := by unfold World.cell?; dsimp only; rw [(MapKept.heap_alloc w _).1]; rfl
  have CP : (w.alloc (.cells #[.int .i64 17, .int .i64 f, .int .i64 t, .int .i64 n, .int .i64 s, .int .i64 0, .int .i64 p, .int .i64 1, .int .i64 0] 25)).cell? ⟨w.heap.size, 6, none⟩ = some (.int .i64 p) := by unfold World.cell?; dsimp only; rw [(MapKept.heap_alloc w _).1]; rfl
  have CO : (w.alloc (.cells #[.int .i64 17, .int .i64 f, .int .i64 t, .int .i64 n, .int .i64 s, .int .i64 0, .int .i64 p, .int .i64 1, .int .i64 0] 25)).cell? ⟨w.heap.size, 7, none⟩ = some (.int .i64 1) := by unfold World.cell?; dsimp only; rw [(MapKept.heap_alloc w _).1]; rfl
  have CC : (w.alloc (.cells #[.int .i64 17, .int .i64 f, .int .i64 t, .int .i64 n, .int .i64 s, .int .i64 0, .int .i64 p, .int .i64 1, .int .i64 0] 25)).cell? ⟨w.heap.size, 8, none⟩ = some (.int .i64 0) := by unfold World.cell?; dsimp only; rw [(MapKept.heap_alloc w _).1]; rfl
  clear hy6
  go_enter Tryd.func11, Tryd.ntmps11
  go_wp2_with (go_at_call 35; (with_reducible refine (HA.out _).mono ?_); rintro e w2 ⟨rfl, hk2⟩; have K2 := Lib.hid (Kp.trans (kp_alloc w (.cells #[.int .i64 17, .int .i64 f, .int .i64 t, .int .i64 n, .int .i64 s, .int .i64 0, .int .i64 p, .int .i64 1, .int .i64 0] 25)) hk2); have cR := kp_cell hk2 CR; have cP := kp_cell hk2 CP; have cO := kp_cell hk2 CO; have cC := kp_cell hk2 CC; have cK := kp_cell hk2 CK; clear hk2)
  go_ret
  exact ⟨by first | rfl | simp [*], K2.out⟩
set_option maxRecDepth 100000 in
theorem rit_k17d (f t n s p : Int) (w : World) (h2 : 0 ≤ f) (h3 : f ≤ 3) (h4 : 0 ≤ t) (h5 : t ≤ 3) (h9 : 0 ≤ p) (h10 : p ≤ 7) (hy6 : rightA n s = true) :
    Calls Tryd.prog 11 #[.agg #[.int .i64 17, .int .i64 f, .int .i64 t, .int .i64 n, .int .i64 s, .int .i64 0, .int .i64 p, .int .i64 2, .int .i64 0]] w fun e w' => e = .returned (.bool true) ∧ Kp w w' := by
  have g2 : ¬ f < 0 := by omega
  have g3 : ¬ f > 3 := by omega
  have g4 : ¬ t < 0 := by omega
  have g5 : ¬ t > 3 := by omega
  have g9 : ¬ p < 0 := by omega
  have g10 : ¬ p > 7 := by omega
  have HA := Lib.hid (fun w1 => refRight_any n s w1)
  rw [hy6] at HA
  have CK : (w.alloc (.cells #[.int .i64 17, .int .i64 f, .int .i64 t, .int .i64 n, .int .i64 s, .int .i64 0, .int .i64 p, .int .i64 2, .int .i64 0] 25)).cell? ⟨w.heap.size, 0, none⟩ = some (.int .i64 17) := by unfold World.cell?; dsimp only; rw [(MapKept.heap_alloc w _).1]; rfl
  have CR : (w.alloc (.cells #[.int .i64 17, .int .i64 f, .int .i64 t, .int .i64 n, .int .i64 s, .int .i64 0, .int .i64 p, .int .i64 2, .int .i64 0] 25)).cell? ⟨w.heap.size, 5, none⟩ = some (.int .i64 0) := by unfold World.cell?; dsimp only; rw [(MapKept.heap_alloc w _).1]; rfl
  have CP : (w.alloc (.cells #[.int .i64 17, .int .i64 f, .int .i64 t, .int .i64 n, .int .i64 s, .int .i64 0, .int .i64 p, .int .i64 2, .int .i64 0] 25)).cell? ⟨w.heap.size, 6, none⟩ = some (.int .i64 p) := by unfold World.cell?; dsimp only; rw [(MapKept.heap_alloc w _).1]; rfl
  have CO : (w.alloc (.cells #[.int .i64 17, .int .i64 f, .int .i64 t, .int .i64 n, .int .i64 s, .int .i64 0, .int .i64 p, .int .i64 2, .int .i64 0] 25)).cell? ⟨w.heap.size, 7, none⟩ = some (.int .i64 2) := by unfold World.cell?; dsimp only; rw [(MapKept.heap_alloc w _).1]; rfl
  have CC : (w.alloc (.cells #[.int .i64 17, .int .i64 f, .int .i64 t, .int .i64 n, .int .i64 s, .int .i64 0, .int .i64 p, .int .i64 2, .int .i64 0] 25)).cell? ⟨w.heap.size, 8, none⟩ = some (.int .i64 0) := by unfold World.cell?; dsimp only; rw [(MapKept.heap_alloc w _).1]; rfl
  clear hy6
  go_enter Tryd.func11, Tryd.ntmps11
  go_wp2_with (go_at_call 35; (with_reducible refine (HA.out _).mono ?_); rintro e w2 ⟨rfl, hk2⟩; have K2 := Lib.hid (Kp.trans (kp_alloc w (.cells #[.int .i64 17, .int .i64 f, .int .i64 t, .int .i64 n, .int .i64 s, .int .i64 0, .int .i64 p, .int .i64 2, .int .i64 0] 25)) hk2); have cR := kp_cell hk2 CR; have cP := kp_cell hk2 CP; have cO := kp_cell hk2 CO; have cC := kp_cell hk2 CC; have cK := kp_cell hk2 CK; clear hk2)
  go_ret
  exact ⟨by first | rfl | simp [*], K2.out⟩
set_option maxRecDepth 100000 in
theorem rit_k17e (f t n s p o : Int) (w : World) (h2 : 0 ≤ f) (h3 : f ≤ 3) (h4 : 0 ≤ t) (h5 : t ≤ 3) (h9 : 0 ≤ p) (h10 : p ≤ 7) (hy6 : rightA n s = true) (z0 : ¬ o = 1) (z1 : ¬ o = 2) :
    Calls Tryd.prog 11 #[.agg #[.int .i64 17, .int .i64 f, .int .i64 t, .int .i64 n, .int .i64 s, .int .i64 0, .int .i64 p, .int .i64 o, .int .i64 0]] w fun e w' => e = .returned (.bool false) ∧ Kp w w' := by
  have g2 : ¬ f < 0 := by omega
  have g3 : ¬ f > 3 := by omega
  have g4 : ¬ t < 0 := by omega
  have g5 : ¬ t > 3 := by omega
  have g9 : ¬ p < 0 := by omega
  have g10 : ¬ p > 7 := by omega
  have HA := Lib.hid (fun w1 => refRight_any n s w1)
  rw [hy6] at HA
  have CK : (w.alloc (.cells #[.int .i64 17, .int .i64 f, .int .i64 t, .int .i64 n, .int .i64 s, .int .i64 0, .int .i64 p, .int .i64 o, .int .i64 0] 25)).cell? ⟨w.heap.size, 0, none⟩ = some (.int .i64 17) := by unfold World.cell?; dsimp only; rw [(MapKept.heap_alloc w _).1]; rfl
  have CR : (w.alloc (.cells #[.int .i64 17, .int .i64 f, .int .i64 t, .int .i64 n, .int .i64 s, .int .i64 0, .int .i64 p, .int .i64 o, .int .i64 0] 25)).cell? ⟨w.heap.size, 5, none⟩ = some (.int .i64 0) := by unfold World.cell?; dsimp only; rw [(MapKept.heap_alloc w _).1]; rfl
  have CP : (w.alloc (.cells #[.int .i64 17, .int .i64 f, .int .i64 t, .int .i64 n, .int .i64 s, .int .i64 0, .int .i64 p, .int .i64 o, .int .i64 0] 25)).cell? ⟨w.heap.size, 6, none⟩ = some (.int .i64 p) := by unfold World.cell?; dsimp only; rw [(MapKept.heap_alloc w _).1]; rfl
  have CO : (w.alloc (.cells #[.int .i64 17, .int .i64 f, .int .i64 t, .int .i64 n, .int .i64 s, .int .i64 0, .int .i64 p, .int .i64 o, .int .i64 0] 25)).cell? ⟨w.heap.size, 7, none⟩ = some (.int .i64 o) := by unfold World.cell?; dsimp only; rw [(MapKept.heap_alloc w _).1]; rfl
  have CC : (w.alloc (.cells #[.int .i64 17, .int .i64 f, .int .i64 t, .int .i64 n, .int .i64 s, .int .i64 0, .int .i64 p, .int .i64 o, .int .i64 0] 25)).cell? ⟨w.heap.size, 8, none⟩ = some (.int .i64 0) := by unfold World.cell?; dsimp only; rw [(MapKept.heap_alloc w _).1]; rfl
  clear hy6
  go_enter Tryd.func11, Tryd.ntmps11
  go_wp2_with (go_at_call 35; (with_reducible refine (HA.out _).mono ?_); rintro e w2 ⟨rfl, hk2⟩; have K2 := Lib.hid (Kp.trans (kp_alloc w (.cells #[.int .i64 17, .int .i64 f, .int .i64 t, .int .i64 n, .int .i64 s, .int .i64 0, .int .i64 p, .int .i64 o, .int .i64 0] 25)) hk2); have cR := kp_cell hk2 CR; have cP := kp_cell hk2 CP; have cO := kp_cell hk2 CO; have cC := kp_cell hk2 CC; have cK := kp_cell hk2 CK; clear hk2)
  go_ret
  exact ⟨by first | rfl | simp [*], K2.out⟩
set_option maxRecDepth 100000 in
theorem rit_k18a (f t n s r p o c : Int) (w : World) (h2 : 0 ≤ f) (h3 : f ≤ 3) (h4 : 0 ≤ t) (h5 : t ≤ 3) (h7 : 0 ≤ r) (h8 : r ≤ 5) (h9 : 0 ≤ p) (h10 : p ≤ 7) (hy6 : rightA n s = true) (z0 : ¬ c = 0) :
    Calls Tryd.prog 11 #[.agg #[.int .i64 18, .int .i64 f, .int .i64 t, .int .i64 n, .int .i64 s, .int .i64 r, .int .i64 p, .int .i64 o, .int .i64 c]] w fun e w' => e = .returned (.bool false) ∧ Kp w w' := by
  have g2 : ¬ f < 0 := by omega
  have g3 : ¬ f > 3 := by omega
  have g4 : ¬ t < 0 := by omega
  have g5 : ¬ t > 3 := by omega
  have g7 : ¬ r < 0 := by omega
  have g8 : ¬ r > 5 := by omega
  have g9 : ¬ p < 0 := by omega
  have g10 : ¬ p > 7 := by omega
  have HA := Lib.hid (fun w1 => refRight_any n s w1)
  rw [hy6] at HA
  have CK : (w.alloc (.cells #[.int .i64 18, .int .i64 f, .int .i64 t, .int .i64 n, .int .i64 s, .int .i64 r, .int .i64 p, .int .i64 o, .int .i64 c] 25)).cell? ⟨w.heap.size, 0, none⟩ = some (.int .i64 18) := by unfold World.cell?; dsimp only; rw [(MapKept.heap_alloc w _).1]; rfl
  have CR : (w.alloc (.cells #[.int .i64 18, .int .i64 f, .int .i64 t, .int .i64 n, .int .i64 s, .int .i64 r, .int .i64 p, .int .i64 o, .int .i64 c] 25)).cell? ⟨w.heap.size, 5, none⟩ = some (.int .i64 r) := by unfold World.cell?; dsimp only; rw [(MapKept.heap_alloc w _).1]; rfl
  have CP : (w.alloc (.cells #[.int .i64 18, .int .i64 f, .int .i64 t, .int .i64 n, .int .i64 s, .int .i64 r, .int .i64 p, .int .i64 o, .int .i64 c] 25)).cell? ⟨w.heap.size, 6, none⟩ = some (.int .i64 p) := by unfold World.cell?; dsimp only; rw [(MapKept.heap_alloc w _).1]; rfl
  have CO : (w.alloc (.cells #[.int .i64 18, .int .i64 f, .int .i64 t, .int .i64 n, .int .i64 s, .int .i64 r, .int .i64 p, .int .i64 o, .int .i64 c] 25)).cell? ⟨w.heap.size, 7, none⟩ = some (.int .i64 o) := by unfold World.cell?; dsimp only; rw [(MapKept.heap_alloc w _).1]; rfl
  have CC : (w.alloc (.cells #[.int .i64 18, .int .i64 f, .int .i64 t, .int .i64 n, .int .i64 s, .int .i64 r, .int .i64 p, .int .i64 o, .int .i64 c] 25)).cell? ⟨w.heap.size, 8, none⟩ = some (.int .i64 c) := by unfold World.cell?; dsimp only; rw [(MapKept.heap_alloc w _).1]; rfl
  clear hy6
  go_enter Tryd.func11, Tryd.ntmps11
  go_wp2_with (go_at_call 35; (with_reducible refine (HA.out _).mono ?_); rintro e w2 ⟨rfl, hk2⟩; have K2 := Lib.hid (Kp.trans (kp_alloc w (.cells #[.int .i64 18, .int .i64 f, .int .i64 t, .int .i64 n, .int .i64 s, .int .i64 r, .int .i64 p, .int .i64 o, .int .i64 c] 25)) hk2); have cR := kp_cell hk2 CR; have cP := kp_cell hk2 CP; have cO := kp_cell hk2 CO; have cC := kp_cell hk2 CC; have cK := kp_cell hk2 CK; clear hk2)
  go_ret
  exact ⟨by first | rfl | simp [*], K2.out⟩
set_option maxRecDepth 100000 in
theorem rit_k18b (f t n s r p : Int) (w : World) (h2 : 0 ≤ f) (h3 : f ≤ 3) (h4 : 0 ≤ t) (h5 : t ≤ 3) (h7 : 0 ≤ r) (h8 : r ≤ 5) (h9 : 0 ≤ p) (h10 : p ≤ 7) (hy6 : rightA n s = true) :
    Calls Tryd.prog 11 #[.agg #[.int .i64 18, .int .i64 f, .int .i64 t, .int .i64 n, .int .i64 s, .int .i64 r, .int .i64 p, .int .i64 1, .int .i64 0]] w fun e w' => e = .returned (.bool true) ∧ Kp w w' := by
  have g2 : ¬ f < 0 := by omega
  have g3 : ¬ f > 3 := by omega
  have g4 : ¬ t < 0 := by omega
  have g5 : ¬ t > 3 := by omega
  have g7 : ¬ r < 0 := by omega
  have g8 : ¬ r > 5 := by omega
  have g9 : ¬ p < 0 := by omega
  have g10 : ¬ p > 7 := by omega
  have HA := Lib.hid (fun w1 => refRight_any n s w1)
  rw [hy6] at HA
  have CK : (w.alloc (.cells #[.int .i64 18, .int .i64 f, .int .i64 t, .int .i64 n, .int .i64 s, .int .i64 r, .int .i64 p, .int .i64 1, .int .i64 0] 25)).cell? ⟨w.heap.size, 0, none⟩ = some (.int .i64 18) := by unfold World.cell?; dsimp only; rw [(MapKept.heap_alloc w _).1]; rfl
  have CR : (w.alloc (.cells #[.int .i64 18, .int .i64 f, .int .i64 t, .int .i64 n, .int .i64 s, .int .i64 r, .int .i64 p, .int .i64 1, .int .i64 0] 25)).cell? ⟨w.heap.size, 5, none⟩ = some (.int .i64 r) := by unfold World.cell?; dsimp only; rw [(MapKept.heap_alloc w _).1]; rfl
  have CP : (w.alloc (.cells #[.int .i64 18, .int .i64 f, .int .i64 t, .int .i64 n, .int .i64 s, .int .i64 r, .int .i64 p, .int .i64 1, .int .i64 0] 25)).cell? ⟨w.heap.size, 6, none⟩ = some (.int .i64 p) := by unfold World.cell?; dsimp only; rw [(MapKept.heap_alloc w _).1]; rfl
  have CO : (w.alloc (.cells #[.int .i64 18, .int .i64 f, .int .i64 t, .int .i64 n, .int .i64 s, .int .i64 r, .int .i64 p, .int .i64 1, .int .i64 0] 25)).cell? ⟨w.heap.size, 7, none⟩ = some (.int .i64 1) := by unfold World.cell?; dsimp only; rw [(MapKept.heap_alloc w _).1]; rfl
  have CC : (w.alloc (.cells #[.int .i64 18, .int .i64 f, .int .i64 t, .int .i64 n, .int .i64 s, .int .i64 r, .int .i64 p, .int .i64 1, .int .i64 0] 25)).cell? ⟨w.heap.size, 8, none⟩ = some (.int .i64 0) := by unfold World.cell?; dsimp only; rw [(MapKept.heap_alloc w _).1]; rfl
  clear hy6
  go_enter Tryd.func11, Tryd.ntmps11
  go_wp2_with (go_at_call 35; (with_reducible refine (HA.out _).mono ?_); rintro e w2 ⟨rfl, hk2⟩; have K2 := Lib.hid (Kp.trans (kp_alloc w (.cells #[.int .i64 18, .int .i64 f, .int .i64 t, .int .i64 n, .int .i64 s, .int .i64 r, .int .i64 p, .int .i64 1, .int .i64 0] 25)) hk2); have cR := kp_cell hk2 CR; have cP := kp_cell hk2 CP; have cO := kp_cell hk2 CO; have cC := kp_cell hk2 CC; have cK := kp_cell hk2 CK; clear hk2)
  go_ret
  exact ⟨by first | rfl | simp [*], K2.out⟩
set_option maxRecDepth 100000 in
theorem rit_k18c (f t n s r p : Int) (w : World) (h2 : 0 ≤ f) (h3 : f ≤ 3) (h4 : 0 ≤ t) (h5 : t ≤ 3) (h7 : 0 ≤ r) (h8 : r ≤ 5) (h9 : 0 ≤ p) (h10 : p ≤ 7) (hy6 : rightA n s = true) :
    Calls Tryd.prog 11 #[.agg #[.int .i64 18, .int .i64 f, .int .i64 t, .int .i64 n, .int .i64 s, .int .i64 r, .int .i64 p, .int .i64 2, .int .i64 0]] w fun e w' => e = .returned (.bool true) ∧ Kp w w' := by
  have g2 : ¬ f < 0 := by omega
  have g3 : ¬ f > 3 := by omega
  have g4 : ¬ t < 0 := by omega
  have g5 : ¬ t > 3 := by omega
  have g7 : ¬ r < 0 := by omega
  have g8 : ¬ r > 5 := by omega
  have g9 : ¬ p < 0 := by omega
  have g10 : ¬ p > 7 := by omega
  have HA := Lib.hid (fun w1 => refRight_any n s w1)
  rw [hy6] at HA
  have CK : (w.alloc (.cells #[.int .i64 18, .int .i64 f, .int .i64 t, .int .i64 n, .int .i64 s, .int .i64 r, .int .i64 p, .int .i64 2, .int .i64 0] 25)).cell? ⟨w.heap.size, 0, none⟩ = some (.int .i64 18) := by unfold World.cell?; dsimp only; rw [(MapKept.heap_alloc w _).1]; rfl
  have CR : (w.alloc (.cells #[.int .i64 18, .int .i64 f, .int .i64 t, .int .i64 n, .int .i64 s, .int .i64 r, .int .i64 p, .int .i64 2, .int .i64 0] 25)).cell? ⟨w.heap.size, 5, none⟩ = some (.int .i64 r) := by unfold World.cell?; dsimp only; rw [(MapKept.heap_alloc w _).1]; rfl
  have CP : (w.alloc (.cells #[.int .i64 18, .int .i64 f, .int .i64 t, .int .i64 n, .int .i64 s, .int .i64 r, .int .i64 p, .int .i64 2, .int .i64 0] 25)).cell? ⟨w.heap.size, 6, none⟩ = some (.int .i64 p) := by unfold World.cell?; dsimp only; rw [(MapKept.heap_alloc w _).1]; rfl
  have CO : (w.alloc (.cells #[.int .i64 18, .int .i64 f, .int .i64 t, .int .i64 n, .int .i64 s, .int .i64 r, .int .i64 p, .int .i64 2, .int .i64 0] 25)).cell? ⟨w.heap.size, 7, none⟩ = some (.int .i64 2) := by unfold World.cell?; dsimp only; rw [(MapKept.heap_alloc w _).1]; rfl
  have CC : (w.alloc (.cells #[.int .i64 18, .int .i64 f, .int .i64 t, .int .i64 n, .int .i64 s, .int .i64 r, .int .i64 p, .int .i64 2, .int .i64 0] 25)).cell? ⟨w.heap.size, 8, none⟩ = some (.int .i64 0) := by unfold World.cell?; dsimp only; rw [(MapKept.heap_alloc w _).1]; rfl
  clear hy6
  go_enter Tryd.func11, Tryd.ntmps11
  go_wp2_with (go_at_call 35; (with_reducible refine (HA.out _).mono ?_); rintro e w2 ⟨rfl, hk2⟩; have K2 := Lib.hid (Kp.trans (kp_alloc w (.cells #[.int .i64 18, .int .i64 f, .int .i64 t, .int .i64 n, .int .i64 s, .int .i64 r, .int .i64 p, .int .i64 2, .int .i64 0] 25)) hk2); have cR := kp_cell hk2 CR; have cP := kp_cell hk2 CP; have cO := kp_cell hk2 CO; have cC := kp_cell hk2 CC; have cK := kp_cell hk2 CK; clear hk2)
  go_ret
  exact ⟨by first | rfl | simp [*], K2.out⟩
set_option maxRecDepth 100000 in
theorem rit_k18d (f t n s r p o : Int) (w : World) (h2 : 0 ≤ f) (h3 : f ≤ 3) (h4 : 0 ≤ t) (h5 : t ≤ 3) (h7 : 0 ≤ r) (h8 : r ≤ 5) (h9 : 0 ≤ p) (h10 : p ≤ 7) (hy6 : rightA n s = true) (z0 : ¬ o = 1) (z1 : ¬ o = 2) :
    Calls Tryd.prog 11 #[.agg #[.int .i64 18, .int .i64 f, .int .i64 t, .int .i64 n, .int .i64 s, .int .i64 r, .int .i64 p, .int .i64 o, .int .i64 0]] w fun e w' => e = .returned (.bool false) ∧ Kp w w' := by
  have g2 : ¬ f < 0 := by omega
  have g3 : ¬ f > 3 := by omega
  have g4 : ¬ t < 0 := by omega
  have g5 : ¬ t > 3 := by omega
  have g7 : ¬ r < 0 := by omega
  have g8 : ¬ r > 5 := by omega
  have g9 : ¬ p < 0 := by omega
  have g10 : ¬ p > 7 := by omega
  have HA := Lib.hid (fun w1 => refRight_any n s w1)
  rw [hy6] at HA
  have CK : (w.alloc (.cells #[.int .i64 18, .int .i64 f, .int .i64 t, .int .i64 n, .int .i64 s, .int .i64 r, .int .i64 p, .int .i64 o, .int .i64 0] 25)).cell? ⟨w.heap.size, 0, none⟩ = some (.int .i64 18) := by unfold World.cell?; dsimp only; rw [(MapKept.heap_alloc w _).1]; rfl
  have CR : (w.alloc (.cells #[.int .i64 18, .int .i64 f, .int .i64 t, .int .i64 n, .int .i64 s, .int .i64 r, .int .i64 p, .int .i64 o, .int .i64 0] 25)).cell? ⟨w.heap.size, 5, none⟩ = some (.int .i64 r) := by unfold World.cell?; dsimp only; rw [(MapKept.heap_alloc w _).1]; rfl
  have CP : (w.alloc (.cells #[.int .i64 18, .int .i64 f, .int .i64 t, .int .i64 n, .int .i64 s, .int .i64 r, .int .i64 p, .int .i64 o, .int .i64 0] 25)).cell? ⟨w.heap.size, 6, none⟩ = some (.int .i64 p) := by unfold World.cell?; dsimp only; rw [(MapKept.heap_alloc w _).1]; rfl
  have CO : (w.alloc (.cells #[.int .i64 18, .int .i64 f, .int .i64 t, .int .i64 n, .int .i64 s, .int .i64 r, .int .i64 p, .int .i64 o, .int .i64 0] 25)).cell? ⟨w.heap.size, 7, none⟩ = some (.int .i64 o) := by unfold World.cell?; dsimp only; rw [(MapKept.heap_alloc w _).1]; rfl
  have CC : (w.alloc (.cells #[.int .i64 18, .int .i64 f, .int .i64 t, .int .i64 n, .int .i64 s, .int .i64 r, .int .i64 p, .int .i64 o, .int .i64 0] 25)).cell? ⟨w.heap.size, 8, none⟩ = some (.int .i64 0) := by unfold World.cell?; dsimp only; rw [(MapKept.heap_alloc w _).1]; rfl
  clear hy6
  go_enter Tryd.func11, Tryd.ntmps11
  go_wp2_with (go_at_call 35; (with_reducible refine (HA.out _).mono ?_); rintro e w2 ⟨rfl, hk2⟩; have K2 := Lib.hid (Kp.trans (kp_alloc w (.cells #[.int .i64 18, .int .i64 f, .int .i64 t, .int .i64 n, .int .i64 s, .int .i64 r, .int .i64 p, .int .i64 o, .int .i64 0] 25)) hk2); have cR := kp_cell hk2 CR; have cP := kp_cell hk2 CP; have cO := kp_cell hk2 CO; have cC := kp_cell hk2 CC; have cK := kp_cell hk2 CK; clear hk2)
  go_ret
  exact ⟨by first | rfl | simp [*], K2.out⟩
set_option maxRecDepth 100000 in
theorem rit_k19a (f t n s r p o c : Int) (w : World) (h2 : 0 ≤ f) (h3 : f ≤ 3) (h4 : 0 ≤ t) (h5 : t ≤ 3) (h7 : 0 ≤ r) (h8 : r ≤ 5) (h9 : 0 ≤ p) (h10 : p ≤ 7) (hy6 : rightA n s = true) (z0 : ¬ o = 0) :
    Calls Tryd.prog 11 #[.agg #[.int .i64 19, .int .i64 f, .int .i64 t, .int .i64 n, .int .i64 s, .int .i64 r, .int .i64 p, .int .i64 o, .int .i64 c]] w fun e w' => e = .returned (.bool false) ∧ Kp w w' := by
  have g2 : ¬ f < 0 := by omega
  have g3 : ¬ f > 3 := by omega
  have g4 : ¬ t < 0 := by omega
  have g5 : ¬ t > 3 := by omega
  have g7 : ¬ r < 0 := by omega
  have g8 : ¬ r > 5 := by omega
  have g9 : ¬ p < 0 := by omega
  have g10 : ¬ p > 7 := by omega
  have HA := Lib.hid (fun w1 => refRight_any n s w1)
  rw [hy6] at HA
  have CK : (w.alloc (.cells #[.int .i64 19, .int .i64 f, .int .i64 t, .int .i64 n, .int .i64 s, .int .i64 r, .int .i64 p, .int .i64 o, .int .i64 c] 25)).cell? ⟨w.heap.size, 0, none⟩ = some (.int .i64 19) := by unfold World.cell?; dsimp only; rw [(MapKept.heap_alloc w _).1]; rfl
  have CR : (w.alloc (.cells #[.int .i64 19, .int .i64 f, .int .i64 t, .int .i64 n, .int .i64 s, .int .i64 r, .int .i64 p, .int .i64 o, .int .i64 c] 25)).cell? ⟨w.heap.size, 5, none⟩ = some (.int .i64 r) := by unfold World.cell?; dsimp only; rw [(MapKept.heap_alloc w _).1]; rfl
  have CP : (w.alloc (.cells #[.int .i64 19, .int .i64 f, .int .i64 t, .int .i64 n, .int .i64 s, .int .i64 r, .int .i64 p, .int .i64 o, .int .i64 c] 25)).cell? ⟨w.heap.size, 6, none⟩ = some (.int .i64 p) := by unfold World.cell?; dsimp only; rw [(MapKept.heap_alloc w _).1]; rfl
  have CO : (w.alloc (.cells #[.int .i64 19, .int .i64 f, .int .i64 t, .int .i64 n, .int .i64 s, .int .i64 r, .int .i64 p, .int .i64 o, .int .i64 c] 25)).cell? ⟨w.heap.size, 7, none⟩ = some (.int .i64 o) := by unfold World.cell?; dsimp only; rw [(MapKept.heap_alloc w _).1]; rfl
  have CC : (w.alloc (.cells #[.int .i64 19, .int .i64 f, .int .i64 t, .int .i64 n, .int .i64 s, .int .i64 r, .int .i64 p, .int .i64 o, .int .i64 c] 25)).cell? ⟨w.heap.size, 8, none⟩ = some (.int .i64 c) := by unfold World.cell?; dsimp only; rw [(MapKept.heap_alloc w _).1]; rfl
  clear hy6
  go_enter Tryd.func11, Tryd.ntmps11
  go_wp2_with (go_at_call 35; (with_reducible refine (HA.out _).mono ?_); rintro e w2 ⟨rfl, hk2⟩; have K2 := Lib.hid (Kp.trans (kp_alloc w (.cells #[.int .i64 19, .int .i64 f, .int .i64 t, .int .i64 n, .int .i64 s, .int .i64 r, .int .i64 p, .int .i64 o, .int .i64 c] 25)) hk2); have cR := kp_cell hk2 CR; have cP := kp_cell hk2 CP; have cO := kp_cell hk2 CO; have cC := kp_cell hk2 CC; have cK := kp_cell hk2 CK; clear hk2)
  go_ret
  exact ⟨by first | rfl | simp [*], K2.out⟩
set_option maxRecDepth 100000 in
theorem rit_k19b (f t n s r p c : Int) (w : World) (h2 : 0 ≤ f) (h3 : f ≤ 3) (h4 : 0 ≤ t) (h5 : t ≤ 3) (h7 : 0 ≤ r) (h8 : r ≤ 5) (h9 : 0 ≤ p) (h10 : p ≤ 7) (hy6 : rightA n s = true) (z0 : ¬ 1 ≤ c) :
    Calls Tryd.prog 11 #[.agg #[.int .i64 19, .int .i64 f, .int .i64 t, .int .i64 n, .int .i64 s, .int .i64 r, .int .i64 p, .int .i64 0, .int .i64 c]] w fun e w' => e = .returned (.bool false) ∧ Kp w w' := by
  have g2 : ¬ f < 0 := by omega
  have g3 : ¬ f > 3 := by omega
  have g4 : ¬ t < 0 := by omega
  have g5 : ¬ t > 3 := by omega
  have g7 : ¬ r < 0 := by omega
  have g8 : ¬ r > 5 := by omega
  have g9 : ¬ p < 0 := by omega
  have g10 : ¬ p > 7 := by omega
  have HA := Lib.hid (fun w1 => refRight_any n s w1)
  rw [hy6] at HA
  have CK : (w.alloc (.cells #[.int .i64 19, .int .i64 f, .int .i64 t, .int .i64 n, .int .i64 s, .int .i64 r, .int .i64 p, .int .i64 0, .int .i64 c] 25)).cell? ⟨w.heap.size, 0, none⟩ = some (.int .i64 19) := by unfold World.cell?; dsimp only; rw [(MapKept.heap_alloc w _).1]; rfl
  have CR : (w.alloc (.cells #[.int .i64 19, .int .i64 f, .int .i64 t, .int .i64 n, .int .i64 s, .int .i64 r, .int .i64 p, .int .i64 0, .int .i64 c] 25)).cell? ⟨w.heap.size, 5, none⟩ = some (.int .i64 r) := by unfold World.cell?; dsimp only; rw [(MapKept.heap_alloc w _).1]; rfl
  have CP : (w.alloc (.cells #[.int .i64 19, .int .i64 f, .int .i64 t, .int .i64 n, .int .i64 s, .int .i64 r, .int .i64 p, .int .i64 0, .int .i64 c] 25)).cell? ⟨w.heap.size, 6, none⟩ = some (.int .i64 p) := by unfold World.cell?; dsimp only; rw [(MapKept.heap_alloc w _).1]; rfl
  have CO : (w.alloc (.cells #[.int .i64 19, .int .i64 f, .int .i64 t, .int .i64 n, .int .i64 s, .int .i64 r, .int .i64 p, .int .i64 0, .int .i64 c] 25)).cell? ⟨w.heap.size, 7, none⟩ = some (.int .i64 0) := by unfold World.cell?; dsimp only; rw [(MapKept.heap_alloc w _).1]; rfl
  have CC : (w.alloc (.cells #[.int .i64 19, .int .i64 f, .int .i64 t, .int .i64 n, .int .i64 s, .int .i64 r, .int .i64 p, .int .i64 0, .int .i64 c] 25)).cell? ⟨w.heap.size, 8, none⟩ = some (.int .i64 c) := by unfold World.cell?; dsimp only; rw [(MapKept.heap_alloc w _).1]; rfl
  clear hy6
  go_enter Tryd.func11, Tryd.ntmps11
  go_wp2_with (go_at_call 35; (with_reducible refine (HA.out _).mono ?_); rintro e w2 ⟨rfl, hk2⟩; have K2 := Lib.hid (Kp.trans (kp_alloc w (.cells #[.int .i64 19, .int .i64 f, .int .i64 t, .int .i64 n, .int .i64 s, .int .i64 r, .int .i64 p, .int .i64 0, .int .i64 c] 25)) hk2); have cR := kp_cell hk2 CR; have cP := kp_cell hk2 CP; have cO := kp_cell hk2 CO; have cC := kp_cell hk2 CC; have cK := kp_cell hk2 CK; clear hk2)
  go_ret
  exact ⟨by first | rfl | simp [*], K2.out⟩
set_option maxRecDepth 100000 in
theorem rit_k19c (f t n s r p c : Int) (w : World) (h2 : 0 ≤ f) (h3 : f ≤ 3) (h4 : 0 ≤ t) (h5 : t ≤ 3) (h7 : 0 ≤ r) (h8 : r ≤ 5) (h9 : 0 ≤ p) (h10 : p ≤ 7) (hy6 : rightA n s = true) (z0 : 1 ≤ c) (z1 : c ≤ 5) :
    Calls Tryd.prog 11 #[.agg #[.int .i64 19, .int .i64 f, .int .i64 t, .int .i64 n, .int .i64 s, .int .i64 r, .int .i64 p, .int .i64 0, .int .i64 c]] w fun e w' => e = .returned (.bool true) ∧ Kp w w' := by
  have g2 : ¬ f < 0 := by omega
  have g3 : ¬ f > 3 := by omega
  have g4 : ¬ t < 0 := by omega
  have g5 : ¬ t > 3 := by omega
  have g7 : ¬ r < 0 := by omega
  have g8 : ¬ r > 5 := by omega
  have g9 : ¬ p < 0 := by omega
  have g10 : ¬ p > 7 := by omega
  have HA := Lib.hid (fun w1 => refRight_any n s w1)
  rw [hy6] at HA
  have CK : (w.alloc (.cells #[.int .i64 19, .int .i64 f, .int .i64 t, .int .i64 n, .int .i64 s, .int .i64 r, .int .i64 p, .int .i64 0, .int .i64 c] 25)).cell? ⟨w.heap.size, 0, none⟩ = some (.int .i64 19) := by unfold World.cell?; dsimp only; rw [(MapKept.heap_alloc w _).1]; rfl
  have CR : (w.alloc (.cells #[.int .i64 19, .int .i64 f, .int .i64 t, .int .i64 n, .int .i64 s, .int .i64 r, .int .i64 p, .int .i64 0, .int .i64 c] 25)).cell? ⟨w.heap.size, 5, none⟩ = some (.int .i64 r) := by unfold World.cell?; dsimp only; rw [(MapKept.heap_alloc w _).1]; rfl
  have CP : (w.alloc (.cells #[.int .i64 19, .int .i64 f, .int .i64 t, .int .i64 n, .int .i64 s, .int .i64 r, .int .i64 p, .int .i64 0, .int .i64 c] 25)).cell? ⟨w.heap.size, 6, none⟩ = some (.int .i64 p) := by unfold World.cell?; dsimp only; rw [(MapKept.heap_alloc w _).1]; rfl
  have CO : (w.alloc (.cells #[.int .i64 19, .int .i64 f, .int .i64 t, .int .i64 n, .int .i64 s, .int .i64 r, .int .i64 p, .int .i64 0, .int .i64 c] 25)).cell? ⟨w.heap.size, 7, none⟩ = some (.int .i64 0) := by unfold World.cell?; dsimp only; rw [(MapKept.heap_alloc w _).1]; rfl
  have CC : (w.alloc (.cells #[.int .i64 19, .int .i64 f, .int .i64 t, .int .i64 n, .int .i64 s, .int .i64 r, .int .i64 p, .int .i64 0, .int .i64 c] 25)).cell? ⟨w.heap.size, 8, none⟩ = some (.int .i64 c) := by unfold World.cell?; dsimp only; rw [(MapKept.heap_alloc w _).1]; rfl
  clear hy6
  go_enter Tryd.func11, Tryd.ntmps11
  go_wp2_with (go_at_call 35; (with_reducible refine (HA.out _).mono ?_); rintro e w2 ⟨rfl, hk2⟩; have K2 := Lib.hid (Kp.trans (kp_alloc w (.cells #[.int .i64 19, .int .i64 f, .int .i64 t, .int .i64 n, .int .i64 s, .int .i64 r, .int .i64 p, .int .i64 0, .int .i64 c] 25)) hk2); have cR := kp_cell hk2 CR; have cP := kp_cell hk2 CP; have cO := kp_cell hk2 CO; have cC := kp_cell hk2 CC; have cK := kp_cell hk2 CK; clear hk2)
  go_ret
  exact ⟨by first | rfl | simp [*], K2.out⟩
set_option maxRecDepth 100000 in
theorem rit_k19d (f t n s r p c : Int) (w : World) (h2 : 0 ≤ f) (h3 : f ≤ 3) (h4 : 0 ≤ t) (h5 : t ≤ 3) (h7 : 0 ≤ r) (h8 : r ≤ 5) (h9 : 0 ≤ p) (h10 : p ≤ 7) (hy6 : rightA n s = true) (z0 : 1 ≤ c) (z1 : ¬ c ≤ 5) :
    Calls Tryd.prog 11 #[.agg #[.int .i64 19, .int .i64 f, .int .i64 t, .int .i64 n, .int .i64 s, .int .i64 r, .int .i64 p, .int .i64 0, .int .i64 c]] w fun e w' => e = .returned (.bool false) ∧ Kp w w' := by
  have g2 : ¬ f < 0 := by omega
  have g3 : ¬ f > 3 := by omega
  have g4 : ¬ t < 0 := by omega
  have g5 : ¬ t > 3 := by omega
  have g7 : ¬ r < 0 := by omega
  have g8 : ¬ r > 5 := by omega
  have g9 : ¬ p < 0 := by omega
  have g10 : ¬ p > 7 := by omega
  have HA := Lib.hid (fun w1 => refRight_any n s w1)
  rw [hy6] at HA
  have CK : (w.alloc (.cells #[.int .i64 19, .int .i64 f, .int .i64 t, .int .i64 n, .int .i64 s, .int .i64 r, .int .i64 p, .int .i64 0, .int .i64 c] 25)).cell? ⟨w.heap.size, 0, none⟩ = some (.int .i64 19) := by unfold World.cell?; dsimp only; rw [(MapKept.heap_alloc w _).1]; rfl
  have CR : (w.alloc (.cells #[.int .i64 19, .int .i64 f, .int .i64 t, .int .i64 n, .int .i64 s, .int .i64 r, .int .i64 p, .int .i64 0, .int .i64 c] 25)).cell? ⟨w.heap.size, 5, none⟩ = some (.int .i64 r) := by unfold World.cell?; dsimp only; rw [(MapKept.heap_alloc w _).1]; rfl
  have CP : (w.alloc (.cells #[.int .i64 19, .int .i64 f, .int .i64 t, .int .i64 n, .int .i64 s, .int .i64 r, .int .i64 p, .int .i64 0, .int .i64 c] 25)).cell? ⟨w.heap.size, 6, none⟩ = some (.int .i64 p) := by unfold World.cell?; dsimp only; rw [(MapKept.heap_alloc w _).1]; rfl
  have CO : (w.alloc (.cells #[.int .i64 19, .int .i64 f, .int .i64 t, .int .i64 n, .int .i64 s, .int .i64 r, .int .i64 p, .int .i64 0, .int .i64 c] 25)).cell? ⟨w.heap.size, 7, none⟩ = some (.int .i64 0) := by unfold World.cell?; dsimp only; rw [(MapKept.heap_alloc w _).1]; rfl
  have CC : (w.alloc (.cells #[.int .i64 19, .int .i64 f, .int .i64 t, .int .i64 n, .int .i64 s, .int .i64 r, .int .i64 p, .int .i64 0, .int .i64 c] 25)).cell? ⟨w.heap.size, 8, none⟩ = some (.int .i64 c) := by unfold World.cell?; dsimp only; rw [(MapKept.heap_alloc w _).1]; rfl
  clear hy6
  go_enter Tryd.func11, Tryd.ntmps11
  go_wp2_with (go_at_call 35; (with_reducible refine (HA.out _).mono ?_); rintro e w2 ⟨rfl, hk2⟩; have K2 := Lib.hid (Kp.trans (kp_alloc w (.cells #[.int .i64 19, .int .i64 f, .int .i64 t, .int .i64 n, .int .i64 s, .int .i64 r, .int .i64 p, .int .i64 0, .int .i64 c] 25)) hk2); have cR := kp_cell hk2 CR; have cP := kp_cell hk2 CP; have cO := kp_cell hk2 CO; have cC := kp_cell hk2 CC; have cK := kp_cell hk2 CK; clear hk2)
  go_ret
  exact ⟨by first | rfl | simp [*], K2.out⟩
set_option maxRecDepth 100000 in
theorem rit_k16a (f t n s r p o c : Int) (w : World) (h2 : 0 ≤ f) (h3 : f ≤ 3) (h4 : 0 ≤ t) (h5 : t ≤ 3) (h7 : 0 ≤ r) (h8 : r ≤ 5) (h9 : 0 ≤ p) (h10 : p ≤ 7) (hy6 : rightA n s = true) (z0 : ¬ o = 0) :
    Calls Tryd.prog 11 #[.agg #[.int .i64 16, .int .i64 f, .int .i64 t, .int .i64 n, .int .i64 s, .int .i64 r, .int .i64 p, .int .i64 o, .int .i64 c]] w fun e w' => e = .returned (.bool false) ∧ Kp w w' := by
  have g2 : ¬ f < 0 := by omega
  have g3 : ¬ f > 3 := by omega
  have g4 : ¬ t < 0 := by omega
  have g5 : ¬ t > 3 := by omega
  have g7 : ¬ r < 0 := by omega
  have g8 : ¬ r > 5 := by omega
  have g9 : ¬ p < 0 := by omega
  have g10 : ¬ p > 7 := by omega
  have HA := Lib.hid (fun w1 => refRight_any n s w1)
  rw [hy6] at HA
  have CK : (w.alloc (.cells #[.int .i64 16, .int .i64 f, .int .i64 t, .int .i64 n, .int .i64 s, .int .i64 r, .int .i64 p, .int .i64 o, .int .i64 c] 25)).cell? ⟨w.heap.size, 0, none⟩ = some (.int .i64 16) := by unfold World.cell?; dsimp only; rw [(MapKept.heap_alloc w _).1]; rfl
  have CR : (w.alloc (.cells #[.int .i64 16, .int .i64 f, .int .i64 t, .int .i64 n, .int .i64 s, .int .i64 r, .int .i64 p, .int .i64 o, .int .i64 c] 25)).cell? ⟨w.heap.size, 5, none⟩ = some (.int .i64 r) := by unfold World.cell?; dsimp only; rw [(MapKept.heap_alloc w _).1]; rfl
  have CP : (w.alloc (.cells #[.int .i64 16, .int .i64 f, .int .i64 t, .int .i64 n, .int .i64 s, .int .i64 r, .int .i64 p, .int .i64 o, .int .i64 c] 25)).cell? ⟨w.heap.size, 6, none⟩ = some (.int .i64 p) := by unfold World.cell?; dsimp only; rw [(MapKept.heap_alloc w _).1]; rfl
  have CO : (w.alloc (.cells #[.int .i64 16, .int .i64 f, .int .i64 t, .int .i64 n, .int .i64 s, .int .i64 r, .int .i64 p, .int .i64 o, .int .i64 c] 25)).cell? ⟨w.heap.size, 7, none⟩ = some (.int .i64 o) := by unfold World.cell?; dsimp only; rw [(MapKept.heap_alloc w _).1]; rfl
  have CC : (w.alloc (.cells #[.int .i64 16, .int .i64 f, .int .i64 t, .int .i64 n, .int .i64 s, .int .i64 r, .int .i64 p, .int .i64 o, .int .i64 c] 25)).cell? ⟨w.heap.size, 8, none⟩ = some (.int .i64 c) := by unfold World.cell?; dsimp only; rw [(MapKept.heap_alloc w _).1]; rfl
  clear hy6
  go_enter Tryd.func11, Tryd.ntmps11
  go_wp2_with (go_at_call 35; (with_reducible refine (HA.out _).mono ?_); rintro e w2 ⟨rfl, hk2⟩; have K2 := Lib.hid (Kp.trans (kp_alloc w (.cells #[.int .i64 16, .int .i64 f, .int .i64 t, .int .i64 n, .int .i64 s, .int .i64 r, .int .i64 p, .int .i64 o, .int .i64 c] 25)) hk2); have cR := kp_cell hk2 CR; have cP := kp_cell hk2 CP; have cO := kp_cell hk2 CO; have cC := kp_cell hk2 CC; have cK := kp_cell hk2 CK; clear hk2)
  go_ret
  exact ⟨by first | rfl | simp [*], K2.out⟩
set_option maxRecDepth 100000 in
theorem rit_k16b (f t n s r p c : Int) (w : World) (h2 : 0 ≤ f) (h3 : f ≤ 3) (h4 : 0 ≤ t) (h5 : t ≤ 3) (h7 : 0 ≤ r) (h8 : r ≤ 5) (h9 : 0 ≤ p) (h10 : p ≤ 7) (hy6 : rightA n s = true) (z0 : ¬ 1 ≤ c) :
    Calls Tryd.prog 11 #[.agg #[.int .i64 16, .int .i64 f, .int .i64 t, .int .i64 n, .int .i64 s, .int .i64 r, .int .i64 p, .int .i64 0, .int .i64 c]] w fun e w' => e = .returned (.bool false) ∧ Kp w w' := by
  have g2 : ¬ f < 0 := by omega
  have g3 : ¬ f > 3 := by omega
  have g4 : ¬ t < 0 := by omega
  have g5 : ¬ t > 3 := by omega
  have g7 : ¬ r < 0 := by omega
  have g8 : ¬ r > 5 := by omega
  have g9 : ¬ p < 0 := by omega
  have g10 : ¬ p > 7 := by omega
  have HA := Lib.hid (fun w1 => refRight_any n s w1)
  rw [hy6] at HA
  have CK : (w.alloc (.cells #[.int .i64 16, .int .i64 f, .int .i64 t, .int .i64 n, .int .i64 s, .int .i64 r, .int .i64 p, .int .i64 0, .int .i64 c] 25)).cell? ⟨w.heap.size, 0, none⟩ = some (.int .i64 16) := by unfold World.cell?; dsimp only; rw [(MapKept.heap_alloc w _).1]; rfl
  have CR : (w.alloc (.cells #[.int .i64 16, .int .i64 f, .int .i64 t, .int .i64 n, .int .i64 s, .int .i64 r, .int .i64 p, .int .i64 0, .int .i64 c] 25)).cell? ⟨w.heap.size, 5, none⟩ = some (.int .i64 r) := by unfold World.cell?; dsimp only; rw [(MapKept.heap_alloc w _).1]; rfl
  have CP : (w.alloc (.cells #[.int .i64 16, .int .i64 f, .int .i64 t, .int .i64 n, .int .i64 s, .int .i64 r, .int .i64 p, .int .i64 0, .int .i64 c] 25)).cell? ⟨w.heap.size, 6, none⟩ = some (.int .i64 p) := by unfold World.cell?; dsimp only; rw [(MapKept.heap_alloc w _).1]; rfl
  have CO : (w.alloc (.cells #[.int .i64 16, .int .i64 f, .int .i64 t, .int .i64 n, .int .i64 s, .int .i64 r, .int .i64 p, .int .i64 0, .int .i64 c] 25)).cell? ⟨w.heap.size, 7, none⟩ = some (.int .i64 0) := by unfold World.cell?; dsimp only; rw [(MapKept.heap_alloc w _).1]; rfl
  have CC : (w.alloc (.cells #[.int .i64 16, .int .i64 f, .int .i64 t, .int .i64 n, .int .i64 s, .int .i64 r, .int .i64 p, .int .i64 0, .int .i64 c] 25)).cell? ⟨w.heap.size, 8, none⟩ = some (.int .i64 c) := by unfold World.cell?; dsimp only; rw [(MapKept.heap_alloc w _).1]; rfl
  clear hy6
  go_enter Tryd.func11, Tryd.ntmps11
  go_wp2_with (go_at_call 35; (with_reducible refine (HA.out _).mono ?_); rintro e w2 ⟨rfl, hk2⟩; have K2 := Lib.hid (Kp.trans (kp_alloc w (.cells #[.int .i64 16, .int .i64 f, .int .i64 t, .int .i64 n, .int .i64 s, .int .i64 r, .int .i64 p, .int .i64 0, .int .i64 c] 25)) hk2); have cR := kp_cell hk2 CR; have cP := kp_cell hk2 CP; have cO := kp_cell hk2 CO; have cC := kp_cell hk2 CC; have cK := kp_cell hk2 CK; clear hk2)
  go_ret
  exact ⟨by first | rfl | simp [*], K2.out⟩
set_option maxRecDepth 100000 in
theorem rit_k16c (f t n s r p c : Int) (w : World) (h2 : 0 ≤ f) (h3 : f ≤ 3) (h4 : 0 ≤ t) (h5 : t ≤ 3) (h7 : 0 ≤ r) (h8 : r ≤ 5) (h9 : 0 ≤ p) (h10 : p ≤ 7) (hy6 : rightA n s = true) (z0 : 1 ≤ c) (z1 : c ≤ 14) :
    Calls Tryd.prog 11 #[.agg #[.int .i64 16, .int .i64 f, .int .i64 t, .int .i64 n, .int .i64 s, .int .i64 r, .int .i64 p, .int .i64 0, .int .i64 c]] w fun e w' => e = .returned (.bool true) ∧ Kp w w' := by
  have g2 : ¬ f < 0 := by omega
  have g3 : ¬ f > 3 := by omega
  have g4 : ¬ t < 0 := by omega
  have g5 : ¬ t > 3 := by omega
  have g7 : ¬ r < 0 := by omega
  have g8 : ¬ r > 5 := by omega
  have g9 : ¬ p < 0 := by omega
  have g10 : ¬ p > 7 := by omega
  have HA := Lib.hid (fun w1 => refRight_any n s w1)
  rw [hy6] at HA
  have CK : (w.alloc (.cells #[.int .i64 16, .int .i64 f, .int .i64 t, .int .i64 n, .int .i64 s, .int .i64 r, .int .i64 p, .int .i64 0, .int .i64 c] 25)).cell? ⟨w.heap.size, 0, none⟩ = some (.int .i64 16) := by unfold World.cell?; dsimp only; rw [(MapKept.heap_alloc w _).1]; rfl
  have CR : (w.alloc (.cells #[.int .i64 16, .int .i64 f, .int .i64 t, .int .i64 n, .int .i64 s, .int .i64 r, .int .i64 p, .int .i64 0, .int .i64 c] 25)).cell? ⟨w.heap.size, 5, none⟩ = some (.int .i64 r) := by unfold World.cell?; dsimp only; rw [(MapKept.heap_alloc w _).1]; rfl
  have CP : (w.alloc (.cells #[.int .i64 16, .int .i64 f, .int .i64 t, .int .i64 n, .int .i64 s, .int .i64 r, .int .i64 p, .int .i64 0, .int .i64 c] 25)).cell? ⟨w.heap.size, 6, none⟩ = some (.int .i64 p) := by unfold World.cell?; dsimp only; rw [(MapKept.heap_alloc w _).1]; rfl
  have CO : (w.alloc (.cells #[.int .i64 16, .int .i64 f, .int .i64 t, .int .i64 n, .int .i64 s, .int .i64 r, .int .i64 p, .int .i64 0, .int .i64 c] 25)).cell? ⟨w.heap.size, 7, none⟩ = some (.int .i64 0) := by unfold World.cell?; dsimp only; rw [(MapKept.heap_alloc w _).1]; rfl
  have CC : (w.alloc (.cells #[.int .i64 16, .int .i64 f, .int .i64 t, .int .i64 n, .int .i64 s, .int .i64 r, .int .i64 p, .int .i64 0, .int .i64 c] 25)).cell? ⟨w.heap.size, 8, none⟩ = some (.int .i64 c) := by unfold World.cell?; dsimp only; rw [(MapKept.heap_alloc w _).1]; rfl
  clear hy6
  go_enter Tryd.func11, Tryd.ntmps11
  go_wp2_with (go_at_call 35; (with_reducible refine (HA.out _).mono ?_); rintro e w2 ⟨rfl, hk2⟩; have K2 := Lib.hid (Kp.trans (kp_alloc w (.cells #[.int .i64 16, .int .i64 f, .int .i64 t, .int .i64 n, .int .i64 s, .int .i64 r, .int .i64 p, .int .i64 0, .int .i64 c] 25)) hk2); have cR := kp_cell hk2 CR; have cP := kp_cell hk2 CP; have cO := kp_cell hk2 CO; have cC := kp_cell hk2 CC; have cK := kp_cell hk2 CK; clear hk2)
  go_ret
  exact ⟨by first | rfl | simp [*], K2.out⟩
set_option maxRecDepth 100000 in
theorem rit_k16d (f t n s r p c : Int) (w : World) (h2 : 0 ≤ f) (h3 : f ≤ 3) (h4 : 0 ≤ t) (h5 : t ≤ 3) (h7 : 0 ≤ r) (h8 : r ≤ 5) (h9 : 0 ≤ p) (h10 : p ≤ 7) (hy6 : rightA n s = true) (z0 : 1 ≤ c) (z1 : ¬ c ≤ 14) :
    Calls Tryd.prog 11 #[.agg #[.int .i64 16, .int .i64 f, .int .i64 t, .int .i64 n, .int .i64 s, .int .i64 r, .int .i64 p, .int .i64 0, .int .i64 c]] w fun e w' => e = .returned (.bool false) ∧ Kp w w' := by
  have g2 : ¬ f < 0 := by omega
  have g3 : ¬ f > 3 := by omega
  have g4 : ¬ t < 0 := by omega
  have g5 : ¬ t > 3 := by omega
  have g7 : ¬ r < 0 := by omega
  have g8 : ¬ r > 5 := by omega
  have g9 : ¬ p < 0 := by omega
  have g10 : ¬ p > 7 := by omega
  have HA := Lib.hid (fun w1 => refRight_any n s w1)
  rw [hy6] at HA
  have CK : (w.alloc (.cells #[.int .i64 16, .int .i64 f, .int .i64 t, .int .i64 n, .int .i64 s, .int .i64 r, .int .i64 p, .int .i64 0, .int .i64 c] 25)).cell? ⟨w.heap.size, 0, none⟩ = some (.int .i64 16) := by unfold World.cell?; dsimp only; rw [(MapKept.heap_alloc w _).1]; rfl
  have CR : (w.alloc (.cells #[.int .i64 16, .int .i64 f, .int .i64 t, .int .i64 n, .int .i64 s, .int .i64 r, .int .i64 p, .int .i64 0, .int .i64 c] 25)).cell? ⟨w.heap.size, 5, none⟩ = some (.int .i64 r) := by unfold World.cell?; dsimp only; rw [(MapKept.heap_alloc w _).1]; rfl
  have CP : (w.alloc (.cells #[.int .i64 16, .int .i64 f, .int .i64 t, .int .i64 n, .int .i64 s, .int .i64 r, .int .i64 p, .int .i64 0, .int .i64 c] 25)).cell? ⟨w.heap.size, 6, none⟩ = some (.int .i64 p) := by unfold World.cell?; dsimp only; rw [(MapKept.heap_alloc w _).1]; rfl
  have CO : (w.alloc (.cells #[.int .i64 16, .int .i64 f, .int .i64 t, .int .i64 n, .int .i64 s, .int .i64 r, .int .i64 p, .int .i64 0, .int .i64 c] 25)).cell? ⟨w.heap.size, 7, none⟩ = some (.int .i64 0) := by unfold World.cell?; dsimp only; rw [(MapKept.heap_alloc w _).1]; rfl
  have CC : (w.alloc (.cells #[.int .i64 16, .int .i64 f, .int .i64 t, .int .i64 n, .int .i64 s, .int .i64 r, .int .i64 p, .int .i64 0, .int .i64 c] 25)).cell? ⟨w.heap.size, 8, none⟩ = some (.int .i64 c) := by unfold World.cell?; dsimp only; rw [(MapKept.heap_alloc w _).1]; rfl
  clear hy6
  go_enter Tryd.func11, Tryd.ntmps11
  go_wp2_with (go_at_call 35; (with_reducible refine (HA.out _).mono ?_); rintro e w2 ⟨rfl, hk2⟩; have K2 := Lib.hid (Kp.trans (kp_alloc w (.cells #[.int .i64 16, .int .i64 f, .int .i64 t, .int .i64 n, .int .i64 s, .int .i64 r, .int .i64 p, .int .i64 0, .int .i64 c] 25)) hk2); have cR := kp_cell hk2 CR; have cP := kp_cell hk2 CP; have cO := kp_cell hk2 CO; have cC := kp_cell hk2 CC; have cK := kp_cell hk2 CK; clear hk2)
  go_ret
  exact ⟨by first | rfl | simp [*], K2.out⟩
set_option maxRecDepth 100000 in
theorem rit_kxa (k f t n s r p o c : Int) (w : World) (h0 : 1 ≤ k) (h1 : k ≤ 19) (h2 : 0 ≤ f) (h3 : f ≤ 3) (h4 : 0 ≤ t) (h5 : t ≤ 3) (h7 : 0 ≤ r) (h8 : r ≤ 5) (h9 : 0 ≤ p) (h10 : p ≤ 7) (hy6 : rightA n s = true) (z0 : ¬ k = 17) (z1 : ¬ k = 18) (z2 : ¬ k = 19) (z3 : ¬ k = 16) (z4 : ¬ o = 0) :
    Calls Tryd.prog 11 #[.agg #[.int .i64 k, .int .i64 f, .int .i64 t, .int .i64 n, .int .i64 s, .int .i64 r, .int .i64 p, .int .i64 o, .int .i64 c]] w fun e w' => e = .returned (.bool false) ∧ Kp w w' := by
  have g0 : ¬ k < 1 := by omega
  have g1 : ¬ k > 19 := by omega
  have g2 : ¬ f < 0 := by omega
  have g3 : ¬ f > 3 := by omega
  have g4 : ¬ t < 0 := by omega
  have g5 : ¬ t > 3 := by omega
  have g7 : ¬ r < 0 := by omega
  have g8 : ¬ r > 5 := by omega
  have g9 : ¬ p < 0 := by omega
  have g10 : ¬ p > 7 := by omega
  have HA := Lib.hid (fun w1 => refRight_any n s w1)
  rw [hy6] at HA
  have CK : (w.alloc (.cells #[.int .i64 k, .int .i64 f, .int .i64 t, .int .i64 n, .int .i64 s, .int .i64 r, .int .i64 p, .int .i64 o, .int .i64 c] 25)).cell? ⟨w.heap.size, 0, none⟩ = some (.int .i64 k) := by unfold World.cell?; dsimp only; rw [(MapKept.heap_alloc w _).1]; rfl
  have CR : (w.alloc (.cells #[.int .i64 k, .int .i64 f, .int .i64 t, .int .i64 n, .int .i64 s, .int .i64 r, .int .i64 p, .int .i64 o, .int .i64 c] 25)).cell? ⟨w.heap.size, 5, none⟩ = some (.int .i64 r) := by unfold World.cell?; dsimp only; rw [(MapKept.heap_alloc w _).1]; rfl
  have CP : (w.alloc (.cells #[.int .i64 k, .int .i64 f, .int .i64 t, .int .i64 n, .int .i64 s, .int .i64 r, .int .i64 p, .int .i64 o, .int .i64 c] 25)).cell? ⟨w.heap.size, 6, none⟩ = some (.int .i64 p) := by unfold World.cell?; dsimp only; rw [(MapKept.heap_alloc w _).1]; rfl
  have CO : (w.alloc (.cells #[.int .i64 k, .int .i64 f, .int .i64 t, .int .i64 n, .int .i64 s, .int .i64 r, .int .i64 p, .int .i64 o, .int .i64 c] 25)).cell? ⟨w.heap.size, 7, none⟩ = some (.int .i64 o) := by unfold World.cell?; dsimp only; rw [(MapKept.heap_alloc w _).1]; rfl
  have CC : (w.alloc (.cells #[.int .i64 k, .int .i64 f, .int .i64 t, .int .i64 n, .int .i64 s, .int .i64 r, .int .i64 p, .int .i64 o, .int .i64 c] 25)).cell? ⟨w.heap.size, 8, none⟩ = some (.int .i64 c) := by unfold World.cell?; dsimp only; rw [(MapKept.heap_alloc w _).1]; rfl
  clear hy6
  go_enter Tryd.func11, Tryd.ntmps11
  go_wp2_with (go_at_call 35; (with_reducible refine (HA.out _).mono ?_); rintro e w2 ⟨rfl, hk2⟩; have K2 := Lib.hid (Kp.trans (kp_alloc w (.cells #[.int .i64 k, .int .i64 f, .int .i64 t, .int .i64 n, .int .i64 s, .int .i64 r, .int .i64 p, .int .i64 o, .int .i64 c] 25)) hk2); have cR := kp_cell hk2 CR; have cP := kp_cell hk2 CP; have cO := kp_cell hk2 CO; have cC := kp_cell hk2 CC; have cK := kp_cell hk2 CK; clear hk2)
  go_ret
  exact ⟨by first | rfl | simp [*], K2.out⟩
set_option maxRecDepth 100000 in
theorem rit_kxb (k f t n s r p c : Int) (w : World) (h0 : 1 ≤ k) (h1 : k ≤ 19) (h2 : 0 ≤ f) (h3 : f ≤ 3) (h4 : 0 ≤ t) (h5 : t ≤ 3) (h7 : 0 ≤ r) (h8 : r ≤ 5) (h9 : 0 ≤ p) (h10 : p ≤ 7) (hy6 : rightA n s = true) (z0 : ¬ k = 17) (z1 : ¬ k = 18) (z2 : ¬ k = 19) (z3 : ¬ k = 16) (z4 : ¬ c = 0) :
    Calls Tryd.prog 11 #[.agg #[.int .i64 k, .int .i64 f, .int .i64 t, .int .i64 n, .int .i64 s, .int .i64 r, .int .i64 p, .int .i64 0, .int .i64 c]] w fun e w' => e = .returned (.bool false) ∧ Kp w w' := by
  have g0 : ¬ k < 1 := by omega
  have g1 : ¬ k > 19 := by omega
  have g2 : ¬ f < 0 := by omega
  have g3 : ¬ f > 3 := by omega
  have g4 : ¬ t < 0 := by omega
  have g5 : ¬ t > 3 := by omega
  have g7 : ¬ r < 0 := by omega
  have g8 : ¬ r > 5 := by omega
  have g9 : ¬ p < 0 := by omega
  have g10 : ¬ p > 7 := by omega
  have HA := Lib.hid (fun w1 => refRight_any n s w1)
  rw [hy6] at HA
  have CK : (w.alloc (.cells #[.int .i64 k, .int .i64 f, .int .i64 t, .int .i64 n, .int .i64 s, .int .i64 r, .int .i64 p, .int .i64 0, .int .i64 c] 25)).cell? ⟨w.heap.size, 0, none⟩ = some (.int .i64 k) := by unfold World.cell?; dsimp only; rw [(MapKept.heap_alloc w _).1]; rfl
  have CR : (w.alloc (.cells #[.int .i64 k, .int .i64 f, .int .i64 t, .int .i64 n, .int .i64 s, .int .i64 r, .int .i64 p, .int .i64 0, .int .i64 c] 25)).cell? ⟨w.heap.size, 5, none⟩ = some (.int .i64 r) := by unfold World.cell?; dsimp only; rw [(MapKept.heap_alloc w _).1]; rfl
  have CP : (w.alloc (.cells #[.int .i64 k, .int .i64 f, .int .i64 t, .int .i64 n, .int .i64 s, .int .i64 r, .int .i64 p, .int .i64 0, .int .i64 c] 25)).cell? ⟨w.heap.size, 6, none⟩ = some (.int .i64 p) := by unfold World.cell?; dsimp only; rw [(MapKept.heap_alloc w _).1]; rfl
  have CO : (w.alloc (.cells #[.int .i64 k, .int .i64 f, .int .i64 t, .int .i64 n, .int .i64 s, .int .i64 r, .int .i64 p, .int .i64 0, .int .i64 c] 25)).cell? ⟨w.heap.size, 7, none⟩ = some (.int .i64 0) := by unfold World.cell?; dsimp only; rw [(MapKept.heap_alloc w _).1]; rfl
  have CC : (w.alloc (.cells #[.int .i64 k, .int .i64 f, .int .i64 t, .int .i64 n, .int .i64 s, .int .i64 r, .int .i64 p, .int .i64 0, .int .i64 c] 25)).cell? ⟨w.heap.size, 8, none⟩ = some (.int .i64 c) := by unfold World.cell?; dsimp only; rw [(MapKept.heap_alloc w _).1]; rfl
  clear hy6
  go_enter Tryd.func11, Tryd.ntmps11
  go_wp2_with (go_at_call 35; (with_reducible refine (HA.out _).mono ?_); rintro e w2 ⟨rfl, hk2⟩; have K2 := Lib.hid (Kp.trans (kp_alloc w (.cells #[.int .i64 k, .int .i64 f, .int .i64 t, .int .i64 n, .int .i64 s, .int .i64 r, .int .i64 p, .int .i64 0, .int .i64 c] 25)) hk2); have cR := kp_cell hk2 CR; have cP := kp_cell hk2 CP; have cO := kp_cell hk2 CO; have cC := kp_cell hk2 CC; have cK := kp_cell hk2 CK; clear hk2)
  go_ret
  exact ⟨by first | rfl | simp [*], K2.out⟩
set_option maxRecDepth 100000 in
theorem rit_kxc (k f t n s r p : Int) (w : World) (h0 : 1 ≤ k) (h1 : k ≤ 19) (h2 : 0 ≤ f) (h3 : f ≤ 3) (h4 : 0 ≤ t) (h5 : t ≤ 3) (h7 : 0 ≤ r) (h8 : r ≤ 5) (h9 : 0 ≤ p) (h10 : p ≤ 7) (hy6 : rightA n s = true) (z0 : ¬ k = 17) (z1 : ¬ k = 18) (z2 : ¬ k = 19) (z3 : ¬ k = 16) :
    Calls Tryd.prog 11 #[.agg #[.int .i64 k, .int .i64 f, .int .i64 t, .int .i64 n, .int .i64 s, .int .i64 r, .int .i64 p, .int .i64 0, .int .i64 0]] w fun e w' => e = .returned (.bool true) ∧ Kp w w' := by
  have g0 : ¬ k < 1 := by omega
  have g1 : ¬ k > 19 := by omega
  have g2 : ¬ f < 0 := by omega
  have g3 : ¬ f > 3 := by omega
  have g4 : ¬ t < 0 := by omega
  have g5 : ¬ t > 3 := by omega
  have g7 : ¬ r < 0 := by omega
  have g8 : ¬ r > 5 := by omega
  have g9 : ¬ p < 0 := by omega
  have g10 : ¬ p > 7 := by omega
  have HA := Lib.hid (fun w1 => refRight_any n s w1)
  rw [hy6] at HA
  have CK : (w.alloc (.cells #[.int .i64 k, .int .i64 f, .int .i64 t, .int .i64 n, .int .i64 s, .int .i64 r, .int .i64 p, .int .i64 0, .int .i64 0] 25)).cell? ⟨w.heap.size, 0, none⟩ = some (.int .i64 k) := by unfold World.cell?; dsimp only; rw [(MapKept.heap_alloc w _).1]; rfl
  have CR : (w.alloc (.cells #[.int .i64 k, .int .i64 f, .int .i64 t, .int .i64 n, .int .i64 s, .int .i64 r, .int .i64 p, .int .i64 0, .int .i64 0] 25)).cell? ⟨w.heap.size, 5, none⟩ = some (.int .i64 r) := by unfold World.cell?; dsimp only; rw [(MapKept.heap_alloc w _).1]; rfl
  have CP : (w.alloc (.cells #[.int .i64 k, .int .i64 f, .int .i64 t, .int .i64 n, .int .i64 s, .int .i64 r, .int .i64 p, .int .i64 0, .int .i64 0] 25)).cell? ⟨w.heap.size, 6, none⟩ = some (.int .i64 p) := by unfold World.cell?; dsimp only; rw [(MapKept.heap_alloc w _).1]; rfl
  have CO : (w.alloc (.cells #[.int .i64 k, .int .i64 f, .int .i64 t, .int .i64 n, .int .i64 s, .int .i64 r, .int .i64 p, .int .i64 0, .int .i64 0] 25)).cell? ⟨w.heap.size, 7, none⟩ = some (.int .i64 0) := by unfold World.cell?; dsimp only; rw [(MapKept.heap_alloc w _).1]; rfl
  have CC : (w.alloc (.cells #[.int .i64 k, .int .i64 f, .int .i64 t, .int .i64 n, .int .i64 s, .int .i64 r, .int .i64 p, .int .i64 0, .int .i64 0] 25)).cell? ⟨w.heap.size, 8, none⟩ = some (.int .i64 0) := by unfold World.cell?; dsimp only; rw [(MapKept.heap_alloc w _).1]; rfl
  clear hy6
  go_enter Tryd.func11, Tryd.ntmps11
  go_wp2_with (go_at_call 35; (with_reducible refine (HA.out _).mono ?_); rintro e w2 ⟨rfl, hk2⟩; have K2 := Lib.hid (Kp.trans (kp_alloc w (.cells #[.int .i64 k, .int .i64 f, .int .i64 t, .int .i64 n, .int .i64 s, .int .i64 r, .int .i64 p, .int .i64 0, .int .i64 0] 25)) hk2); have cR := kp_cell hk2 CR; have cP := kp_cell hk2 CP; have cO := kp_cell hk2 CO; have cC := kp_cell hk2 CC; have cK := kp_cell hk2 CK; clear hk2)
  go_ret
  exact ⟨by first | rfl | simp [*], K2.out⟩

set_option maxRecDepth 100000 in
theorem refRight8_any (m : MM) (w : World) :
    Calls Tryd.prog 11 #[.agg m.cells] w fun e w' => e = .returned (.bool (rightM m)) ∧ Kp w w' := by
  obtain ⟨k, f, t, n, s, r, p, o, c⟩ := m
  have no : ∀ {x : MM}, rightM x = false → Calls Tryd.prog 11 #[.agg x.cells] w (fun e w' => e = .returned (.bool false) ∧ Kp w w') → Calls Tryd.prog 11 #[.agg x.cells] w (fun e w' => e = .returned (.bool (rightM x)) ∧ Kp w w') := fun h H => by rw [h]; exact H
  have ye : ∀ {x : MM}, rightM x = true → Calls Tryd.prog 11 #[.agg x.cells] w (fun e w' => e = .returned (.bool true) ∧ Kp w w') → Calls Tryd.prog 11 #[.agg x.cells] w (fun e w' => e = .returned (.bool (rightM x)) ∧ Kp w w') := fun h H => by rw [h]; exact H
  by_cases h0 : k < 1
  · exact no (by unfold rightM; rw [Bool.and_eq_false_iff, Bool.and_eq_false_iff, Bool.and_eq_false_iff]; left; left; left; exact decide_eq_false (by dsimp only; omega)) (rit_0 k f t n s r p o c w  h0)
  by_cases h1 : k > 19
  · exact no (by unfold rightM; rw [Bool.and_eq_false_iff, Bool.and_eq_false_iff, Bool.and_eq_false_iff]; left; left; left; exact decide_eq_false (by dsimp only; omega)) (rit_1 k f t n s r p o c w  h1)
  by_cases h2 : f < 0
  · exact no (by unfold rightM; rw [Bool.and_eq_false_iff, Bool.and_eq_false_iff, Bool.and_eq_false_iff]; left; left; left; exact decide_eq_false (by dsimp only; omega)) (rit_2 k f t n s r p o c w (by omega) (by omega) h2)
  by_cases h3 : f > 3
  · exact no (by unfold rightM; rw [Bool.and_eq_false_iff, Bool.and_eq_false_iff, Bool.and_eq_false_iff]; left; left; left; exact decide_eq_false (by dsimp only; omega)) (rit_3 k f t n s r p o c w (by omega) (by omega) h3)
  by_cases h4 : t < 0
  · exact no (by unfold rightM; rw [Bool.and_eq_false_iff, Bool.and_eq_false_iff, Bool.and_eq_false_iff]; left; left; left; exact decide_eq_false (by dsimp only; omega)) (rit_4 k f t n s r p o c w (by omega) (by omega) (by omega) (by omega) h4)
  by_cases h5 : t > 3
  · exact no (by unfold rightM; rw [Bool.and_eq_false_iff, Bool.and_eq_false_iff, Bool.and_eq_false_iff]; left; left; left; exact decide_eq_false (by dsimp only; omega)) (rit_5 k f t n s r p o c w (by omega) (by omega) (by omega) (by omega) h5)
  cases h6 : rightA n s with
  | false => exact no (by simp [rightM, h6]) (rit_6 k f t n s r p o c w (by omega) (by omega) (by omega) (by omega) (by omega) (by omega) h6)
  | true =>
    by_cases h7 : r < 0
    · exact no (by unfold rightM; rw [Bool.and_eq_false_iff, Bool.and_eq_false_iff, Bool.and_eq_false_iff]; left; right; exact decide_eq_false (by dsimp only; omega)) (rit_7 k f t n s r p o c w (by omega) (by omega) (by omega) (by omega) (by omega) (by omega) h6 h7)
    by_cases h8 : r > 5
    · exact no (by unfold rightM; rw [Bool.and_eq_false_iff, Bool.and_eq_false_iff, Bool.and_eq_false_iff]; left; right; exact decide_eq_false (by dsimp only; omega)) (rit_8 k f t n s r p o c w (by omega) (by omega) (by omega) (by omega) (by omega) (by omega) h6 h8)
    by_cases h9 : p < 0
    · exact no (by unfold rightM; rw [Bool.and_eq_false_iff, Bool.and_eq_false_iff, Bool.and_eq_false_iff]; left; right; exact decide_eq_false (by dsimp only; omega)) (rit_9 k f t n s r p o c w (by omega) (by omega) (by omega) (by omega) (by omega) (by omega) (by omega) (by omega) h6 h9)
    by_cases h10 : p > 7
    · exact no (by unfold rightM; rw [Bool.and_eq_false_iff, Bool.and_eq_false_iff, Bool.and_eq_false_iff]; left; right; exact decide_eq_false (by dsimp only; omega)) (rit_10 k f t n s r p o c w (by omega) (by omega) (by omega) (by omega) (by omega) (by omega) (by omega) (by omega) h6 h10)
    have A : rightM ⟨k, f, t, n, s, r, p, o, c⟩ = (if k = 17 then decide (r = 0 ∧ c = 0 ∧ (o = 1 ∨ o = 2)) else if k = 18 then decide (c = 0 ∧ (o = 1 ∨ o = 2)) else if k = 19 then decide (o = 0 ∧ 1 ≤ c ∧ c ≤ 5) else if k = 16 then decide (o = 0 ∧ 1 ≤ c ∧ c ≤ 14) else decide (o = 0 ∧ c = 0)) := by
      unfold rightM
      dsimp only
      rw [h6, decide_eq_true (show 1 ≤ k ∧ k ≤ 19 ∧ 0 ≤ f ∧ f ≤ 3 ∧ 0 ≤ t ∧ t ≤ 3 by omega), decide_eq_true (show 0 ≤ r ∧ r ≤ 5 ∧ 0 ≤ p ∧ p ≤ 7 by omega)]
      rfl
    by_cases k17 : k = 17
    · subst k17
      by_cases a : r = 0
      · subst a
        by_cases b : c = 0
        · subst b
          by_cases d : o = 1
          · subst d
            exact ye (by rw [A, if_pos rfl]; exact decide_eq_true (by omega)) (rit_k17c f t n s p w (by omega) (by omega) (by omega) (by omega) (by omega) (by omega) h6 )
          · by_cases e : o = 2
            · subst e
              exact ye (by rw [A, if_pos rfl]; exact decide_eq_true (by omega)) (rit_k17d f t n s p w (by omega) (by omega) (by omega) (by omega) (by omega) (by omega) h6 )
            · exact no (by rw [A, if_pos rfl]; exact decide_eq_false (by omega)) (rit_k17e f t n s p o w (by omega) (by omega) (by omega) (by omega) (by omega) (by omega) h6 d e)
        · exact no (by rw [A, if_pos rfl]; exact decide_eq_false (by omega)) (rit_k17b f t n s p o c w (by omega) (by omega) (by omega) (by omega) (by omega) (by omega) h6 b)
      · exact no (by rw [A, if_pos rfl]; exact decide_eq_false (by omega)) (rit_k17a f t n s r p o c w (by omega) (by omega) (by omega) (by omega) (by omega) (by omega) (by omega) (by omega) h6 a)
    by_cases k18 : k = 18
    · subst k18
      by_cases b : c = 0
      · subst b
        by_cases d : o = 1
        · subst d
          exact ye (by rw [A, if_neg (by decide), if_pos rfl]; exact decide_eq_true (by omega)) (rit_k18b f t n s r p w (by omega) (by omega) (by omega) (by omega) (by omega) (by omega) (by omega) (by omega) h6 )
        · by_cases e : o = 2
          · subst e
            exact ye (by rw [A, if_neg (by decide), if_pos rfl]; exact decide_eq_true (by omega)) (rit_k18c f t n s r p w (by omega) (by omega) (by omega) (by omega) (by omega) (by omega) (by omega) (by omega) h6 )
          · exact no (by rw [A, if_neg (by decide), if_pos rfl]; exact decide_eq_false (by omega)) (rit_k18d f t n s r p o w (by omega) (by omega) (by omega) (by omega) (by omega) (by omega) (by omega) (by omega) h6 d e)
      · exact no (by rw [A, if_neg (by decide), if_pos rfl]; exact decide_eq_false (by omega)) (rit_k18a f t n s r p o c w (by omega) (by omega) (by omega) (by omega) (by omega) (by omega) (by omega) (by omega) h6 b)
    by_cases k19 : k = 19
    · subst k19
      by_cases b : o = 0
      · subst b
        by_cases d : 1 ≤ c
        · by_cases e : c ≤ 5
          · exact ye (by rw [A, if_neg (by decide), if_neg (by decide), if_pos rfl]; exact decide_eq_true (by omega)) (rit_k19c f t n s r p c w (by omega) (by omega) (by omega) (by omega) (by omega) (by omega) (by omega) (by omega) h6 d e)
          · exact no (by rw [A, if_neg (by decide), if_neg (by decide), if_pos rfl]; exact decide_eq_false (by omega)) (rit_k19d f t n s r p c w (by omega) (by omega) (by omega) (by omega) (by omega) (by omega) (by omega) (by omega) h6 d e)
        · exact no (by rw [A, if_neg (by decide), if_neg (by decide), if_pos rfl]; exact decide_eq_false (by omega)) (rit_k19b f t n s r p c w (by omega) (by omega) (by omega) (by omega) (by omega) (by omega) (by omega) (by omega) h6 d)
      · exact no (by rw [A, if_neg (by decide), if_neg (by decide), if_pos rfl]; exact decide_eq_false (by omega)) (rit_k19a f t n s r p o c w (by omega) (by omega) (by omega) (by omega) (by omega) (by omega) (by omega) (by omega) h6 b)
    by_cases k16 : k = 16
    · subst k16
      by_cases b : o = 0
      · subst b
        by_cases d : 1 ≤ c
        · by_cases e : c ≤ 14
          · exact ye (by rw [A, if_neg (by decide), if_neg (by decide), if_neg (by decide), if_pos rfl]; exact decide_eq_true (by omega)) (rit_k16c f t n s r p c w (by omega) (by omega) (by omega) (by omega) (by omega) (by omega) (by omega) (by omega) h6 d e)
          · exact no (by rw [A, if_neg (by decide), if_neg (by decide), if_neg (by decide), if_pos rfl]; exact decide_eq_false (by omega)) (rit_k16d f t n s r p c w (by omega) (by omega) (by omega) (by omega) (by omega) (by omega) (by omega) (by omega) h6 d e)
        · exact no (by rw [A, if_neg (by decide), if_neg (by decide), if_neg (by decide), if_pos rfl]; exact decide_eq_false (by omega)) (rit_k16b f t n s r p c w (by omega) (by omega) (by omega) (by omega) (by omega) (by omega) (by omega) (by omega) h6 d)
      · exact no (by rw [A, if_neg (by decide), if_neg (by decide), if_neg (by decide), if_pos rfl]; exact decide_eq_false (by omega)) (rit_k16a f t n s r p o c w (by omega) (by omega) (by omega) (by omega) (by omega) (by omega) (by omega) (by omega) h6 b)
    by_cases b : o = 0
    · subst b
      by_cases d : c = 0
      · subst d
        exact ye (by rw [A, if_neg k17, if_neg k18, if_neg k19, if_neg k16]; exact decide_eq_true (by omega)) (rit_kxc k f t n s r p w (by omega) (by omega) (by omega) (by omega) (by omega) (by omega) (by omega) (by omega) (by omega) (by omega) h6 k17 k18 k19 k16)
      · exact no (by rw [A, if_neg k17, if_neg k18, if_neg k19, if_neg k16]; exact decide_eq_false (by omega)) (rit_kxb k f t n s r p c w (by omega) (by omega) (by omega) (by omega) (by omega) (by omega) (by omega) (by omega) (by omega) (by omega) h6 k17 k18 k19 k16 d)
    · exact no (by rw [A, if_neg k17, if_neg k18, if_neg k19, if_neg k16]; exact decide_eq_false (by omega)) (rit_kxa k f t n s r p o c w (by omega) (by omega) (by omega) (by omega) (by omega) (by omega) (by omega) (by omega) (by omega) (by omega) h6 k17 k18 k19 k16 b)
end Go.Proofs.YtfginhckeogafaaDoor

