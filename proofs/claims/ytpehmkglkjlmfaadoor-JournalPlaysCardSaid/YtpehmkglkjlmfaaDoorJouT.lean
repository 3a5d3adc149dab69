/-
  TWO JOURNALS, EACH ON ITS TAPE; BOXES OF ROWS AND OPS (own work).
-/
import Derived.Test.YtpehmkglkjlmfaaDoorJouL
import Derived.Test.YtpehmkglkjlmfaaDoorSlJ
import Derived.Test.YtpehmkglkjlmfaaDoorJal7
namespace Go.Proofs.YtpehmkglkjlmfaaDoor
open Go.RowKit

variable {ads : List Addr} {R : Nat → TM → (Nat → Prop) → World → Prop} {J : Nat → Nat → JM → (Nat → Prop) → World → Prop} {W w w' : World} {q g q2 g2 : Nat} {j j' j2 : JM} {m m' m2 : TM} {OJ OJ' O O' OJ2 O2 P P' : Nat → Prop}

/-- whatever changes blocks apart from a journal's -/
theorem JT.apart (T : TapC ads W R) (C : JouC ads W R J) (h : JT R J W q g j m OJ O w) (ha : Asd P P' w w') (hP : ∀ b, P b → W.heap.size ≤ b) (hd : ∀ b, Un OJ O b → ¬ P b) : JT R J W q g j m OJ O w' :=
  h.keep T C (ha.kp h.kW hP) ha.size (fun b hb => ha.block b (h.mem T C b hb).2 (hd b hb))
theorem JT.dis2 (T : TapC ads W R) (C : JouC ads W R J) (h : JT R J W q g j m OJ O w) (ha : Asd P P' w w') (hd : ∀ b, Un OJ O b → ¬ P b) : ∀ b, Un OJ O b → ¬ P' b := fun b hb hp => by
  rcases ha.own b hp with p | p
  · exact hd b hb p
  · have := (h.mem T C b hb).2; omega

/-- one row in a box -/
theorem box_one {b n c cb : Nat} {a : Option Addr} {x : List Int} {t : TypeId} (hx : SlB (.slice a n c) x w) (hn : x.length = n) (i1 : InB x) (h : w.heap[b]? = some (.cells #[.slice a n c] t)) : SlBB (.slice (some ⟨b, 0, none⟩) 1 cb) [x] w := by
  subst hn
  refine .inr ⟨b, 0, cb, by simp, rfl, fun j hj => ?_⟩
  obtain rfl : j = 0 := by simpa using hj
  refine ⟨a, c, ?_, hx, i1⟩
  unfold World.cell?
  dsimp only
  rw [h]
  rfl
theorem sfe_one {n c : Nat} {a : Option Addr} {x : List Int} {t : TypeId} (hx : SlB (.slice a n c) x W) (hn : x.length = n) (i1 : InB x) (hk : Kp W w) (hP : ∀ b, P b → W.heap.size ≤ b ∧ b < w.heap.size) :
    Sfe P (.slice (some ⟨w.heap.size, 0, none⟩) 1 1) [x] (w.alloc (.cells #[.slice a n c] t)) := fun w2 ha => by
  have hr : (w.alloc (.cells #[.slice a n c] t)).heap[w.heap.size]? = some (.cells #[.slice a n c] t) := (MapKept.heap_alloc w _).1
  refine box_one (w := w2) (hx.kp ?_) hn i1 ((ha.block _ (old_of_row hr) (fun q => by have := (hP _ q).2; omega)).trans hr)
  exact ha.kp (Kp.trans hk (kp_alloc _ _)) (fun b hb => (hP b hb).1)

/-- an op, and two, in a box -/
theorem opj_cells {b off : Nat} {rs : List (List Int)} {n c : Nat} {a : Option Addr} (k : w.cell? ⟨b, off, none⟩ = some (.int .i64 0)) (n' : w.cell? ⟨b, off + 1, none⟩ = some (.int .i64 0)) (d : w.cell? ⟨b, off + 2, none⟩ = some (.slice a n c)) (hn : rs.length = n) (hs : SlBB (.slice a n c) rs w) : OpJC (0, 0, rs) b off w := by
  subst hn
  exact ⟨k, n', ⟨a, c, d, hs⟩, by show -9223372036854775808 ≤ (0 : Int); decide, by show (0 : Int) ≤ 9223372036854775807; decide⟩
theorem slj_one {rs : List (List Int)} {n c : Nat} {a : Option Addr} {t : TypeId} {fr : Nat × Nat} (hs : SlBB (.slice a n c) rs w) (hn : rs.length = n) :
    SlJ (.slice (some ⟨w.heap.size, 0, none⟩) 1 1) [(0, 0, rs)] (w.alloc (.cells #[.int .i64 0, .int .i64 0, .slice a n c] t fr)) := by
  refine ⟨_, 1, rfl, fun j hj => ?_⟩
  obtain rfl : j = 0 := by simpa using hj
  have hr := (MapKept.heap_alloc w (.cells #[.int .i64 0, .int .i64 0, .slice a n c] t fr)).1
  refine ⟨w.heap.size, 0, rfl, opj_cells ?_ ?_ ?_ hn (hs.kp (kp_alloc _ _))⟩
  · unfold World.cell?; dsimp only; rw [hr]; rfl
  · unfold World.cell?; dsimp only; rw [hr]; rfl
  · unfold World.cell?; dsimp only; rw [hr]; rfl
theorem slj_two {rs rs2 : List (List Int)} {n c n2 c2 : Nat} {a a2 : Option Addr} {t : TypeId} {fr : Nat × Nat} (hs : SlBB (.slice a n c) rs w) (hn : rs.length = n) (hs2 : SlBB (.slice a2 n2 c2) rs2 w) (hn2 : rs2.length = n2) :
    SlJ (.slice (some ⟨w.heap.size, 0, none⟩) 2 2) [(0, 0, rs), (0, 0, rs2)] (w.alloc (.cells #[.int .i64 0, .int .i64 0, .slice a n c, .int .i64 0, .int .i64 0, .slice a2 n2 c2] t fr)) := by
  refine ⟨_, 2, rfl, fun j hj => ?_⟩
  have hr := (MapKept.heap_alloc w (.cells #[.int .i64 0, .int .i64 0, .slice a n c, .int .i64 0, .int .i64 0, .slice a2 n2 c2] t fr)).1
  have hj2 : j < 2 := hj
  match j, hj2 with
  | 0, _ =>
    refine ⟨w.heap.size, 0, rfl, opj_cells ?_ ?_ ?_ hn (hs.kp (kp_alloc _ _))⟩
    · unfold World.cell?; dsimp only; rw [hr]; rfl
    · unfold World.cell?; dsimp only; rw [hr]; rfl
    · unfold World.cell?; dsimp only; rw [hr]; rfl
  | 1, _ =>
    refine ⟨w.heap.size, 0, rfl, opj_cells ?_ ?_ ?_ hn2 (hs2.kp (kp_alloc _ _))⟩
    · unfold World.cell?; dsimp only; rw [hr]; rfl
    · unfold World.cell?; dsimp only; rw [hr]; rfl
    · unfold World.cell?; dsimp only; rw [hr]; rfl
theorem lg_one {rs : List (List Int)} (h : Lg7 [(0, 0, rs)]) : LgR rs := h.2 0 (by simp)
theorem lg_two {rs rs2 : List (List Int)} (h : Lg7 [(0, 0, rs), (0, 0, rs2)]) : LgR rs ∧ LgR rs2 := ⟨h.2 0 (by simp), h.2 1 (by simp)⟩
theorem lgr_len {rs : List (List Int)} (h : LgR rs) {r : List Int} (hr : r ∈ rs) : r.length ≤ 300 := by
  obtain ⟨j, hj, rfl⟩ := List.getElem_of_mem hr
  exact h.2 j hj
theorem lgr_all {rs : List (List Int)} (h : LgR rs) (ho : okRs rs) : (allF rs).length ≤ 2060 := by
  have := allF_le ho
  have := h.1
  omega
theorem slbb_in {v : Value} {rs : List (List Int)} (h : SlBB v rs w) : ∀ r ∈ rs, InB r := fun r hr => by
  obtain ⟨j, hj, rfl⟩ := List.getElem_of_mem hr
  obtain ⟨a, cap, rfl⟩ := h.form
  obtain ⟨_, _, _, _, _, _, _, h⟩ := h.at j hj
  exact h
end Go.Proofs.YtpehmkglkjlmfaaDoor
