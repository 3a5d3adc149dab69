/-
  OLD MEMORY KEPT (own work): boxes, rows of the call's own, whatever the program's functions.
-/
import Derived.Test.YtanbeaebdingeaaDoorErr
import Derived.ArgAppend
import Derived.OwnWalk
import Derived.LoopTactic
import Derived.RegionTactic
import Derived.ChangeAlike
import Derived.Laws.EntriesVeiled
namespace Go.Proofs.YtanbeaebdingeaaDoor
open Go.RowKit

/-- OLD MEMORY IS AS IT WAS. -/
def Kp (w w' : World) : Prop := Below w.heap.size w w'
theorem Kp.refl (w : World) : Kp w w := Below.refl _ _
theorem Kp.trans {a b c : World} (h : Kp a b) (k : Kp b c) : Kp a c := Below.trans h (Below.mono k h.size)
theorem Kp.of_eq {a b : World} (h : a = b) : Kp a b := h ▸ Kp.refl _
theorem Kp.errs {gs : List Nat} {ads : List Addr} {w w' : World} (h : Kp w w') (E : Errs gs ads w) : Errs gs ads w' := E.below h
theorem Kp.drew {a b : World} (h : Kp a b) : Kp a b.drew := Below.drew h
theorem kp_alloc (w : World) (o : Obj) : Kp w (w.alloc o) := (Below.refl _ _).alloc (Nat.le_refl _) _
theorem kp_size {w w' : World} (h : Kp w w') : w.heap.size ≤ w'.heap.size := Below.size h

theorem old_of_cell {w : World} {q : Addr} {v : Value} (hq : w.cell? q = some v) : q.block < w.heap.size := by
  rcases Nat.lt_or_ge q.block w.heap.size with g | g
  · exact g
  · simp [World.cell?, Array.getElem?_eq_none g] at hq
theorem old_of_row {w : World} {b : Nat} {o : Obj} (h : w.heap[b]? = some o) : b < w.heap.size := by
  rcases Nat.lt_or_ge b w.heap.size with g | g
  · exact g
  · simp [Array.getElem?_eq_none g] at h
theorem kp_cell {w w' : World} {q : Addr} {v : Value} (h : Kp w w') (hc : w.cell? q = some v) : w'.cell? q = some v := by
  rw [Below.cell h (old_of_cell hc)]; exact hc
theorem kp_frozen {w w' : World} {q : Addr} {v : Value} (h : Kp w w') (hc : w.cell? q = some v) (hz : w.frozen? q = false) : w'.frozen? q = false := by
  rw [Below.frozen h (old_of_cell hc)]; exact hz
theorem kp_row {w w' : World} {b : Nat} {o : Obj} (h : Kp w w') (hr : w.heap[b]? = some o) : w'.heap[b]? = some o := by
  rw [Below.block h b (old_of_row hr)]; exact hr

theorem box_cell (w : World) (u : Value) (t : TypeId) : (w.alloc (.cells #[u] t)).cell? ⟨w.heap.size, 0, none⟩ = some u := by
  have e : (w.alloc (.cells #[u] t)).heap[w.heap.size]? = some (.cells #[u] t) := (MapKept.heap_alloc w _).1
  unfold World.cell?
  dsimp only
  rw [e]
  rfl
theorem box_frozen (w : World) (u : Value) (t : TypeId) : (w.alloc (.cells #[u] t)).frozen? ⟨w.heap.size, 0, none⟩ = false := by
  have e : (w.alloc (.cells #[u] t)).heap[w.heap.size]? = some (.cells #[u] t) := (MapKept.heap_alloc w _).1
  unfold World.frozen?
  dsimp only
  rw [e]
  rfl

theorem own_kp {w w' : World} {base : Nat} {e : TypeId} {size n : Nat} {v : Value} {xs : List Value} (h : w.ownsRow base e size v n xs) (hk : Kp w w') : w'.ownsRow base e size v n xs := by
  obtain ⟨h1, h2⟩ := h
  refine ⟨h1, ?_⟩
  rcases h2 with h2 | ⟨g, cap, cur, hv, hg, hh, r⟩
  · exact Or.inl h2
  · exact Or.inr ⟨g, cap, cur, hv, hg, kp_row hk hh, r⟩
theorem own_mono {w : World} {base base' : Nat} {e : TypeId} {size n : Nat} {v : Value} {xs : List Value} (h : w.ownsRow base e size v n xs) (hb : base' ≤ base) : w.ownsRow base' e size v n xs := by
  obtain ⟨h1, h2⟩ := h
  refine ⟨h1, ?_⟩
  rcases h2 with h2 | ⟨g, cap, cur, hv, hg, r⟩
  · exact Or.inl h2
  · exact Or.inr ⟨g, cap, cur, hv, Nat.le_trans hb hg, r⟩
theorem own_empty (w : World) (e : TypeId) : (w.alloc (.cells #[] e)).ownsRow w.heap.size e 1 (.slice (some ⟨w.heap.size, 0, none⟩) 0 0) 0 [] :=
  ⟨by simp, Or.inr ⟨w.heap.size, 0, #[], rfl, Nat.le_refl _, (MapKept.heap_alloc w _).1, Nat.le_refl _, by omega, by simp, by simp⟩⟩
theorem own_form {w : World} {base : Nat} {e : TypeId} {n : Nat} {v : Value} {xs : List Value} (h : w.ownsRow base e 1 v n xs) (hn : v ≠ .slice none 0 0) :
    ∃ g cap cur, v = .slice (some ⟨g, 0, none⟩) n cap ∧ base ≤ g ∧ w.heap[g]? = some (.cells cur e (0, 0)) ∧ n ≤ cap ∧ cap ≤ maxLen ∧ cur.size = cap ∧ cur.toList.take n = xs ∧ xs.length = n := by
  obtain ⟨h1, h2⟩ := h
  obtain ⟨g, cap, cur, a, b, c, d, e', f, i⟩ := h2.resolve_left (fun q => hn q.1)
  exact ⟨g, cap, cur, a, b, c, d, e', by omega, by simpa using i, by omega⟩
/-- An append of the call's own row turns no block of another type. -/
theorem row_grow {w w' : World} {base n : Nat} {e : TypeId} {v : Value} {xs : List Value} (hown : w.ownsRow base e 1 v n xs) (hgr : w.grownBy w' v.ownBlock) (b : Nat) (c : Array Value) (t : TypeId) (hb : w.heap[b]? = some (.cells c t (0, 0))) (ht : t ≠ e) :
    w'.heap[b]? = some (.cells c t (0, 0)) := by
  obtain ⟨-, hr⟩ := hown
  rcases hr with ⟨rfl, -⟩ | ⟨g, cap, cur, rfl, hg, hh, -⟩
  · rw [hgr.block b (old_of_row hb) (by simp [Value.ownBlock])]
    exact hb
  · rw [hgr.block b (old_of_row hb) ?_]
    · exact hb
    · intro q
      have : b = g := by simp [Value.ownBlock] at q; omega
      subst this
      rw [hh] at hb
      injection hb with hb
      injection hb with _ h2 _
      exact ht h2.symm
theorem row_kp {w0 w w' : World} {n : Nat} {e : TypeId} {v : Value} {xs : List Value} (hown : w.ownsRow w0.heap.size e 1 v n xs) (hgr : w.grownBy w' v.ownBlock) (hk : Kp w0 w) : Kp w0 w' := by
  obtain ⟨-, hr⟩ := hown
  rcases hr with ⟨rfl, -⟩ | ⟨g, cap, cur, rfl, hg, hh, -⟩
  · exact Below.grown hk hgr (Below.size hk) (fun k hk' => by simp [Value.ownBlock] at hk')
  · exact Below.grown hk hgr (Below.size hk) (fun k hk' => by simp [Value.ownBlock] at hk'; omega)
end Go.Proofs.YtanbeaebdingeaaDoor
