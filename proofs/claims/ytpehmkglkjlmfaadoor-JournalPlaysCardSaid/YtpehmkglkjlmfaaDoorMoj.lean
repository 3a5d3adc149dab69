/-
  THE DOCUMENT's JOURNAL IN MEMORY (own work).
-/
import Derived.Test.YtpehmkglkjlmfaaDoorRed7
import Derived.Test.YtpehmkglkjlmfaaDoorRef6
import Derived.Test.YtpehmkglkjlmfaaDoorJouL
import Derived.Deep.RegionHeld3
namespace Go.Proofs.YtpehmkglkjlmfaaDoor
open Go.RowKit Go.ChangeShapes Go.WideShapes

theorem slb_heap {v : Value} {bs : List Int} {w w2 : World} (h : SlB v bs w) (hb : ∀ b, b < w.heap.size → w2.heap[b]? = w.heap[b]?) : SlB v bs w2 := by
  rcases h with h | ⟨b, off, cap, h0, h1, h2⟩
  · exact .inl h
  · refine .inr ⟨b, off, cap, h0, h1, fun j hj => ?_⟩
    have hc := h2 j hj
    have e := hb b (old_of_cell hc)
    unfold World.cell? at hc ⊢
    dsimp only at hc ⊢
    rw [e]
    exact hc
theorem vals_heap {us : List Value} {rs : List (List Int)} {w w2 : World} (h : Vals us rs w) (hb : ∀ b, b < w.heap.size → w2.heap[b]? = w.heap[b]?) : Vals us rs w2 :=
  ⟨h.1, fun j hj => by obtain ⟨a, c, h1, h2, h3⟩ := h.2 j hj; exact ⟨a, c, h1, slb_heap h2 hb, h3⟩⟩

/-- THE DOCUMENT's JOURNAL: its block gq, its rows' row v; the rows' bytes in E's blocks or older than B. -/
structure MoJ0 (B gq gm : Nat) (j : JM) (v : Value) (us : List Value) (E : Nat → Prop) (w : World) : Prop where
  row : w.heap[gq]? = some (.cells #[.pointer (some ⟨gm, 0, none⟩), v, .bool j.dead] 50 (0, 0))
  own : w.ownsRow B 46 1 v j.rows.length us
  val : ValE (fun b => b < B ∨ E b) us j.rows w
  lt : ∀ b, E b → B ≤ b ∧ b < w.heap.size ∧ v.ownBlock ≠ some b ∧ b ≠ gq
  ne : v.ownBlock ≠ some gq
  gB : B ≤ gq
def OMo (gq : Nat) (v : Value) (E : Nat → Prop) : Nat → Prop := fun b => b = gq ∨ v.ownBlock = some b ∨ E b
def MoJ (B gq gm : Nat) (j : JM) (OM : Nat → Prop) (w : World) : Prop := ∃ v us E, MoJ0 B gq gm j v us E w ∧ OM = OMo gq v E
variable {B gq gm : Nat} {j j' : JM} {v : Value} {us : List Value} {E : Nat → Prop} {OM OM' : Nat → Prop} {w w' : World}
theorem MoJ0.c0 (h : MoJ0 B gq gm j v us E w) : w.cell? ⟨gq, 0, none⟩ = some (.pointer (some ⟨gm, 0, none⟩)) := by unfold World.cell?; dsimp only; rw [h.row]; rfl
theorem MoJ0.c1 (h : MoJ0 B gq gm j v us E w) : w.cell? ⟨gq, 1, none⟩ = some v := by unfold World.cell?; dsimp only; rw [h.row]; rfl
theorem MoJ0.c2 (h : MoJ0 B gq gm j v us E w) : w.cell? ⟨gq, 2, none⟩ = some (.bool j.dead) := by unfold World.cell?; dsimp only; rw [h.row]; rfl
theorem MoJ0.z (h : MoJ0 B gq gm j v us E w) (i : Nat) : w.frozen? ⟨gq, i, none⟩ = false := by unfold World.frozen?; dsimp only; rw [h.row]; simp
theorem MoJ0.mem (h : MoJ0 B gq gm j v us E w) : ∀ b, OMo gq v E b → B ≤ b ∧ b < w.heap.size := fun b hb => by
  rcases hb with rfl | hb | hb
  · exact ⟨h.gB, old_of_row h.row⟩
  · exact ⟨own_blk h.own hb, own_lt2 h.own hb⟩
  · exact ⟨(h.lt b hb).1, (h.lt b hb).2.1⟩
theorem MoJ0.stay (h : MoJ0 B gq gm j v us E w) (hs : w.heap.size ≤ w'.heap.size) (hb : ∀ b, b < B ∨ OMo gq v E b → w'.heap[b]? = w.heap[b]?) : MoJ0 B gq gm j v us E w' :=
  ⟨(hb gq (.inr (.inl rfl))).trans h.row, own_stay2 h.own (fun b q => hb b (.inr (.inr (.inl q)))), h.val.to (fun b q => hb b (q.imp id (fun p => .inr (.inr p)))), fun b q => ⟨(h.lt b q).1, Nat.lt_of_lt_of_le (h.lt b q).2.1 hs, (h.lt b q).2.2⟩, h.ne, h.gB⟩
theorem MoJ.mem (h : MoJ B gq gm j OM w) : ∀ b, OM b → B ≤ b ∧ b < w.heap.size := by
  obtain ⟨v, us, E, h, rfl⟩ := h
  exact h.mem
theorem MoJ.stay (h : MoJ B gq gm j OM w) (hs : w.heap.size ≤ w'.heap.size) (hb : ∀ b, b < B ∨ OM b → w'.heap[b]? = w.heap[b]?) : MoJ B gq gm j OM w' := by
  obtain ⟨v, us, E, h, rfl⟩ := h
  exact ⟨v, us, E, h.stay hs hb, rfl⟩
theorem MoJ0.dead (h : MoJ0 B gq gm j v us E w) : MoJ0 B gq gm { j with dead := true } v us E (w.setCell ⟨gq, 2, none⟩ (.bool true)) := by
  have hb : ∀ b, b ≠ gq → (w.setCell ⟨gq, 2, none⟩ (.bool true)).heap[b]? = w.heap[b]? := fun b hn => Below.heap_setCell _ _ _ _ (fun q => hn q)
  refine ⟨(Joins.block_setCell h.row _).trans rfl, own_stay2 h.own (fun b q => hb b (fun e => h.ne (by rw [← e]; exact q))), h.val.to (fun b q => hb b (fun e => by rcases q with q | q; have := h.gB; omega; exact (h.lt b q).2.2.2 e)), fun b q => ?_, h.ne, h.gB⟩
  have := h.lt b q
  exact ⟨this.1, by simpa using this.2.1, this.2.2⟩
/-- its rows are others now: v2 in place of v -/
theorem MoJ0.put (h : MoJ0 B gq gm j v us E w) {w2 : World} {v2 : Value} {us2 : List Value} {rs : List (List Int)} {E2 : Nat → Prop} (hs : w.heap.size ≤ w2.heap.size) (hq : w2.heap[gq]? = w.heap[gq]?) (hown : w2.ownsRow B 46 1 v2 rs.length us2) (hval : ValE (fun b => b < B ∨ E2 b) us2 rs w2) (hE : ∀ b, E2 b → B ≤ b ∧ b < w2.heap.size ∧ v2.ownBlock ≠ some b ∧ b ≠ gq) (hne : v2.ownBlock ≠ some gq) (hd : j.dead = false) :
    MoJ0 B gq gm ⟨rs, false⟩ v2 us2 E2 (w2.setCell ⟨gq, 1, none⟩ v2) := by
  have _u := hs
  clear _u
  have hb : ∀ b, b ≠ gq → (w2.setCell ⟨gq, 1, none⟩ v2).heap[b]? = w2.heap[b]? := fun b hn => Below.heap_setCell _ _ _ _ (fun q => hn q)
  refine ⟨(Joins.block_setCell (hq.trans h.row) _).trans (by rw [hd]; rfl), own_stay2 hown (fun b q => hb b (fun e => hne (by rw [← e]; exact q))), hval.to (fun b q => hb b (fun e => by rcases q with q | q; have := h.gB; omega; exact (hE b q).2.2.2 e)), fun b q => ?_, hne, h.gB⟩
  have := hE b q
  exact ⟨this.1, by simpa using this.2.1, this.2.2⟩
end Go.Proofs.YtpehmkglkjlmfaaDoor
