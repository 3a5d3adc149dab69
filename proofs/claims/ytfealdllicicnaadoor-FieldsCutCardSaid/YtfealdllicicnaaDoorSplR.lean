/-
  liaisonref03.Split (own work): what the bytes say; rows of fields of the call's own.
-/
import Derived.Test.YtfealdllicicnaaDoorSplQ
namespace Go.Proofs.YtfealdllicicnaaDoor
open Go.RowKit Go.ChangeShapes Go.WideShapes

/-- WHAT THE BYTES SAY: the error's number, the fields; from the bytes bs on, the tag before: last, fields before: k. -/
def splitQ : Nat → List Int → Int → Nat → Int × List (Int × List Int)
  | 0, _, _, _ => (4, [])
  | f + 1, bs, last, k =>
    if bs.length = 0 then (0, [])
    else if bs.length < 3 then (2, [])
    else if bs.getD 0 0 ≤ last ∨ 200 < bs.getD 1 0 * 256 + bs.getD 2 0 ∨ k = 16 then (4, [])
    else if (bs.length : Int) - 3 < bs.getD 1 0 * 256 + bs.getD 2 0 then (2, [])
    else
      let r := splitQ f (bs.drop (3 + (bs.getD 1 0 * 256 + bs.getD 2 0).toNat)) (bs.getD 0 0) (k + 1)
      (r.1, (bs.getD 0 0, (bs.drop 3).take (bs.getD 1 0 * 256 + bs.getD 2 0).toNat) :: r.2)

/-- An append of the call's own row turns no block of another type; whatever the size. -/
theorem row_grows {w w' : World} {base n size : Nat} {e : TypeId} {v : Value} {xs : List Value} (hown : w.ownsRow base e size v n xs) (hgr : w.grownBy w' v.ownBlock) (b : Nat) (c : Array Value) (t : TypeId) (hb : w.heap[b]? = some (.cells c t (0, 0))) (ht : t ≠ e) :
    w'.heap[b]? = some (.cells c t (0, 0)) := by
  obtain ⟨-, hr⟩ := hown
  rcases hr with ⟨rfl, -⟩ | ⟨g, cap, cur, rfl, hg, hh, -⟩
  · rw [hgr.block b (old_of_row hb) (by simp [Value.ownBlock])]
    exact hb
  · rw [hgr.block b (old_of_row hb) ?_]
    · exact hb
    · intro q
      have : b = g := by simp [Value.ownBlock] at q; omega
      subst this
      rw [hh] at hb
      injection hb with hb
      injection hb with _ h2 _
      exact ht h2.symm
theorem own_grows {w w' : World} {base base' n m size : Nat} {e t : TypeId} {v d : Value} {xs ys : List Value} (hown : w.ownsRow base e size v n xs) (hgr : w.grownBy w' v.ownBlock) (hd : w.ownsRow base' t 1 d m ys) (ht : t ≠ e) : w'.ownsRow base' t 1 d m ys := by
  obtain ⟨h1, h2⟩ := hd
  refine ⟨h1, ?_⟩
  rcases h2 with h2 | ⟨g, cap, cur, hv, hg, hh, r⟩
  · exact Or.inl h2
  · exact Or.inr ⟨g, cap, cur, hv, hg, row_grows hown hgr g cur t hh ht, r⟩
theorem rows_kp {w0 w w' : World} {n size : Nat} {e : TypeId} {v : Value} {xs : List Value} (hown : w.ownsRow w0.heap.size e size v n xs) (hgr : w.grownBy w' v.ownBlock) (hk : Kp w0 w) : Kp w0 w' := by
  obtain ⟨-, hr⟩ := hown
  rcases hr with ⟨rfl, -⟩ | ⟨g, cap, cur, rfl, hg, hh, -⟩
  · exact Below.grown hk hgr (Below.size hk) (fun k hk' => by simp [Value.ownBlock] at hk')
  · exact Below.grown hk hgr (Below.size hk) (fun k hk' => by simp [Value.ownBlock] at hk'; omega)
theorem own_empty2 (w : World) (e : TypeId) (size : Nat) : (w.alloc (.cells #[] e)).ownsRow w.heap.size e size (.slice (some ⟨w.heap.size, 0, none⟩) 0 0) 0 [] :=
  ⟨by simp, Or.inr ⟨w.heap.size, 0, #[], rfl, Nat.le_refl _, (MapKept.heap_alloc w _).1, Nat.le_refl _, by omega, by simp, by simp⟩⟩

/-- a field with the value of its data; the cells of such; the field -/
def cellQ (g : Int × List Int × Value) : List Value := [.int .i64 g.1, g.2.2]
def fldQ (g : Int × List Int × Value) : Int × List Int := (g.1, g.2.1)
theorem cellQ_at : ∀ (gs : List (Int × List Int × Value)) (j : Nat) (hj : j < gs.length), (gs.flatMap cellQ)[2 * j]? = some (.int .i64 gs[j].1) ∧ (gs.flatMap cellQ)[2 * j + 1]? = some gs[j].2.2
  | g :: gs, 0, _ => by simp [cellQ]
  | g :: gs, j + 1, hj => by
    have h := cellQ_at gs j (by simpa using hj)
    have e : 2 * (j + 1) = 2 * j + 2 := by omega
    have e2 : 2 * (j + 1) + 1 = 2 * j + 1 + 2 := by omega
    rw [e2, e]
    simpa [cellQ] using h
theorem cellQ_len (gs : List (Int × List Int × Value)) : (gs.flatMap cellQ).length = gs.length * 2 := by
  induction gs with
  | nil => rfl
  | cons g gs ih => rw [List.flatMap_cons, List.length_append, ih]; simp [cellQ]; omega
/-- THE DATA ARE ROWS OF THE CALL's OWN. -/
def OwnD (base : Nat) (gs : List (Int × List Int × Value)) (w : World) : Prop := ∀ g ∈ gs, w.ownsRow base 5 1 g.2.2 g.2.1.length (g.2.1.map (Value.int .u8)) ∧ InB g.2.1
theorem OwnD.kp {base : Nat} {gs : List (Int × List Int × Value)} {w w' : World} (h : OwnD base gs w) (hk : Kp w w') : OwnD base gs w' := fun g hg => ⟨own_kp (h g hg).1 hk, (h g hg).2⟩
theorem OwnD.grows {base b' n : Nat} {gs : List (Int × List Int × Value)} {w w' : World} {v : Value} {xs : List Value} (h : OwnD base gs w) (hown : w.ownsRow b' 63 2 v n xs) (hgr : w.grownBy w' v.ownBlock) : OwnD base gs w' :=
  fun g hg => ⟨own_grows hown hgr (h g hg).1 (by decide), (h g hg).2⟩
theorem own_slq {base base' n : Nat} {gs : List (Int × List Int × Value)} {w : World} {v : Value} (hn : gs.length = n) (h : w.ownsRow base 63 2 v n (gs.flatMap cellQ)) (hd : OwnD base' gs w) : SlQ v (gs.map fldQ) w := by
  subst hn
  obtain ⟨h1, h2⟩ := h
  rcases h2 with ⟨rfl, hn⟩ | ⟨g, cap, cur, rfl, hg, hh, hc, hm, hs, ht⟩
  · left
    have : gs = [] := List.length_eq_zero_iff.1 (by omega)
    subst this
    exact ⟨rfl, none, 0, rfl, fun _ => rfl⟩
  · by_cases h0 : gs.length = 0
    · left
      have : gs = [] := List.length_eq_zero_iff.1 h0
      subst this
      exact ⟨rfl, _, cap, rfl, fun h => by cases h⟩
    · right
      refine ⟨g, 0, cap, by simp; omega, by simp, fun j hj => ?_⟩
      have hj' : j < gs.length := by simpa using hj
      obtain ⟨q0, q1⟩ := cellQ_at gs j hj'
      rw [← ht] at q0 q1
      rw [List.getElem?_take, if_pos (by omega)] at q0 q1
      obtain ⟨d1, d2⟩ := hd gs[j] (List.getElem_mem _)
      have hsl := own_slb d1
      obtain ⟨a', c', he⟩ := hsl.form
      refine ⟨?_, gs[j].2.2, ?_, a', c', ?_, ?_, ?_⟩
      · unfold World.cell?
        dsimp only
        rw [hh]
        simp only [Option.isSome_none, Bool.false_eq_true, if_false, Nat.zero_add, Nat.mul_comm j 2]
        simpa [fldQ] using q0
      · unfold World.cell?
        dsimp only
        rw [hh]
        simp only [Option.isSome_none, Bool.false_eq_true, if_false, Nat.zero_add, Nat.mul_comm j 2]
        simpa using q1
      · simpa [fldQ] using he
      · simp only [List.getElem_map, fldQ]
        rw [← he]
        exact hsl
      · simpa [fldQ] using d2
theorem info_fieldT : (Tryd.prog.info? 63).map (fun i => (i.zero, i.size, i.bytes)) = some (some (.agg #[.int .i64 0, .slice none 0 0]), 2, 32) := by kernel_rfl
end Go.Proofs.YtfealdllicicnaaDoor
