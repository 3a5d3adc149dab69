/-
  append OF ONE int (own work): what it answers lies in the block that there was, or in a new one.
-/
import Derived.Test.YtoeidlhcioponaaDoorSlN
import Derived.Laws.OwnMore
import Derived.Test.YtoeidlhcioponaaDoorKp
namespace Go.Proofs.YtoeidlhcioponaaDoor
open Go.RowKit

theorem info_intI : (Tryd.prog.info? 3).map (fun i => (i.zero, i.size, i.bytes)) = some (some (.int .i64 0), 1, 8) := by kernel_rfl
theorem parts_intI : ∃ i0, Tryd.prog.info? 3 = some i0 ∧ i0.zero = some (.int .i64 0) ∧ i0.size = 1 ∧ i0.bytes = 8 := by
  have h := info_intI
  cases g : Tryd.prog.info? 3 with
  | none => rw [g] at h; cases h
  | some i0 =>
    rw [g] at h
    simp only [Option.map_some, Option.some.injEq, Prod.mk.injEq] at h
    exact ⟨i0, rfl, h.1, h.2.1, h.2.2⟩
theorem grown_any {w w' : World} {r : Option Nat} (h : w.grownBy w' none) : w.grownBy w' r := ⟨h.os, h.tape, h.output, h.size, fun j hj _ => h.block j hj (by simp)⟩
theorem own_blk {w : World} {base n : Nat} {e : TypeId} {v : Value} {xs : List Value} (h : w.ownsRow base e 1 v n xs) {b : Nat} (hb : v.ownBlock = some b) : base ≤ b := by
  rcases h.2 with ⟨rfl, _⟩ | ⟨g, cap, cur, rfl, hg, _⟩
  · simp [Value.ownBlock] at hb
  · simp [Value.ownBlock] at hb; omega
theorem own_emptyI (w : World) (e : TypeId) : (w.alloc (.cells #[] e)).ownsRow w.heap.size e 1 (.slice (some ⟨w.heap.size, 0, none⟩) 0 0) 0 [] :=
  ⟨by simp, Or.inr ⟨w.heap.size, 0, #[], rfl, Nat.le_refl _, (MapKept.heap_alloc w _).1, Nat.le_refl _, by omega, by simp, by simp⟩⟩
/-- what another row does leaves a row alone -/
theorem own_asideI {w w' : World} {base n : Nat} {e : TypeId} {v : Value} {xs : List Value} {r : Option Nat} (h : w.ownsRow base e 1 v n xs) (hg : w.grownBy w' r) (hne : ∀ b, v.ownBlock = some b → r ≠ some b) : w'.ownsRow base e 1 v n xs := by
  obtain ⟨h1, h2⟩ := h
  refine ⟨h1, ?_⟩
  rcases h2 with h2 | ⟨g, cap, cur, hv, hb, hh, q⟩
  · exact Or.inl h2
  · refine Or.inr ⟨g, cap, cur, hv, hb, ?_, q⟩
    rw [hg.block g (old_of_row hh) (fun e => hne g (by rw [hv]; rfl) (by rw [e]))]
    exact hh
theorem grown_kpI {w0 w w' : World} {base n : Nat} {e : TypeId} {v : Value} {xs : List Value} (h : w.ownsRow base e 1 v n xs) (hg : w.grownBy w' v.ownBlock) (hk : Kp w0 w) (hb : w0.heap.size ≤ base) : Kp w0 w' :=
  Below.grown hk hg (Below.size hk) (fun _ q => Nat.le_trans hb (own_blk h q))
set_option maxRecDepth 100000 in
theorem wpList_append_int (w : World) {ops : Array Oper} {rest : List Oper} {o : Oper} {a : Act} {Q : Exit → Act → World → Prop} (hgd : o.guard = none) (s x : Operand)
    (ho : o.op = .call { callee := .builtin .append, args := #[s, x], argTypes := #[44, 44] })
    (base : Nat) (v : Value) (n : Nat) (xs : List Value) (hs : a.eval s = v) (hown : w.ownsRow base 3 1 v n xs)
    (ad : Addr) (y : Int) (hx : a.eval x = .slice (some ad) 1 1) (hc : w.cell? (ad.add 0) = some (.int .i64 y)) (h63 : n ≤ 1000000) (hbase : base ≤ w.heap.size)
    (h : ∀ v' w', w'.ownsRow base 3 1 v' (n + 1) (xs ++ [.int .i64 y]) → w.grownBy w' v.ownBlock → (∀ b, v'.ownBlock = some b → v.ownBlock = some b ∨ w.heap.size ≤ b) → wpList Tryd.prog ops Q rest (a.put o.dst v') w') : wpList Tryd.prog ops Q (o :: rest) a w := by
  obtain ⟨i0, hi, hz0, hz1, hz2⟩ := parts_intI
  have hl1 : ([Value.int .i64 y] : List Value).length = 1 * 1 := rfl
  have hcell : ∀ (j : Nat) (u : Value), ([Value.int .i64 y] : List Value)[j]? = some u → w.cell? (ad.add j) = some u := by
    intro j u hj
    match j, hj with
    | 0, hj => simp at hj; subst hj; exact hc
  have hone : ∀ u ∈ ([Value.int .i64 y] : List Value), u.oneCell' = true := by
    intro u hu; simp at hu; subst hu; rfl
  rcases hown.2 with ⟨rfl, rfl⟩ | ⟨g, cap, cur, rfl, hg, hh, hnc, hcm, hcs, htk⟩
  · have hxs : xs = [] := List.length_eq_zero_iff.1 (by simpa using hown.1)
    subst hxs
    refine wpList_append_own w hgd s x 44 ho w.heap.size 3 i0 (.int .i64 0) 1 8 Tryd.underlying44 hi hz0 hz1 hz2 rfl (by decide) (.slice none 0 0) 0 [] hs (World.ownsRow_nil w _ _ _) ad 1 1 [.int .i64 y] hx hl1 hcell hone (by unfold maxLen; omega) (by omega) (Nat.le_refl _) ?_
    intro v' w' h1 h2 _
    exact h v' w' (own_mono h1 hbase) h2 (fun b q => .inr (own_blk h1 q))
  · by_cases hfit : n + 1 ≤ cap
    · refine wpList_append_fits w hgd s x 44 ho base 3 i0 1 Tryd.underlying44 hi hz1 g n cap xs hs hown ad 1 1 [.int .i64 y] hx hl1 hcell hone hfit ?_
      intro w' h1 h2
      exact h _ w' h1 h2 (fun b q => .inl q)
    · have holds : ∀ b, (some ⟨g, 0, none⟩ : Option Addr) = some b → ∀ j u, xs[j]? = some u → w.cell? (b.add j) = some u := by
        intro b e j u hj
        injection e with e
        subst e
        have hj2 : j < n * 1 := by
          have := (List.getElem?_eq_some_iff.1 hj).1
          have h1 := hown.1
          omega
        have := hown.cellAt j hj2
        rw [Addr.add_lit, Nat.zero_add, this]
        exact hj
      refine wpList_append_grows w hgd s x 44 ho 3 i0 (.int .i64 0) 1 8 Tryd.underlying44 hi hz0 hz1 hz2 rfl (by decide) (some ⟨g, 0, none⟩) n cap xs hs (fun e => by cases e) hown.1 holds ad 1 1 [.int .i64 y] hx hl1 hcell hone (by omega) (by unfold maxLen; omega) (by omega) ?_
      intro v' w' h1 h2
      exact h v' w' (own_mono h1 hbase) (grown_any h2) (fun b q => .inr (own_blk h1 q))
end Go.Proofs.YtoeidlhcioponaaDoor
