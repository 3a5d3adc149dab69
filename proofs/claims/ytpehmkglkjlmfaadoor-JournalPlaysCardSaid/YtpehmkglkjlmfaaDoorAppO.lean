/-
  append OF BYTES (own work): what it answers lies in the block that there was, or in a new one.
-/
import Derived.Test.YtpehmkglkjlmfaaDoorAppB
import Derived.Test.YtpehmkglkjlmfaaDoorKp
import Derived.ArgAppend
import Derived.OwnWalk
import Derived.Laws.OwnMore
namespace Go.Proofs.YtpehmkglkjlmfaaDoor
open Go.RowKit

theorem grown_any {w w' : World} {r : Option Nat} (h : w.grownBy w' none) : w.grownBy w' r := ⟨h.os, h.tape, h.output, h.size, fun k hk _ => h.block k hk (by simp)⟩
theorem own_blk {w : World} {base n : Nat} {e : TypeId} {v : Value} {xs : List Value} (h : w.ownsRow base e 1 v n xs) {b : Nat} (hb : v.ownBlock = some b) : base ≤ b := by
  rcases h.2 with ⟨rfl, _⟩ | ⟨g, cap, cur, rfl, hg, _⟩
  · simp [Value.ownBlock] at hb
  · simp [Value.ownBlock] at hb; omega
set_option maxRecDepth 100000 in
theorem wpList_append_blk (w : World) {ops : Array Oper} {rest : List Oper} {o : Oper} {a : Act} {Q : Exit → Act → World → Prop} (hgd : o.guard = none) (s x : Operand)
    (ho : o.op = .call { callee := .builtin .append, args := #[s, x], argTypes := #[46, 46] })
    (base : Nat) (v : Value) (n : Nat) (xs : List Value) (hs : a.eval s = v) (hown : w.ownsRow base 5 1 v n xs)
    (ao : Option Addr) (m c : Nat) (bs : List Int) (hx : a.eval x = .slice ao m c) (hb : SlB (.slice ao m c) bs w) (h63 : n + m ≤ 1000000) (hbase : base ≤ w.heap.size)
    (h : ∀ v' w', w'.ownsRow base 5 1 v' (n + m) (xs ++ bs.map (Value.int .u8)) → w.grownBy w' v.ownBlock → (∀ b, v'.ownBlock = some b → v.ownBlock = some b ∨ w.heap.size ≤ b) → wpList Tryd.prog ops Q rest (a.put o.dst v') w') : wpList Tryd.prog ops Q (o :: rest) a w := by
  obtain ⟨i0, hi, hz0, hz1, hz2⟩ := info_parts info_byte
  have hlen := hb.len
  cases ao with
  | none =>
    obtain ⟨rfl, rfl⟩ := hb.app.1 rfl
    have hbs : bs = [] := List.length_eq_zero_iff.1 hlen
    subst hbs
    exact wpList_append_own_none hgd s x 46 ho base 5 i0 1 Tryd.underlying46 hi v n xs hs hown hx (h v w (by simpa using hown) ⟨rfl, rfl, rfl, Nat.le_refl _, fun _ _ _ => rfl⟩ (fun b q => .inl q))
  | some ad =>
    have hl1 : (bs.map (Value.int .u8)).length = m * 1 := by rw [List.length_map, hlen, Nat.mul_one]
    rcases hown.2 with ⟨rfl, rfl⟩ | ⟨g, cap, cur, rfl, hg, hh, hnc, hcm, hcs, htk⟩
    · have hxs : xs = [] := List.length_eq_zero_iff.1 (by simpa using hown.1)
      subst hxs
      refine wpList_append_own w hgd s x 46 ho w.heap.size 5 i0 (.int .u8 0) 1 1 Tryd.underlying46 hi hz0 hz1 hz2 rfl (by decide) (.slice none 0 0) 0 [] hs (World.ownsRow_nil w _ _ _) ad m c (bs.map (Value.int .u8)) hx hl1 (hb.app.2 ad rfl) (bytes_one bs) (by unfold maxLen; omega) (by omega) (Nat.le_refl _) ?_
      intro v' w' h1 h2 _
      exact h v' w' (own_mono h1 hbase) h2 (fun b q => .inr (own_blk h1 q))
    · by_cases hfit : n + m ≤ cap
      · refine wpList_append_fits w hgd s x 46 ho base 5 i0 1 Tryd.underlying46 hi hz1 g n cap xs hs hown ad m c (bs.map (Value.int .u8)) hx hl1 (hb.app.2 ad rfl) (bytes_one bs) hfit ?_
        intro w' h1 h2
        exact h _ w' h1 h2 (fun b q => .inl q)
      · have holds : ∀ b, (some ⟨g, 0, none⟩ : Option Addr) = some b → ∀ j u, xs[j]? = some u → w.cell? (b.add j) = some u := by
          intro b e j u hj
          injection e with e
          subst e
          have hj2 : j < n * 1 := by
            have := (List.getElem?_eq_some_iff.1 hj).1
            have h1 := hown.1
            omega
          have := hown.cellAt j hj2
          rw [Addr.add_lit, Nat.zero_add, this]
          exact hj
        refine wpList_append_grows w hgd s x 46 ho 5 i0 (.int .u8 0) 1 1 Tryd.underlying46 hi hz0 hz1 hz2 rfl (by decide) (some ⟨g, 0, none⟩) n cap xs hs (fun e => by cases e) hown.1 holds ad m c (bs.map (Value.int .u8)) hx hl1 (hb.app.2 ad rfl) (bytes_one bs) (by omega) (by unfold maxLen; omega) (by omega) ?_
        intro v' w' h1 h2
        exact h v' w' (own_mono h1 hbase) (grown_any h2) (fun b q => .inr (own_blk h1 q))
end Go.Proofs.YtpehmkglkjlmfaaDoor
