/-
  append OF BYTES onto a row of the call's own (own work): whatever the slice of bytes, nil too.
-/
import Derived.Test.YtjffkfcokgcenaaDoorSlB
import Derived.Laws.AppendOwnNone
namespace Go.Proofs.YtjffkfcokgcenaaDoor
open Go.RowKit

theorem SlB.len {ao : Option Addr} {m c : Nat} {bs : List Int} {w : World} (hb : SlB (.slice ao m c) bs w) : bs.length = m := by
  rcases hb with ⟨rfl, a', cap, hv, _⟩ | ⟨b, off, cap, _, hv, _⟩
  · injection hv with _ h2 _; rw [h2]; rfl
  · injection hv with _ h2 _; rw [h2]

set_option maxRecDepth 20000 in
theorem wpList_append_slb (w : World) {ops : Array Oper} {rest : List Oper} {o : Oper} {a : Act} {Q : Exit → Act → World → Prop} (hgd : o.guard = none) (s x : Operand)
    (ho : o.op = .call { callee := .builtin .append, args := #[s, x], argTypes := #[33, 33] })
    (base : Nat) (v : Value) (n : Nat) (xs : List Value) (hs : a.eval s = v) (hown : w.ownsRow base 5 1 v n xs)
    (ao : Option Addr) (m c : Nat) (bs : List Int) (hx : a.eval x = .slice ao m c) (hb : SlB (.slice ao m c) bs w) (h63 : n + m ≤ 1000000) (hbase : base ≤ w.heap.size)
    (h : ∀ v' w', w'.ownsRow base 5 1 v' (n + m) (xs ++ bs.map (Value.int .u8)) → w.grownBy w' v.ownBlock → (v ≠ .slice none 0 0 → v' ≠ .slice none 0 0) → wpList Tryd.prog ops Q rest (a.put o.dst v') w') : wpList Tryd.prog ops Q (o :: rest) a w := by
  obtain ⟨i0, hi, hz0, hz1, hz2⟩ := info_parts info_byte
  have hlen := hb.len
  cases ao with
  | none =>
    obtain ⟨rfl, rfl⟩ := hb.app.1 rfl
    have hbs : bs = [] := List.length_eq_zero_iff.1 hlen
    subst hbs
    refine wpList_append_own_none hgd s x 33 ho base 5 i0 1 Tryd.underlying33 hi v n xs hs hown hx (h v w (by simpa using hown) ⟨rfl, rfl, rfl, Nat.le_refl _, fun _ _ _ => rfl⟩ (fun h => h))
  | some ad =>
    refine wpList_append_own w hgd s x 33 ho base 5 i0 (.int .u8 0) 1 1 Tryd.underlying33 hi hz0 hz1 hz2 rfl (by decide) v n xs hs hown ad m c (bs.map (Value.int .u8)) hx (by rw [List.length_map, hlen, Nat.mul_one]) (hb.app.2 ad rfl) (bytes_one bs) (by unfold maxLen; omega) (by omega) hbase ?_
    intro v' w' h1 h2 h3
    exact h v' w' h1 h2 (fun hv hv' => hv (h3.1 hv').1)
end Go.Proofs.YtjffkfcokgcenaaDoor
