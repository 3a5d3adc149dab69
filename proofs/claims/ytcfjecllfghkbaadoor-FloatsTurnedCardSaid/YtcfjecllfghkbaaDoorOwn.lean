/-
  AN append WHOSE OLD SLICE IS READ AGAIN (own work): both the old value and the new one read as they should, whether there was room or not.
-/
import Derived.Test.YtcfjecllfghkbaaDoorFz
import Derived.ArgAppend
import Derived.OwnWalk
namespace Go.Proofs.YtcfjecllfghkbaaDoor
open Go.RowKit

theorem own_kp {w w' : World} {base : Nat} {e : TypeId} {size n : Nat} {v : Value} {xs : List Value} (h : w.ownsRow base e size v n xs) (hk : Kp w w') : w'.ownsRow base e size v n xs := by
  obtain ⟨h1, h2⟩ := h
  refine ⟨h1, ?_⟩
  rcases h2 with h2 | ⟨g, cap, cur, hv, hg, hh, r⟩
  · exact Or.inl h2
  · have hlt : g < w.heap.size := by
      rcases Nat.lt_or_ge g w.heap.size with k | k
      · exact k
      · simp [Array.getElem?_eq_none k] at hh
    exact Or.inr ⟨g, cap, cur, hv, hg, by rw [Below.block hk g hlt]; exact hh, r⟩

theorem own_mono {w : World} {base base' : Nat} {e : TypeId} {size n : Nat} {v : Value} {xs : List Value} (h : w.ownsRow base e size v n xs) (hb : base' ≤ base) : w.ownsRow base' e size v n xs := by
  obtain ⟨h1, h2⟩ := h
  refine ⟨h1, ?_⟩
  rcases h2 with h2 | ⟨g, cap, cur, hv, hg, r⟩
  · exact Or.inl h2
  · exact Or.inr ⟨g, cap, cur, hv, Nat.le_trans hb hg, r⟩

/-- 'append(v, x)', v a slice of one-cell elements of the call's own that is not nil: behind it the old value reads as it did, the new one reads one longer, and below 'base' all is as it was. -/
theorem wpList_append_twice {P : Program} (w : World) {ops : Array Oper} {rest : List Oper} {o : Oper} {a : Act} {Q : Exit → Act → World → Prop}
    (hg : o.guard = none) (s x : Operand) (t : TypeId) (hop : o.op = Op.call { callee := Callee.builtin Builtin.append, args := #[s, x], argTypes := #[t, t] })
    (base : Nat) (e : TypeId) (i : TypeInfo) (z : Value) (bytes : Nat) (h1 : P.underlying t = some (.slice e)) (h2 : P.info? e = some i) (h3 : i.zero = some z) (h4 : i.size = 1) (h5 : i.bytes = bytes) (h6 : z.cells.size = 1)
    (v : Value) (n : Nat) (xs : List Value) (hs : a.eval s = v) (hown : w.ownsRow base e 1 v n xs) (hnn : v ≠ .slice none 0 0)
    (ad : Addr) (c : Nat) (u : Value) (hx : a.eval x = .slice (some ad) 1 c) (hc : w.cell? ad = some u) (h1c : u.oneCell' = true)
    (b1 : n + 1 ≤ maxLen) (b2 : (n + 1) * bytes ≤ 140737488355328) (hbase : base ≤ w.heap.size)
    (h : ∀ v' w', w'.ownsRow base e 1 v' (n + 1) (xs ++ [u]) → w'.ownsRow base e 1 v n xs → v' ≠ .slice none 0 0 → Below base w w' → wpList P ops Q rest (a.put o.dst v') w') :
    wpList P ops Q (o :: rest) a w := by
  obtain ⟨hl, hr⟩ := hown
  rcases hr with ⟨hv, _⟩ | ⟨g, cap, cur, hv, hgb, hh, hncap, hcm, hcs, htk⟩
  · exact absurd hv hnn
  · subst hv
    rw [Nat.mul_one] at hl hcs htk
    have hold : ∀ j y, xs[j]? = some y → w.cell? ⟨g, 0 + j, none⟩ = some y := by
      intro j y hj
      unfold World.cell?
      dsimp only
      rw [hh]
      simp only [Option.isSome_none, Bool.false_eq_true, if_false, Nat.zero_add]
      rw [← htk, List.getElem?_take] at hj
      split at hj
      · simpa using hj
      · cases hj
    refine wpList_append_arg w hg s x t hop e i z 1 bytes h1 h2 h3 h4 h5 h6 (by omega) g 0 n cap xs hs (by omega) hold ad 1 c [u] hx rfl ?_ ?_ ?_ b1 b2 ?_ ?_
    · intro j y hj
      match j, hj with
      | 0, hj => simp at hj; subst hj; simpa [Addr.add] using hc
    · intro y hy; simp at hy; subst hy; exact h1c
    · intro hroom j hj
      have hj0 : j = 0 := by simp at hj; omega
      subst hj0
      constructor
      · unfold World.cell?
        dsimp only
        rw [hh]
        simp; omega
      · unfold World.frozen?
        simp [hh]
    · intro hroom
      have hset : w.setCells g (0 + n * 1) [u] = w.setCell ⟨g, n, none⟩ u := by
        show (w.setCell ⟨g, 0 + n * 1, none⟩ u) = _
        rw [Nat.mul_one, Nat.zero_add]
      rw [hset]
      have hlt : g < w.heap.size := by
        rcases Nat.lt_or_ge g w.heap.size with k | k
        · exact k
        · simp [Array.getElem?_eq_none k] at hh
      have hh' : (w.setCell ⟨g, n, none⟩ u).heap[g]? = some (.cells (cur.set! n u) e (0, 0)) := by
        simp only [World.setCell, Array.getElem?_modify, if_true, hh, Option.map_some]
        rfl
      refine h _ _ ⟨by simp [hl], Or.inr ⟨g, cap, cur.set! n u, rfl, hgb, hh', hroom, hcm, by simpa using hcs, ?_⟩⟩ ⟨by omega, Or.inr ⟨g, cap, cur.set! n u, rfl, hgb, hh', hncap, hcm, by simpa using hcs, ?_⟩⟩ (by intro q; cases q) ((Below.refl _ _).setCell hgb _)
      · rw [Nat.mul_one]
        apply List.ext_getElem?
        intro j
        rw [List.getElem?_take]
        by_cases hj : j < n + 1
        · rw [if_pos hj]
          by_cases hjn : j = n
          · subst hjn
            have : j < cur.size := by omega
            rw [List.getElem?_append_right (by omega), hl]
            simp [this]
          · rw [List.getElem?_append_left (by omega), ← htk, List.getElem?_take, if_pos (by omega)]
            simp [show n ≠ j by omega]
        · rw [if_neg hj, List.getElem?_eq_none (by simp; omega)]
      · rw [Nat.mul_one]
        apply List.ext_getElem?
        intro j
        rw [← htk, List.getElem?_take, List.getElem?_take]
        by_cases hj : j < n
        · rw [if_pos hj, if_pos hj]
          simp [show n ≠ j by omega]
        · rw [if_neg hj, if_neg hj]
    · intro hfull v' w' hown' hgrow
      have hlt : g < w.heap.size := by
        rcases Nat.lt_or_ge g w.heap.size with k | k
        · exact k
        · simp [Array.getElem?_eq_none k] at hh
      refine h v' w' (own_mono hown' hbase) (World.ownsRow.kept ⟨by omega, Or.inr ⟨g, cap, cur, rfl, hgb, hh, hncap, hcm, by omega, by rw [Nat.mul_one]; exact htk⟩⟩ hgrow (Or.inr (by simp [Value.ownBlock]))) ?_ ((Below.refl _ _).grown hgrow hbase (fun k hk => by cases hk))
      rintro rfl
      obtain ⟨hl', hr'⟩ := hown'
      rcases hr' with ⟨_, hz⟩ | ⟨_, _, _, hz, _⟩
      · omega
      · cases hz
end Go.Proofs.YtcfjecllfghkbaaDoor
