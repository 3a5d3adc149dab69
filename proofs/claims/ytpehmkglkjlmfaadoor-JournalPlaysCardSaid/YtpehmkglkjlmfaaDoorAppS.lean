/-
  append OF ROWS (own work): slices of bytes behind a row of the call's own.
-/
import Derived.Test.YtpehmkglkjlmfaaDoorSlBB
import Derived.Test.YtpehmkglkjlmfaaDoorAppB
import Derived.Test.YtpehmkglkjlmfaaDoorAppO
namespace Go.Proofs.YtpehmkglkjlmfaaDoor
open Go.RowKit

theorem info_rowT : (Tryd.prog.info? 46).map (fun i => (i.zero, i.size, i.bytes)) = some (some (.slice none 0 0), 1, 24) := by kernel_rfl
/-- slice values that read as rows -/
def Vals (us : List Value) (rs : List (List Int)) (w : World) : Prop :=
  us.length = rs.length ∧ ∀ (j : Nat) (h : j < rs.length), ∃ a c, us[j]? = some (.slice a rs[j].length c) ∧ SlB (.slice a rs[j].length c) rs[j] w ∧ InB rs[j]
theorem Vals.kp {us : List Value} {rs : List (List Int)} {w w' : World} (h : Vals us rs w) (hk : Kp w w') : Vals us rs w' :=
  ⟨h.1, fun j hj => by obtain ⟨a, c, h1, h2, h3⟩ := h.2 j hj; exact ⟨a, c, h1, h2.kp hk, h3⟩⟩
theorem Vals.nil (w : World) : Vals [] [] w := ⟨rfl, fun j hj => by cases hj⟩
theorem Vals.app {us us2 : List Value} {rs rs2 : List (List Int)} {w : World} (h : Vals us rs w) (h2 : Vals us2 rs2 w) : Vals (us ++ us2) (rs ++ rs2) w := by
  refine ⟨by rw [List.length_append, List.length_append, h.1, h2.1], fun j hj => ?_⟩
  have hl := h.1
  by_cases hlt : j < rs.length
  · obtain ⟨a, c, e1, e2, e3⟩ := h.2 j hlt
    have er : (rs ++ rs2)[j] = rs[j] := List.getElem_append_left hlt
    rw [er, List.getElem?_append_left (by omega)]
    exact ⟨a, c, e1, e2, e3⟩
  · have hj2 : j - rs.length < rs2.length := by rw [List.length_append] at hj; omega
    obtain ⟨a, c, e1, e2, e3⟩ := h2.2 (j - rs.length) hj2
    have er : (rs ++ rs2)[j] = rs2[j - rs.length] := List.getElem_append_right (by omega)
    rw [er, List.getElem?_append_right (by omega), hl]
    exact ⟨a, c, e1, e2, e3⟩
theorem Vals.one {us : List Value} {rs : List (List Int)} {w : World} (h : Vals us rs w) : ∀ u ∈ us, u.oneCell' = true := fun u hu => by
  obtain ⟨j, hj, rfl⟩ := List.getElem_of_mem hu
  obtain ⟨a, c, e, -⟩ := h.2 j (by rw [← h.1]; exact hj)
  rw [List.getElem?_eq_getElem hj] at e
  injection e with e
  rw [e]
  rfl
theorem SlBB.vals {ao : Option Addr} {m c : Nat} {rs : List (List Int)} {w : World} (h : SlBB (.slice ao m c) rs w) :
    rs.length = m ∧ (ao = none → m = 0 ∧ c = 0) ∧ ∃ us, Vals us rs w ∧ ∀ ad, ao = some ad → ∀ j u, us[j]? = some u → w.cell? (ad.add j) = some u := by
  rcases h with ⟨rfl, a, cap, hv, hz⟩ | ⟨b, off, cap, h0, hv, hc⟩
  · injection hv with h1 h2 h3
    subst h1 h2 h3
    exact ⟨rfl, fun e => ⟨rfl, hz e⟩, [], Vals.nil w, fun _ _ j u hu => by simp at hu⟩
  · injection hv with h1 h2 h3
    subst h1 h2 h3
    refine ⟨rfl, fun e => (by cases e), ?_⟩
    have hex : ∀ j, ∃ u, ∀ (hj : j < rs.length), ∃ a c, u = .slice a rs[j].length c ∧ w.cell? ⟨b, off + j, none⟩ = some u ∧ SlB (.slice a rs[j].length c) rs[j] w ∧ InB rs[j] := fun j => by
      by_cases hj : j < rs.length
      · obtain ⟨a, c, e1, e2, e3⟩ := hc j hj
        exact ⟨_, fun _ => ⟨a, c, rfl, e1, e2, e3⟩⟩
      · exact ⟨.nilIface, fun h => absurd h hj⟩
    let f : Nat → Value := fun j => (hex j).choose
    have hf : ∀ j, ∀ (hj : j < rs.length), ∃ a c, f j = .slice a rs[j].length c ∧ w.cell? ⟨b, off + j, none⟩ = some (f j) ∧ SlB (.slice a rs[j].length c) rs[j] w ∧ InB rs[j] := fun j => (hex j).choose_spec
    refine ⟨(List.range rs.length).map f, ⟨by simp, fun j hj => ?_⟩, fun ad e j u hu => ?_⟩
    · obtain ⟨a, c, e1, e2, e3, e4⟩ := hf j hj
      exact ⟨a, c, by simp [hj, e1], e3, e4⟩
    · injection e with e
      subst e
      have hj : j < rs.length := by
        have := (List.getElem?_eq_some_iff.1 hu).1
        simpa using this
      obtain ⟨a, c, e1, e2, -⟩ := hf j hj
      have e : f j = u := by simpa [hj] using hu
      rw [← e, Addr.add_lit]
      exact e2
theorem own_slbb {w : World} {base n : Nat} {v : Value} {us : List Value} {rs : List (List Int)} (h : w.ownsRow base 46 1 v n us) (hv : Vals us rs w) : SlBB v rs w := by
  have hl : us.length = n := by simpa using h.1
  rcases h.2 with ⟨rfl, rfl⟩ | ⟨g, cap, cur, rfl, _⟩
  · have : rs = [] := List.length_eq_zero_iff.1 (by rw [← hv.1]; exact hl)
    subst this
    exact .inl ⟨rfl, none, 0, rfl, fun _ => rfl⟩
  · have hn : rs.length = n := by rw [← hv.1]; exact hl
    by_cases h0 : n = 0
    · subst h0
      have : rs = [] := List.length_eq_zero_iff.1 hn
      subst this
      exact .inl ⟨rfl, _, _, rfl, fun e => by cases e⟩
    · refine .inr ⟨g, 0, cap, by omega, by rw [hn], fun j hj => ?_⟩
      obtain ⟨a, c, e1, e2, e3⟩ := hv.2 j hj
      have hc := h.cellAt j (by omega)
      refine ⟨a, c, ?_, e2, e3⟩
      rw [Nat.zero_add, hc]
      exact e1

set_option maxRecDepth 100000 in
theorem wpList_append_us (w : World) {ops : Array Oper} {rest : List Oper} {o : Oper} {a : Act} {Q : Exit → Act → World → Prop} (hgd : o.guard = none) (s x : Operand)
    (ho : o.op = .call { callee := .builtin .append, args := #[s, x], argTypes := #[42, 42] })
    (base : Nat) (v : Value) (n : Nat) (us : List Value) (hs : a.eval s = v) (hown : w.ownsRow base 46 1 v n us)
    (ao : Option Addr) (m c : Nat) (us2 : List Value) (hx : a.eval x = .slice ao m c) (hlen : us2.length = m) (hnone : ao = none → m = 0 ∧ c = 0) (hone : ∀ u ∈ us2, u.oneCell' = true) (hcell : ∀ ad, ao = some ad → ∀ j u, us2[j]? = some u → w.cell? (ad.add j) = some u) (h63 : n + m ≤ 1000000) (hbase : base ≤ w.heap.size)
    (h : ∀ v' w', w'.ownsRow base 46 1 v' (n + m) (us ++ us2) → w.grownBy w' v.ownBlock → (∀ b, v'.ownBlock = some b → v.ownBlock = some b ∨ w.heap.size ≤ b) → wpList Tryd.prog ops Q rest (a.put o.dst v') w') : wpList Tryd.prog ops Q (o :: rest) a w := by
  obtain ⟨i0, hi, hz0, hz1, hz2⟩ := info_parts info_rowT
  cases ao with
  | none =>
    obtain ⟨rfl, rfl⟩ := hnone rfl
    have hu : us2 = [] := List.length_eq_zero_iff.1 hlen
    subst hu
    exact wpList_append_own_none hgd s x 42 ho base 46 i0 1 Tryd.underlying42 hi v n us hs hown hx (h v w (by simpa using hown) ⟨rfl, rfl, rfl, Nat.le_refl _, fun _ _ _ => rfl⟩ (fun b q => .inl q))
  | some ad =>
    have hl1 : us2.length = m * 1 := by rw [hlen, Nat.mul_one]
    rcases hown.2 with ⟨rfl, rfl⟩ | ⟨g, cap, cur, rfl, hg, hh, hnc, hcm, hcs, htk⟩
    · have hxs : us = [] := List.length_eq_zero_iff.1 (by simpa using hown.1)
      subst hxs
      refine wpList_append_own w hgd s x 42 ho w.heap.size 46 i0 (.slice none 0 0) 1 24 Tryd.underlying42 hi hz0 hz1 hz2 rfl (by decide) (.slice none 0 0) 0 [] hs (World.ownsRow_nil w _ _ _) ad m c us2 hx hl1 (hcell ad rfl) hone (by unfold maxLen; omega) (by omega) (Nat.le_refl _) ?_
      intro v' w' h1 h2 _
      exact h v' w' (own_mono h1 hbase) h2 (fun b q => .inr (own_blk h1 q))
    · by_cases hfit : n + m ≤ cap
      · refine wpList_append_fits w hgd s x 42 ho base 46 i0 1 Tryd.underlying42 hi hz1 g n cap us hs hown ad m c us2 hx hl1 (hcell ad rfl) hone hfit ?_
        intro w' h1 h2
        exact h _ w' h1 h2 (fun b q => .inl q)
      · have holds : ∀ b, (some ⟨g, 0, none⟩ : Option Addr) = some b → ∀ j u, us[j]? = some u → w.cell? (b.add j) = some u := by
          intro b e j u hj
          injection e with e
          subst e
          have hj2 : j < n * 1 := by
            have := (List.getElem?_eq_some_iff.1 hj).1
            have h1 := hown.1
            omega
          have := hown.cellAt j hj2
          rw [Addr.add_lit, Nat.zero_add, this]
          exact hj
        refine wpList_append_grows w hgd s x 42 ho 46 i0 (.slice none 0 0) 1 24 Tryd.underlying42 hi hz0 hz1 hz2 rfl (by decide) (some ⟨g, 0, none⟩) n cap us hs (fun e => by cases e) hown.1 holds ad m c us2 hx hl1 (hcell ad rfl) hone (by omega) (by unfold maxLen; omega) (by omega) ?_
        intro v' w' h1 h2
        exact h v' w' (own_mono h1 hbase) (grown_any h2) (fun b q => .inr (own_blk h1 q))

set_option maxRecDepth 100000 in
theorem wpList_append_rows (w : World) {ops : Array Oper} {rest : List Oper} {o : Oper} {a : Act} {Q : Exit → Act → World → Prop} (hgd : o.guard = none) (s x : Operand)
    (ho : o.op = .call { callee := .builtin .append, args := #[s, x], argTypes := #[42, 42] })
    (base : Nat) (v : Value) (n : Nat) (us : List Value) (hs : a.eval s = v) (hown : w.ownsRow base 46 1 v n us)
    (ao : Option Addr) (m c : Nat) (rs : List (List Int)) (hx : a.eval x = .slice ao m c) {w0 : World} (hb : SlBB (.slice ao m c) rs w0) (hk0 : Kp w0 w) (h63 : n + m ≤ 1000000) (hbase : base ≤ w.heap.size)
    (h : ∀ us2 v' w', Vals us2 rs w0 → w'.ownsRow base 46 1 v' (n + m) (us ++ us2) → w.grownBy w' v.ownBlock → (∀ b, v'.ownBlock = some b → v.ownBlock = some b ∨ w.heap.size ≤ b) → wpList Tryd.prog ops Q rest (a.put o.dst v') w') : wpList Tryd.prog ops Q (o :: rest) a w := by
  obtain ⟨hlen, hnone, us2, hv, hcell0⟩ := hb.vals
  exact wpList_append_us w hgd s x ho base v n us hs hown ao m c us2 hx (by rw [hv.1]; exact hlen) hnone hv.one (fun ad e j u hu => kp_cell hk0 (hcell0 ad e j u hu)) h63 hbase (fun v' w' => h us2 v' w' hv)
end Go.Proofs.YtpehmkglkjlmfaaDoor
