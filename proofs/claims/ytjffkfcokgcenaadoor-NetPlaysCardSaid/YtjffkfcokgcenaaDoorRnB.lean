/-
  THE DOCUMENT's NET (own work): Cut; what its letters are replaced by.
-/
import Derived.Test.YtjffkfcokgcenaaDoorRnA
namespace Go.Proofs.YtjffkfcokgcenaaDoor
open Go.RowKit Go.ChangeShapes Go.WideShapes
variable {w0 w w' W w3 : World} {q : Nat} {m : NetM} {v v' vc : Value} {rb : List Nat}

theorem frozR {b : Nat} {t : TypeId} {w : World} {cs : Array Value} (h : w.heap[b]? = some (.cells cs t (0, 0))) (i : Nat) : w.frozen? ⟨b, i, none⟩ = false := by
  unfold World.frozen?
  dsimp only
  rw [h]
  simp
theorem kp_drewR {a b : World} (h : Kp a b) : Kp a b.drew := ⟨h.os, h.tape, h.output, h.size, h.block⟩
theorem Rn.ne (h : Rn w0 q m v vc rb w) : v.ownBlock ≠ some q ∧ vc.ownBlock ≠ some q ∧ q ∉ rb ∧ (∀ b, v.ownBlock = some b → vc.ownBlock ≠ some b ∧ b ∉ rb) ∧ (∀ b, vc.ownBlock = some b → b ∉ rb) := by
  have hv : ∀ b, v.ownBlock = some b → ∃ cs x, w.heap[b]? = some (.cells cs 47 x) := fun b hb => by
    rcases h.own.2 with ⟨rfl, _⟩ | ⟨g', cap, cur, rfl, _, hh, _⟩
    · cases hb
    · have e : g' = b := by injection hb
      subst e
      exact ⟨_, _, hh⟩
  have hc : ∀ b, vc.ownBlock = some b → ∃ cs x, w.heap[b]? = some (.cells cs 54 x) := fun b hb => by
    rcases h.cuts.2 with ⟨rfl, _⟩ | ⟨g', cap, cur, rfl, _, hh, _⟩
    · cases hb
    · have e : g' = b := by injection hb
      subst e
      exact ⟨_, _, hh⟩
  have hr : ∀ b, b ∈ rb → ∃ cs x, w.heap[b]? = some (.cells cs 4 x) := fun b hb => by
    obtain ⟨i, hi, rfl⟩ := List.getElem_of_mem hb
    exact ⟨_, _, (h.rows i hi).2⟩
  have ty : ∀ {b : Nat} {c1 c2 : Array Value} {t1 t2 : TypeId} {x1 x2 : Nat × Nat}, w.heap[b]? = some (.cells c1 t1 x1) → w.heap[b]? = some (.cells c2 t2 x2) → t1 = t2 := fun h1 h2 => by
    rw [h1] at h2
    injection h2 with h2
    injection h2
  refine ⟨fun e => ?_, fun e => ?_, fun e => ?_, fun b e => ⟨fun e2 => ?_, fun e2 => ?_⟩, fun b e e2 => ?_⟩
  · obtain ⟨_, _, h1⟩ := hv _ e
    exact absurd (ty h.row h1) (by decide)
  · obtain ⟨_, _, h1⟩ := hc _ e
    exact absurd (ty h.row h1) (by decide)
  · obtain ⟨_, _, h1⟩ := hr _ e
    exact absurd (ty h.row h1) (by decide)
  · obtain ⟨_, _, h1⟩ := hv _ e
    obtain ⟨_, _, h2⟩ := hc _ e2
    exact absurd (ty h1 h2) (by decide)
  · obtain ⟨_, _, h1⟩ := hv _ e
    obtain ⟨_, _, h2⟩ := hr _ e2
    exact absurd (ty h1 h2) (by decide)
  · obtain ⟨_, _, h1⟩ := hc _ e
    obtain ⟨_, _, h2⟩ := hr _ e2
    exact absurd (ty h1 h2) (by decide)
theorem asd_setN {O : Nat → Prop} {g i : Nat} {w : World} (h : O g) (y : Value) : Asd O O w (w.setCell ⟨g, i, none⟩ y) where
  os := rfl
  tape := rfl
  output := rfl
  size := by simp
  block := fun b _ hn => Below.heap_setCell _ _ _ _ (fun e => hn (by rw [e]; exact h))
  own := fun b q => .inl q
/-- A WAY IS CUT, or isn't any more -/
theorem Rn.setWay (h : Rn w0 q m v vc rb w) (hm : Nok m) {a b : Int} (ha : m.has a = true) (hb : m.has b = true) (is : Bool) : ∃ bc cc r, vc = .slice (some ⟨bc, 0, none⟩) m.n cc ∧ w.cell? ⟨bc, a.toNat, none⟩ = some (.slice (some ⟨r, 0, none⟩) m.n m.n) ∧ w.cell? ⟨r, b.toNat, none⟩ = some (.bool (m.isCut a b)) ∧ w.frozen? ⟨r, b.toNat, none⟩ = false ∧
    Rn w0 q ⟨m.n, m.f, m.cut.set a.toNat ((m.cut.getD a.toNat []).set b.toNat is), m.lost⟩ v vc rb (w.setCell ⟨r, b.toNat, none⟩ (.bool is)) ∧ Asd (On q v vc rb) (On q v vc rb) w (w.setCell ⟨r, b.toNat, none⟩ (.bool is)) := by
  obtain ⟨bc, cc, r, h1, h2, h3, h4⟩ := h.way hm ha hb
  obtain ⟨i, hi, hri⟩ := List.getElem_of_mem h4
  obtain ⟨n1, n2, n3, n4, n5⟩ := h.ne
  unfold NetM.has at ha hb
  simp only [Bool.and_eq_true, decide_eq_true_eq] at ha hb
  have hl := h.rbl
  have hia : a.toNat < rb.length := by omega
  have hra : rb[a.toNat] = r := by
    have e1 := h.cuts.cells (show vc.ownBlock = some bc by rw [h1]; rfl) a.toNat (.slice (some ⟨rb[a.toNat], 0, none⟩) m.n m.n) (by
      have := row_at (wayE m.n) rb a.toNat hia 0 Nat.zero_lt_one
      simpa [wayE] using this)
    rw [Addr.add_lit, Nat.zero_add, h2] at e1
    injection e1 with e1
    injection e1 with e1
    injection e1 with e1
    injection e1 with e1
    exact e1.symm
  have hro := (h.rows _ hia).2
  rw [hra] at hro
  refine ⟨bc, cc, r, h1, h2, h3, frozR hro _, ⟨?_, h.bq, ?_, ?_, fun j hj => ⟨(h.rows j hj).1, ?_⟩, h.nd⟩, asd_setN (.inr (.inr (.inr h4))) _⟩
  · rw [Below.heap_setCell _ _ _ _ (fun e => n3 (by rw [show q = r from e]; exact h4))]
    exact h.row
  · exact own_stayG h.own (fun b' e => Below.heap_setCell _ _ _ _ (fun e2 => (n4 b' e).2 (by rw [show b' = r from e2]; exact h4)))
  · exact own_stayG h.cuts (fun b' e => Below.heap_setCell _ _ _ _ (fun e2 => n5 b' e (by rw [show b' = r from e2]; exact h4)))
  · by_cases hja : j = a.toNat
    · subst hja
      have hlt : a.toNat < m.cut.length := by have := hm.rows; omega
      rw [hra]
      refine (Joins.block_setCell hro (.bool is)).trans ?_
      have e1 : ∀ X : List Bool, (m.cut.set a.toNat X).getD a.toNat [] = X := fun X => by rw [List.getD_eq_getElem?_getD, List.getElem?_set_self hlt]; rfl
      dsimp only
      rw [e1, List.map_set]
      simp
    · have hne : rb[j] ≠ r := by
        rw [← hra]
        rcases Nat.lt_or_gt_of_ne hja with e | e
        · exact List.pairwise_iff_getElem.1 h.nd j a.toNat hj hia e
        · exact fun e2 => List.pairwise_iff_getElem.1 h.nd a.toNat j hia hj e e2.symm
      rw [Below.heap_setCell _ _ _ _ (fun e => hne e), (h.rows j hj).2]
      simp [List.getD_eq_getElem?_getD, List.getElem?_set_ne (fun e => hja e.symm)]
set_option maxRecDepth 100000 in
theorem rnCut_no (H : Rn w0 q m v vc rb w) (a b : Int) (is : Bool) (h : (m.has a && m.has b) = false) : Calls Tryd.prog 29 #[.pointer (some ⟨q, 0, none⟩), .int .i64 a, .int .i64 b, .bool is] w fun r w' => r = .returned (.int .i64 1) ∧ w = w' := by
  have ha := rnHas_any H a
  have hb := rnHas_any H b
  cases h1 : m.has a with
  | false =>
    rw [h1] at ha
    have HA := Lib.hid ha
    clear H h ha hb h1
    go_enter Tryd.func29, Tryd.ntmps29
    go_wp2_with (go_at_call 41; (with_reducible refine (HA.out).mono ?_); rintro e' w3 ⟨rfl, rfl⟩)
    go_ret
    exact ⟨rfl, rfl⟩
  | true =>
    rw [h1, Bool.true_and] at h
    rw [h1] at ha
    rw [h] at hb
    have HA := Lib.hid ha
    have HB := Lib.hid hb
    clear H h ha hb h1
    go_enter Tryd.func29, Tryd.ntmps29
    go_wp2_with (first | (go_at_call 41; (with_reducible refine (HB.out).mono ?_); rintro e' w4 ⟨rfl, rfl⟩) | (go_at_call 41; (with_reducible refine (HA.out).mono ?_); rintro e' w3 ⟨rfl, rfl⟩))
    go_ret
    exact ⟨rfl, rfl⟩
set_option maxRecDepth 100000 in
theorem rnCut_ok (H : Rn w0 q m v vc rb w) (hm : Nok m) (a b : Int) (is : Bool) (h1 : m.has a = true) (h2 : m.has b = true) : Calls Tryd.prog 29 #[.pointer (some ⟨q, 0, none⟩), .int .i64 a, .int .i64 b, .bool is] w fun r w' => r = .returned (.int .i64 0) ∧ Rn w0 q ⟨m.n, m.f, m.cut.set a.toNat ((m.cut.getD a.toNat []).set b.toNat is), m.lost⟩ v vc rb w' ∧ Asd (On q v vc rb) (On q v vc rb) w w' := by
  have ha := rnHas_any H a
  have hb := rnHas_any H b
  rw [h1] at ha
  rw [h2] at hb
  obtain ⟨bc, cc, r, rfl, c1, c2, c3, hr, hs⟩ := H.setWay hm h1 h2 is
  have c0 := cell_row (i := 2) H.row rfl
  unfold NetM.has at h1 h2
  simp only [Bool.and_eq_true, decide_eq_true_eq] at h1 h2
  obtain ⟨n, hn⟩ : ∃ n, m.n = n := ⟨_, rfl⟩
  have R1 := Lib.hid (And.intro hr hs)
  rw [hn] at c0 c1 h1 h2
  have a0 := h1.1
  have a1 := h1.2
  have b0 := h2.1
  have b1 := h2.2
  have HA := Lib.hid ha
  have HB := Lib.hid hb
  clear H hr hs ha hb h1 h2 hn hm
  go_enter Tryd.func29, Tryd.ntmps29
  go_wp2_with (first | (go_at_call 41; (with_reducible refine (HB.out).mono ?_); rintro e' w4 ⟨rfl, rfl⟩) | (go_at_call 41; (with_reducible refine (HA.out).mono ?_); rintro e' w3 ⟨rfl, rfl⟩))
  go_ret
  exact ⟨rfl, R1.out⟩
theorem rnCut_any (H : Rn w0 q m v vc rb w) (hm : Nok m) (a b : Int) (is : Bool) : Calls Tryd.prog 29 #[.pointer (some ⟨q, 0, none⟩), .int .i64 a, .int .i64 b, .bool is] w fun r w' => r = .returned (.int .i64 (m.cutW a b is).1) ∧ Rn w0 q (m.cutW a b is).2 v vc rb w' ∧ Asd (On q v vc rb) (On q v vc rb) w w' := by
  unfold NetM.cutW
  by_cases h : (m.has a && m.has b) = false
  · rw [if_pos h]
    exact (rnCut_no H a b is h).mono fun r w' ⟨q1, q2⟩ => ⟨q1, q2 ▸ H, q2 ▸ Asd.refl _ _⟩
  · rw [if_neg h]
    have h : (m.has a && m.has b) = true := by simpa using h
    rw [Bool.and_eq_true] at h
    exact rnCut_ok H hm a b is h.1 h.2
/-- THE LETTERS REPLACED: by a row in their own block, or a new one -/
theorem Rn.letters (h : Rn w0 q m v vc rb w) (hk : Kp w W) (hg : W.grownBy w3 v.ownBlock) {L : Nat} {f : List LtM} (hL : f.length = L) (ho : w3.ownsRow w0.heap.size 47 3 v' L (ltE.row f)) (hb : ∀ b, v'.ownBlock = some b → v.ownBlock = some b ∨ w.heap.size ≤ b) :
    Rn w0 q ⟨m.n, f, m.cut, m.lost⟩ v' vc rb (w3.setCell ⟨q, 1, none⟩ v') ∧ Asd (On q v vc rb) (On q v' vc rb) w (w3.setCell ⟨q, 1, none⟩ v') := by
  subst hL
  obtain ⟨n1, n2, n3, n4, n5⟩ := h.ne
  have hs := Below.size hk
  have old : ∀ b, On q v vc rb b → v.ownBlock ≠ some b → w3.heap[b]? = w.heap[b]? := fun b e1 e2 => by
    have := (h.mem b e1).2
    rw [hg.block b (by omega) (fun e => e2 e.symm)]
    exact Below.block hk b this
  have n6 : v'.ownBlock ≠ some q := fun e => (hb q e).elim n1 (fun e => by have := old_of_row h.row; omega)
  have r1 : w3.heap[q]? = some (.cells #[.int .i64 m.n, v, vc, .int .i64 m.lost] 41 (0, 0)) := by rw [old q (.inl rfl) n1]; exact h.row
  refine ⟨⟨(Joins.block_setCell r1 _).trans rfl, h.bq, own_stayG ho (fun b e => Below.heap_setCell _ _ _ _ (fun e2 => n6 (by rw [← show b = q from e2]; exact e))),
    own_stayG h.cuts (fun b e => ?_), fun i hi => ⟨(h.rows i hi).1, ?_⟩, h.nd⟩, ?_⟩
  · rw [Below.heap_setCell _ _ _ _ (fun e2 => n2 (by rw [← show b = q from e2]; exact e))]
    exact old b (.inr (.inr (.inl e))) (fun e2 => (n4 b e2).1 e)
  · have hi' := List.getElem_mem hi
    rw [Below.heap_setCell _ _ _ _ (fun e2 => n3 (by rw [← show rb[i] = q from e2]; exact hi')), old _ (.inr (.inr (.inr hi'))) (fun e2 => (n4 _ e2).2 hi')]
    exact (h.rows i hi).2
  · refine ⟨hg.os.trans hk.os, hg.tape.trans hk.tape, hg.output.trans hk.output, by simpa using Nat.le_trans hs hg.size, fun b hb2 hn => ?_, fun b e => ?_⟩
    · rw [Below.heap_setCell _ _ _ _ (fun e => hn (.inl e)), hg.block b (Nat.lt_of_lt_of_le hb2 hs) (fun e => hn (.inr (.inl e.symm)))]
      exact Below.block hk b hb2
    · rcases e with rfl | e | e | e
      · exact .inl (.inl rfl)
      · exact (hb b e).imp (fun e => .inr (.inl e)) id
      · exact .inl (.inr (.inr (.inl e)))
      · exact .inl (.inr (.inr (.inr e)))
end Go.Proofs.YtjffkfcokgcenaaDoor
