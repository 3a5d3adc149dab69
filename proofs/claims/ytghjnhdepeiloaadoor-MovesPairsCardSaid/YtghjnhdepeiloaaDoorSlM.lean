/-
  SCRIPTS OF MOVES (own work): slices of ops, each four numbers and a bool.
-/
import Derived.Test.YtghjnhdepeiloaaDoorMovC
import Derived.Deep.Slices
import Derived.Deep.Strs
import Derived.ChangeSame
namespace Go.Proofs.YtghjnhdepeiloaaDoor
open Go.RowKit Go.ChangeShapes Go.WideShapes

/-- an op: what, the side, the kind, the place, copies -/
structure OpD where
  (a e k i : Int) (c : Bool)
/-- THE CELLS OF AN OP at a place. -/
structure OpM (o : OpD) (b off : Nat) (w : World) : Prop where
  a : w.cell? ⟨b, off, none⟩ = some (.int .i64 o.a)
  e : w.cell? ⟨b, off + 1, none⟩ = some (.int .i64 o.e)
  k : w.cell? ⟨b, off + 2, none⟩ = some (.int .i64 o.k)
  i : w.cell? ⟨b, off + 3, none⟩ = some (.int .i64 o.i)
  c : w.cell? ⟨b, off + 4, none⟩ = some (.bool o.c)
  wa : i64M o.a
  we : i64M o.e
  wk : i64M o.k
  wi : i64M o.i
theorem OpM.kp {o : OpD} {b off : Nat} {w w' : World} (h : OpM o b off w) (hk : Kp w w') : OpM o b off w' :=
  ⟨kp_cell hk h.a, kp_cell hk h.e, kp_cell hk h.k, kp_cell hk h.i, kp_cell hk h.c, h.wa, h.we, h.wk, h.wi⟩
/-- THE SLICE VALUE v READS AS THE OPS os. -/
def SlM (v : Value) (os : List OpD) (w : World) : Prop :=
  ∃ a cap, v = .slice a os.length cap ∧ ∀ (j : Nat) (h : j < os.length), ∃ b off, a = some ⟨b, off, none⟩ ∧ OpM os[j] b (off + j * 5) w
theorem SlM.kp {v : Value} {os : List OpD} {w w' : World} (h : SlM v os w) (hk : Kp w w') : SlM v os w' := by
  obtain ⟨a, cap, h1, h2⟩ := h
  refine ⟨a, cap, h1, fun j hj => ?_⟩
  obtain ⟨b, off, h3, h4⟩ := h2 j hj
  exact ⟨b, off, h3, h4.kp hk⟩
set_option maxRecDepth 100000 in
theorem one_i64 {H : Type} {enc : TypeId × Value → H} {W : World} {n : Nat} {cs : List Value} {y : DataW H × List MemPlace} {v : Value} (h : DataW.trod enc Tryd.prog W 0 (fun _ => true) true n 3 cs = some y) (hc : cs = [v]) : ∃ x : Int, v = .int .i64 x ∧ i64M x := by
  obtain ⟨x, e, _, w⟩ := DataW.trod_int Tryd.underlying3 h
  rw [hc] at e
  exact ⟨x, by simpa using e, by simpa [Lit.wf, IntKind.min, IntKind.max, IntKind.bits, IntKind.signed, i64M] using w⟩
set_option maxRecDepth 100000 in
theorem one_bool {H : Type} {enc : TypeId × Value → H} {W : World} {n : Nat} {cs : List Value} {y : DataW H × List MemPlace} {v : Value} (h : DataW.trod enc Tryd.prog W 0 (fun _ => true) true n 4 cs = some y) (hc : cs = [v]) : ∃ x : Bool, v = .bool x := by
  obtain ⟨x, e, _⟩ := DataW.trod_bool Tryd.underlying4 h
  rw [hc] at e
  exact ⟨x, by simpa using e⟩
set_option maxRecDepth 100000 in
theorem open_opsM {H : Type} {enc : TypeId × Value → H} {W : World} {r : Reach} {b0 : Nat} {v : Value} {d : DataW H} {ps : List MemPlace}
    (hval : Value.okWide Tryd.prog W r b0 40 v)
    (h : DataW.Trod enc Tryd.prog W 0 (fun _ => true) true 40 v d ps) : ∃ os : List OpD, SlM v os W ∧ os.length ≤ maxLen := by
  have h5 : Tryd.prog.cellsOf 47 = 5 := by kernel_rfl
  have h1 : Tryd.prog.cellsOf 3 = 1 := by kernel_rfl
  have hb1 : Tryd.prog.cellsOf 4 = 1 := by kernel_rfl
  obtain ⟨a0, len0, cap0, rfl⟩ := okWide_slice Tryd.underlying40 hval
  obtain ⟨fuel, hf⟩ := h
  rcases Deep.open_slice Tryd.underlying40 hf with ⟨hcs, hx⟩ | ⟨a, len, cap, m, n, D, Pl, hcs, _, hl, hm, hmm, hx, hcell⟩
  · simp [Value.cells] at hcs
    obtain ⟨rfl, rfl, rfl⟩ := hcs
    exact ⟨[], ⟨none, 0, rfl, fun j hj => by cases hj⟩, by simp⟩
  · simp [Value.cells] at hcs
    obtain ⟨rfl, rfl, rfl⟩ := hcs
    simp only [if_true] at hmm
    have hsp : 0 < len0 → a.spot = none := by
      intro h0
      obtain ⟨cs', h1', h2⟩ := hcell 0 (by omega)
      rw [h5] at h1'
      obtain ⟨_, hlen, hcl⟩ := World.cells?_some h1'
      match cs', hlen with
      | [v0, v1, v2, v3, v4], _ =>
        have q0 := hcl 0 (by omega)
        rw [Deep.add_add] at q0
        simpa [Addr.add] using World.cell?_spot (show W.cell? (a.add (0 * 5 + 0)) = some v0 by simpa using q0)
    have hel : ∀ i, i < len0 → ∃ o : OpD, ∃ b off, a = ⟨b, off, none⟩ ∧ OpM o b (off + i * 5) W := by
      intro i hi
      obtain ⟨cs', h1', h2⟩ := hcell i (by omega)
      rw [h5] at h1'
      obtain ⟨_, hlen, hcl⟩ := World.cells?_some h1'
      match cs', hlen with
      | [v0, v1, v2, v3, v4], _ =>
        obtain ⟨xs, k, _, _, _, hxl, hfs⟩ := DataW.trod_struct Tryd.underlying47 h2
        have g0 := hfs 0 _ rfl
        have g1 := hfs 1 _ rfl
        have g2 := hfs 2 _ rfl
        have g3 := hfs 3 _ rfl
        have g4 := hfs 4 _ rfl
        have e5 : xs.length = 5 := hxl
        match xs, e5 with
        | [x0, x1, x2, x3, x4], _ =>
          obtain ⟨y0, rfl, w0⟩ := one_i64 (v := v0) g0 (by simp [h1])
          obtain ⟨y1, rfl, w1⟩ := one_i64 (v := v1) g1 (by simp [h1])
          obtain ⟨y2, rfl, w2⟩ := one_i64 (v := v2) g2 (by simp [h1])
          obtain ⟨y3, rfl, w3⟩ := one_i64 (v := v3) g3 (by simp [h1])
          obtain ⟨y4, rfl⟩ := one_bool (v := v4) g4 (by simp [hb1])
          have q0 := hcl 0 (by omega)
          have q1 := hcl 1 (by omega)
          have q2 := hcl 2 (by omega)
          have q3 := hcl 3 (by omega)
          have q4 := hcl 4 (by omega)
          rw [Deep.add_add] at q0 q1 q2 q3 q4
          obtain ⟨b, off, spot⟩ := a
          obtain rfl : spot = none := hsp (by omega)
          rw [add_plain] at q0 q1 q2 q3 q4
          refine ⟨⟨y0, y1, y2, y3, y4⟩, b, off, rfl, ?_, ?_, ?_, ?_, ?_, w0, w1, w2, w3⟩
          · simpa using q0
          · have := q1; simp at this ⊢; rw [Nat.add_assoc]; exact this
          · have := q2; simp at this ⊢; rw [Nat.add_assoc]; exact this
          · have := q3; simp at this ⊢; rw [Nat.add_assoc]; exact this
          · have := q4; simp at this ⊢; rw [Nat.add_assoc]; exact this
    let f : Nat → OpD := fun i => if h : i < len0 then (hel i h).choose else ⟨0, 0, 0, 0, false⟩
    refine ⟨(List.range len0).map f, ⟨some a, cap0, by simp, fun j hj => ?_⟩, by simp; omega⟩
    have hj' : j < len0 := by simpa using hj
    have e : f j = (hel j hj').choose := by show (if h : j < len0 then (hel j h).choose else ⟨0, 0, 0, 0, false⟩) = _; rw [dif_pos hj']
    obtain ⟨b, off, h1, h2⟩ := (hel j hj').choose_spec
    refine ⟨b, off, by rw [h1], ?_⟩
    rw [List.getElem_map, List.getElem_range, e]
    exact h2
end Go.Proofs.YtghjnhdepeiloaaDoor
