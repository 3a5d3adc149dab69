/-
  SCRIPTS OF CALLS OF A NET (own work): slices of ops, each four numbers, a bool, and bytes.
-/
import Derived.Test.YtjffkfcokgcenaaDoorSlB
import Derived.Deep.Slices
import Derived.Deep.Strs
import Derived.ChangeSame
namespace Go.Proofs.YtjffkfcokgcenaaDoor
open Go.RowKit Go.ChangeShapes Go.WideShapes

def i64P (x : Int) : Prop := -9223372036854775808 ≤ x ∧ x ≤ 9223372036854775807
instance (x : Int) : Decidable (i64P x) := by unfold i64P; infer_instance
set_option maxRecDepth 100000 in
theorem oneP_i64 {H : Type} {enc : TypeId × Value → H} {W : World} {n : Nat} {cs : List Value} {y : DataW H × List MemPlace} {v : Value} (h : DataW.trod enc Tryd.prog W 0 (fun _ => true) true n 3 cs = some y) (hc : cs = [v]) : ∃ x : Int, v = .int .i64 x ∧ i64P x := by
  obtain ⟨x, e, _, w⟩ := DataW.trod_int Tryd.underlying3 h
  rw [hc] at e
  exact ⟨x, by simpa using e, by simpa [Lit.wf, IntKind.min, IntKind.max, IntKind.bits, IntKind.signed, i64P] using w⟩
set_option maxRecDepth 100000 in
theorem oneP_bool {H : Type} {enc : TypeId × Value → H} {W : World} {n : Nat} {cs : List Value} {y : DataW H × List MemPlace} {v : Value} (h : DataW.trod enc Tryd.prog W 0 (fun _ => true) true n 4 cs = some y) (hc : cs = [v]) : ∃ x : Bool, v = .bool x := by
  obtain ⟨x, e, _⟩ := DataW.trod_bool Tryd.underlying4 h
  rw [hc] at e
  exact ⟨x, by simpa using e⟩
/-- an op: what, the place, from, to, is, its bytes -/
structure OpP where
  (k i a b : Int) (c : Bool) (d : List Int)
/-- THE CELLS OF AN OP at a place. -/
structure OpPc (o : OpP) (b off : Nat) (w : World) : Prop where
  fk : w.cell? ⟨b, off, none⟩ = some (.int .i64 o.k)
  fi : w.cell? ⟨b, off + 1, none⟩ = some (.int .i64 o.i)
  fa : w.cell? ⟨b, off + 2, none⟩ = some (.int .i64 o.a)
  fb : w.cell? ⟨b, off + 3, none⟩ = some (.int .i64 o.b)
  fc : w.cell? ⟨b, off + 4, none⟩ = some (.bool o.c)
  fd : ∃ a c, w.cell? ⟨b, off + 5, none⟩ = some (.slice a o.d.length c) ∧ SlB (.slice a o.d.length c) o.d w
  ib : InB o.d
  wk : i64P o.k
  wi : i64P o.i
  wa : i64P o.a
  wb : i64P o.b
theorem OpPc.kp {o : OpP} {b off : Nat} {w w' : World} (h : OpPc o b off w) (hk : Kp w w') : OpPc o b off w' := by
  obtain ⟨a, c, h1, h2⟩ := h.fd
  exact ⟨kp_cell hk h.fk, kp_cell hk h.fi, kp_cell hk h.fa, kp_cell hk h.fb, kp_cell hk h.fc, ⟨a, c, kp_cell hk h1, h2.kp hk⟩, h.ib, h.wk, h.wi, h.wa, h.wb⟩
/-- THE SLICE VALUE v READS AS THE OPS os. -/
def SlP (v : Value) (os : List OpP) (w : World) : Prop :=
  ∃ a cap, v = .slice a os.length cap ∧ ∀ (j : Nat) (h : j < os.length), ∃ b off, a = some ⟨b, off, none⟩ ∧ OpPc os[j] b (off + j * 6) w
theorem SlP.kp {v : Value} {os : List OpP} {w w' : World} (h : SlP v os w) (hk : Kp w w') : SlP v os w' := by
  obtain ⟨a, cap, h1, h2⟩ := h
  refine ⟨a, cap, h1, fun j hj => ?_⟩
  obtain ⟨b, off, h3, h4⟩ := h2 j hj
  exact ⟨b, off, h3, h4.kp hk⟩
set_option maxRecDepth 100000 in
theorem open_opsP {H : Type} {enc : TypeId × Value → H} {W : World} {r : Reach} {b0 : Nat} {v : Value} {d : DataW H} {ps : List MemPlace}
    (hval : Value.okWide Tryd.prog W r b0 22 v)
    (h : DataW.Trod enc Tryd.prog W 0 (fun _ => true) true 22 v d ps) : ∃ os : List OpP, SlP v os W ∧ os.length ≤ maxLen := by
  have h6x : Tryd.prog.cellsOf 35 = 6 := by kernel_rfl
  have h1 : Tryd.prog.cellsOf 3 = 1 := by kernel_rfl
  have hs1 : Tryd.prog.cellsOf 33 = 1 := by kernel_rfl
  have hu1 : Tryd.prog.cellsOf 5 = 1 := by kernel_rfl
  have hb1 : Tryd.prog.cellsOf 4 = 1 := by kernel_rfl
  obtain ⟨a0, len0, cap0, rfl⟩ := okWide_slice Tryd.underlying22 hval
  obtain ⟨fuel, hf⟩ := h
  rcases Deep.open_slice Tryd.underlying22 hf with ⟨hcs, hx⟩ | ⟨a, len, cap, m, n, D, Pl, hcs, _, hl, hm, hmm, hx, hcell⟩
  · simp [Value.cells] at hcs
    obtain ⟨rfl, rfl, rfl⟩ := hcs
    exact ⟨[], ⟨none, 0, rfl, fun j hj => by cases hj⟩, by simp⟩
  · simp [Value.cells] at hcs
    obtain ⟨rfl, rfl, rfl⟩ := hcs
    simp only [if_true] at hmm
    have hsp : 0 < len0 → a.spot = none := by
      intro h0
      obtain ⟨cs', h1', h2⟩ := hcell 0 (by omega)
      rw [h6x] at h1'
      obtain ⟨_, hlen, hcl⟩ := World.cells?_some h1'
      match cs', hlen with
      | [v0, v1, v2, v3, v4, v5], _ =>
        have q0 := hcl 0 (by omega)
        rw [Deep.add_add] at q0
        simpa [Addr.add] using World.cell?_spot (show W.cell? (a.add (0 * 6 + 0)) = some v0 by simpa using q0)
    have hel : ∀ i, i < len0 → ∃ o : OpP, ∃ b off, a = ⟨b, off, none⟩ ∧ OpPc o b (off + i * 6) W := by
      intro i hi
      obtain ⟨cs', h1', h2⟩ := hcell i (by omega)
      rw [h6x] at h1'
      obtain ⟨_, hlen, hcl⟩ := World.cells?_some h1'
      match cs', hlen with
      | [v0, v1, v2, v3, v4, v5], _ =>
        obtain ⟨xs, k, _, _, _, hxl, hfs⟩ := DataW.trod_struct Tryd.underlying35 h2
        have g0 := hfs 0 _ rfl
        have g1 := hfs 1 _ rfl
        have g2 := hfs 2 _ rfl
        have g3 := hfs 3 _ rfl
        have g4 := hfs 4 _ rfl
        have g5 := hfs 5 _ rfl
        have e5 : xs.length = 6 := hxl
        match xs, e5 with
        | [x0, x1, x2, x3, x4, x5], _ =>
          obtain ⟨y0, rfl, w0⟩ := oneP_i64 (v := v0) g0 (by simp [h1])
          obtain ⟨y1, rfl, w1⟩ := oneP_i64 (v := v1) g1 (by simp [h1])
          obtain ⟨y2, rfl, w2⟩ := oneP_i64 (v := v2) g2 (by simp [h1])
          obtain ⟨y3, rfl, w3⟩ := oneP_i64 (v := v3) g3 (by simp [h1])
          obtain ⟨y4, rfl⟩ := oneP_bool (v := v4) g4 (by simp [hb1])
          obtain ⟨bs, a', c', e6, s6, i6, _⟩ := open_byte_elem Tryd.underlying33 Tryd.underlying5 hu1 g5
          have e6 : v5 = .slice a' bs.length c' := by simpa [hs1] using e6
          subst e6
          have q0 := hcl 0 (by omega)
          have q1 := hcl 1 (by omega)
          have q2 := hcl 2 (by omega)
          have q3 := hcl 3 (by omega)
          have q4 := hcl 4 (by omega)
          have q5 := hcl 5 (by omega)
          rw [Deep.add_add] at q0 q1 q2 q3 q4 q5
          obtain ⟨b, off, spot⟩ := a
          obtain rfl : spot = none := hsp (by omega)
          rw [add_plain] at q0 q1 q2 q3 q4 q5
          refine ⟨⟨y0, y1, y2, y3, y4, bs⟩, b, off, rfl, ?_, ?_, ?_, ?_, ?_, ⟨a', c', ?_, s6⟩, i6, w0, w1, w2, w3⟩
          · simpa using q0
          · have := q1; simp at this ⊢; rw [Nat.add_assoc]; exact this
          · have := q2; simp at this ⊢; rw [Nat.add_assoc]; exact this
          · have := q3; simp at this ⊢; rw [Nat.add_assoc]; exact this
          · have := q4; simp at this ⊢; rw [Nat.add_assoc]; exact this
          · have := q5; simp at this ⊢; rw [Nat.add_assoc]; exact this
    let f : Nat → OpP := fun i => if h : i < len0 then (hel i h).choose else ⟨0, 0, 0, 0, false, []⟩
    refine ⟨(List.range len0).map f, ⟨some a, cap0, by simp, fun j hj => ?_⟩, by simp; omega⟩
    have hj' : j < len0 := by simpa using hj
    have e : f j = (hel j hj').choose := by show (if h : j < len0 then (hel j h).choose else ⟨0, 0, 0, 0, false, []⟩) = _; rw [dif_pos hj']
    obtain ⟨b, off, h1, h2⟩ := (hel j hj').choose_spec
    refine ⟨b, off, by rw [h1], ?_⟩
    rw [List.getElem_map, List.getElem_range, e]
    exact h2
end Go.Proofs.YtjffkfcokgcenaaDoor
