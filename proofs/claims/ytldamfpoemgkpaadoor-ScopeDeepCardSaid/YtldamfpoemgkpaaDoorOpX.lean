/-
  A CONTEXT, TWO TIMES HANDED IN BY VALUE (own work): their numbers and floats.
-/
import Derived.Test.YtldamfpoemgkpaaDoorCxM
import Derived.ChangeSame
import Derived.Lib.SmallJoins
namespace Go.Proofs.YtldamfpoemgkpaaDoor
open Go.RowKit Go.ChangeShapes Go.WideShapes

set_option maxRecDepth 100000 in
theorem one_int9 {H : Type} {enc : TypeId × Value → H} {W : World} {n : Nat} {cs : List Value} {y : DataW H × List MemPlace} {v : Value} (h : DataW.trod enc Tryd.prog W 0 (fun _ => true) true n 3 cs = some y) (hc : cs = [v]) : ∃ x : Int, v = .int .i64 x := by
  obtain ⟨x, e, _, _⟩ := DataW.trod_int Tryd.underlying3 h
  rw [hc] at e
  exact ⟨x, by simpa using e⟩
set_option maxRecDepth 100000 in
theorem one_float9 {H : Type} {enc : TypeId × Value → H} {W : World} {n : Nat} {cs : List Value} {y : DataW H × List MemPlace} {v : Value} (h : DataW.trod enc Tryd.prog W 0 (fun _ => true) true n 24 cs = some y) (hc : cs = [v]) : ∃ x : Nat, v = .float .f64 x ∧ x < 18446744073709551616 := by
  rw [hc] at h
  cases n with
  | zero => simp [DataW.trod] at h
  | succ n =>
    unfold DataW.trod at h
    rw [Tryd.underlying24] at h
    split at h <;> simp_all
    rename_i hk
    subst hk
    simpa [Lit.wf] using h.1.2
set_option maxRecDepth 100000 in
theorem open_ctx {H : Type} {enc : TypeId × Value → H} {W : World} {r : Reach} {b0 : Nat} {v : Value} {d : DataW H} {ps : List MemPlace}
    (hval : Value.okWide Tryd.prog W r b0 29 v) (h : DataW.Trod enc Tryd.prog W 0 (fun _ => true) true 29 v d ps) : ∃ c : CX, v = .agg c.cells ∧ c.wf := by
  obtain ⟨⟨cs⟩, rfl, hsz⟩ := okWide_struct Tryd.underlying29 hval
  have h5 : Tryd.prog.cellsOf 29 = 5 := by kernel_rfl
  have h1 : Tryd.prog.cellsOf 3 = 1 := by kernel_rfl
  have hf1 : Tryd.prog.cellsOf 24 = 1 := by kernel_rfl
  have h2 : Tryd.prog.cellsOf 23 = 2 := by kernel_rfl
  rw [h5] at hsz
  obtain ⟨fuel, hf⟩ := h
  match cs, hsz with
  | [c0, c1, c2, c3, c4], _ =>
    obtain ⟨xs, n, _, _, _, hlen, hfs⟩ := DataW.trod_struct Tryd.underlying29 hf
    have g0 := hfs 0 _ rfl
    have g1 := hfs 1 _ rfl
    have g2 := hfs 2 _ rfl
    have g3 := hfs 3 _ rfl
    have e4 : xs.length = 4 := hlen
    match xs, e4 with
    | [x0, x1, x2, x3], _ =>
      obtain ⟨y2, rfl⟩ := one_int9 (v := c2) g1 (by simp [Value.cells, h1])
      obtain ⟨y3, rfl⟩ := one_int9 (v := c3) g2 (by simp [Value.cells, h1])
      obtain ⟨y4, rfl, w4⟩ := one_float9 (v := c4) g3 (by simp [Value.cells, hf1])
      obtain ⟨z3, z4, k, _, _, a0, a1⟩ := trod_struct2 Tryd.underlying23 g0
      obtain ⟨y0, rfl⟩ := one_int9 (v := c0) a0 (by simp [Value.cells, h1, h2])
      obtain ⟨y1, rfl⟩ := one_int9 (v := c1) a1 (by simp [Value.cells, h1, h2])
      exact ⟨⟨y0, y1, y2, y3, y4⟩, rfl, w4⟩
set_option maxRecDepth 100000 in
theorem open_times {H : Type} {enc : TypeId × Value → H} {W : World} {r : Reach} {b0 : Nat} {v : Value} {d : DataW H} {ps : List MemPlace}
    (hval : Value.okWide Tryd.prog W r b0 26 v) (h : DataW.Trod enc Tryd.prog W 0 (fun _ => true) true 26 v d ps) : ∃ t l : Nat, v = .agg #[.float .f64 t, .float .f64 l] ∧ t < 18446744073709551616 ∧ l < 18446744073709551616 := by
  obtain ⟨⟨cs⟩, rfl, hsz⟩ := okWide_struct Tryd.underlying26 hval
  have h2 : Tryd.prog.cellsOf 26 = 2 := by kernel_rfl
  have hf1 : Tryd.prog.cellsOf 24 = 1 := by kernel_rfl
  rw [h2] at hsz
  obtain ⟨fuel, hf⟩ := h
  match cs, hsz with
  | [c0, c1], _ =>
    obtain ⟨z3, z4, k, _, _, a0, a1⟩ := trod_struct2 Tryd.underlying26 hf
    obtain ⟨y0, rfl, w0⟩ := one_float9 (v := c0) a0 (by simp [Value.cells, hf1])
    obtain ⟨y1, rfl, w1⟩ := one_float9 (v := c1) a1 (by simp [Value.cells, hf1])
    exact ⟨y0, y1, rfl, w0, w1⟩
end Go.Proofs.YtldamfpoemgkpaaDoor
