/-
  A SEAT HANDED IN BY VALUE (own work): its numbers.
-/
import Derived.Test.YtghjnhdepeiloaaDoorSlM
import Derived.Lib.SmallJoins
namespace Go.Proofs.YtghjnhdepeiloaaDoor
open Go.RowKit Go.ChangeShapes Go.WideShapes

set_option maxRecDepth 100000 in
theorem open_seat {H : Type} {enc : TypeId × Value → H} {W : World} {r : Reach} {b0 : Nat} {v : Value} {d : DataW H} {ps : List MemPlace}
    (hval : Value.okWide Tryd.prog W r b0 23 v) (h : DataW.Trod enc Tryd.prog W 0 (fun _ => true) true 23 v d ps) : ∃ z : SeatM, v = .agg (seatV z) ∧ z.ok := by
  obtain ⟨⟨cs⟩, rfl, hsz⟩ := okWide_struct Tryd.underlying23 hval
  have h4 : Tryd.prog.cellsOf 23 = 4 := by kernel_rfl
  have h1 : Tryd.prog.cellsOf 3 = 1 := by kernel_rfl
  rw [h4] at hsz
  obtain ⟨fuel, hf⟩ := h
  match cs, hsz with
  | [c0, c1, c2, c3], _ =>
    obtain ⟨xs, n, _, _, _, hlen, hfs⟩ := DataW.trod_struct Tryd.underlying23 hf
    have g0 := hfs 0 _ rfl
    have g1 := hfs 1 _ rfl
    have g2 := hfs 2 _ rfl
    have g3 := hfs 3 _ rfl
    have e4 : xs.length = 4 := hlen
    match xs, e4 with
    | [x0, x1, x2, x3], _ =>
      obtain ⟨y0, rfl, w0⟩ := one_i64 (v := c0) g0 (by simp [Value.cells, h1])
      obtain ⟨y1, rfl, w1⟩ := one_i64 (v := c1) g1 (by simp [Value.cells, h1])
      obtain ⟨y2, rfl, w2⟩ := one_i64 (v := c2) g2 (by simp [Value.cells, h1])
      obtain ⟨y3, rfl, w3⟩ := one_i64 (v := c3) g3 (by simp [Value.cells, h1])
      exact ⟨⟨y0, y1, y2, y3⟩, rfl, w0, w1, w2, w3⟩
end Go.Proofs.YtghjnhdepeiloaaDoor
