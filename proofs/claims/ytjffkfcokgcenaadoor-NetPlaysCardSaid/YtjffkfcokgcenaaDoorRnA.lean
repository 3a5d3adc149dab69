/-
  THE DOCUMENT's NET (own work): its blocks; has, There.
-/
import Derived.Test.YtjffkfcokgcenaaDoorRwG
import Derived.Test.YtjffkfcokgcenaaDoorNetM
import Derived.Test.YtjffkfcokgcenaaDoorAsdW
import Derived.Test.YtjffkfcokgcenaaDoorSlB
import Derived.Lib.Hide
import Derived.LoopTactic
import Derived.Deep.RegionHeld3
namespace Go.Proofs.YtjffkfcokgcenaaDoor
open Go.RowKit Go.ChangeShapes Go.WideShapes

theorem cell_row {b i : Nat} {t : TypeId} {w : World} {cs : Array Value} {x : Nat × Nat} {v : Value} (h : w.heap[b]? = some (.cells cs t x)) (hv : cs[i]? = some v) : w.cell? ⟨b, i, none⟩ = some v := by
  unfold World.cell?
  dsimp only
  rw [h]
  exact hv
/-- a letter of the document: its bytes as a text -/
def ltE : EncG LtM where
  enc l := [.int .i64 l.a, .int .i64 l.b, .string (strOfNums l.d)]
  k := 3
  len := fun _ => rfl
  one := by
    intro x u hu
    simp only [List.mem_cons, List.not_mem_nil, or_false] at hu
    rcases hu with rfl | rfl | rfl <;> rfl
/-- the rows of ways: the blocks where they lie -/
def wayE (n : Nat) : EncG Nat where
  enc b := [.slice (some ⟨b, 0, none⟩) n n]
  k := 1
  len := fun _ => rfl
  one := by
    intro x u hu
    rw [List.mem_singleton.1 hu]
    rfl
theorem info_ltR0 : (Tryd.prog.info? 47).map (fun i => (i.zero, i.size, i.bytes)) = some (some (.agg #[.int .i64 0, .int .i64 0, .string (strOfNums [])]), 3, 32) := by kernel_rfl
theorem info_ltR : ∃ i0, Tryd.prog.info? 47 = some i0 ∧ i0.zero = some (.agg #[.int .i64 0, .int .i64 0, .string (strOfNums [])]) ∧ i0.size = 3 ∧ i0.bytes = 32 := by
  have h := info_ltR0
  cases g : Tryd.prog.info? 47 with
  | none => rw [g] at h; cases h
  | some i0 =>
    rw [g] at h
    simp only [Option.map_some, Option.some.injEq, Prod.mk.injEq] at h
    exact ⟨i0, rfl, h.1, h.2.1, h.2.2⟩
theorem ty_ltR : TyG Tryd.prog 38 47 3 (.agg #[.int .i64 0, .int .i64 0, .string (strOfNums [])]) 32 := ⟨Tryd.underlying38, info_ltR, rfl, by decide⟩
theorem info_bsR0 : (Tryd.prog.info? 54).map (fun i => (i.zero, i.size, i.bytes)) = some (some (.slice none 0 0), 1, 24) := by kernel_rfl
theorem info_bsR : ∃ i0, Tryd.prog.info? 54 = some i0 ∧ i0.zero = some (.slice none 0 0) ∧ i0.size = 1 ∧ i0.bytes = 24 := by
  have h := info_bsR0
  cases g : Tryd.prog.info? 54 with
  | none => rw [g] at h; cases h
  | some i0 =>
    rw [g] at h
    simp only [Option.map_some, Option.some.injEq, Prod.mk.injEq] at h
    exact ⟨i0, rfl, h.1, h.2.1, h.2.2⟩
theorem ty_bbR : TyG Tryd.prog 39 54 1 (.slice none 0 0) 24 := ⟨Tryd.underlying39, info_bsR, rfl, by decide⟩
/-- THE DOCUMENT's NET: its block, its letters, its ways -/
structure Rn (w0 : World) (q : Nat) (m : NetM) (v vc : Value) (rb : List Nat) (w : World) : Prop where
  row : w.heap[q]? = some (.cells #[.int .i64 m.n, v, vc, .int .i64 m.lost] 41 (0, 0))
  bq : w0.heap.size ≤ q
  own : w.ownsRow w0.heap.size 47 3 v m.f.length (ltE.row m.f)
  cuts : w.ownsRow w0.heap.size 54 1 vc m.n ((wayE m.n).row rb)
  rows : ∀ (i : Nat) (h : i < rb.length), w0.heap.size ≤ rb[i] ∧ w.heap[rb[i]]? = some (.cells ((m.cut.getD i []).map Value.bool).toArray 4 (0, 0))
  nd : rb.Nodup
def On (q : Nat) (v vc : Value) (rb : List Nat) (b : Nat) : Prop := b = q ∨ v.ownBlock = some b ∨ vc.ownBlock = some b ∨ b ∈ rb
variable {w0 w w' W w3 : World} {q : Nat} {m : NetM} {v v' vc : Value} {rb : List Nat}
theorem Rn.rbl (h : Rn w0 q m v vc rb w) : rb.length = m.n := own_lenG (E := wayE m.n) Nat.zero_lt_one h.cuts
theorem Rn.mem (h : Rn w0 q m v vc rb w) : ∀ b, On q v vc rb b → w0.heap.size ≤ b ∧ b < w.heap.size := by
  rintro b (rfl | hb | hb | hb)
  · exact ⟨h.bq, old_of_row h.row⟩
  · exact h.own.lt b hb
  · exact h.cuts.lt b hb
  · obtain ⟨i, hi, rfl⟩ := List.getElem_of_mem hb
    exact ⟨(h.rows i hi).1, old_of_row (h.rows i hi).2⟩
theorem Rn.stay (h : Rn w0 q m v vc rb w) (hb : ∀ b, On q v vc rb b → w'.heap[b]? = w.heap[b]?) : Rn w0 q m v vc rb w' :=
  ⟨by rw [hb q (.inl rfl)]; exact h.row, h.bq, own_stayG h.own (fun b e => hb b (.inr (.inl e))), own_stayG h.cuts (fun b e => hb b (.inr (.inr (.inl e)))),
   fun i hi => ⟨(h.rows i hi).1, by rw [hb _ (.inr (.inr (.inr (List.getElem_mem hi))))]; exact (h.rows i hi).2⟩, h.nd⟩
theorem Rn.kp (h : Rn w0 q m v vc rb w) (hk : Kp w w') : Rn w0 q m v vc rb w' := h.stay fun b hb => Below.block hk b (h.mem b hb).2
theorem Rn.form (h : Rn w0 q m v vc rb w) : ∃ a cp, v = .slice a m.f.length cp := own_formG h.own
/-- a way's cell -/
theorem Rn.way (h : Rn w0 q m v vc rb w) (hm : Nok m) {a b : Int} (ha : m.has a = true) (hb : m.has b = true) : ∃ bc cc r, vc = .slice (some ⟨bc, 0, none⟩) m.n cc ∧ w.cell? ⟨bc, a.toNat, none⟩ = some (.slice (some ⟨r, 0, none⟩) m.n m.n) ∧ w.cell? ⟨r, b.toNat, none⟩ = some (.bool (m.isCut a b)) ∧ r ∈ rb := by
  unfold NetM.has at ha hb
  simp only [Bool.and_eq_true, decide_eq_true_eq] at ha hb
  have hl := h.rbl
  have hi : a.toNat < rb.length := by omega
  have hr := hm.rows
  have hi2 : a.toNat < m.cut.length := by omega
  have hc := hm.cols m.cut[a.toNat] (List.getElem_mem hi2)
  rcases h.cuts.2 with ⟨rfl, h0⟩ | ⟨bc, cc, cur, rfl, hg, hh, hrest⟩
  · omega
  · refine ⟨bc, cc, rb[a.toNat], rfl, ?_, ?_, List.getElem_mem hi⟩
    · have h1 := h.cuts.cells rfl a.toNat (.slice (some ⟨rb[a.toNat], 0, none⟩) m.n m.n) (by
        have := row_at (wayE m.n) rb a.toNat hi 0 Nat.zero_lt_one
        simpa [wayE] using this)
      rw [Addr.add_lit, Nat.zero_add] at h1
      exact h1
    · refine cell_row (h.rows _ hi).2 ?_
      unfold NetM.isCut
      have hbl : b.toNat < (m.cut[a.toNat]).length := by omega
      simp [List.getD_eq_getElem?_getD, List.getElem?_eq_getElem hi2, List.getElem?_eq_getElem hbl]
set_option maxRecDepth 100000 in
theorem rnHas_any (H : Rn w0 q m v vc rb w) (i : Int) : Calls Tryd.prog 41 #[.pointer (some ⟨q, 0, none⟩), .int .i64 i] w fun r w' => r = .returned (.bool (m.has i)) ∧ w = w' := by
  obtain ⟨n, hn⟩ : ∃ n : Int, (m.n : Int) = n := ⟨_, rfl⟩
  have e0 := cell_row (i := 0) H.row rfl
  unfold NetM.has
  rw [hn] at e0 ⊢
  clear H hn
  by_cases h0 : 0 ≤ i
  · have g0 : decide (i ≥ 0) = true := decide_eq_true h0
    have g1 : decide (0 ≤ i) = true := decide_eq_true h0
    rw [g1, Bool.true_and]
    clear h0
    go_enter Tryd.func41, Tryd.ntmps41
    go_wp2
    go_ret
    exact ⟨rfl, rfl⟩
  · have g0 : decide (i ≥ 0) = false := decide_eq_false h0
    have g1 : decide (0 ≤ i) = false := decide_eq_false h0
    rw [g1, Bool.false_and]
    clear h0
    go_enter Tryd.func41, Tryd.ntmps41
    go_wp2
    go_ret
    exact ⟨rfl, rfl⟩
set_option maxRecDepth 100000 in
theorem rnThere_any (H : Rn w0 q m v vc rb w) (i : Int) : Calls Tryd.prog 42 #[.pointer (some ⟨q, 0, none⟩), .int .i64 i] w fun r w' => r = .returned (.bool (m.there i)) ∧ w = w' := by
  obtain ⟨a, cp, rfl⟩ := H.form
  have e0 := cell_row (i := 1) H.row rfl
  unfold NetM.there
  obtain ⟨k, hk⟩ : ∃ k, m.f.length = k := ⟨_, rfl⟩
  rw [hk] at e0 ⊢
  obtain ⟨n, hn⟩ : ∃ n : Int, (k : Int) = n := ⟨_, rfl⟩
  rw [hn]
  clear H hk
  by_cases h0 : 0 ≤ i
  · have g0 : decide (i ≥ 0) = true := decide_eq_true h0
    have g1 : decide (0 ≤ i) = true := decide_eq_true h0
    rw [g1, Bool.true_and]
    clear h0
    go_enter Tryd.func42, Tryd.ntmps42
    go_wp2
    go_ret
    exact ⟨rfl, rfl⟩
  · have g0 : decide (i ≥ 0) = false := decide_eq_false h0
    have g1 : decide (0 ≤ i) = false := decide_eq_false h0
    rw [g1, Bool.false_and]
    clear h0
    go_enter Tryd.func42, Tryd.ntmps42
    go_wp2
    go_ret
    exact ⟨rfl, rfl⟩
end Go.Proofs.YtjffkfcokgcenaaDoor
