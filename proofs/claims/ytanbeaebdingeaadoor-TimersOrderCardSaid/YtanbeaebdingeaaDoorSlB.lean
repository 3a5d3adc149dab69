/-
  SLICES OF BYTES (own work): read as a list of numbers; as a string.
-/
import Derived.Test.YtanbeaebdingeaaDoorKp
import Derived.Deep.Slices
import Derived.ProofKit
import Derived.Laws.BytesArg
import Derived.Shelf.Bytes.SlSmallAll
namespace Go.Proofs.YtanbeaebdingeaaDoor
open Go.RowKit Go.ChangeShapes Go.WideShapes

/-- THE SLICE VALUE v READS AS THE BYTES bs. -/
def SlB (v : Value) (bs : List Int) (w : World) : Prop :=
  (bs = [] ∧ ∃ (a : Option Addr) (cap : Nat), v = .slice a 0 cap ∧ (a = none → cap = 0)) ∨
  ∃ b off cap, 0 < bs.length ∧ v = .slice (some ⟨b, off, none⟩) bs.length cap ∧ ∀ j, j < bs.length → w.cell? ⟨b, off + j, none⟩ = some (.int .u8 (bs.getD j 0))
/-- EACH IS A BYTE. -/
def InB (bs : List Int) : Prop := ∀ x ∈ bs, 0 ≤ x ∧ x < 256

theorem SlB.kp {v : Value} {bs : List Int} {w w' : World} (h : SlB v bs w) (hb : Kp w w') : SlB v bs w' := by
  rcases h with h | ⟨b, off, cap, h0, h1, h2⟩
  · exact Or.inl h
  · exact Or.inr ⟨b, off, cap, h0, h1, fun j hj => kp_cell hb (h2 j hj)⟩
theorem SlB.form {v : Value} {bs : List Int} {w : World} (h : SlB v bs w) : ∃ a cap, v = .slice a bs.length cap := by
  rcases h with ⟨rfl, a, cap, rfl, _⟩ | ⟨b, off, cap, _, rfl, _⟩
  · exact ⟨a, cap, rfl⟩
  · exact ⟨_, cap, rfl⟩
theorem SlB.at {a : Option Addr} {n cap : Nat} {bs : List Int} {w : World} (h : SlB (.slice a n cap) bs w) (j : Nat) (hj : j < bs.length) : ∃ b off, a = some ⟨b, off, none⟩ ∧ w.cell? ⟨b, off + j, none⟩ = some (.int .u8 (bs.getD j 0)) := by
  rcases h with ⟨hz, _⟩ | ⟨b, off, cap', _, hv, hcc⟩
  · rw [hz] at hj; cases hj
  · injection hv with hv1 _ _
    exact ⟨b, off, hv1, hcc j hj⟩

theorem byte_wf {x : Int} (h : (Lit.int .u8 x).wf = true) : 0 ≤ x ∧ x < 256 := by
  have h1 : IntKind.u8.min = 0 := rfl
  have h2 : IntKind.u8.max = 255 := rfl
  simp only [Lit.wf, Bool.and_eq_true, decide_eq_true_eq] at h
  omega
theorem trod_byte0 {H : Type} {enc : TypeId × Value → H} {P : Program} {w : World} {base : Nat} {spare : Nat → Bool} {held : Bool} {fuel : Nat} {t : TypeId} {cs : List Value} {x : DataW H × List MemPlace}
    (ht : P.underlying t = some (.int .u8)) (h : DataW.trod enc P w base spare held fuel t cs = some x) : ∃ b, cs = [.int .u8 b] ∧ x = (.lit (.int .u8 b), []) ∧ (Lit.int .u8 b).wf = true := by
  cases fuel with
  | zero => simp [DataW.trod] at h
  | succ n =>
    unfold DataW.trod at h
    rw [ht] at h
    split at h <;> simp_all
theorem trod_byte {H : Type} {enc : TypeId × Value → H} {P : Program} {w : World} {base : Nat} {spare : Nat → Bool} {held : Bool} {fuel : Nat} {t : TypeId} {cs : List Value} {x : DataW H × List MemPlace}
    (ht : P.underlying t = some (.int .u8)) (h : DataW.trod enc P w base spare held fuel t cs = some x) : ∃ b, cs = [.int .u8 b] ∧ 0 ≤ b ∧ b < 256 := by
  obtain ⟨b, h1, _, h2⟩ := trod_byte0 ht h
  exact ⟨b, h1, byte_wf h2⟩

theorem open_byte_elem {H : Type} {enc : TypeId × Value → H} {P : Program} {W : World} {fuel : Nat} {t e : TypeId} {cs : List Value} {x : DataW H × List MemPlace}
    (ht : P.underlying t = some (.slice e)) (he : P.underlying e = some (.int .u8)) (hc : P.cellsOf e = 1)
    (hf : DataW.trod enc P W 0 (fun _ => true) true fuel t cs = some x) : ∃ (bs : List Int) (a : Option Addr) (c : Nat), cs = [.slice a bs.length c] ∧ SlB (.slice a bs.length c) bs W ∧ InB bs ∧ bs.length ≤ maxLen ∧ bs.length ≤ c := by
  rcases Deep.open_slice1 ht hc hf with ⟨hcs, hx⟩ | ⟨a, len, cap, m, n, V, D, Pl, hcs, _, hl, hm, hmm, hx, hcell⟩
  · exact ⟨[], none, 0, hcs, Or.inl ⟨rfl, none, 0, rfl, fun _ => rfl⟩, (fun x hx => by cases hx), by simp, by simp⟩
  · simp only [if_true] at hmm
    have hel : ∀ i, i < len → ∃ b, V i = .int .u8 b ∧ 0 ≤ b ∧ b < 256 := by
      intro i hi
      obtain ⟨b, h1, h2⟩ := trod_byte he (hcell i (by omega)).2
      exact ⟨b, by simpa using h1, h2⟩
    let f : Nat → Int := fun i => match V i with | .int _ b => b | _ => 0
    have hf' : ∀ i, i < len → V i = .int .u8 (f i) ∧ 0 ≤ f i ∧ f i < 256 := by
      intro i hi
      obtain ⟨b, h1, h2⟩ := hel i hi
      have : f i = b := by show (match V i with | .int _ b => b | _ => 0) = b; rw [h1]
      rw [this]; exact ⟨h1, h2⟩
    refine ⟨(List.range len).map f, some a, cap, by simpa using hcs, ?_, ?_, by simp; omega, by simpa using hl⟩
    · by_cases h0 : len = 0
      · subst h0; exact Or.inl ⟨by simp, some a, cap, rfl, fun h => by cases h⟩
      · obtain ⟨b, off, spot⟩ := a
        have hspot : spot = none := by simpa [Addr.add] using World.cell?_spot (hcell 0 (by omega)).1
        subst hspot
        refine Or.inr ⟨b, off, cap, by simp; omega, by simp, fun j hj => ?_⟩
        have hj' : j < len := by simpa using hj
        rw [← add_plain, (hcell j (by omega)).1, (hf' j hj').1]
        simp [List.getD, hj']
    · intro b hb
      obtain ⟨i, hi, rfl⟩ := List.mem_map.1 hb
      exact (hf' i (by simpa using hi)).2

theorem open_bytes {H : Type} {enc : TypeId × Value → H} {P : Program} {W : World} {r : Reach} {b0 : Nat} {t e : TypeId} {v : Value} {d : DataW H} {ps : List MemPlace}
    (ht : P.underlying t = some (.slice e)) (he : P.underlying e = some (.int .u8)) (hc : P.cellsOf e = 1) (hval : Value.okWide P W r b0 t v)
    (h : DataW.Trod enc P W 0 (fun _ => true) true t v d ps) : ∃ (bs : List Int) (a : Option Addr) (c : Nat), v = .slice a bs.length c ∧ SlB (.slice a bs.length c) bs W ∧ InB bs ∧ bs.length ≤ maxLen ∧ bs.length ≤ c := by
  obtain ⟨a0, len0, cap0, rfl⟩ := okWide_slice ht hval
  obtain ⟨fuel, hf⟩ := h
  obtain ⟨bs, a, c, hcs, h1, h2, h3⟩ := open_byte_elem ht he hc hf
  simp [Value.cells] at hcs
  obtain ⟨rfl, rfl, rfl⟩ := hcs
  exact ⟨bs, a0, cap0, rfl, h1, h2, h3⟩

/-- string(b). -/
theorem conv_slb {w : World} {v : Value} {bs : List Int} (h : SlB v bs w) : (convert 51 9 v).run Tryd.prog w = .ok (.string (strOfNums bs)) w := by
  rcases h with ⟨rfl, a, cap, rfl, _⟩ | ⟨b, off, cap, h0, rfl, hc⟩
  · exact run_convert_bytes_zero w 51 5 Tryd.underlying51 Tryd.underlying5 a cap 9 Tryd.underlying9
  · exact run_convert_bytes_arg w 51 5 Tryd.underlying51 Tryd.underlying5 b off _ cap bs rfl hc 9 Tryd.underlying9

theorem str_inj {xs ys : List Int} (hx : InB xs) (hy : InB ys) (h : strOfNums xs = strOfNums ys) : xs = ys := by
  have h1 : (strOfNums xs).data.toList = (strOfNums ys).data.toList := by rw [h]
  rw [strOfNums_data, strOfNums_data] at h1
  clear h
  induction xs generalizing ys with
  | nil =>
    cases ys with
    | nil => rfl
    | cons y ys => simp at h1
  | cons x xs ih =>
    cases ys with
    | nil => simp at h1
    | cons y ys =>
      simp only [List.map_cons, List.cons.injEq] at h1
      have hx0 := hx x (by simp)
      have hy0 := hy y (by simp)
      have e : x = y := by
        have := congrArg UInt8.toNat h1.1
        simp at this
        omega
      rw [e, ih (fun z hz => hx z (by simp [hz])) (fun z hz => hy z (by simp [hz])) h1.2]

theorem own_slb {w : World} {base n : Nat} {v : Value} {bs : List Int} (h : w.ownsRow base 5 1 v n (bs.map (Value.int .u8))) : SlB v bs w := by
  obtain ⟨h1, h2⟩ := h
  have hlen : bs.length = n := by simpa using h1
  rcases h2 with ⟨rfl, hn⟩ | ⟨g, cap, cur, rfl, hg, hh, hc, hm, hs, ht⟩
  · left
    exact ⟨List.length_eq_zero_iff.1 (by omega), none, 0, rfl, fun _ => rfl⟩
  · by_cases h0 : n = 0
    · left
      subst h0
      exact ⟨List.length_eq_zero_iff.1 (by omega), _, cap, rfl, fun h => by cases h⟩
    · right
      refine ⟨g, 0, cap, by omega, by rw [hlen], fun j hj => ?_⟩
      unfold World.cell?
      dsimp only
      rw [hh]
      simp only [Option.isSome_none, Bool.false_eq_true, if_false, Nat.zero_add]
      have : (cur.toList.take (n * 1))[j]? = some (.int .u8 (bs.getD j 0)) := by
        rw [ht]; simp [List.getD, hj]
      rw [List.getElem?_take, Nat.mul_one, if_pos (by omega)] at this
      simpa using this

/-- WHAT AN append OF SUCH A SLICE ASKS. -/
theorem SlB.app {ao : Option Addr} {n c : Nat} {bs : List Int} {w : World} (h : SlB (.slice ao n c) bs w) : (ao = none → n = 0 ∧ c = 0) ∧ ∀ ad, ao = some ad → ∀ j u, (bs.map (Value.int .u8))[j]? = some u → w.cell? (ad.add j) = some u := by
  rcases h with ⟨rfl, a, cap, hv, hn⟩ | ⟨b, off, cap, h0, hv, hc⟩
  · injection hv with h1 h2 h3
    subst h1 h2 h3
    exact ⟨fun h => ⟨rfl, hn h⟩, fun ad _ j u hj => by simp at hj⟩
  · injection hv with h1 h2 h3
    subst h1 h2 h3
    refine ⟨(fun h => by cases h), fun ad had j u hj => ?_⟩
    injection had with had
    subst had
    rw [List.getElem?_map] at hj
    cases hb : bs[j]? with
    | none => rw [hb] at hj; simp at hj
    | some x =>
      rw [hb] at hj
      have hx : Value.int .u8 x = u := by simpa using hj
      have hjl : j < bs.length := by
        rcases Nat.lt_or_ge j bs.length with q | q
        · exact q
        · rw [List.getElem?_eq_none q] at hb; cases hb
      rw [add_plain, hc j hjl, ← hx]
      simp [List.getD, hb]
theorem bytes_one (bs : List Int) : ∀ u ∈ bs.map (Value.int .u8), u.oneCell' = true := by
  intro u hu
  obtain ⟨x, _, rfl⟩ := List.mem_map.1 hu
  rfl

theorem info_byte : (Tryd.prog.info? 5).map (fun i => (i.zero, i.size, i.bytes)) = some (some (.int .u8 0), 1, 1) := by kernel_rfl
end Go.Proofs.YtanbeaebdingeaaDoor
