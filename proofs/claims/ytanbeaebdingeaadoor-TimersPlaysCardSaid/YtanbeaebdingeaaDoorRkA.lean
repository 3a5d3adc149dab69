/-
  THE DOCUMENT's CLOCK (own work): its blocks; Find, Tick.
-/
import Derived.Test.YtanbeaebdingeaaDoorTmC
import Derived.Deep.RegionHeld3
import Derived.LoopTactic
namespace Go.Proofs.YtanbeaebdingeaaDoor
open Go.RowKit Go.ChangeShapes Go.WideShapes

/-- a timer of the document -/
def tmE : EncG Tm where
  enc t := [encStr t.k, .float .f64 t.a, .int .i64 t.n, .float .f64 t.b, .float .f64 t.m]
  k := 5
  len := fun _ => rfl
  one := by
    intro x u hu
    simp only [List.mem_cons, List.not_mem_nil, or_false] at hu
    rcases hu with rfl | rfl | rfl | rfl | rfl <;> rfl
theorem info_rt0 : (Tryd.prog.info? 47).map (fun i => (i.zero, i.size, i.bytes)) = some (some (.agg #[.string ⟨#[]⟩, .float .f64 0, .int .i64 0, .float .f64 0, .float .f64 0]), 5, 48) := by kernel_rfl
theorem info_rt : ∃ i0, Tryd.prog.info? 47 = some i0 ∧ i0.zero = some (.agg #[.string ⟨#[]⟩, .float .f64 0, .int .i64 0, .float .f64 0, .float .f64 0]) ∧ i0.size = 5 ∧ i0.bytes = 48 := by
  have h := info_rt0
  cases g : Tryd.prog.info? 47 with
  | none => rw [g] at h; cases h
  | some i0 =>
    rw [g] at h
    simp only [Option.map_some, Option.some.injEq, Prod.mk.injEq] at h
    exact ⟨i0, rfl, h.1, h.2.1, h.2.2⟩
theorem ty_rt : TyG Tryd.prog 29 47 5 (.agg #[.string ⟨#[]⟩, .float .f64 0, .int .i64 0, .float .f64 0, .float .f64 0]) 48 := ⟨Tryd.underlying29, info_rt, rfl, by decide⟩
/-- THE DOCUMENT's CLOCK: its block, its timers -/
structure Rk (w0 : World) (q : Nat) (c : CkM) (v : Value) (w : World) : Prop where
  row : w.heap[q]? = some (.cells #[.float .f64 c.now, v] 31 (0, 0))
  bq : w0.heap.size ≤ q
  own : w.ownsRow w0.heap.size 47 5 v c.ts.length (tmE.row c.ts)
def Or (q : Nat) (v : Value) (b : Nat) : Prop := b = q ∨ v.ownBlock = some b
variable {w0 w w' W w3 : World} {q : Nat} {c : CkM} {v v' : Value}
theorem Rk.mem (h : Rk w0 q c v w) : ∀ b, Or q v b → w0.heap.size ≤ b ∧ b < w.heap.size := by
  rintro b (rfl | hb)
  · exact ⟨h.bq, old_of_row h.row⟩
  · exact h.own.lt b hb
theorem Rk.stay (h : Rk w0 q c v w) (hb : ∀ b, Or q v b → w'.heap[b]? = w.heap[b]?) : Rk w0 q c v w' :=
  ⟨by rw [hb q (.inl rfl)]; exact h.row, h.bq, own_stayG h.own (fun b e => hb b (.inr e))⟩
theorem Rk.kp (h : Rk w0 q c v w) (hk : Kp w w') : Rk w0 q c v w' := h.stay fun b hb => Below.block hk b (h.mem b hb).2
theorem Rk.base {w1 : World} (h : Rk w0 q c v w) (hb : w1.heap.size ≤ w0.heap.size) : Rk w1 q c v w := ⟨h.row, Nat.le_trans hb h.bq, own_baseG h.own hb⟩
theorem Rk.ne (h : Rk w0 q c v w) : v.ownBlock ≠ some q := fun e => by
  rcases h.own.2 with ⟨rfl, _⟩ | ⟨g', cap, cur, rfl, _, hh, _⟩
  · cases e
  · have e2 : g' = q := by injection e
    subst e2
    rw [h.row] at hh
    injection hh with hh
    injection hh with _ hh
    exact absurd hh (by decide)
/-- a timer's cells -/
theorem Rk.cell (h : Rk w0 q c v w) {j : Nat} (hj : j < c.ts.length) : ∃ g cp, v = .slice (some ⟨g, 0, none⟩) c.ts.length cp ∧ ∀ (i : Nat) (u : Value), i < 5 → (tmE.enc c.ts[j])[i]? = some u → w.cell? ⟨g, j * 5 + i, none⟩ = some u := by
  rcases h.own.2 with ⟨rfl, h0⟩ | ⟨g, cp, cur, rfl, hg, hh, _⟩
  · omega
  · refine ⟨g, cp, rfl, fun i u hi hu => ?_⟩
    have := h.own.cells rfl (j * 5 + i) u (by rw [← hu]; exact row_at tmE c.ts j hj i hi)
    rw [Addr.add_lit, Nat.zero_add] at this
    exact this
theorem Rk.form (h : Rk w0 q c v w) : ∃ a cp, v = .slice a c.ts.length cp := own_formG h.own
/-- where a key's timer stands -/
def CkM.findI (c : CkM) (k : List UInt8) : Int := if c.idx k < c.ts.length then (c.idx k : Int) else -1
theorem findI_at {k : List UInt8} {j : Nat} (hj : j < c.ts.length) (h1 : ∀ i (hi : i < c.ts.length), i < j → (c.ts[i]).k ≠ k) (h2 : (c.ts[j]).k = k) : c.findI k = j := by
  unfold CkM.findI
  rw [idx_of hj h1 h2, if_pos hj]
theorem findI_no {k : List UInt8} (h : ∀ i (hi : i < c.ts.length), (c.ts[i]).k ≠ k) : c.findI k = -1 := by
  unfold CkM.findI
  rw [if_neg]
  intro e
  exact h _ e (idx_key e)
theorem findI_neg (k : List UInt8) : c.findI k < 0 ↔ c.has k = false := by
  unfold CkM.findI
  by_cases h : c.idx k < c.ts.length
  · rw [if_pos h, idx_lt.1 h]
    constructor
    · intro g; omega
    · intro g; cases g
  · rw [if_neg h]
    constructor
    · intro _
      cases hh : c.has k with
      | false => rfl
      | true => exact absurd (idx_lt.2 hh) h
    · intro _; omega
theorem enc_ne {x y : List UInt8} {s t : ByteArray} (hs : (⟨x.toArray⟩ : ByteArray) = s) (ht : (⟨y.toArray⟩ : ByteArray) = t) (h : x ≠ y) : (s.toList == t.toList) = false ∧ s ≠ t := by
  have hst : s ≠ t := fun e => h (by
    have : encStr x = encStr y := by unfold encStr; rw [hs, ht, e]
    exact encStr_inj this)
  refine ⟨?_, hst⟩
  · rw [beq_eq_false_iff_ne, ← hs, ← ht, Lib.toList_data, Lib.toList_data]
    exact h
set_option maxRecDepth 100000 in
set_option maxHeartbeats 1000000 in
theorem rkFind (H : Rk w0 q c v w) (hn64 : c.ts.length ≤ 64) (k : List UInt8) : Calls Tryd.prog 20 #[.pointer (some ⟨q, 0, none⟩), encStr k] w fun r w' => r = .returned (.int .i64 (c.findI k)) ∧ Kp w w' := by
  obtain ⟨av, cv, rfl⟩ := H.form
  have e1 : w.cell? ⟨q, 1, none⟩ = some (.slice av c.ts.length cv) := cell_row (i := 1) H.row rfl
  obtain ⟨m, hm⟩ : ∃ m, c.ts.length = m := ⟨_, rfl⟩
  obtain ⟨L, hL⟩ : ∃ L : Int, (m : Int) = L := ⟨_, rfl⟩
  rw [hm] at e1
  have HH := Lib.hid H
  have HM := Lib.hid hm
  have HML := Lib.hid hL
  obtain ⟨s, hs⟩ : ∃ s, (⟨k.toArray⟩ : ByteArray) = s := ⟨_, rfl⟩
  have HS := Lib.hid hs
  unfold encStr
  rw [hs]
  have hsf := store_fl
  clear H hm hs
  go_enter Tryd.func20, Tryd.ntmps20
  go_wp2
  go_loopw [12] (fun i wr => ∃ j : Nat, j ≤ m ∧ i = .int .i64 j ∧ (∀ p (hp : p < c.ts.length), p < j → (c.ts[p]).k ≠ k) ∧ Kp w wr) (fun i _ => m - (intOf i).toNat)
  case atStart => exact ⟨0, Nat.zero_le _, rfl, fun p _ h => by omega, Kp.refl _⟩
  case round =>
    obtain ⟨j, hj, rfl, hq, hk⟩ := hrel
    have KR := Lib.hid hk
    have HQ := Lib.hid hq
    obtain ⟨jj, hjj⟩ : ∃ jj : Int, (j : Int) = jj := ⟨_, rfl⟩
    rw [hjj]
    have HJ := Lib.hid hjj
    have hLL := HML.out
    by_cases hlt : j < m
    · have hjl : jj < L := by omega
      have hj0 : 0 ≤ jj := by omega
      have hLm : L ≤ 64 := by have := HM.out; omega
      have htn : jj.toNat = j := by omega
      have hjo : j < c.ts.length := by rw [HM.out]; exact hlt
      obtain ⟨g, cp, ev, hcell⟩ := (HH.out.kp hk).cell hjo
      injection ev with ev _ _
      subst ev
      obtain ⟨⟨tk, ta, tn, tb, tm⟩, ht⟩ : ∃ t, c.ts[j] = t := ⟨_, rfl⟩
      rw [ht, ← htn] at hcell
      obtain ⟨s1, hs1⟩ : ∃ s, (⟨tk.toArray⟩ : ByteArray) = s := ⟨_, rfl⟩
      have x0 : wr.cell? ⟨g, jj.toNat * 5, none⟩ = some (.string s1) := by rw [← hs1]; exact hcell 0 _ (by decide) rfl
      have x1 : wr.cell? ⟨g, jj.toNat * 5 + 1, none⟩ = some (.float .f64 ta) := hcell 1 _ (by decide) rfl
      have x2 : wr.cell? ⟨g, jj.toNat * 5 + 2, none⟩ = some (.int .i64 tn) := hcell 2 _ (by decide) rfl
      have x3 : wr.cell? ⟨g, jj.toNat * 5 + 3, none⟩ = some (.float .f64 tb) := hcell 3 _ (by decide) rfl
      have x4 : wr.cell? ⟨g, jj.toNat * 5 + 4, none⟩ = some (.float .f64 tm) := hcell 4 _ (by decide) rfl
      have y0 : (wr.alloc (.cells #[.string s1, .float .f64 ta, .int .i64 tn, .float .f64 tb, .float .f64 tm] 47)).cell? ⟨wr.heap.size, 0, none⟩ = some (.string s1) := cell_row (i := 0) (MapKept.heap_alloc wr (.cells #[.string s1, .float .f64 ta, .int .i64 tn, .float .f64 tb, .float .f64 tm] 47)).1 rfl
      have HT := Lib.hid ht
      have KN := Lib.hid (Kp.trans hk (kp_alloc wr (.cells #[.string s1, .float .f64 ta, .int .i64 tn, .float .f64 tb, .float .f64 tm] 47)))
      have HLT := Lib.hid hlt
      have HJO := Lib.hid hjo
      by_cases he : tk = k
      · have hes : s1 = s := by rw [← hs1, he]; exact HS.out
        have HE := Lib.hid he
        subst hes
        have HS1 := Lib.hid hs1
        clear hcell ht hk hq hjj hj hlt he hLL hs1 htn
        go_wp2
        go_ret
        refine ⟨?_, KN.out⟩
        rw [findI_at HJO.out HQ.out (by rw [HT.out]; exact HE.out), HJ.out]
        try rfl
      · obtain ⟨b1, b2⟩ := enc_ne hs1 HS.out he
        have HE := Lib.hid he
        have hw1 : wrap64 (jj + 1) = jj + 1 := IntWalk.wrap64_in _ (by omega)
        clear hcell ht hk hq hjj hj hlt he hLL hs1 htn
        go_wp2
        go_roundw
        case rel => exact ⟨j + 1, by have := HLT.out; omega, by have := HJ.out; rw [show ((j + 1 : Nat) : Int) = jj + 1 by omega], fun p hp hp2 => by
          rcases Nat.lt_or_eq_of_le (Nat.le_of_lt_succ hp2) with g | rfl
          · exact HQ.out p hp g
          · rw [HT.out]; exact HE.out, KN.out⟩
        case measure => have := HJ.out; have := HLT.out; simp [intOf]; omega
    · have hje : ¬ jj < L := by omega
      have hno : ∀ i (hi : i < c.ts.length), (c.ts[i]).k ≠ k := fun i hi => hq i hi (by have := HM.out; omega)
      have HN := Lib.hid (findI_no hno)
      clear hk hq hjj hj hlt hLL hno
      go_wp2
      go_ret
      exact ⟨by rw [HN.out]; rfl, KR.out⟩
end Go.Proofs.YtanbeaebdingeaaDoor
