/-
  SCRIPTS (own work): slices of ops, each two numbers and bytes; the law's long.
-/
import Derived.Test.YtjgakdcjkddpiaaDoorSlB
import Derived.Test.YtjgakdcjkddpiaaDoorTapM
import Derived.Deep.Slices
import Derived.Deep.Strs
import Derived.ChangeSame
namespace Go.Proofs.YtjgakdcjkddpiaaDoor
open Go.RowKit Go.ChangeShapes Go.WideShapes

/-- an op: its kind, its number, its bytes -/
abbrev OpL := Int × Int × List Int
/-- THE CELLS OF AN OP at a place. -/
structure OpC (o : OpL) (b off : Nat) (w : World) : Prop where
  k : w.cell? ⟨b, off, none⟩ = some (.int .i64 o.1)
  n : w.cell? ⟨b, off + 1, none⟩ = some (.int .i64 o.2.1)
  d : ∃ a c, w.cell? ⟨b, off + 2, none⟩ = some (.slice a o.2.2.length c) ∧ SlB (.slice a o.2.2.length c) o.2.2 w
  ib : InB o.2.2
  n0 : -9223372036854775808 ≤ o.2.1
  n1 : o.2.1 ≤ 9223372036854775807
theorem OpC.kp {o : OpL} {b off : Nat} {w w' : World} (h : OpC o b off w) (hk : Kp w w') : OpC o b off w' := by
  obtain ⟨a, c, h1, h2⟩ := h.d
  exact ⟨kp_cell hk h.k, kp_cell hk h.n, ⟨a, c, kp_cell hk h1, h2.kp hk⟩, h.ib, h.n0, h.n1⟩
/-- THE SLICE VALUE v READS AS THE OPS os. -/
def SlO (v : Value) (os : List OpL) (w : World) : Prop :=
  ∃ a cap, v = .slice a os.length cap ∧ ∀ (j : Nat) (h : j < os.length), ∃ b off, a = some ⟨b, off, none⟩ ∧ OpC os[j] b (off + j * 3) w
theorem SlO.kp {v : Value} {os : List OpL} {w w' : World} (h : SlO v os w) (hk : Kp w w') : SlO v os w' := by
  obtain ⟨a, cap, h1, h2⟩ := h
  refine ⟨a, cap, h1, fun j hj => ?_⟩
  obtain ⟨b, off, h3, h4⟩ := h2 j hj
  exact ⟨b, off, h3, h4.kp hk⟩

theorem open_ops {H : Type} {enc : TypeId × Value → H} {P : Program} {W : World} {r : Reach} {b0 : Nat} {t e eb : TypeId} {f0 f1 f2 : Field} {v : Value} {d : DataW H} {ps : List MemPlace}
    (ht : P.underlying t = some (.slice e)) (he : P.underlying e = some (.struct #[f0, f1, f2])) (ce : P.cellsOf e = 3) (o0 : f0.offset = 0) (o1 : f1.offset = 1) (o2 : f2.offset = 2) (c0 : P.cellsOf f0.type = 1) (c1 : P.cellsOf f1.type = 1) (c2 : P.cellsOf f2.type = 1)
    (t0 : P.underlying f0.type = some (.int .i64)) (t1 : P.underlying f1.type = some (.int .i64)) (t2 : P.underlying f2.type = some (.slice eb)) (tb : P.underlying eb = some (.int .u8)) (cb : P.cellsOf eb = 1)
    (hval : Value.okWide P W r b0 t v)
    (h : DataW.Trod enc P W 0 (fun _ => true) true t v d ps) : ∃ os : List OpL, SlO v os W ∧ os.length ≤ maxLen := by
  obtain ⟨a0, len0, cap0, rfl⟩ := okWide_slice ht hval
  obtain ⟨fuel, hf⟩ := h
  rcases Deep.open_slice ht hf with ⟨hcs, hx⟩ | ⟨a, len, cap, m, n, D, Pl, hcs, _, hl, hm, hmm, hx, hcell⟩
  · simp [Value.cells] at hcs
    obtain ⟨rfl, rfl, rfl⟩ := hcs
    exact ⟨[], ⟨none, 0, rfl, fun j hj => by cases hj⟩, by simp⟩
  · simp [Value.cells] at hcs
    obtain ⟨rfl, rfl, rfl⟩ := hcs
    simp only [if_true] at hmm
    have hsp : 0 < len0 → a.spot = none := by
      intro h0
      obtain ⟨cs', h1, h2⟩ := hcell 0 (by omega)
      rw [ce] at h1
      obtain ⟨_, hlen, hcl⟩ := World.cells?_some h1
      match cs', hlen with
      | [v0, v1, v2], _ =>
        have q0 := hcl 0 (by omega)
        rw [Deep.add_add] at q0
        simpa [Addr.add] using World.cell?_spot (show W.cell? (a.add (0 * 3 + 0)) = some v0 by simpa using q0)
    have hel : ∀ i, i < len0 → ∃ o : OpL, ∃ b off, a = ⟨b, off, none⟩ ∧ OpC o b (off + i * 3) W := by
      intro i hi
      obtain ⟨cs', h1, h2⟩ := hcell i (by omega)
      rw [ce] at h1
      obtain ⟨_, hlen, hcl⟩ := World.cells?_some h1
      obtain ⟨y0, y1, y2, k, _, hl3, g0, g1, g2⟩ := Deep.trod_struct3 he h2
      match cs', hlen with
      | [v0, v1, v2], _ =>
        simp [o0, c0] at g0
        simp [o1, c1] at g1
        simp [o2, c2] at g2
        obtain ⟨x0, e0, _, w0⟩ := DataW.trod_int t0 g0
        obtain ⟨x1, e1, _, w1⟩ := DataW.trod_int t1 g1
        obtain ⟨bs, a', c, e2, s2, i2, _⟩ := open_byte_elem t2 tb cb g2
        have q0 := hcl 0 (by omega)
        have q1 := hcl 1 (by omega)
        have q2 := hcl 2 (by omega)
        rw [Deep.add_add] at q0 q1 q2
        obtain ⟨b, off, spot⟩ := a
        obtain rfl : spot = none := hsp (by omega)
        rw [add_plain] at q0 q1 q2
        have r1 : -9223372036854775808 ≤ x1 ∧ x1 ≤ 9223372036854775807 := by simpa [Lit.wf, IntKind.min, IntKind.max, IntKind.bits, IntKind.signed] using w1
        simp at e0 e1 e2
        refine ⟨(x0, x1, bs), b, off, rfl, ?_, ?_, ⟨a', c, ?_, s2⟩, i2, r1.1, r1.2⟩
        · have := q0; simp [e0] at this ⊢; exact this
        · have := q1; simp [e1] at this ⊢; rw [Nat.add_assoc]; exact this
        · have := q2; simp [e2] at this ⊢; rw [Nat.add_assoc]; exact this
    let f : Nat → OpL := fun i => if h : i < len0 then (hel i h).choose else (0, 0, [])
    refine ⟨(List.range len0).map f, ⟨some a, cap0, by simp, fun j hj => ?_⟩, by simp; omega⟩
    have hj' : j < len0 := by simpa using hj
    have e : f j = (hel j hj').choose := by show (if h : j < len0 then (hel j h).choose else (0, 0, [])) = _; rw [dif_pos hj']
    obtain ⟨b, off, h1, h2⟩ := (hel j hj').choose_spec
    refine ⟨b, off, by rw [h1], ?_⟩
    rw [List.getElem_map, List.getElem_range, e]
    exact h2

/-- a script that is asked for -/
def Lg (os : List OpL) : Prop := os.length ≤ 100 ∧ ∀ (j : Nat) (h : j < os.length), os[j].2.2.length ≤ 400
set_option maxRecDepth 20000 in
set_option maxHeartbeats 1000000 in
theorem long_any (v : Value) (os : List OpL) (w : World) (hs : SlO v os w) :
    Calls Tryd.prog 8 #[v] w fun e w' => ((¬ Lg os ∧ e = .returned (.bool true)) ∨ (Lg os ∧ e = .returned (.bool false))) ∧ Kp w w' := by
  obtain ⟨a, cap, rfl, hel⟩ := hs
  obtain ⟨L, hL⟩ : ∃ L : Int, (os.length : Int) = L := ⟨_, rfl⟩
  obtain ⟨m, hm⟩ : ∃ m, os.length = m := ⟨_, rfl⟩
  have hmL : (m : Int) = L := by omega
  have HM := Lib.hid hm
  have HE := Lib.hid hel
  have hv : Value.slice a os.length cap = .slice a m cap := by rw [hm]
  rw [hv]
  by_cases h100 : L > 100
  · clear hm hL hel hv
    go_enter Tryd.func8, Tryd.ntmps8
    go_wp2
    go_ret
    exact ⟨.inl ⟨fun q => by have h1 := q.1; have h2 := HM.out; omega, rfl⟩, Kp.refl _⟩
  · have HML := Lib.hid hmL
    clear hm hL hel hv
    go_enter Tryd.func8, Tryd.ntmps8
    go_wp2
    go_loopw [10] (fun i wr => ∃ j : Nat, j ≤ m ∧ i = .int .i64 j ∧ (∀ (q : Nat) (h : q < os.length), q < j → os[q].2.2.length ≤ 400) ∧ Kp w wr) (fun i _ => m - (intOf i).toNat)
    case atStart => exact ⟨0, Nat.zero_le _, rfl, fun q _ h => by omega, Kp.refl _⟩
    case round =>
      obtain ⟨j, hj, rfl, hq, hk⟩ := hrel
      have KR := Lib.hid hk
      have HQ := Lib.hid hq
      obtain ⟨jj, hjj⟩ : ∃ jj : Int, (j : Int) = jj := ⟨_, rfl⟩
      rw [hjj]
      have HJ := Lib.hid hjj
      have hLL := HML.out
      by_cases hlt : j < m
      · have hjl : jj < L := by omega
        have hj0 : 0 ≤ jj := by omega
        have htn : jj.toNat = j := by omega
        have hjo : j < os.length := by rw [HM.out]; exact hlt
        obtain ⟨b, off, rfl, hc0⟩ := HE.out j hjo
        have hc := hc0.kp hk
        obtain ⟨a', c', hd, -⟩ := hc.d
        have hck := hc.k
        have hcn := hc.n
        obtain ⟨k1, hk1⟩ : ∃ x, os[j].1 = x := ⟨_, rfl⟩
        obtain ⟨n1, hn1⟩ : ∃ x, os[j].2.1 = x := ⟨_, rfl⟩
        obtain ⟨l1, hl1⟩ : ∃ x, os[j].2.2.length = x := ⟨_, rfl⟩
        obtain ⟨ll, hll⟩ : ∃ x : Int, (l1 : Int) = x := ⟨_, rfl⟩
        rw [hk1] at hck
        rw [hn1] at hcn
        rw [hl1] at hd
        replace hck : wr.cell? ⟨b, off + jj.toNat * 3, none⟩ = some (.int .i64 k1) := by rw [htn]; exact hck
        replace hcn : wr.cell? ⟨b, off + jj.toNat * 3 + 1, none⟩ = some (.int .i64 n1) := by rw [htn]; exact hcn
        replace hd : wr.cell? ⟨b, off + jj.toNat * 3 + 2, none⟩ = some (.slice a' l1 c') := by rw [htn]; exact hd
        have HL1 := Lib.hid hl1
        have HLL := Lib.hid hll
        have HLT := Lib.hid hlt
        clear hc hc0 hk hq hk1 hn1 hl1 hjj hj hlt htn hLL
        by_cases hbig : ll > 400
        · go_wp2
          go_ret
          exact ⟨.inl ⟨fun q => by have h1 := q.2 j hjo; rw [HL1.out] at h1; have h2 := HLL.out; omega, rfl⟩, Kp.trans KR.out (kp_alloc _ _)⟩
        · have HBG := Lib.hid hbig
          go_wp2
          have hj1 : (j : Int) = jj := HJ.out
          have hlt1 : j < m := HLT.out
          refine ⟨⟨j + 1, hlt1, ?_, fun q hq1 hq2 => ?_, Kp.trans KR.out (kp_alloc _ _)⟩, ?_⟩
          · rw [← hj1]; rfl
          · by_cases hqj : q = j
            · subst hqj
              rw [HL1.out]
              have h1 := HBG.out
              have h2 := HLL.out
              omega
            · exact HQ.out q hq1 (by omega)
          · simp [intOf]; omega
      · have hjl : ¬ jj < L := by omega
        have hjm : j = m := by omega
        have HJM := Lib.hid hjm
        clear hk hq hjj hj hlt hLL hjm
        go_wp2
        go_ret
        exact ⟨.inr ⟨⟨by have h1 := HM.out; have h2 := HML.out; omega, fun q hq1 => HQ.out q hq1 (by rw [HJM.out, ← HM.out]; exact hq1)⟩, rfl⟩, KR.out⟩
end Go.Proofs.YtjgakdcjkddpiaaDoor
