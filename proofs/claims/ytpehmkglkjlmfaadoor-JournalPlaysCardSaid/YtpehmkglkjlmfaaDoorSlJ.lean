/-
  SCRIPTS OF LAYER 7 (own work): slices of ops, each two numbers and rows; the law's long.
-/
import Derived.Test.YtpehmkglkjlmfaaDoorJouC
import Derived.Deep.Slices
import Derived.Deep.Strs
import Derived.ChangeSame
namespace Go.Proofs.YtpehmkglkjlmfaaDoor
open Go.RowKit Go.ChangeShapes Go.WideShapes

/-- an op: its kind, its number, its rows -/
abbrev OpJ := Int × Int × List (List Int)
/-- THE CELLS OF AN OP at a place. -/
structure OpJC (o : OpJ) (b off : Nat) (w : World) : Prop where
  k : w.cell? ⟨b, off, none⟩ = some (.int .i64 o.1)
  n : w.cell? ⟨b, off + 1, none⟩ = some (.int .i64 o.2.1)
  d : ∃ a c, w.cell? ⟨b, off + 2, none⟩ = some (.slice a o.2.2.length c) ∧ SlBB (.slice a o.2.2.length c) o.2.2 w
  n0 : -9223372036854775808 ≤ o.2.1
  n1 : o.2.1 ≤ 9223372036854775807
theorem OpJC.kp {o : OpJ} {b off : Nat} {w w' : World} (h : OpJC o b off w) (hk : Kp w w') : OpJC o b off w' := by
  obtain ⟨a, c, h1, h2⟩ := h.d
  exact ⟨kp_cell hk h.k, kp_cell hk h.n, ⟨a, c, kp_cell hk h1, h2.kp hk⟩, h.n0, h.n1⟩
/-- THE SLICE VALUE v READS AS THE OPS os. -/
def SlJ (v : Value) (os : List OpJ) (w : World) : Prop :=
  ∃ a cap, v = .slice a os.length cap ∧ ∀ (j : Nat) (h : j < os.length), ∃ b off, a = some ⟨b, off, none⟩ ∧ OpJC os[j] b (off + j * 3) w
theorem SlJ.kp {v : Value} {os : List OpJ} {w w' : World} (h : SlJ v os w) (hk : Kp w w') : SlJ v os w' := by
  obtain ⟨a, cap, h1, h2⟩ := h
  refine ⟨a, cap, h1, fun j hj => ?_⟩
  obtain ⟨b, off, h3, h4⟩ := h2 j hj
  exact ⟨b, off, h3, h4.kp hk⟩

theorem open_bytess_elem {H : Type} {enc : TypeId × Value → H} {P : Program} {W : World} {fuel : Nat} {t e e2 : TypeId} {cs : List Value} {x : DataW H × List MemPlace}
    (ht : P.underlying t = some (.slice e)) (he : P.underlying e = some (.slice e2)) (he2 : P.underlying e2 = some (.int .u8)) (hc : P.cellsOf e = 1) (hc2 : P.cellsOf e2 = 1)
    (hf : DataW.trod enc P W 0 (fun _ => true) true fuel t cs = some x) : ∃ (bss : List (List Int)) (a : Option Addr) (c : Nat), cs = [.slice a bss.length c] ∧ SlBB (.slice a bss.length c) bss W := by
  rcases Deep.open_slice1 ht hc hf with ⟨hcs, hx⟩ | ⟨a, len, cap, m, n, V, D, Pl, hcs, _, hl, hm, hmm, hx, hcell⟩
  · exact ⟨[], none, 0, hcs, Or.inl ⟨rfl, none, 0, rfl, fun _ => rfl⟩⟩
  · simp only [if_true] at hmm
    have hel : ∀ i, i < len → ∃ (bs : List Int) (a' : Option Addr) (c : Nat), V i = .slice a' bs.length c ∧ SlB (.slice a' bs.length c) bs W ∧ InB bs := by
      intro i hi
      obtain ⟨bs, a', c, h1, h2, h3, _⟩ := open_byte_elem he he2 hc2 (hcell i (by omega)).2
      exact ⟨bs, a', c, by simpa using h1, h2, h3⟩
    let f : Nat → List Int := fun i => if h : i < len then (hel i h).choose else []
    have hf' : ∀ i, i < len → ∃ (a' : Option Addr) (c : Nat), V i = .slice a' (f i).length c ∧ SlB (.slice a' (f i).length c) (f i) W ∧ InB (f i) := by
      intro i hi
      have e : f i = (hel i hi).choose := by show (if h : i < len then (hel i h).choose else []) = _; rw [dif_pos hi]
      rw [e]
      exact (hel i hi).choose_spec
    refine ⟨(List.range len).map f, some a, cap, by simpa using hcs, ?_⟩
    by_cases h0 : len = 0
    · subst h0; exact Or.inl ⟨by simp, some a, cap, rfl, fun h => by cases h⟩
    · obtain ⟨b, off, spot⟩ := a
      have hspot : spot = none := by simpa [Addr.add] using World.cell?_spot (hcell 0 (by omega)).1
      subst hspot
      refine Or.inr ⟨b, off, cap, by simp; omega, by simp, fun j hj => ?_⟩
      have hj' : j < len := by simpa using hj
      obtain ⟨a', c, h1, h2⟩ := hf' j hj'
      refine ⟨a', c, ?_, ?_⟩
      · rw [← add_plain, (hcell j (by omega)).1, h1]
        simp
      · simpa using h2

theorem open_opsj {H : Type} {enc : TypeId × Value → H} {P : Program} {W : World} {r : Reach} {b0 : Nat} {t e ea eb : TypeId} {f0 f1 f2 : Field} {v : Value} {d : DataW H} {ps : List MemPlace}
    (ht : P.underlying t = some (.slice e)) (he : P.underlying e = some (.struct #[f0, f1, f2])) (ce : P.cellsOf e = 3) (o0 : f0.offset = 0) (o1 : f1.offset = 1) (o2 : f2.offset = 2) (c0 : P.cellsOf f0.type = 1) (c1 : P.cellsOf f1.type = 1) (c2 : P.cellsOf f2.type = 1)
    (t0 : P.underlying f0.type = some (.int .i64)) (t1 : P.underlying f1.type = some (.int .i64)) (t2 : P.underlying f2.type = some (.slice ea)) (ta : P.underlying ea = some (.slice eb)) (tb : P.underlying eb = some (.int .u8)) (ca : P.cellsOf ea = 1) (cb : P.cellsOf eb = 1)
    (hval : Value.okWide P W r b0 t v)
    (h : DataW.Trod enc P W 0 (fun _ => true) true t v d ps) : ∃ os : List OpJ, SlJ v os W ∧ os.length ≤ maxLen := by
  obtain ⟨a0, len0, cap0, rfl⟩ := okWide_slice ht hval
  obtain ⟨fuel, hf⟩ := h
  rcases Deep.open_slice ht hf with ⟨hcs, hx⟩ | ⟨a, len, cap, m, n, D, Pl, hcs, _, hl, hm, hmm, hx, hcell⟩
  · simp [Value.cells] at hcs
    obtain ⟨rfl, rfl, rfl⟩ := hcs
    exact ⟨[], ⟨none, 0, rfl, fun j hj => by cases hj⟩, by simp⟩
  · simp [Value.cells] at hcs
    obtain ⟨rfl, rfl, rfl⟩ := hcs
    simp only [if_true] at hmm
    have hsp : 0 < len0 → a.spot = none := by
      intro h0
      obtain ⟨cs', h1, h2⟩ := hcell 0 (by omega)
      rw [ce] at h1
      obtain ⟨_, hlen, hcl⟩ := World.cells?_some h1
      match cs', hlen with
      | [v0, v1, v2], _ =>
        have q0 := hcl 0 (by omega)
        rw [Deep.add_add] at q0
        simpa [Addr.add] using World.cell?_spot (show W.cell? (a.add (0 * 3 + 0)) = some v0 by simpa using q0)
    have hel : ∀ i, i < len0 → ∃ o : OpJ, ∃ b off, a = ⟨b, off, none⟩ ∧ OpJC o b (off + i * 3) W := by
      intro i hi
      obtain ⟨cs', h1, h2⟩ := hcell i (by omega)
      rw [ce] at h1
      obtain ⟨_, hlen, hcl⟩ := World.cells?_some h1
      obtain ⟨y0, y1, y2, k, _, hl3, g0, g1, g2⟩ := Deep.trod_struct3 he h2
      match cs', hlen with
      | [v0, v1, v2], _ =>
        simp [o0, c0] at g0
        simp [o1, c1] at g1
        simp [o2, c2] at g2
        obtain ⟨x0, e0, _, w0⟩ := DataW.trod_int t0 g0
        obtain ⟨x1, e1, _, w1⟩ := DataW.trod_int t1 g1
        obtain ⟨bss, a', c, e2, s2⟩ := open_bytess_elem t2 ta tb ca cb g2
        have q0 := hcl 0 (by omega)
        have q1 := hcl 1 (by omega)
        have q2 := hcl 2 (by omega)
        rw [Deep.add_add] at q0 q1 q2
        obtain ⟨b, off, spot⟩ := a
        obtain rfl : spot = none := hsp (by omega)
        rw [add_plain] at q0 q1 q2
        have r1 : -9223372036854775808 ≤ x1 ∧ x1 ≤ 9223372036854775807 := by simpa [Lit.wf, IntKind.min, IntKind.max, IntKind.bits, IntKind.signed] using w1
        simp at e0 e1 e2
        refine ⟨(x0, x1, bss), b, off, rfl, ?_, ?_, ⟨a', c, ?_, s2⟩, r1.1, r1.2⟩
        · have := q0; simp [e0] at this ⊢; exact this
        · have := q1; simp [e1] at this ⊢; rw [Nat.add_assoc]; exact this
        · have := q2; simp [e2] at this ⊢; rw [Nat.add_assoc]; exact this
    let f : Nat → OpJ := fun i => if h : i < len0 then (hel i h).choose else (0, 0, [])
    refine ⟨(List.range len0).map f, ⟨some a, cap0, by simp, fun j hj => ?_⟩, by simp; omega⟩
    have hj' : j < len0 := by simpa using hj
    have e : f j = (hel j hj').choose := by show (if h : j < len0 then (hel j h).choose else (0, 0, [])) = _; rw [dif_pos hj']
    obtain ⟨b, off, h1, h2⟩ := (hel j hj').choose_spec
    refine ⟨b, off, by rw [h1], ?_⟩
    rw [List.getElem_map, List.getElem_range, e]
    exact h2

/-- rows that are asked for -/
def LgR (rs : List (List Int)) : Prop := rs.length ≤ 10 ∧ ∀ (j : Nat) (h : j < rs.length), rs[j].length ≤ 300
/-- a script that is asked for -/
def Lg7 (os : List OpJ) : Prop := os.length ≤ 60 ∧ ∀ (j : Nat) (h : j < os.length), LgR os[j].2.2
set_option maxRecDepth 20000 in
set_option maxHeartbeats 2000000 in
theorem long7_any (v : Value) (os : List OpJ) (w : World) (hs : SlJ v os w) :
    Calls Tryd.prog 9 #[v] w fun e w' => ((¬ Lg7 os ∧ e = .returned (.bool true)) ∨ (Lg7 os ∧ e = .returned (.bool false))) ∧ Kp w w' := by
  obtain ⟨a, cap, rfl, hel⟩ := hs
  obtain ⟨L, hL⟩ : ∃ L : Int, (os.length : Int) = L := ⟨_, rfl⟩
  obtain ⟨m, hm⟩ : ∃ m, os.length = m := ⟨_, rfl⟩
  have hmL : (m : Int) = L := by omega
  have HM := Lib.hid hm
  have HE := Lib.hid hel
  have hv : Value.slice a os.length cap = .slice a m cap := by rw [hm]
  rw [hv]
  by_cases h60 : L > 60
  · clear hm hL hel hv
    go_enter Tryd.func9, Tryd.ntmps9
    go_wp2
    go_ret
    exact ⟨.inl ⟨fun q => by have h1 := q.1; have h2 := HM.out; omega, rfl⟩, Kp.refl _⟩
  · have HML := Lib.hid hmL
    clear hm hL hel hv
    go_enter Tryd.func9, Tryd.ntmps9
    go_wp2
    go_loopw [12] (fun i wr => ∃ j : Nat, j ≤ m ∧ i = .int .i64 j ∧ (∀ (q : Nat) (h : q < os.length), q < j → LgR os[q].2.2) ∧ Kp w wr) (fun i _ => m - (intOf i).toNat)
    case atStart => exact ⟨0, Nat.zero_le _, rfl, fun q _ h => by omega, Kp.refl _⟩
    case round =>
      obtain ⟨j, hj, rfl, hq, hk⟩ := hrel
      have KR := Lib.hid hk
      have HQ := Lib.hid hq
      obtain ⟨jj, hjj⟩ : ∃ jj : Int, (j : Int) = jj := ⟨_, rfl⟩
      rw [hjj]
      have HJ := Lib.hid hjj
      have hLL := HML.out
      by_cases hlt : j < m
      · have hjl : jj < L := by omega
        have hj0 : 0 ≤ jj := by omega
        have htn : jj.toNat = j := by omega
        have hjo : j < os.length := by rw [HM.out]; exact hlt
        obtain ⟨b, off, rfl, hc0⟩ := HE.out j hjo
        have hc := hc0.kp hk
        obtain ⟨a', c', hd, hbb⟩ := hc.d
        have hck := hc.k
        have hcn := hc.n
        obtain ⟨k1, hk1⟩ : ∃ x, os[j].1 = x := ⟨_, rfl⟩
        obtain ⟨n1, hn1⟩ : ∃ x, os[j].2.1 = x := ⟨_, rfl⟩
        obtain ⟨rs, hrs⟩ : ∃ x, os[j].2.2 = x := ⟨_, rfl⟩
        rw [hrs] at hd hbb
        obtain ⟨l1, hl1⟩ : ∃ x, rs.length = x := ⟨_, rfl⟩
        obtain ⟨ll, hll⟩ : ∃ x : Int, (l1 : Int) = x := ⟨_, rfl⟩
        rw [hk1] at hck
        rw [hn1] at hcn
        rw [hl1] at hd hbb
        replace hck : wr.cell? ⟨b, off + jj.toNat * 3, none⟩ = some (.int .i64 k1) := by rw [htn]; exact hck
        replace hcn : wr.cell? ⟨b, off + jj.toNat * 3 + 1, none⟩ = some (.int .i64 n1) := by rw [htn]; exact hcn
        replace hd : wr.cell? ⟨b, off + jj.toNat * 3 + 2, none⟩ = some (.slice a' l1 c') := by rw [htn]; exact hd
        have HL1 := Lib.hid hl1
        have HLL := Lib.hid hll
        have HLT := Lib.hid hlt
        have HRS := Lib.hid hrs
        have HBB := Lib.hid (fun w1 (hk : Kp wr w1) (i : Nat) (hi : i < rs.length) => (hbb.kp hk).at i hi)
        clear hc hc0 hk hq hk1 hn1 hl1 hjj hj hlt htn hLL hbb hrs
        by_cases hbig : ll > 10
        · go_wp2
          go_ret
          exact ⟨.inl ⟨fun q => by have h1 := (q.2 j hjo).1; rw [HRS.out, HL1.out] at h1; have h2 := HLL.out; omega, rfl⟩, Kp.trans KR.out (kp_alloc _ _)⟩
        · have HBG := Lib.hid hbig
          go_wp2
          obtain ⟨wb, hwb⟩ : ∃ x, wr.alloc (.cells #[.int .i64 k1, .int .i64 n1, .slice a' l1 c'] 44) = x := ⟨_, rfl⟩
          have KB := Lib.hid (show Kp wr wb by rw [← hwb]; exact kp_alloc _ _)
          rw [hwb]
          clear hwb
          go_loop [23] (fun i => ∃ k : Nat, k ≤ l1 ∧ i = .int .i64 k ∧ ∀ (q : Nat) (h : q < rs.length), q < k → rs[q].length ≤ 300) (fun i => l1 - (intOf i).toNat)
          case atStart => exact ⟨0, Nat.zero_le _, rfl, fun q _ h => by omega⟩
          case round =>
            obtain ⟨k, hk, rfl, hq⟩ := hrel
            have HQ2 := Lib.hid hq
            obtain ⟨kk, hkk⟩ : ∃ kk : Int, (k : Int) = kk := ⟨_, rfl⟩
            rw [hkk]
            have HK := Lib.hid hkk
            have h1' := HLL.out
            have h2' := HL1.out
            by_cases hlt2 : k < l1
            · have hk0 : 0 ≤ kk := by omega
              have hkl : kk < ll := by omega
              have htk : kk.toNat = k := by omega
              have hkr : k < rs.length := by omega
              obtain ⟨b2, off2, rfl, a2, c2, hc2, -, -⟩ := HBB.out wb KB.out k hkr
              obtain ⟨l2, hl2⟩ : ∃ x, rs[k].length = x := ⟨_, rfl⟩
              obtain ⟨m2, hm2⟩ : ∃ x : Int, (l2 : Int) = x := ⟨_, rfl⟩
              rw [hl2] at hc2
              replace hc2 : wb.cell? ⟨b2, off2 + kk.toNat, none⟩ = some (.slice a2 l2 c2) := by rw [htk]; exact hc2
              have HL2 := Lib.hid hl2
              have HM2 := Lib.hid hm2
              have HLT2 := Lib.hid hlt2
              clear hq hl2 hkk hk htk hlt2 h1' h2'
              by_cases hbig2 : m2 > 300
              · go_wp2
                go_ret
                exact ⟨.inl ⟨fun q => by have h1 := (q.2 j hjo).2; simp only [HRS.out] at h1; have h3 := h1 k hkr; rw [HL2.out] at h3; have h2 := HM2.out; omega, rfl⟩, Kp.trans KR.out KB.out⟩
              · have HBG2 := Lib.hid hbig2
                go_wp2
                have hk1 := HK.out
                have hlt3 := HLT2.out
                go_round
                case rel =>
                  refine ⟨k + 1, by omega, by congr 1; omega, fun q hq1 hq2 => ?_⟩
                  by_cases hqk : q = k
                  · subst hqk
                    rw [HL2.out]
                    have h1 := HBG2.out
                    have h2 := HM2.out
                    omega
                  · exact HQ2.out q hq1 (by omega)
                case measure => simp [intOf]; omega
            · have hkl : ¬ kk < ll := by omega
              have hkm : k = l1 := by omega
              have HKM := Lib.hid hkm
              clear hq hkk hk hlt2 hkm h1' h2'
              go_wp2
              have hj1 : (j : Int) = jj := HJ.out
              have hlt1 : j < m := HLT.out
              refine ⟨⟨j + 1, hlt1, ?_, fun q hq1 hq2 => ?_, Kp.trans KR.out KB.out⟩, ?_⟩
              · rw [← hj1]; rfl
              · by_cases hqj : q = j
                · subst hqj
                  rw [HRS.out]
                  refine ⟨by have h1 := HBG.out; have h2 := HLL.out; have h3 := HL1.out; omega, fun i hi => HQ2.out i hi (by rw [HKM.out, ← HL1.out]; exact hi)⟩
                · exact HQ.out q hq1 (by omega)
              · simp [intOf]; omega
      · have hjl : ¬ jj < L := by omega
        have hjm : j = m := by omega
        have HJM := Lib.hid hjm
        clear hk hq hjj hj hlt hLL hjm
        go_wp2
        go_ret
        exact ⟨.inr ⟨⟨by have h1 := HM.out; have h2 := HML.out; omega, fun q hq1 => HQ.out q hq1 (by rw [HJM.out, ← HM.out]; exact hq1)⟩, rfl⟩, KR.out⟩
end Go.Proofs.YtpehmkglkjlmfaaDoor
