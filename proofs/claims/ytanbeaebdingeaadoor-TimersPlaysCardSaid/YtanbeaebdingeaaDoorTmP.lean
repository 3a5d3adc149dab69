/-
  SCRIPTS OF CALLS OF A CLOCK (own work); both clocks at once.
-/
import Derived.Test.YtanbeaebdingeaaDoorTmL
import Derived.Test.YtanbeaebdingeaaDoorSl
import Derived.Test.YtanbeaebdingeaaDoorRkD
import Derived.Test.YtanbeaebdingeaaDoorRkE
import Derived.Test.YtanbeaebdingeaaDoorRkF
import Derived.Deep.Strs
import Derived.ChangeSame
namespace Go.Proofs.YtanbeaebdingeaaDoor
open Go.RowKit Go.ChangeShapes Go.WideShapes
variable {w w1 w2 : World} {q mb g : Nat} {c d c' d' : CkM} {v v' : Value} {ads : List Addr}
def i64T (x : Int) : Prop := -9223372036854775808 ≤ x ∧ x ≤ 9223372036854775807
set_option maxRecDepth 100000 in
theorem oneT_i64 {H : Type} {enc : TypeId × Value → H} {W : World} {n : Nat} {cs : List Value} {y : DataW H × List MemPlace} {v : Value} (h : DataW.trod enc Tryd.prog W 0 (fun _ => true) true n 3 cs = some y) (hc : cs = [v]) : ∃ x : Int, v = .int .i64 x ∧ i64T x := by
  obtain ⟨x, e, _, w⟩ := DataW.trod_int Tryd.underlying3 h
  rw [hc] at e
  exact ⟨x, by simpa using e, by simpa [Lit.wf, IntKind.min, IntKind.max, IntKind.bits, IntKind.signed, i64T] using w⟩
theorem oneT_str {H : Type} {enc : TypeId × Value → H} {W : World} {n : Nat} {cs : List Value} {y : DataW H × List MemPlace} {v : Value} (h : DataW.trod enc Tryd.prog W 0 (fun _ => true) true n 9 cs = some y) (hc : cs = [v]) : ∃ k : List UInt8, v = encStr k ∧ k.length ≤ maxLen := by
  obtain ⟨s, e, _, hl⟩ := DataW.trod_string Tryd.underlying9 h
  rw [hc] at e
  refine ⟨s.data.toList, by simpa using e, ?_⟩
  have e2 : s.data.toList.length = s.data.size := Array.length_toList
  rw [e2]
  exact hl
theorem oneT_fl {H : Type} {enc : TypeId × Value → H} {W : World} {n : Nat} {cs : List Value} {y : DataW H × List MemPlace} {v : Value} (h : DataW.trod enc Tryd.prog W 0 (fun _ => true) true n 28 cs = some y) (hc : cs = [v]) : ∃ x : Nat, v = .float .f64 x ∧ x < 18446744073709551616 := by
  obtain ⟨b, e, _, w⟩ := trod_float Tryd.underlying28 h
  rw [hc] at e
  exact ⟨b, by simpa using e, by simpa [Lit.wf] using w⟩
/-- an op: what, the key, two times -/
structure OpT where
  k : Int
  s : List UInt8
  x : Nat
  y : Nat
structure OpTc (o : OpT) (b off : Nat) (w : World) : Prop where
  fk : w.cell? ⟨b, off, none⟩ = some (.int .i64 o.k)
  fs : w.cell? ⟨b, off + 1, none⟩ = some (encStr o.s)
  fx : w.cell? ⟨b, off + 2, none⟩ = some (.float .f64 o.x)
  fy : w.cell? ⟨b, off + 3, none⟩ = some (.float .f64 o.y)
  wk : i64T o.k
  ws : o.s.length ≤ maxLen
  wx : o.x < 18446744073709551616
  wy : o.y < 18446744073709551616
theorem OpTc.kp {o : OpT} {b off : Nat} (h : OpTc o b off w) (hk : Kp w w1) : OpTc o b off w1 :=
  ⟨kp_cell hk h.fk, kp_cell hk h.fs, kp_cell hk h.fx, kp_cell hk h.fy, h.wk, h.ws, h.wx, h.wy⟩
def SlT (v : Value) (os : List OpT) (w : World) : Prop :=
  ∃ a cap, v = .slice a os.length cap ∧ ∀ (j : Nat) (h : j < os.length), ∃ b off, a = some ⟨b, off, none⟩ ∧ OpTc os[j] b (off + j * 4) w
set_option maxRecDepth 100000 in
theorem open_opsT {H : Type} {enc : TypeId × Value → H} {W : World} {r : Reach} {b0 : Nat} {v : Value} {d : DataW H} {ps : List MemPlace}
    (hval : Value.okWide Tryd.prog W r b0 22 v)
    (h : DataW.Trod enc Tryd.prog W 0 (fun _ => true) true 22 v d ps) : ∃ os : List OpT, SlT v os W ∧ os.length ≤ maxLen := by
  have h6x : Tryd.prog.cellsOf 33 = 4 := by kernel_rfl
  have h1 : Tryd.prog.cellsOf 3 = 1 := by kernel_rfl
  have hs1 : Tryd.prog.cellsOf 9 = 1 := by kernel_rfl
  have hf1 : Tryd.prog.cellsOf 28 = 1 := by kernel_rfl
  obtain ⟨a0, len0, cap0, rfl⟩ := okWide_slice Tryd.underlying22 hval
  obtain ⟨fuel, hf⟩ := h
  rcases Deep.open_slice Tryd.underlying22 hf with ⟨hcs, hx⟩ | ⟨a, len, cap, m, n, D, Pl, hcs, _, hl, hm, hmm, hx, hcell⟩
  · simp [Value.cells] at hcs
    obtain ⟨rfl, rfl, rfl⟩ := hcs
    exact ⟨[], ⟨none, 0, rfl, fun j hj => by cases hj⟩, by simp⟩
  · simp [Value.cells] at hcs
    obtain ⟨rfl, rfl, rfl⟩ := hcs
    simp only [if_true] at hmm
    have hsp : 0 < len0 → a.spot = none := by
      intro h0
      obtain ⟨cs', h1', h2⟩ := hcell 0 (by omega)
      rw [h6x] at h1'
      obtain ⟨_, hlen, hcl⟩ := World.cells?_some h1'
      match cs', hlen with
      | [v0, v1, v2, v3], _ =>
        have q0 := hcl 0 (by omega)
        rw [Deep.add_add] at q0
        simpa [Addr.add] using World.cell?_spot (show W.cell? (a.add (0 * 4 + 0)) = some v0 by simpa using q0)
    have hel : ∀ i, i < len0 → ∃ o : OpT, ∃ b off, a = ⟨b, off, none⟩ ∧ OpTc o b (off + i * 4) W := by
      intro i hi
      obtain ⟨cs', h1', h2⟩ := hcell i (by omega)
      rw [h6x] at h1'
      obtain ⟨_, hlen, hcl⟩ := World.cells?_some h1'
      match cs', hlen with
      | [v0, v1, v2, v3], _ =>
        obtain ⟨xs, k, _, _, _, hxl, hfs⟩ := DataW.trod_struct Tryd.underlying33 h2
        have g0 := hfs 0 _ rfl
        have g1 := hfs 1 _ rfl
        have g2 := hfs 2 _ rfl
        have g3 := hfs 3 _ rfl
        have e5 : xs.length = 4 := hxl
        match xs, e5 with
        | [x0, x1, x2, x3], _ =>
          obtain ⟨y0, rfl, w0⟩ := oneT_i64 (v := v0) g0 (by simp [h1])
          obtain ⟨y1, rfl, w1⟩ := oneT_str (v := v1) g1 (by simp [hs1])
          obtain ⟨y2, rfl, w2⟩ := oneT_fl (v := v2) g2 (by simp [hf1])
          obtain ⟨y3, rfl, w3⟩ := oneT_fl (v := v3) g3 (by simp [hf1])
          have q0 := hcl 0 (by omega)
          have q1 := hcl 1 (by omega)
          have q2 := hcl 2 (by omega)
          have q3 := hcl 3 (by omega)
          rw [Deep.add_add] at q0 q1 q2 q3
          obtain ⟨b, off, spot⟩ := a
          obtain rfl : spot = none := hsp (by omega)
          rw [Go.WideShapes.add_plain] at q0 q1 q2 q3
          refine ⟨⟨y0, y1, y2, y3⟩, b, off, rfl, ?_, ?_, ?_, ?_, w0, w1, w2, w3⟩
          · simpa using q0
          · have := q1; simp at this ⊢; rw [Nat.add_assoc]; exact this
          · have := q2; simp at this ⊢; rw [Nat.add_assoc]; exact this
          · have := q3; simp at this ⊢; rw [Nat.add_assoc]; exact this
    let f : Nat → OpT := fun i => if h : i < len0 then (hel i h).choose else ⟨0, [], 0, 0⟩
    refine ⟨(List.range len0).map f, ⟨some a, cap0, by simp, fun j hj => ?_⟩, by simp; omega⟩
    have hj' : j < len0 := by simpa using hj
    have e : f j = (hel j hj').choose := by show (if h : j < len0 then (hel j h).choose else ⟨0, [], 0, 0⟩) = _; rw [dif_pos hj']
    obtain ⟨b, off, h1, h2⟩ := (hel j hj').choose_spec
    refine ⟨b, off, by rw [h1], ?_⟩
    rw [List.getElem_map, List.getElem_range, e]
    exact h2

theorem own_atP {W : World} {base n cp : Nat} {a : Option Addr} {l : List (List UInt8)} (h : W.ownsRow base 9 1 (.slice a n cp) n (kyE.row l)) (hn : l.length = n) {p : Nat} (hp : p < l.length) : ∃ g, a = some ⟨g, 0, none⟩ ∧ W.cell? ⟨g, p, none⟩ = some (encStr l[p]) := by
  rcases h.2 with ⟨_, hz⟩ | ⟨g, cl, cur, e1, hgl, hh, hrest⟩
  · omega
  injection e1 with e1 _ e2
  subst e1
  subst e2
  refine ⟨g, rfl, ?_⟩
  have hr := row_at kyE l p hp 0 (by decide)
  have := h.cells rfl (p * 1 + 0) (encStr l[p]) (by rw [← show (kyE.enc l[p])[0]? = some (encStr l[p]) from rfl]; exact hr)
  rw [Addr.add_lit, Nat.zero_add] at this
  simpa using this
theorem bo_apart (h1 : Lk w q mb c w1) (h2 : Rk w g d v w1) {b : Nat} (ho : Ol q mb b) (hr : Or g v b) : False := by
  obtain ⟨D, ⟨es, clock, hm, _⟩, _⟩ := h1.map
  rcases ho with rfl | rfl
  · rcases hr with rfl | hv
    · have := h1.row.symm.trans h2.row
      injection this with this
      injection this with _ this
      exact absurd this (by decide)
    · rcases h2.own.2 with ⟨rfl, _⟩ | ⟨g', cap, cur, rfl, _, hh, _⟩
      · cases hv
      · have e2 : g' = b := by injection hv
        subst e2
        rw [h1.row] at hh
        injection hh with hh
        injection hh with _ hh
        exact absurd hh (by decide)
  · rcases hr with rfl | hv
    · have := hm.symm.trans h2.row
      injection this with this
      cases this
    · rcases h2.own.2 with ⟨rfl, _⟩ | ⟨g', cap, cur, rfl, _, hh, _⟩
      · cases hv
      · have e2 : g' = b := by injection hv
        subst e2
        rw [hm] at hh
        injection hh with hh
        cases hh
def Bo (w : World) (q mb g : Nat) (c d : CkM) (v : Value) (w1 : World) : Prop := Lk w q mb c w1 ∧ Rk w g d v w1 ∧ Kp w w1
theorem Bo.kp (h : Bo w q mb g c d v w1) (hk : Kp w1 w2) : Bo w q mb g c d v w2 := ⟨h.1.kp hk, h.2.1.kp hk, Kp.trans h.2.2 hk⟩
theorem Bo.left (h : Bo w q mb g c d v w1) (hl : Lk w q mb c' w2) (ha : Asd (Ol q mb) (Ol q mb) w1 w2) : Bo w q mb g c' d v w2 :=
  ⟨hl, h.2.1.stay fun b hb => ha.block b (h.2.1.mem b hb).2 (fun e => bo_apart h.1 h.2.1 e hb), ha.kp h.2.2 (fun b hb => (h.1.mem b hb).1)⟩
theorem Bo.right (h : Bo w q mb g c d v w1) (hr : Rk w g d' v' w2) (ha : Asd (Or g v) (Or g v') w1 w2) : Bo w q mb g c d' v' w2 :=
  ⟨h.1.stay fun b hb => ha.block b (h.1.mem b hb).2 (fun e => bo_apart h.1 h.2.1 hb e), hr, ha.kp h.2.2 (fun b hb => (h.2.1.mem b hb).1)⟩
/-- a block beside both -/
def Bes (q mb g : Nat) (v : Value) (b : Nat) (w : World) : Prop := b < w.heap.size ∧ ¬ Ol q mb b ∧ ¬ Or g v b
theorem Bo.new (h : Bo w q mb g c d v w1) : ¬ Ol q mb w1.heap.size ∧ ¬ Or g v w1.heap.size :=
  ⟨fun e => Nat.lt_irrefl _ (h.1.mem _ e).2, fun e => Nat.lt_irrefl _ (h.2.1.mem _ e).2⟩
set_option maxRecDepth 100000 in
set_option maxHeartbeats 2000000 in
theorem long13_any (os : List OpT) (hs : SlT v os w) : Calls Tryd.prog 8 #[v] w fun r w' => (r = .returned (.bool true) ∨ r = .returned (.bool false)) ∧ Kp w w' := by
  obtain ⟨a, cap, rfl, hel⟩ := hs
  obtain ⟨m, hm⟩ : ∃ m, os.length = m := ⟨_, rfl⟩
  obtain ⟨N, hN⟩ : ∃ N : Int, (m : Int) = N := ⟨_, rfl⟩
  have HM := Lib.hid hm
  have HE := Lib.hid hel
  have HNN := Lib.hid hN
  have hsf := store_fl
  simp only [hm]
  clear hel hm
  by_cases h100 : N > 120
  · go_enter Tryd.func8, Tryd.ntmps8
    go_wp2
    go_ret
    exact ⟨by first | exact .inl rfl | exact .inr rfl, Kp.refl _⟩
  have h120 : ¬ 120 < N := h100
  clear h100
  go_enter Tryd.func8, Tryd.ntmps8
  go_wp2
  go_loopw [10] (fun i wr => ∃ j : Nat, j ≤ m ∧ i = .int .i64 j ∧ Kp w wr) (fun i _ => m - (intOf i).toNat)
  case atStart => exact ⟨0, Nat.zero_le _, rfl, Kp.refl _⟩
  case round =>
    obtain ⟨j, hj, rfl, hk⟩ := hrel
    obtain ⟨jj, hjj⟩ : ∃ jj : Int, (j : Int) = jj := ⟨_, rfl⟩
    rw [hjj]
    have HJ := Lib.hid hjj
    have KR := Lib.hid hk
    by_cases hlt : j < m
    · have hjn : jj < N := by omega
      have hj0 : 0 ≤ jj := by omega
      have HLT := Lib.hid hlt
      have hw1 : wrap64 (jj + 1) = jj + 1 := IntWalk.wrap64_in _ (by omega)
      obtain ⟨b, off, rfl, hc0⟩ := HE.out j (by rw [HM.out]; exact hlt)
      have hc := hc0.kp hk
      have htn : jj.toNat = j := by omega
      have hj2 : j < os.length := by rw [HM.out]; exact hlt
      obtain ⟨ok, osx, ox, oy, z1, z2, z3, z4⟩ := hc
      clear z1 z2 z3 z4
      obtain ⟨k1, hk1⟩ : ∃ x, os[j].k = x := ⟨_, rfl⟩
      obtain ⟨s1, hs1⟩ : ∃ x, os[j].s = x := ⟨_, rfl⟩
      obtain ⟨x1, hx1⟩ : ∃ x, os[j].x = x := ⟨_, rfl⟩
      obtain ⟨y1, hy1⟩ : ∃ x, os[j].y = x := ⟨_, rfl⟩
      rw [hk1] at ok
      rw [hs1] at osx
      rw [hx1] at ox
      rw [hy1] at oy
      rw [← htn] at ok osx ox oy
      obtain ⟨st, hst⟩ : ∃ s, (⟨s1.toArray⟩ : ByteArray) = s := ⟨_, rfl⟩
      rw [show encStr s1 = .string st by rw [← hst]] at osx
      have KA := Lib.hid (kp_alloc wr (.cells #[.int .i64 k1, .string st, .float .f64 x1, .float .f64 y1] 33))
      have hbx := (MapKept.heap_alloc wr (.cells #[.int .i64 k1, .string st, .float .f64 x1, .float .f64 y1] 33)).1
      have x3 := cell_row (i := 1) hbx rfl
      clear hk hjj hlt hj hc0 hk1 hs1 hx1 hy1 hst hbx htn hj2
      obtain ⟨ls, hls⟩ : ∃ n : Int, (st.size : Int) = n := ⟨_, rfl⟩
      by_cases h50 : ls > 50
      · have g50 : 50 < ls := h50
        clear h50
        go_wp2
        go_ret
        exact ⟨by first | exact .inl rfl | exact .inr rfl, Kp.trans KR.out KA.out⟩
      · have g50 : ¬ 50 < ls := h50
        clear h50
        go_wp2
        go_roundw
        case rel => exact ⟨j + 1, by have := HLT.out; omega, by have := HJ.out; rw [show ((j + 1 : Nat) : Int) = jj + 1 by omega], Kp.trans KR.out KA.out⟩
        case measure => have := HJ.out; have := HLT.out; simp [intOf]; omega
    · have hjn : ¬ jj < N := by omega
      clear hk hjj hlt hj
      go_wp2
      go_ret
      exact ⟨by first | exact .inl rfl | exact .inr rfl, KR.out⟩
set_option maxRecDepth 100000 in
theorem raw13_any (a : Nat) : ∀ w1, Calls Tryd.prog 11 #[.float .f64 a, .float .f64 a] w1 fun r w' => r = .returned (.bool true) ∧ w1 = w' := by
  intro w1
  have HR := Lib.hid (raw_any a)
  go_enter Tryd.func11, Tryd.ntmps11
  go_wp2_with (go_at_call 31; (with_reducible refine (HR.out _).mono ?_); rintro e' w3 ⟨rfl, rfl⟩)
  go_ret
  exact ⟨by first | rfl | simp, rfl⟩
set_option maxRecDepth 100000 in
set_option maxHeartbeats 2000000 in
theorem same13_any {b1 b2 n : Nat} {o1 o2 : Option Addr} {c1 c2 : Nat} {l : List (List UInt8)} (h1 : w1.ownsRow b1 9 1 (.slice o1 n c1) n (kyE.row l)) (h2 : w1.ownsRow b2 9 1 (.slice o2 n c2) n (kyE.row l)) (hn : l.length = n) (h64 : n ≤ 64) : Calls Tryd.prog 14 #[.slice o1 n c1, .slice o2 n c2] w1 fun r w' => r = .returned (.bool true) ∧ Kp w1 w' := by
  obtain ⟨N, hN⟩ : ∃ N : Int, (n : Int) = N := ⟨_, rfl⟩
  have H1 := Lib.hid h1
  have H2 := Lib.hid h2
  have HN := Lib.hid hn
  have HNN := Lib.hid hN
  have hN64 : N ≤ 64 := by omega
  clear h1 h2 hn h64
  go_enter Tryd.func14, Tryd.ntmps14
  go_wp2
  go_loopw [13] (fun i wr => ∃ j : Nat, j ≤ n ∧ i = .int .i64 j ∧ Kp w1 wr) (fun i _ => n - (intOf i).toNat)
  case atStart => exact ⟨0, Nat.zero_le _, rfl, Kp.refl _⟩
  case round =>
    obtain ⟨j, hj, rfl, hk⟩ := hrel
    obtain ⟨jj, hjj⟩ : ∃ jj : Int, (j : Int) = jj := ⟨_, rfl⟩
    rw [hjj]
    have HJ := Lib.hid hjj
    have KR := Lib.hid hk
    by_cases hlt : j < n
    · have hjn : jj < N := by omega
      have hj0 : 0 ≤ jj := by omega
      have HLT := Lib.hid hlt
      have hw1 : wrap64 (jj + 1) = jj + 1 := IntWalk.wrap64_in _ (by omega)
      have hjl : j < l.length := by rw [HN.out]; exact hlt
      obtain ⟨g1, rfl, x1⟩ := own_atP (own_stayG H1.out (fun b hb => Below.block (kp_drewR hk) b (H1.out.lt b hb).2)) HN.out hjl
      obtain ⟨g2, rfl, x2⟩ := own_atP (own_stayG H2.out (fun b hb => Below.block (kp_drewR hk) b (H2.out.lt b hb).2)) HN.out hjl
      have x1' : wr.cell? ⟨g1, j, none⟩ = some (encStr l[j]) := x1
      have x2' : wr.cell? ⟨g2, j, none⟩ = some (encStr l[j]) := x2
      obtain ⟨s1, hs1⟩ : ∃ s : ByteArray, (⟨l[j].toArray⟩ : ByteArray) = s := ⟨_, rfl⟩
      rw [show encStr l[j] = .string s1 by rw [← hs1]] at x1 x2 x1' x2'
      have htn : jj.toNat = j := by omega
      rw [← htn] at x1 x2 x1' x2'
      clear hk hjj hlt hj hjl hs1 htn
      go_wp2_with fail
      go_region
      go_wp2
      go_roundw
      case rel => exact ⟨j + 1, by have := HLT.out; omega, by have := HJ.out; rw [show ((j + 1 : Nat) : Int) = jj + 1 by omega], kp_drewR KR.out⟩
      case measure => have := HJ.out; have := HLT.out; simp [intOf]; omega
    · have hjn : ¬ jj < N := by omega
      clear hk hjj hlt hj
      go_wp2
      go_ret
      exact ⟨rfl, KR.out⟩
end Go.Proofs.YtanbeaebdingeaaDoor
