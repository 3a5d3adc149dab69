/-
  MovesWork's WALK (own work).
-/
import Derived.Test.YtghjnhdepeiloaaDoorMvE
import Derived.Test.YtghjnhdepeiloaaDoorMvK
import Derived.LoopTactic
import Derived.LoopN
import Derived.Maps.OwnOps
import Derived.Maps.RangeWalk
import Derived.Maps.Views
namespace Go.Proofs.YtghjnhdepeiloaaDoor
open Go.RowKit Go.ChangeShapes Go.WideShapes Go.Maps
variable {ads : List Addr} {J : Nat → PairM → (Nat → Prop) → World → Prop}

theorem law_int : Keyed Tryd.prog 3 := int_keyed Tryd.underlying3
theorem zero_int (w : World) : (zeroValue 3).run Tryd.prog w = .ok (.int .i64 0) w := by kernel_rfl
theorem key_int (x : Int) (h : (Lit.int .i64 x).wf = true) : keyOf Tryd.prog 3 (.int .i64 x) = some (.int .i64 x) := keyOf_int_mk Tryd.underlying3 h
theorem own_stayM {w w' : World} {k : TypeId} {R : Value → Option (DataW Unit × List MemPlace)} {b n : Nat} {D : DataW Unit} (h : w.ownsMap Tryd.prog k R b n D) (hb : w'.heap[b]? = w.heap[b]?) : w'.ownsMap Tryd.prog k R b n D := by
  obtain ⟨es, clock, h1, h2⟩ := h
  exact ⟨es, clock, hb.trans h1, h2⟩
/-- a map that one of the blocks let alone holds is written -/
theorem At.turn {w0 B w1 w2 : World} {F : Nat → Prop} {g : Nat} {m : PairM} (C : MovC ads w0 J) (h : At J w0 B F g m w1) {b : Nat} (hF : F b) (hb : B.heap.size ≤ b) (hg : w1.grownBy w2 (some b)) : At J w0 B F g m w2 := by
  obtain ⟨O, hj, hO, hb0, hB, hFF, hp⟩ := h
  refine ⟨O, C.stay hj hg.size (fun b' q => hg.block b' (C.mem hj b' q).2 (fun e => (hFF b hF).1 (by injection e with e; rw [← e]; exact q))), hO, hb0, Below.grown hB hg (Below.size hB) (fun k hk => by injection hk with hk; omega), fun b' q => ⟨(hFF b' q).1, Nat.lt_of_lt_of_le (hFF b' q).2 hg.size⟩, hp⟩
/-- what the counts read as: 1 of each work that was told of -/
def MapOk (D : DataW Unit) (r : RS) : Prop := IsMap D ∧ ∀ x : Int, D.atKey (.int .i64 x) (.lit (.int .i64 0)) = .lit (.int .i64 (if x ∈ [2, 9, 10, 11] ∧ x ∈ r.w then 1 else 0))
theorem map_start : MapOk (.map []) ⟨(1, 0), (1, 0), [], [], false⟩ := ⟨isMap_empty, fun x => by
  rw [if_neg (fun q => by cases q.2)]
  rfl⟩
theorem map_same {D : DataW Unit} {r r' : RS} (h : MapOk D r) (hw : ∀ k ∈ [2, 9, 10, 11], (k ∈ r'.w ↔ k ∈ r.w ∨ ((0 : Int) ≠ 0 ∧ (0 : Int) = k))) : MapOk D r' := ⟨h.1, fun x => by
  rw [h.2 x]
  by_cases hx : x ∈ [2, 9, 10, 11]
  · have := hw x hx
    by_cases hr : x ∈ r.w
    · rw [if_pos ⟨hx, hr⟩, if_pos ⟨hx, this.2 (.inl hr)⟩]
    · rw [if_neg (fun q => hr q.2), if_neg (fun q => (this.1 q.2).elim hr (fun q => q.1 rfl))]
  · rw [if_neg (fun q => hx q.1), if_neg (fun q => hx q.1)]⟩
theorem map_put {D : DataW Unit} {r r' : RS} {wk : Int} (h : MapOk D r) (h0 : wk ≠ 0) (hm : wk ∈ [2, 9, 10, 11]) (hw : ∀ k ∈ [2, 9, 10, 11], (k ∈ r'.w ↔ k ∈ r.w ∨ (wk ≠ 0 ∧ wk = k))) : MapOk (D.put (.int .i64 wk) (.lit (.int .i64 1))) r' := ⟨h.1.put _ _, fun x => by
  by_cases he : x = wk
  · subst he
    rw [atKey_put_same (k := .int .i64 x) h.1 (show WideAt.IsKeyLit (.int .i64 x) from trivial), if_pos ⟨hm, (hw x hm).2 (.inr ⟨h0, rfl⟩)⟩]
  · rw [atKey_put_other (fun q => he (by injection q)), h.2 x]
    by_cases hx : x ∈ [2, 9, 10, 11]
    · have := hw x hx
      by_cases hr : x ∈ r.w
      · rw [if_pos ⟨hx, hr⟩, if_pos ⟨hx, this.2 (.inl hr)⟩]
      · rw [if_neg (fun q => hr q.2), if_neg (fun q => (this.1 q.2).elim hr (fun q => he q.2.symm))]
    · rw [if_neg (fun q => hx q.1), if_neg (fun q => hx q.1)]⟩
theorem map_zero {D : DataW Unit} {r : RS} {wk c : Int} (h : MapOk D r) (hn : wk ∉ r.w) (hat : D.atKey (.int .i64 wk) (.lit (.int .i64 0)) = .lit (.int .i64 c)) : c = 0 := by
  rw [h.2 wk, if_neg (fun q => hn q.2)] at hat
  injection hat with hat
  injection hat with _ hat
  exact hat.symm
theorem map_le {D : DataW Unit} {r : RS} {x c : Int} (h : MapOk D r) (hat : D.atKey (.int .i64 x) (.lit (.int .i64 0)) = .lit (.int .i64 c)) : c ≤ 1 := by
  rw [h.2 x] at hat
  injection hat with hat
  injection hat with _ hat
  rw [← hat]
  split <;> decide
theorem map_val {D : DataW Unit} {r : RS} {x c : Int} (h : MapOk D r) (hat : D.atKey (.int .i64 x) (.lit (.int .i64 0)) = .lit (.int .i64 c)) : c = if x ∈ [2, 9, 10, 11] ∧ x ∈ r.w then 1 else 0 := by
  rw [h.2 x] at hat
  injection hat with hat
  injection hat with _ hat
  exact hat.symm
theorem map_ge {D : DataW Unit} {r : RS} {x c : Int} (h : MapOk D r) (hat : D.atKey (.int .i64 x) (.lit (.int .i64 0)) = .lit (.int .i64 c)) : 0 ≤ c := by
  have hv := map_val h hat
  by_cases q : x ∈ [2, 9, 10, 11] ∧ x ∈ r.w
  · rw [if_pos q] at hv; omega
  · rw [if_neg q] at hv; omega
theorem map_two {D : DataW Unit} {r : RS} {c d : Int} (h : MapOk D r) (hs : ¬ ((9 : Int) ∈ r.w ∧ (11 : Int) ∈ r.w)) (h9 : D.atKey (.int .i64 9) (.lit (.int .i64 0)) = .lit (.int .i64 c)) (h11 : D.atKey (.int .i64 11) (.lit (.int .i64 0)) = .lit (.int .i64 d)) : c + d ≤ 1 := by
  have v9 := map_val h h9
  have v11 := map_val h h11
  by_cases q9 : (9 : Int) ∈ [2, 9, 10, 11] ∧ (9 : Int) ∈ r.w
  · rw [if_pos q9] at v9
    by_cases q11 : (11 : Int) ∈ [2, 9, 10, 11] ∧ (11 : Int) ∈ r.w
    · exact absurd ⟨q9.2, q11.2⟩ hs
    · rw [if_neg q11] at v11; omega
  · rw [if_neg q9] at v9
    by_cases q11 : (11 : Int) ∈ [2, 9, 10, 11] ∧ (11 : Int) ∈ r.w
    · rw [if_pos q11] at v11; omega
    · rw [if_neg q11] at v11; omega
theorem rep_do {p : Int} (hp : p = 1 ∨ p = 2) {r : RS} {m : PairM} (R : Rep p r m) (o : OpD) : ∃ r', Kept p r r' (doM m o).2 (doM m o).1.told := by
  unfold doM
  split
  · exact rep_act hp R _ _
  · split
    · exact rep_again hp R _
    · split
      · exact rep_deliver hp R _ _
      · split
        · exact ⟨r, rep_drop hp R _⟩
        · exact ⟨r, kept_same hp R rfl rfl fun q h => h⟩
set_option maxRecDepth 100000 in
theorem work11_long (p : Int) (a : Option Addr) (n cap : Nat) (w : World) (hl : 200 < n) (C : MovC ads w J) : Calls Tryd.prog 6 #[.int .i64 p, .slice a n cap] w fun r w' => r = .returned (.bool true) ∧ Kp w w' := by
  have HAL := Lib.hid (alive11_any C w (Kp.refl w))
  obtain ⟨nn, hnn⟩ : ∃ x : Int, (n : Int) = x := ⟨_, rfl⟩
  have d1 : decide (nn > 200) = true := decide_eq_true (by omega)
  clear C hl
  go_enter Tryd.func6, Tryd.ntmps6
  go_wp2_with (go_at_call 9; (with_reducible refine HAL.out.mono ?_); rintro e' w1 ⟨rfl, hk⟩; have K1 := Lib.hid hk; clear hk)
  go_ret
  exact ⟨rfl, K1.out⟩
set_option maxRecDepth 100000 in
theorem work11_bad (p : Int) (ip : i64M p) (hp : ¬ (p = 1 ∨ p = 2)) (a : Option Addr) (n cap : Nat) (w : World) (hl : ¬ 200 < n) (C : MovC ads w J) : Calls Tryd.prog 6 #[.int .i64 p, .slice a n cap] w fun r w' => r = .returned (.bool true) ∧ Kp w w' := by
  have HAL := Lib.hid (alive11_any C w (Kp.refl w))
  obtain ⟨nn, hnn⟩ : ∃ x : Int, (n : Int) = x := ⟨_, rfl⟩
  have d1 : decide (nn > 200) = false := decide_eq_false (by omega)
  obtain ⟨q, hq⟩ : ∃ q, errI ads 14 = .iface 128 (.pointer q) := ⟨_, if_neg (by decide)⟩
  have HNW := Lib.hid (fun w1 (hk : Kp w w1) => hq ▸ C.pnew_no w1 hk p hp ip)
  clear C hl hq
  go_enter Tryd.func6, Tryd.ntmps6
  go_wp2_with (first | (go_at_call 9; (with_reducible refine HAL.out.mono ?_); rintro e' w1 ⟨rfl, hk⟩; have K1 := Lib.hid hk; clear hk) | (go_at_call 21; (with_reducible refine (HNW.out _ K1.out).mono ?_); rintro e' w2 ⟨rfl, hk⟩; have K2 := Lib.hid (Kp.trans K1.out hk); clear hk))
  go_ret
  exact ⟨rfl, K2.out⟩
set_option maxRecDepth 100000 in
set_option maxHeartbeats 8000000 in
theorem work11_in (p : Int) (hp : p = 1 ∨ p = 2) (a : Option Addr) (cap n : Nat) (os : List OpD) (hm : os.length = n) (w : World) (hel : ∀ (j : Nat) (h : j < os.length), ∃ b off, a = some ⟨b, off, none⟩ ∧ OpM os[j] b (off + j * 5) w) (hl : ¬ 200 < n) (C : MovC ads w J) : Calls Tryd.prog 6 #[.int .i64 p, .slice a n cap] w fun r w' => r = .returned (.bool true) ∧ Kp w w' := by
  have HAL := Lib.hid (alive11_any C w (Kp.refl w))
  have HCC := Lib.hid C
  have HNW := Lib.hid (fun w1 (hk : Kp w w1) => at_new C (Kp.refl w) hk p hp)
  have HE := Lib.hid hel
  have HM := Lib.hid hm
  obtain ⟨nn, hnn⟩ : ∃ x : Int, (n : Int) = x := ⟨_, rfl⟩
  have HNN := Lib.hid hnn
  have d1 : decide (nn > 200) = false := decide_eq_false (by omega)
  have l1 : nn ≤ 200 := by omega
  have HPP := Lib.hid hp
  have hmm := @run_makeMap Tryd.prog
  have f2 := fun a b c d w => fS2 a b c d w
  have R0 := Lib.hid (rep_new hp)
  clear C hel hm hp
  go_enter Tryd.func6, Tryd.ntmps6
  go_wp2_with (first | (go_at_call 9; (with_reducible refine HAL.out.mono ?_); rintro e' w1 ⟨rfl, hk⟩; have K1 := Lib.hid hk; clear hk) | (go_at_call 21; (with_reducible refine (HNW.out _ K1.out).mono ?_); rintro e' w2 ⟨g, rfl, ha, -⟩; have AM := Lib.hid (((ha.more HCC.out (.map #[] 0)).less fun b (q : b = w2.heap.size) => .inr q)); have HMB := Lib.hid (Below.size ha.base); have MS := Lib.hid (World.ownsMap_made (H := Unit) w2 Tryd.prog 3 (plainElem Tryd.prog 3)); clear ha))
  obtain ⟨qM, hqM⟩ : ∃ q, w2.heap.size = q := ⟨_, rfl⟩
  rw [hqM] at AM HMB MS
  try rw [hqM]
  clear hqM hmm
  go_loopw [8, 29] (fun cs i wr => ∃ j : Nat, j ≤ n ∧ i = .int .i64 j ∧ ∃ (r : RS) (D : DataW Unit) (mk : PairM), cs = .bool r.d ∧ Rep p r mk ∧ MapOk D r ∧ At J w w (fun b : Nat => b = qM) g mk wr ∧ wr.ownsMap Tryd.prog 3 (plainElem Tryd.prog 3) qM j D) (fun _ i _ => n - (intOf i).toNat)
  case atStart => exact ⟨0, Nat.zero_le _, rfl, _, _, _, rfl, R0.out, map_start, AM.out, MS.out⟩
  case round =>
    obtain ⟨j, hj, rfl, r, D, mj, rfl, R, hmo, hat, hown⟩ := hrel
    have A := Lib.hid hat
    have MO := Lib.hid hown
    clear hat hown
    obtain ⟨jj, hjj⟩ : ∃ jj : Int, (j : Int) = jj := ⟨_, rfl⟩
    rw [hjj]
    have HJ := Lib.hid hjj
    have hnn := HNN.out
    by_cases hlt : j < n
    · have hjl : jj < nn := by omega
      have hj0 : 0 ≤ jj := by omega
      have htn : jj.toNat = j := by omega
      have hjo : j < os.length := by rw [HM.out]; exact hlt
      obtain ⟨b, off, rfl, hc0⟩ := HE.out j hjo
      have hc := hc0.kp (A.out.base)
      obtain ⟨⟨oa, oe, ok, oi, oc⟩, hod⟩ : ∃ o, os[j] = o := ⟨_, rfl⟩
      rw [hod] at hc
      have f0 : wr.cell? ⟨b, off + jj.toNat * 5, none⟩ = some (.int .i64 oa) := by rw [htn]; exact hc.a
      have f1 : wr.cell? ⟨b, off + jj.toNat * 5 + 1, none⟩ = some (.int .i64 oe) := by rw [htn]; exact hc.e
      have f2 : wr.cell? ⟨b, off + jj.toNat * 5 + 2, none⟩ = some (.int .i64 ok) := by rw [htn]; exact hc.k
      have f3 : wr.cell? ⟨b, off + jj.toNat * 5 + 3, none⟩ = some (.int .i64 oi) := by rw [htn]; exact hc.i
      have f4 : wr.cell? ⟨b, off + jj.toNat * 5 + 4, none⟩ = some (.bool oc) := by rw [htn]; exact hc.c
      have hook : OpD.ok ⟨oa, oe, ok, oi, oc⟩ := ⟨hc.wa, hc.we, hc.wk, hc.wi⟩
      have k9 := kp_alloc wr (.cells #[.int .i64 oa, .int .i64 oe, .int .i64 ok, .int .i64 oi, .bool oc] 47)
      have r9 := (MapKept.heap_alloc wr (.cells #[.int .i64 oa, .int .i64 oe, .int .i64 ok, .int .i64 oi, .bool oc] 47)).1
      obtain ⟨t0, t1, t2, t3, t4⟩ := cells_5 r9
      have A9 := Lib.hid (And.intro (A.out.kp HCC.out k9) k9)
      have T9 := Lib.hid r9
      have MLT := Lib.hid (A.out.lt rfl)
      have hdo := fun w1 (h : At J w w (fun b : Nat => b = qM) g mj w1) => at_doL HCC.out h ⟨oa, oe, ok, oi, oc⟩ hook
      obtain ⟨r', K⟩ := rep_do HPP.out R ⟨oa, oe, ok, oi, oc⟩
      obtain ⟨⟨⟨⟨a0, a1, a2, a3⟩, b1, b2, b3, b4⟩, m'⟩, hm'⟩ : ∃ y, doM mj ⟨oa, oe, ok, oi, oc⟩ = y := ⟨_, rfl⟩
      rw [hm'] at hdo K
      dsimp only [opV, effV] at hdo K
      have HDO := Lib.hid hdo
      have HLN := Lib.hid (show j < 200 by omega)
      have HLT := Lib.hid hlt
      have hsb := fun w1 (h : At J w w (fun b : Nat => b = qM) g mj w1) => at_seat HCC.out h 2 (by decide)
      have hsa := fun w1 (h : At J w w (fun b : Nat => b = qM) g m' w1) => at_seat HCC.out h 2 (by decide)
      have hx5 : mj.x.s = 5 → r.d = true := fun q => reach_d HPP.out R.mem (by rw [R.x] at q; exact q)
      have kd := K.d
      rw [show seatO mj 2 = mj.x from rfl] at hsb
      rw [show seatO m' 2 = m'.x from rfl] at hsa
      obtain ⟨⟨xp, xe, xs, xh⟩, hx⟩ : ∃ z, mj.x = z := ⟨_, rfl⟩
      obtain ⟨⟨zp, ze, zs, zh⟩, hz⟩ : ∃ z, m'.x = z := ⟨_, rfl⟩
      rw [hx] at hsb hx5
      rw [hz] at hsa kd
      dsimp only [seatV] at hsb hsa hx5 kd
      have HSB := Lib.hid hsb
      have HSA := Lib.hid hsa
      clear hc hc0 hod k9 r9 hdo hjj hj hlt hnn hook htn hjo hl hm' hx hz hsb hsa R
      cases hd : r.d with
      | true =>
        have HRD := Lib.hid (show r'.d = true from kd.2 (.inl hd))
        clear kd hx5
        by_cases h2 : a1 = 2
        · subst h2
          have hto : EffM.told ⟨⟨a0, 2, a2, a3⟩, b1, b2, b3, b4⟩ = b3 := if_pos rfl
          rw [hto] at K
          clear hto
          by_cases h0 : b3 = 0
          · subst h0
            have HMO2 := Lib.hid (map_same hmo K.w)
            have HRR := Lib.hid K.rep
            clear K hmo
            go_wp2_with (first | (go_at_call 26; (with_reducible refine (HDO.out _ A9.out.1).mono ?_); rintro e' w4 ⟨rfl, ha, hf⟩; have hk4 := kp_alloc w4 (.cells #[.int .i64 a0, .int .i64 2, .int .i64 a2, .int .i64 a3, .int .i64 b1, .int .i64 b2, .int .i64 0, .bool b4] 27); have A4 := Lib.hid (ha.kp HCC.out hk4); have QL4 := Lib.hid (ha.lt rfl); have M4 := Lib.hid (own_stayM (w' := w4.alloc (.cells #[.int .i64 a0, .int .i64 2, .int .i64 a2, .int .i64 a3, .int .i64 b1, .int .i64 b2, .int .i64 0, .bool b4] 27)) MO.out ((Below.block hk4 qM (ha.lt rfl)).trans ((hf qM rfl).trans (Below.block A9.out.2 qM MLT.out)))); have B4 := Lib.hid (MapKept.heap_alloc w4 (.cells #[.int .i64 a0, .int .i64 2, .int .i64 a2, .int .i64 a3, .int .i64 b1, .int .i64 b2, .int .i64 0, .bool b4] 27)).1; obtain ⟨y0, y1, y2, y3, y4, y5, y6, y7⟩ := cells_8 B4.out; clear ha hf hk4))
            have hj1 : (j : Int) = jj := HJ.out
            have hlt1 : j < n := HLT.out
            go_roundw
            case rel => exact ⟨j + 1, hlt1, by rw [← hj1]; rfl, r', _, _, by rw [HRD.out], HRR.out, HMO2.out, A4.out, M4.out.mono (Nat.le_succ _)⟩
            case measure => simp [intOf]; omega
          · have hf := K.fair h0
            have hw4 : b3 = 2 ∨ b3 = 9 ∨ b3 = 10 ∨ b3 = 11 := by simpa using hf.1
            have HNI := Lib.hid (show b3 ∉ r.w from hf.2.1)
            have HMO2 := Lib.hid (map_put hmo h0 hf.1 K.w)
            have HRR := Lib.hid K.rep
            have HMO := Lib.hid hmo
            have hf3 : b3 = 9 ∨ b3 = 11 → r.d = true := hf.2.2
            clear hf K hmo h0
            rcases hw4 with rfl | rfl | rfl | rfl
            · clear hf3
              go_wp2_with (first | (go_at_call 26; (with_reducible refine (HDO.out _ A9.out.1).mono ?_); rintro e' w4 ⟨rfl, ha, hf⟩; have hk4 := kp_alloc w4 (.cells #[.int .i64 a0, .int .i64 2, .int .i64 a2, .int .i64 a3, .int .i64 b1, .int .i64 b2, .int .i64 2, .bool b4] 27); have A4 := Lib.hid (ha.kp HCC.out hk4); have QL4 := Lib.hid (ha.lt rfl); have M4 := Lib.hid (own_stayM (w' := w4.alloc (.cells #[.int .i64 a0, .int .i64 2, .int .i64 a2, .int .i64 a3, .int .i64 b1, .int .i64 b2, .int .i64 2, .bool b4] 27)) MO.out ((Below.block hk4 qM (ha.lt rfl)).trans ((hf qM rfl).trans (Below.block A9.out.2 qM MLT.out)))); have B4 := Lib.hid (MapKept.heap_alloc w4 (.cells #[.int .i64 a0, .int .i64 2, .int .i64 a2, .int .i64 a3, .int .i64 b1, .int .i64 b2, .int .i64 2, .bool b4] 27)).1; obtain ⟨y0, y1, y2, y3, y4, y5, y6, y7⟩ := cells_8 B4.out; clear ha hf hk4) | (at_lookup; refine wpList_lookup_own_int _ rfl _ _ 61 rfl 3 3 .i64 law_int Tryd.underlying61 Tryd.underlying3 (zero_int _) qM j _ rfl M4.out _ _ rfl (keyOf_int_mk Tryd.underlying3 (by decide)) ?_; intro cc hat hwc; obtain rfl := map_zero HMO.out HNI.out hat; clear hat hwc) | (at_mapUpdate; refine wpList_mapUpdate_own _ rfl _ _ _ 61 rfl 3 3 law_int Tryd.underlying61 _ qM j _ rfl M4.out (by have := HLN.out; unfold maxLen; omega) _ _ _ rfl rfl (keyOf_int_mk Tryd.underlying3 (by decide)) _ [] (plainElem_int Tryd.underlying3 (by decide)) ?_; intro w8 hown8 hgrow8; have M8 := Lib.hid hown8; have A8 := Lib.hid (A4.out.turn HCC.out rfl HMB.out hgrow8); have hr8 := hgrow8.block w4.heap.size (old_of_row B4.out) (fun q => by injection q with q; have := QL4.out; omega); have B8 := Lib.hid (hr8.trans B4.out); obtain ⟨v0, v1, v2, v3, v4, v5, v6, v7⟩ := cells_8 B8.out; clear hown8 hgrow8 hr8))
              have hj1 : (j : Int) = jj := HJ.out
              have hlt1 : j < n := HLT.out
              go_roundw
              case rel => exact ⟨j + 1, hlt1, by rw [← hj1]; rfl, r', _, _, by rw [HRD.out], HRR.out, HMO2.out, A8.out, M8.out⟩
              case measure => simp [intOf]; omega
            · clear hf3
              go_wp2_with (first | (go_at_call 26; (with_reducible refine (HDO.out _ A9.out.1).mono ?_); rintro e' w4 ⟨rfl, ha, hf⟩; have hk4 := kp_alloc w4 (.cells #[.int .i64 a0, .int .i64 2, .int .i64 a2, .int .i64 a3, .int .i64 b1, .int .i64 b2, .int .i64 9, .bool b4] 27); have A4 := Lib.hid (ha.kp HCC.out hk4); have QL4 := Lib.hid (ha.lt rfl); have M4 := Lib.hid (own_stayM (w' := w4.alloc (.cells #[.int .i64 a0, .int .i64 2, .int .i64 a2, .int .i64 a3, .int .i64 b1, .int .i64 b2, .int .i64 9, .bool b4] 27)) MO.out ((Below.block hk4 qM (ha.lt rfl)).trans ((hf qM rfl).trans (Below.block A9.out.2 qM MLT.out)))); have B4 := Lib.hid (MapKept.heap_alloc w4 (.cells #[.int .i64 a0, .int .i64 2, .int .i64 a2, .int .i64 a3, .int .i64 b1, .int .i64 b2, .int .i64 9, .bool b4] 27)).1; obtain ⟨y0, y1, y2, y3, y4, y5, y6, y7⟩ := cells_8 B4.out; clear ha hf hk4) | (at_lookup; refine wpList_lookup_own_int _ rfl _ _ 61 rfl 3 3 .i64 law_int Tryd.underlying61 Tryd.underlying3 (zero_int _) qM j _ rfl M4.out _ _ rfl (keyOf_int_mk Tryd.underlying3 (by decide)) ?_; intro cc hat hwc; obtain rfl := map_zero HMO.out HNI.out hat; clear hat hwc) | (at_mapUpdate; refine wpList_mapUpdate_own _ rfl _ _ _ 61 rfl 3 3 law_int Tryd.underlying61 _ qM j _ rfl M4.out (by have := HLN.out; unfold maxLen; omega) _ _ _ rfl rfl (keyOf_int_mk Tryd.underlying3 (by decide)) _ [] (plainElem_int Tryd.underlying3 (by decide)) ?_; intro w8 hown8 hgrow8; have M8 := Lib.hid hown8; have A8 := Lib.hid (A4.out.turn HCC.out rfl HMB.out hgrow8); have hr8 := hgrow8.block w4.heap.size (old_of_row B4.out) (fun q => by injection q with q; have := QL4.out; omega); have B8 := Lib.hid (hr8.trans B4.out); obtain ⟨v0, v1, v2, v3, v4, v5, v6, v7⟩ := cells_8 B8.out; clear hown8 hgrow8 hr8))
              have hj1 : (j : Int) = jj := HJ.out
              have hlt1 : j < n := HLT.out
              go_roundw
              case rel => exact ⟨j + 1, hlt1, by rw [← hj1]; rfl, r', _, _, by rw [HRD.out], HRR.out, HMO2.out, A8.out, M8.out⟩
              case measure => simp [intOf]; omega
            · clear hf3
              go_wp2_with (first | (go_at_call 26; (with_reducible refine (HDO.out _ A9.out.1).mono ?_); rintro e' w4 ⟨rfl, ha, hf⟩; have hk4 := kp_alloc w4 (.cells #[.int .i64 a0, .int .i64 2, .int .i64 a2, .int .i64 a3, .int .i64 b1, .int .i64 b2, .int .i64 10, .bool b4] 27); have A4 := Lib.hid (ha.kp HCC.out hk4); have QL4 := Lib.hid (ha.lt rfl); have M4 := Lib.hid (own_stayM (w' := w4.alloc (.cells #[.int .i64 a0, .int .i64 2, .int .i64 a2, .int .i64 a3, .int .i64 b1, .int .i64 b2, .int .i64 10, .bool b4] 27)) MO.out ((Below.block hk4 qM (ha.lt rfl)).trans ((hf qM rfl).trans (Below.block A9.out.2 qM MLT.out)))); have B4 := Lib.hid (MapKept.heap_alloc w4 (.cells #[.int .i64 a0, .int .i64 2, .int .i64 a2, .int .i64 a3, .int .i64 b1, .int .i64 b2, .int .i64 10, .bool b4] 27)).1; obtain ⟨y0, y1, y2, y3, y4, y5, y6, y7⟩ := cells_8 B4.out; clear ha hf hk4) | (at_lookup; refine wpList_lookup_own_int _ rfl _ _ 61 rfl 3 3 .i64 law_int Tryd.underlying61 Tryd.underlying3 (zero_int _) qM j _ rfl M4.out _ _ rfl (keyOf_int_mk Tryd.underlying3 (by decide)) ?_; intro cc hat hwc; obtain rfl := map_zero HMO.out HNI.out hat; clear hat hwc) | (at_mapUpdate; refine wpList_mapUpdate_own _ rfl _ _ _ 61 rfl 3 3 law_int Tryd.underlying61 _ qM j _ rfl M4.out (by have := HLN.out; unfold maxLen; omega) _ _ _ rfl rfl (keyOf_int_mk Tryd.underlying3 (by decide)) _ [] (plainElem_int Tryd.underlying3 (by decide)) ?_; intro w8 hown8 hgrow8; have M8 := Lib.hid hown8; have A8 := Lib.hid (A4.out.turn HCC.out rfl HMB.out hgrow8); have hr8 := hgrow8.block w4.heap.size (old_of_row B4.out) (fun q => by injection q with q; have := QL4.out; omega); have B8 := Lib.hid (hr8.trans B4.out); obtain ⟨v0, v1, v2, v3, v4, v5, v6, v7⟩ := cells_8 B8.out; clear hown8 hgrow8 hr8))
              have hj1 : (j : Int) = jj := HJ.out
              have hlt1 : j < n := HLT.out
              go_roundw
              case rel => exact ⟨j + 1, hlt1, by rw [← hj1]; rfl, r', _, _, by rw [HRD.out], HRR.out, HMO2.out, A8.out, M8.out⟩
              case measure => simp [intOf]; omega
            · clear hf3
              go_wp2_with (first | (go_at_call 26; (with_reducible refine (HDO.out _ A9.out.1).mono ?_); rintro e' w4 ⟨rfl, ha, hf⟩; have hk4 := kp_alloc w4 (.cells #[.int .i64 a0, .int .i64 2, .int .i64 a2, .int .i64 a3, .int .i64 b1, .int .i64 b2, .int .i64 11, .bool b4] 27); have A4 := Lib.hid (ha.kp HCC.out hk4); have QL4 := Lib.hid (ha.lt rfl); have M4 := Lib.hid (own_stayM (w' := w4.alloc (.cells #[.int .i64 a0, .int .i64 2, .int .i64 a2, .int .i64 a3, .int .i64 b1, .int .i64 b2, .int .i64 11, .bool b4] 27)) MO.out ((Below.block hk4 qM (ha.lt rfl)).trans ((hf qM rfl).trans (Below.block A9.out.2 qM MLT.out)))); have B4 := Lib.hid (MapKept.heap_alloc w4 (.cells #[.int .i64 a0, .int .i64 2, .int .i64 a2, .int .i64 a3, .int .i64 b1, .int .i64 b2, .int .i64 11, .bool b4] 27)).1; obtain ⟨y0, y1, y2, y3, y4, y5, y6, y7⟩ := cells_8 B4.out; clear ha hf hk4) | (at_lookup; refine wpList_lookup_own_int _ rfl _ _ 61 rfl 3 3 .i64 law_int Tryd.underlying61 Tryd.underlying3 (zero_int _) qM j _ rfl M4.out _ _ rfl (keyOf_int_mk Tryd.underlying3 (by decide)) ?_; intro cc hat hwc; obtain rfl := map_zero HMO.out HNI.out hat; clear hat hwc) | (at_mapUpdate; refine wpList_mapUpdate_own _ rfl _ _ _ 61 rfl 3 3 law_int Tryd.underlying61 _ qM j _ rfl M4.out (by have := HLN.out; unfold maxLen; omega) _ _ _ rfl rfl (keyOf_int_mk Tryd.underlying3 (by decide)) _ [] (plainElem_int Tryd.underlying3 (by decide)) ?_; intro w8 hown8 hgrow8; have M8 := Lib.hid hown8; have A8 := Lib.hid (A4.out.turn HCC.out rfl HMB.out hgrow8); have hr8 := hgrow8.block w4.heap.size (old_of_row B4.out) (fun q => by injection q with q; have := QL4.out; omega); have B8 := Lib.hid (hr8.trans B4.out); obtain ⟨v0, v1, v2, v3, v4, v5, v6, v7⟩ := cells_8 B8.out; clear hown8 hgrow8 hr8))
              have hj1 : (j : Int) = jj := HJ.out
              have hlt1 : j < n := HLT.out
              go_roundw
              case rel => exact ⟨j + 1, hlt1, by rw [← hj1]; rfl, r', _, _, by rw [HRD.out], HRR.out, HMO2.out, A8.out, M8.out⟩
              case measure => simp [intOf]; omega
        · have hto : EffM.told ⟨⟨a0, a1, a2, a3⟩, b1, b2, b3, b4⟩ = 0 := if_neg h2
          rw [hto] at K
          have b2' : (a1 == 2) = false := by simpa using h2
          have HMO2 := Lib.hid (map_same hmo K.w)
          have HRR := Lib.hid K.rep
          clear K hmo h2 hto
          go_wp2_with (first | (go_at_call 26; (with_reducible refine (HDO.out _ A9.out.1).mono ?_); rintro e' w4 ⟨rfl, ha, hf⟩; have hk4 := kp_alloc w4 (.cells #[.int .i64 a0, .int .i64 a1, .int .i64 a2, .int .i64 a3, .int .i64 b1, .int .i64 b2, .int .i64 b3, .bool b4] 27); have A4 := Lib.hid (ha.kp HCC.out hk4); have QL4 := Lib.hid (ha.lt rfl); have M4 := Lib.hid (own_stayM (w' := w4.alloc (.cells #[.int .i64 a0, .int .i64 a1, .int .i64 a2, .int .i64 a3, .int .i64 b1, .int .i64 b2, .int .i64 b3, .bool b4] 27)) MO.out ((Below.block hk4 qM (ha.lt rfl)).trans ((hf qM rfl).trans (Below.block A9.out.2 qM MLT.out)))); have B4 := Lib.hid (MapKept.heap_alloc w4 (.cells #[.int .i64 a0, .int .i64 a1, .int .i64 a2, .int .i64 a3, .int .i64 b1, .int .i64 b2, .int .i64 b3, .bool b4] 27)).1; obtain ⟨y0, y1, y2, y3, y4, y5, y6, y7⟩ := cells_8 B4.out; clear ha hf hk4))
          have hj1 : (j : Int) = jj := HJ.out
          have hlt1 : j < n := HLT.out
          go_roundw
          case rel => exact ⟨j + 1, hlt1, by rw [← hj1]; rfl, r', _, _, by rw [HRD.out], HRR.out, HMO2.out, A4.out, M4.out.mono (Nat.le_succ _)⟩
          case measure => simp [intOf]; omega
      | false =>
        have ns : (xs == 5) = false := by simpa using fun q => by rw [hx5 q] at hd; cases hd
        clear hx5
        by_cases z5 : zs = 5
        · have HRD := Lib.hid (show r'.d = true from kd.2 (.inr z5))
          subst z5
          clear kd
          by_cases h2 : a1 = 2
          · subst h2
            have hto : EffM.told ⟨⟨a0, 2, a2, a3⟩, b1, b2, b3, b4⟩ = b3 := if_pos rfl
            rw [hto] at K
            clear hto
            by_cases h0 : b3 = 0
            · subst h0
              have HMO2 := Lib.hid (map_same hmo K.w)
              have HRR := Lib.hid K.rep
              clear K hmo
              go_wp2_with (first | (go_at_call 24; (with_reducible refine (HSB.out _ A9.out.1).mono ?_); rintro e' w3 ⟨rfl, hk⟩; have A3 := Lib.hid (And.intro (A9.out.1.kp HCC.out hk) (Kp.trans A9.out.2 hk)); have T3 := Lib.hid (kp_row hk T9.out); obtain ⟨p0, p1, p2, p3, p4⟩ := cells_5 T3.out; clear hk) | (go_at_call 26; (with_reducible refine (HDO.out _ A3.out.1).mono ?_); rintro e' w4 ⟨rfl, ha, hf⟩; have hk4 := kp_alloc w4 (.cells #[.int .i64 a0, .int .i64 2, .int .i64 a2, .int .i64 a3, .int .i64 b1, .int .i64 b2, .int .i64 0, .bool b4] 27); have A4 := Lib.hid (ha.kp HCC.out hk4); have QL4 := Lib.hid (ha.lt rfl); have M4 := Lib.hid (own_stayM (w' := w4.alloc (.cells #[.int .i64 a0, .int .i64 2, .int .i64 a2, .int .i64 a3, .int .i64 b1, .int .i64 b2, .int .i64 0, .bool b4] 27)) MO.out ((Below.block hk4 qM (ha.lt rfl)).trans ((hf qM rfl).trans (Below.block A3.out.2 qM MLT.out)))); have B4 := Lib.hid (MapKept.heap_alloc w4 (.cells #[.int .i64 a0, .int .i64 2, .int .i64 a2, .int .i64 a3, .int .i64 b1, .int .i64 b2, .int .i64 0, .bool b4] 27)).1; obtain ⟨y0, y1, y2, y3, y4, y5, y6, y7⟩ := cells_8 B4.out; clear ha hf hk4) | (go_at_call 24; (with_reducible refine (HSA.out _ A4.out).mono ?_); rintro e' w5 ⟨rfl, hk⟩; have A5 := Lib.hid (A4.out.kp HCC.out hk); have M5 := Lib.hid (own_stayM M4.out (Below.block hk qM (A4.out.lt rfl))); have B5 := Lib.hid (kp_row hk B4.out); obtain ⟨x0, x1, x2, x3, x4, x5, x6, x7⟩ := cells_8 B5.out; clear hk))
              have hj1 : (j : Int) = jj := HJ.out
              have hlt1 : j < n := HLT.out
              go_roundw
              case rel => exact ⟨j + 1, hlt1, by rw [← hj1]; rfl, r', _, _, by rw [HRD.out], HRR.out, HMO2.out, A5.out, M5.out.mono (Nat.le_succ _)⟩
              case measure => simp [intOf]; omega
            · have hf := K.fair h0
              have hw4 : b3 = 2 ∨ b3 = 9 ∨ b3 = 10 ∨ b3 = 11 := by simpa using hf.1
              have HNI := Lib.hid (show b3 ∉ r.w from hf.2.1)
              have HMO2 := Lib.hid (map_put hmo h0 hf.1 K.w)
              have HRR := Lib.hid K.rep
              have HMO := Lib.hid hmo
              have hf3 : b3 = 9 ∨ b3 = 11 → r.d = true := hf.2.2
              clear hf K hmo h0
              rcases hw4 with rfl | rfl | rfl | rfl
              · clear hf3
                go_wp2_with (first | (go_at_call 24; (with_reducible refine (HSB.out _ A9.out.1).mono ?_); rintro e' w3 ⟨rfl, hk⟩; have A3 := Lib.hid (And.intro (A9.out.1.kp HCC.out hk) (Kp.trans A9.out.2 hk)); have T3 := Lib.hid (kp_row hk T9.out); obtain ⟨p0, p1, p2, p3, p4⟩ := cells_5 T3.out; clear hk) | (go_at_call 26; (with_reducible refine (HDO.out _ A3.out.1).mono ?_); rintro e' w4 ⟨rfl, ha, hf⟩; have hk4 := kp_alloc w4 (.cells #[.int .i64 a0, .int .i64 2, .int .i64 a2, .int .i64 a3, .int .i64 b1, .int .i64 b2, .int .i64 2, .bool b4] 27); have A4 := Lib.hid (ha.kp HCC.out hk4); have QL4 := Lib.hid (ha.lt rfl); have M4 := Lib.hid (own_stayM (w' := w4.alloc (.cells #[.int .i64 a0, .int .i64 2, .int .i64 a2, .int .i64 a3, .int .i64 b1, .int .i64 b2, .int .i64 2, .bool b4] 27)) MO.out ((Below.block hk4 qM (ha.lt rfl)).trans ((hf qM rfl).trans (Below.block A3.out.2 qM MLT.out)))); have B4 := Lib.hid (MapKept.heap_alloc w4 (.cells #[.int .i64 a0, .int .i64 2, .int .i64 a2, .int .i64 a3, .int .i64 b1, .int .i64 b2, .int .i64 2, .bool b4] 27)).1; obtain ⟨y0, y1, y2, y3, y4, y5, y6, y7⟩ := cells_8 B4.out; clear ha hf hk4) | (go_at_call 24; (with_reducible refine (HSA.out _ A4.out).mono ?_); rintro e' w5 ⟨rfl, hk⟩; have A5 := Lib.hid (A4.out.kp HCC.out hk); have M5 := Lib.hid (own_stayM M4.out (Below.block hk qM (A4.out.lt rfl))); have B5 := Lib.hid (kp_row hk B4.out); obtain ⟨x0, x1, x2, x3, x4, x5, x6, x7⟩ := cells_8 B5.out; clear hk) | (at_lookup; refine wpList_lookup_own_int _ rfl _ _ 61 rfl 3 3 .i64 law_int Tryd.underlying61 Tryd.underlying3 (zero_int _) qM j _ rfl M5.out _ _ rfl (keyOf_int_mk Tryd.underlying3 (by decide)) ?_; intro cc hat hwc; obtain rfl := map_zero HMO.out HNI.out hat; clear hat hwc) | (at_mapUpdate; refine wpList_mapUpdate_own _ rfl _ _ _ 61 rfl 3 3 law_int Tryd.underlying61 _ qM j _ rfl M5.out (by have := HLN.out; unfold maxLen; omega) _ _ _ rfl rfl (keyOf_int_mk Tryd.underlying3 (by decide)) _ [] (plainElem_int Tryd.underlying3 (by decide)) ?_; intro w8 hown8 hgrow8; have M8 := Lib.hid hown8; have A8 := Lib.hid (A5.out.turn HCC.out rfl HMB.out hgrow8); have hr8 := hgrow8.block w4.heap.size (old_of_row B5.out) (fun q => by injection q with q; have := QL4.out; omega); have B8 := Lib.hid (hr8.trans B5.out); obtain ⟨v0, v1, v2, v3, v4, v5, v6, v7⟩ := cells_8 B8.out; clear hown8 hgrow8 hr8))
                have hj1 : (j : Int) = jj := HJ.out
                have hlt1 : j < n := HLT.out
                go_roundw
                case rel => exact ⟨j + 1, hlt1, by rw [← hj1]; rfl, r', _, _, by rw [HRD.out], HRR.out, HMO2.out, A8.out, M8.out⟩
                case measure => simp [intOf]; omega
              · rw [hd] at hf3; exact absurd (hf3 (by decide)) (by decide)
              · clear hf3
                go_wp2_with (first | (go_at_call 24; (with_reducible refine (HSB.out _ A9.out.1).mono ?_); rintro e' w3 ⟨rfl, hk⟩; have A3 := Lib.hid (And.intro (A9.out.1.kp HCC.out hk) (Kp.trans A9.out.2 hk)); have T3 := Lib.hid (kp_row hk T9.out); obtain ⟨p0, p1, p2, p3, p4⟩ := cells_5 T3.out; clear hk) | (go_at_call 26; (with_reducible refine (HDO.out _ A3.out.1).mono ?_); rintro e' w4 ⟨rfl, ha, hf⟩; have hk4 := kp_alloc w4 (.cells #[.int .i64 a0, .int .i64 2, .int .i64 a2, .int .i64 a3, .int .i64 b1, .int .i64 b2, .int .i64 10, .bool b4] 27); have A4 := Lib.hid (ha.kp HCC.out hk4); have QL4 := Lib.hid (ha.lt rfl); have M4 := Lib.hid (own_stayM (w' := w4.alloc (.cells #[.int .i64 a0, .int .i64 2, .int .i64 a2, .int .i64 a3, .int .i64 b1, .int .i64 b2, .int .i64 10, .bool b4] 27)) MO.out ((Below.block hk4 qM (ha.lt rfl)).trans ((hf qM rfl).trans (Below.block A3.out.2 qM MLT.out)))); have B4 := Lib.hid (MapKept.heap_alloc w4 (.cells #[.int .i64 a0, .int .i64 2, .int .i64 a2, .int .i64 a3, .int .i64 b1, .int .i64 b2, .int .i64 10, .bool b4] 27)).1; obtain ⟨y0, y1, y2, y3, y4, y5, y6, y7⟩ := cells_8 B4.out; clear ha hf hk4) | (go_at_call 24; (with_reducible refine (HSA.out _ A4.out).mono ?_); rintro e' w5 ⟨rfl, hk⟩; have A5 := Lib.hid (A4.out.kp HCC.out hk); have M5 := Lib.hid (own_stayM M4.out (Below.block hk qM (A4.out.lt rfl))); have B5 := Lib.hid (kp_row hk B4.out); obtain ⟨x0, x1, x2, x3, x4, x5, x6, x7⟩ := cells_8 B5.out; clear hk) | (at_lookup; refine wpList_lookup_own_int _ rfl _ _ 61 rfl 3 3 .i64 law_int Tryd.underlying61 Tryd.underlying3 (zero_int _) qM j _ rfl M5.out _ _ rfl (keyOf_int_mk Tryd.underlying3 (by decide)) ?_; intro cc hat hwc; obtain rfl := map_zero HMO.out HNI.out hat; clear hat hwc) | (at_mapUpdate; refine wpList_mapUpdate_own _ rfl _ _ _ 61 rfl 3 3 law_int Tryd.underlying61 _ qM j _ rfl M5.out (by have := HLN.out; unfold maxLen; omega) _ _ _ rfl rfl (keyOf_int_mk Tryd.underlying3 (by decide)) _ [] (plainElem_int Tryd.underlying3 (by decide)) ?_; intro w8 hown8 hgrow8; have M8 := Lib.hid hown8; have A8 := Lib.hid (A5.out.turn HCC.out rfl HMB.out hgrow8); have hr8 := hgrow8.block w4.heap.size (old_of_row B5.out) (fun q => by injection q with q; have := QL4.out; omega); have B8 := Lib.hid (hr8.trans B5.out); obtain ⟨v0, v1, v2, v3, v4, v5, v6, v7⟩ := cells_8 B8.out; clear hown8 hgrow8 hr8))
                have hj1 : (j : Int) = jj := HJ.out
                have hlt1 : j < n := HLT.out
                go_roundw
                case rel => exact ⟨j + 1, hlt1, by rw [← hj1]; rfl, r', _, _, by rw [HRD.out], HRR.out, HMO2.out, A8.out, M8.out⟩
                case measure => simp [intOf]; omega
              · rw [hd] at hf3; exact absurd (hf3 (by decide)) (by decide)
          · have hto : EffM.told ⟨⟨a0, a1, a2, a3⟩, b1, b2, b3, b4⟩ = 0 := if_neg h2
            rw [hto] at K
            have b2' : (a1 == 2) = false := by simpa using h2
            have HMO2 := Lib.hid (map_same hmo K.w)
            have HRR := Lib.hid K.rep
            clear K hmo h2 hto
            go_wp2_with (first | (go_at_call 24; (with_reducible refine (HSB.out _ A9.out.1).mono ?_); rintro e' w3 ⟨rfl, hk⟩; have A3 := Lib.hid (And.intro (A9.out.1.kp HCC.out hk) (Kp.trans A9.out.2 hk)); have T3 := Lib.hid (kp_row hk T9.out); obtain ⟨p0, p1, p2, p3, p4⟩ := cells_5 T3.out; clear hk) | (go_at_call 26; (with_reducible refine (HDO.out _ A3.out.1).mono ?_); rintro e' w4 ⟨rfl, ha, hf⟩; have hk4 := kp_alloc w4 (.cells #[.int .i64 a0, .int .i64 a1, .int .i64 a2, .int .i64 a3, .int .i64 b1, .int .i64 b2, .int .i64 b3, .bool b4] 27); have A4 := Lib.hid (ha.kp HCC.out hk4); have QL4 := Lib.hid (ha.lt rfl); have M4 := Lib.hid (own_stayM (w' := w4.alloc (.cells #[.int .i64 a0, .int .i64 a1, .int .i64 a2, .int .i64 a3, .int .i64 b1, .int .i64 b2, .int .i64 b3, .bool b4] 27)) MO.out ((Below.block hk4 qM (ha.lt rfl)).trans ((hf qM rfl).trans (Below.block A3.out.2 qM MLT.out)))); have B4 := Lib.hid (MapKept.heap_alloc w4 (.cells #[.int .i64 a0, .int .i64 a1, .int .i64 a2, .int .i64 a3, .int .i64 b1, .int .i64 b2, .int .i64 b3, .bool b4] 27)).1; obtain ⟨y0, y1, y2, y3, y4, y5, y6, y7⟩ := cells_8 B4.out; clear ha hf hk4) | (go_at_call 24; (with_reducible refine (HSA.out _ A4.out).mono ?_); rintro e' w5 ⟨rfl, hk⟩; have A5 := Lib.hid (A4.out.kp HCC.out hk); have M5 := Lib.hid (own_stayM M4.out (Below.block hk qM (A4.out.lt rfl))); have B5 := Lib.hid (kp_row hk B4.out); obtain ⟨x0, x1, x2, x3, x4, x5, x6, x7⟩ := cells_8 B5.out; clear hk))
            have hj1 : (j : Int) = jj := HJ.out
            have hlt1 : j < n := HLT.out
            go_roundw
            case rel => exact ⟨j + 1, hlt1, by rw [← hj1]; rfl, r', _, _, by rw [HRD.out], HRR.out, HMO2.out, A5.out, M5.out.mono (Nat.le_succ _)⟩
            case measure => simp [intOf]; omega
        · have HRD := Lib.hid (show r'.d = false by
            cases h : r'.d with
            | false => rfl
            | true => exact ((kd.1 h).elim (fun q => by rw [hd] at q; cases q) (fun q => absurd q z5)))
          have z5' : (zs == 5) = false := by simpa using z5
          clear kd z5
          by_cases h2 : a1 = 2
          · subst h2
            have hto : EffM.told ⟨⟨a0, 2, a2, a3⟩, b1, b2, b3, b4⟩ = b3 := if_pos rfl
            rw [hto] at K
            clear hto
            by_cases h0 : b3 = 0
            · subst h0
              have HMO2 := Lib.hid (map_same hmo K.w)
              have HRR := Lib.hid K.rep
              clear K hmo
              go_wp2_with (first | (go_at_call 24; (with_reducible refine (HSB.out _ A9.out.1).mono ?_); rintro e' w3 ⟨rfl, hk⟩; have A3 := Lib.hid (And.intro (A9.out.1.kp HCC.out hk) (Kp.trans A9.out.2 hk)); have T3 := Lib.hid (kp_row hk T9.out); obtain ⟨p0, p1, p2, p3, p4⟩ := cells_5 T3.out; clear hk) | (go_at_call 26; (with_reducible refine (HDO.out _ A3.out.1).mono ?_); rintro e' w4 ⟨rfl, ha, hf⟩; have hk4 := kp_alloc w4 (.cells #[.int .i64 a0, .int .i64 2, .int .i64 a2, .int .i64 a3, .int .i64 b1, .int .i64 b2, .int .i64 0, .bool b4] 27); have A4 := Lib.hid (ha.kp HCC.out hk4); have QL4 := Lib.hid (ha.lt rfl); have M4 := Lib.hid (own_stayM (w' := w4.alloc (.cells #[.int .i64 a0, .int .i64 2, .int .i64 a2, .int .i64 a3, .int .i64 b1, .int .i64 b2, .int .i64 0, .bool b4] 27)) MO.out ((Below.block hk4 qM (ha.lt rfl)).trans ((hf qM rfl).trans (Below.block A3.out.2 qM MLT.out)))); have B4 := Lib.hid (MapKept.heap_alloc w4 (.cells #[.int .i64 a0, .int .i64 2, .int .i64 a2, .int .i64 a3, .int .i64 b1, .int .i64 b2, .int .i64 0, .bool b4] 27)).1; obtain ⟨y0, y1, y2, y3, y4, y5, y6, y7⟩ := cells_8 B4.out; clear ha hf hk4) | (go_at_call 24; (with_reducible refine (HSA.out _ A4.out).mono ?_); rintro e' w5 ⟨rfl, hk⟩; have A5 := Lib.hid (A4.out.kp HCC.out hk); have M5 := Lib.hid (own_stayM M4.out (Below.block hk qM (A4.out.lt rfl))); have B5 := Lib.hid (kp_row hk B4.out); obtain ⟨x0, x1, x2, x3, x4, x5, x6, x7⟩ := cells_8 B5.out; clear hk))
              have hj1 : (j : Int) = jj := HJ.out
              have hlt1 : j < n := HLT.out
              go_roundw
              case rel => exact ⟨j + 1, hlt1, by rw [← hj1]; rfl, r', _, _, by rw [HRD.out], HRR.out, HMO2.out, A5.out, M5.out.mono (Nat.le_succ _)⟩
              case measure => simp [intOf]; omega
            · have hf := K.fair h0
              have hw4 : b3 = 2 ∨ b3 = 9 ∨ b3 = 10 ∨ b3 = 11 := by simpa using hf.1
              have HNI := Lib.hid (show b3 ∉ r.w from hf.2.1)
              have HMO2 := Lib.hid (map_put hmo h0 hf.1 K.w)
              have HRR := Lib.hid K.rep
              have HMO := Lib.hid hmo
              have hf3 : b3 = 9 ∨ b3 = 11 → r.d = true := hf.2.2
              clear hf K hmo h0
              rcases hw4 with rfl | rfl | rfl | rfl
              · clear hf3
                go_wp2_with (first | (go_at_call 24; (with_reducible refine (HSB.out _ A9.out.1).mono ?_); rintro e' w3 ⟨rfl, hk⟩; have A3 := Lib.hid (And.intro (A9.out.1.kp HCC.out hk) (Kp.trans A9.out.2 hk)); have T3 := Lib.hid (kp_row hk T9.out); obtain ⟨p0, p1, p2, p3, p4⟩ := cells_5 T3.out; clear hk) | (go_at_call 26; (with_reducible refine (HDO.out _ A3.out.1).mono ?_); rintro e' w4 ⟨rfl, ha, hf⟩; have hk4 := kp_alloc w4 (.cells #[.int .i64 a0, .int .i64 2, .int .i64 a2, .int .i64 a3, .int .i64 b1, .int .i64 b2, .int .i64 2, .bool b4] 27); have A4 := Lib.hid (ha.kp HCC.out hk4); have QL4 := Lib.hid (ha.lt rfl); have M4 := Lib.hid (own_stayM (w' := w4.alloc (.cells #[.int .i64 a0, .int .i64 2, .int .i64 a2, .int .i64 a3, .int .i64 b1, .int .i64 b2, .int .i64 2, .bool b4] 27)) MO.out ((Below.block hk4 qM (ha.lt rfl)).trans ((hf qM rfl).trans (Below.block A3.out.2 qM MLT.out)))); have B4 := Lib.hid (MapKept.heap_alloc w4 (.cells #[.int .i64 a0, .int .i64 2, .int .i64 a2, .int .i64 a3, .int .i64 b1, .int .i64 b2, .int .i64 2, .bool b4] 27)).1; obtain ⟨y0, y1, y2, y3, y4, y5, y6, y7⟩ := cells_8 B4.out; clear ha hf hk4) | (go_at_call 24; (with_reducible refine (HSA.out _ A4.out).mono ?_); rintro e' w5 ⟨rfl, hk⟩; have A5 := Lib.hid (A4.out.kp HCC.out hk); have M5 := Lib.hid (own_stayM M4.out (Below.block hk qM (A4.out.lt rfl))); have B5 := Lib.hid (kp_row hk B4.out); obtain ⟨x0, x1, x2, x3, x4, x5, x6, x7⟩ := cells_8 B5.out; clear hk) | (at_lookup; refine wpList_lookup_own_int _ rfl _ _ 61 rfl 3 3 .i64 law_int Tryd.underlying61 Tryd.underlying3 (zero_int _) qM j _ rfl M5.out _ _ rfl (keyOf_int_mk Tryd.underlying3 (by decide)) ?_; intro cc hat hwc; obtain rfl := map_zero HMO.out HNI.out hat; clear hat hwc) | (at_mapUpdate; refine wpList_mapUpdate_own _ rfl _ _ _ 61 rfl 3 3 law_int Tryd.underlying61 _ qM j _ rfl M5.out (by have := HLN.out; unfold maxLen; omega) _ _ _ rfl rfl (keyOf_int_mk Tryd.underlying3 (by decide)) _ [] (plainElem_int Tryd.underlying3 (by decide)) ?_; intro w8 hown8 hgrow8; have M8 := Lib.hid hown8; have A8 := Lib.hid (A5.out.turn HCC.out rfl HMB.out hgrow8); have hr8 := hgrow8.block w4.heap.size (old_of_row B5.out) (fun q => by injection q with q; have := QL4.out; omega); have B8 := Lib.hid (hr8.trans B5.out); obtain ⟨v0, v1, v2, v3, v4, v5, v6, v7⟩ := cells_8 B8.out; clear hown8 hgrow8 hr8))
                have hj1 : (j : Int) = jj := HJ.out
                have hlt1 : j < n := HLT.out
                go_roundw
                case rel => exact ⟨j + 1, hlt1, by rw [← hj1]; rfl, r', _, _, by rw [HRD.out], HRR.out, HMO2.out, A8.out, M8.out⟩
                case measure => simp [intOf]; omega
              · rw [hd] at hf3; exact absurd (hf3 (by decide)) (by decide)
              · clear hf3
                go_wp2_with (first | (go_at_call 24; (with_reducible refine (HSB.out _ A9.out.1).mono ?_); rintro e' w3 ⟨rfl, hk⟩; have A3 := Lib.hid (And.intro (A9.out.1.kp HCC.out hk) (Kp.trans A9.out.2 hk)); have T3 := Lib.hid (kp_row hk T9.out); obtain ⟨p0, p1, p2, p3, p4⟩ := cells_5 T3.out; clear hk) | (go_at_call 26; (with_reducible refine (HDO.out _ A3.out.1).mono ?_); rintro e' w4 ⟨rfl, ha, hf⟩; have hk4 := kp_alloc w4 (.cells #[.int .i64 a0, .int .i64 2, .int .i64 a2, .int .i64 a3, .int .i64 b1, .int .i64 b2, .int .i64 10, .bool b4] 27); have A4 := Lib.hid (ha.kp HCC.out hk4); have QL4 := Lib.hid (ha.lt rfl); have M4 := Lib.hid (own_stayM (w' := w4.alloc (.cells #[.int .i64 a0, .int .i64 2, .int .i64 a2, .int .i64 a3, .int .i64 b1, .int .i64 b2, .int .i64 10, .bool b4] 27)) MO.out ((Below.block hk4 qM (ha.lt rfl)).trans ((hf qM rfl).trans (Below.block A3.out.2 qM MLT.out)))); have B4 := Lib.hid (MapKept.heap_alloc w4 (.cells #[.int .i64 a0, .int .i64 2, .int .i64 a2, .int .i64 a3, .int .i64 b1, .int .i64 b2, .int .i64 10, .bool b4] 27)).1; obtain ⟨y0, y1, y2, y3, y4, y5, y6, y7⟩ := cells_8 B4.out; clear ha hf hk4) | (go_at_call 24; (with_reducible refine (HSA.out _ A4.out).mono ?_); rintro e' w5 ⟨rfl, hk⟩; have A5 := Lib.hid (A4.out.kp HCC.out hk); have M5 := Lib.hid (own_stayM M4.out (Below.block hk qM (A4.out.lt rfl))); have B5 := Lib.hid (kp_row hk B4.out); obtain ⟨x0, x1, x2, x3, x4, x5, x6, x7⟩ := cells_8 B5.out; clear hk) | (at_lookup; refine wpList_lookup_own_int _ rfl _ _ 61 rfl 3 3 .i64 law_int Tryd.underlying61 Tryd.underlying3 (zero_int _) qM j _ rfl M5.out _ _ rfl (keyOf_int_mk Tryd.underlying3 (by decide)) ?_; intro cc hat hwc; obtain rfl := map_zero HMO.out HNI.out hat; clear hat hwc) | (at_mapUpdate; refine wpList_mapUpdate_own _ rfl _ _ _ 61 rfl 3 3 law_int Tryd.underlying61 _ qM j _ rfl M5.out (by have := HLN.out; unfold maxLen; omega) _ _ _ rfl rfl (keyOf_int_mk Tryd.underlying3 (by decide)) _ [] (plainElem_int Tryd.underlying3 (by decide)) ?_; intro w8 hown8 hgrow8; have M8 := Lib.hid hown8; have A8 := Lib.hid (A5.out.turn HCC.out rfl HMB.out hgrow8); have hr8 := hgrow8.block w4.heap.size (old_of_row B5.out) (fun q => by injection q with q; have := QL4.out; omega); have B8 := Lib.hid (hr8.trans B5.out); obtain ⟨v0, v1, v2, v3, v4, v5, v6, v7⟩ := cells_8 B8.out; clear hown8 hgrow8 hr8))
                have hj1 : (j : Int) = jj := HJ.out
                have hlt1 : j < n := HLT.out
                go_roundw
                case rel => exact ⟨j + 1, hlt1, by rw [← hj1]; rfl, r', _, _, by rw [HRD.out], HRR.out, HMO2.out, A8.out, M8.out⟩
                case measure => simp [intOf]; omega
              · rw [hd] at hf3; exact absurd (hf3 (by decide)) (by decide)
          · have hto : EffM.told ⟨⟨a0, a1, a2, a3⟩, b1, b2, b3, b4⟩ = 0 := if_neg h2
            rw [hto] at K
            have b2' : (a1 == 2) = false := by simpa using h2
            have HMO2 := Lib.hid (map_same hmo K.w)
            have HRR := Lib.hid K.rep
            clear K hmo h2 hto
            go_wp2_with (first | (go_at_call 24; (with_reducible refine (HSB.out _ A9.out.1).mono ?_); rintro e' w3 ⟨rfl, hk⟩; have A3 := Lib.hid (And.intro (A9.out.1.kp HCC.out hk) (Kp.trans A9.out.2 hk)); have T3 := Lib.hid (kp_row hk T9.out); obtain ⟨p0, p1, p2, p3, p4⟩ := cells_5 T3.out; clear hk) | (go_at_call 26; (with_reducible refine (HDO.out _ A3.out.1).mono ?_); rintro e' w4 ⟨rfl, ha, hf⟩; have hk4 := kp_alloc w4 (.cells #[.int .i64 a0, .int .i64 a1, .int .i64 a2, .int .i64 a3, .int .i64 b1, .int .i64 b2, .int .i64 b3, .bool b4] 27); have A4 := Lib.hid (ha.kp HCC.out hk4); have QL4 := Lib.hid (ha.lt rfl); have M4 := Lib.hid (own_stayM (w' := w4.alloc (.cells #[.int .i64 a0, .int .i64 a1, .int .i64 a2, .int .i64 a3, .int .i64 b1, .int .i64 b2, .int .i64 b3, .bool b4] 27)) MO.out ((Below.block hk4 qM (ha.lt rfl)).trans ((hf qM rfl).trans (Below.block A3.out.2 qM MLT.out)))); have B4 := Lib.hid (MapKept.heap_alloc w4 (.cells #[.int .i64 a0, .int .i64 a1, .int .i64 a2, .int .i64 a3, .int .i64 b1, .int .i64 b2, .int .i64 b3, .bool b4] 27)).1; obtain ⟨y0, y1, y2, y3, y4, y5, y6, y7⟩ := cells_8 B4.out; clear ha hf hk4) | (go_at_call 24; (with_reducible refine (HSA.out _ A4.out).mono ?_); rintro e' w5 ⟨rfl, hk⟩; have A5 := Lib.hid (A4.out.kp HCC.out hk); have M5 := Lib.hid (own_stayM M4.out (Below.block hk qM (A4.out.lt rfl))); have B5 := Lib.hid (kp_row hk B4.out); obtain ⟨x0, x1, x2, x3, x4, x5, x6, x7⟩ := cells_8 B5.out; clear hk))
            have hj1 : (j : Int) = jj := HJ.out
            have hlt1 : j < n := HLT.out
            go_roundw
            case rel => exact ⟨j + 1, hlt1, by rw [← hj1]; rfl, r', _, _, by rw [HRD.out], HRR.out, HMO2.out, A5.out, M5.out.mono (Nat.le_succ _)⟩
            case measure => simp [intOf]; omega
    · have hex : ¬ jj < nn := by omega
      have KR := Lib.hid (A.out.base)
      have hsf := (rep_safe HPP.out R).2.2.2
      have HMO := Lib.hid hmo
      have HSF := Lib.hid hsf
      clear hjj hj hlt hnn hl hmo hsf R
      go_wp2_with (first | (at_range; refine wpList_range_own _ rfl _ 61 rfl 3 3 law_int Tryd.underlying61 _ qM j _ rfl MO.out ?_; intro w0 hrg0 hg0 hs0))
      try go_frame
      obtain ⟨rI, hrI⟩ : ∃ q, wr.heap.size = q := ⟨_, rfl⟩
      rw [hrI] at hrg0
      try rw [hrI]
      have hKr : w.heap.size ≤ rI := by rw [← hrI]; exact Below.size KR.out
      have HKR := Lib.hid hKr
      have hk0 : Kp w w0 := Below.grown KR.out hg0 (Below.size KR.out) (fun k hk => by cases hk)
      clear hrI hKr hg0 hs0
      go_loopw [13] (fun _ wr => ∃ (left : Lit → Bool) (cnt : Nat), wr.ranges Tryd.prog 3 (plainElem Tryd.prog 3) qM rI j D left cnt ∧ Kp w wr) (fun _ wr => wr.rangeLeft qM rI)
      case atStart => exact ⟨_, _, hrg0, hk0⟩
      case round =>
        obtain ⟨left, cnt, hrg, hgw⟩ := hrel
        go_wp2_with (first | (at_next; refine wpList_next_ranges_ii _ rfl _ rfl 3 3 .i64 .i64 law_int Tryd.underlying3 Tryd.underlying3 qM rI j _ _ _ rfl hrg ?_ ?_))
        · intro _ _
          have MO2 := Lib.hid hrg.owns
          have KE := Lib.hid hgw
          clear hrg hgw hrg0 hk0
          go_wp2_with (first
            | (at_lookup; refine wpList_lookup_own_int _ rfl _ _ 61 rfl 3 3 .i64 law_int Tryd.underlying61 Tryd.underlying3 (zero_int _) qM j _ rfl MO2.out (.int .i64 9) (.int .i64 9) rfl (key_int 9 (by decide)) ?_; intro c9 hat9 hwc9; have V9 := Lib.hid hat9; have Y9 := map_le HMO.out hat9; have X9 := map_ge HMO.out hat9; clear hat9 hwc9)
            | (at_lookup; refine wpList_lookup_own_int _ rfl _ _ 61 rfl 3 3 .i64 law_int Tryd.underlying61 Tryd.underlying3 (zero_int _) qM j _ rfl MO2.out (.int .i64 11) (.int .i64 11) rfl (key_int 11 (by decide)) ?_; intro c11 hat11 hwc11; have Y11 := map_le HMO.out hat11; have X11 := map_ge HMO.out hat11; have L11 : decide (c9 + c11 ≤ 1) = true := decide_eq_true (map_two HMO.out HSF.out V9.out hat11); clear hat11 hwc11))
          go_ret
          exact ⟨by first | rfl | (simp [*]; done), KE.out⟩
        · intro x cc w1 cnt1 hwx hwc hlx hat hrg1 hlt hg1 hs1 hen
          have hle : decide (cc > 1) = false := decide_eq_false (by have := map_le HMO.out (hat _); omega)
          have hgw1 : Kp w w1 := Below.grown hgw hg1 (Below.size hgw) (fun k hk => by injection hk with hk; have := HKR.out; omega)
          go_wp2
          go_roundw
          case rel => exact ⟨_, cnt1, hrg1, hgw1⟩
          case measure => rw [hrg1.left_eq, hrg.left_eq]; exact hlt
theorem work11_any (p : Int) (v : Value) (os : List OpD) (w : World) (ip : i64M p) (hs : SlM v os w) (C : MovC ads w J) : Calls Tryd.prog 6 #[.int .i64 p, v] w fun r w' => r = .returned (.bool true) ∧ Kp w w' := by
  obtain ⟨a, cap, rfl, hel⟩ := hs
  by_cases hl : 200 < os.length
  · exact work11_long p a _ cap w hl C
  by_cases hp : p = 1 ∨ p = 2
  · exact work11_in p hp a cap _ os rfl w hel hl C
  · exact work11_bad p ip hp a _ cap w hl C
end Go.Proofs.YtghjnhdepeiloaaDoor
