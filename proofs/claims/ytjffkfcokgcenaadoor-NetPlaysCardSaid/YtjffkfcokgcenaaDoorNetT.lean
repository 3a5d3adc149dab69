/-
  NetPlays' WALK (own work).
-/
import Derived.Test.YtjffkfcokgcenaaDoorNetS
namespace Go.Proofs.YtjffkfcokgcenaaDoor
open Go.RowKit Go.Shelf Go.ChangeShapes Go.WideShapes

attribute [local go_sem] Oper.semAt_some
variable {ads : List Addr} {J : Nat → NetM → (Nat → Prop) → World → Prop} {w0 B w1 w2 : World} {g : Nat} {m : NetM}
theorem slb_putL {v : Value} {bs : List Int} {w : World} {l : Nat} {r r2 : Loop} (h : SlB v bs w) (hl : w.heap[l]? = some (.loop r)) : SlB v bs (w.putObj l (.loop r2)) := by
  rcases h with h | ⟨b, off, cap, h0, e, hc⟩
  · exact .inl h
  · refine .inr ⟨b, off, cap, h0, e, fun j hj => ?_⟩
    have h1 := hc j hj
    have hne : b ≠ l := fun q => by
      subst q
      unfold World.cell? at h1
      dsimp only at h1
      rw [hl] at h1
      simp at h1
    exact (World.cell?_of_block (a := ⟨b, off + j, none⟩) (World.putObj_heap_other hne)).trans h1
theorem wpAnyH_monoT {P : Program} {md : Region.Mode} {ops : Array Oper} {Q : Exit → Act → World → Prop} {S S' : World → Prop} (hs : ∀ w, S' w → S w) : ∀ (fuel : Nat) (listed : Array Bool) (a : Act) (w : World), wpAnyH P md ops Q S' fuel listed a w → wpAnyH P md ops Q S fuel listed a w
  | 0, _, _, _, h => h
  | fuel + 1, _, _, _, h => ⟨h.1, fun i hi => wpOp_mono (fun a' w' h' => ⟨hs _ h'.1, wpAnyH_monoT hs fuel _ a' w' h'.2⟩) (h.2 i hi)⟩
set_option maxRecDepth 100000 in
theorem plays_long (nd : Int) (os : List OpP) (sa : Option Addr) (n sc : Nat) (w : World) (hs : SlP (.slice sa n sc) os w) (hl : ¬ LgP os) (C : NetC ads w J) : Calls Tryd.prog 3 #[.int .i64 nd, .slice sa n sc] w fun r w' => r = .returned (.bool true) ∧ Kp w w' := by
  have k1 := kp_alloc w (.cells #[.bool false] 4)
  have r1 := (MapKept.heap_alloc w (.cells #[.bool false] 4)).1
  obtain ⟨wA, hA⟩ : ∃ x, w.alloc (.cells #[.bool false] 4) = x := ⟨_, rfl⟩
  have HA := Lib.hid hA
  rw [hA] at k1 r1
  have K1 := Lib.hid k1
  have R1 := Lib.hid r1
  have HAL := Lib.hid (alive12_any C wA k1)
  have HLO := Lib.hid (fun w1 (hk : Kp w w1) => long12_any _ os w1 (hs.kp hk))
  have HLG := Lib.hid hl
  clear C hs hl k1 r1 hA
  go_enter Tryd.func3, Tryd.ntmps3
  go_wp2_with (first | (go_at_call 7; (try rw [HA.out]); (with_reducible refine HAL.out.mono ?_); rintro e' w2 ⟨rfl, hk⟩; have K2 := Lib.hid (Kp.trans K1.out hk); have R2 := Lib.hid (kp_row hk R1.out); clear hk) | (go_at_call 8; (with_reducible refine (HLO.out _ K2.out).mono ?_); rintro e' w3 ⟨hq, hk⟩; obtain ⟨hlq, rfl⟩ := hq.resolve_right (fun q => HLG.out q.1); have K3 := Lib.hid (Kp.trans K2.out hk); have R3 := Lib.hid (kp_row hk R2.out); have y3 := cell_row (i := 0) R3.out rfl; have f3 := frozR R3.out; clear hk hq hlq))
  refine bodyPost_ret (results_boolN (p := 4) rfl _ _ w.heap.size true rfl (cell_row (i := 0) ((Joins.block_setCell R3.out _).trans rfl) rfl)) rfl ?_
  exact ⟨rfl, Below.setCell K3.out (Nat.le_refl _) _⟩
set_option maxRecDepth 100000 in
theorem plays_bad (nd : Int) (os : List OpP) (sa : Option Addr) (n sc : Nat) (w : World) (hs : SlP (.slice sa n sc) os w) (hl : LgP os) (hnd : ¬ (1 ≤ nd ∧ nd ≤ 4)) (V : St ads w) (C : NetC ads w J) : Calls Tryd.prog 3 #[.int .i64 nd, .slice sa n sc] w fun r w' => r = .returned (.bool true) ∧ Kp w w' := by
  have k1 := kp_alloc w (.cells #[.bool false] 4)
  have r1 := (MapKept.heap_alloc w (.cells #[.bool false] 4)).1
  obtain ⟨wA, hA⟩ : ∃ x, w.alloc (.cells #[.bool false] 4) = x := ⟨_, rfl⟩
  have HA := Lib.hid hA
  rw [hA] at k1 r1
  have K1 := Lib.hid k1
  have R1 := Lib.hid r1
  have HAL := Lib.hid (alive12_any C wA k1)
  have HLO := Lib.hid (fun w1 (hk : Kp w w1) => long12_any _ os w1 (hs.kp hk))
  have HLG := Lib.hid hl
  obtain ⟨e1, he1⟩ : ∃ v, errI ads 1 = v := ⟨_, rfl⟩
  have HNB := Lib.hid (fun w1 (hk : Kp w w1) => (show Calls Tryd.prog 9 #[.int .i64 nd] w1 fun r w' => r = .returned (.tuple #[.pointer none, e1]) ∧ Kp w1 w' from (C.new_no w1 hk nd hnd).mono (fun r w' q => ⟨by rw [q.1, he1], q.2⟩)))
  have HNU := Lib.hid (fun w1 (hk : Kp w w1) => he1 ▸ num_errN ads w1 (V.below hk) 1 (by decide) (by decide))
  clear C V hs hl k1 r1 hA he1
  by_cases hn1 : nd < 1
  · clear hnd
    go_enter Tryd.func3, Tryd.ntmps3
    go_wp2_with (first | (go_at_call 7; (try rw [HA.out]); (with_reducible refine HAL.out.mono ?_); rintro e' w2 ⟨rfl, hk⟩; have K2 := Lib.hid (Kp.trans K1.out hk); have R2 := Lib.hid (kp_row hk R1.out); clear hk) | (go_at_call 8; (with_reducible refine (HLO.out _ K2.out).mono ?_); rintro e' w3 ⟨hq, hk⟩; obtain ⟨hlq, rfl⟩ := hq.resolve_left (fun q => q.1 HLG.out); have K3 := Lib.hid (Kp.trans K2.out hk); have R3 := Lib.hid (kp_row hk R2.out); have y3 := cell_row (i := 0) R3.out rfl; have f3 := frozR R3.out; clear hk hq hlq) | (go_at_call 9; (with_reducible refine (HNB.out _ K3.out).mono ?_); rintro e' w4 ⟨rfl, hk⟩; have K4 := Lib.hid (Kp.trans K3.out hk); have R4 := Lib.hid (kp_row hk R3.out); clear hk) | (go_at_call 10; (with_reducible refine (HNU.out _ K4.out).mono ?_); rintro e' w5 ⟨rfl, hk⟩; have K5 := Lib.hid (Kp.trans K4.out hk); have R5 := Lib.hid (kp_row hk R4.out); have y5 := cell_row (i := 0) R5.out rfl; have f5 := frozR R5.out; clear hk))
    refine bodyPost_ret (results_boolN (p := 4) rfl _ _ w.heap.size true rfl (cell_row (i := 0) ((Joins.block_setCell R5.out _).trans rfl) rfl)) rfl ?_
    exact ⟨rfl, Below.setCell K5.out (Nat.le_refl _) _⟩
  · have hn4 : nd > 4 := by omega
    clear hnd
    go_enter Tryd.func3, Tryd.ntmps3
    go_wp2_with (first | (go_at_call 7; (try rw [HA.out]); (with_reducible refine HAL.out.mono ?_); rintro e' w2 ⟨rfl, hk⟩; have K2 := Lib.hid (Kp.trans K1.out hk); have R2 := Lib.hid (kp_row hk R1.out); clear hk) | (go_at_call 8; (with_reducible refine (HLO.out _ K2.out).mono ?_); rintro e' w3 ⟨hq, hk⟩; obtain ⟨hlq, rfl⟩ := hq.resolve_left (fun q => q.1 HLG.out); have K3 := Lib.hid (Kp.trans K2.out hk); have R3 := Lib.hid (kp_row hk R2.out); have y3 := cell_row (i := 0) R3.out rfl; have f3 := frozR R3.out; clear hk hq hlq) | (go_at_call 9; (with_reducible refine (HNB.out _ K3.out).mono ?_); rintro e' w4 ⟨rfl, hk⟩; have K4 := Lib.hid (Kp.trans K3.out hk); have R4 := Lib.hid (kp_row hk R3.out); clear hk) | (go_at_call 10; (with_reducible refine (HNU.out _ K4.out).mono ?_); rintro e' w5 ⟨rfl, hk⟩; have K5 := Lib.hid (Kp.trans K4.out hk); have R5 := Lib.hid (kp_row hk R4.out); have y5 := cell_row (i := 0) R5.out rfl; have f5 := frozR R5.out; clear hk))
    refine bodyPost_ret (results_boolN (p := 4) rfl _ _ w.heap.size true rfl (cell_row (i := 0) ((Joins.block_setCell R5.out _).trans rfl) rfl)) rfl ?_
    exact ⟨rfl, Below.setCell K5.out (Nat.le_refl _) _⟩
set_option maxRecDepth 100000 in
set_option maxHeartbeats 8000000 in
theorem plays_in (nd : Int) (nk : Nat) (hnk : (nk : Int) = nd) (os : List OpP) (sa : Option Addr) (n sc : Nat) (hn : os.length = n) (w : World) (hs : SlP (.slice sa n sc) os w) (hl : LgP os) (h1 : 1 ≤ nd) (h4 : nd ≤ 4) (V : St ads w) (C : NetC ads w J) : Calls Tryd.prog 3 #[.int .i64 nd, .slice sa n sc] w fun r w' => r = .returned (.bool true) ∧ Kp w w' := by
  have k1 := kp_alloc w (.cells #[.bool false] 4)
  have r1 := (MapKept.heap_alloc w (.cells #[.bool false] 4)).1
  obtain ⟨wA, hA⟩ : ∃ x, w.alloc (.cells #[.bool false] 4) = x := ⟨_, rfl⟩
  have HA := Lib.hid hA
  rw [hA] at k1 r1
  have K1 := Lib.hid k1
  have R1 := Lib.hid r1
  have HAL := Lib.hid (alive12_any C wA k1)
  have HLO := Lib.hid (fun w1 (hk : Kp w w1) => long12_any _ os w1 (hs.kp hk))
  have HLG := Lib.hid hl
  have HCC := Lib.hid C
  have HV := Lib.hid V
  have HNG := Lib.hid (fun w1 (hk : Kp w w1) => (show Calls Tryd.prog 9 #[.int .i64 nd] w1 fun r w' => ∃ g, r = .returned (.tuple #[.pointer (some ⟨g, 0, none⟩), .nilIface]) ∧ AtN J w w1 (fun _ => False) g (NetM.new nk) w' ∧ Kp w1 w' from hnk ▸ atN_new C hk (Kp.refl w1) nk (by omega) (by omega)))
  have HRN := Lib.hid (fun g w1 (h : AtN J w w (fun b => b = w.heap.size) g (NetM.new nk) w1) => (show Calls Tryd.prog 11 #[.int .i64 nd] w1 fun r w' => ∃ q, r = .returned (.pointer (some ⟨q, 0, none⟩)) ∧ Bt J w g q (fun b => b = w.heap.size) (NetM.new nk) (NetM.new nk) w' ∧ Kp w1 w' from hnk ▸ bt_new C h.base nk (by omega) (by omega) h (fun b hb => by rw [hb]; exact Nat.le_refl _)))
  have hel : ∀ (j : Nat) (h : j < os.length), ∃ b off, sa = some ⟨b, off, none⟩ ∧ OpPc os[j] b (off + j * 6) w := by
    obtain ⟨a, cap, e, hel⟩ := hs
    injection e with e1 e2 e3
    subst e1
    exact hel
  have HEL := Lib.hid hel
  have HN := Lib.hid hn
  obtain ⟨nn, hnn⟩ : ∃ x : Int, (n : Int) = x := ⟨_, rfl⟩
  have HNN := Lib.hid hnn
  have g1 : ¬ nd < 1 := by omega
  have g4 : ¬ nd > 4 := by omega
  have req := rlt_neq
  have rgd := rlt_guard
  clear C V hs hl k1 r1 hA h1 h4 hnk hn hel
  refine calls_of_marksQ Tryd.func3 rfl ?_
  simp only [Tryd.ntmps3, List.size_toArray, List.length_cons, List.length_nil, Nat.reduceAdd, Nat.reduceSub, Array.replicate_succ, Array.replicate_zero, List.push_toArray, List.append_toArray, List.nil_append, List.cons_append]
  go_wp2_with (first | (go_at_call 7; (try rw [HA.out]); (with_reducible refine HAL.out.mono ?_); rintro e' w2 ⟨rfl, hk⟩; have K2 := Lib.hid (Kp.trans K1.out hk); have R2 := Lib.hid (kp_row hk R1.out); clear hk) | (go_at_call 8; (with_reducible refine (HLO.out _ K2.out).mono ?_); rintro e' w3 ⟨hq, hk⟩; obtain ⟨hlq, rfl⟩ := hq.resolve_left (fun q => q.1 HLG.out); have K3 := Lib.hid (Kp.trans K2.out hk); have R3 := Lib.hid (kp_row hk R2.out); have y3 := cell_row (i := 0) R3.out rfl; have f3 := frozR R3.out; clear hk hq hlq) | (go_at_call 9; (with_reducible refine (HNG.out _ K3.out).mono ?_); rintro e' w4 ⟨g, rfl, ha, hk⟩; have A4 := Lib.hid (ha.old.less (F2 := fun b => b = w.heap.size) (fun b hb => .inr (by subst hb; exact old_of_row R3.out))); have R4 := Lib.hid (kp_row hk R3.out); clear ha hk) | (go_at_call 11; (with_reducible refine (HRN.out _ _ A4.out).mono ?_); rintro e' w5 ⟨q, rfl, hb, hk⟩; have B5 := Lib.hid (hb.more HCC.out (.cells #[.pointer (some ⟨q, 0, none⟩)] 31)); have HWQ := Lib.hid (show w.heap.size < w5.heap.size from Nat.lt_of_lt_of_le (old_of_row R4.out) (Below.size hk)); have R5 := Lib.hid (kp_row (Kp.trans hk (kp_alloc w5 (.cells #[.pointer (some ⟨q, 0, none⟩)] 31))) R4.out); have M5 := Lib.hid (MapKept.heap_alloc w5 (.cells #[.pointer (some ⟨q, 0, none⟩)] 31)).1; clear hb hk))
  refine wp_loop (fun a' w' => ∃ (j : Nat) (rs : List Nat) (m : NetM), (j ≤ n ∧ Bt J w g q (fun b => b = w.heap.size ∨ b = w5.heap.size ∨ b ∈ rs) m m w' ∧ w'.heap[w.heap.size]? = some (.cells #[.bool false] 4) ∧ w'.heap[w5.heap.size]? = some (.cells #[.pointer (some ⟨q, 0, none⟩)] 31) ∧ (∀ r ∈ rs, w'.heap[r]? = some (.deferred (some []))) ∧ rs.Nodup ∧ w.heap.size ∉ rs ∧ w5.heap.size ∉ rs) ∧ a' = { tmps := #[(.int .i64 nd), (.slice sa n sc), (undef), (undef), (.pointer (some ⟨w.heap.size, 0, none⟩)), (.pointer (some ⟨g, 0, none⟩)), (.nilIface), (.pointer (some ⟨w5.heap.size, 0, none⟩)), (undef), (a'.tmps.toList.getD 9 undef), (a'.tmps.toList.getD 10 undef), (a'.tmps.toList.getD 11 undef), (a'.tmps.toList.getD 12 undef), (a'.tmps.toList.getD 13 undef), (undef), (undef), (a'.tmps.toList.getD 16 undef), (.bool true), (.bool false), (.slice sa n sc), (.bool false), (.tuple #[.pointer (some ⟨g, 0, none⟩), .nilIface]), (.int .i64 nd), (.tuple #[.pointer (some ⟨g, 0, none⟩), .nilIface]), (.pointer (some ⟨g, 0, none⟩)), (.nilIface), (.int .i64 nd), (.bool (decide (nd < 1))), (.bool (decide (nd < 1))), (.int .i64 nd), (.bool (decide (4 < nd))), (.bool (decide (nd < 1) || decide (4 < nd))), (undef), (undef), (undef), (undef), (undef), (undef), (undef), (.nilIface), (.bool false), (.bool false), (.pointer (some ⟨g, 0, none⟩)), (.bool false), (.bool false), (.int .i64 nd), (.pointer (some ⟨q, 0, none⟩)), (.slice sa n sc), (.int .i64 nn), (.int .i64 j), (a'.tmps.toList.getD 50 undef), (a'.tmps.toList.getD 51 undef), (a'.tmps.toList.getD 52 undef), (a'.tmps.toList.getD 53 undef), (a'.tmps.toList.getD 54 undef), (a'.tmps.toList.getD 55 undef), (a'.tmps.toList.getD 56 undef), (a'.tmps.toList.getD 57 undef), (a'.tmps.toList.getD 58 undef), (a'.tmps.toList.getD 59 undef), (a'.tmps.toList.getD 60 undef), (a'.tmps.toList.getD 61 undef), (a'.tmps.toList.getD 62 undef), (a'.tmps.toList.getD 63 undef), (a'.tmps.toList.getD 64 undef), (a'.tmps.toList.getD 65 undef), (a'.tmps.toList.getD 66 undef), (a'.tmps.toList.getD 67 undef), (a'.tmps.toList.getD 68 undef), (a'.tmps.toList.getD 69 undef), (a'.tmps.toList.getD 70 undef), (a'.tmps.toList.getD 71 undef), (a'.tmps.toList.getD 72 undef), (a'.tmps.toList.getD 73 undef), (a'.tmps.toList.getD 74 undef), (a'.tmps.toList.getD 75 undef), (a'.tmps.toList.getD 76 undef), (a'.tmps.toList.getD 77 undef), (a'.tmps.toList.getD 78 undef), (a'.tmps.toList.getD 79 undef), (a'.tmps.toList.getD 80 undef), (a'.tmps.toList.getD 81 undef), (a'.tmps.toList.getD 82 undef), (a'.tmps.toList.getD 83 undef), (a'.tmps.toList.getD 84 undef), (a'.tmps.toList.getD 85 undef), (a'.tmps.toList.getD 86 undef), (a'.tmps.toList.getD 87 undef), (a'.tmps.toList.getD 88 undef), (a'.tmps.toList.getD 89 undef), (a'.tmps.toList.getD 90 undef), (a'.tmps.toList.getD 91 undef), (a'.tmps.toList.getD 92 undef), (a'.tmps.toList.getD 93 undef), (a'.tmps.toList.getD 94 undef), (a'.tmps.toList.getD 95 undef), (a'.tmps.toList.getD 96 undef), (a'.tmps.toList.getD 97 undef), (a'.tmps.toList.getD 98 undef), (a'.tmps.toList.getD 99 undef), (a'.tmps.toList.getD 100 undef), (a'.tmps.toList.getD 101 undef), (a'.tmps.toList.getD 102 undef), (a'.tmps.toList.getD 103 undef), (a'.tmps.toList.getD 104 undef), (a'.tmps.toList.getD 105 undef), (a'.tmps.toList.getD 106 undef), (a'.tmps.toList.getD 107 undef), (a'.tmps.toList.getD 108 undef), (a'.tmps.toList.getD 109 undef), (a'.tmps.toList.getD 110 undef), (a'.tmps.toList.getD 111 undef), (a'.tmps.toList.getD 112 undef), (a'.tmps.toList.getD 113 undef), (undef), (undef), (undef), (undef), (undef), (undef), (undef), (undef), (undef), (undef), (undef), (undef), (undef), (undef), (undef), (undef), (undef), (undef), (undef), (undef), (undef), (undef), (undef), (undef), (undef), (a'.tmps.toList.getD 139 undef), (a'.tmps.toList.getD 140 undef), (a'.tmps.toList.getD 141 undef), (a'.tmps.toList.getD 142 undef), (a'.tmps.toList.getD 143 undef), (a'.tmps.toList.getD 144 undef), (a'.tmps.toList.getD 145 undef), (a'.tmps.toList.getD 146 undef), (a'.tmps.toList.getD 147 undef), (a'.tmps.toList.getD 148 undef), (a'.tmps.toList.getD 149 undef), (a'.tmps.toList.getD 150 undef), (a'.tmps.toList.getD 151 undef), (a'.tmps.toList.getD 152 undef), (a'.tmps.toList.getD 153 undef), (a'.tmps.toList.getD 154 undef), (a'.tmps.toList.getD 155 undef), (a'.tmps.toList.getD 156 undef), (a'.tmps.toList.getD 157 undef), (a'.tmps.toList.getD 158 undef), (a'.tmps.toList.getD 159 undef), (a'.tmps.toList.getD 160 undef), (a'.tmps.toList.getD 161 undef)], defers := rs.map mkD }) (fun a' _ => n - (intOf (a'.tmps.getD 49 undef)).toNat) ?start ?round
  case start =>
    have hne : w.heap.size ≠ w5.heap.size := fun e => by have h1 := old_of_row R4.out; have h2 := Below.size K3.out; have := HWQ.out; omega
    exact ⟨0, [], NetM.new nk, ⟨Nat.zero_le _, B5.out.less (fun b hb => by rcases hb with hb | hb | hb; exact .inl hb; exact .inr hb; cases hb), R5.out, M5.out, fun r hr => (by cases hr), List.nodup_nil, (fun h => by cases h), (fun h => by cases h)⟩, rfl⟩
  case round =>
    rintro a' wO ⟨j, rs, m, ⟨hj, hb, hr, hm, hks, hnd, hx1, hx2⟩, ha⟩
    obtain ⟨us, ha⟩ : ∃ us : Nat → Value, a' = { tmps := #[(.int .i64 nd), (.slice sa n sc), (undef), (undef), (.pointer (some ⟨w.heap.size, 0, none⟩)), (.pointer (some ⟨g, 0, none⟩)), (.nilIface), (.pointer (some ⟨w5.heap.size, 0, none⟩)), (undef), (us 9), (us 10), (us 11), (us 12), (us 13), (undef), (undef), (us 16), (.bool true), (.bool false), (.slice sa n sc), (.bool false), (.tuple #[.pointer (some ⟨g, 0, none⟩), .nilIface]), (.int .i64 nd), (.tuple #[.pointer (some ⟨g, 0, none⟩), .nilIface]), (.pointer (some ⟨g, 0, none⟩)), (.nilIface), (.int .i64 nd), (.bool (decide (nd < 1))), (.bool (decide (nd < 1))), (.int .i64 nd), (.bool (decide (4 < nd))), (.bool (decide (nd < 1) || decide (4 < nd))), (undef), (undef), (undef), (undef), (undef), (undef), (undef), (.nilIface), (.bool false), (.bool false), (.pointer (some ⟨g, 0, none⟩)), (.bool false), (.bool false), (.int .i64 nd), (.pointer (some ⟨q, 0, none⟩)), (.slice sa n sc), (.int .i64 nn), (.int .i64 j), (us 50), (us 51), (us 52), (us 53), (us 54), (us 55), (us 56), (us 57), (us 58), (us 59), (us 60), (us 61), (us 62), (us 63), (us 64), (us 65), (us 66), (us 67), (us 68), (us 69), (us 70), (us 71), (us 72), (us 73), (us 74), (us 75), (us 76), (us 77), (us 78), (us 79), (us 80), (us 81), (us 82), (us 83), (us 84), (us 85), (us 86), (us 87), (us 88), (us 89), (us 90), (us 91), (us 92), (us 93), (us 94), (us 95), (us 96), (us 97), (us 98), (us 99), (us 100), (us 101), (us 102), (us 103), (us 104), (us 105), (us 106), (us 107), (us 108), (us 109), (us 110), (us 111), (us 112), (us 113), (undef), (undef), (undef), (undef), (undef), (undef), (undef), (undef), (undef), (undef), (undef), (undef), (undef), (undef), (undef), (undef), (undef), (undef), (undef), (undef), (undef), (undef), (undef), (undef), (undef), (us 139), (us 140), (us 141), (us 142), (us 143), (us 144), (us 145), (us 146), (us 147), (us 148), (us 149), (us 150), (us 151), (us 152), (us 153), (us 154), (us 155), (us 156), (us 157), (us 158), (us 159), (us 160), (us 161)], defers := rs.map mkD } := ⟨fun k => a'.tmps.toList.getD k undef, ha⟩
    subst ha
    obtain ⟨jj, hjj⟩ : ∃ jj : Int, (j : Int) = jj := ⟨_, rfl⟩
    have HJ := Lib.hid hjj
    rw [hjj]
    have HB := Lib.hid hb
    have HROWS := Lib.hid (And.intro hr (And.intro hm hks))
    have HND := Lib.hid (And.intro hnd (And.intro hx1 hx2))
    by_cases hlt : j < n
    · have hjl : jj < nn := by omega
      have hj0 : 0 ≤ jj := by omega
      have htn : jj.toNat = j := by omega
      have hjr : j < os.length := by rw [HN.out]; exact hlt
      obtain ⟨bs, off, rfl, hc0⟩ := HEL.out j hjr
      have hdl12 := HLG.out.2 j hjr
      obtain ⟨o, ho⟩ : ∃ o, os[j] = o := ⟨_, rfl⟩
      rw [ho] at hc0 hdl12
      obtain ⟨k1, i1, a1, b1, c1, d1⟩ := o
      have hc := hc0.kp hb.base
      obtain ⟨ao, dc, hd0, hsd⟩ := hc0.fd
      have hd := kp_cell hb.base hd0
      have hib := hc0.ib
      obtain ⟨ok, oi, oa, ob, oc, -⟩ := hc
      dsimp only at ok oi oa ob oc hd hd0 hsd hib hdl12
      obtain ⟨dl, hdl⟩ : ∃ k, d1.length = k := ⟨_, rfl⟩
      rw [hdl] at hd hd0
      rw [← htn] at ok oi oa ob oc hd
      obtain ⟨X, hX⟩ : ∃ X, (wO.alloc (.cells #[.int .i64 k1, .int .i64 i1, .int .i64 a1, .int .i64 b1, .bool c1, .slice ao dl dc] 35)).drew = X := ⟨_, rfl⟩
      have kX : Kp wO X := by rw [← hX]; exact kp_drewR (kp_alloc _ _)
      have bX : Bt J w g q (fun b => (fun b => b = w.heap.size ∨ b = w5.heap.size ∨ b ∈ rs) b ∨ b = wO.heap.size) m m X := by rw [← hX]; exact (hb.more HCC.out (.cells #[.int .i64 k1, .int .i64 i1, .int .i64 a1, .int .i64 b1, .bool c1, .slice ao dl dc] 35)).kp HCC.out (kp_drewR (Kp.refl _))
      have tX : X.heap[wO.heap.size]? = some (.cells #[.int .i64 k1, .int .i64 i1, .int .i64 a1, .int .i64 b1, .bool c1, .slice ao dl dc] 35) := by rw [← hX]; exact kp_row (kp_drewR (Kp.refl _)) (MapKept.heap_alloc wO (.cells #[.int .i64 k1, .int .i64 i1, .int .i64 a1, .int .i64 b1, .bool c1, .slice ao dl dc] 35)).1
      have HX := Lib.hid (And.intro bX (And.intro (kp_row kX hm) (And.intro tX kX)))
      have HXW := Lib.hid hX
      obtain ⟨m', hm'⟩ : ∃ x, doN m ⟨k1, i1, a1, b1, c1, d1⟩ = x := ⟨_, rfl⟩
      have HST := Lib.hid (fun w1 (h : Bt J w g q (fun b => (fun b => b = w.heap.size ∨ b = w5.heap.size ∨ b ∈ rs) b ∨ b = wO.heap.size) m m w1) => (show Calls Tryd.prog 12 #[.pointer (some ⟨g, 0, none⟩), .pointer (some ⟨q, 0, none⟩), .agg #[.int .i64 k1, .int .i64 i1, .int .i64 a1, .int .i64 b1, .bool c1, .slice ao dl dc]] w1 fun r w' => r = .returned (.bool true) ∧ Bt J w g q (fun b => (fun b => b = w.heap.size ∨ b = w5.heap.size ∨ b ∈ rs) b ∨ b = wO.heap.size) m' m' w' ∧ (∀ b, (fun b => (fun b => b = w.heap.size ∨ b = w5.heap.size ∨ b ∈ rs) b ∨ b = wO.heap.size) b → w'.heap[b]? = w1.heap[b]?) by
        have e := stepP_any HCC.out HV.out h ⟨k1, i1, a1, b1, c1, d1⟩ ao dc (by dsimp only; omega) hsd hib
        unfold opPv at e
        dsimp only at e
        rw [hm', hdl] at e
        exact e))
      have HLT := Lib.hid hlt
      clear hX kX bX tX hm' hd0 hsd hib hdl12 hdl hc0 ho hjr htn hlt hb hr hm hks hnd hx1 hx2 hjj hj
      go_wp2_with fail
      refine wp_region_held_drew (S := fun w' => w'.heap[w5.heap.size]? = some (.cells #[.pointer (some ⟨q, 0, none⟩)] 31) ∧ w'.heap[wO.heap.size]? = some (.cells #[.int .i64 k1, .int .i64 i1, .int .i64 a1, .int .i64 b1, .bool c1, .slice ao dl dc] 35)) (by kernel_rfl) ?_ (fun hHeld => ?_)
      · exact (by rw [HXW.out]; exact ⟨HX.out.2.1, HX.out.2.2.1⟩)
      rw [HXW.out]
      have hHeldX : (fun w' => w'.heap[w5.heap.size]? = some (.cells #[.pointer (some ⟨q, 0, none⟩)] 31) ∧ w'.heap[wO.heap.size]? = some (.cells #[.int .i64 k1, .int .i64 i1, .int .i64 a1, .int .i64 b1, .bool c1, .slice ao dl dc] 35)) X := ⟨HX.out.2.1, HX.out.2.2.1⟩
      refine wpAnyH_take (i := 0) (v := ?_) rfl (by kernel_rfl) (by kernel_rfl) (by kernel_rfl) (fun _ _ _ h => h) (Or.inl ⟨by rfl, ?_⟩) (by assumption) ?_
      rotate_left
      · intro w hSw; have y0 := cell_row (i := 0) hSw.1 rfl; have o0 := cell_row (i := 0) hSw.2 rfl; have o1 := cell_row (i := 1) hSw.2 rfl; have o2 := cell_row (i := 2) hSw.2 rfl; have o3 := cell_row (i := 3) hSw.2 rfl; have o4 := cell_row (i := 4) hSw.2 rfl; have o5 := cell_row (i := 5) hSw.2 rfl; go_simp; try with_reducible rfl
      go_simp
      refine wpAnyH_take (i := 1) (v := ?_) rfl (by kernel_rfl) (by kernel_rfl) (by kernel_rfl) (fun _ _ _ h => h) (Or.inl ⟨by rfl, ?_⟩) (by assumption) ?_
      rotate_left
      · intro w hSw; have y0 := cell_row (i := 0) hSw.1 rfl; have o0 := cell_row (i := 0) hSw.2 rfl; have o1 := cell_row (i := 1) hSw.2 rfl; have o2 := cell_row (i := 2) hSw.2 rfl; have o3 := cell_row (i := 3) hSw.2 rfl; have o4 := cell_row (i := 4) hSw.2 rfl; have o5 := cell_row (i := 5) hSw.2 rfl; go_simp; try with_reducible rfl
      go_simp
      refine wpAnyH_take (i := 2) (v := ?_) rfl (by kernel_rfl) (by kernel_rfl) (by kernel_rfl) (fun _ _ _ h => h) (Or.inl ⟨by rfl, ?_⟩) (by assumption) ?_
      rotate_left
      · intro w hSw; have y0 := cell_row (i := 0) hSw.1 rfl; have o0 := cell_row (i := 0) hSw.2 rfl; have o1 := cell_row (i := 1) hSw.2 rfl; have o2 := cell_row (i := 2) hSw.2 rfl; have o3 := cell_row (i := 3) hSw.2 rfl; have o4 := cell_row (i := 4) hSw.2 rfl; have o5 := cell_row (i := 5) hSw.2 rfl; go_simp; try with_reducible rfl
      go_simp
      refine wpAnyH_ready (rs := [3]) (by kernel_rfl) (by simp) ?_
      refine AllReadyH.cons rfl (fun K hK => ?_) AllReadyH.nil
      go_simp
      go_wp2_with (go_at_call 12; (with_reducible refine (HST.out _ HX.out.1).mono ?_); rintro e' w6 ⟨rfl, hb6, hf⟩; have B6 := Lib.hid hb6; have FR6 := Lib.hid (fun b (hb : (fun b => (fun b => b = w.heap.size ∨ b = w5.heap.size ∨ b ∈ rs) b ∨ b = wO.heap.size) b) => hf b hb); clear hb6 hf)
      have M6 := Lib.hid ((FR6.out _ (.inl (.inr (.inl rfl)))).trans HX.out.2.1)
      have T6 := Lib.hid ((FR6.out _ (.inr rfl)).trans HX.out.2.2.1)
      refine hK.out _ _ ?_ (fun hHeld => ?_)
      · exact ⟨M6.out, T6.out⟩
      clear hK K
      obtain ⟨dv, dvc, drb, hRn⟩ := B6.out.see
      obtain ⟨va, vcp, rfl, hlet⟩ := hRn.let
      have HLET := Lib.hid hlet
      obtain ⟨ml, hml⟩ : ∃ k, m'.f.length = k := ⟨_, rfl⟩
      have HRQ := Lib.hid (show w6.heap[q]? = some (.cells #[.int .i64 m'.n, .slice va ml vcp, dvc, .int .i64 m'.lost] 41 (0, 0)) from hml ▸ hRn.row)
      have HML := Lib.hid hml
      have hle := bt_len HCC.out B6.out
      have hlo := bt_lost HCC.out B6.out
      rw [hml] at hle
      obtain ⟨lo, hlo2⟩ : ∃ k, m'.lost = k := ⟨_, rfl⟩
      rw [hlo2] at hlo
      have HLE := Lib.hid hle
      have HLS := Lib.hid hlo
      have HRQ2 := Lib.hid (hlo2 ▸ HRQ.out)
      clear hRn hlet hml hle hlo hlo2
      refine wpAnyH_monoT (S' := fun w' => w' = w6) (fun _ h => by subst h; exact ⟨M6.out, T6.out⟩) _ _ _ _ ?_
      have hHeld6 : (fun w' => w' = w6) w6 := rfl
      refine wpAnyH_take (i := 4) (v := ?_) rfl (by kernel_rfl) (by kernel_rfl) (by kernel_rfl) (fun _ _ _ h => h) (Or.inl ⟨by rfl, ?_⟩) (by assumption) ?_
      rotate_left
      · intro w hSw; go_simp; try with_reducible rfl
      go_simp
      refine wpAnyH_take (i := 5) (v := ?_) rfl (by kernel_rfl) (by kernel_rfl) (by kernel_rfl) (fun _ _ _ h => h) (Or.inl ⟨by rfl, ?_⟩) (by assumption) ?_
      rotate_left
      · intro w hSw; go_simp; try with_reducible rfl
      go_simp
      refine wpAnyH_take (i := 6) (v := ?_) rfl (by kernel_rfl) (by kernel_rfl) (by kernel_rfl) (fun _ _ _ h => h) (Or.inl ⟨by rfl, ?_⟩) (by assumption) ?_
      rotate_left
      · intro w hSw; go_simp; try with_reducible rfl
      go_simp
      refine wpAnyH_take (i := 8) (v := ?_) rfl (by kernel_rfl) (by kernel_rfl) (by kernel_rfl) (fun _ _ _ h => h) (Or.inl ⟨by rfl, ?_⟩) (by assumption) ?_
      rotate_left
      · intro w hSw; subst hSw; have y0 := cell_row (i := 0) M6.out rfl; have q1 := cell_row (i := 1) HRQ2.out rfl; have q3 := cell_row (i := 3) HRQ2.out rfl; go_simp; try with_reducible rfl
      go_simp
      refine wpAnyH_take (i := 9) (v := ?_) rfl (by kernel_rfl) (by kernel_rfl) (by kernel_rfl) (fun _ _ _ h => h) (Or.inl ⟨by rfl, ?_⟩) (by assumption) ?_
      rotate_left
      · intro w hSw; go_simp; try with_reducible rfl
      go_simp
      refine wpAnyH_take (i := 10) (v := ?_) rfl (by kernel_rfl) (by kernel_rfl) (by kernel_rfl) (fun _ _ _ h => h) (Or.inl ⟨by rfl, ?_⟩) (by assumption) ?_
      rotate_left
      · intro w hSw; go_simp; try with_reducible rfl
      go_simp
      refine wpAnyH_take (i := 11) (v := ?_) rfl (by kernel_rfl) (by kernel_rfl) (by kernel_rfl) (fun _ _ _ h => h) (Or.inl ⟨by rfl, ?_⟩) (by assumption) ?_
      rotate_left
      · intro w hSw; subst hSw; have y0 := cell_row (i := 0) M6.out rfl; have q1 := cell_row (i := 1) HRQ2.out rfl; have q3 := cell_row (i := 3) HRQ2.out rfl; go_simp; try with_reducible rfl
      go_simp
      refine wpAnyH_take (i := 12) (v := ?_) rfl (by kernel_rfl) (by kernel_rfl) (by kernel_rfl) (fun _ _ _ h => h) (Or.inl ⟨by rfl, ?_⟩) (by assumption) ?_
      rotate_left
      · intro w hSw; go_simp; try with_reducible rfl
      go_simp
      refine wpAnyH_ready (rs := [7]) (by kernel_rfl) (by simp) ?_
      refine AllReadyH.cons rfl (fun K hK => ?_) AllReadyH.nil
      go_simp
      go_wp2_with (go_at_call 13; (with_reducible refine HLE.out.mono ?_); rintro e' w7 ⟨rfl, rfl⟩)
      refine hK.out _ _ ?_ (fun hHeld => ?_)
      · exact rfl
      clear hK K
      refine wpAnyH_take (i := 13) (v := ?_) rfl (by kernel_rfl) (by kernel_rfl) (by kernel_rfl) (fun _ _ _ h => h) (Or.inl ⟨by rfl, ?_⟩) (by assumption) ?_
      rotate_left
      · intro w hSw; go_simp; try with_reducible rfl
      go_simp
      refine wpAnyH_take (i := 14) (v := ?_) rfl (by kernel_rfl) (by kernel_rfl) (by kernel_rfl) (fun _ _ _ h => h) (Or.inl ⟨by rfl, ?_⟩) (by assumption) ?_
      rotate_left
      · intro w hSw; go_simp; try with_reducible rfl
      go_simp
      refine wpAnyH_take (i := 15) (v := ?_) rfl (by kernel_rfl) (by kernel_rfl) (by kernel_rfl) (fun _ _ _ h => h) (Or.inl ⟨by rfl, ?_⟩) (by assumption) ?_
      rotate_left
      · intro w hSw; go_simp; try with_reducible rfl
      go_simp
      refine wpAnyH_take (i := 16) (v := ?_) rfl (by kernel_rfl) (by kernel_rfl) (by kernel_rfl) (fun _ _ _ h => h) (Or.inl ⟨by rfl, ?_⟩) (by assumption) ?_
      rotate_left
      · intro w hSw; go_simp; try with_reducible rfl
      go_simp
      refine wpAnyH_take (i := 18) (v := ?_) rfl (by kernel_rfl) (by kernel_rfl) (by kernel_rfl) (fun _ _ _ h => h) (Or.inl ⟨by rfl, ?_⟩) (by assumption) ?_
      rotate_left
      · intro w hSw; subst hSw; have y0 := cell_row (i := 0) M6.out rfl; have q1 := cell_row (i := 1) HRQ2.out rfl; have q3 := cell_row (i := 3) HRQ2.out rfl; go_simp; try with_reducible rfl
      go_simp
      refine wpAnyH_take (i := 19) (v := ?_) rfl (by kernel_rfl) (by kernel_rfl) (by kernel_rfl) (fun _ _ _ h => h) (Or.inl ⟨by rfl, ?_⟩) (by assumption) ?_
      rotate_left
      · intro w hSw; go_simp; try with_reducible rfl
      go_simp
      refine wpAnyH_take (i := 20) (v := ?_) rfl (by kernel_rfl) (by kernel_rfl) (by kernel_rfl) (fun _ _ _ h => h) (Or.inl ⟨by rfl, ?_⟩) (by assumption) ?_
      rotate_left
      · intro w hSw; go_simp; try with_reducible rfl
      go_simp
      refine wpAnyH_take (i := 21) (v := ?_) rfl (by kernel_rfl) (by kernel_rfl) (by kernel_rfl) (fun _ _ _ h => h) (Or.inl ⟨by rfl, ?_⟩) (by assumption) ?_
      rotate_left
      · intro w hSw; subst hSw; have y0 := cell_row (i := 0) M6.out rfl; have q1 := cell_row (i := 1) HRQ2.out rfl; have q3 := cell_row (i := 3) HRQ2.out rfl; go_simp; try with_reducible rfl
      go_simp
      refine wpAnyH_ready (rs := [17]) (by kernel_rfl) (by simp) ?_
      refine AllReadyH.cons rfl (fun K hK => ?_) AllReadyH.nil
      go_simp
      go_wp2_with (go_at_call 14; (with_reducible refine HLS.out.mono ?_); rintro e' w7 ⟨rfl, rfl⟩)
      refine hK.out _ _ ?_ (fun hHeld => ?_)
      · exact rfl
      clear hK K
      refine wpAnyH_take (i := 22) (v := ?_) rfl (by kernel_rfl) (by kernel_rfl) (by kernel_rfl) (fun _ _ _ h => h) (Or.inl ⟨by rfl, ?_⟩) (by assumption) ?_
      rotate_left
      · intro w hSw; go_simp; try with_reducible rfl
      go_simp
      refine wpAnyH_take (i := 23) (v := ?_) rfl (by kernel_rfl) (by kernel_rfl) (by kernel_rfl) (fun _ _ _ h => h) (Or.inl ⟨by rfl, ?_⟩) (by assumption) ?_
      rotate_left
      · intro w hSw; go_simp; try with_reducible rfl
      go_simp
      refine wpAnyH_done (by kernel_rfl) ?_ _
      have HLL := Lib.hid (bt_letters HCC.out B6.out)
      obtain ⟨mm, hmm⟩ : ∃ x : Int, (ml : Int) = x := ⟨_, rfl⟩
      have HMM := Lib.hid hmm
      go_wp2_with (go_at_call 15; (with_reducible refine HLL.out.mono ?_); rintro e' w7 ⟨v7, ps, rfl, hh, hk⟩; have ho7 := hh.own; rw [HML.out] at ho7; obtain ⟨la, lc, hv7⟩ := own_formG ho7; subst hv7; have HH7 := Lib.hid hh; have O7 := Lib.hid ho7; have K7 := Lib.hid hk; clear hh hk ho7)
      go_loopw [80] (fun iv wq => ∃ i : Nat, i ≤ ml ∧ iv = .int .i64 i ∧ Kp w6 wq ∧ wq.ownsRow w6.heap.size 45 3 (.slice la ml lc) ml (pE.row ps) ∧ ∀ (k : Nat) (h : k < ps.length), i ≤ k → DatP w6.heap.size ps[k] wq) (fun iv _ => ml - (intOf iv).toNat)
      case atStart => exact ⟨0, Nat.zero_le _, rfl, K7.out, O7.out, fun k h _ => HH7.out.dat _ (List.getElem_mem h)⟩
      case round =>
        obtain ⟨i, hi, rfl, hk6, ho, hd⟩ := hrel
        obtain ⟨wq, rfl⟩ : ∃ x, x = wr := ⟨_, rfl⟩
        obtain ⟨ii, hii⟩ : ∃ ii : Int, (i : Int) = ii := ⟨_, rfl⟩
        have HII := Lib.hid hii
        rw [hii]
        have KQ := Lib.hid hk6
        have hpn : ps.length = ml := own_lenG (E := pE) (by decide) ho
        have HPN := Lib.hid hpn
        by_cases hlt : i < ml
        · have hil : ii < mm := by omega
          have hi0 : 0 ≤ ii := by omega
          have htn : ii.toNat = i := by omega
          have hip : i < ps.length := by omega
          obtain ⟨lb, hla, hlb, e0, e1, e2⟩ := own_ltP ho i hip
          obtain ⟨vb, hva, hlc⟩ := HLET.out i (by rw [HML.out]; exact hlt)
          have hfi : m'.f[i]'(by rw [HML.out]; exact hlt) = ps[i].l := by
            have e := congrArg (fun l => l[i]?) HH7.out.fs
            simp only [List.getElem?_map, List.getElem?_eq_getElem hip, Option.map_some] at e
            rw [List.getElem?_eq_getElem (by rw [HML.out]; exact hlt)] at e
            exact (Option.some.inj e).symm
          rw [hfi] at hlc
          have hdi := hd i hip (Nat.le_refl _)
          have hne := HH7.out.ne ps[i] (List.getElem_mem hip)
          have hap := fun (k' : Nat) (h : k' < ps.length) (hk : i + 1 ≤ k') => List.pairwise_iff_getElem.1 HH7.out.apart i k' hip h (by omega)
          obtain ⟨⟨⟨xa, xb, xd⟩, po, pc⟩, hp⟩ : ∃ p, ps[i] = p := ⟨_, rfl⟩
          rw [hp] at hdi hlc hne e0 e1 e2
          simp only [hp] at hap
          unfold DatP at hdi
          dsimp only [LtP.v] at hdi hlc hne e0 e1 e2 hap
          obtain ⟨dl2, hdl2⟩ : ∃ k, xd.length = k := ⟨_, rfl⟩
          obtain ⟨dd, hdd⟩ : ∃ x : Int, (dl2 : Int) = x := ⟨_, rfl⟩
          have HDD := Lib.hid hdd
          rw [hdl2] at hdi hne e2
          simp only [hdl2] at hap
          obtain ⟨ss, hss⟩ : ∃ s, strOfNums xd = s := ⟨_, rfl⟩
          rw [hss] at hlc
          have hgd : ∀ gd, po = some ⟨gd, 0, none⟩ → w6.heap.size ≤ gd ∧ gd < wq.heap.size ∧ gd ≠ lb ∧ ∀ (k' : Nat) (h : k' < ps.length), i + 1 ≤ k' → ps[k'].v.ownBlock ≠ some gd := fun gd e => by
            subst e
            subst hla
            exact ⟨(hdi.lt gd rfl).1, (hdi.lt gd rfl).2, fun q => hne lb rfl (by rw [q]; rfl), fun k' h hk => hap k' h hk gd rfl⟩
          have HGD := Lib.hid hgd
          have DL := Lib.hid (show dl2 ≤ 1000000 by (have h1 := B6.out.nok.dat (m'.f[i]'(by rw [HML.out]; exact hlt)) (List.getElem_mem (by rw [HML.out]; exact hlt)); rw [hfi, hp] at h1; have := h1.1; dsimp only at this; omega))
          have HM64 := Lib.hid (show ml ≤ 64 by rw [← HML.out]; exact B6.out.nok.len)
          have hmm64 : mm ≤ 64 := by have := HM64.out; omega
          have HRB := Lib.hid (own_rowB hdi)
          have HSL := Lib.hid (own_slb hdi)
          have hto := fun w1 (h : SlB (.slice po dl2 pc) xd w1) => told_any xa xb po dl2 pc xd w1 h
          rw [hss] at hto
          have HTO := Lib.hid hto
          have HLC := Lib.hid (show ∀ w1, Kp w6 w1 → w1.cell? ⟨vb, ii.toNat * 3, none⟩ = some (.int .i64 xa) ∧ w1.cell? ⟨vb, ii.toNat * 3 + 1, none⟩ = some (.int .i64 xb) ∧ w1.cell? ⟨vb, ii.toNat * 3 + 2, none⟩ = some (.string ss) from fun w1 hk => by rw [htn]; exact hlc w1 hk)
          have L11 := Lib.hid (MapKept.heap_alloc wq (.cells #[.int .i64 xa, .int .i64 xb, .slice po dl2 pc] 45)).1
          have OQ := Lib.hid ho
          have DQ := Lib.hid hd
          have HLT2 := Lib.hid (And.intro hlt hlb)
          subst hla
          subst hva
          rw [← htn] at e0 e1 e2
          clear hlt htn hlb hlc hfi hdi hne hap hp hdl2 hss hgd hto ho hd hk6 hi hii
          go_wp2_with fail
          refine wp_region_held_drew (S := fun w' => Kp (wq.alloc (.cells #[.int .i64 xa, .int .i64 xb, .slice po dl2 pc] 45)) w') (by kernel_rfl) ?_ (fun hHeld => ?_)
          · exact kp_drewR (Kp.refl _)
          have SD19 := Lib.hid (HSL.out.kp (kp_drewR (kp_alloc wq (.cells #[.int .i64 xa, .int .i64 xb, .slice po dl2 pc] 45))))
          refine wpAnyH_take (i := 0) (v := ?_) rfl (by kernel_rfl) (by kernel_rfl) (by kernel_rfl) (fun _ _ _ h => h) (Or.inl ⟨by rfl, ?_⟩) (by assumption) ?_
          rotate_left
          · intro w hSw; have z0 := cell_row (i := 0) (kp_row hSw L11.out) rfl; have z1 := cell_row (i := 1) (kp_row hSw L11.out) rfl; have z2 := cell_row (i := 2) (kp_row hSw L11.out) rfl; go_simp; try with_reducible rfl
          go_simp
          refine wpAnyH_take (i := 2) (v := ?_) rfl (by kernel_rfl) (by kernel_rfl) (by kernel_rfl) (fun _ _ _ h => h) (Or.inl ⟨by rfl, ?_⟩) (by assumption) ?_
          rotate_left
          · intro w hSw; have y0 := cell_row (i := 0) (kp_row (Kp.trans KQ.out (Kp.trans (kp_alloc wq (.cells #[.int .i64 xa, .int .i64 xb, .slice po dl2 pc] 45)) hSw)) M6.out) rfl; go_simp; try with_reducible rfl
          go_simp
          refine wpAnyH_take (i := 3) (v := ?_) rfl (by kernel_rfl) (by kernel_rfl) (by kernel_rfl) (fun _ _ _ h => h) (Or.inl ⟨by rfl, ?_⟩) (by assumption) ?_
          rotate_left
          · intro w hSw; go_simp; try with_reducible rfl
          go_simp
          refine wpAnyH_take (i := 4) (v := ?_) rfl (by kernel_rfl) (by kernel_rfl) (by kernel_rfl) (fun _ _ _ h => h) (Or.inl ⟨by rfl, ?_⟩) (by assumption) ?_
          rotate_left
          · intro w hSw; go_simp; try with_reducible rfl
          go_simp
          refine wpAnyH_take (i := 5) (v := ?_) rfl (by kernel_rfl) (by kernel_rfl) (by kernel_rfl) (fun _ _ _ h => h) (Or.inl ⟨by rfl, ?_⟩) (by assumption) ?_
          rotate_left
          · intro w hSw; have q1 := cell_row (i := 1) (kp_row (Kp.trans KQ.out (Kp.trans (kp_alloc wq (.cells #[.int .i64 xa, .int .i64 xb, .slice po dl2 pc] 45)) hSw)) HRQ2.out) rfl; go_simp; try with_reducible rfl
          go_simp
          refine wpAnyH_take (i := 6) (v := ?_) rfl (by kernel_rfl) (by kernel_rfl) (by kernel_rfl) (fun _ _ _ h => h) (Or.inl ⟨by rfl, ?_⟩) (by assumption) ?_
          rotate_left
          · intro w hSw; go_simp; try with_reducible rfl
          go_simp
          refine wpAnyH_take (i := 7) (v := ?_) rfl (by kernel_rfl) (by kernel_rfl) (by kernel_rfl) (fun _ _ _ h => h) (Or.inl ⟨by rfl, ?_⟩) (by assumption) ?_
          rotate_left
          · intro w hSw; go_simp; try with_reducible rfl
          go_simp
          refine wpAnyH_take (i := 8) (v := ?_) rfl (by kernel_rfl) (by kernel_rfl) (by kernel_rfl) (fun _ _ _ h => h) (Or.inl ⟨by rfl, ?_⟩) (by assumption) ?_
          rotate_left
          · intro w hSw; obtain ⟨l0, l1, l2⟩ := HLC.out _ (Kp.trans KQ.out (Kp.trans (kp_alloc wq (.cells #[.int .i64 xa, .int .i64 xb, .slice po dl2 pc] 45)) hSw)); go_simp; try with_reducible rfl
          go_simp
          refine wpAnyH_ready (rs := [1]) (by kernel_rfl) (by simp) ?_
          refine AllReadyH.cons rfl (fun K hK => ?_) AllReadyH.nil
          go_simp
          go_wp2_with (go_at_call 16; (with_reducible refine (HTO.out _ SD19.out).mono ?_); rintro e' w8 ⟨rfl, hk⟩; have K8 := Lib.hid (Kp.trans (kp_drewR (Kp.refl (wq.alloc (.cells #[.int .i64 xa, .int .i64 xb, .slice po dl2 pc] 45)))) hk); clear hk)
          refine hK.out _ _ ?_ (fun hHeld => ?_)
          · exact K8.out
          clear hK K
          refine wpAnyH_take (i := 9) (v := ?_) rfl (by kernel_rfl) (by kernel_rfl) (by kernel_rfl) (fun _ _ _ h => h) (Or.inl ⟨by rfl, ?_⟩) (by assumption) ?_
          rotate_left
          · intro w hSw; go_simp; try with_reducible rfl
          go_simp
          refine wpAnyH_done (by kernel_rfl) ?_ _
          have KE := Lib.hid (Kp.trans KQ.out (Kp.trans (kp_alloc wq (.cells #[.int .i64 xa, .int .i64 xb, .slice po dl2 pc] 45)) K8.out))
          have L8 := Lib.hid (kp_row K8.out L11.out)
          have z8 := cell_row (i := 2) L8.out rfl
          go_wp2_with fail
          go_loopw [98] (fun kv wz => ∃ k : Nat, k ≤ dl2 ∧ kv = .int .i64 k ∧ Kp w6 wz ∧ wz.ownsRow w6.heap.size 45 3 (.slice (some ⟨lb, 0, none⟩) ml lc) ml (pE.row ps) ∧ (∀ (k' : Nat) (h : k' < ps.length), i + 1 ≤ k' → DatP w6.heap.size ps[k'] wz) ∧ wz.heap[wq.heap.size]? = some (.cells #[.int .i64 xa, .int .i64 xb, .slice po dl2 pc] 45) ∧ (dl2 = 0 ∨ ∃ gd, po = some ⟨gd, 0, none⟩ ∧ RowB gd dl2 wz)) (fun kv _ => dl2 - (intOf kv).toNat)
          case atStart =>
            have kq := Kp.trans (kp_alloc wq (.cells #[.int .i64 xa, .int .i64 xb, .slice po dl2 pc] 45)) K8.out
            exact ⟨0, Nat.zero_le _, rfl, KE.out, own_kp3 OQ.out kq, fun k' h hk => (DQ.out k' h (by omega)).kp kq, L8.out, HRB.out.imp id (fun ⟨gd, e1, e2, e3⟩ => ⟨gd, e1, e3.heap (Below.block kq gd (HGD.out gd e1).2.1)⟩)⟩
          case round =>
            obtain ⟨k, hk, rfl, hk6, ho, hd, hL, hRB⟩ := hrel
            obtain ⟨kk, hkk⟩ : ∃ kk : Int, (k : Int) = kk := ⟨_, rfl⟩
            have HKK := Lib.hid hkk
            rw [hkk]
            have KZ := Lib.hid hk6
            have OZ := Lib.hid ho
            have DZ := Lib.hid hd
            have LZ := Lib.hid hL
            have z2 := cell_row (i := 2) hL rfl
            have hdd2 := HDD.out
            by_cases hlt : k < dl2
            · have hkl : kk < dd := by omega
              have hk0 : 0 ≤ kk := by omega
              have hkn : kk.toNat = k := by omega
              have hd1000 : dl2 ≤ 1000000 := DL.out
              have hkb : kk + 1 ≤ 1000000 := by omega
              rcases hRB with h0 | ⟨gd, rfl, hrow⟩
              · omega
              obtain ⟨g1', g2', g3', g4'⟩ := HGD.out gd rfl
              obtain ⟨cur, hc1, hc2, hc3⟩ := hrow
              obtain ⟨x, hx⟩ := hc3 k hlt
              have hrd : wr.cell? ⟨gd, kk.toNat, none⟩ = some (.int .u8 x) := by rw [hkn]; exact cell_row hc1 hx
              have fz := frozR hc1
              have RZ := Lib.hid (show RowB gd dl2 wr from ⟨cur, hc1, hc2, hc3⟩)
              have HG4 := Lib.hid (And.intro g1' (And.intro g2' (And.intro g3' g4')))
              have HLT3 := Lib.hid hlt
              clear hlt hkn hc1 hc2 hc3 hx hk6 ho hd hL g1' g2' g3' g4' hk hkk hd1000
              go_wp2
              have hk1 : (k : Int) = kk := HKK.out
              have hlt1 : k < dl2 := HLT3.out
              obtain ⟨g1', g2', g3', g4'⟩ := HG4.out
              have e5 : ∀ b, b ≠ gd → ∀ y, (wr.setCell ⟨gd, kk.toNat, none⟩ y).heap[b]? = wr.heap[b]? := fun b hb y => Below.heap_setCell _ _ _ _ hb
              go_roundw
              case rel => exact ⟨k + 1, hlt1, by rw [← hk1]; rfl, Below.setCell KZ.out g1' _, own_stayG OZ.out (fun b hb => e5 b (fun q => g3' (by have := Option.some.inj hb; rw [← q]; exact this.symm)) _), fun k' h hk => own_stayG (DZ.out k' h hk) (fun b hb => e5 b (fun q => g4' k' h hk (q ▸ hb)) _), (e5 _ (by omega) _).trans LZ.out, .inr ⟨gd, rfl, RZ.out.set _⟩⟩
              case measure => simp [intOf]; omega
            · have hkl : ¬ kk < dd := by omega
              clear hlt hk6 ho hd hL hk hkk hRB
              go_wp2
              have hi1 : (i : Int) = ii := HII.out
              have hlt1 : i < ml := HLT2.out.1
              have hml64 := HM64.out
              go_roundw
              case rel => exact ⟨i + 1, hlt1, by rw [← hi1]; rfl, KZ.out, OZ.out, fun k' h hk => DZ.out k' h hk⟩
              case measure => simp [intOf]; omega
        · have hil : ¬ ii < mm := by omega
          clear hlt ho hd hi hii hk6
          obtain ⟨W8, hW8⟩ : ∃ x, wq.alloc (.cells #[.int .i64 (-1)] 3) = x := ⟨_, rfl⟩
          have HW8 := Lib.hid hW8
          have k8 : Kp wq W8 := by rw [← hW8]; exact kp_alloc _ _
          have z8 : W8.heap.size = wq.heap.size + 1 := by rw [← hW8]; simp
          have i8 : W8.heap[wq.heap.size]? = some (.cells #[.int .i64 (-1)] 3) := by rw [← hW8]; exact (MapKept.heap_alloc wq _).1
          have k68 := Kp.trans KQ.out k8
          have K68 := Lib.hid k68
          have HTT := Lib.hid (bt_to HCC.out (B6.out.upto HCC.out k68) b1)
          have o3 := cell_row (i := 3) (kp_row k68 T6.out) rfl
          rw [← hW8] at o3
          have HZ8 := Lib.hid (And.intro z8 i8)
          clear hW8 k8 z8 i8 k68 hmm
          go_wp2_with (go_at_call 17; (try rw [HW8.out]); (with_reducible refine HTT.out.mono ?_); rintro e' w9 ⟨lbv, Own, rfl, hk, hown, hseq⟩; have SQ := Lib.hid hseq; have OWN9 := Lib.hid hown; have K9 := Lib.hid hk; clear hk hown hseq)
          obtain ⟨z8, i8⟩ := HZ8.out
          refine range_wp (gf := 32) (lb := lbv) rfl (enters_of Tryd.func32 (by kernel_rfl) rfl) ?_
          intro fn rec hrec
          have hst : rec.state = .ready := by rw [hrec]
          have hpr : rec.params = #[114, 115] := by rw [hrec]
          obtain ⟨wL, hL⟩ : ∃ x, (w9.alloc (.deferred (some []))).alloc (.loop rec) = x := ⟨_, rfl⟩
          have kL : Kp w9 wL := by rw [← hL]; exact Kp.trans (kp_alloc _ _) (kp_alloc _ _)
          have zL : wL.heap.size = w9.heap.size + 2 := by rw [← hL]; simp
          have lL : wL.heap[w9.heap.size + 1]? = some (.loop rec) := by rw [← hL]; have := (MapKept.heap_alloc (w9.alloc (.deferred (some []))) (.loop rec)).1; rw [show (w9.alloc (.deferred (some []))).heap.size = w9.heap.size + 1 by simp] at this; exact this
          have dL : wL.heap[w9.heap.size]? = some (.deferred (some [])) := by rw [← hL]; refine kp_row (kp_alloc _ _) ?_; exact (MapKept.heap_alloc w9 _).1
          rw [hL]
          have iL : wL.heap[wq.heap.size]? = some (.cells #[.int .i64 (-1)] 3) := kp_row (Kp.trans K9.out kL) i8
          have s9 := Below.size K9.out
          have s6 := Below.size KQ.out
          have k6L : Kp w6 wL := Kp.trans K68.out (Kp.trans K9.out kL)
          refine (callsIn_wide.2 (SQ.out (w9.heap.size + 1) (fun rs' W => Asd (fun b => b = wq.heap.size) (fun b => b = wq.heap.size) wL W ∧ W.heap[wq.heap.size]? = some (.cells #[.int .i64 (lastT rs')] 3)) wL ?hJ ?hR ?hY ⟨Asd.refl _ _, iL⟩ (fun b hb => by have := (OWN9.out b hb).1; omega))).mono ?done
          case hJ =>
            rintro rs' W W' ⟨ha, hrw⟩ hs hk
            exact ⟨⟨hk.os.trans ha.os, hk.tape.trans ha.tape, hk.output.trans ha.output, Nat.le_trans ha.size (by have := Below.size hk; omega), fun b hb hn => (Below.block hk b hb).trans (ha.block b hb hn), fun b e => .inl e⟩, (Below.block hk _ (by omega)).trans hrw⟩
          case hR =>
            rintro rs' W ⟨ha, -⟩ b hb
            obtain ⟨o1, -, o3⟩ := OWN9.out b hb
            exact (ha.block b (by omega) (fun e => o3 (.inr (by omega)))).trans (Below.block kL b o1)
          case hY =>
            rintro j' ⟨xa, xb, xd⟩ o c W hfj hxb ⟨ha, hrw⟩ hsz hsl
            dsimp only at hxb hsl ⊢
            have hxb2 : b1 = xb := hxb.symm
            subst hxb2
            have hjl' := (List.getElem?_eq_some_iff.1 hfj).1
            have htj := lastT_toM m'.f b1 j' (by omega)
            have hts := toM_succ hfj b1
            rw [if_pos rfl] at hts
            have hts2 : lastT (toM (m'.f.take (j' + 1)) b1) = j' := by rw [hts, lastT_app]
            have hjm : j' < ml := by rw [← HML.out]; exact hjl'
            obtain ⟨vb, hva, hlc⟩ := HLET.out j' hjl'
            have hfx : m'.f[j'] = ⟨xa, b1, xd⟩ := (List.getElem?_eq_some_iff.1 hfj).2
            rw [hfx] at hlc
            dsimp only at hlc
            obtain ⟨dl3, hdl3⟩ : ∃ k, xd.length = k := ⟨_, rfl⟩
            obtain ⟨ss, hss⟩ : ∃ s, strOfNums xd = s := ⟨_, rfl⟩
            rw [hdl3] at hsl ⊢
            rw [hss] at hlc
            rw [hts2]
            obtain ⟨ji, hji⟩ : ∃ x : Int, (j' : Int) = x := ⟨_, rfl⟩
            rw [hji]
            obtain ⟨lv, hlv⟩ : ∃ x, lastT (toM (m'.f.take j') b1) = x := ⟨_, rfl⟩
            rw [hlv] at hrw htj
            have hmm := HMM.out
            have hnl : ¬ ji ≤ lv := by omega
            have hnld : decide (ji ≤ lv) = false := decide_eq_false hnl
            clear hnl
            have hji0 : 0 ≤ ji := by omega
            have hjim : ji < mm := by omega
            have hjn : ji.toNat = j' := by omega
            rw [← hjn] at hlc
            have HLC3 := Lib.hid hlc
            have hlX : W.heap[w9.heap.size + 1]? = some (.loop rec) := (ha.block _ (by omega) (by omega)).trans lL
            have hto := fun w1 (h : SlB (.slice o dl3 c) xd w1) => told_any xa b1 o dl3 c xd w1 h
            rw [hss] at hto
            have HTO3 := Lib.hid hto
            have hs6L := Below.size k6L
            have haz := ha.size
            have k6W : Kp w6 W := ⟨ha.os.trans k6L.os, ha.tape.trans k6L.tape, ha.output.trans k6L.output, by omega, fun b hb => (ha.block b (by omega) (by omega)).trans (Below.block k6L b hb)⟩
            have k15 := kp_alloc W (.cells #[.int .i64 xa, .int .i64 b1, .slice o dl3 c] 45)
            have b15 := (MapKept.heap_alloc W (.cells #[.int .i64 xa, .int .i64 b1, .slice o dl3 c] 45)).1
            have l15 := kp_row k15 hlX
            have t15 := kp_row k15 hrw
            have HW3 := Lib.hid (And.intro ha (And.intro k6W (And.intro k15 (And.intro b15 (And.intro l15 t15)))))
            have HSL3 := Lib.hid (hsl.kp k15)
            have HNUM := Lib.hid (And.intro zL (And.intro s9 (And.intro s6 (And.intro hsz (And.intro z8 haz)))))
            have HLL9 := Lib.hid lL
            subst hva
            clear hfj hxb hjl' htj hts hts2 hjm hlc hfx hdl3 hss hji hlv hjn hto hs6L haz k6W k15 b15 t15 ha hrw hsl hsz zL s9 s6 z8 i8 iL dL lL k6L
            refine yield_of (r := rec) hlX hst (by rw [hpr]; rfl) trivial ?_
            have hca := congrArg Loop.assign hrec
            have hcb := congrArg Loop.body hrec
            have hct := congrArg Loop.tmps hrec
            dsimp only at hca hcb hct
            rw [hca, hcb, hct, hpr]
            have HREC := Lib.hid hrec
            clear hca hcb hct hpr hst hrec hlX
            refine wpIn_seq ?_
            refine region_round_seq (by kernel_rfl) (by rintro ⟨_, _, h⟩; exact h) ?_
            go_wp2
            refine region_round_seq (by kernel_rfl) (by rintro ⟨_, _, h⟩; exact h) ?_
            go_wp2
            first | refine ⟨l15, ?_⟩ | skip
            generalize hWb : World.putObj _ (w9.heap.size + 1) (Obj.loop _) = Wb
            have k0 : (W.alloc (.cells #[.int .i64 xa, .int .i64 b1, .slice o dl3 c] 45)).putObj (w9.heap.size + 1) (.loop { rec with state := .busy }) = Wb := by have h := hWb; rw [HREC.out] at h ⊢; exact h
            obtain ⟨ha, k6W, k15, b15, l15', t15⟩ := HW3.out
            obtain ⟨zL, s9, s6, hsz, z8, haz⟩ := HNUM.out
            have hbs : ∀ x, x ≠ w9.heap.size + 1 → Wb.heap[x]? = (W.alloc (.cells #[.int .i64 xa, .int .i64 b1, .slice o dl3 c] 45)).heap[x]? := fun x hx => by rw [← hWb]; exact World.putObj_heap_other hx
            have hbz : Wb.heap.size = W.heap.size + 1 := by rw [← hWb, World.putObj_size]; simp
            have lW : Wb.heap[w9.heap.size + 1]? = some (.loop { rec with state := .busy }) := by rw [← k0]; exact World.putObj_heap_same (old_of_row l15')
            have SB := Lib.hid (show SlB (.slice o dl3 c) xd Wb by rw [← k0]; exact slb_putL HSL3.out l15')
            have k6X := Kp.trans k6W k15
            have HWB := Lib.hid (And.intro (show Wb.heap[W.heap.size]? = some (.cells #[.int .i64 xa, .int .i64 b1, .slice o dl3 c] 45) from (hbs _ (by omega)).trans b15) (And.intro (show Wb.heap[wq.heap.size]? = some (.cells #[.int .i64 (lv)] 3) from (hbs _ (by omega)).trans t15) (show Kp w6 Wb from ⟨by rw [← k0]; exact k6X.os, by rw [← k0]; exact k6X.tape, by rw [← k0]; exact k6X.output, by have := Below.size k6X; simp at this; omega, fun b hb => (hbs b (by omega)).trans (Below.block k6X b hb)⟩)))
            have HEND := Lib.hid (And.intro lW (And.intro hbs hbz))
            clear hWb k0 ha k6W k15 b15 l15' t15 zL s9 s6 hsz z8 haz hbs hbz lW k6X
            refine wpIn_block ?_
            refine wpIn_seq ?_
            refine wpIn_seq ?_
            refine region_round (by kernel_rfl) (by kernel_rfl) (by rintro ⟨_, _, h⟩; exact h) ?_
            refine wpAny_of_held (S := fun w' => Kp Wb w') _ _ _ _ ?_
            have hHeld : Kp Wb Wb.drew := kp_drewR (Kp.refl _)
            have SD31 := Lib.hid (SB.out.kp (kp_drewR (Kp.refl Wb)))
            refine wpAnyH_take (i := 0) (v := ?_) rfl (by kernel_rfl) (by kernel_rfl) (by kernel_rfl) (fun _ _ _ h => h) (Or.inl ⟨by rfl, ?_⟩) (by assumption) ?_
            rotate_left
            · intro w hSw; go_simp; try with_reducible rfl
            go_simp
            refine wpAnyH_take (i := 1) (v := ?_) rfl (by kernel_rfl) (by kernel_rfl) (by kernel_rfl) (fun _ _ _ h => h) (Or.inl ⟨by rfl, ?_⟩) (by assumption) ?_
            rotate_left
            · intro w hSw; have t0 := cell_row (i := 0) (kp_row hSw HWB.out.2.1) rfl; go_simp; try with_reducible rfl
            go_simp
            refine wpAnyH_take (i := 2) (v := ?_) rfl (by kernel_rfl) (by kernel_rfl) (by kernel_rfl) (fun _ _ _ h => h) (Or.inl ⟨by rfl, ?_⟩) (by assumption) ?_
            rotate_left
            · intro w hSw; go_simp; try with_reducible rfl
            go_simp
            refine wpAnyH_take (i := 3) (v := ?_) rfl (by kernel_rfl) (by kernel_rfl) (by kernel_rfl) (fun _ _ _ h => h) (Or.inl ⟨by rfl, ?_⟩) (by assumption) ?_
            rotate_left
            · intro w hSw; go_simp; try with_reducible rfl
            go_simp
            refine wpAnyH_take (i := 4) (v := ?_) rfl (by kernel_rfl) (by kernel_rfl) (by kernel_rfl) (fun _ _ _ h => h) (Or.inl ⟨by rfl, ?_⟩) (by assumption) ?_
            rotate_left
            · intro w hSw; have z0 := cell_row (i := 0) (kp_row hSw HWB.out.1) rfl; have z1 := cell_row (i := 1) (kp_row hSw HWB.out.1) rfl; have z2 := cell_row (i := 2) (kp_row hSw HWB.out.1) rfl; go_simp; try with_reducible rfl
            go_simp
            refine wpAnyH_take (i := 6) (v := ?_) rfl (by kernel_rfl) (by kernel_rfl) (by kernel_rfl) (fun _ _ _ h => h) (Or.inl ⟨by rfl, ?_⟩) (by assumption) ?_
            rotate_left
            · intro w hSw; have y0 := cell_row (i := 0) (kp_row (Kp.trans HWB.out.2.2 hSw) M6.out) rfl; go_simp; try with_reducible rfl
            go_simp
            refine wpAnyH_take (i := 7) (v := ?_) rfl (by kernel_rfl) (by kernel_rfl) (by kernel_rfl) (fun _ _ _ h => h) (Or.inl ⟨by rfl, ?_⟩) (by assumption) ?_
            rotate_left
            · intro w hSw; go_simp; try with_reducible rfl
            go_simp
            refine wpAnyH_take (i := 8) (v := ?_) rfl (by kernel_rfl) (by kernel_rfl) (by kernel_rfl) (fun _ _ _ h => h) (Or.inl ⟨by rfl, ?_⟩) (by assumption) ?_
            rotate_left
            · intro w hSw; go_simp; try with_reducible rfl
            go_simp
            refine wpAnyH_take (i := 9) (v := ?_) rfl (by kernel_rfl) (by kernel_rfl) (by kernel_rfl) (fun _ _ _ h => h) (Or.inl ⟨by rfl, ?_⟩) (by assumption) ?_
            rotate_left
            · intro w hSw; have q1 := cell_row (i := 1) (kp_row (Kp.trans HWB.out.2.2 hSw) HRQ2.out) rfl; go_simp; try with_reducible rfl
            go_simp
            refine wpAnyH_take (i := 10) (v := ?_) rfl (by kernel_rfl) (by kernel_rfl) (by kernel_rfl) (fun _ _ _ h => h) (Or.inl ⟨by rfl, ?_⟩) (by assumption) ?_
            rotate_left
            · intro w hSw; go_simp; try with_reducible rfl
            go_simp
            refine wpAnyH_take (i := 11) (v := ?_) rfl (by kernel_rfl) (by kernel_rfl) (by kernel_rfl) (fun _ _ _ h => h) (Or.inl ⟨by rfl, ?_⟩) (by assumption) ?_
            rotate_left
            · intro w hSw; go_simp; try with_reducible rfl
            go_simp
            refine wpAnyH_take (i := 12) (v := ?_) rfl (by kernel_rfl) (by kernel_rfl) (by kernel_rfl) (fun _ _ _ h => h) (Or.inl ⟨by rfl, ?_⟩) (by assumption) ?_
            rotate_left
            · intro w hSw; obtain ⟨l0, l1, l2⟩ := HLC3.out _ (Kp.trans HWB.out.2.2 hSw); go_simp; try with_reducible rfl
            go_simp
            refine wpAnyH_ready (rs := [5]) (by kernel_rfl) (by simp) ?_
            refine AllReadyH.cons rfl (fun K hK => ?_) AllReadyH.nil
            go_simp
            go_wp2_with (go_at_call 16; (with_reducible refine (HTO3.out _ SD31.out).mono ?_); rintro e' w5' ⟨rfl, hk⟩; have K5' := Lib.hid (Kp.trans (kp_drewR (Kp.refl Wb)) hk); clear hk)
            refine hK.out _ _ ?_ (fun hHeld => ?_)
            · exact K5'.out
            clear hK K
            refine wpAnyH_take (i := 13) (v := ?_) rfl (by kernel_rfl) (by kernel_rfl) (by kernel_rfl) (fun _ _ _ h => h) (Or.inl ⟨by rfl, ?_⟩) (by assumption) ?_
            rotate_left
            · intro w hSw; go_simp; try with_reducible rfl
            go_simp
            refine wpAnyH_take (i := 14) (v := ?_) rfl (by kernel_rfl) (by kernel_rfl) (by kernel_rfl) (fun _ _ _ h => h) (Or.inl ⟨by rfl, ?_⟩) (by assumption) ?_
            rotate_left
            · intro w hSw; go_simp; try with_reducible rfl
            go_simp
            refine wpAnyH_take (i := 15) (v := ?_) rfl (by kernel_rfl) (by kernel_rfl) (by kernel_rfl) (fun _ _ _ h => h) (Or.inl ⟨by rfl, ?_⟩) (by assumption) ?_
            rotate_left
            · intro w hSw; go_simp; try with_reducible rfl
            go_simp
            refine wpAnyH_take (i := 16) (v := ?_) rfl (by kernel_rfl) (by kernel_rfl) (by kernel_rfl) (fun _ _ _ h => h) (Or.inl ⟨by rfl, ?_⟩) (by assumption) ?_
            rotate_left
            · intro w hSw; go_simp; try with_reducible rfl
            go_simp
            refine wpAnyH_take (i := 17) (v := ?_) rfl (by kernel_rfl) (by kernel_rfl) (by kernel_rfl) (fun _ _ _ h => h) (Or.inl ⟨by rfl, ?_⟩) (by assumption) ?_
            rotate_left
            · intro w hSw; have z1 := cell_row (i := 1) (kp_row hSw HWB.out.1) rfl; go_simp; try with_reducible rfl
            go_simp
            refine wpAnyH_take (i := 18) (v := ?_) rfl (by kernel_rfl) (by kernel_rfl) (by kernel_rfl) (fun _ _ _ h => h) (Or.inl ⟨by rfl, ?_⟩) (by assumption) ?_
            rotate_left
            · intro w hSw; go_simp; try with_reducible rfl
            go_simp
            refine wpAnyH_take (i := 19) (v := ?_) rfl (by kernel_rfl) (by kernel_rfl) (by kernel_rfl) (fun _ _ _ h => h) (Or.inl ⟨by rfl, ?_⟩) (by assumption) ?_
            rotate_left
            · intro w hSw; have o3 := cell_row (i := 3) (kp_row (Kp.trans HWB.out.2.2 hSw) T6.out) rfl; go_simp; try with_reducible rfl
            go_simp
            refine wpAnyH_take (i := 20) (v := ?_) rfl (by kernel_rfl) (by kernel_rfl) (by kernel_rfl) (fun _ _ _ h => h) (Or.inl ⟨by rfl, ?_⟩) (by assumption) ?_
            rotate_left
            · intro w hSw; go_simp; try with_reducible rfl
            go_simp
            refine wpAnyH_take (i := 21) (v := ?_) rfl (by kernel_rfl) (by kernel_rfl) (by kernel_rfl) (fun _ _ _ h => h) (Or.inl ⟨by rfl, ?_⟩) (by assumption) ?_
            rotate_left
            · intro w hSw; go_simp; try with_reducible rfl
            go_simp
            refine wpAnyH_done (by kernel_rfl) ?_ _
            have bT5 := kp_row K5'.out HWB.out.2.1
            have t5 := cell_row (i := 0) bT5 rfl
            have ft5 := frozR bT5
            have BT5 := Lib.hid bT5
            clear bT5
            gi_wp2_with fail
            obtain ⟨ha, k6W, k15, b15, l15', t15⟩ := HW3.out
            obtain ⟨zL, s9, s6, hsz, z8, haz⟩ := HNUM.out
            obtain ⟨lW, hbs, hbz⟩ := HEND.out
            have e9 : ({ rec with state := .ready, pending := none } : Loop) = rec := by rw [HREC.out]
            have k5 := K5'.out
            have h5z := Below.size k5
            have e5 : ∀ x, x ≠ wq.heap.size → x < Wb.heap.size → (w5'.setCell ⟨wq.heap.size, 0, none⟩ (.int .i64 ji)).heap[x]? = Wb.heap[x]? := fun x h1 h2 => (Below.heap_setCell _ _ _ _ h1).trans (Below.block k5 x h2)
            refine ⟨(e5 _ (by omega) (by omega)).trans lW, ?_⟩
            rw [e9]
            refine ⟨rfl, ⟨⟨k5.os.trans (HWB.out.2.2.os.trans (k6W.os.symm.trans ha.os)), k5.tape.trans (HWB.out.2.2.tape.trans (k6W.tape.symm.trans ha.tape)), k5.output.trans (HWB.out.2.2.output.trans (k6W.output.symm.trans ha.output)), by rw [World.putObj_size, World.size_setCell]; omega, fun b hb hn => ?_, fun b e => .inl e⟩, ?_⟩, by rw [World.putObj_size, World.size_setCell]; omega, fun b h1 h2 => ?_⟩
            · by_cases hx : b = w9.heap.size + 1
              · subst hx
                exact (World.putObj_heap_same (by rw [World.size_setCell]; omega)).trans HLL9.out.symm
              · exact (World.putObj_heap_other hx).trans ((e5 b hn (by omega)).trans ((hbs b hx).trans ((Below.block k15 b (by omega)).trans (ha.block b hb hn))))
            · exact (World.putObj_heap_other (by omega)).trans ((Joins.block_setCell BT5.out _).trans rfl)
            · exact (World.putObj_heap_other (by omega)).trans ((e5 b (by omega) (by omega)).trans ((hbs b (by omega)).trans (Below.block k15 b h2)))
          case done =>
            rintro e X ⟨hv, ha, hrw⟩
            refine ⟨hv, (ha.block _ (by omega) (by omega)).trans lL, fun o => ?_⟩
            obtain ⟨Y, hY⟩ : ∃ x, X.putObj (w9.heap.size + 1) o = x := ⟨_, rfl⟩
            rw [hY]
            have hyb : ∀ b, b < wL.heap.size → b ≠ wq.heap.size → b ≠ w9.heap.size + 1 → Y.heap[b]? = wL.heap[b]? := fun b h1 h2 h3 => by
              rw [← hY]
              exact (World.putObj_heap_other h3).trans (ha.block b h1 h2)
            have hyz : Y.heap.size = X.heap.size := by rw [← hY]; exact World.putObj_size
            have hxz := ha.size
            have kY : Kp w6 Y := ⟨by rw [← hY]; exact ha.os.trans k6L.os, by rw [← hY]; exact ha.tape.trans k6L.tape, by rw [← hY]; exact ha.output.trans k6L.output, by omega, fun b hb => (hyb b (by omega) (by omega) (by omega)).trans (Below.block k6L b hb)⟩
            have KY := Lib.hid kY
            have tY : Y.heap[wq.heap.size]? = some (.cells #[.int .i64 (lastT (toM m'.f b1))] 3) := by rw [← hY]; exact (World.putObj_heap_other (by omega)).trans hrw
            have DY := Lib.hid (show Y.heap[w9.heap.size]? = some (.deferred (some [])) from (hyb _ (by omega) (by omega) (by omega)).trans dL)
            have hlt := lastT_toM m'.f b1 m'.f.length (Nat.le_refl _)
            rw [List.take_of_length_le (Nat.le_refl _), HML.out] at hlt
            obtain ⟨lv, hlv⟩ : ∃ x, lastT (toM m'.f b1) = x := ⟨_, rfl⟩
            rw [hlv] at tY hlt
            obtain ⟨lv1, lv2, lv3⟩ := hlt
            have LV3 := Lib.hid lv3
            have hmm := HMM.out
            have hn120 : nn ≤ 120 := by have h1 := HLG.out.1; have h2 := HN.out; have h3 := HNN.out; omega
            have hml64 : ml ≤ 64 := by rw [← HML.out]; exact B6.out.nok.len
            have hw1 : wrap64 (lv + 1) = lv + 1 := by unfold wrap64; omega
            have HWW := Lib.hid (show w6.heap.size ≤ w9.heap.size ∧ w9.heap.size < Y.heap.size by omega)
            have t0 := cell_row (i := 0) tY rfl
            have HLV := Lib.hid (And.intro lv1 (And.intro lv2 hml64))
            clear hY hyb hyz hxz kY tY lv3 hlv ha hrw hv hst hpr hrec hL kL zL lL dL iL s9 s6 k6L z8 i8 lv1 lv2 hml64
            go_wp2_with fail
            rw [hw1]
            go_loopw [16] (fun iv wz => ∃ i : Nat, iv = .int .i64 i ∧ lv + 1 ≤ i ∧ i ≤ ml ∧ Kp Y wz) (fun iv _ => ml - (intOf iv).toNat)
            case atStart =>
              obtain ⟨lv1, lv2, hml64⟩ := HLV.out
              exact ⟨(lv + 1).toNat, by congr 1; omega, by omega, by omega, Kp.refl _⟩
            case round =>
              obtain ⟨i, rfl, hi1, hi2, hkz⟩ := hrel
              obtain ⟨ij, hij⟩ : ∃ x : Int, (i : Int) = x := ⟨_, rfl⟩
              have HIJ := Lib.hid hij
              rw [hij]
              have KZ8 := Lib.hid hkz
              have hyq := cell_row (i := 0) (kp_row (Kp.trans KY.out hkz) M6.out) rfl
              have hqq := cell_row (i := 1) (kp_row (Kp.trans KY.out hkz) HRQ2.out) rfl
              by_cases hlt : i < ml
              · have hil3 : ij < mm := by omega
                have hi03 : 0 ≤ ij := by omega
                have hitn : ij.toNat = i := by omega
                obtain ⟨vb, hva, hlc⟩ := HLET.out i (by rw [HML.out]; exact hlt)
                obtain ⟨⟨xa, xb, xd⟩, hx⟩ : ∃ x, m'.f[i]'(by rw [HML.out]; exact hlt) = x := ⟨_, rfl⟩
                have hnb := LV3.out i ⟨xa, xb, xd⟩ hlt (by omega) (by rw [List.getElem?_eq_getElem (by rw [HML.out]; exact hlt), hx])
                dsimp only at hnb
                rw [hx, ← hitn] at hlc
                dsimp only at hlc
                have HLC8 := Lib.hid hlc
                have hbb : (xb == b1) = false := by simpa using hnb
                have hmm64 : mm ≤ 64 := by have := HLV.out; omega
                subst hva
                have HLT8 := Lib.hid (And.intro hlt (And.intro hi1 hnb))
                clear hlt hi1 hi2 hkz hij hx hnb hlc hitn
                go_wp2_with fail
                refine wp_region_held_drew (S := fun w' => Kp Y w') (by kernel_rfl) ?_ (fun hHeld => ?_)
                · exact Kp.trans KZ8.out (kp_drewR (Kp.refl _))
                refine wpAnyH_take (i := 0) (v := ?_) rfl (by kernel_rfl) (by kernel_rfl) (by kernel_rfl) (fun _ _ _ h => h) (Or.inl ⟨by rfl, ?_⟩) (by assumption) ?_
                rotate_left
                · intro w hSw; have y0 := cell_row (i := 0) (kp_row (Kp.trans KY.out hSw) M6.out) rfl; go_simp; try with_reducible rfl
                go_simp
                refine wpAnyH_take (i := 1) (v := ?_) rfl (by kernel_rfl) (by kernel_rfl) (by kernel_rfl) (fun _ _ _ h => h) (Or.inl ⟨by rfl, ?_⟩) (by assumption) ?_
                rotate_left
                · intro w hSw; go_simp; try with_reducible rfl
                go_simp
                refine wpAnyH_take (i := 2) (v := ?_) rfl (by kernel_rfl) (by kernel_rfl) (by kernel_rfl) (fun _ _ _ h => h) (Or.inl ⟨by rfl, ?_⟩) (by assumption) ?_
                rotate_left
                · intro w hSw; go_simp; try with_reducible rfl
                go_simp
                refine wpAnyH_take (i := 3) (v := ?_) rfl (by kernel_rfl) (by kernel_rfl) (by kernel_rfl) (fun _ _ _ h => h) (Or.inl ⟨by rfl, ?_⟩) (by assumption) ?_
                rotate_left
                · intro w hSw; have q1 := cell_row (i := 1) (kp_row (Kp.trans KY.out hSw) HRQ2.out) rfl; go_simp; try with_reducible rfl
                go_simp
                refine wpAnyH_take (i := 4) (v := ?_) rfl (by kernel_rfl) (by kernel_rfl) (by kernel_rfl) (fun _ _ _ h => h) (Or.inl ⟨by rfl, ?_⟩) (by assumption) ?_
                rotate_left
                · intro w hSw; go_simp; try with_reducible rfl
                go_simp
                refine wpAnyH_take (i := 5) (v := ?_) rfl (by kernel_rfl) (by kernel_rfl) (by kernel_rfl) (fun _ _ _ h => h) (Or.inl ⟨by rfl, ?_⟩) (by assumption) ?_
                rotate_left
                · intro w hSw; go_simp; try with_reducible rfl
                go_simp
                refine wpAnyH_take (i := 6) (v := ?_) rfl (by kernel_rfl) (by kernel_rfl) (by kernel_rfl) (fun _ _ _ h => h) (Or.inl ⟨by rfl, ?_⟩) (by assumption) ?_
                rotate_left
                · intro w hSw; go_simp; try with_reducible rfl
                go_simp
                refine wpAnyH_take (i := 7) (v := ?_) rfl (by kernel_rfl) (by kernel_rfl) (by kernel_rfl) (fun _ _ _ h => h) (Or.inl ⟨by rfl, ?_⟩) (by assumption) ?_
                rotate_left
                · intro w hSw; obtain ⟨-, l1, -⟩ := HLC8.out _ (Kp.trans KY.out hSw); go_simp; try with_reducible rfl
                go_simp
                refine wpAnyH_take (i := 8) (v := ?_) rfl (by kernel_rfl) (by kernel_rfl) (by kernel_rfl) (fun _ _ _ h => h) (Or.inl ⟨by rfl, ?_⟩) (by assumption) ?_
                rotate_left
                · intro w hSw; go_simp; try with_reducible rfl
                go_simp
                refine wpAnyH_take (i := 9) (v := ?_) rfl (by kernel_rfl) (by kernel_rfl) (by kernel_rfl) (fun _ _ _ h => h) (Or.inl ⟨by rfl, ?_⟩) (by assumption) ?_
                rotate_left
                · intro w hSw; have o3 := cell_row (i := 3) (kp_row (Kp.trans KY.out hSw) T6.out) rfl; go_simp; try with_reducible rfl
                go_simp
                refine wpAnyH_take (i := 10) (v := ?_) rfl (by kernel_rfl) (by kernel_rfl) (by kernel_rfl) (fun _ _ _ h => h) (Or.inl ⟨by rfl, ?_⟩) (by assumption) ?_
                rotate_left
                · intro w hSw; go_simp; try with_reducible rfl
                go_simp
                refine wpAnyH_done (by kernel_rfl) ?_ _
                go_wp2
                have hi9 : (i : Int) = ij := HIJ.out
                obtain ⟨hl9, hi1, -⟩ := HLT8.out
                go_roundw
                case rel => exact ⟨i + 1, by rw [← hi9]; rfl, by omega, hl9, hHeld⟩
                case measure => simp [intOf]; omega
              · have hil3 : ¬ ij < mm := by omega
                clear hlt hi1 hi2 hij
                go_wp2
                have hj1 : (j : Int) = jj := HJ.out
                have hlt1 : j < n := HLT.out
                refine ⟨⟨j + 1, w9.heap.size :: rs, ?_, ?_⟩, ?_⟩
                · have kz := Kp.trans KY.out KZ8.out
                  obtain ⟨hrr, hmr, hksr⟩ := HROWS.out
                  obtain ⟨hnd, hx1, hx2⟩ := HND.out
                  obtain ⟨w96, w9Y⟩ := HWW.out
                  have hrw6 : ∀ b, (fun b => b = w.heap.size ∨ b = w5.heap.size ∨ b ∈ rs) b → wr.heap[b]? = wO.heap[b]? := fun b hb => (Below.block kz b (B6.out.in b (.inl hb)).2).trans ((FR6.out b (.inl hb)).trans (Below.block HX.out.2.2.2 b (HB.out.in b hb).2))
                  have hni : ∀ b, (fun b => b = w.heap.size ∨ b = w5.heap.size ∨ b ∈ rs) b → b ≠ w9.heap.size := fun b hb => by have := (B6.out.in b (.inl hb)).2; omega
                  refine ⟨hlt1, ⟨m', (B6.out.upto HCC.out kz).less (fun b hb => ?_)⟩, (hrw6 _ (.inl rfl)).trans hrr, (hrw6 _ (.inr (.inl rfl))).trans hmr, fun r hr => ?_, List.nodup_cons.2 ⟨fun h => hni _ (.inr (.inr h)) rfl, hnd⟩, fun h => ?_, fun h => ?_⟩
                  · rcases hb with hb | hb | hb
                    · exact .inl (.inl (.inl hb))
                    · exact .inl (.inl (.inr (.inl hb)))
                    · rcases List.mem_cons.1 hb with rfl | hb
                      · exact .inr ⟨w96, Nat.lt_of_lt_of_le w9Y (Below.size KZ8.out)⟩
                      · exact .inl (.inl (.inr (.inr hb)))
                  · rcases List.mem_cons.1 hr with rfl | hr
                    · exact kp_row KZ8.out DY.out
                    · exact (hrw6 r (.inr (.inr hr))).trans (hksr r hr)
                  · rcases List.mem_cons.1 h with h | h
                    · exact hni _ (.inl rfl) h
                    · exact hx1 h
                  · rcases List.mem_cons.1 h with h | h
                    · exact hni _ (.inr (.inl rfl)) h
                    · exact hx2 h
                · exact ⟨by rw [← hj1]; rfl, rfl⟩
                · simp [intOf]; omega
    · have hjl : ¬ jj < nn := by omega
      have y0 := cell_row (i := 0) hr rfl
      have fz := frozR hr
      clear hlt hj hjj hb hr hm hks hnd hx1 hx2
      go_wp2
      refine leaves_marks rs _ (fun r hr => ?_) HND.out.1 (fun w' ha => ?_)
      · exact (Below.heap_setCell _ _ _ _ (fun e => HND.out.2.1 (by have e2 : r = w.heap.size := e; rw [← e2]; exact hr))).trans (HROWS.out.2.2 r hr)
      · refine ⟨_, results_boolN (p := 4) rfl _ _ w.heap.size true rfl (cell_row (i := 0) ((ha.block _ (by rw [World.size_setCell]; exact (HB.out.in _ (.inl rfl)).2) HND.out.2.1).trans ((Joins.block_setCell HROWS.out.1 _).trans rfl)) rfl), rfl, ?_⟩
        exact ha.kp (Below.setCell HB.out.base (Nat.le_refl _) _) (fun b hb => (HB.out.in b (.inr (.inr hb))).1)
theorem plays_any (nd : Int) (v : Value) (os : List OpP) (w : World) (hs : SlP v os w) (V : St ads w) (C : NetC ads w J) : Calls Tryd.prog 3 #[.int .i64 nd, v] w fun r w' => r = .returned (.bool true) ∧ Kp w w' := by
  have hs' := hs
  obtain ⟨a, cap, rfl, -⟩ := hs'
  by_cases hl : LgP os
  · by_cases hnd : 1 ≤ nd ∧ nd ≤ 4
    · exact plays_in nd nd.toNat (by omega) os a _ cap rfl w hs hl hnd.1 hnd.2 V C
    · exact plays_bad nd os a _ cap w hs hl hnd V C
  · exact plays_long nd os a _ cap w hs hl C
end Go.Proofs.YtjffkfcokgcenaaDoor
