/-
  CheckSteps' WALK (own work).
-/
import Derived.Test.YtdcbmajmhfhaaaaDoorStpD
import Derived.Laws.Cover1
namespace Go.Proofs.YtdcbmajmhfhaaaaDoor
open Go.RowKit Go.ChangeShapes Go.WideShapes

set_option maxRecDepth 20000 in
theorem wp_append_slb (w : World) {o : Oper} {a : Act} {K : Act → World → Prop} {Q : Exit → Act → World → Prop} (s x : Operand)
    (ho : o.op = .call { callee := .builtin .append, args := #[s, x], argTypes := #[24, 24] })
    (base : Nat) (v : Value) (n : Nat) (xs : List Value) (hs : a.eval s = v) (hown : w.ownsRow base 5 1 v n xs)
    (ad : Addr) (m c : Nat) (bs : List Int) (hx : a.eval x = .slice (some ad) m c) (hb : SlB (.slice (some ad) m c) bs w) (h63 : n + m ≤ 1000000) (hbase : base ≤ w.heap.size)
    (h : ∀ v' w', w'.ownsRow base 5 1 v' (n + m) (xs ++ bs.map (Value.int .u8)) → w.grownBy w' v.ownBlock → K (a.put o.dst v') w') : o.wp Tryd.prog a w K Q := by
  obtain ⟨i0, hi, hz0, hz1, hz2⟩ := info_parts info_byte
  have hlen := hb.len
  exact wp_append_own w s x 24 ho base 5 i0 (.int .u8 0) 1 1 Tryd.underlying24 hi hz0 hz1 hz2 rfl (by decide) v n xs hs hown ad m c (bs.map (Value.int .u8)) hx (by rw [List.length_map, hlen, Nat.mul_one]) (hb.app.2 ad rfl) (bytes_one bs) (by unfold maxLen; omega) (by omega) hbase fun v' w' h2 h3 _ => h v' w' h2 h3

/-- the sum of one part, its box whichever -/
theorem sum_bb (v : Value) (B : List Int) (hl : B.length ≤ 1000000) (w : World) (ht : Tb w) (hs : SlBB v [B] w) :
    Calls Tryd.prog 9 #[v] w fun e w' => e = .returned (.int .u32 ((crc B : Nat) : Int)) ∧ w = w' := by
  have h := sum_any v [B] (by simp) (fun l hl' => by rw [List.mem_singleton.1 hl']; exact hl) w ht hs
  simpa using h

theorem box_byte (w : World) (x : Int) (t : TypeId) : SlB (.slice (some ⟨w.heap.size, 0, none⟩) 1 1) [x] (w.alloc (.cells #[.int .u8 x] t)) :=
  .inr ⟨w.heap.size, 0, 1, by simp, rfl, fun j hj => by
    obtain rfl : j = 0 := by simpa using hj
    exact box_cell w _ t⟩

set_option maxRecDepth 100000 in
set_option maxHeartbeats 4000000 in
theorem stp_ok (a b c : Option Addr) (la ca lb cb lc cc : Nat) (xs ys zs : List Int) (hx : xs.length = la) (hy : ys.length = lb) (hz : zs.length = lc) (hla : la ≤ 300) (hlb : lb ≤ 300) (hlc : lc ≤ 300) (hca : la ≤ ca) (hcb : lb ≤ cb) (hcc : lc ≤ cc) (ix : InB xs) (iy : InB ys) (iz : InB zs) (w : World) (ht : Tb w) (sx : SlB (.slice a la ca) xs w) (sy : SlB (.slice b lb cb) ys w) (sz : SlB (.slice c lc cc) zs w) :
    Calls Tryd.prog 7 #[.slice a la ca, .slice b lb cb, .slice c lc cc] w fun e w' => e = .returned (.bool true) ∧ Kp w w' := by
  have HA := Lib.hid (alive_any w ht)
  obtain ⟨ai, hai⟩ : ∃ nn : Int, (la : Int) = nn := ⟨_, rfl⟩
  obtain ⟨bi, hbi⟩ : ∃ nn : Int, (lb : Int) = nn := ⟨_, rfl⟩
  obtain ⟨ci, hci⟩ : ∃ nn : Int, (lc : Int) = nn := ⟨_, rfl⟩
  have g1 : ¬ ai > 300 := by omega
  have g2 : ¬ bi > 300 := by omega
  have g3 : ¬ ci > 300 := by omega
  have HEA := Lib.hid (fun w1 (hk : Kp w w1) (j : Nat) (hj : j < xs.length) => (sx.kp hk).at j hj)
  have HEB := Lib.hid (fun w1 (hk : Kp w w1) (j : Nat) (hj : j < ys.length) => (sy.kp hk).at j hj)
  have HEC := Lib.hid (fun w1 (hk : Kp w w1) (j : Nat) (hj : j < zs.length) => (sz.kp hk).at j hj)
  have HX := Lib.hid (And.intro hx ix)
  have HY := Lib.hid (And.intro hy iy)
  have HZ := Lib.hid (And.intro hz iz)
  have HT := Lib.hid ht
  have SX := Lib.hid sx
  have SY := Lib.hid sy
  have SZ := Lib.hid sz
  clear hx hy hz ix iy iz sx sy sz ht
  go_enter Tryd.func7, Tryd.ntmps7
  go_wp2_with (go_at_call 8; (with_reducible refine HA.out.mono ?_); rintro e w1 ⟨rfl, hw1⟩; have K1 := Lib.hid hw1; clear hw1)
  go_loop [7, 30] (fun u i => ∃ j : Nat, j ≤ la ∧ i = .int .i64 j ∧ u = .int .u32 ((crc (xs.take j) : Nat) : Int)) (fun _ i => la - (intOf i).toNat)
  case atStart => exact ⟨0, Nat.zero_le _, rfl, by rw [List.take_zero, crc_nil]; rfl⟩
  case round =>
    obtain ⟨j, hj, rfl, rfl⟩ := hrel
    obtain ⟨jj, hjj⟩ : ∃ jj : Int, (j : Int) = jj := ⟨_, rfl⟩
    obtain ⟨u, hu⟩ : ∃ u, crc (xs.take j) = u := ⟨_, rfl⟩
    have hul : u < 4294967296 := hu ▸ crc_lt (in_take HX.out.2 j)
    have hxl := HX.out.1
    obtain ⟨ui, hui⟩ : ∃ ui : Int, (u : Int) = ui := ⟨_, rfl⟩
    rw [hjj, hu, hui]
    by_cases hlt : j < la
    · have hjl : j < xs.length := by omega
      obtain ⟨b2, off2, rfl, hc2⟩ := HEA.out w1 K1.out j hjl
      have hbb := HX.out.2 xs[j] (List.getElem_mem _)
      obtain ⟨y, hy⟩ : ∃ y : Nat, (y : Int) = xs[j] := ⟨xs[j].toNat, by omega⟩
      have hy2 : xs.getD j 0 = y := by simp [List.getD, hjl, hy]
      rw [hy2] at hc2
      have hyl : y < 256 := by omega
      have hnx : crc (xs.take (j + 1)) = nxt u y := by
        rw [List.take_succ_eq_append_getElem hjl, crc_next, hu, ← hy]; rfl
      have hcall := next_any u y hul hyl w1 (HT.out.kp K1.out)
      rw [← hnx] at hcall
      obtain ⟨yi, hyi⟩ : ∃ yi : Int, (y : Int) = yi := ⟨_, rfl⟩
      rw [hyi] at hc2 hcall
      rw [hui] at hcall
      have ej : jj.toNat = j := by omega
      rw [← ej] at hc2
      have hj0 : 0 ≤ jj := by omega
      have hltj : jj < ai := by omega
      have HJ := Lib.hid hjj
      have HC := Lib.hid hcall
      clear hjj hu hul hy hy2 hyl hnx hcall hyi hui ej hlt hjl hxl hbb
      go_wp2_with (go_at_call 11; (with_reducible refine HC.out.mono ?_); rintro e w2 ⟨rfl, rfl⟩)
      have hjj := HJ.out
      go_round
      case rel => exact ⟨j + 1, by omega, by congr 1; omega, rfl⟩
      case measure => simp [intOf]; omega
    · obtain rfl : j = la := by omega
      have hex : ¬ jj < ai := by omega
      have hful : xs.take j = xs := by rw [List.take_of_length_le]; omega
      rw [hful] at hu
      have HU := Lib.hid (show ((crc xs : Nat) : Int) = ui by rw [hu, hui])
      clear hjj hful hlt hu hul hui hxl
      obtain ⟨N, hN⟩ : ∃ N, min (min j lb) lc = N := ⟨_, rfl⟩
      obtain ⟨NN, hNN⟩ : ∃ NN : Int, (N : Int) = NN := ⟨_, rfl⟩
      have hmin : ∀ (ts : Array TypeId) (t : TypeId) (w : World), (Builtin.min_ ts t #[.int .i64 ai, .int .i64 bi, .int .i64 ci]).run Tryd.prog w = .ok (.int .i64 NN) w := fun ts t w => by
        rw [run_min_int3]
        congr 2
        split <;> split at * <;> omega
      have hNa : N ≤ j := by omega
      have hNb : N ≤ lb := by omega
      have hNc : N ≤ lc := by omega
      have n0 : 0 ≤ NN := by omega
      have OW0 := Lib.hid (own_empty w1 5)
      have HNN := Lib.hid hNN
      clear hN hNN
      go_wp2
      go_loopw [11, 47] (fun g i wr => ∃ k : Nat, k ≤ N ∧ i = .int .i64 k ∧ Kp w1 wr ∧ wr.ownsRow w1.heap.size 5 1 g k ((odd3 (xs.take k) (ys.take k) (zs.take k)).map (Value.int .u8))) (fun _ i _ => N - (intOf i).toNat)
      case atStart => exact ⟨0, Nat.zero_le _, rfl, kp_alloc _ _, by simpa [odd3] using OW0.out⟩
      case round =>
        obtain ⟨k, hk, rfl, hkp, hown⟩ := hrel
        obtain ⟨kk, hkk⟩ : ∃ kk : Int, (k : Int) = kk := ⟨_, rfl⟩
        rw [hkk]
        have hxl := HX.out.1
        have hyl := HY.out.1
        have hzl := HZ.out.1
        have hNN := HNN.out
        have HK := Lib.hid hkp
        have HO := Lib.hid hown
        clear hkp hown
        by_cases hlt : k < N
        · have hkx : k < xs.length := by omega
          have hky : k < ys.length := by omega
          have hkz : k < zs.length := by omega
          obtain ⟨ba, oa, rfl, cx⟩ := HEA.out w1 K1.out k hkx
          obtain ⟨bb, ob, rfl, cy⟩ := HEB.out w1 K1.out k hky
          obtain ⟨bc, oc, rfl, cz⟩ := HEC.out w1 K1.out k hkz
          have hbx := HX.out.2 xs[k] (List.getElem_mem _)
          have hby := HY.out.2 ys[k] (List.getElem_mem _)
          have hbz := HZ.out.2 zs[k] (List.getElem_mem _)
          have hnx := odd3_next xs ys zs k hkx hky hkz
          have e1 : xs.getD k 0 = xs[k] := by simp [List.getD, hkx]
          have e2 : ys.getD k 0 = ys[k] := by simp [List.getD, hky]
          have e3 : zs.getD k 0 = zs[k] := by simp [List.getD, hkz]
          rw [e1] at cx
          rw [e2] at cy
          rw [e3] at cz
          have q1 := u8_xor xs[k] ys[k] hbx.1 hbx.2 hby.1 hby.2
          have hx8 := Nat.xor_lt_two_pow (n := 8) (x := xs[k].toNat) (y := ys[k].toNat) (by omega) (by omega)
          have q2 := u8_xor_nat (xs[k].toNat ^^^ ys[k].toNat) zs[k].toNat hx8 (by omega)
          rw [Int.toNat_of_nonneg hbz.1] at q2
          obtain ⟨x, hx⟩ : ∃ x, xs[k] = x := ⟨_, rfl⟩
          obtain ⟨y, hy⟩ : ∃ x, ys[k] = x := ⟨_, rfl⟩
          obtain ⟨z, hz⟩ : ∃ x, zs[k] = x := ⟨_, rfl⟩
          rw [hx] at cx
          rw [hy] at cy
          rw [hz] at cz
          simp only [hx, hy, hz] at q1 q2 hnx
          obtain ⟨p, hp⟩ : ∃ p : Int, ((x.toNat ^^^ y.toNat : Nat) : Int) = p := ⟨_, rfl⟩
          obtain ⟨q, hq⟩ : ∃ p : Int, (((x.toNat ^^^ y.toNat) ^^^ z.toNat : Nat) : Int) = p := ⟨_, rfl⟩
          rw [hp] at q1 q2
          rw [hq] at q2 hnx
          have ek : kk.toNat = k := by omega
          rw [← ek] at cx cy cz
          have CA := Lib.hid cx
          have CB := Lib.hid cy
          have CC := Lib.hid cz
          have Q1 := Lib.hid q1
          have Q2 := Lib.hid q2
          have HNX := Lib.hid hnx
          have hk0 : 0 ≤ kk := by omega
          have l1 : kk < ai := by omega
          have l2 : kk < bi := by omega
          have l3 : kk < ci := by omega
          have l4 : kk < NN := by omega
          have hsum : k + 1 ≤ 1000000 := by omega
          have HKK := Lib.hid hkk
          have KA0 := (kp_alloc wr (.cells #[.int .u8 q] 5)).drew
          have OWB := Lib.hid (own_kp HO.out KA0)
          have KB := Lib.hid (Kp.trans HK.out KA0)
          have SB := Lib.hid ((box_byte wr q 5).kp (Kp.refl _).drew)
          clear KA0
          clear cx cy cz q1 q2 hnx ek hkk hx hy hz hp hq e1 e2 e3 hbx hby hbz hx8 hkx hky hkz hxl hyl hzl hlt hNN
          go_wp2
          refine wp_region_held_drew (S := fun w' => Kp w1 w') (by kernel_rfl) ?_ (fun hHeld => ?_)
          · exact HK.out.drew
          refine wpAnyH_take (i := 0) (v := ?_) rfl (by kernel_rfl) (by kernel_rfl) (by kernel_rfl) (fun _ _ _ h => h) (Or.inl ⟨by rfl, ?_⟩) (by assumption) ?_
          rotate_left
          · intro w hSw; go_simp; try with_reducible rfl
          go_simp
          refine wpAnyH_take (i := 1) (v := ?_) rfl (by kernel_rfl) (by kernel_rfl) (by kernel_rfl) (fun _ _ _ h => h) (Or.inl ⟨by rfl, ?_⟩) (by assumption) ?_
          rotate_left
          · intro w hSw; go_simp; try with_reducible rfl
          go_simp
          refine wpAnyH_take (i := 2) (v := ?_) rfl (by kernel_rfl) (by kernel_rfl) (by kernel_rfl) (fun _ _ _ h => h) (Or.inl ⟨by rfl, ?_⟩) (by assumption) ?_
          rotate_left
          · intro w hSw; go_simp; try with_reducible rfl
          go_simp
          refine wpAnyH_take (i := 5) (v := ?_) rfl (by kernel_rfl) (by kernel_rfl) (by kernel_rfl) (fun _ _ _ h => h) (Or.inl ⟨by rfl, ?_⟩) (by assumption) ?_
          rotate_left
          · intro w hSw; go_simp; try with_reducible rfl
          go_simp
          refine wpAnyH_take (i := 6) (v := ?_) rfl (by kernel_rfl) (by kernel_rfl) (by kernel_rfl) (fun _ _ _ h => h) (Or.inl ⟨by rfl, ?_⟩) (by assumption) ?_
          rotate_left
          · intro w hSw; go_simp; try with_reducible rfl
          go_simp
          refine wpAnyH_take (i := 10) (v := ?_) rfl (by kernel_rfl) (by kernel_rfl) (by kernel_rfl) (fun _ _ _ h => h) (Or.inl ⟨by rfl, ?_⟩) (by assumption) ?_
          rotate_left
          · intro w hSw; go_simp; try with_reducible rfl
          go_simp
          refine wpAnyH_take (i := 11) (v := ?_) rfl (by kernel_rfl) (by kernel_rfl) (by kernel_rfl) (fun _ _ _ h => h) (Or.inl ⟨by rfl, ?_⟩) (by assumption) ?_
          rotate_left
          · intro w hSw; go_simp; try with_reducible rfl
          go_simp
          refine wpAnyH_take (i := 3) (v := ?_) rfl (by kernel_rfl) (by kernel_rfl) (by kernel_rfl) (fun _ _ _ h => h) (Or.inl ⟨by rfl, ?_⟩) (by assumption) ?_
          rotate_left
          · intro w hSw; go_simp; try with_reducible rfl
          go_simp
          refine wpAnyH_take (i := 7) (v := ?_) rfl (by kernel_rfl) (by kernel_rfl) (by kernel_rfl) (fun _ _ _ h => h) (Or.inl ⟨by rfl, ?_⟩) (by assumption) ?_
          rotate_left
          · intro w hSw; go_simp; try with_reducible rfl
          go_simp
          refine wpAnyH_take (i := 12) (v := ?_) rfl (by kernel_rfl) (by kernel_rfl) (by kernel_rfl) (fun _ _ _ h => h) (Or.inl ⟨by rfl, ?_⟩) (by assumption) ?_
          rotate_left
          · intro w hSw; go_simp; try with_reducible rfl
          go_simp
          refine wpAnyH_take (i := 4) (v := ?_) rfl (by kernel_rfl) (by kernel_rfl) (by kernel_rfl) (fun _ _ _ h => h) (Or.inl ⟨by rfl, ?_⟩) (by assumption) ?_
          rotate_left
          · intro w hSw; have cv := kp_cell hSw CA.out; go_simp; try with_reducible rfl
          go_simp
          refine wpAnyH_take (i := 8) (v := ?_) rfl (by kernel_rfl) (by kernel_rfl) (by kernel_rfl) (fun _ _ _ h => h) (Or.inl ⟨by rfl, ?_⟩) (by assumption) ?_
          rotate_left
          · intro w hSw; have cv := kp_cell hSw CB.out; go_simp; try with_reducible rfl
          go_simp
          refine wpAnyH_take (i := 13) (v := ?_) rfl (by kernel_rfl) (by kernel_rfl) (by kernel_rfl) (fun _ _ _ h => h) (Or.inl ⟨by rfl, ?_⟩) (by assumption) ?_
          rotate_left
          · intro w hSw; have cv := kp_cell hSw CC.out; go_simp; try with_reducible rfl
          go_simp
          refine wpAnyH_take (i := 9) (v := ?_) rfl (by kernel_rfl) (by kernel_rfl) (by kernel_rfl) (fun _ _ _ h => h) (Or.inl ⟨by rfl, ?_⟩) (by assumption) ?_
          rotate_left
          · intro w hSw; go_simp; rw [Q1.out]
          go_simp
          refine wpAnyH_take (i := 14) (v := ?_) rfl (by kernel_rfl) (by kernel_rfl) (by kernel_rfl) (fun _ _ _ h => h) (Or.inl ⟨by rfl, ?_⟩) (by assumption) ?_
          rotate_left
          · intro w hSw; go_simp; rw [Q2.out]
          go_simp
          refine wpAnyH_ready (rs := [15]) (by kernel_rfl) (by simp) ?_
          refine AllReadyH.cons rfl (fun K hK => ?_) AllReadyH.nil
          go_simp
          refine hK.out _ _ ?_ (fun hHeld => ?_)
          · exact Kp.trans hHeld (kp_alloc _ _)
          clear hK K
          refine wpAnyH_ready (rs := [16]) (by kernel_rfl) (by simp) ?_
          refine AllReadyH.cons rfl (fun K hK => ?_) AllReadyH.nil
          rw [if_pos (by rfl)]
          refine wp_append_slb _ (.tmp 50) (.tmp 65) rfl w1.heap.size _ _ _ rfl OWB.out _ _ _ _ rfl SB.out hsum (Below.size KB.out) ?_
          intro v5 w5 hown5 hgr5
          have kp5 : Kp w1 w5 := row_kp OWB.out hgr5 KB.out
          refine hK.out _ _ ?_ (fun hHeld => ?_)
          · exact kp5
          clear hK K
          have HO5 := Lib.hid hown5
          have HK5 := Lib.hid kp5
          clear hown5 hgr5 kp5
          go_simp
          refine wpAnyH_take (i := 17) (v := ?_) rfl (by kernel_rfl) (by kernel_rfl) (by kernel_rfl) (fun _ _ _ h => h) (Or.inl ⟨by rfl, ?_⟩) (by assumption) ?_
          rotate_left
          · intro w hSw; go_simp; try with_reducible rfl
          go_simp
          refine wpAnyH_done (by kernel_rfl) ?_ _
          go_wp2
          have hkk := HKK.out
          have hNN := HNN.out
          go_roundw
          case rel => exact ⟨k + 1, by omega, by congr 1; omega, HK5.out, by rw [HNX.out, List.map_append]; exact HO5.out⟩
          case measure => simp [intOf]; omega
        · obtain rfl : k = N := by omega
          have hex : ¬ kk < NN := by omega
          clear hkk hlt
          have hxl := HX.out.1
          have hyl := HY.out.1
          have hzl := HZ.out.1
          have hNN := HNN.out
          obtain ⟨aA, aC, sa, ha⟩ := slb_head (SX.out.kp (Kp.trans K1.out HK.out)) (m := k) (by omega) hca hNN
          obtain ⟨bA, bC, sb, hb⟩ := slb_head (SY.out.kp (Kp.trans K1.out HK.out)) (m := k) (by omega) hcb hNN
          obtain ⟨cA, cC, sc, hc⟩ := slb_head (SZ.out.kp (Kp.trans K1.out HK.out)) (m := k) (by omega) hcc hNN
          obtain ⟨oA, oC, rfl, -⟩ := own_len HO.out
          have hS := sum_one a j ca xs hxl (by omega) HX.out.2 wr (HT.out.kp (Kp.trans K1.out HK.out)) (SX.out.kp (Kp.trans K1.out HK.out)) 24 _ (Kp.refl _).drew
          rw [HU.out] at hS
          have HSA := Lib.hid hS
          have HHA := Lib.hid ha
          have HHB := Lib.hid hb
          have HHC := Lib.hid hc
          have hnn : NN ≤ 300 := by omega
          have KD := Lib.hid (kp_alloc wr (.cells #[.slice a j ca] 24)).drew
          have HTD := Lib.hid (HT.out.kp (Kp.trans (Kp.trans K1.out HK.out) KD.out))
          have SO := Lib.hid (own_slb HO.out)
          have lx : (xs.take k).length = k := by rw [List.length_take]; omega
          have ly : (ys.take k).length = k := by rw [List.length_take]; omega
          have lz : (zs.take k).length = k := by rw [List.length_take]; omega
          have HLA := Lib.hid (And.intro lx (in_take HX.out.2 k))
          have HLB := Lib.hid (And.intro ly (in_take HY.out.2 k))
          have HLC := Lib.hid (And.intro lz (in_take HZ.out.2 k))
          have HLO := Lib.hid (And.intro ((odd3_len _ _ _ (by rw [ly, lx]) (by rw [lz, lx])).trans lx) (odd3_in (in_take HX.out.2 k) (in_take HY.out.2 k) (in_take HZ.out.2 k)))
          have E1 := Lib.hid (u32_xor_nat (crc (xs.take k)) (crc (ys.take k)) (crc_lt (in_take HX.out.2 k)) (crc_lt (in_take HY.out.2 k)))
          have E2 : Hid (bits .xor .u32 ((crc (xs.take k) ^^^ crc (ys.take k) : Nat) : Int) ((crc (zs.take k) : Nat) : Int) = ((crc (odd3 (xs.take k) (ys.take k) (zs.take k)) : Nat) : Int)) := Lib.hid (by
            rw [u32_xor_nat _ _ (Nat.xor_lt_two_pow (n := 32) (crc_lt (in_take HX.out.2 k)) (crc_lt (in_take HY.out.2 k))) (crc_lt (in_take HZ.out.2 k)), odd3_crc _ _ _ (by rw [ly, lx]) (by rw [lz, lx])])
          clear lx ly lz
          have qu : (ui == ui) = true := by simp
          clear ha hb hc hS hNN hxl hyl hzl
          go_wp2
          refine wp_region_any (by kernel_rfl) ?_
          change wpAny _ _ _ _ _ _ _ (World.drew _)
          refine wpAny_take (i := 0) (v := ?_) rfl (by kernel_rfl) (by kernel_rfl) (by kernel_rfl) (fun _ _ _ h => h) (Or.inl ⟨by rfl, ?_⟩) ?_
          rotate_left
          · intro w; go_simp; try with_reducible rfl
          go_simp
          refine wpAny_take (i := 1) (v := ?_) rfl (by kernel_rfl) (by kernel_rfl) (by kernel_rfl) (fun _ _ _ h => h) (Or.inl ⟨by rfl, ?_⟩) ?_
          rotate_left
          · intro w; go_simp; try with_reducible rfl
          go_simp
          refine wpAny_ready (rs := [2]) (by kernel_rfl) (by simp) ?_
          refine AllReady.cons rfl (fun K hK => ?_) AllReady.nil
          go_simp
          refine hK _ _ ?_
          clear hK K
          refine wpAny_ready (rs := [3]) (by kernel_rfl) (by simp) ?_
          refine AllReady.cons rfl (fun K hK => ?_) AllReady.nil
          go_simp
          go_wp2_with (go_at_call 9; (with_reducible refine HSA.out.mono ?_); rintro e w3 ⟨rfl, rfl⟩)
          refine wpAny_take (i := 4) (v := ?_) rfl (by kernel_rfl) (by kernel_rfl) (by kernel_rfl) (fun _ _ _ h => h) (Or.inl ⟨by rfl, ?_⟩) ?_
          rotate_left
          · intro w; go_simp; try with_reducible rfl
          go_simp
          refine wpAny_take (i := 5) (v := ?_) rfl (by kernel_rfl) (by kernel_rfl) (by kernel_rfl) (fun _ _ _ h => h) (Or.inl ⟨by rfl, ?_⟩) ?_
          rotate_left
          · intro w; go_simp; try with_reducible rfl
          go_simp
          refine wpAny_take (i := 6) (v := ?_) rfl (by kernel_rfl) (by kernel_rfl) (by kernel_rfl) (fun _ _ _ h => h) (Or.inl ⟨by rfl, ?_⟩) ?_
          rotate_left
          · intro w; go_simp; try with_reducible rfl
          go_simp
          refine wpAny_take (i := 9) (v := ?_) rfl (by kernel_rfl) (by kernel_rfl) (by kernel_rfl) (fun _ _ _ h => h) (Or.inl ⟨by rfl, ?_⟩) ?_
          rotate_left
          · intro w; go_simp; try with_reducible rfl
          go_simp
          refine wpAny_take (i := 10) (v := ?_) rfl (by kernel_rfl) (by kernel_rfl) (by kernel_rfl) (fun _ _ _ h => h) (Or.inl ⟨by rfl, ?_⟩) ?_
          rotate_left
          · intro w; go_simp; try with_reducible rfl
          go_simp
          refine wpAny_take (i := 14) (v := ?_) rfl (by kernel_rfl) (by kernel_rfl) (by kernel_rfl) (fun _ _ _ h => h) (Or.inl ⟨by rfl, ?_⟩) ?_
          rotate_left
          · intro w; go_simp; try with_reducible rfl
          go_simp
          refine wpAny_take (i := 15) (v := ?_) rfl (by kernel_rfl) (by kernel_rfl) (by kernel_rfl) (fun _ _ _ h => h) (Or.inl ⟨by rfl, ?_⟩) ?_
          rotate_left
          · intro w; go_simp; try with_reducible rfl
          go_simp
          refine wpAny_take (i := 20) (v := ?_) rfl (by kernel_rfl) (by kernel_rfl) (by kernel_rfl) (fun _ _ _ h => h) (Or.inl ⟨by rfl, ?_⟩) ?_
          rotate_left
          · intro w; go_simp; try with_reducible rfl
          go_simp
          refine wpAny_take (i := 21) (v := ?_) rfl (by kernel_rfl) (by kernel_rfl) (by kernel_rfl) (fun _ _ _ h => h) (Or.inl ⟨by rfl, ?_⟩) ?_
          rotate_left
          · intro w; go_simp; try with_reducible rfl
          go_simp
          refine wpAny_take (i := 11) (v := ?_) rfl (by kernel_rfl) (by kernel_rfl) (by kernel_rfl) (fun _ _ _ h => h) (Or.inl ⟨by rfl, ?_⟩) ?_
          rotate_left
          · intro w; go_simp; try with_reducible rfl
          go_simp
          refine wpAny_take (i := 16) (v := ?_) rfl (by kernel_rfl) (by kernel_rfl) (by kernel_rfl) (fun _ _ _ h => h) (Or.inl ⟨by rfl, ?_⟩) ?_
          rotate_left
          · intro w; go_simp; try with_reducible rfl
          go_simp
          refine wpAny_take (i := 22) (v := ?_) rfl (by kernel_rfl) (by kernel_rfl) (by kernel_rfl) (fun _ _ _ h => h) (Or.inl ⟨by rfl, ?_⟩) ?_
          rotate_left
          · intro w; go_simp; try with_reducible rfl
          go_simp
          refine steps_any (R1 := fun v w' => SlBB v [odd3 (xs.take k) (ys.take k) (zs.take k)] w') (R2 := fun v w' => SlBB v [xs.take k] w') (R3 := fun v w' => SlBB v [ys.take k] w') (R4 := fun v w' => SlBB v [zs.take k] w') (fun _ _ _ _ _ h => h)
            (fun _ _ _ h hk => h.kp hk) (fun w' hk => bb_one (SO.out.kp (Kp.trans KD.out hk)) HLO.out.1 HLO.out.2) (fun v w' hk r => sum_bb v _ (by rw [HLO.out.1]; omega) w' (HTD.out.kp hk) r)
            (fun _ _ _ h hk => h.kp hk) (fun w' hk => bb_one (HHA.out.kp (Kp.trans KD.out hk)) HLA.out.1 HLA.out.2) (fun v w' hk r => sum_bb v _ (by rw [HLA.out.1]; omega) w' (HTD.out.kp hk) r)
            (fun _ _ _ h hk => h.kp hk) (fun w' hk => bb_one (HHB.out.kp (Kp.trans KD.out hk)) HLB.out.1 HLB.out.2) (fun v w' hk r => sum_bb v _ (by rw [HLB.out.1]; omega) w' (HTD.out.kp hk) r)
            (fun _ _ _ h hk => h.kp hk) (fun w' hk => bb_one (HHC.out.kp (Kp.trans KD.out hk)) HLC.out.1 HLC.out.2) (fun v w' hk r => sum_bb v _ (by rw [HLC.out.1]; omega) w' (HTD.out.kp hk) r)
            E1.out E2.out (fun v1 v2 v3 v4 w' hk => ?_)
          have KF := Lib.hid (Kp.trans (Kp.trans K1.out HK.out) (Kp.trans KD.out hk))
          clear hk
          go_wp2
          go_ret
          exact ⟨rfl, KF.out⟩
end Go.Proofs.YtdcbmajmhfhaaaaDoor
