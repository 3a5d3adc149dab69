/-
  THE DOCUMENT's JOURNAL (own work): liaisonref07.Read.
-/
import Derived.Test.YtpehmkglkjlmfaaDoorRef7
import Derived.Test.YtpehmkglkjlmfaaDoorAppS
import Derived.Test.YtpehmkglkjlmfaaDoorSlH
namespace Go.Proofs.YtpehmkglkjlmfaaDoor
open Go.RowKit Go.ChangeShapes Go.WideShapes

/-- rows whose bytes lie in E's blocks, or nowhere that changes -/
def ValE (E : Nat → Prop) (us : List Value) (rs : List (List Int)) (w : World) : Prop := ∀ w2 : World, (∀ b, E b → w2.heap[b]? = w.heap[b]?) → Vals us rs w2
theorem ValE.now {E : Nat → Prop} {us : List Value} {rs : List (List Int)} {w : World} (h : ValE E us rs w) : Vals us rs w := h w (fun _ _ => rfl)
theorem ValE.to {E : Nat → Prop} {us : List Value} {rs : List (List Int)} {w w' : World} (h : ValE E us rs w) (he : ∀ b, E b → w'.heap[b]? = w.heap[b]?) : ValE E us rs w' := fun w2 h2 => h w2 (fun b hb => (h2 b hb).trans (he b hb))
theorem own_stay2 {w w' : World} {base n : Nat} {e : TypeId} {v : Value} {xs : List Value} (h : w.ownsRow base e 1 v n xs) (hb : ∀ b, v.ownBlock = some b → w'.heap[b]? = w.heap[b]?) : w'.ownsRow base e 1 v n xs := by
  obtain ⟨h1, h2⟩ := h
  refine ⟨h1, ?_⟩
  rcases h2 with h2 | ⟨g, cap, cur, hv, hg, hh, r⟩
  · exact Or.inl h2
  · refine Or.inr ⟨g, cap, cur, hv, hg, ?_, r⟩
    rw [hb g (by rw [hv]; rfl)]
    exact hh
theorem own_lt2 {w : World} {base n : Nat} {e : TypeId} {v : Value} {xs : List Value} (h : w.ownsRow base e 1 v n xs) {b : Nat} (hb : v.ownBlock = some b) : b < w.heap.size := by
  rcases h.2 with ⟨rfl, _⟩ | ⟨g, cap, cur, rfl, hg, hh, _⟩
  · simp [Value.ownBlock] at hb
  · have e : g = b := by simpa [Value.ownBlock] using hb
    subst e
    exact old_of_row hh
theorem ValE.one {w : World} {base n : Nat} {v : Value} {r : List Int} (h : w.ownsRow base 5 1 v n (r.map (Value.int .u8))) (hi : InB r) (hn : ∃ a c, v = .slice a r.length c) : ValE (fun b => v.ownBlock = some b) [v] [r] w := fun w2 hb => by
  have h2 := own_slb (own_stay2 h hb)
  obtain ⟨a, c, rfl⟩ := hn
  refine ⟨rfl, fun j hj => ?_⟩
  obtain rfl : j = 0 := by simpa using hj
  exact ⟨a, c, rfl, h2, hi⟩
theorem ValE.app {E E2 : Nat → Prop} {us us2 : List Value} {rs rs2 : List (List Int)} {w : World} (h : ValE E us rs w) (h2 : ValE E2 us2 rs2 w) : ValE (fun b => E b ∨ E2 b) (us ++ us2) (rs ++ rs2) w := fun w2 hb =>
  (h w2 (fun b q => hb b (.inl q))).app (h2 w2 (fun b q => hb b (.inr q)))

theorem slb_win {b off len cap lo n : Nat} {bs : List Int} {w : World} {ll hh : Int} (h : SlB (.slice (some ⟨b, off, none⟩) len cap) bs w) (hlc : len ≤ cap) (hn : lo + n ≤ len) (hp : 0 < n) (h1 : (lo : Int) = ll) (h2 : ((lo + n : Nat) : Int) = hh) :
    ∃ A C, (∀ w, (Instr.slice 46 (.slice (some ⟨b, off, none⟩) len cap) (some (.int .i64 ll)) (some (.int .i64 hh)) none).run Tryd.prog w = .ok (.slice (some A) n C) w) ∧ SlB (.slice (some A) n C) ((bs.drop lo).take n) w := by
  have hlen := h.len
  subst h1 h2
  have hw := fun w => Lib.run_slice_window (P := Tryd.prog) w 46 5 Tryd.underlying46 byte_sz b off len cap lo (lo + n) (by omega) (by omega)
  refine ⟨⟨b, off + lo, none⟩, cap - lo, fun w => ?_, ?_⟩
  · rw [hw w]
    congr 2
    omega
  · have hl2 : ((bs.drop lo).take n).length = n := by simp; omega
    refine .inr ⟨b, off + lo, cap - lo, by omega, by rw [hl2], fun j hj => ?_⟩
    rw [hl2] at hj
    rcases h with ⟨rfl, _⟩ | ⟨b', off', cap', h0, hv, hc⟩
    · simp at hlen; omega
    · injection hv with h1 h2 h3
      injection h1 with h1
      injection h1 with h4 h5
      subst h4 h5
      rw [Nat.add_assoc, hc (lo + j) (by omega)]
      simp [List.getD, List.getElem?_drop, hj]

/-- HOW FAR READING IS: these rows are read, at bytes are theirs. -/
structure RdS (bs : List Int) (rs : List (List Int)) (at' : Nat) : Prop where
  ok : okRs rs
  sp : bs = allF rs ++ bs.drop at'
  ln : (allF rs).length = at'
theorem RdS.rd {bs : List Int} {rs : List (List Int)} {at' : Nat} (h : RdS bs rs at') : rdR bs = rs ++ rdR (bs.drop at') := by
  have := h.sp
  rw [this]
  rw [rd_all h.ok]
  congr 2
  rw [← h.sp]
theorem RdS.le {bs : List Int} {rs : List (List Int)} {at' : Nat} (h : RdS bs rs at') : at' ≤ bs.length := by
  have := congrArg List.length h.sp
  rw [List.length_append, h.ln] at this
  omega
theorem RdS.stop {bs : List Int} {rs : List (List Int)} {at' : Nat} (h : RdS bs rs at') (hn : ¬ headC (bs.drop at')) : rdR bs = rs := by
  rw [h.rd, rd_none (by unfold headF; rw [if_neg hn]), List.append_nil]
theorem RdS.next {bs : List Int} {rs : List (List Int)} {at' : Nat} (h : RdS bs rs at') (hc : headC (bs.drop at')) {r : List Int} (hr : ((bs.drop at').drop 2).take (cnt (bs.drop at')) = r) : RdS bs (rs ++ [r]) (at' + (r.length + 6)) ∧ okR r ∧ r.length = cnt (bs.drop at') := by
  have hs : headF (bs.drop at') = some r := by unfold headF; rw [if_pos hc, hr]
  obtain ⟨h1, h2, h3, -, h5⟩ := headF_some hs
  refine ⟨⟨okRs_app h.ok (fun x hx => by obtain rfl := List.mem_singleton.1 hx; exact h1), ?_, ?_⟩, h1, h5.symm⟩
  · rw [allF_app, allF_one, List.append_assoc, ← List.drop_drop, ← h2]
    exact h.sp
  · rw [allF_app, allF_one, List.length_append, frm_len, h.ln]
theorem cnt_at {bs : List Int} {at' : Nat} (hb : InB bs) (h : at' + 1 < bs.length) : ((cnt (bs.drop at') : Nat) : Int) = bs.getD at' 0 * 256 + bs.getD (at' + 1) 0 := by
  have e0 : (bs.drop at').getD 0 0 = bs.getD at' 0 := by simp [List.getD, List.getElem?_drop]
  have e1 : (bs.drop at').getD 1 0 = bs.getD (at' + 1) 0 := by simp [List.getD, List.getElem?_drop]
  have b0 : 0 ≤ bs.getD at' 0 ∧ bs.getD at' 0 < 256 := by
    have : bs.getD at' 0 = bs[at'] := by simp [List.getD, show at' < bs.length by omega]
    rw [this]; exact hb _ (List.getElem_mem _)
  have b1 : 0 ≤ bs.getD (at' + 1) 0 ∧ bs.getD (at' + 1) 0 < 256 := by
    have : bs.getD (at' + 1) 0 = bs[at' + 1] := by simp [List.getD, h]
    rw [this]; exact hb _ (List.getElem_mem _)
  unfold cnt
  rw [e0, e1]
  omega

set_option maxRecDepth 100000 in
set_option maxHeartbeats 4000000 in
theorem read7_any (a : Option Addr) (n cp : Nat) (bs : List Int) (hn : bs.length = n) (hnc : n ≤ cp) (hl : n ≤ 100000) (hb : InB bs) (w : World) (hs : SlB (.slice a n cp) bs w) :
    Calls Tryd.prog 27 #[.slice a n cp] w fun e w' => ∃ v us E, e = .returned (.tuple #[v, .int .i64 (allF (rdR bs)).length]) ∧ w'.ownsRow w.heap.size 46 1 v (rdR bs).length us ∧ ValE E us (rdR bs) w' ∧ (∀ b, E b → w.heap.size ≤ b ∧ b < w'.heap.size ∧ v.ownBlock ≠ some b) ∧ Kp w w' := by
  have HS := Lib.hid (fun w1 (hk : Kp w w1) => hs.kp hk)
  have HN := Lib.hid hn
  have HB := Lib.hid hb
  have OW0 := Lib.hid (own_empty w 46)
  clear hs hn hb
  go_enter Tryd.func27, Tryd.ntmps27
  go_wp2
  go_loopw [4, 5] (fun v i wr => ∃ (rs : List (List Int)) (at' : Nat) (us : List Value) (E : Nat → Prop), i = .int .i64 at' ∧ RdS bs rs at' ∧ wr.ownsRow w.heap.size 46 1 v rs.length us ∧ ValE E us rs wr ∧ (∀ b, E b → w.heap.size ≤ b ∧ b < wr.heap.size ∧ v.ownBlock ≠ some b) ∧ Kp w wr) (fun _ i _ => n - (intOf i).toNat)
  case atStart => exact ⟨[], 0, [], fun _ => False, rfl, ⟨fun r hr => (by cases hr), rfl, rfl⟩, OW0.out, fun w2 _ => Vals.nil w2, fun b hb => hb.elim, kp_alloc _ _⟩
  case round =>
    obtain ⟨rs, at', us, E, rfl, hrs, hown, hval, hE, hk⟩ := hrel
    obtain ⟨jj, hjj⟩ : ∃ jj : Int, (at' : Int) = jj := ⟨_, rfl⟩
    rw [hjj]
    have K := Lib.hid hk
    have HJ := Lib.hid hjj
    have RS := Lib.hid hrs
    have OW := Lib.hid hown
    have VE := Lib.hid hval
    have HE := Lib.hid hE
    obtain ⟨nn, hnn⟩ : ∃ x : Int, (n : Int) = x := ⟨_, rfl⟩
    have HNN := Lib.hid hnn
    have hat := hrs.le
    rw [HN.out] at hat
    have hj0 : 0 ≤ jj := by omega
    have hjn : jj ≤ nn := by omega
    have hn1 : nn ≤ 100000 := by omega
    have hdl : (bs.drop at').length = n - at' := by rw [List.length_drop, HN.out]
    have STOP := Lib.hid (fun (hno : ¬ headC (bs.drop at')) => show rdR bs = rs ∧ (allF rs).length = at' from ⟨hrs.stop hno, hrs.ln⟩)
    by_cases h7 : nn - jj < 7
    · have HNO := Lib.hid (show ¬ headC (bs.drop at') from fun q => by have := q.1; omega)
      clear hown hval hE hk hrs hjj hat hdl
      go_wp2
      go_ret2
      obtain ⟨e1, e2⟩ := STOP.out HNO.out
      rw [e1]
      exact ⟨_, us, E, by rw [e2, HJ.out]; rfl, OW.out, VE.out, HE.out, K.out⟩
    · have hat2 : at' + 1 < bs.length := by rw [HN.out]; omega
      obtain ⟨ba, oa, rfl, hc1⟩ := (HS.out wr hk).at at' (by omega)
      obtain ⟨ba', oa', hae, hc2⟩ := (HS.out wr hk).at (at' + 1) hat2
      injection hae with hae
      injection hae with hae1 hae2 _
      subst hae1 hae2
      have hcnt := cnt_at HB.out hat2
      have hx0 : 0 ≤ bs.getD at' 0 ∧ bs.getD at' 0 < 256 := by
        have : bs.getD at' 0 = bs[at'] := by simp [List.getD, show at' < bs.length by omega]
        rw [this]; exact HB.out _ (List.getElem_mem _)
      have hx1 : 0 ≤ bs.getD (at' + 1) 0 ∧ bs.getD (at' + 1) 0 < 256 := by
        have : bs.getD (at' + 1) 0 = bs[at' + 1] := by simp [List.getD, hat2]
        rw [this]; exact HB.out _ (List.getElem_mem _)
      obtain ⟨x0, hx0e⟩ : ∃ x, bs.getD at' 0 = x := ⟨_, rfl⟩
      obtain ⟨x1, hx1e⟩ : ∃ x, bs.getD (at' + 1) 0 = x := ⟨_, rfl⟩
      rw [hx0e] at hc1 hx0 hcnt
      rw [hx1e] at hc2 hx1 hcnt
      obtain ⟨x00, x01⟩ := hx0
      obtain ⟨x10, x11⟩ := hx1
      have c1 : wr.cell? ⟨ba, oa + jj.toNat, none⟩ = some (.int .u8 x0) := by rw [show jj.toNat = at' by omega]; exact hc1
      have c2 : wr.cell? ⟨ba, oa + (jj + 1).toNat, none⟩ = some (.int .u8 x1) := by rw [show (jj + 1).toNat = at' + 1 by omega]; exact hc2
      obtain ⟨kk, hkk⟩ : ∃ x, x0 * 256 + x1 = x := ⟨_, rfl⟩
      rw [hkk] at hcnt
      have HKK := Lib.hid hkk
      have HCNT := Lib.hid hcnt
      have hk65 : kk ≤ 65535 := by omega
      have hk00 : 0 ≤ kk := by omega
      clear hown hval hE hc1 hc2 hx0e hx1e hkk hat2
      go_wp2
      go_quiet (fail)
      rw [HKK.out]
      obtain ⟨wq, hwq⟩ : ∃ x, wr.drewN nq = x := ⟨_, rfl⟩
      rw [hwq]
      have EQH := Lib.hid (show wq.heap = wr.heap by rw [← hwq]; rfl)
      have KQ := Lib.hid (show Kp w wq by rw [← hwq]; exact Kp.drewN K.out _)
      have OQ := Lib.hid (own_stay2 (w' := wq) OW.out (fun b _ => by rw [EQH.out]))
      have VQ := Lib.hid (VE.out.to (w' := wq) (fun b _ => by rw [EQH.out]))
      have HQ := Lib.hid (show ∀ b, E b → w.heap.size ≤ b ∧ b < wq.heap.size ∧ _ from fun b q => by rw [EQH.out]; exact HE.out b q)
      clear hwq c1 c2
      obtain ⟨k, hkd⟩ : ∃ k, cnt (bs.drop at') = k := ⟨_, rfl⟩
      have hkc : (k : Int) = kk := by rw [← hkd]; exact HCNT.out
      by_cases k1 : kk < 1
      · have HNO := Lib.hid (show ¬ headC (bs.drop at') from fun q => by have := q.2.1; have := HCNT.out; omega)
        clear hk hrs hjj hat hdl hcnt hkd hkc
        go_wp2
        go_ret2
        obtain ⟨e1, e2⟩ := STOP.out HNO.out
        rw [e1]
        exact ⟨_, us, E, by rw [e2, HJ.out]; rfl, OQ.out, VQ.out, HQ.out, KQ.out⟩
      by_cases k2 : kk > 200
      · have HNO := Lib.hid (show ¬ headC (bs.drop at') from fun q => by have := q.2.2.1; have := HCNT.out; omega)
        clear hk hrs hjj hat hdl hcnt hkd hkc
        go_wp2
        go_ret2
        obtain ⟨e1, e2⟩ := STOP.out HNO.out
        rw [e1]
        exact ⟨_, by rw [e2, HJ.out]; rfl, us, OQ.out, E, VQ.out, HQ.out, KQ.out⟩
      by_cases k3 : nn - jj < kk + 6
      · have HNO := Lib.hid (show ¬ headC (bs.drop at') from fun q => by have := q.2.2.2.1; have := HCNT.out; omega)
        clear hk hrs hjj hat hdl hcnt hkd hkc
        go_wp2
        go_ret2
        obtain ⟨e1, e2⟩ := STOP.out HNO.out
        rw [e1]
        exact ⟨_, by rw [e2, HJ.out]; rfl, us, OQ.out, E, VQ.out, HQ.out, KQ.out⟩
      have hs0 := HS.out wq KQ.out
      obtain ⟨A1, C1, hsl1, hs1⟩ := slb_win (lo := at' + 2) (n := k) (ll := jj + 2) (hh := jj + 2 + kk) hs0 hnc (by omega) (by omega) (by omega) (by omega)
      obtain ⟨A2, C2, hsl2, hs2⟩ := slb_win (lo := at') (n := k + 6) (ll := jj) (hh := jj + kk + 6) hs0 hnc (by omega) (by omega) (by omega) (by omega)
      obtain ⟨r, hr⟩ : ∃ r, ((bs.drop at').drop 2).take k = r := ⟨_, rfl⟩
      have hr1 : (bs.drop (at' + 2)).take k = r := by rw [← hr, List.drop_drop]
      rw [hr1] at hs1
      have hrl : r.length = k := by rw [← hr1, List.length_take, List.length_drop, HN.out]; omega
      have hrb : InB r := by rw [← hr1]; exact fun x hx => HB.out x (List.mem_of_mem_drop (List.mem_of_mem_take hx))
      have hro : okR r := by unfold okR; rw [hrl]; omega
      have HFR := Lib.hid (fun w1 (hk : Kp wq w1) => frame7_ok (some A1) k C1 r hrl hrb hro w1 (hs1.kp hk))
      obtain ⟨y, hy⟩ : ∃ y, (bs.drop at').take (k + 6) = y := ⟨_, rfl⟩
      rw [hy] at hs2
      have HS1 := Lib.hid hs1
      have HS2 := Lib.hid hs2
      have HRL := Lib.hid hrl
      have HRB := Lib.hid hrb
      have HRO := Lib.hid hro
      have HDL := Lib.hid hdl
      have HKD := Lib.hid hkd
      have HKC := Lib.hid hkc
      have HR := Lib.hid hr
      have HY := Lib.hid hy
      have hyb : InB y := by rw [← hy]; exact fun x hx => HB.out x (List.mem_of_mem_drop (List.mem_of_mem_take hx))
      have HYB := Lib.hid hyb
      clear hk hrs hjj hat hdl hcnt hkd hkc hs0 hs1 hs2 hr hr1 hrl hrb hro hy hyb
      go_wp2_with (go_at_call 23; (with_reducible refine (HFR.out _ (Kp.refl _)).mono ?_); rintro e w2 ⟨v2, rfl, hown2, hk2⟩; have K2 := Lib.hid hk2; have S2 := Lib.hid (own_slb hown2); have HV : ∃ a2 c2, v2 = .slice a2 (k + 6) c2 := (by rcases hown2.2 with ⟨rfl, q⟩ | ⟨gb, cap, cur, rfl, _⟩; exact ⟨none, 0, by cases q⟩; exact ⟨_, _, rfl⟩); obtain ⟨a2, c2, rfl⟩ := HV; clear hown2 hk2; have cv1 := fun q => conv_slb (S2.out.kp ((Kp.refl w2).drewN q)); have cv2 := fun q => conv_slb (HS2.out.kp (Kp.trans K2.out ((Kp.refl w2).drewN q))))
      by_cases heq : frm r = y
      · have HEQ := Lib.hid heq
        rw [heq] at cv1
        clear heq
        go_quiet (fail)
        obtain ⟨w3, hw3⟩ : ∃ x, w2.drewN nq = x := ⟨_, rfl⟩
        rw [hw3]
        have K3 := Lib.hid (show Kp wq w3 by rw [← hw3]; exact Kp.drewN K2.out _)
        have OE := Lib.hid (own_empty w3 5)
        have SR := Lib.hid (HS1.out.kp (Kp.trans K3.out (kp_alloc w3 (.cells #[] 5))))
        clear hw3 cv1 cv2
        go_wp2_with (at_builtin; refine wpList_append_blk _ rfl _ _ rfl w3.heap.size _ _ _ rfl OE.out (some A1) k C1 r rfl SR.out ?d1 ?d2 ?_)
        case d1 => have := HKC.out; omega
        case d2 => exact Below.size (kp_alloc _ _)
        intro v8 w4 hown8 hgr8 _
        have K4 := Lib.hid (row_kp OE.out hgr8 (kp_alloc w3 (.cells #[] 5)))
        obtain ⟨a8, c8, rfl⟩ : ∃ a8 c8, v8 = .slice a8 k c8 := by
          rcases hown8.2 with ⟨rfl, q⟩ | ⟨gb, cap, cur, rfl, _⟩
          · exact ⟨none, 0, by rw [q]⟩
          · exact ⟨_, _, rfl⟩
        have V8 := Lib.hid (ValE.one hown8 HRB.out ⟨a8, c8, by rw [HRL.out]⟩)
        have O8 := Lib.hid hown8
        have K5 := Lib.hid (Kp.trans K3.out (Kp.trans K4.out (kp_alloc w4 (.cells #[.slice a8 k c8] 46))))
        have OW5 := Lib.hid (own_stay2 OQ.out (fun b hb => Below.block K5.out b (own_lt2 OQ.out hb)))
        have CB := Lib.hid (box_cell w4 (.slice a8 k c8) 46)
        have hrs1 : rs.length ≤ 100000 := by have h1 := allF_ge RS.out.ok; have h2 := RS.out.ln; have h3 := RS.out.le; have h4 := HN.out; omega
        clear hown8 hgr8
        go_wp2_with (at_builtin; refine wpList_append_us _ rfl _ _ rfl w.heap.size _ _ _ rfl OW5.out (some ⟨w4.heap.size, 0, none⟩) 1 1 [.slice a8 k c8] rfl rfl ?e3 ?e4 ?e5 ?e1 ?e2 ?_)
        case e1 => omega
        case e2 => exact Nat.le_trans (Below.size KQ.out) (Below.size K5.out)
        case e3 => exact fun e => by cases e
        case e4 => exact fun u hu => by obtain rfl := List.mem_singleton.1 hu; rfl
        case e5 =>
          intro ad e j u hu
          injection e with e
          subst e
          have hj : j < 1 := (List.getElem?_eq_some_iff.1 hu).1
          obtain rfl : j = 0 := by omega
          have e2 : (Value.slice a8 k c8) = u := by simpa using hu
          rw [← e2, Addr.add_lit]
          exact CB.out
        intro v9 w6 hown9 hgr9 hbk9
        have K6 := Lib.hid (row_kp OW5.out hgr9 (Kp.trans KQ.out K5.out))
        have HRE := Lib.hid (show ∀ b, E b → w6.heap[b]? = wq.heap[b]? from fun b hb => by
          have h1 := HQ.out b hb
          rw [hgr9.block b (Nat.lt_of_lt_of_le h1.2.1 (Below.size K5.out)) (fun q => h1.2.2 q.symm)]
          exact Below.block K5.out b h1.2.1)
        have HU4 := Lib.hid (show ∀ b, (Value.slice a8 k c8).ownBlock = some b → w3.heap.size ≤ b ∧ b < w4.heap.size from fun b hb => ⟨own_blk O8.out hb, own_lt2 O8.out hb⟩)
        have HU0 := Lib.hid (fun b hb => own_lt2 OQ.out (b := b) hb)
        have HSZ := Lib.hid (show wq.heap.size ≤ w3.heap.size ∧ w4.heap.size ≤ (w4.alloc (.cells #[.slice a8 k c8] 46)).heap.size ∧ (w4.alloc (.cells #[.slice a8 k c8] 46)).heap.size ≤ w6.heap.size ∧ w.heap.size ≤ wq.heap.size ∧ w3.heap.size ≤ w4.heap.size from ⟨Below.size K3.out, Below.size (kp_alloc _ _), hgr9.size, Below.size KQ.out, Below.size K4.out⟩)
        have HR8 := Lib.hid (show ∀ b, (Value.slice a8 k c8).ownBlock = some b → w6.heap[b]? = w4.heap[b]? from fun b hb => by
          have h1 := HU4.out b hb
          have h2 := HSZ.out
          rw [hgr9.block b (by omega) (fun q => by have := HU0.out b q.symm; omega)]
          exact Below.block (kp_alloc _ _) b h1.2)
        have O9 := Lib.hid hown9
        have B9 := Lib.hid hbk9
        clear hown9 hgr9 hbk9
        go_wp2
        have hkc := HKC.out
        have hjj := HJ.out
        have hnn2 := HNN.out
        have hc : headC (bs.drop at') := ⟨by have := HDL.out; omega, by rw [HKD.out]; omega, by rw [HKD.out]; omega, by rw [HKD.out]; have := HDL.out; omega, by rw [HKD.out, HY.out, HR.out]; exact HEQ.out.symm⟩
        obtain ⟨hn1, hn2, hn3⟩ := RS.out.next hc (r := r) (by rw [HKD.out]; exact HR.out)
        have hrl := HRL.out
        refine ⟨⟨rs ++ [r], at' + (r.length + 6), us ++ [.slice a8 k c8], _, by congr 1; omega, hn1, ?_, (VQ.out.to HRE.out).app (V8.out.to HR8.out), ?_, K6.out⟩, ?_⟩
        · rw [List.length_append]
          exact O9.out
        · intro b hb
          have hz := HSZ.out
          rcases hb with hb | hb
          · have h1 := HQ.out b hb
            refine ⟨h1.1, by omega, fun q => ?_⟩
            rcases B9.out b q with p | p
            · exact h1.2.2 p
            · omega
          · have h1 := HU4.out b hb
            refine ⟨by omega, by omega, fun q => ?_⟩
            rcases B9.out b q with p | p
            · have := HU0.out b p; omega
            · omega
        · simp [intOf]
          omega
      · have HNO := Lib.hid (show ¬ headC (bs.drop at') from fun q => heq (by have h5 := q.2.2.2.2; rw [HKD.out, HY.out, HR.out] at h5; exact h5.symm))
        have hns : ¬ strOfNums (frm r) = strOfNums y := fun h => heq (str_inj (frm_in HRB.out HRO.out.2) HYB.out h)
        obtain ⟨sx, hsx'⟩ : ∃ s, strOfNums (frm r) = s := ⟨_, rfl⟩
        obtain ⟨sy, hsy'⟩ : ∃ s, strOfNums y = s := ⟨_, rfl⟩
        rw [hsx'] at cv1 hns
        rw [hsy'] at cv2 hns
        have hne := sl_ne hns
        clear heq hns hsx' hsy'
        go_quiet (fail)
        go_wp2
        go_ret2
        obtain ⟨e1, e2⟩ := STOP.out HNO.out
        rw [e1]
        have EQ3 : ∀ b, b < wq.heap.size → (w2.drewN nq).heap[b]? = wq.heap[b]? := fun b hb => Below.block K2.out b hb
        exact ⟨_, us, E, by rw [e2, HJ.out]; rfl, own_stay2 OQ.out (fun b hb => EQ3 b (own_lt2 OQ.out hb)), VQ.out.to (fun b hb => EQ3 b (HQ.out b hb).2.1), fun b hb => ⟨(HQ.out b hb).1, Nat.lt_of_lt_of_le (HQ.out b hb).2.1 (show wq.heap.size ≤ (w2.drewN nq).heap.size by have h := Below.size K2.out; exact h), (HQ.out b hb).2.2⟩, Kp.trans KQ.out (Kp.drewN K2.out _)⟩
end Go.Proofs.YtpehmkglkjlmfaaDoor
