/-
  JournalOpens (own work): which rows all bytes have.
-/
import Derived.Test.YtpehmkglkjlmfaaDoorKepL
import Derived.Test.YtpehmkglkjlmfaaDoorRed7
import Derived.Deep.RegionHeld3
namespace Go.Proofs.YtpehmkglkjlmfaaDoor
open Go.RowKit Go.ChangeShapes Go.WideShapes

variable {ads : List Addr} {R : Nat → TM → (Nat → Prop) → World → Prop} {J : Nat → Nat → JM → (Nat → Prop) → World → Prop} {W w w' : World} {O : Nat → Prop}

/-- bytes that were there ahead of the tape are none of its own -/
theorem slb_old {a : Option Addr} {n c : Nat} {bs : List Int} (hs : SlB (.slice a n c) bs W) (hO : ∀ b, O b → W.heap.size ≤ b) : 0 < n → ∀ ad, a = some ad → ¬ O ad.block := by
  intro hn ad ha hq
  subst ha
  have hB := hO _ hq
  rcases hs with ⟨_, a', cap, e, _⟩ | ⟨b, off, cap, hp, e, hc⟩
  · injection e with _ e2 _
    omega
  · injection e with e1 _ _
    injection e1 with e1
    subst e1
    have h2 : b < W.heap.size := old_of_cell (hc 0 hp)
    have h3 : W.heap.size ≤ b := hB
    omega
theorem app_livs {bs : List Int} {room : Int} (h : (bs.length : Int) ≤ room) : appM (liv [] room) bs = (0, { sure := [], tail := bs, room := room, left := -1, off := false }) := by
  unfold appM
  rw [if_neg (show ¬ (liv [] room).room - ((liv [] room).sure.length : Int) - ((liv [] room).tail.length : Int) < (bs.length : Int) by show ¬ room - ((0 : Nat) : Int) - ((0 : Nat) : Int) < (bs.length : Int); omega)]
  have hs : stepM (liv [] room) = (0, liv [] room) := step_liv [] [] room
  rw [hs, if_pos rfl]
  rfl
theorem sync_livs (bs : List Int) (room : Int) : syncM { sure := [], tail := bs, room := room, left := -1, off := false } = (0, liv bs room) := by
  unfold syncM
  rw [step_liv, if_pos rfl]
  rfl

set_option maxRecDepth 20000 in
set_option maxHeartbeats 8000000 in
theorem opens_long (T : TapC ads W R) (C : JouC ads W R J) (a b : Option Addr) (n cp n2 cp2 : Nat) (bs r : List Int) (hs : SlB (.slice a n cp) bs W) (hn : bs.length = n) (hnc : n ≤ cp) (hb : InB bs) (hr : SlB (.slice b n2 cp2) r W) (hn2 : r.length = n2) (hrb : InB r) (hL : 2000 < n ∨ 400 < n2) :
    Calls Tryd.prog 4 #[.slice a n cp, .slice b n2 cp2] W fun e w' => e = .returned (.bool true) ∧ Kp W w' := by
  have HAL := Lib.hid (alive7 T C)
  obtain ⟨nn, hnn⟩ : ∃ x : Int, (n : Int) = x := ⟨_, rfl⟩
  obtain ⟨nn2, hnn2⟩ : ∃ x : Int, (n2 : Int) = x := ⟨_, rfl⟩
  have _u := And.intro hs (And.intro hnc (And.intro hb (And.intro hr (And.intro hrb (And.intro hn hn2)))))
  clear _u T C hs hn hnc hb hr hn2 hrb
  by_cases h1 : nn > 2000
  · clear hL
    go_enter Tryd.func4, Tryd.ntmps4
    go_wp2_with (go_at_call 8; (with_reducible refine HAL.out.mono ?_); rintro e w1 ⟨rfl, hk⟩; have K1 := Lib.hid hk; clear hk)
    go_ret
    exact ⟨rfl, K1.out⟩
  · have h2 : nn2 > 400 := by omega
    clear hL
    go_enter Tryd.func4, Tryd.ntmps4
    go_wp2_with (go_at_call 8; (with_reducible refine HAL.out.mono ?_); rintro e w1 ⟨rfl, hk⟩; have K1 := Lib.hid hk; clear hk)
    go_ret
    exact ⟨rfl, K1.out⟩

set_option maxRecDepth 20000 in
set_option maxHeartbeats 8000000 in
theorem opens_ok (T : TapC ads W R) (C : JouC ads W R J) (a b : Option Addr) (n cp n2 cp2 : Nat) (bs r : List Int) (hs : SlB (.slice a n cp) bs W) (hn : bs.length = n) (hnc : n ≤ cp) (hb : InB bs) (hr : SlB (.slice b n2 cp2) r W) (hn2 : r.length = n2) (hrb : InB r) (hL1 : n ≤ 2000) (hL2 : n2 ≤ 400) (ho : okR r) :
    Calls Tryd.prog 4 #[.slice a n cp, .slice b n2 cp2] W fun e w' => e = .returned (.bool true) ∧ Kp W w' := by
  have HAL := Lib.hid (alive7 T C)
  obtain ⟨nn, hnn⟩ : ∃ x : Int, (n : Int) = x := ⟨_, rfl⟩
  obtain ⟨nn2, hnn2⟩ : ∃ x : Int, (n2 : Int) = x := ⟨_, rfl⟩
  have HC := Lib.hid C
  have HT := Lib.hid T
  have x1 : ¬ nn > 2000 := by omega
  have x2 : ¬ nn2 > 400 := by omega
  have HS := Lib.hid hs
  have HN := Lib.hid (fun w1 (hk : Kp W w1) => JL.new (room := 2000) T hk (by decide) (by decide))
  have k0 : Mok (liv [] 2000) := livs_ok InB.nil (by decide) (by decide) (by decide)
  have e1 := app_livs (bs := bs) (room := 2000) (by omega)
  have k1 := k0.app hb
  rw [e1] at k1
  have e2 := sync_livs bs 2000
  have k2 := k1.sync
  rw [e2] at k2
  have HAP := fun w1 (hk : Kp W w1) g O (r : R g (liv [] 2000) O w1) => T.append w1 hk g _ O r k0 a n cp bs (hs.kp hk) hn hnc hb (by omega) (slb_old hs (fun b hb => (T.mem r b hb).1))
  simp only [e1, errI_nil] at HAP
  have HAP := Lib.hid HAP
  have HSY := fun w1 (hk : Kp W w1) g O (r : R g { sure := [], tail := bs, room := 2000, left := -1, off := false } O w1) => T.sync w1 hk g _ O r k1
  simp only [e2, errI_nil] at HSY
  have HSY := Lib.hid HSY
  have eop := open_livs bs 2000
  have HOP := fun w1 (hk : Kp W w1) g O (r : R g (liv bs 2000) O w1) => JT.openC T C hk r k2 rfl (by rw [eop.1])
  simp only [eop.1, eop.2] at HOP
  have HRE := fun w1 (hk : Kp W w1) => read7_any a n cp bs hn hnc (by omega) hb w1 (hs.kp hk)
  have htk := rd_take bs
  have hle := rd_le bs
  obtain ⟨rs, hrs⟩ : ∃ x, rdR bs = x := ⟨_, rfl⟩
  rw [hrs] at htk hle
  simp only [hrs] at HRE HOP
  obtain ⟨bl, hbl⟩ : ∃ x, allF rs = x := ⟨_, rfl⟩
  obtain ⟨m, hm⟩ : ∃ x, bl.length = x := ⟨_, rfl⟩
  obtain ⟨mm, hmm⟩ : ∃ x : Int, (m : Int) = x := ⟨_, rfl⟩
  have HSI := fun w1 q g OJ O (h : JT R J W q g ⟨rs, false⟩ (liv (allF rs) 2000) OJ O w1) => h.size C
  have HRO := fun w1 q g OJ O (h : JT R J W q g ⟨rs, false⟩ (liv (allF rs) 2000) OJ O w1) => h.rowsC C
  have HBY := fun w1 q g OJ O (h : JT R J W q g ⟨rs, false⟩ (liv (allF rs) 2000) OJ O w1) => h.bytes T
  simp only [liv_all] at HBY
  have hrn : rs.length ≤ 1000000 := by rw [← hrs]; have h1 := allF_ge (rd_okRs bs); have h2 := rd_le bs; omega
  have HSM := fun w1 u u2 (hu : SlBB u rs w1) (hu2 : SlBB u2 rs w1) => same_any u u2 rs rs hrn w1 hu hu2
  simp only at HSM
  have HSM := Lib.hid HSM
  simp only [hbl, hm, hmm] at HSI HBY HRE
  simp only [hbl] at HOP HRO
  have HOP := Lib.hid HOP
  have HRO := Lib.hid HRO
  have HSI := Lib.hid HSI
  have HBY := Lib.hid HBY
  have HRE := Lib.hid HRE
  have HBL := Lib.hid hbl
  rw [hbl, hm] at htk
  rw [hbl, hm] at hle
  obtain ⟨A, CC, hsl, hsA⟩ := slb_head (m := m) (mm := mm) hs (by omega) hnc hmm
  rw [htk] at hsA
  have HSA := Lib.hid hsA
  obtain ⟨sv, hsv⟩ : ∃ x, strOfNums bl = x := ⟨_, rfl⟩
  have HSV := Lib.hid hsv
  have HF := Lib.hid (fun w1 (hk : Kp W w1) => C.frame_ok w1 hk b n2 cp2 r (hr.kp hk) hn2 hrb ho)
  have HG := Lib.hid (fun w1 (hk : Kp W w1) => frame7_ok b n2 cp2 r hn2 hrb ho w1 (hr.kp hk))
  obtain ⟨fv, hfv⟩ : ∃ x, strOfNums (frm r) = x := ⟨_, rfl⟩
  have HFV := Lib.hid hfv
  clear T C hs hn hb hrb hL1 hL2 k0 k1 k2 e1 e2 eop hrs hbl hm hmm hrn htk hle hsA hsv hr hn2 ho hfv
  go_enter Tryd.func4, Tryd.ntmps4
  go_wp2_with (first
    | (go_at_call 8; (with_reducible refine HAL.out.mono ?_); rintro e w1 ⟨rfl, hk⟩; have K1 := Lib.hid hk; clear hk)
    | (go_at_call 22; (with_reducible refine (HF.out _ K1.out).mono ?_); rintro e w2 ⟨v2, rfl, hs2, hk⟩; have K2 := Lib.hid (Kp.trans K1.out hk); have S2 := Lib.hid hs2; clear hs2 hk)
    | (go_at_call 23; (with_reducible refine (HG.out _ K2.out).mono ?_); rintro e w3 ⟨v3, rfl, hown, hk⟩; have K3 := Lib.hid (Kp.trans K2.out hk); have cv1 := conv_slb (S2.out.kp hk); have cv2 := conv_slb (own_slb hown); rw [HFV.out] at cv1 cv2; clear hown hk)
    | (go_at_call 10; (with_reducible refine (HN.out _ K3.out).mono ?_); rintro e w4 ⟨g, O1, rfl, r4, -, hk⟩; have K4 := Lib.hid (Kp.trans K3.out hk); have R4 := Lib.hid r4; clear r4 hk)
    | (go_at_call 25; (with_reducible refine (HAP.out _ K4.out _ _ R4.out).mono ?_); rintro e w5 ⟨rfl, O2, r5, ha⟩; have K5 := Lib.hid (ha.kp K4.out (fun b hb => (HT.out.mem R4.out b hb).1)); have R5 := Lib.hid r5; clear r5 ha)
    | (go_at_call 26; (with_reducible refine (HSY.out _ K5.out _ _ R5.out).mono ?_); rintro e w6 ⟨rfl, O3, r6, ha⟩; have K6 := Lib.hid (ha.kp K5.out (fun b hb => (HT.out.mem R5.out b hb).1)); have R6 := Lib.hid r6; clear r6 ha)
    | (go_at_call 11; (with_reducible refine (HOP.out _ K6.out _ _ R6.out).mono ?_); rintro e w7 ⟨q, OJ, O4, rfl, jt, -, -⟩; have J7 := Lib.hid jt; clear jt)
    | (go_at_call 27; (with_reducible refine (HRE.out _ J7.out.kW).mono ?_); rintro e w8 ⟨v8, us8, E8, rfl, hown, hval, -, hk⟩; have J8 := Lib.hid (J7.out.kp HT.out HC.out hk); have S8 := Lib.hid (own_slbb hown hval.now); clear hown hval hk))
  refine wp_region_held_drew (S := fun w' => Kp w8 w') (by kernel_rfl) ?_ (fun hHeld => ?_)
  · exact (Kp.refl w8).drew
  refine wpAnyH_take (i := 0) (v := ?_) rfl (by kernel_rfl) (by kernel_rfl) (by kernel_rfl) (fun _ _ _ h => h) (Or.inl ⟨by rfl, ?_⟩) (by assumption) ?_
  rotate_left
  · intro w hSw; go_simp; try with_reducible rfl
  go_simp
  refine wpAnyH_take (i := 1) (v := ?_) rfl (by kernel_rfl) (by kernel_rfl) (by kernel_rfl) (fun _ _ _ h => h) (Or.inl ⟨by rfl, ?_⟩) (by assumption) ?_
  rotate_left
  · intro w hSw; go_simp; try with_reducible rfl
  go_simp
  refine wpAnyH_take (i := 2) (v := ?_) rfl (by kernel_rfl) (by kernel_rfl) (by kernel_rfl) (fun _ _ _ h => h) (Or.inl ⟨by rfl, ?_⟩) (by assumption) ?_
  rotate_left
  · intro w hSw; go_simp; try with_reducible rfl
  go_simp
  refine wpAnyH_take (i := 3) (v := ?_) rfl (by kernel_rfl) (by kernel_rfl) (by kernel_rfl) (fun _ _ _ h => h) (Or.inl ⟨by rfl, ?_⟩) (by assumption) ?_
  rotate_left
  · intro w hSw; go_simp; try with_reducible rfl
  go_simp
  refine wpAnyH_take (i := 5) (v := ?_) rfl (by kernel_rfl) (by kernel_rfl) (by kernel_rfl) (fun _ _ _ h => h) (Or.inl ⟨by rfl, ?_⟩) (by assumption) ?_
  rotate_left
  · intro w hSw; go_simp; try with_reducible rfl
  go_simp
  refine wpAnyH_ready (rs := [4]) (by kernel_rfl) (by simp) ?_
  refine AllReadyH.cons rfl (fun K hK => ?_) AllReadyH.nil
  go_simp
  go_wp2_with (go_at_call 17; (with_reducible refine (HRO.out _ _ _ _ _ (J8.out.kp HT.out HC.out hHeld)).mono ?_); rintro e w9 ⟨a9, c9, rfl, hs9, -, hk⟩; have K9 := Lib.hid (Kp.trans hHeld hk); have S9 := Lib.hid hs9; clear hs9 hk)
  refine hK.out _ _ ?_ (fun hHeld => ?_)
  · exact K9.out
  clear hK K
  refine wpAnyH_ready (rs := [6]) (by kernel_rfl) (by simp) ?_
  refine AllReadyH.cons rfl (fun K hK => ?_) AllReadyH.nil
  go_simp
  go_wp2_with (go_at_call 16; (with_reducible refine (HSM.out _ _ _ S9.out (S8.out.kp K9.out)).mono ?_); rintro e w10 ⟨rfl, hk⟩; have K10 := Lib.hid (Kp.trans hHeld hk); clear hk)
  refine hK.out _ _ ?_ (fun hHeld => ?_)
  · exact K10.out
  clear hK K
  refine wpAnyH_take (i := 7) (v := ?_) rfl (by kernel_rfl) (by kernel_rfl) (by kernel_rfl) (fun _ _ _ h => h) (Or.inl ⟨by rfl, ?_⟩) (by assumption) ?_
  rotate_left
  · intro w hSw; go_simp; try with_reducible rfl
  go_simp
  refine wpAnyH_take (i := 8) (v := ?_) rfl (by kernel_rfl) (by kernel_rfl) (by kernel_rfl) (fun _ _ _ h => h) (Or.inl ⟨by rfl, ?_⟩) (by assumption) ?_
  rotate_left
  · intro w hSw; go_simp; try with_reducible rfl
  go_simp
  refine wpAnyH_take (i := 9) (v := ?_) rfl (by kernel_rfl) (by kernel_rfl) (by kernel_rfl) (fun _ _ _ h => h) (Or.inl ⟨by rfl, ?_⟩) (by assumption) ?_
  rotate_left
  · intro w hSw; go_simp; try with_reducible rfl
  go_simp
  refine wpAnyH_take (i := 11) (v := ?_) rfl (by kernel_rfl) (by kernel_rfl) (by kernel_rfl) (fun _ _ _ h => h) (Or.inl ⟨by rfl, ?_⟩) (by assumption) ?_
  rotate_left
  · intro w hSw; go_simp; try with_reducible rfl
  go_simp
  refine wpAnyH_ready (rs := [10]) (by kernel_rfl) (by simp) ?_
  refine AllReadyH.cons rfl (fun K hK => ?_) AllReadyH.nil
  go_simp
  go_wp2_with (go_at_call 19; (with_reducible refine (HSI.out _ _ _ _ _ (J8.out.kp HT.out HC.out hHeld)).mono ?_); rintro e w11 ⟨rfl, hk⟩; have K11 := Lib.hid (Kp.trans hHeld hk); clear hk)
  refine hK.out _ _ ?_ (fun hHeld => ?_)
  · exact K11.out
  clear hK K
  refine wpAnyH_take (i := 12) (v := ?_) rfl (by kernel_rfl) (by kernel_rfl) (by kernel_rfl) (fun _ _ _ h => h) (Or.inl ⟨by rfl, ?_⟩) (by assumption) ?_
  rotate_left
  · intro w hSw; go_simp; try with_reducible rfl
  go_simp
  refine wpAnyH_take (i := 13) (v := ?_) rfl (by kernel_rfl) (by kernel_rfl) (by kernel_rfl) (fun _ _ _ h => h) (Or.inl ⟨by rfl, ?_⟩) (by assumption) ?_
  rotate_left
  · intro w hSw; go_simp; try with_reducible rfl
  go_simp
  refine wpAnyH_take (i := 14) (v := ?_) rfl (by kernel_rfl) (by kernel_rfl) (by kernel_rfl) (fun _ _ _ h => h) (Or.inl ⟨by rfl, ?_⟩) (by assumption) ?_
  rotate_left
  · intro w hSw; go_simp; try with_reducible rfl
  go_simp
  refine wpAnyH_take (i := 15) (v := ?_) rfl (by kernel_rfl) (by kernel_rfl) (by kernel_rfl) (fun _ _ _ h => h) (Or.inl ⟨by rfl, ?_⟩) (by assumption) ?_
  rotate_left
  · intro w hSw; go_simp; try with_reducible rfl
  go_simp
  refine wpAnyH_take (i := 18) (v := ?_) rfl (by kernel_rfl) (by kernel_rfl) (by kernel_rfl) (fun _ _ _ h => h) (Or.inl ⟨by rfl, ?_⟩) (by assumption) ?_
  rotate_left
  · intro w hSw; go_simp; try with_reducible rfl
  go_simp
  refine wpAnyH_take (i := 19) (v := ?_) rfl (by kernel_rfl) (by kernel_rfl) (by kernel_rfl) (fun _ _ _ h => h) (Or.inl ⟨by rfl, ?_⟩) (by assumption) ?_
  rotate_left
  · intro w hSw; go_simp; try with_reducible rfl
  go_simp
  refine wpAnyH_take (i := 20) (v := ?_) rfl (by kernel_rfl) (by kernel_rfl) (by kernel_rfl) (fun _ _ _ h => h) (Or.inl ⟨by rfl, ?_⟩) (by assumption) ?_
  rotate_left
  · intro w hSw; go_simp; try with_reducible rfl
  go_simp
  refine wpAnyH_take (i := 21) (v := ?_) rfl (by kernel_rfl) (by kernel_rfl) (by kernel_rfl) (fun _ _ _ h => h) (Or.inl ⟨by rfl, ?_⟩) (by assumption) ?_
  rotate_left
  · intro w hSw; have cv := conv_slb (HSA.out.kp (Kp.trans J8.out.kW hSw)); rw [HSV.out] at cv; go_simp; try with_reducible rfl
  go_simp
  refine wpAnyH_ready (rs := [16]) (by kernel_rfl) (by simp) ?_
  refine AllReadyH.cons rfl (fun K hK => ?_) AllReadyH.nil
  go_simp
  go_wp2_with (go_at_call 21; (with_reducible refine (HBY.out _ _ _ _ _ (J8.out.kp HT.out HC.out hHeld)).mono ?_); rintro e w12 ⟨a12, c12, rfl, hs12, hk⟩; have K12 := Lib.hid (Kp.trans hHeld hk); have cv := conv_slb hs12; rw [HSV.out] at cv; clear hs12 hk)
  refine hK.out _ _ ?_ (fun hHeld => ?_)
  · exact K12.out
  clear hK K
  refine wpAnyH_ready (rs := [17]) (by kernel_rfl) (by simp) ?_
  refine AllReadyH.cons rfl (fun K hK => ?_) AllReadyH.nil
  go_simp
  refine hK.out _ _ ?_ (fun hHeld => ?_)
  · exact hHeld
  clear hK K
  refine wpAnyH_take (i := 22) (v := ?_) rfl (by kernel_rfl) (by kernel_rfl) (by kernel_rfl) (fun _ _ _ h => h) (Or.inl ⟨by rfl, ?_⟩) (by assumption) ?_
  rotate_left
  · intro w hSw; go_simp; try with_reducible rfl
  go_simp
  refine wpAnyH_take (i := 23) (v := ?_) rfl (by kernel_rfl) (by kernel_rfl) (by kernel_rfl) (fun _ _ _ h => h) (Or.inl ⟨by rfl, ?_⟩) (by assumption) ?_
  rotate_left
  · intro w hSw; go_simp; try with_reducible rfl
  go_simp
  refine wpAnyH_take (i := 24) (v := ?_) rfl (by kernel_rfl) (by kernel_rfl) (by kernel_rfl) (fun _ _ _ h => h) (Or.inl ⟨by rfl, ?_⟩) (by assumption) ?_
  rotate_left
  · intro w hSw; go_simp; try with_reducible rfl
  go_simp
  refine wpAnyH_done (by kernel_rfl) ?_ _
  go_wp2
  go_ret
  exact ⟨by first | rfl | simp, Kp.trans J8.out.kW K12.out⟩

set_option maxRecDepth 20000 in
set_option maxHeartbeats 8000000 in
theorem opens_no (T : TapC ads W R) (C : JouC ads W R J) (V : St ads W) (a b : Option Addr) (n cp n2 cp2 : Nat) (bs r : List Int) (hs : SlB (.slice a n cp) bs W) (hn : bs.length = n) (hnc : n ≤ cp) (hb : InB bs) (hr : SlB (.slice b n2 cp2) r W) (hn2 : r.length = n2) (hrb : InB r) (hL1 : n ≤ 2000) (hL2 : n2 ≤ 400) (ho : ¬ okR r) :
    Calls Tryd.prog 4 #[.slice a n cp, .slice b n2 cp2] W fun e w' => e = .returned (.bool true) ∧ Kp W w' := by
  have HAL := Lib.hid (alive7 T C)
  obtain ⟨nn, hnn⟩ : ∃ x : Int, (n : Int) = x := ⟨_, rfl⟩
  obtain ⟨nn2, hnn2⟩ : ∃ x : Int, (n2 : Int) = x := ⟨_, rfl⟩
  have HC := Lib.hid C
  have HT := Lib.hid T
  have x1 : ¬ nn > 2000 := by omega
  have x2 : ¬ nn2 > 400 := by omega
  have HS := Lib.hid hs
  have HN := Lib.hid (fun w1 (hk : Kp W w1) => JL.new (room := 2000) T hk (by decide) (by decide))
  have k0 : Mok (liv [] 2000) := livs_ok InB.nil (by decide) (by decide) (by decide)
  have e1 := app_livs (bs := bs) (room := 2000) (by omega)
  have k1 := k0.app hb
  rw [e1] at k1
  have e2 := sync_livs bs 2000
  have k2 := k1.sync
  rw [e2] at k2
  have HAP := fun w1 (hk : Kp W w1) g O (r : R g (liv [] 2000) O w1) => T.append w1 hk g _ O r k0 a n cp bs (hs.kp hk) hn hnc hb (by omega) (slb_old hs (fun b hb => (T.mem r b hb).1))
  simp only [e1, errI_nil] at HAP
  have HAP := Lib.hid HAP
  have HSY := fun w1 (hk : Kp W w1) g O (r : R g { sure := [], tail := bs, room := 2000, left := -1, off := false } O w1) => T.sync w1 hk g _ O r k1
  simp only [e2, errI_nil] at HSY
  have HSY := Lib.hid HSY
  have eop := open_livs bs 2000
  have HOP := fun w1 (hk : Kp W w1) g O (r : R g (liv bs 2000) O w1) => JT.openC T C hk r k2 rfl (by rw [eop.1])
  simp only [eop.1, eop.2] at HOP
  have HRE := fun w1 (hk : Kp W w1) => read7_any a n cp bs hn hnc (by omega) hb w1 (hs.kp hk)
  have htk := rd_take bs
  have hle := rd_le bs
  obtain ⟨rs, hrs⟩ : ∃ x, rdR bs = x := ⟨_, rfl⟩
  rw [hrs] at htk hle
  simp only [hrs] at HRE HOP
  obtain ⟨bl, hbl⟩ : ∃ x, allF rs = x := ⟨_, rfl⟩
  obtain ⟨m, hm⟩ : ∃ x, bl.length = x := ⟨_, rfl⟩
  obtain ⟨mm, hmm⟩ : ∃ x : Int, (m : Int) = x := ⟨_, rfl⟩
  have HSI := fun w1 q g OJ O (h : JT R J W q g ⟨rs, false⟩ (liv (allF rs) 2000) OJ O w1) => h.size C
  have HRO := fun w1 q g OJ O (h : JT R J W q g ⟨rs, false⟩ (liv (allF rs) 2000) OJ O w1) => h.rowsC C
  have HBY := fun w1 q g OJ O (h : JT R J W q g ⟨rs, false⟩ (liv (allF rs) 2000) OJ O w1) => h.bytes T
  simp only [liv_all] at HBY
  have hrn : rs.length ≤ 1000000 := by rw [← hrs]; have h1 := allF_ge (rd_okRs bs); have h2 := rd_le bs; omega
  have HSM := fun w1 u u2 (hu : SlBB u rs w1) (hu2 : SlBB u2 rs w1) => same_any u u2 rs rs hrn w1 hu hu2
  simp only at HSM
  have HSM := Lib.hid HSM
  simp only [hbl, hm, hmm] at HSI HBY HRE
  simp only [hbl] at HOP HRO
  have HOP := Lib.hid HOP
  have HRO := Lib.hid HRO
  have HSI := Lib.hid HSI
  have HBY := Lib.hid HBY
  have HRE := Lib.hid HRE
  have HBL := Lib.hid hbl
  rw [hbl, hm] at htk
  rw [hbl, hm] at hle
  obtain ⟨A, CC, hsl, hsA⟩ := slb_head (m := m) (mm := mm) hs (by omega) hnc hmm
  rw [htk] at hsA
  have HSA := Lib.hid hsA
  obtain ⟨sv, hsv⟩ : ∃ x, strOfNums bl = x := ⟨_, rfl⟩
  have HSV := Lib.hid hsv
  have _u := hrb
  clear _u
  have HF := fun w1 (hk : Kp W w1) => C.frame_no w1 hk b n2 cp2 r (hr.kp hk) hn2 (by omega) ho
  obtain ⟨o4, ho4⟩ := errJ_iface ads 4 (by decide)
  simp only [ho4] at HF
  have HF := Lib.hid HF
  have HNU := fun w1 (hk : Kp W w1) => num_errN ads w1 (V.below hk) 4 (by decide) (by decide)
  simp only [ho4] at HNU
  have HNU := Lib.hid HNU
  have HG := Lib.hid (fun w1 => frame7_no b n2 cp2 r hn2 (by omega) ho w1)
  obtain ⟨fv, hfv⟩ : ∃ x, strOfNums [] = x := ⟨_, rfl⟩
  have HFV := Lib.hid hfv
  clear T C hs hn hb hrb hL1 hL2 k0 k1 k2 e1 e2 eop hrs hbl hm hmm hrn htk hle hsA hsv V hr hn2 ho hfv ho4
  go_enter Tryd.func4, Tryd.ntmps4
  go_wp2_with (first
    | (go_at_call 8; (with_reducible refine HAL.out.mono ?_); rintro e w1 ⟨rfl, hk⟩; have K1 := Lib.hid hk; clear hk)
    | (go_at_call 22; (with_reducible refine (HF.out _ K1.out).mono ?_); rintro e w2 ⟨v2, rfl, hs2, hk⟩; have K2 := Lib.hid (Kp.trans K1.out hk); have S2 := Lib.hid hs2; clear hs2 hk)
    | (go_at_call 23; (with_reducible refine (HG.out _).mono ?_); rintro e w3 ⟨rfl, rfl⟩; have cv1 := conv_slb S2.out; have cv2 := conv_slb (w := w2) (v := .slice none 0 0) (bs := []) (.inl ⟨rfl, none, 0, rfl, fun _ => rfl⟩); rw [HFV.out] at cv1 cv2)
    | (go_at_call 24; (with_reducible refine (HNU.out _ K2.out).mono ?_); rintro e w3b ⟨rfl, hk⟩; have K3 := Lib.hid (Kp.trans K2.out hk); clear hk)
    | (go_at_call 10; (with_reducible refine (HN.out _ K3.out).mono ?_); rintro e w4 ⟨g, O1, rfl, r4, -, hk⟩; have K4 := Lib.hid (Kp.trans K3.out hk); have R4 := Lib.hid r4; clear r4 hk)
    | (go_at_call 25; (with_reducible refine (HAP.out _ K4.out _ _ R4.out).mono ?_); rintro e w5 ⟨rfl, O2, r5, ha⟩; have K5 := Lib.hid (ha.kp K4.out (fun b hb => (HT.out.mem R4.out b hb).1)); have R5 := Lib.hid r5; clear r5 ha)
    | (go_at_call 26; (with_reducible refine (HSY.out _ K5.out _ _ R5.out).mono ?_); rintro e w6 ⟨rfl, O3, r6, ha⟩; have K6 := Lib.hid (ha.kp K5.out (fun b hb => (HT.out.mem R5.out b hb).1)); have R6 := Lib.hid r6; clear r6 ha)
    | (go_at_call 11; (with_reducible refine (HOP.out _ K6.out _ _ R6.out).mono ?_); rintro e w7 ⟨q, OJ, O4, rfl, jt, -, -⟩; have J7 := Lib.hid jt; clear jt)
    | (go_at_call 27; (with_reducible refine (HRE.out _ J7.out.kW).mono ?_); rintro e w8 ⟨v8, us8, E8, rfl, hown, hval, -, hk⟩; have J8 := Lib.hid (J7.out.kp HT.out HC.out hk); have S8 := Lib.hid (own_slbb hown hval.now); clear hown hval hk))
  refine wp_region_held_drew (S := fun w' => Kp w8 w') (by kernel_rfl) ?_ (fun hHeld => ?_)
  · exact (Kp.refl w8).drew
  refine wpAnyH_take (i := 0) (v := ?_) rfl (by kernel_rfl) (by kernel_rfl) (by kernel_rfl) (fun _ _ _ h => h) (Or.inl ⟨by rfl, ?_⟩) (by assumption) ?_
  rotate_left
  · intro w hSw; go_simp; try with_reducible rfl
  go_simp
  refine wpAnyH_take (i := 1) (v := ?_) rfl (by kernel_rfl) (by kernel_rfl) (by kernel_rfl) (fun _ _ _ h => h) (Or.inl ⟨by rfl, ?_⟩) (by assumption) ?_
  rotate_left
  · intro w hSw; go_simp; try with_reducible rfl
  go_simp
  refine wpAnyH_take (i := 2) (v := ?_) rfl (by kernel_rfl) (by kernel_rfl) (by kernel_rfl) (fun _ _ _ h => h) (Or.inl ⟨by rfl, ?_⟩) (by assumption) ?_
  rotate_left
  · intro w hSw; go_simp; try with_reducible rfl
  go_simp
  refine wpAnyH_take (i := 3) (v := ?_) rfl (by kernel_rfl) (by kernel_rfl) (by kernel_rfl) (fun _ _ _ h => h) (Or.inl ⟨by rfl, ?_⟩) (by assumption) ?_
  rotate_left
  · intro w hSw; go_simp; try with_reducible rfl
  go_simp
  refine wpAnyH_take (i := 5) (v := ?_) rfl (by kernel_rfl) (by kernel_rfl) (by kernel_rfl) (fun _ _ _ h => h) (Or.inl ⟨by rfl, ?_⟩) (by assumption) ?_
  rotate_left
  · intro w hSw; go_simp; try with_reducible rfl
  go_simp
  refine wpAnyH_ready (rs := [4]) (by kernel_rfl) (by simp) ?_
  refine AllReadyH.cons rfl (fun K hK => ?_) AllReadyH.nil
  go_simp
  go_wp2_with (go_at_call 17; (with_reducible refine (HRO.out _ _ _ _ _ (J8.out.kp HT.out HC.out hHeld)).mono ?_); rintro e w9 ⟨a9, c9, rfl, hs9, -, hk⟩; have K9 := Lib.hid (Kp.trans hHeld hk); have S9 := Lib.hid hs9; clear hs9 hk)
  refine hK.out _ _ ?_ (fun hHeld => ?_)
  · exact K9.out
  clear hK K
  refine wpAnyH_ready (rs := [6]) (by kernel_rfl) (by simp) ?_
  refine AllReadyH.cons rfl (fun K hK => ?_) AllReadyH.nil
  go_simp
  go_wp2_with (go_at_call 16; (with_reducible refine (HSM.out _ _ _ S9.out (S8.out.kp K9.out)).mono ?_); rintro e w10 ⟨rfl, hk⟩; have K10 := Lib.hid (Kp.trans hHeld hk); clear hk)
  refine hK.out _ _ ?_ (fun hHeld => ?_)
  · exact K10.out
  clear hK K
  refine wpAnyH_take (i := 7) (v := ?_) rfl (by kernel_rfl) (by kernel_rfl) (by kernel_rfl) (fun _ _ _ h => h) (Or.inl ⟨by rfl, ?_⟩) (by assumption) ?_
  rotate_left
  · intro w hSw; go_simp; try with_reducible rfl
  go_simp
  refine wpAnyH_take (i := 8) (v := ?_) rfl (by kernel_rfl) (by kernel_rfl) (by kernel_rfl) (fun _ _ _ h => h) (Or.inl ⟨by rfl, ?_⟩) (by assumption) ?_
  rotate_left
  · intro w hSw; go_simp; try with_reducible rfl
  go_simp
  refine wpAnyH_take (i := 9) (v := ?_) rfl (by kernel_rfl) (by kernel_rfl) (by kernel_rfl) (fun _ _ _ h => h) (Or.inl ⟨by rfl, ?_⟩) (by assumption) ?_
  rotate_left
  · intro w hSw; go_simp; try with_reducible rfl
  go_simp
  refine wpAnyH_take (i := 11) (v := ?_) rfl (by kernel_rfl) (by kernel_rfl) (by kernel_rfl) (fun _ _ _ h => h) (Or.inl ⟨by rfl, ?_⟩) (by assumption) ?_
  rotate_left
  · intro w hSw; go_simp; try with_reducible rfl
  go_simp
  refine wpAnyH_ready (rs := [10]) (by kernel_rfl) (by simp) ?_
  refine AllReadyH.cons rfl (fun K hK => ?_) AllReadyH.nil
  go_simp
  go_wp2_with (go_at_call 19; (with_reducible refine (HSI.out _ _ _ _ _ (J8.out.kp HT.out HC.out hHeld)).mono ?_); rintro e w11 ⟨rfl, hk⟩; have K11 := Lib.hid (Kp.trans hHeld hk); clear hk)
  refine hK.out _ _ ?_ (fun hHeld => ?_)
  · exact K11.out
  clear hK K
  refine wpAnyH_take (i := 12) (v := ?_) rfl (by kernel_rfl) (by kernel_rfl) (by kernel_rfl) (fun _ _ _ h => h) (Or.inl ⟨by rfl, ?_⟩) (by assumption) ?_
  rotate_left
  · intro w hSw; go_simp; try with_reducible rfl
  go_simp
  refine wpAnyH_take (i := 13) (v := ?_) rfl (by kernel_rfl) (by kernel_rfl) (by kernel_rfl) (fun _ _ _ h => h) (Or.inl ⟨by rfl, ?_⟩) (by assumption) ?_
  rotate_left
  · intro w hSw; go_simp; try with_reducible rfl
  go_simp
  refine wpAnyH_take (i := 14) (v := ?_) rfl (by kernel_rfl) (by kernel_rfl) (by kernel_rfl) (fun _ _ _ h => h) (Or.inl ⟨by rfl, ?_⟩) (by assumption) ?_
  rotate_left
  · intro w hSw; go_simp; try with_reducible rfl
  go_simp
  refine wpAnyH_take (i := 15) (v := ?_) rfl (by kernel_rfl) (by kernel_rfl) (by kernel_rfl) (fun _ _ _ h => h) (Or.inl ⟨by rfl, ?_⟩) (by assumption) ?_
  rotate_left
  · intro w hSw; go_simp; try with_reducible rfl
  go_simp
  refine wpAnyH_take (i := 18) (v := ?_) rfl (by kernel_rfl) (by kernel_rfl) (by kernel_rfl) (fun _ _ _ h => h) (Or.inl ⟨by rfl, ?_⟩) (by assumption) ?_
  rotate_left
  · intro w hSw; go_simp; try with_reducible rfl
  go_simp
  refine wpAnyH_take (i := 19) (v := ?_) rfl (by kernel_rfl) (by kernel_rfl) (by kernel_rfl) (fun _ _ _ h => h) (Or.inl ⟨by rfl, ?_⟩) (by assumption) ?_
  rotate_left
  · intro w hSw; go_simp; try with_reducible rfl
  go_simp
  refine wpAnyH_take (i := 20) (v := ?_) rfl (by kernel_rfl) (by kernel_rfl) (by kernel_rfl) (fun _ _ _ h => h) (Or.inl ⟨by rfl, ?_⟩) (by assumption) ?_
  rotate_left
  · intro w hSw; go_simp; try with_reducible rfl
  go_simp
  refine wpAnyH_take (i := 21) (v := ?_) rfl (by kernel_rfl) (by kernel_rfl) (by kernel_rfl) (fun _ _ _ h => h) (Or.inl ⟨by rfl, ?_⟩) (by assumption) ?_
  rotate_left
  · intro w hSw; have cv := conv_slb (HSA.out.kp (Kp.trans J8.out.kW hSw)); rw [HSV.out] at cv; go_simp; try with_reducible rfl
  go_simp
  refine wpAnyH_ready (rs := [16]) (by kernel_rfl) (by simp) ?_
  refine AllReadyH.cons rfl (fun K hK => ?_) AllReadyH.nil
  go_simp
  go_wp2_with (go_at_call 21; (with_reducible refine (HBY.out _ _ _ _ _ (J8.out.kp HT.out HC.out hHeld)).mono ?_); rintro e w12 ⟨a12, c12, rfl, hs12, hk⟩; have K12 := Lib.hid (Kp.trans hHeld hk); have cv := conv_slb hs12; rw [HSV.out] at cv; clear hs12 hk)
  refine hK.out _ _ ?_ (fun hHeld => ?_)
  · exact K12.out
  clear hK K
  refine wpAnyH_ready (rs := [17]) (by kernel_rfl) (by simp) ?_
  refine AllReadyH.cons rfl (fun K hK => ?_) AllReadyH.nil
  go_simp
  refine hK.out _ _ ?_ (fun hHeld => ?_)
  · exact hHeld
  clear hK K
  refine wpAnyH_take (i := 22) (v := ?_) rfl (by kernel_rfl) (by kernel_rfl) (by kernel_rfl) (fun _ _ _ h => h) (Or.inl ⟨by rfl, ?_⟩) (by assumption) ?_
  rotate_left
  · intro w hSw; go_simp; try with_reducible rfl
  go_simp
  refine wpAnyH_take (i := 23) (v := ?_) rfl (by kernel_rfl) (by kernel_rfl) (by kernel_rfl) (fun _ _ _ h => h) (Or.inl ⟨by rfl, ?_⟩) (by assumption) ?_
  rotate_left
  · intro w hSw; go_simp; try with_reducible rfl
  go_simp
  refine wpAnyH_take (i := 24) (v := ?_) rfl (by kernel_rfl) (by kernel_rfl) (by kernel_rfl) (fun _ _ _ h => h) (Or.inl ⟨by rfl, ?_⟩) (by assumption) ?_
  rotate_left
  · intro w hSw; go_simp; try with_reducible rfl
  go_simp
  refine wpAnyH_done (by kernel_rfl) ?_ _
  go_wp2
  go_ret
  exact ⟨by first | rfl | simp, Kp.trans J8.out.kW K12.out⟩

theorem opens_any (T : TapC ads W R) (C : JouC ads W R J) (V : St ads W) (a b : Option Addr) (n cp n2 cp2 : Nat) (bs r : List Int) (hs : SlB (.slice a n cp) bs W) (hn : bs.length = n) (hnc : n ≤ cp) (hb : InB bs) (hr : SlB (.slice b n2 cp2) r W) (hn2 : r.length = n2) (hrb : InB r) :
    Calls Tryd.prog 4 #[.slice a n cp, .slice b n2 cp2] W fun e w' => e = .returned (.bool true) ∧ Kp W w' := by
  by_cases hL : 2000 < n ∨ 400 < n2
  · exact opens_long T C a b n cp n2 cp2 bs r hs hn hnc hb hr hn2 hrb hL
  · by_cases ho : okR r
    · exact opens_ok T C a b n cp n2 cp2 bs r hs hn hnc hb hr hn2 hrb (by omega) (by omega) ho
    · exact opens_no T C V a b n cp n2 cp2 bs r hs hn hnc hb hr hn2 hrb (by omega) (by omega) ho
end Go.Proofs.YtpehmkglkjlmfaaDoor
