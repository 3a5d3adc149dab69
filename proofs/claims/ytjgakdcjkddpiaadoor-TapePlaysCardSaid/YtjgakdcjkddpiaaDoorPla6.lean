/-
  TapePlays' WALKS (own work), over TapC.
-/
import Derived.Test.YtjgakdcjkddpiaaDoorDo6
import Derived.Test.YtjgakdcjkddpiaaDoorSlO
import Derived.Test.YtjgakdcjkddpiaaDoorTal6
namespace Go.Proofs.YtjgakdcjkddpiaaDoor
open Go.RowKit Go.ChangeShapes Go.WideShapes
variable {ads : List Addr} {R : Nat → TM → (Nat → Prop) → World → Prop} {W : World}


set_option maxRecDepth 20000 in
theorem plays_long (C : TapC ads W R) (room : Int) (v : Value) (HL : ∀ w1, Kp W w1 → Calls Tryd.prog 8 #[v] w1 fun e w' => e = .returned (.bool true) ∧ Kp w1 w') :
    Calls Tryd.prog 3 #[.int .i64 room, v] W fun e w' => e = .returned (.bool true) ∧ Kp W w' := by
  have HAL := Lib.hid (alive6 C)
  have HC := Lib.hid C
  have HLO := Lib.hid HL
  clear HL C
  go_enter Tryd.func3, Tryd.ntmps3
  go_wp2_with (first | (go_at_call 7; (with_reducible refine HAL.out.mono ?_); rintro e w1 ⟨rfl, hk⟩; have K1 := Lib.hid hk; clear hk) | (go_at_call 8; (with_reducible refine (HLO.out _ K1.out).mono ?_); rintro e w2 ⟨rfl, hk⟩; have K2 := Lib.hid (Kp.trans K1.out hk); clear hk))
  go_ret
  exact ⟨rfl, K2.out⟩

set_option maxRecDepth 20000 in
theorem plays_out (C : TapC ads W R) (V : St ads W) (room : Int) (r0 : -9223372036854775808 ≤ room) (r1 : room ≤ 9223372036854775807) (hr : room < 0 ∨ 65536 < room) (v : Value) (HL : ∀ w1, Kp W w1 → Calls Tryd.prog 8 #[v] w1 fun e w' => e = .returned (.bool false) ∧ Kp w1 w') :
    Calls Tryd.prog 3 #[.int .i64 room, v] W fun e w' => e = .returned (.bool true) ∧ Kp W w' := by
  have HAL := Lib.hid (alive6 C)
  have HC := Lib.hid C
  have HLO := Lib.hid HL
  have HNE := Lib.hid (fun w1 (hk : Kp W w1) => C.new_no w1 hk room hr r0 r1)
  have HNU := Lib.hid (fun w1 (hk : Kp W w1) => num_errN ads w1 (V.below hk) 1 (by decide) (by decide))
  clear HL C V
  by_cases hneg : room < 0
  · have d1 : decide (room < 0) = true := decide_eq_true hneg
    clear hr
    go_enter Tryd.func3, Tryd.ntmps3
    go_wp2_with (first | (go_at_call 7; (with_reducible refine HAL.out.mono ?_); rintro e w1 ⟨rfl, hk⟩; have K1 := Lib.hid hk; clear hk) | (go_at_call 8; (with_reducible refine (HLO.out _ K1.out).mono ?_); rintro e w2 ⟨rfl, hk⟩; have K2 := Lib.hid (Kp.trans K1.out hk); clear hk) | (go_at_call 9; (with_reducible refine (HNE.out _ K2.out).mono ?_); rintro e w3 ⟨rfl, hk⟩; have K3 := Lib.hid (Kp.trans K2.out hk); clear hk) | (go_at_call 10; (with_reducible refine (HNU.out _ K3.out).mono ?_); rintro e w4 ⟨rfl, hk⟩; have K4 := Lib.hid (Kp.trans K3.out hk); clear hk))
    go_ret
    exact ⟨by first | rfl | simp, K4.out⟩
  · have d1 : decide (room < 0) = false := decide_eq_false hneg
    have d2 : room > 65536 := by omega
    clear hr
    go_enter Tryd.func3, Tryd.ntmps3
    go_wp2_with (first | (go_at_call 7; (with_reducible refine HAL.out.mono ?_); rintro e w1 ⟨rfl, hk⟩; have K1 := Lib.hid hk; clear hk) | (go_at_call 8; (with_reducible refine (HLO.out _ K1.out).mono ?_); rintro e w2 ⟨rfl, hk⟩; have K2 := Lib.hid (Kp.trans K1.out hk); clear hk) | (go_at_call 9; (with_reducible refine (HNE.out _ K2.out).mono ?_); rintro e w3 ⟨rfl, hk⟩; have K3 := Lib.hid (Kp.trans K2.out hk); clear hk) | (go_at_call 10; (with_reducible refine (HNU.out _ K3.out).mono ?_); rintro e w4 ⟨rfl, hk⟩; have K4 := Lib.hid (Kp.trans K3.out hk); clear hk))
    go_ret
    exact ⟨by first | rfl | simp, K4.out⟩

set_option maxRecDepth 20000 in
set_option maxHeartbeats 4000000 in
theorem plays_in (C : TapC ads W R) (V : St ads W) (room : Int) (r0 : 0 ≤ room) (r1 : room ≤ 65536) (a : Option Addr) (cap : Nat) (os : List OpL) (m : Nat) (hm : os.length = m) (hel : ∀ (j : Nat) (h : j < os.length), ∃ b off, a = some ⟨b, off, none⟩ ∧ OpC os[j] b (off + j * 3) W) (h100 : m ≤ 100) (h400 : ∀ (j : Nat) (h : j < os.length), os[j].2.2.length ≤ 400)
    (HL : ∀ w1, Kp W w1 → Calls Tryd.prog 8 #[.slice a m cap] w1 fun e w' => e = .returned (.bool false) ∧ Kp w1 w') :
    Calls Tryd.prog 3 #[.int .i64 room, .slice a m cap] W fun e w' => e = .returned (.bool true) ∧ Kp W w' := by
  have HAL := Lib.hid (alive6 C)
  have HC := Lib.hid C
  have HLO := Lib.hid HL
  have HNE := Lib.hid (fun w1 (hk : Kp W w1) => C.new_ok w1 hk room r0 r1)
  have HV := Lib.hid V
  have HM := Lib.hid hm
  have HE := Lib.hid hel
  have H4 := Lib.hid h400
  obtain ⟨L, hL⟩ : ∃ L : Int, (m : Int) = L := ⟨_, rfl⟩
  have HML := Lib.hid hL
  have l100 : L ≤ 100 := by omega
  have d1 : decide (room < 0) = false := decide_eq_false (by omega)
  have d2 : ¬ room > 65536 := by omega
  have HR0 := Lib.hid (And.intro r0 r1)
  clear HL C V hm hel h400 h100
  go_enter Tryd.func3, Tryd.ntmps3
  go_wp2_with (first | (go_at_call 7; (with_reducible refine HAL.out.mono ?_); rintro e w1 ⟨rfl, hk⟩; have K1 := Lib.hid hk; clear hk) | (go_at_call 8; (with_reducible refine (HLO.out _ K1.out).mono ?_); rintro e w2 ⟨rfl, hk⟩; have K2 := Lib.hid (Kp.trans K1.out hk); clear hk) | (go_at_call 9; (with_reducible refine (HNE.out _ K2.out).mono ?_); rintro e w3 ⟨g, O1, rfl, r, hn, hk⟩; have T3 := Lib.hid (OneO.mk r (Kp.trans K2.out hk) : OneO R W g _ O1 w3); clear r hn hk) | (go_at_call 11; (with_reducible refine (ref6_new room _).mono ?_); rintro e w4 ⟨rfl, hmo, hw4⟩; have T4 := Lib.hid (show ∃ mj, Mok mj ∧ ∃ O, BothO R W g w3.heap.size mj mj O w4 from ⟨newM room, Mok.new HR0.out.1 HR0.out.2, O1, (by rw [hw4]; exact (T3.out.kp HC.out (kp_alloc _ _)).r), hmo, T3.out.new HC.out, Below.size T3.out.kW, (by rw [hw4]; exact (T3.out.kp HC.out (kp_alloc _ _)).kW)⟩); clear hmo hw4))
  obtain ⟨gm, hgm⟩ : ∃ x, w3.heap.size = x := ⟨_, rfl⟩
  rw [hgm] at T4 ⊢
  clear hgm
  go_loopw [42] (fun i wr => ∃ j : Nat, j ≤ m ∧ i = .int .i64 j ∧ ∃ mj, Mok mj ∧ ∃ O, BothO R W g gm mj mj O wr) (fun i _ => m - (intOf i).toNat)
  case atStart => exact ⟨0, Nat.zero_le _, rfl, T4.out⟩
  case round =>
    obtain ⟨j, hj, rfl, mj, hok, O, hb⟩ := hrel
    have BR := Lib.hid hb
    have hkW := hb.kW
    obtain ⟨jj, hjj⟩ : ∃ jj : Int, (j : Int) = jj := ⟨_, rfl⟩
    rw [hjj]
    have HJ := Lib.hid hjj
    have hLL := HML.out
    by_cases hlt : j < m
    · have hjl : jj < L := by omega
      have hj0 : 0 ≤ jj := by omega
      have htn : jj.toNat = j := by omega
      have hjo : j < os.length := by rw [HM.out]; exact hlt
      obtain ⟨b, off, rfl, hc0⟩ := HE.out j hjo
      have hc := hc0.kp hkW
      obtain ⟨a', c', hd0, hs0⟩ := hc0.d
      have hd := kp_cell hkW hd0
      have hck := hc.k
      have hcn := hc.n
      have hl4 := H4.out j hjo
      have hib := hc.ib
      have hn0 := hc.n0
      have hn1 := hc.n1
      obtain ⟨kk, hkk⟩ : ∃ x, os[j].1 = x := ⟨_, rfl⟩
      obtain ⟨nn, hnn⟩ : ∃ x, os[j].2.1 = x := ⟨_, rfl⟩
      obtain ⟨bs, hbs⟩ : ∃ x, os[j].2.2 = x := ⟨_, rfl⟩
      rw [hkk] at hck
      rw [hnn] at hcn hn0 hn1
      rw [hbs] at hd hs0 hl4 hib
      obtain ⟨l1, hl1⟩ : ∃ x, bs.length = x := ⟨_, rfl⟩
      rw [hl1] at hd hs0 hl4
      replace hck : wr.cell? ⟨b, off + jj.toNat * 3, none⟩ = some (.int .i64 kk) := by rw [htn]; exact hck
      replace hcn : wr.cell? ⟨b, off + jj.toNat * 3 + 1, none⟩ = some (.int .i64 nn) := by rw [htn]; exact hcn
      replace hd : wr.cell? ⟨b, off + jj.toNat * 3 + 2, none⟩ = some (.slice a' l1 c') := by rw [htn]; exact hd
      have HDO := Lib.hid (fun w1 (q : BothO R W g gm mj mj O w1) => do_any HC.out HV.out q hok kk nn hn0 hn1 a' c' bs l1 hl1 hl4 hib hs0)
      have HOK := Lib.hid (opM_ok hok kk nn hn1 bs hib)
      have HLT := Lib.hid hlt
      clear hc hc0 hb hkW hd0 hs0 hl4 hib hn0 hn1 hkk hnn hbs hl1 hjj hj hlt htn hLL hok
      go_wp2
      have k9 := kp_alloc wr (.cells #[.int .i64 kk, .int .i64 nn, .slice a' l1 c'] 35)
      have hr9 := (MapKept.heap_alloc wr (.cells #[.int .i64 kk, .int .i64 nn, .slice a' l1 c'] 35)).1
      have b9 := BR.out.kp HC.out k9
      obtain ⟨w9, hw9⟩ : ∃ x, wr.alloc (.cells #[.int .i64 kk, .int .i64 nn, .slice a' l1 c'] 35) = x := ⟨_, rfl⟩
      obtain ⟨p9, hp9⟩ : ∃ x, wr.heap.size = x := ⟨_, rfl⟩
      rw [hw9] at k9 hr9 b9 ⊢
      rw [hp9] at hr9 ⊢
      have e0 : w9.cell? ⟨p9, 0, none⟩ = some (.int .i64 kk) := by unfold World.cell?; dsimp only; rw [hr9]; rfl
      have e1 : w9.cell? ⟨p9, 1, none⟩ = some (.int .i64 nn) := by unfold World.cell?; dsimp only; rw [hr9]; rfl
      have e2 : w9.cell? ⟨p9, 2, none⟩ = some (.slice a' l1 c') := by unfold World.cell?; dsimp only; rw [hr9]; rfl
      have BN := Lib.hid (b9.drew HC.out)
      clear hr9 hw9 k9 hp9 b9 hck hcn hd
      refine wp_region_any (by kernel_rfl) ?_
      change wpAny _ _ _ _ _ _ _ (World.drew _)
      refine wpAny_take (i := 0) (v := ?_) rfl (by kernel_rfl) (by kernel_rfl) (by kernel_rfl) (fun _ _ _ h => h) (Or.inl ⟨by rfl, ?_⟩) ?_
      rotate_left
      · intro w; go_simp; try with_reducible rfl
      go_simp
      refine wpAny_take (i := 1) (v := ?_) rfl (by kernel_rfl) (by kernel_rfl) (by kernel_rfl) (fun _ _ _ h => h) (Or.inl ⟨by rfl, ?_⟩) ?_
      rotate_left
      · intro w; go_simp; try with_reducible rfl
      go_simp
      refine wpAny_ready (rs := [2]) (by kernel_rfl) (by simp) ?_
      refine AllReady.cons rfl (fun K hK => ?_) AllReady.nil
      go_simp
      refine hK _ _ ?_
      clear hK K
      refine wpAny_ready (rs := [3]) (by kernel_rfl) (by simp) ?_
      refine AllReady.cons rfl (fun K hK => ?_) AllReady.nil
      go_simp
      go_wp2_with (go_at_call 12; (with_reducible refine (HDO.out _ BN.out).mono ?_); rintro e w5 ⟨rfl, O5, b5⟩; have B5 := Lib.hid b5; clear b5)
      refine wpAny_take (i := 4) (v := ?_) rfl (by kernel_rfl) (by kernel_rfl) (by kernel_rfl) (fun _ _ _ h => h) (Or.inl ⟨by rfl, ?_⟩) ?_
      rotate_left
      · intro w; go_simp; try with_reducible rfl
      go_simp
      refine wpAny_take (i := 5) (v := ?_) rfl (by kernel_rfl) (by kernel_rfl) (by kernel_rfl) (fun _ _ _ h => h) (Or.inl ⟨by rfl, ?_⟩) ?_
      rotate_left
      · intro w; go_simp; try with_reducible rfl
      go_simp
      refine wpAny_of_held (S := fun w' => Kp w5 w') _ _ _ _ ?_
      have hHeld : Kp w5 w5 := Kp.refl _
      have M0 := B5.out.mo.c0
      have M1 := B5.out.mo.c1
      have M2 := B5.out.mo.c2
      have M4 := B5.out.mo.c4
      obtain ⟨m5, hm5⟩ : ∃ x, opM mj kk nn bs = x := ⟨_, rfl⟩
      rw [hm5] at B5 M0 M1 M2 M4 HOK
      obtain ⟨sv, hsv⟩ : ∃ x, strOfNums m5.sure = x := ⟨_, rfl⟩
      obtain ⟨tv, htv⟩ : ∃ x, strOfNums m5.tail = x := ⟨_, rfl⟩
      obtain ⟨av, hav⟩ : ∃ x, strOfNums m5.all = x := ⟨_, rfl⟩
      have HCT := Lib.hid (show sv ++ tv = av by rw [← hsv, ← htv, ← hav, TM.all, s6_append])
      have HSZ := Lib.hid (show ¬ 9223372036854775807 < sv.size + tv.size by have := HOK.out.len; rw [← hsv, ← htv, strOfNums_size, strOfNums_size]; omega)
      obtain ⟨ls, hls⟩ : ∃ x : Int, (m5.sure.length : Int) = x := ⟨_, rfl⟩
      have zs : (sv.size : Int) = ls := by rw [← hsv, strOfNums_size, hls]
      have HAV := Lib.hid hav
      have HLS := Lib.hid hls
      rw [hsv] at M0
      rw [htv] at M1
      have HBY := Lib.hid (fun w1 (b : BothO R W g gm m5 m5 O5 w1) => HC.out.bytes w1 b.kW g m5 O5 b.r HOK.out)
      have HSU := Lib.hid (fun w1 (b : BothO R W g gm m5 m5 O5 w1) => HC.out.sure w1 b.kW g m5 O5 b.r HOK.out)
      have HRO := Lib.hid (fun w1 (b : BothO R W g gm m5 m5 O5 w1) => HC.out.room w1 b.kW g m5 O5 b.r HOK.out)
      have HOF := Lib.hid (fun w1 (b : BothO R W g gm m5 m5 O5 w1) => HC.out.off w1 b.kW g m5 O5 b.r HOK.out)
      have KB := Lib.hid (fun w1 (k : Kp w5 w1) => B5.out.kp HC.out k)
      clear hsv htv hav hls
      refine wpAnyH_take (i := 6) (v := ?_) rfl (by kernel_rfl) (by kernel_rfl) (by kernel_rfl) (fun _ _ _ h => h) (Or.inl ⟨by rfl, ?_⟩) (by assumption) ?_
      rotate_left
      · intro w hSw; go_simp; try with_reducible rfl
      go_simp
      refine wpAnyH_take (i := 9) (v := ?_) rfl (by kernel_rfl) (by kernel_rfl) (by kernel_rfl) (fun _ _ _ h => h) (Or.inl ⟨by rfl, ?_⟩) (by assumption) ?_
      rotate_left
      · intro w hSw; go_simp; try with_reducible rfl
      go_simp
      refine wpAnyH_take (i := 10) (v := ?_) rfl (by kernel_rfl) (by kernel_rfl) (by kernel_rfl) (fun _ _ _ h => h) (Or.inl ⟨by rfl, ?_⟩) (by assumption) ?_
      rotate_left
      · intro w hSw; go_simp; try with_reducible rfl
      go_simp
      refine wpAnyH_take (i := 11) (v := ?_) rfl (by kernel_rfl) (by kernel_rfl) (by kernel_rfl) (fun _ _ _ h => h) (Or.inl ⟨by rfl, ?_⟩) (by assumption) ?_
      rotate_left
      · intro w hSw; go_simp; try with_reducible rfl
      go_simp
      refine wpAnyH_take (i := 12) (v := ?_) rfl (by kernel_rfl) (by kernel_rfl) (by kernel_rfl) (fun _ _ _ h => h) (Or.inl ⟨by rfl, ?_⟩) (by assumption) ?_
      rotate_left
      · intro w hSw; have q := kp_cell hSw M0; go_simp; try with_reducible rfl
      go_simp
      refine wpAnyH_take (i := 13) (v := ?_) rfl (by kernel_rfl) (by kernel_rfl) (by kernel_rfl) (fun _ _ _ h => h) (Or.inl ⟨by rfl, ?_⟩) (by assumption) ?_
      rotate_left
      · intro w hSw; go_simp; try with_reducible rfl
      go_simp
      refine wpAnyH_take (i := 14) (v := ?_) rfl (by kernel_rfl) (by kernel_rfl) (by kernel_rfl) (fun _ _ _ h => h) (Or.inl ⟨by rfl, ?_⟩) (by assumption) ?_
      rotate_left
      · intro w hSw; go_simp; try with_reducible rfl
      go_simp
      refine wpAnyH_take (i := 15) (v := ?_) rfl (by kernel_rfl) (by kernel_rfl) (by kernel_rfl) (fun _ _ _ h => h) (Or.inl ⟨by rfl, ?_⟩) (by assumption) ?_
      rotate_left
      · intro w hSw; go_simp; try with_reducible rfl
      go_simp
      refine wpAnyH_take (i := 16) (v := ?_) rfl (by kernel_rfl) (by kernel_rfl) (by kernel_rfl) (fun _ _ _ h => h) (Or.inl ⟨by rfl, ?_⟩) (by assumption) ?_
      rotate_left
      · intro w hSw; have q := kp_cell hSw M1; go_simp; try with_reducible rfl
      go_simp
      refine wpAnyH_take (i := 17) (v := ?_) rfl (by kernel_rfl) (by kernel_rfl) (by kernel_rfl) (fun _ _ _ h => h) (Or.inl ⟨by rfl, ?_⟩) (by assumption) ?_
      rotate_left
      · intro w hSw; go_simp; rw [if_neg HSZ.out, HCT.out]; try with_reducible rfl
      go_simp
      refine wpAnyH_ready (rs := [7]) (by kernel_rfl) (by simp) ?_
      refine AllReadyH.cons rfl (fun K hK => ?_) AllReadyH.nil
      go_simp
      go_wp2_with (go_at_call 13; (with_reducible refine (HBY.out _ (KB.out _ hHeld)).mono ?_); rintro e w6 ⟨a6, c6, rfl, hs, hk⟩; have K6 := Lib.hid (Kp.trans hHeld hk); have cv := conv_slb hs; rw [HAV.out] at cv; clear hs hk)
      refine hK.out _ _ ?_ (fun hHeld => ?_)
      · exact K6.out
      clear hK K
      refine wpAnyH_ready (rs := [8]) (by kernel_rfl) (by simp) ?_
      refine AllReadyH.cons rfl (fun K hK => ?_) AllReadyH.nil
      go_simp
      refine hK.out _ _ ?_ (fun hHeld => ?_)
      · exact hHeld
      clear hK K
      refine wpAnyH_take (i := 18) (v := ?_) rfl (by kernel_rfl) (by kernel_rfl) (by kernel_rfl) (fun _ _ _ h => h) (Or.inl ⟨by rfl, ?_⟩) (by assumption) ?_
      rotate_left
      · intro w hSw; go_simp; try with_reducible rfl
      go_simp
      refine wpAnyH_take (i := 19) (v := ?_) rfl (by kernel_rfl) (by kernel_rfl) (by kernel_rfl) (fun _ _ _ h => h) (Or.inl ⟨by rfl, ?_⟩) (by assumption) ?_
      rotate_left
      · intro w hSw; go_simp; try with_reducible rfl
      go_simp
      refine wpAnyH_take (i := 20) (v := ?_) rfl (by kernel_rfl) (by kernel_rfl) (by kernel_rfl) (fun _ _ _ h => h) (Or.inl ⟨by rfl, ?_⟩) (by assumption) ?_
      rotate_left
      · intro w hSw; go_simp; try with_reducible rfl
      go_simp
      refine wpAnyH_take (i := 21) (v := ?_) rfl (by kernel_rfl) (by kernel_rfl) (by kernel_rfl) (fun _ _ _ h => h) (Or.inl ⟨by rfl, ?_⟩) (by assumption) ?_
      rotate_left
      · intro w hSw; go_simp; try with_reducible rfl
      go_simp
      refine wpAnyH_take (i := 23) (v := ?_) rfl (by kernel_rfl) (by kernel_rfl) (by kernel_rfl) (fun _ _ _ h => h) (Or.inl ⟨by rfl, ?_⟩) (by assumption) ?_
      rotate_left
      · intro w hSw; go_simp; try with_reducible rfl
      go_simp
      refine wpAnyH_take (i := 24) (v := ?_) rfl (by kernel_rfl) (by kernel_rfl) (by kernel_rfl) (fun _ _ _ h => h) (Or.inl ⟨by rfl, ?_⟩) (by assumption) ?_
      rotate_left
      · intro w hSw; go_simp; try with_reducible rfl
      go_simp
      refine wpAnyH_take (i := 25) (v := ?_) rfl (by kernel_rfl) (by kernel_rfl) (by kernel_rfl) (fun _ _ _ h => h) (Or.inl ⟨by rfl, ?_⟩) (by assumption) ?_
      rotate_left
      · intro w hSw; go_simp; try with_reducible rfl
      go_simp
      refine wpAnyH_take (i := 26) (v := ?_) rfl (by kernel_rfl) (by kernel_rfl) (by kernel_rfl) (fun _ _ _ h => h) (Or.inl ⟨by rfl, ?_⟩) (by assumption) ?_
      rotate_left
      · intro w hSw; have q := kp_cell hSw M0; go_simp; try with_reducible rfl
      go_simp
      refine wpAnyH_take (i := 27) (v := ?_) rfl (by kernel_rfl) (by kernel_rfl) (by kernel_rfl) (fun _ _ _ h => h) (Or.inl ⟨by rfl, ?_⟩) (by assumption) ?_
      rotate_left
      · intro w hSw; go_simp; try with_reducible rfl
      go_simp
      refine wpAnyH_ready (rs := [22]) (by kernel_rfl) (by simp) ?_
      refine AllReadyH.cons rfl (fun K hK => ?_) AllReadyH.nil
      go_simp
      go_wp2_with (go_at_call 14; (with_reducible refine (HSU.out _ (KB.out _ hHeld)).mono ?_); rintro e w7 ⟨rfl, hk⟩; rw [HLS.out]; have K7 := Lib.hid (Kp.trans hHeld hk); clear hk)
      refine hK.out _ _ ?_ (fun hHeld => ?_)
      · exact K7.out
      clear hK K
      refine wpAnyH_take (i := 28) (v := ?_) rfl (by kernel_rfl) (by kernel_rfl) (by kernel_rfl) (fun _ _ _ h => h) (Or.inl ⟨by rfl, ?_⟩) (by assumption) ?_
      rotate_left
      · intro w hSw; go_simp; try with_reducible rfl
      go_simp
      refine wpAnyH_take (i := 29) (v := ?_) rfl (by kernel_rfl) (by kernel_rfl) (by kernel_rfl) (fun _ _ _ h => h) (Or.inl ⟨by rfl, ?_⟩) (by assumption) ?_
      rotate_left
      · intro w hSw; go_simp; try with_reducible rfl
      go_simp
      refine wpAnyH_take (i := 30) (v := ?_) rfl (by kernel_rfl) (by kernel_rfl) (by kernel_rfl) (fun _ _ _ h => h) (Or.inl ⟨by rfl, ?_⟩) (by assumption) ?_
      rotate_left
      · intro w hSw; go_simp; try with_reducible rfl
      go_simp
      refine wpAnyH_take (i := 31) (v := ?_) rfl (by kernel_rfl) (by kernel_rfl) (by kernel_rfl) (fun _ _ _ h => h) (Or.inl ⟨by rfl, ?_⟩) (by assumption) ?_
      rotate_left
      · intro w hSw; go_simp; try with_reducible rfl
      go_simp
      refine wpAnyH_take (i := 33) (v := ?_) rfl (by kernel_rfl) (by kernel_rfl) (by kernel_rfl) (fun _ _ _ h => h) (Or.inl ⟨by rfl, ?_⟩) (by assumption) ?_
      rotate_left
      · intro w hSw; go_simp; try with_reducible rfl
      go_simp
      refine wpAnyH_take (i := 34) (v := ?_) rfl (by kernel_rfl) (by kernel_rfl) (by kernel_rfl) (fun _ _ _ h => h) (Or.inl ⟨by rfl, ?_⟩) (by assumption) ?_
      rotate_left
      · intro w hSw; go_simp; try with_reducible rfl
      go_simp
      refine wpAnyH_take (i := 35) (v := ?_) rfl (by kernel_rfl) (by kernel_rfl) (by kernel_rfl) (fun _ _ _ h => h) (Or.inl ⟨by rfl, ?_⟩) (by assumption) ?_
      rotate_left
      · intro w hSw; go_simp; try with_reducible rfl
      go_simp
      refine wpAnyH_take (i := 36) (v := ?_) rfl (by kernel_rfl) (by kernel_rfl) (by kernel_rfl) (fun _ _ _ h => h) (Or.inl ⟨by rfl, ?_⟩) (by assumption) ?_
      rotate_left
      · intro w hSw; have q := kp_cell hSw M2; go_simp; try with_reducible rfl
      go_simp
      refine wpAnyH_ready (rs := [32]) (by kernel_rfl) (by simp) ?_
      refine AllReadyH.cons rfl (fun K hK => ?_) AllReadyH.nil
      go_simp
      go_wp2_with (go_at_call 15; (with_reducible refine (HRO.out _ (KB.out _ hHeld)).mono ?_); rintro e w8 ⟨rfl, hk⟩; have K8 := Lib.hid (Kp.trans hHeld hk); clear hk)
      refine hK.out _ _ ?_ (fun hHeld => ?_)
      · exact K8.out
      clear hK K
      refine wpAnyH_take (i := 37) (v := ?_) rfl (by kernel_rfl) (by kernel_rfl) (by kernel_rfl) (fun _ _ _ h => h) (Or.inl ⟨by rfl, ?_⟩) (by assumption) ?_
      rotate_left
      · intro w hSw; go_simp; try with_reducible rfl
      go_simp
      refine wpAnyH_take (i := 38) (v := ?_) rfl (by kernel_rfl) (by kernel_rfl) (by kernel_rfl) (fun _ _ _ h => h) (Or.inl ⟨by rfl, ?_⟩) (by assumption) ?_
      rotate_left
      · intro w hSw; go_simp; try with_reducible rfl
      go_simp
      refine wpAnyH_take (i := 39) (v := ?_) rfl (by kernel_rfl) (by kernel_rfl) (by kernel_rfl) (fun _ _ _ h => h) (Or.inl ⟨by rfl, ?_⟩) (by assumption) ?_
      rotate_left
      · intro w hSw; go_simp; try with_reducible rfl
      go_simp
      refine wpAnyH_take (i := 40) (v := ?_) rfl (by kernel_rfl) (by kernel_rfl) (by kernel_rfl) (fun _ _ _ h => h) (Or.inl ⟨by rfl, ?_⟩) (by assumption) ?_
      rotate_left
      · intro w hSw; go_simp; try with_reducible rfl
      go_simp
      refine wpAnyH_take (i := 41) (v := ?_) rfl (by kernel_rfl) (by kernel_rfl) (by kernel_rfl) (fun _ _ _ h => h) (Or.inl ⟨by rfl, ?_⟩) (by assumption) ?_
      rotate_left
      · intro w hSw; go_simp; try with_reducible rfl
      go_simp
      refine wpAnyH_take (i := 42) (v := ?_) rfl (by kernel_rfl) (by kernel_rfl) (by kernel_rfl) (fun _ _ _ h => h) (Or.inl ⟨by rfl, ?_⟩) (by assumption) ?_
      rotate_left
      · intro w hSw; go_simp; try with_reducible rfl
      go_simp
      refine wpAnyH_take (i := 44) (v := ?_) rfl (by kernel_rfl) (by kernel_rfl) (by kernel_rfl) (fun _ _ _ h => h) (Or.inl ⟨by rfl, ?_⟩) (by assumption) ?_
      rotate_left
      · intro w hSw; go_simp; try with_reducible rfl
      go_simp
      refine wpAnyH_take (i := 45) (v := ?_) rfl (by kernel_rfl) (by kernel_rfl) (by kernel_rfl) (fun _ _ _ h => h) (Or.inl ⟨by rfl, ?_⟩) (by assumption) ?_
      rotate_left
      · intro w hSw; go_simp; try with_reducible rfl
      go_simp
      refine wpAnyH_take (i := 46) (v := ?_) rfl (by kernel_rfl) (by kernel_rfl) (by kernel_rfl) (fun _ _ _ h => h) (Or.inl ⟨by rfl, ?_⟩) (by assumption) ?_
      rotate_left
      · intro w hSw; go_simp; try with_reducible rfl
      go_simp
      refine wpAnyH_take (i := 47) (v := ?_) rfl (by kernel_rfl) (by kernel_rfl) (by kernel_rfl) (fun _ _ _ h => h) (Or.inl ⟨by rfl, ?_⟩) (by assumption) ?_
      rotate_left
      · intro w hSw; have q := kp_cell hSw M4; go_simp; try with_reducible rfl
      go_simp
      refine wpAnyH_ready (rs := [43]) (by kernel_rfl) (by simp) ?_
      refine AllReadyH.cons rfl (fun K hK => ?_) AllReadyH.nil
      go_simp
      go_wp2_with (go_at_call 16; (with_reducible refine (HOF.out _ (KB.out _ hHeld)).mono ?_); rintro e w9 ⟨rfl, hk⟩; have K9 := Lib.hid (Kp.trans hHeld hk); clear hk)
      refine hK.out _ _ ?_ (fun hHeld => ?_)
      · exact K9.out
      clear hK K
      refine wpAnyH_take (i := 48) (v := ?_) rfl (by kernel_rfl) (by kernel_rfl) (by kernel_rfl) (fun _ _ _ h => h) (Or.inl ⟨by rfl, ?_⟩) (by assumption) ?_
      rotate_left
      · intro w hSw; go_simp; try with_reducible rfl
      go_simp
      refine wpAnyH_take (i := 49) (v := ?_) rfl (by kernel_rfl) (by kernel_rfl) (by kernel_rfl) (fun _ _ _ h => h) (Or.inl ⟨by rfl, ?_⟩) (by assumption) ?_
      rotate_left
      · intro w hSw; go_simp; try with_reducible rfl
      go_simp
      refine wpAnyH_done (by kernel_rfl) ?_ _
      go_wp2
      have hj1 : (j : Int) = jj := HJ.out
      have hlt1 : j < m := HLT.out
      refine ⟨⟨j + 1, hlt1, ?_, m5, HOK.out, O5, KB.out _ hHeld⟩, ?_⟩
      · rw [← hj1]; rfl
      · simp [intOf]; omega
    · have hjl : ¬ jj < L := by omega
      clear hb hkW hjj hj hlt hLL hok
      go_wp2
      go_ret
      exact ⟨rfl, BR.out.kW⟩

theorem plays_any (C : TapC ads W R) (V : St ads W) (room : Int) (r0 : -9223372036854775808 ≤ room) (r1 : room ≤ 9223372036854775807) (v : Value) (os : List OpL) (hs : SlO v os W) :
    Calls Tryd.prog 3 #[.int .i64 room, v] W fun e w' => e = .returned (.bool true) ∧ Kp W w' := by
  by_cases hl : Lg os
  · have HL : ∀ w1, Kp W w1 → Calls Tryd.prog 8 #[v] w1 fun e w' => e = .returned (.bool false) ∧ Kp w1 w' := fun w1 hk => (long_any v os w1 (hs.kp hk)).mono (by
      rintro e w' ⟨⟨h, _⟩ | ⟨_, h⟩, hk⟩
      · exact absurd hl h
      · exact ⟨h, hk⟩)
    by_cases hr : 0 ≤ room ∧ room ≤ 65536
    · obtain ⟨a, cap, rfl, hel⟩ := hs
      exact plays_in C V room hr.1 hr.2 a cap os os.length rfl hel hl.1 hl.2 HL
    · exact plays_out C V room r0 r1 (by omega) v HL
  · exact plays_long C room v fun w1 hk => (long_any v os w1 (hs.kp hk)).mono (by
      rintro e w' ⟨⟨_, h⟩ | ⟨h, _⟩, hk⟩
      · exact ⟨h, hk⟩
      · exact absurd h hl)
end Go.Proofs.YtjgakdcjkddpiaaDoor
