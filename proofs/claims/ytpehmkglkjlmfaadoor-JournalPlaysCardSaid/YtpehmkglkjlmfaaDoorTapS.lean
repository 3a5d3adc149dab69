/-
  A TAPE's CODE KEEPS ITS CONTRACTS: New, Swap, Cut (own work).
-/
import Derived.Test.YtpehmkglkjlmfaaDoorTapQ
namespace Go.Proofs.YtpehmkglkjlmfaaDoor
open Go.RowKit Go.ChangeShapes Go.WideShapes
variable {B g : Nat} {m m' : TM} {O : Nat → Prop} {w w' : World} {v v' : Value}

set_option maxRecDepth 20000 in
theorem tap_new (ads : List Addr) (hB : B ≤ w.heap.size) (c1 : ∀ w', Kp w w' → w'.cell? ⟨1, 0, none⟩ = some (errI ads 1)) (r : Int) (r0 : 0 ≤ r) (r1 : r ≤ 65536) :
    Calls Tryd.prog 10 #[.int .i64 r] w fun e w' => ∃ g O, e = .returned (.tuple #[.pointer (some ⟨g, 0, none⟩), .nilIface]) ∧ TapR B g (newM r) O w' ∧ (∀ b, O b → w.heap.size ≤ b) ∧ Kp w w' := by
  have HB := Lib.hid hB
  have HK := Lib.hid (show Kp w (w.alloc (.cells #[.bool false, .bool false, .int .i64 0, .slice none 0 0, .int .i64 0, .int .i64 0] 72 (0, 0))) from Below.alloc (Kp.refl _) (Nat.le_refl _) _)
  have HSR := tap_setRoom0 (w := (w.alloc (.cells #[.bool false, .bool false, .int .i64 0, .slice none 0 0, .int .i64 0, .int .i64 0] 72 (0, 0)))) (g := w.heap.size) (v := .slice none 0 0) (m := newM 0) ads ((heap_alloc_new _ _).trans rfl) (c1 _ HK.out) r (by omega) (by omega)
  have e : roomM (newM 0) r = (0, newM r) := by unfold roomM newM; rw [if_pos ⟨r0, r1⟩]
  simp only [e, errI_nil] at HSR
  have HSR := Lib.hid HSR
  clear hB c1 e r0 r1
  go_enter Tryd.func10, Tryd.ntmps10
  go_wp2_with (go_at_call 32; (with_reducible refine HSR.out.mono ?_); rintro e w2 ⟨rfl, ht, ho⟩; have T2 := Lib.hid ht; have O2 := Lib.hid ho; clear ht ho)
  go_ret2
  have fin : TapR B w.heap.size (newM r) (fun b => b = w.heap.size) w2 ∧ (∀ b, b = w.heap.size → w.heap.size ≤ b) ∧ Kp w w2 :=
    ⟨⟨.slice none 0 0, T2.out, World.ownsRow_nil _ _ _ _, fun b => by simp [Value.ownBlock], by simp [Value.ownBlock], HB.out⟩, fun b hb => Nat.le_of_eq hb.symm, O2.out.kp HK.out (fun b hb => Nat.le_of_eq hb.symm)⟩
  first
    | exact ⟨w.heap.size, rfl, fun b => b = w.heap.size, fin⟩
    | exact ⟨w.heap.size, fun b => b = w.heap.size, rfl, fin⟩
    | exact ⟨w.heap.size, fun b => b = w.heap.size, ⟨rfl, rfl⟩, fin⟩
    | exact ⟨w.heap.size, fun b => b = w.heap.size, fin⟩

set_option maxRecDepth 20000 in
theorem tap_new_no (ads : List Addr) (c1 : ∀ w', Kp w w' → w'.cell? ⟨1, 0, none⟩ = some (errI ads 1)) (r : Int) (hr : r < 0 ∨ 65536 < r) (n0 : -9223372036854775808 ≤ r) (n1 : r ≤ 9223372036854775807) :
    Calls Tryd.prog 10 #[.int .i64 r] w fun e w' => e = .returned (.tuple #[.pointer none, errI ads 1]) ∧ Kp w w' := by
  have HK := Lib.hid (show Kp w (w.alloc (.cells #[.bool false, .bool false, .int .i64 0, .slice none 0 0, .int .i64 0, .int .i64 0] 72 (0, 0))) from Below.alloc (Kp.refl _) (Nat.le_refl _) _)
  have HSR := tap_setRoom0 (w := (w.alloc (.cells #[.bool false, .bool false, .int .i64 0, .slice none 0 0, .int .i64 0, .int .i64 0] 72 (0, 0)))) (g := w.heap.size) (v := .slice none 0 0) (m := newM 0) ads ((heap_alloc_new _ _).trans rfl) (c1 _ HK.out) r n0 n1
  have e : roomM (newM 0) r = (1, newM 0) := by unfold roomM; rw [if_neg (by omega)]
  obtain ⟨o1, ho1⟩ := errI_iface ads 1 (by decide)
  simp only [e, ho1] at HSR
  rw [ho1]
  have HSR := Lib.hid HSR
  clear c1 e hr n0 n1 ho1
  go_enter Tryd.func10, Tryd.ntmps10
  go_wp2_with (go_at_call 32; (with_reducible refine HSR.out.mono ?_); rintro e w2 ⟨rfl, ht, ho⟩; have O2 := Lib.hid ho; clear ht ho)
  go_ret2
  exact ⟨rfl, O2.out.kp HK.out (fun b hb => Nat.le_of_eq hb.symm)⟩

set_option maxRecDepth 20000 in
set_option maxHeartbeats 4000000 in
theorem tap_swap (ads : List Addr) (h1 : TaC g v m w) (h2 : w.ownsRow B 5 1 v m.all.length (m.all.map (Value.int .u8))) (hO : ∀ b, O b ↔ b = g ∨ v.ownBlock = some b) (hne : v.ownBlock ≠ some g) (hB : B ≤ g) (hm : Mok m) (c6 : w.cell? ⟨5, 0, none⟩ = some (errI ads 6)) (c7 : ∀ w', On g w w' → w'.cell? ⟨6, 0, none⟩ = some (errI ads 7))
    (a : Option Addr) (n c : Nat) (bs : List Int) (hs : SlB (.slice a n c) bs w) (hn : bs.length = n) (hl : n ≤ 100000) (hno : 0 < n → ∀ ad, a = some ad → ¬ O ad.block) :
    Calls Tryd.prog 57 #[.pointer (some ⟨g, 0, none⟩), .slice a n c] w fun e w' => e = .returned (errI ads (swapM m bs).1) ∧ ∃ O', TapR B g (swapM m bs).2 O' w' ∧ Asd O O' w w' := by
  have c5 := h1.c5
  have r0 := hm.r0
  have r1 := hm.r1
  obtain ⟨rr, hrr⟩ : ∃ x, m.room = x := ⟨_, rfl⟩
  obtain ⟨nn, hnn⟩ : ∃ x : Int, (n : Int) = x := ⟨_, rfl⟩
  rw [hrr] at c5 r0 r1
  have HH := Lib.hid h1
  have H2 := Lib.hid h2
  have HO := Lib.hid hO
  have HNE := Lib.hid hne
  have HS := Lib.hid hs
  have HNO := Lib.hid hno
  have HST := tap_step ads hm h1 c7
  have x2 : 0 ≤ nn ∧ nn ≤ 100000 := by omega
  have hgl : g < w.heap.size := old_of_row h1
  obtain ⟨es, et, er⟩ := stepM_same m
  by_cases hf : rr < nn
  · have e : swapM m bs = (6, m) := by unfold swapM; rw [if_pos (by rw [hrr, hn]; omega)]
    rw [e]
    have hg : nn > rr := hf
    obtain ⟨e6, he6⟩ : ∃ x, errI ads 6 = x := ⟨_, rfl⟩
    rw [he6] at c6
    dsimp only
    rw [he6]
    clear e hf h1 h2 hm hs hno hrr c7 HST he6 hO hne hn es et er
    go_enter Tryd.func57, Tryd.ntmps57
    go_wp2
    go_ret
    exact ⟨rfl, tap_on H2.out HO.out HNE.out hB HH.out rfl (On.refl _ _)⟩
  · have hg : ¬ nn > rr := hf
    have hnf : ¬ m.room < (bs.length : Int) := by rw [hrr, hn]; omega
    rcases stepM_two m with hk | hk
    · have e : swapM m bs = (0, { (stepM m).2 with sure := bs, tail := [] }) := by unfold swapM; rw [if_neg hnf, if_pos hk]
      rw [e]
      have HA2 := Lib.hid (show TM.all { (stepM m).2 with sure := bs, tail := [] } = bs by unfold TM.all; dsimp only; rw [List.append_nil])
      have HN := Lib.hid hn
      have HGL := Lib.hid hgl
      simp only [hk, errI_nil] at HST
      have HST := Lib.hid HST
      have HCL := Lib.hid (fun w1 (q : SlB (.slice a n c) bs w1) => clone_any (.slice a n c) bs (by omega) w1 q)
      have HSE := Lib.hid (fun w2 a2 c2 (t : TaC g v (stepM m).2 w2) => tap_settle (m' := { (stepM m).2 with sure := bs, tail := [] }) t a2 n c2 hn rfl rfl rfl)
      dsimp only
      rw [errI_nil]
      clear e hf h1 h2 hm hs hno hrr c7 c6 hO hne hnf hk es et er hn hgl
      go_enter Tryd.func57, Tryd.ntmps57
      go_wp2_with (first
        | (go_at_call 53; (with_reducible refine HST.out.mono ?_); rintro e w2 ⟨rfl, ht2, ho2⟩; have T2 := Lib.hid ht2; have O2 := Lib.hid ho2; have d3 := ht2.c3; have SL := Lib.hid (slb_on HS.out O2.out (fun p ad q e => HNO.out p ad q ((HO.out _).2 (.inl e)))); clear ht2 ho2)
        | (go_at_call 46; (with_reducible refine (HCL.out _ SL.out).mono ?_); rintro e w3 ⟨v2, rfl, hown, hk⟩; rw [HN.out] at hown; have OW := Lib.hid hown; have K3 := Lib.hid hk; have T3 := Lib.hid (show TaC g v (stepM m).2 w3 from kp_row hk T2.out); have HV : ∃ a2 c2, v2 = .slice a2 n c2 := (by rcases hown.2 with ⟨rfl, q⟩ | ⟨gb, cap, cur, rfl, _⟩; exact ⟨none, 0, by rw [q]⟩; exact ⟨_, _, rfl⟩); obtain ⟨a2, c2, rfl⟩ := HV; clear hown hk)
        | (go_at_call 54; (with_reducible refine (HSE.out _ _ _ T3.out).mono ?_); rintro e w4 ⟨rfl, ht4, ho4⟩; have T4 := Lib.hid ht4; have O4 := Lib.hid ho4; clear ht4 ho4))
      go_ret
      have hg2 : g < w2.heap.size := Nat.lt_of_lt_of_le HGL.out O2.out.size
      have hnew : ∀ b, (Value.slice a2 n c2).ownBlock = some b → w2.heap.size ≤ b := fun b hb => own_blk OW.out hb
      have hne2 : (Value.slice a2 n c2).ownBlock ≠ some g := fun q => by have := hnew g q; omega
      have hmono : B ≤ w2.heap.size := by omega
      refine ⟨rfl, tap_upd HO.out hB T4.out ?_ (fun b q => .inr (Nat.le_trans O2.out.size (hnew b q))) hne2 ?_⟩
      · rw [HA2.out, HN.out]
        exact own_mono (own_stay OW.out (fun b hb => O4.out.block b (own_lt OW.out hb) (fun q => hne2 (by rw [← q]; exact hb)))) hmono
      · refine ⟨O4.out.os.trans (K3.out.os.trans O2.out.os), O4.out.tape.trans (K3.out.tape.trans O2.out.tape), O4.out.output.trans (K3.out.output.trans O2.out.output), Nat.le_trans O2.out.size (Nat.le_trans (Below.size K3.out) O4.out.size), fun b hb hn => ?_, fun b hb => .inl hb⟩
        have hbg : b ≠ g := fun q => hn ((HO.out b).2 (.inl q))
        have b2 : b < w2.heap.size := Nat.lt_of_lt_of_le hb O2.out.size
        rw [O4.out.block b (Nat.lt_of_lt_of_le b2 (Below.size K3.out)) hbg, Below.block K3.out b b2]
        exact O2.out.block b hb hbg
    · have e : swapM m bs = stepM m := by unfold swapM; rw [if_neg hnf, if_neg (by rw [hk]; decide)]
      rw [e]
      have HA2 := Lib.hid (show TM.all (stepM m).2 = m.all by unfold TM.all; rw [es, et])
      obtain ⟨o7, ho7⟩ := errI_iface ads 7 (by decide)
      simp only [hk, ho7] at HST ⊢
      have HST := Lib.hid HST
      clear e hf h1 h2 hm hs hno hrr c7 c6 hO hne hnf hk es et er ho7 hn
      go_enter Tryd.func57, Tryd.ntmps57
      go_wp2_with (go_at_call 53; (with_reducible refine HST.out.mono ?_); rintro e w2 ⟨rfl, ht2, ho2⟩; have T2 := Lib.hid ht2; have O2 := Lib.hid ho2; clear ht2 ho2)
      go_ret
      exact ⟨rfl, tap_on H2.out HO.out HNE.out hB T2.out HA2.out O2.out⟩
end Go.Proofs.YtpehmkglkjlmfaaDoor
