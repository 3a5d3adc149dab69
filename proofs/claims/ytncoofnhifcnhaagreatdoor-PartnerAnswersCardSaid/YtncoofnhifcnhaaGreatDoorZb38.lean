/-
 PartnerAnswers: for every node, every list of facts and every message, all that a participant sends is right, from its node to its activity's, or back to who asked. Condition: package api's errors and strconv's table of powers hold what their declarations lay.
-/
import Derived.Test.YtncoofnhifcnhaaGreatDoorZb36
import Derived.Test.YtncoofnhifcnhaaGreatDoorCards
import Derived.Test.YtncoofnhifcnhaaGreatDoorTie
import Derived.Lay
set_option maxRecDepth 100000
set_option maxHeartbeats 40000000
namespace Go.Proofs.YtncoofnhifcnhaaGreatDoor
open Go.RowKit
def sendOk (z : SeatM) (k : Int) : Bool :=
 z.right == false || (((z.tell k).2.send == 0 || upM (z.tell k).2.send) && decide (0 ≤ (z.tell k).2.fault ∧ (z.tell k).2.fault ≤ 5))
theorem send_all : seatsL.all (fun z => kindsL.all (sendOk z)) = true := by decide +kernel
def waitOk (z : SeatM) : Bool := z.right == false || (waitT 2 z.s == 0 || upM (waitT 2 z.s))
theorem wait_all : seatsL.all waitOk = true := by decide +kernel
theorem send_ok {z : SeatM} {k : Int} (h : OkZ z 2) (hk : 1 ≤ k ∧ k ≤ 14) : ((z.tell k).2.send ≠ 0 → upM (z.tell k).2.send = true) ∧ 0 ≤ (z.tell k).2.fault ∧ (z.tell k).2.fault ≤ 5 := by
 have h1 := List.all_eq_true.1 send_all z (seats_in h.1 h.2); have h2 := List.all_eq_true.1 h1 k (kinds_in hk); unfold sendOk at h2; rw [h.1] at h2; simp only [Bool.or_eq_true, Bool.and_eq_true, beq_iff_eq, Bool.true_eq_false, false_or, decide_eq_true_eq] at h2
 refine ⟨fun hs => ?_, h2.2⟩
 rcases h2.1 with h3 | h3
 ·exact absurd h3 hs
 ·exact h3
theorem wait_ok {z : SeatM} (h : OkZ z 2) (hw : waitT 2 z.s ≠ 0) : upM (waitT 2 z.s) = true := by
 have h1 := List.all_eq_true.1 wait_all z (seats_in h.1 h.2); unfold waitOk at h1; rw [h.1] at h1; simp only [Bool.or_eq_true, beq_iff_eq, Bool.true_eq_false, false_or] at h1
 rcases h1 with h1 | h1
 ·exact absurd h1 hw
 ·exact h1
theorem up_kind {k : Int} (h : upM k = true) : 1 ≤ k ∧ k ≤ 8 := by
 unfold upM at h; have := of_decide_eq_true h; omega
theorem right_partsP {g : MM} (h : rightM g = true) : 0 ≤ g.f ∧ g.f ≤ 3 ∧ 0 ≤ g.t ∧ g.t ≤ 3 ∧ rightA g.n g.s = true ∧ 0 ≤ g.r ∧ g.r ≤ 5 ∧ 0 ≤ g.p ∧ g.p ≤ 7 := by
 unfold rightM at h; simp only [Bool.and_eq_true, decide_eq_true_eq] at h
 obtain ⟨⟨⟨h1, h2⟩, h3⟩, _⟩ := h; exact ⟨h1.2.2.1, h1.2.2.2.1, h1.2.2.2.2.1, h1.2.2.2.2.2, h2, h3.1, h3.2.1, h3.2.2.1, h3.2.2.2⟩
theorem right_up {k f t n s r p : Int} (hk : upM k = true) (hf : 0 ≤ f ∧ f ≤ 3) (ht : 0 ≤ t ∧ t ≤ 3) (ha : rightA n s = true) (hr : 0 ≤ r ∧ r ≤ 5) (hp : 0 ≤ p ∧ p ≤ 7) : rightM ⟨k, f, t, n, s, r, p, 0, 0⟩ = true := by
 have := up_kind hk; unfold rightM; dsimp only; rw [if_neg (by omega), if_neg (by omega), if_neg (by omega), if_neg (by omega), ha]
 simp
 omega
theorem right_fault {g : MM} {c : Int} (h : rightM g = true) (hc : 1 ≤ c ∧ c ≤ 5) : rightM (answerM g 19 c) = true := by
 obtain ⟨a1, a2, a3, a4, a5, a6, a7, a8, a9⟩ := right_partsP h; unfold answerM rightM; dsimp only; rw [if_neg (by omega), if_neg (by omega), if_pos rfl, a5]
 simp
 omega
theorem right_status {g : MM} {c : Int} (h : rightM g = true) (hc : 1 ≤ c ∧ c ≤ 14) : rightM (answerM g 16 c) = true := by
 obtain ⟨a1, a2, a3, a4, a5, a6, a7, a8, a9⟩ := right_partsP h; unfold answerM rightM; dsimp only; rw [if_neg (by omega), if_neg (by omega), if_neg (by omega), if_pos rfl, a5]
 simp
 omega
theorem okz_state {z : SeatM} (h : OkZ z 2) : 1 ≤ z.s ∧ z.s ≤ 14 := by
 have h1 := h.1; unfold SeatM.right at h1; simp only [Bool.and_eq_true] at h1
 have h2 := h1.1.2; unfold hasT at h2
 split at h2
 ·omega
 ·split at h2
  ·omega
  ·exact of_decide_eq_true h2
def BackP (nd : Int) (g y : MM) : Prop := rightM y = true ∧ y.f = nd ∧ y.t = g.f ∧ y.n = g.n ∧ y.s = g.s ∧ y.p = g.p
theorem tell_send {m : StM} (ok : OkS m) (g : MM) (hg : rightM g = true) (ht : g.t = m.node) : ∀ y ∈ (tellP m g).send, BackP m.node g y := by
 have hA : ∀ c, 1 ≤ c ∧ c ≤ 5 → BackP m.node g (answerM g 19 c) := fun c hc => ⟨right_fault hg hc, ht, rfl, rfl, rfl, rfl⟩
 have one : ∀ (z : MM), BackP m.node g z → ∀ y ∈ [z], BackP m.node g y := fun z hz y hy => by
  obtain rfl := List.mem_singleton.1 hy; exact hz
 have no : ∀ y ∈ ([] : List MM), BackP m.node g y := fun y hy => by cases hy
 unfold tellP
 split
 ·split <;> exact no
 split
 ·split
  ·split <;> exact no
  ·exact no
 split
 ·split
  ·rename_i x hx
   obtain ⟨h1, _⟩ := fits_some hx; have hz := (prt_le ok h1).2.2.2.2.2; exact one _ ⟨right_status hg (okz_state hz), ht, rfl, rfl, rfl, rfl⟩
  ·exact one _ (hA 3 (by omega))
 split
 ·exact no
 ·rename_i hd
  have hk : downM g.k = true := by
   cases hq : downM g.k with
   | true => rfl
   | false => exact absurd hq hd
  split
  ·exact one _ (hA 3 (by omega))
  ·rename_i x hx
   split
   ·exact no
   ·obtain ⟨h1, a, b, c, d, _⟩ := fits_some hx; have hz := (prt_le ok h1).2.2.2.2.2; obtain ⟨s1, s2, s3⟩ := send_ok hz (down_in hk); obtain ⟨a1, a2, a3, a4, a5, a6, a7, a8, a9⟩ := right_partsP hg; unfold seatP; dsimp only; intro y hy
    rcases List.mem_append.1 hy with hy | hy
    ·split at hy
     ·rename_i hn
      obtain rfl := List.mem_singleton.1 hy; unfold msgP; refine ⟨right_up (s1 hn) (by omega) (by omega) (by rw [a, b]; exact a5) ⟨a6, a7⟩ ⟨a8, a9⟩, rfl, by dsimp only; omega, a, b, rfl⟩
     ·cases hy
    ·split at hy
     ·rename_i hn
      obtain rfl := List.mem_singleton.1 hy; exact hA _ (by omega)
     ·cases hy
theorem again_right {m : StM} (ok : OkS m) (i : Int) {x : PaM} (hx : prtP m i = some x) {y : MM} (h : againP m i = some y) : rightM y = true ∧ y.f = m.node ∧ y.t = x.n ∧ y.p = i ∧ y.n = x.n ∧ y.s = x.s := by
 obtain ⟨h0, h7, hA, hr1, hr5, hz⟩ := prt_le ok hx; have hn : 0 ≤ x.n ∧ x.n ≤ 3 := by
  have := hA; unfold rightA at this; have := of_decide_eq_true this; omega
 have hnd := ok.n; unfold againP at h; rw [hx] at h; dsimp only at h
 split at h
 ·split at h
  ·cases h
  ·obtain rfl := Option.some.inj h; refine ⟨?_, rfl, rfl, rfl, rfl, rfl⟩
   have hp := hz.p; unfold regiP rightM; dsimp only; rw [if_pos rfl, hA]
   simp
   omega
 ·split at h
  ·cases h
  ·rename_i hw
   obtain rfl := Option.some.inj h; unfold msgP; exact ⟨right_up (wait_ok hz hw) hnd hn hA ⟨by omega, hr5⟩ ⟨h0, h7⟩, rfl, rfl, rfl, rfl, rfl⟩
open Go.RowKit Go.ChangeShapes Go.WideShapes
variable {w0 w w' W w3 : World} {B q : Nat} {m : StM} {ads : List Addr}
theorem act_neq16 (n s : Int) (w : World) : (binOp .neq 24 (.agg #[n, s]) (.agg #[n, s])).run Tryz.prog w = .ok (.bool false) w := by
 have ha : Tryz.prog.stoodInHeld 24 = false := by kernel_rfl
 rw [run_neq_struct, show (10000 : Nat) = 9999 + 1 from rfl, run_equalIn_agg w 9999 24 _ _ act_fields9 ha]
 simp [Program.fieldsOf, Tryz.underlying24, Op.eqFields, part, go_sem]
theorem SL.parts (h : SL B q m w) (ok : OkS m) (np : Nat) (hnp : m.parts.length = np) : Calls Tryz.prog 25 #[.pointer (some ⟨q, 0, none⟩)] w fun r w' => ∃ (a2 : Option Addr) (c2 : Nat), r = .returned (.slice a2 np c2) ∧ w'.ownsRow w.heap.size 71 7 (.slice a2 np c2) np (paE.row m.parts) ∧ Kp w w' := by
 obtain ⟨gs, va, vp, H⟩ := h; exact same_parts H ok np hnp
theorem answers16_any (V : St ads w) (TT : Tab w) (C : FacC ads w) (E : EP [0, 3, 4, 8, 13] ads w) (P : ParC ads w) (nd : Int) (v : Value) (lst : List FX) (hs : SlFc v lst w) (gk gf gt gn gs gr gp go gc : Int) : Calls Tryz.prog 7 #[.int .i64 nd, v, .agg #[gk, gf, gt, gn, gs, gr, gp, go, gc]] w fun r w' => r = .returned (.bool true) ∧ Kp w w' := by
 obtain ⟨a, cap, rfl, _⟩ := id hs; obtain ⟨n, hn⟩ : ∃ n, lst.length = n := ⟨_, rfl⟩
 rw [hn] at hs ⊢; have kb := kA w (.cells #[gk, gf, gt, gn, gs, gr, gp, go, gc] 26); have HAL := hD (alive16_any (C.kp kb) (E.kp kb) (P.kp kb)); have KB := hD kb
 by_cases hin : inN nd ∧ n ≤ 60
 rotate_left
 ·have HBN := hD (fun w1 (hk : Kp w w1) => built_no (E.kp hk) nd a n cap (by by_cases h : inN nd; exact .inr (Nat.lt_of_not_le (fun e => hin ⟨h, e⟩)); exact .inl h)); have hsf := sF; clear V C E P hs hn hin kb TT; go_enter Tryz.func7, Tryz.ntmps7; go_wp2_with (first | (go_at_call 8; (with_reducible refine HAL.out.mono ?_); rintro e' w1 ⟨rfl, hk1⟩; have K1 := hD (kT KB.out hk1); clear hk1) | (go_at_call 9; (with_reducible refine (HBN.out _ K1.out).mono ?_); rintro e' w2 ⟨rfl, hk2⟩; have K2 := hD (kT K1.out hk2); clear hk2))
  go_ret; exact ⟨rfl, K2.out⟩
 obtain ⟨hin, h60⟩ := hin; have HBU := hD (fun w1 (hk : Kp w w1) => by have := built_any (C.kp hk) (E.kp hk) nd _ lst hin (by omega) (by rw [← hn] at hs; exact hs.kp hk); rw [hn] at this; exact this); have HOK := hD (bld_ok lst (newSt_ok hin)); obtain ⟨m, hm⟩ : ∃ m, bldM (newSt nd) lst = m := ⟨_, rfl⟩
 have hnd : m.node = nd := by rw [← hm]; exact bld_node lst (newSt nd)
 rw [hm] at HBU HOK; obtain ⟨HV, HC, HE, HP⟩ := hD4 V C E P; have hsf := sF; have RBX0 := hD (mH w (.cells #[gk, gf, gt, gn, gs, gr, gp, go, gc] 26)); have hri := fun w1 (hk : Kp w w1) => letRight_any ads (⟨gk, gf, gt, gn, gs, gr, gp, go, gc⟩ : MM) w1 (V.below hk) (TT.kp hk)
 have hne : ∀ x : Int, (x != x) = false := fun x => by simp
 obtain ⟨rt, hrt⟩ : ∃ x, rightM (⟨gk, gf, gt, gn, gs, gr, gp, go, gc⟩ : MM) = x := ⟨_, rfl⟩
 rw [hrt] at hri; dsimp only [MM.cells] at hri; have HRI := hD hri
 by_cases hgo : rt = true ∧ gt = nd
 rotate_left
 ·have hrr : rt = false ∨ (rt = true ∧ (gt != nd) = true) := by
   cases rt with
   | false => exact .inl rfl
   | true => exact .inr ⟨rfl, by simpa using fun e => hgo ⟨rfl, e⟩⟩
  clear V TT C E P hs hn hin h60 kb hm hnd hri hrt hgo
  rcases hrr with rfl | ⟨rfl, d1⟩ <;> (
   go_enter Tryz.func7, Tryz.ntmps7; go_wp2_with (first | (go_at_call 8; (with_reducible refine HAL.out.mono ?_); rintro e' w1 ⟨rfl, hk1⟩; have HK0 := hD hk1; have K1 := hD (kT KB.out hk1); clear hk1) | (go_at_call 9; (with_reducible refine (HBU.out _ K1.out).mono ?_); rintro e' w2 ⟨q, q', rfl, hsl, hsd, hk2⟩; obtain ⟨S2, D2, K12⟩ := hD3 hsl hsd hk2; have K2 := hD (kT K1.out hk2); have RBX := hD (rZ (kT HK0.out hk2) RBX0.out); obtain ⟨b20, b21, b22, b23, b24, b25, b26, b27, b28⟩ := cells9 RBX.out; clear hsl hsd hk2) | (go_at_call 24; (with_reducible refine (HRI.out _ K2.out).mono ?_); rintro e' w3 ⟨rfl, hk3⟩; have K3 := hD (kT K2.out hk3); have K23 := hD hk3; obtain ⟨b30, b31, b32, b33, b34, b35, b36, b37, b38⟩ := cells9 (rZ hk3 RBX.out); clear hk3))
   go_ret; exact ⟨rfl, K3.out⟩)
 obtain ⟨rfl, rfl⟩ := hgo; obtain ⟨hl1, hl2⟩ := tell_two m (⟨gk, gf, gt, gn, gs, gr, gp, go, gc⟩ : MM); have hts := tell_send HOK.out (⟨gk, gf, gt, gn, gs, gr, gp, go, gc⟩ : MM) hrt hnd.symm; have ht1 := fun w1 (hk : Kp w w1) B q (h : SL B q m w1) => P.tell w1 hk B q m h HOK.out (⟨gk, gf, gt, gn, gs, gr, gp, go, gc⟩ : MM)
 obtain ⟨⟨FS, MS, wk⟩, hY⟩ : ∃ y, tellP m (⟨gk, gf, gt, gn, gs, gr, gp, go, gc⟩ : MM) = y := ⟨_, rfl⟩
 rw [hY] at ht1 hl2 hts; dsimp only [MM.cells] at ht1 hl2 hts; obtain ⟨lf, hlf⟩ : ∃ n, FS.length = n := ⟨_, rfl⟩
 obtain ⟨lm, hlm⟩ : ∃ n, MS.length = n := ⟨_, rfl⟩
 obtain ⟨LM, hLM⟩ : ∃ N : Int, (lm : Int) = N := ⟨_, rfl⟩
 obtain ⟨np, hnp⟩ : ∃ n, m.parts.length = n := ⟨_, rfl⟩
 obtain ⟨NP, hNP⟩ : ∃ N : Int, (np : Int) = N := ⟨_, rfl⟩
 have HT1 := hD (fun w1 (hk : Kp w w1) B q (h : SL B q m w1) => (ht1 w1 hk B q h).mono (R' := fun r w' => ∃ fa fc ma mc, r = .returned (.agg #[.slice fa lf fc, .slice ma lm mc, wk]) ∧ w'.ownsRow w1.heap.size 73 14 (.slice fa lf fc) lf (fcE.row FS) ∧ w'.ownsRow w1.heap.size 26 9 (.slice ma lm mc) lm (mmE.row MS) ∧ Kp w1 w') (by
  rintro e w2 ⟨v, rfl, h, hk⟩; obtain ⟨fa, fc, ma, mc, rfl, h1, h2⟩ := RsV.form (r := ⟨FS, MS, wk⟩) h hlf hlm; exact ⟨fa, fc, ma, mc, rfl, h1, h2, hk⟩))
 obtain ⟨HTS, HND, HLM, HLL, HNP, HNN⟩ := hD6 hts hnd hlm hLM hnp hNP; have HM2 := hD (show lm ≤ 2 by omega); have HP8 := hD (show np ≤ 8 by have := HOK.out.p8; omega); have HT := hD TT; have hf1 := fR1; clear V TT C E P hs hn hin h60 kb hm hnd hri hrt hl1 hl2 hts ht1 hY hlf hlm hnp; go_enter Tryz.func7, Tryz.ntmps7; go_wp2_with (first | (go_at_call 8; (with_reducible refine HAL.out.mono ?_); rintro e' w1 ⟨rfl, hk1⟩; have HK0 := hD hk1; have K1 := hD (kT KB.out hk1); clear hk1) | (go_at_call 9; (with_reducible refine (HBU.out _ K1.out).mono ?_); rintro e' w2 ⟨q, q', rfl, hsl, hsd, hk2⟩; obtain ⟨S2, D2, K12⟩ := hD3 hsl hsd hk2; have K2 := hD (kT K1.out hk2); have RBX := hD (rZ (kT HK0.out hk2) RBX0.out); obtain ⟨b20, b21, b22, b23, b24, b25, b26, b27, b28⟩ := cells9 RBX.out; clear hsl hsd hk2) | (go_at_call 24; (with_reducible refine (HRI.out _ K2.out).mono ?_); rintro e' w3 ⟨rfl, hk3⟩; have K3 := hD (kT K2.out hk3); have K23 := hD hk3; obtain ⟨b30, b31, b32, b33, b34, b35, b36, b37, b38⟩ := cells9 (rZ hk3 RBX.out); clear hk3) | (go_at_call 10; (with_reducible refine (HT1.out _ K3.out _ _ (S2.out.kp K23.out)).mono ?_); rintro e' w4 ⟨fa, fc, ma, mc, rfl, _, hom, hk4⟩; have K4 := hD (kT K3.out hk4); have K24 := hD (kT K23.out hk4); have OM := hD hom; have RB4 := hD (rZ (kT K23.out hk4) RBX.out); clear hom hk4))
 go_loopw [43] (fun i wr => ∃ (j : Nat), j ≤ lm ∧ i = .int .i64 j ∧ Kp w4 wr) (fun i _ => lm - (intOf i).toNat)
 case atStart => exact ⟨0, Nat.zero_le _, rfl, Kp.refl _⟩
 case round =>
  obtain ⟨j, hj, rfl, hk⟩ := hrel; obtain ⟨kk, hkk⟩ : ∃ x : Int, (j : Int) = x := ⟨_, rfl⟩
  rw [hkk]; obtain ⟨HKK, KR4⟩ := hD2 hkk hk
  by_cases hlt : j < lm
  ·have hjl : kk < LM := by have := HLL.out; omega
   have hk0 : 0 ≤ kk := by omega
   have htk : kk.toNat = j := by omega
   have hN8 : LM ≤ 60 := by have := HLL.out; have := HM2.out; omega
   have hw1 : wrap64 (kk + 1) = kk + 1 := IntWalk.wrap64_in _ (by omega); have HLT := hD hlt; have hjx : j < MS.length := by have := HLM.out; omega
   obtain ⟨gpm, ck, ev, _, _, _, _, hc0⟩ := cQ (E := mmE) (oK OM.out hk) HLM.out hlt; have hc : ∀ (i : Nat) (u : Value), i < 9 → (mmE.enc (MS[j]'hjx))[i]? = some u → wr.cell? ⟨gpm, j * 9 + i, none⟩ = some u := hc0; have ea := congrArg (fun v => match v with | Value.slice a _ _ => a | _ => none) ev; dsimp only at ea; have hb := HTS.out _ (List.getElem_mem hjx); obtain ⟨⟨yk, yf, yt, yn, ys, yr, yp, yo, yc⟩, hF⟩ : ∃ y, MS[j]'hjx = y := ⟨_, rfl⟩
   rw [hF] at hc hb; obtain ⟨hy0, hy1, hy2, hy3, hy4, hy5⟩ := hb; dsimp only at hy1 hy2 hy3 hy4 hy5; rw [HND.out] at hy1; have hy1 := hy1.symm; have hy2 := hy2.symm; have hy3 := hy3.symm; have hy4 := hy4.symm; have hy5 := hy5.symm; subst hy1 hy2 hy3 hy4 hy5; subst ea; rw [← htk] at hc; have zm0 : wr.cell? ⟨gpm, kk.toNat * 9, none⟩ = some (.int .i64 yk) := hc 0 _ (by decide) rfl; have zm1 : wr.cell? ⟨gpm, kk.toNat * 9 + 1, none⟩ = some (.int .i64 gt) := hc 1 _ (by decide) rfl; have zm2 : wr.cell? ⟨gpm, kk.toNat * 9 + 2, none⟩ = some (.int .i64 gf) := hc 2 _ (by decide) rfl; have zm3 : wr.cell? ⟨gpm, kk.toNat * 9 + 3, none⟩ = some (.int .i64 gn) := hc 3 _ (by decide) rfl; have zm4 : wr.cell? ⟨gpm, kk.toNat * 9 + 4, none⟩ = some (.int .i64 gs) := hc 4 _ (by decide) rfl; have zm5 : wr.cell? ⟨gpm, kk.toNat * 9 + 5, none⟩ = some (.int .i64 yr) := hc 5 _ (by decide) rfl; have zm6 : wr.cell? ⟨gpm, kk.toNat * 9 + 6, none⟩ = some (.int .i64 gp) := hc 6 _ (by decide) rfl
   have zm7 : wr.cell? ⟨gpm, kk.toNat * 9 + 7, none⟩ = some (.int .i64 yo) := hc 7 _ (by decide) rfl; have zm8 : wr.cell? ⟨gpm, kk.toNat * 9 + 8, none⟩ = some (.int .i64 yc) := hc 8 _ (by decide) rfl; have hry := fun w1 (hk : Kp w w1) => letRight_any ads (⟨yk, gt, gf, gn, gs, yr, gp, yo, yc⟩ : MM) w1 (HV.out.below hk) (HT.out.kp hk)
   rw [hy0] at hry; dsimp only [MM.cells] at hry; have HRY := hD hry; have KRB := hD (kT K4.out (kT hk (kA wr (.cells #[yk, gt, gf, gn, gs, yr, gp, yo, yc] 26)))); have RY := hD (mH wr (.cells #[yk, gt, gf, gn, gs, yr, gp, yo, yc] 26)); have RBR := hD (rZ hk RB4.out); obtain ⟨p50, p51, p52, p53, p54, p55, p56, p57, p58⟩ := cells9 RY.out; obtain ⟨q50, q51, q52, q53, q54, q55, q56, q57, q58⟩ := cells9 (rZ (kA wr (.cells #[yk, gt, gf, gn, gs, yr, gp, yo, yc] 26)) RBR.out); have heq := act_neq16 gn gs; have heg := fun op x y (w : World) => act_guard9 op x y gn gs gn gs w
   clear hkk hj hlt hk htk hjx ev hc hc0 hF hy0 hry; go_wp2_with (go_at_call 24; (with_reducible refine (HRY.out _ KRB.out).mono ?_); rintro e' w6 ⟨rfl, hk6⟩; have K6 := hD (kT KRB.out hk6); obtain ⟨p60, p61, p62, p63, p64, p65, p66, p67, p68⟩ := cells9 (rZ hk6 RY.out); obtain ⟨q60, q61, q62, q63, q64, q65, q66, q67, q68⟩ := cells9 (rZ (kT (kA wr (.cells #[yk, gt, gf, gn, gs, yr, gp, yo, yc] 26)) hk6) RBR.out); have KW6 := hD (kT KR4.out (kT (kA wr (.cells #[yk, gt, gf, gn, gs, yr, gp, yo, yc] 26)) hk6)); clear hk6)
   go_roundw
   case rel => exact ⟨j + 1, by have := HLT.out; omega, by have := HKK.out; first | rw [show ((j + 1 : Nat) : Int) = kk + 1 by omega] | rw [show ((j + 1 : Nat) : Int) = kk + 1 by omega, hw1], KW6.out⟩
   case measure => have := HKK.out; have := HLT.out; simp [intOf]; omega
  ·have hje : ¬ kk < LM := by have := HLL.out; omega
   have HPA := hD (fun w1 (hk : Kp w4 w1) => SL.parts ((S2.out.kp K24.out).kp hk) HOK.out np HNP.out); clear hkk hj hlt hk; go_wp2_with (go_at_call 25; (with_reducible refine (HPA.out _ KR4.out).mono ?_); rintro e' w7 ⟨pa, pc, rfl, hop, hk7⟩; have OP := hD hop; have K7 := hD (kT KR4.out hk7); clear hop hk7)
   go_loopw [81] (fun i wr' => ∃ (j : Nat), j ≤ np ∧ i = .int .i64 j ∧ Kp w7 wr') (fun i _ => np - (intOf i).toNat)
   case atStart => exact ⟨0, Nat.zero_le _, rfl, Kp.refl _⟩
   case round =>
    obtain ⟨j, hj, rfl, hk⟩ := hrel; obtain ⟨kk, hkk⟩ : ∃ x : Int, (j : Int) = x := ⟨_, rfl⟩
    rw [hkk]; have HKJ := hD hkk; have KRW := hD (kT K4.out (kT K7.out hk)); have KR2 := hD (kT K24.out (kT K7.out hk)); have KR7 := hD hk
    by_cases hlt : j < np
    ·have hjl : kk < NP := by have := HNN.out; omega
     have hk0 : 0 ≤ kk := by omega
     have htk : kk.toNat = j := by omega
     have hN8 : NP ≤ 60 := by have := HNN.out; have := HP8.out; omega
     have hw1 : wrap64 (kk + 1) = kk + 1 := IntWalk.wrap64_in _ (by omega); have HLT := hD hlt; have hjx : j < m.parts.length := by have := HNP.out; omega
     obtain ⟨gpm, ck, ev, _, _, _, _, hc0⟩ := cQ (E := paE) (oK OP.out hk) HNP.out hlt; have hc : ∀ (i : Nat) (u : Value), i < 7 → (paE.enc (m.parts[j]'hjx))[i]? = some u → wr.cell? ⟨gpm, j * 7 + i, none⟩ = some u := hc0; have ea := congrArg (fun v => match v with | Value.slice a _ _ => a | _ => none) ev; dsimp only at ea; have hpx : prtP m kk = some (m.parts[j]'hjx) := by
      unfold prtP; rw [if_pos hk0, htk, List.getElem?_eq_getElem hjx]
     obtain ⟨⟨xn, xs, xr, ⟨y1, y2, y3, y4⟩⟩, hF⟩ : ∃ y, m.parts[j]'hjx = y := ⟨_, rfl⟩
     rw [hF] at hc hpx; subst ea; rw [← htk] at hc; obtain ⟨zp0, zp1, zp2, zp3, zp4, zp5, zp6⟩ := cW7 hc; have RPX := hD (mH wr (.cells #[xn, xs, xr, y1, y2, y3, y4] 71)); obtain ⟨n50, n51, n52, n53, n54, n55, n56⟩ := c7X RPX.out
     cases hag : againP m kk with
     | none =>
      have HAG := hD (fun w1 (hk : Kp w w1) B q (h : SL B q m w1) => HP.out.again w1 hk B q m h HOK.out kk _ _ (.inr ⟨hag, rfl, rfl⟩)); dsimp only [MM.cells] at HAG; clear hkk hj hlt hk htk hjx ev hc hc0 hF hpx hag; go_wp2_with (go_at_call 20; (with_reducible refine (HAG.out _ (kT KRW.out (kA wr (.cells #[xn, xs, xr, y1, y2, y3, y4] 71))) _ _ (S2.out.kp (kT KR2.out (kA wr (.cells #[xn, xs, xr, y1, y2, y3, y4] 71))))).mono ?_); rintro e' w8 ⟨rfl, hk8⟩; have kz := kT (kA wr (.cells #[xn, xs, xr, y1, y2, y3, y4] 71)) (kT hk8 (kA w8 (.cells #[(0:Int), (0:Int), (0:Int), (0:Int), (0:Int), (0:Int), (0:Int), (0:Int), (0:Int)] 26))); have K8 := hD (kT KR7.out kz); have K8W := hD (kT KRW.out kz); have R8G := hD (mH w8 (.cells #[(0:Int), (0:Int), (0:Int), (0:Int), (0:Int), (0:Int), (0:Int), (0:Int), (0:Int)] 26)); have R8P := hD (rZ (kT hk8 (kA w8 (.cells #[(0:Int), (0:Int), (0:Int), (0:Int), (0:Int), (0:Int), (0:Int), (0:Int), (0:Int)] 26))) RPX.out); obtain ⟨p80, p81, p82, p83, p84, p85, p86, p87, p88⟩ := cells9 R8G.out; obtain ⟨n80, n81, n82, n83, n84, n85, n86⟩ := c7X R8P.out; clear hk8 kz)
      go_roundw
      case rel => exact ⟨j + 1, by have := HLT.out; omega, by have := HKJ.out; first | rw [show ((j + 1 : Nat) : Int) = kk + 1 by omega] | rw [show ((j + 1 : Nat) : Int) = kk + 1 by omega, hw1], K8.out⟩
      case measure => have := HKJ.out; have := HLT.out; simp [intOf]; omega
     | some y =>
      have har := again_right HOK.out kk hpx hag; obtain ⟨yk, yf, yt, yn, ys, yr, yp, yo, yc⟩ := y; obtain ⟨hy0, hy1, hy2, hy3, hy4, hy5⟩ := har; dsimp only at hy1 hy2 hy3 hy4 hy5; rw [HND.out] at hy1; have hy1 := hy1.symm; have hy2 := hy2.symm; have hy3 := hy3.symm; have hy4 := hy4.symm; have hy5 := hy5.symm; subst hy1 hy2 hy3 hy4 hy5; have hry := fun w1 (hk : Kp w w1) => letRight_any ads (⟨yk, gt, xn, xn, xs, yr, kk, yo, yc⟩ : MM) w1 (HV.out.below hk) (HT.out.kp hk)
      rw [hy0] at hry; dsimp only [MM.cells] at hry; have HRY := hD hry; have HAG := hD (fun w1 (hk : Kp w w1) B q (h : SL B q m w1) => HP.out.again w1 hk B q m h HOK.out kk _ _ (.inl ⟨hag, rfl⟩)); dsimp only [MM.cells] at HAG; have heq := act_neq16 xn xs; have heg := fun op x y (w : World) => act_guard9 op x y xn xs xn xs w
      clear hkk hj hlt hk htk hjx ev hc hc0 hF hpx hag hy0 hry; go_wp2_with (first | (go_at_call 20; (with_reducible refine (HAG.out _ (kT KRW.out (kA wr (.cells #[xn, xs, xr, y1, y2, y3, y4] 71))) _ _ (S2.out.kp (kT KR2.out (kA wr (.cells #[xn, xs, xr, y1, y2, y3, y4] 71))))).mono ?_); rintro e' w8 ⟨rfl, hk8⟩; have kz := kT (kA wr (.cells #[xn, xs, xr, y1, y2, y3, y4] 71)) (kT hk8 (kA w8 (.cells #[yk, gt, xn, xn, xs, yr, kk, yo, yc] 26))); have K8 := hD (kT KR7.out kz); have K8W := hD (kT KRW.out kz); have R8G := hD (mH w8 (.cells #[yk, gt, xn, xn, xs, yr, kk, yo, yc] 26)); have R8P := hD (rZ (kT hk8 (kA w8 (.cells #[yk, gt, xn, xn, xs, yr, kk, yo, yc] 26))) RPX.out); obtain ⟨p80, p81, p82, p83, p84, p85, p86, p87, p88⟩ := cells9 R8G.out; obtain ⟨n80, n81, n82, n83, n84, n85, n86⟩ := c7X R8P.out; clear hk8 kz) | (go_at_call 24; (with_reducible refine (HRY.out _ K8W.out).mono ?_); rintro e' w9 ⟨rfl, hk9⟩; have K9 := hD (kT K8.out hk9); obtain ⟨p90, p91, p92, p93, p94, p95, p96, p97, p98⟩ := cells9 (rZ hk9 R8G.out); obtain ⟨n90, n91, n92, n93, n94, n95, n96⟩ := c7X (rZ hk9 R8P.out); clear hk9))
      go_roundw
      case rel => exact ⟨j + 1, by have := HLT.out; omega, by have := HKJ.out; first | rw [show ((j + 1 : Nat) : Int) = kk + 1 by omega] | rw [show ((j + 1 : Nat) : Int) = kk + 1 by omega, hw1], K9.out⟩
      case measure => have := HKJ.out; have := HLT.out; simp [intOf]; omega
    ·have hje : ¬ kk < NP := by have := HNN.out; omega
     clear hkk hj hlt hk; go_wp2; go_ret; exact ⟨rfl, KRW.out⟩
theorem partnerAnswers_walk (node : Int) (v : Value) (list : List FX) (m : MM) (W : World) (_kn : -9223372036854775808 ≤ node ∧ node ≤ 9223372036854775807) (k1 : SlFc v list W) (_k2 : list.length ≤ maxLen)  (hL : laidMetH Tryz.prog Rows.partnerAnswersRow.laid W) :
  Calls Tryz.prog 7 #[.int .i64 node, v, .agg m.cells] W fun e w' => e = .returned (.bool true) ∧ Below W.heap.size W w' := by
 obtain ⟨⟨ads, V⟩, T⟩ := st_tab_of (l := Rows.partnerAnswersRow.laid) (by kernel_rfl) (by kernel_rfl) (by kernel_rfl) hL; have C := facC_of ads W V T; have E : EP [0, 3, 4, 8, 13] ads W := ep_of_st V (by decide); have Q := parC_of ads W V T; exact answers16_any V T C E Q node v list k1 m.k m.f m.t m.n m.s m.r m.p m.o m.c
open Go.ChangeShapes Go.WideShapes Go.ChangeAt Go.WideMaps Go.WideElems Go.RowKit
theorem partnerAnswers_lifted (os : Os) (started : os.Started) (H : Type) (enc : TypeId × Value → H) :
  ReturnsInHanded {} Tryz.checked os 7 .any (fun w args => (Rows.partnerAnswersSpec.pre enc Tryz.prog Tryz.f7 [] false w args ∧ laidMetH Tryz.prog Rows.partnerAnswersRow.laid w) ∧ sizedMet enc Tryz.prog Tryz.f7 (OpenSpec.ofChange Rows.partnerAnswersSpec) false w args)
   (Rows.partnerAnswersSpec.post enc Tryz.prog Tryz.f7 false true false false) := by
 refine returnsInHanded_of_change_and (C := Tryz.checked) (X := fun w _ => laidMetH Tryz.prog Rows.partnerAnswersRow.laid w) (fun _ _ _ hh h => h.of_heap hh) own started (by kernel_rfl) Tryz.func7
  (ChangeSpec.witness_shaped (enc := enc) (C := Tryz.checked) (os := os) (X := fun w _ => laidMetH Tryz.prog Rows.partnerAnswersRow.laid w) false (World.laidAll Tryz.prog os Rows.partnerAnswersRow.laid) #[.int .i64 0, .slice none 0 0, .agg #[(0:Int), (0:Int), (0:Int), (0:Int), (0:Int), (0:Int), (0:Int), (0:Int), (0:Int)]] 8 (World.laidAll_os _ _ _) (World.shaped_of_ZipB (by kernel_rfl) (by kernel_rfl)) (by kernel_rfl) (by kernel_rfl) (by kernel_rfl) (by rw [MakeChecks.laidMetH_plain _ _ _ (by kernel_rfl)]; exact laidMet_laidAll _ (by kernel_rfl) (by kernel_rfl))) ?_
 intro W base args ds gs before hval0 hW _ hsz hL _; have hval : ∀ (j : Nat) t v, Tryz.f7.params[j]? = some t → args[j]? = some v → Value.okWide Tryz.prog W .any base t v := hval0; have hW' := hW; obtain ⟨p, q, hA0, hV, rfl, hfz, hnd⟩ := hW; have hA : DataW.TrodAll enc Tryz.prog W 0 (fun _ => true) true Tryz.f7.params.toList args.toList ds p := hA0; rw [Tryz.params7] at hA hval; obtain ⟨v0, vs0, d0, ds0, p0, q0, e0, rfl, rfl, h0, r0⟩ := trodAll_cons hA; obtain ⟨v1, vs1, d1, ds1, p1, q1, e1, rfl, rfl, h1, r1⟩ := trodAll_cons r0; obtain ⟨v2, vs2, d2, ds2, p2, q2, e2, rfl, rfl, h2, r2⟩ := trodAll_cons r1; obtain ⟨rfl, rfl, rfl⟩ := trodAll_nil r2; obtain rfl : args = #[v0, v1, v2] := by cases args; simp_all
 obtain ⟨rfl, rfl⟩ := trodVars_none hV; obtain ⟨node, rfl, rfl, rfl, hnode⟩ := open_int Tryz.underlying3 (hval 0 3 v0 rfl rfl) h0; obtain ⟨list, klista, klistb⟩ := open_fcts (hval 1 22 v1 rfl rfl) h1; obtain ⟨m, rfl⟩ := open_msg (hval 2 26 v2 rfl rfl) h2; clear hA0 hval0; have knode : -9223372036854775808 ≤ node ∧ node ≤ 9223372036854775807 := by simpa [Lit.wf, IntKind.min, IntKind.max, IntKind.bits, IntKind.signed] using hnode
 refine (partnerAnswers_walk node v1 list m W knode klista klistb  hL).mono fun e W' ⟨he, hw⟩ => ?_
 subst he; exact ⟨_, rfl, law_post laidOut hW' rfl rfl rfl Tryz.underlying4 (par_ok (by kernel_rfl)) hw⟩
theorem partnerAnswers_said : Rows.PartnerAnswersSaid :=
 OpenClaim.holds_of_wide 7 Tryz.f7 rfl rfl rfl rfl rfl rfl rfl ⟨rfl, rfl, rfl, rfl, rfl⟩ rfl rfl rfl rfl rfl (by kernel_rfl) Tryz.func7 (by kernel_rfl)
  (of_decide_eq_true (by kernel_rfl)) (by unfold Func.isWrapper; first | (rw [if_pos (by decide +kernel)]; kernel_rfl) | (rw [if_neg (by decide +kernel)]; exact ⟨rfl, rfl⟩))
  (fun os started H enc _ => partnerAnswers_lifted os started H enc)
theorem partnerAnswers_holds : Rows.PartnerAnswersCardSaid :=
 Claim7.holds_tied_plain_at .later [] _ _ _ _ partnerAnswers_said (fun _ h => by cases h) (by kernel_rfl) (fun _ h => by cases h) partnerAnswers_row_tie rfl ⟨rfl, rfl⟩ (by kernel_rfl) rfl
  (fun f fn hf hfn => by
   obtain rfl : f = 7 := Option.some.inj ((show Tryz.prog.funcNamed "liaison/liaisonlaw16.PartnerAnswers" = some 7 by kernel_rfl).symm.trans hf) |>.symm
   obtain rfl : fn = Tryz.f7 := (Option.some.inj (Tryz.func7.symm.trans hfn)).symm; exact ⟨by kernel_rfl, stand_ok (P := Tryz.prog) (by kernel_rfl)⟩)
  (by kernel_rfl)
end Go.Proofs.YtncoofnhifcnhaaGreatDoor
