/-
 StoreFacts: for every node, every list of facts and one more, a store's Facts are the document's, and a store of these knows the same and goes on the same. Condition: package api's errors and strconv's table of powers hold what their declarations lay.
-/
import Derived.Test.YtpemeenfhkgmpaaGreatDoorZf41
import Derived.Test.YtpemeenfhkgmpaaGreatDoorZf42
import Derived.Test.YtpemeenfhkgmpaaGreatDoorCards
import Derived.Test.YtpemeenfhkgmpaaGreatDoorTie
import Derived.Lay
set_option maxRecDepth 100000
set_option maxHeartbeats 40000000
namespace Go.Proofs.YtpemeenfhkgmpaaGreatDoor
open Go.RowKit Go.ChangeShapes Go.WideShapes
variable {w0 w w' W w3 : World} {B q : Nat} {m : StM} {gs : List AcG} {va vp : Value}
variable {ads : List Addr}
theorem stays_rows (V : St ads w) (C : FacC ads w) (ok : OkS m) (a : Option Addr) (cap n : Nat) (hn : (factsS m).length = n) (hs : SlFc (.slice a n cap) (factsS m) w) : Calls Tryz.prog 17 #[.slice a n cap] w fun r w' => ∃ (a2 : Option Addr) (c2 : Nat), r = .returned (.tuple #[.slice a2 n c2, .nilIface]) ∧ SlBC (.slice a2 n c2) ((factsS m).map encF) w' ∧ Kp w w' := by
 refine (facRowsC_any ads a cap n (factsS m) hn (by have := factsS_le ok; omega) w V C hs).mono ?_
 rintro e w2 ⟨⟨_, a2, c2, rfl, h⟩ | ⟨h, _⟩, hk⟩
 ·exact ⟨a2, c2, rfl, h, hk⟩
 ·rw [all_right ok] at h; cases h
theorem stays_replay (C : FacC ads w) (E : EP [0, 3, 4, 8, 13] ads w) (ok : OkS m) (nd : Int) (hnd : m.node = nd) (a : Option Addr) (cap n : Nat) (hn : (factsS m).length = n) (hs : SlBC (.slice a n cap) ((factsS m).map encF) w) : Calls Tryz.prog 18 #[.int .i64 nd, .slice a n cap] w fun r w' => ∃ q, r = .returned (.tuple #[.pointer (some ⟨q, 0, none⟩), .nilIface]) ∧ (∃ gs va vp, GS tyL w.heap.size q m gs va vp w') ∧ Kp w w' := by
 subst hnd; refine (lsReplay C E m.node a n cap ((factsS m).map encF) (by rw [List.length_map, hn]) (by have := factsS_le ok; omega) (fun b hb => by obtain ⟨f, _, rfl⟩ := List.mem_map.1 hb; have := encF_len f; omega) hs).mono ?_
 rintro e w2 (⟨h, _⟩ | ⟨_, ⟨h, _⟩ | ⟨m', h, _, q, rfl, hg, hk⟩⟩)
 ·exact absurd ok.n h
 ·rw [replay_rows ok] at h; cases h
 ·rw [replay_rows ok] at h; obtain rfl := Option.some.inj h; exact ⟨q, rfl, hg, hk⟩
theorem SD.facts (h : SD B q m w) (ok : OkS m) (n : Nat) (hn : (factsS m).length = n) : Calls Tryz.prog 15 #[.pointer (some ⟨q, 0, none⟩)] w fun r w' => ∃ (a : Option Addr) (c : Nat), r = .returned (.slice a n c) ∧ w'.ownsRow w.heap.size 42 14 (.slice a n c) n (fcE.row (factsS m)) ∧ Kp w w' := by
 obtain ⟨gs, va, vp, H⟩ := h; refine (refFacts15 H ok).mono ?_
 rintro e w2 ⟨v, rfl, ho, hk⟩; rw [hn] at ho; obtain ⟨a, c, rfl⟩ := fG ho; exact ⟨a, c, rfl, ho, hk⟩
def SLL (B q : Nat) (m : StM) (B' q' : Nat) (m' : StM) (w : World) : Prop := ∃ gs va vp gs' va' vp', GS tyL B q m gs va vp w ∧ GS tyL B' q' m' gs' va' vp' w ∧ ∀ b, Ow q gs va vp b → ¬ Ow q' gs' va' vp' b
variable {B' q' : Nat} {m' : StM}
theorem SLL.fst (h : SLL B q m B' q' m' w) : SL B q m w := by obtain ⟨_, _, _, _, _, _, h, _, _⟩ := h; exact ⟨_, _, _, h⟩
theorem SLL.snd (h : SLL B q m B' q' m' w) : SL B' q' m' w := by obtain ⟨_, _, _, _, _, _, _, h, _⟩ := h; exact ⟨_, _, _, h⟩
theorem SLL.symm (h : SLL B q m B' q' m' w) : SLL B' q' m' B q m w := by obtain ⟨_, _, _, _, _, _, h, h', d⟩ := h; exact ⟨_, _, _, _, _, _, h', h, fun b x y => d b y x⟩
theorem SLL.kp (h : SLL B q m B' q' m' w) (hk : Kp w w') : SLL B q m B' q' m' w' := by obtain ⟨_, _, _, _, _, _, h, h', d⟩ := h; exact ⟨_, _, _, _, _, _, h.kp hk, h'.kp hk, d⟩
theorem SLL.of (h : SL B q m w) (hk : Kp w w') (h' : SL w.heap.size q' m' w') : SLL B q m w.heap.size q' m' w' := by
 obtain ⟨gs, va, vp, H⟩ := h; obtain ⟨gs', va', vp', H'⟩ := h'; refine ⟨gs, va, vp, gs', va', vp', H.kp hk, H', fun b hb hb2 => ?_⟩
 have := (H.mem b hb).2; have := (H'.mem b hb2).1; omega
theorem SLL.apply (C : FacC ads w) (E : EP [0, 3, 4, 8, 13] ads w) (h : SLL B q m B' q' m' w) (ok : OkS m) (f : FX) (hwf : f.wf) : Calls Tryz.prog 11 #[.pointer (some ⟨q, 0, none⟩), .agg f.cells] w fun r w' => r = .returned (errI ads (applyQ m f).1) ∧ SLL B q (applyQ m f).2 B' q' m' w' ∧ (∀ w0, Kp w0 w → w0.heap.size ≤ B → Kp w0 w') := by
 obtain ⟨gs, va, vp, gs', va', vp', H, H', D⟩ := h; refine (lsApply_any C E H ok f hwf).mono ?_
 rintro e w2 ⟨rfl, gs2, va2, vp2, H2, A⟩; refine ⟨rfl, ⟨gs2, va2, vp2, gs', va', vp', H2, H'.beside A (fun b hb hb2 => D b hb2 hb), fun b hb hb2 => ?_⟩, fun w0 hk hb => A.kp hk (fun b hb2 => Nat.le_trans hb (H.mem b hb2).1)⟩
 rcases A.own b hb with h | h
 ·exact D b h hb2
 ·exact absurd (H'.mem b hb2).2 (by omega)
theorem rows15 (V : St ads w) (C : FacC ads w) (ok : OkS m) (a : Option Addr) (c n : Nat) {B1 : Nat} (hn : (factsS m).length = n) (ho : w.ownsRow B1 39 14 (.slice a n c) n (fcE.row (factsS m))) : Calls Tryz.prog 17 #[.slice a n c] w fun r w' => ∃ (a2 : Option Addr) (c2 : Nat), r = .returned (.tuple #[.slice a2 n c2, .nilIface]) ∧ SlBC (.slice a2 n c2) ((factsS m).map encF) w' ∧ Kp w w' := by
 have hs := own_slfc ho hn (factsS_wf ok); exact stays_rows V C ok a c n hn hs
theorem replay15 (C : FacC ads w) (E : EP [0, 3, 4, 8, 13] ads w) (ok : OkS m) (nd : Int) (hnd : m.node = nd) (a : Option Addr) (c n : Nat) (hn : (factsS m).length = n) (hs : SlBC (.slice a n c) ((factsS m).map encF) w) (h : SL B q m w) : Calls Tryz.prog 18 #[.int .i64 nd, .slice a n c] w fun r w' => ∃ qt, r = .returned (.tuple #[.pointer (some ⟨qt, 0, none⟩), .nilIface]) ∧ SLL B q m w.heap.size qt m w' ∧ Kp w w' := by
 refine (stays_replay C E ok nd hnd a c n hn hs).mono ?_
 rintro e w2 ⟨qt, rfl, hg, hk⟩; exact ⟨qt, rfl, SLL.of h hk hg, hk⟩
theorem refSame14_any (f g : FX) (hf : f.wf) (hg : g.wf) (w : World) : Calls Tryz.prog 16 #[.agg f.cells, .agg g.cells] w fun e w' => e = .returned (.bool (sameF f g)) ∧ Kp w w' := by
 have HN := hD (fun w1 => refNumbers_any f w1); have HM := hD (fun w1 => refNumbers_any g w1); have hla : f.nums.length ≤ 1000000 := by show 13 ≤ 1000000; decide
 have hsm : sameF f g = (decide (f.nums = g.nums) && (((Fl.plain f.x : Nat) : Int) == ((Fl.plain g.x : Nat) : Int))) := by
  unfold sameF
  congr 1
  rw [Bool.eq_iff_iff, decide_eq_true_eq, beq_iff_eq]; omega
 obtain ⟨na, hna⟩ : ∃ z, f.nums = z := ⟨_, rfl⟩
 obtain ⟨nb, hnb⟩ : ∃ z, g.nums = z := ⟨_, rfl⟩
 rw [hna, hnb] at hsm; rw [hna] at HN hla; rw [hnb] at HM; clear hna hnb; obtain ⟨k, n, s, r, u, p, q, o, d, a, t, hh, c, x⟩ := f; obtain ⟨k', n', s', r', u', p', q', o', d', a', t', hh', c', x'⟩ := g; have hx : x < 18446744073709551616 := hf; have hx' : x' < 18446744073709551616 := hg; dsimp only [FX.cells] at HN HM hsm ⊢; obtain ⟨HSM, HLE⟩ := hD2 hsm hla; obtain ⟨w2, hw2⟩ : ∃ y, (w.alloc (.cells #[k, n, s, r, u, p, q, o, d, a, t, hh, c, x] 42)).alloc (.cells #[k', n', s', r', u', p', q', o', d', a', t', hh', c', x'] 42) = y := ⟨_, rfl⟩
 have ra : w2.heap[w.heap.size]? = some (.cells #[k, n, s, r, u, p, q, o, d, a, t, hh, c, x] 42) := by rw [← hw2]; exact nX0 w _ _
 have rb : w2.heap[w.heap.size + 1]? = some (.cells #[k', n', s', r', u', p', q', o', d', a', t', hh', c', x'] 42) := by rw [← hw2]; exact nX1 w _ _
 have kw : Kp w w2 := by rw [← hw2]; exact kT (kA _ _) (kA _ _)
 obtain ⟨a0, a1, a2, a3, a4, a5, a6, a7, a8, a9, a10, a11, a12, a13⟩ := cZ ra; obtain ⟨b0, b1, b2, b3, b4, b5, b6, b7, b8, b9, b10, b11, b12, b13⟩ := cZ rb; have KW := hD kw; clear hf hg ra rb kw hsm hla; go_enter Tryz.func16, Tryz.ntmps16; go_wp2
 try rw [hw2]
 clear hw2; refine rgW (fun w' => Kp w2 w') ?_ fun hH => ?_
 ·exact (Kp.refl w2).drew
 refine tkP 0 ?_ (y := by intro w hZ; obtain ⟨q0, q1, q2, q3, q4, q5, q6, q7, q8, q9, q10, q11, q12, q13⟩ := kZ14 hZ a0 a1 a2 a3 a4 a5 a6 a7 a8 a9 a10 a11 a12 a13; go_simp; try rfl)
 go_simp; refine tkP 2 ?_ (y := by intro w hZ; obtain ⟨q0, q1, q2, q3, q4, q5, q6, q7, q8, q9, q10, q11, q12, q13⟩ := kZ14 hZ b0 b1 b2 b3 b4 b5 b6 b7 b8 b9 b10 b11 b12 b13; go_simp; try rfl)
 go_simp; refine rdW 1 fun K hK => ?_
 go_simp; go_wp2_with (go_at_call 43; (with_reducible refine (HN.out _).mono ?_); rintro e w4 ⟨g4, rfl, ho4, hk4⟩; have HO4 := hD ho4; have K4 := hD (kT hH hk4); have KD4 := hD hk4; clear ho4 hk4)
 refine hK.out _ _ (K4.out) fun hH => ?_
 clear hK K; refine rdW 3 fun K hK => ?_
 go_simp; go_wp2_with (go_at_call 43; (with_reducible refine (HM.out _).mono ?_); rintro e w5 ⟨g5, rfl, ho5, hk5⟩; have HO5 := hD ho5; have K5 := hD (kT hH hk5); have KD5 := hD hk5; clear ho5 hk5)
 refine hK.out _ _ (K5.out) fun hH => ?_
 clear hK K; refine rdW 4 fun K hK => ?_
 go_simp; go_wp2_with (go_at_call 42; (with_reducible refine (sameInts_any _ _ _ _ HLE.out _ (own_sli (oK HO4.out KD5.out)) (own_sli HO5.out)).mono ?_); rintro e w6 ⟨rfl, hk6⟩; have K6 := hD (kT hH hk6); clear hk6)
 refine hK.out _ _ (K6.out) fun hH => ?_
 clear hK K; obtain ⟨vn, hvn⟩ : ∃ z, decide (na = nb) = z := ⟨_, rfl⟩
 rw [hvn] at HSM ⊢; clear hvn
 cases vn with
 | false =>
  refine tkP 5 ?_
  go_simp; refine skW 6 ?_
  go_simp; refine skW 7 ?_
  go_simp; refine skW 8 ?_
  go_simp; refine skW 9 ?_
  go_simp; refine skW 10 ?_
  go_simp; refine skW 11 ?_
  go_simp; refine skW 12 ?_
  go_simp; refine tkP 13 ?_
  go_simp; refine tkP 14 ?_
  go_simp; refine dnW ?_ _
  go_wp2; go_ret; exact ⟨by rw [HSM.out]; rfl, kT KW.out hH⟩
 | true =>
  refine tkP 5 ?_
  go_simp; refine tkP 6 ?_
  go_simp; refine tkP 7 ?_ (y := by intro w hZ; have q := kZ hZ a13; go_simp; try rfl)
  go_simp; refine tkP 9 ?_
  go_simp; refine tkP 10 ?_ (y := by intro w hZ; have q := kZ hZ b13; go_simp; try rfl)
  go_simp; refine rdW 8 fun K hK => ?_
  go_simp; go_wp2_with (go_at_call 44; (with_reducible refine (refBits_any x _ hx).mono ?_); rintro e w' ⟨rfl, rfl⟩)
  refine hK.out _ _ (hH) fun hH => ?_
  clear hK K; refine rdW 11 fun K hK => ?_
  go_simp; go_wp2_with (go_at_call 44; (with_reducible refine (refBits_any x' _ hx').mono ?_); rintro e w' ⟨rfl, rfl⟩)
  refine hK.out _ _ (hH) fun hH => ?_
  clear hK K; refine tkP 12 ?_
  go_simp; refine tkP 13 ?_
  go_simp; refine tkP 14 ?_
  go_simp; refine dnW ?_ _
  go_wp2; go_ret; exact ⟨by rw [HSM.out]; rfl, kT KW.out hH⟩
theorem facts_any15 (nd : Int) (v : Value) (fs : List FX) (more : FX) (V : St ads w) (C : FacC ads w) (E : EP [0, 3, 4, 8, 13] ads w) (hs : SlFc v fs w) (hm : more.wf) : Calls Tryz.prog 4 #[.int .i64 nd, v, .agg more.cells] w fun r w' => r = .returned (.bool true) ∧ Kp w w' := by
 obtain ⟨gk, gn, gs, gr, ge, gp, gq, go, gd, ga, gt, gh, gc, gx⟩ := more; dsimp only [FX.cells]; obtain ⟨a, cap, rfl, _⟩ := id hs; obtain ⟨n, hn⟩ : ∃ n, fs.length = n := ⟨_, rfl⟩
 rw [hn] at hs ⊢; obtain ⟨N, hN⟩ : ∃ N : Int, (n : Int) = N := ⟨_, rfl⟩
 have kmb := kA w (.cells #[gk, gn, gs, gr, ge, gp, gq, go, gd, ga, gt, gh, gc, gx] 39); have rmb := (mH w (.cells #[gk, gn, gs, gr, ge, gp, gq, go, gd, ga, gt, gh, gc, gx] 39))
 have C := C.kp kmb; have E := E.kp kmb; have V := V.below kmb; have hs := hs.kp kmb; obtain ⟨wb, hwb⟩ : ∃ x, w.alloc (.cells #[gk, gn, gs, gr, ge, gp, gq, go, gd, ga, gt, gh, gc, gx] 39) = x := ⟨_, rfl⟩
 rw [hwb] at kmb rmb C E V hs; have HAL := hD (alive15_any C E); obtain ⟨KMB, RMB⟩ := hD2 kmb rmb; clear kmb rmb
 by_cases hl : N > 100
 ·have d1 := dT hl; clear V C E hs; go_enter Tryz.func4, Tryz.ntmps4; go_wp2_with (go_at_call 8; (with_reducible refine HAL.out.mono ?_); rintro e' w0 ⟨rfl, hk0⟩; have K0 := hD hk0; clear hk0)
  go_ret; exact ⟨rfl, kT KMB.out K0.out⟩
 have d1 := dF hl
 by_cases hin : inN nd
 rotate_left
 ·have hnew := fun w1 (hk : Kp wb w1) => SL.noNew (E.kp hk) nd hin
  obtain ⟨p1, hp1⟩ := errI_some14 ads 1 (by decide); rw [hp1] at hnew; have HNEW := hD hnew; have hsf := sF; clear V C E hs hnew hin hp1; go_enter Tryz.func4, Tryz.ntmps4; go_wp2_with (first | (go_at_call 8; (with_reducible refine HAL.out.mono ?_); rintro e' w0 ⟨rfl, hk0⟩; have K0 := hD hk0; clear hk0) | (go_at_call 9; (with_reducible refine (HNEW.out _ K0.out).mono ?_); rintro e' w1 ⟨rfl, hk1⟩; have K1 := hD (kT K0.out hk1); clear hk1))
  go_ret; exact ⟨rfl, kT KMB.out K1.out⟩
 have HNEW := hD (fun w1 (hk : Kp wb w1) => SL.new (E.kp hk) nd hin); obtain ⟨HC, HE, HV, HN, HS⟩ := hD5 C E V hn hs; have HL := hD (show n ≤ 100 by omega); obtain ⟨HNN, HGW⟩ := hD2 hN hm; have hsf := sF; have HOK0 := hD (newSt_ok hin); clear hin C E V hn hs hl hm; go_enter Tryz.func4, Tryz.ntmps4; go_wp2_with (first | (go_at_call 8; (with_reducible refine HAL.out.mono ?_); rintro e' w0 ⟨rfl, hk0⟩; have K0 := hD hk0; clear hk0) | (go_at_call 9; (with_reducible refine (HNEW.out _ K0.out).mono ?_); rintro e' w1 ⟨q, rfl, hg1, hk1⟩; have G1 := hD hg1; have K1 := hD (kT K0.out hk1); clear hg1 hk1))
 have KX := hD (kT K1.out (kA w1 (.cells #[nd, (0:Int), .slice none 0 0, .slice none 0 0] 34))); have SL0 := hD ((G1.out.base (kS K0.out)).kp (kA w1 (.cells #[nd, (0:Int), .slice none 0 0, .slice none 0 0] 34))); have SD0 := hD (SD.new (B := wb.heap.size) (mH w1 (.cells #[nd, (0:Int), .slice none 0 0, .slice none 0 0] 34)) (kS K1.out)); go_loopw [37] (fun i wr => ∃ (j : Nat) (m : StM), j ≤ n ∧ i = .int .i64 j ∧ m.node = nd ∧ OkS m ∧ SL wb.heap.size q m wr ∧ SD wb.heap.size w1.heap.size m wr ∧ Kp wb wr) (fun i _ => n - (intOf i).toNat)
 case atStart => exact ⟨0, newSt nd, Nat.zero_le _, rfl, rfl, HOK0.out, SL0.out, SD0.out, KX.out⟩
 case round =>
  obtain ⟨j, m, hj, rfl, hnd, hok, hsl, hsd, hk⟩ := hrel; obtain ⟨kk, hkk⟩ : ∃ x : Int, (j : Int) = x := ⟨_, rfl⟩
  rw [hkk]; obtain ⟨HKK, KR⟩ := hD2 hkk hk
  by_cases hlt : j < n
  ·have hjl : kk < N := by have := HNN.out; omega
   have hk0 : 0 ≤ kk := by omega
   have htk : kk.toNat = j := by omega
   have hN8 : N ≤ 100 := by have := HNN.out; have := HL.out; omega
   have hw1 : wrap64 (kk + 1) = kk + 1 := IntWalk.wrap64_in _ (by omega); have HLT := hD hlt; have hjx : j < fs.length := by have := HN.out; omega
   obtain ⟨bb, bo, rfl, hwf, hcell⟩ := (HS.out.kp hk).at j hjx; obtain ⟨⟨fk, fn, fs, fr, fe, fp, fq, fo, fd, fa, ft, fh, fc, fx⟩, hF⟩ : ∃ f, fs[j]'hjx = f := ⟨_, rfl⟩
   rw [hF] at hwf hcell; rw [← htk] at hcell; have zf0 : wr.cell? ⟨bb, bo + kk.toNat * 14, none⟩ = some (.int .i64 fk) := hcell 0 _ rfl; have zf1 : wr.cell? ⟨bb, bo + kk.toNat * 14 + 1, none⟩ = some (.int .i64 fn) := hcell 1 _ rfl; have zf2 : wr.cell? ⟨bb, bo + kk.toNat * 14 + 2, none⟩ = some (.int .i64 fs) := hcell 2 _ rfl; have zf3 : wr.cell? ⟨bb, bo + kk.toNat * 14 + 3, none⟩ = some (.int .i64 fr) := hcell 3 _ rfl; have zf4 : wr.cell? ⟨bb, bo + kk.toNat * 14 + 4, none⟩ = some (.int .i64 fe) := hcell 4 _ rfl; have zf5 : wr.cell? ⟨bb, bo + kk.toNat * 14 + 5, none⟩ = some (.int .i64 fp) := hcell 5 _ rfl; have zf6 : wr.cell? ⟨bb, bo + kk.toNat * 14 + 6, none⟩ = some (.int .i64 fq) := hcell 6 _ rfl; have zf7 : wr.cell? ⟨bb, bo + kk.toNat * 14 + 7, none⟩ = some (.int .i64 fo) := hcell 7 _ rfl; have zf8 : wr.cell? ⟨bb, bo + kk.toNat * 14 + 8, none⟩ = some (.int .i64 fd) := hcell 8 _ rfl; have zf9 : wr.cell? ⟨bb, bo + kk.toNat * 14 + 9, none⟩ = some (.int .i64 fa) := hcell 9 _ rfl
   have zf10 : wr.cell? ⟨bb, bo + kk.toNat * 14 + 10, none⟩ = some (.int .i64 ft) := hcell 10 _ rfl; have zf11 : wr.cell? ⟨bb, bo + kk.toNat * 14 + 11, none⟩ = some (.int .i64 fh) := hcell 11 _ rfl; have zf12 : wr.cell? ⟨bb, bo + kk.toNat * 14 + 12, none⟩ = some (.int .i64 fc) := hcell 12 _ rfl; have zf13 : wr.cell? ⟨bb, bo + kk.toNat * 14 + 13, none⟩ = some (.float .f64 fx) := hcell 13 _ rfl; have kb := kA wr (.cells #[fk, fn, fs, fr, fe, fp, fq, fo, fd, fa, ft, fh, fc, fx] 39); have RF := hD (mH wr (.cells #[fk, fn, fs, fr, fe, fp, fq, fo, fd, fa, ft, fh, fc, fx] 39)); have hap := fun w1 (hk1 : Kp (wr.alloc (.cells #[fk, fn, fs, fr, fe, fp, fq, fo, fd, fa, ft, fh, fc, fx] 39)) w1) => SL.apply (HC.out.kp (kT hk (kT kb hk1))) (HE.out.kp (kT hk (kT kb hk1))) (hsl.kp (kT kb hk1)) hok (⟨fk, fn, fs, fr, fe, fp, fq, fo, fd, fa, ft, fh, fc, fx⟩ : FX) hwf
   have had := fun w2 (h : SD wb.heap.size w1.heap.size m w2) => SD.apply h hok (⟨fk, fn, fs, fr, fe, fp, fq, fo, fd, fa, ft, fh, fc, fx⟩ : FX) hwf
   dsimp only [FX.cells] at hap had; obtain ⟨AQ, hAQ⟩ : ∃ x, applyQ m (⟨fk, fn, fs, fr, fe, fp, fq, fo, fd, fa, ft, fh, fc, fx⟩ : FX) = x := ⟨_, rfl⟩
   have hok2 := applyQ_ok (f := (⟨fk, fn, fs, fr, fe, fp, fq, fo, fd, fa, ft, fh, fc, fx⟩ : FX)) hok; have hnd2 := applyQ_node (m := m) (f := (⟨fk, fn, fs, fr, fe, fp, fq, fo, fd, fa, ft, fh, fc, fx⟩ : FX)); rw [hAQ] at hap had hok2 hnd2; obtain ⟨ac, m2⟩ := AQ; dsimp only at hap had hok2 hnd2; obtain ⟨er, her⟩ : ∃ x, errI ads ac = x := ⟨_, rfl⟩
   rw [her] at hap; obtain ⟨HAP, HAD, HOK2⟩ := hD3 hap had hok2; have HND2 := hD (hnd2.trans hnd); have HSD := hD (hsd.kp kb); have KB := hD (kT hk kb); obtain ⟨u0, u1, u2, u3, u4, u5, u6, u7, u8, u9, u10, u11, u12, u13⟩ := cZ RF.out; clear hkk hj hlt hok hsl hsd hk htk hjx hwf hcell hF kb hap had hAQ hok2 her hnd hnd2; go_wp2_with (first | (go_at_call 11; (with_reducible refine (HAP.out _ (Kp.refl _)).mono ?_); rintro e' w5 ⟨rfl, s5, d5, x5, k5⟩; have S5 := hD s5; have D5 := hD (d5 _ _ _ HSD.out); have R5 := hD (x5 _ _ _ offL_fct RF.out); have K5 := hD (k5 wb KB.out (Nat.le_refl _)); obtain ⟨v0, v1, v2, v3, v4, v5, v6, v7, v8, v9, v10, v11, v12, v13⟩ := cZ (R5.out); clear s5 d5 x5 k5) | (go_at_call 12; (with_reducible refine (HAD.out _ D5.out).mono ?_); rintro e' w7 ⟨rfl, s7, d7, x7, k7⟩; have SD7 := hD s7; have SL7 := hD (d7 _ _ _ S5.out); have K7 := hD (k7 wb K5.out (Nat.le_refl _)); clear s7 d7 x7 k7))
   go_roundw
   case rel => exact ⟨j + 1, m2, by have := HLT.out; omega, by have := HKK.out; first | rw [show ((j + 1 : Nat) : Int) = kk + 1 by omega] | rw [show ((j + 1 : Nat) : Int) = kk + 1 by omega, hw1], HND2.out, HOK2.out, SL7.out, SD7.out, K7.out⟩
   case measure => have := HKK.out; have := HLT.out; simp [intOf]; omega
  ·have hje : ¬ kk < N := by have := HNN.out; omega
   obtain ⟨wf, hwf⟩ : ∃ x, x = wr := ⟨wr, rfl⟩
   subst hwf; obtain ⟨nF, hnF⟩ : ∃ x, (factsS m).length = x := ⟨_, rfl⟩
   have HFA := hD (fun w1 (hk1 : Kp wf w1) => SL.facts (hsl.kp hk1) hok nF hnF); have HFB := hD (fun w1 (hk1 : Kp wf w1) => SD.facts (hsd.kp hk1) hok nF hnF); obtain ⟨LF, hLF⟩ : ∃ x, factsS m = x := ⟨_, rfl⟩
   have HLF := hD hLF; have HFN := hD (show LF.length = nF by rw [← hLF]; exact hnF); have HNFS := hD hnF; have HWF := hD (show ∀ f ∈ LF, f.wf by rw [← hLF]; exact factsS_wf hok); have HF138 := hD (show nF ≤ 138 by rw [← hnF]; exact factsS_le hok); obtain ⟨NF, hNF⟩ : ∃ x : Int, (nF : Int) = x := ⟨_, rfl⟩
   obtain ⟨HNF, HOK, HND, KE, HSL, HSD⟩ := hD6 hNF hok hnd hk hsl hsd; clear hkk hj hlt hk hok hsl hsd hnF hLF hnd; go_wp2_with (first | (go_at_call 14; (with_reducible refine (HFA.out _ (Kp.refl _)).mono ?_); rintro e' w2 ⟨s1, c1, rfl, o1, hk2⟩; obtain ⟨K2, O0⟩ := hD2 hk2 o1; clear hk2 o1) | (go_at_call 15; (with_reducible refine (HFB.out _ K2.out).mono ?_); rintro e' w3 ⟨s2, c2, rfl, o2, hk3⟩; have K3 := hD (kT KE.out (kT K2.out hk3)); have K03 := hD (kT K2.out hk3); have O1 := hD (oK O0.out hk3); have O2 := hD o2; clear hk3 o2))
   have SL3 := hD (HSL.out.kp K03.out); have SD3 := hD (HSD.out.kp K03.out); have O1 := hD (show w3.ownsRow _ 39 14 (.slice s1 nF c1) nF (fcE.row LF) by rw [← HLF.out]; exact O1.out); have O2 := hD (show w3.ownsRow _ 42 14 (.slice s2 nF c2) nF (fcE.row LF) by rw [← HLF.out]; exact O2.out); go_loopw [59] (fun i wr => ∃ j : Nat, j ≤ nF ∧ i = .int .i64 j ∧ Kp w3 wr) (fun i _ => nF - (intOf i).toNat)
   case atStart => exact ⟨0, Nat.zero_le _, rfl, Kp.refl _⟩
   case round =>
    obtain ⟨j, hj, rfl, hk⟩ := hrel; obtain ⟨kk, hkk⟩ : ∃ x : Int, (j : Int) = x := ⟨_, rfl⟩
    rw [hkk]; obtain ⟨HKK, KR⟩ := hD2 hkk hk
    by_cases hlt : j < nF
    ·have hjl : kk < NF := by have := HNF.out; omega
     have hk0 : 0 ≤ kk := by omega
     have htk : kk.toNat = j := by omega
     have hN8 : NF ≤ 138 := by have := HNF.out; have := HF138.out; omega
     have hw1 : wrap64 (kk + 1) = kk + 1 := IntWalk.wrap64_in _ (by omega); have HLT := hD hlt; have hjx : j < LF.length := by have := HFN.out; omega
     obtain ⟨⟨fk, fn, fs, fr, fe, fp, fq, fo, fd, fa, ft, fh, fc, fx⟩, hF⟩ : ∃ f, LF[j]'hjx = f := ⟨_, rfl⟩
     obtain ⟨ga, cga, ega, h1ga, h2ga, h3ga, h4ga, hcga⟩ := cQ (E := fcE) (oK O1.out hk) HFN.out hlt; have ega := congrArg (fun v => match v with | Value.slice a _ _ => a | _ => none) ega; dsimp only at ega; subst ega; have hdga : ∀ (i : Nat) (u : Value), i < fcE.k → (fcE.enc ((LF)[j]'hjx))[i]? = some u → wr.cell? ⟨ga, j * fcE.k + i, none⟩ = some u := hcga; rw [hF, show fcE.k = 14 from rfl, ← htk] at hdga; obtain ⟨za0, za1, za2, za3, za4, za5, za6, za7, za8, za9, za10, za11, za12, za13⟩ := cW14 hdga; obtain ⟨gb, cgb, egb, h1gb, h2gb, h3gb, h4gb, hcgb⟩ := cQ (E := fcE) (oK O2.out hk) HFN.out hlt; have egb := congrArg (fun v => match v with | Value.slice a _ _ => a | _ => none) egb; dsimp only at egb; subst egb; have hdgb : ∀ (i : Nat) (u : Value), i < fcE.k → (fcE.enc ((LF)[j]'hjx))[i]? = some u → wr.cell? ⟨gb, j * fcE.k + i, none⟩ = some u := hcgb; rw [hF, show fcE.k = 14 from rfl, ← htk] at hdgb
     obtain ⟨zb0, zb1, zb2, zb3, zb4, zb5, zb6, zb7, zb8, zb9, zb10, zb11, zb12, zb13⟩ := cW14 hdgb; have hwf : FX.wf (⟨fk, fn, fs, fr, fe, fp, fq, fo, fd, fa, ft, fh, fc, fx⟩ : FX) := by rw [← hF]; exact HWF.out _ (List.getElem_mem hjx)
     have hsm := fun w => refSame14_any (⟨fk, fn, fs, fr, fe, fp, fq, fo, fd, fa, ft, fh, fc, fx⟩ : FX) (⟨fk, fn, fs, fr, fe, fp, fq, fo, fd, fa, ft, fh, fc, fx⟩ : FX) hwf hwf w
     simp only [same_refl14] at hsm
     dsimp only [FX.cells] at hsm; have HSM := hD hsm; have RF := hD (mH wr (.cells #[fk, fn, fs, fr, fe, fp, fq, fo, fd, fa, ft, fh, fc, fx] 39)); have kb := kA wr (.cells #[fk, fn, fs, fr, fe, fp, fq, fo, fd, fa, ft, fh, fc, fx] 39); obtain ⟨zb0, zb1, zb2, zb3, zb4, zb5, zb6, zb7, zb8, zb9, zb10, zb11, zb12, zb13⟩ := kZ14 kb zb0 zb1 zb2 zb3 zb4 zb5 zb6 zb7 zb8 zb9 zb10 zb11 zb12 zb13; clear hkk hj hlt hk htk hjx hF hwf hsm kb h1ga h2ga h3ga h4ga hcga hdga h1gb h2gb h3gb h4gb hcgb hdgb; go_wp2_with fail
     obtain ⟨WD, hWD⟩ : ∃ x, (wr.alloc (.cells #[fk, fn, fs, fr, fe, fp, fq, fo, fd, fa, ft, fh, fc, fx] 39)).drew = x := ⟨_, rfl⟩
     have kD : Kp (wr.alloc (.cells #[fk, fn, fs, fr, fe, fp, fq, fo, fd, fa, ft, fh, fc, fx] 39)) WD := by rw [← hWD]; exact dQ (Kp.refl _)
     have HWD := hD hWD; clear hWD; refine rgW (fun w' => Kp (wr.alloc (.cells #[fk, fn, fs, fr, fe, fp, fq, fo, fd, fa, ft, fh, fc, fx] 39)) w') ?_ fun hH => ?_
     ·exact by rw [HWD.out]; exact kD
     rw [HWD.out] at hH ⊢; refine tkP 0 ?_ (y := by intro w hZ; obtain ⟨a0, a1, a2, a3, a4, a5, a6, a7, a8, a9, a10, a11, a12, a13⟩ := cZ (rZ hZ RF.out); go_simp; try rfl)
     go_simp; refine tkP 1 ?_
     go_simp; refine tkP 2 ?_
     go_simp; refine tkP 3 ?_
     go_simp; refine tkP 4 ?_ (y := by intro w hZ; obtain ⟨a0, a1, a2, a3, a4, a5, a6, a7, a8, a9, a10, a11, a12, a13⟩ := kZ14 hZ zb0 zb1 zb2 zb3 zb4 zb5 zb6 zb7 zb8 zb9 zb10 zb11 zb12 zb13; go_simp; try rfl)
     go_simp; refine rdW 5 fun K hK => ?_
     go_simp; go_wp2_with (go_at_call 16; (with_reducible refine (HSM.out _).mono ?_); rintro e' w8 ⟨rfl, hk8⟩)
     refine hK.out _ _ (kT hH hk8) fun hH => ?_
     clear hK K; refine tkP 6 ?_
     go_simp; refine dnW ?_ _
     have KF := hD (show Kp (wr.alloc (.cells #[fk, fn, fs, fr, fe, fp, fq, fo, fd, fa, ft, fh, fc, fx] 39)) _ from hH); clear hH; go_wp2; go_roundw
     case rel => exact ⟨j + 1, by have := HLT.out; omega, by have := HKK.out; first | rw [show ((j + 1 : Nat) : Int) = kk + 1 by omega] | rw [show ((j + 1 : Nat) : Int) = kk + 1 by omega, hw1], kT KR.out (kT (kA wr (.cells #[fk, fn, fs, fr, fe, fp, fq, fo, fd, fa, ft, fh, fc, fx] 39)) KF.out)⟩
     case measure => have := HKK.out; have := HLT.out; simp [intOf]; omega
    ·have hje : ¬ kk < NF := by have := HNF.out; omega
     have K5 := hD (show Kp wb wr from kT K3.out hk); have O15 := hD (show wr.ownsRow _ 39 14 (.slice s1 nF c1) nF (fcE.row (factsS m)) by rw [HLF.out]; exact oK O1.out hk); have SL5 := hD (SL3.out.kp hk); have SD5 := hD (SD3.out.kp hk); obtain ⟨wz, hwz⟩ : ∃ x, x = wr := ⟨wr, rfl⟩
     subst hwz; have HRO := hD (rows15 (HV.out.below K5.out) (HC.out.kp K5.out) HOK.out s1 c1 nF HNFS.out O15.out); have HRE := hD (fun a2 c2 w2 (hk2 : Kp wz w2) h => replay15 (HC.out.kp (kT K5.out hk2)) (HE.out.kp (kT K5.out hk2)) HOK.out nd HND.out a2 c2 nF HNFS.out h (SL5.out.kp hk2)); clear hkk hj hlt hk; have hap := fun w1 B1 q1 B2 q2 mx (hk1 : Kp wb w1) (h : SLL B1 q1 m B2 q2 mx w1) => SLL.apply (HC.out.kp hk1) (HE.out.kp hk1) h HOK.out (⟨gk, gn, gs, gr, ge, gp, gq, go, gd, ga, gt, gh, gc, gx⟩ : FX) HGW.out
     dsimp only [FX.cells] at hap; obtain ⟨AQ, hAQ⟩ : ∃ x, applyQ m (⟨gk, gn, gs, gr, ge, gp, gq, go, gd, ga, gt, gh, gc, gx⟩ : FX) = x := ⟨_, rfl⟩
     have hok2 := applyQ_ok (f := (⟨gk, gn, gs, gr, ge, gp, gq, go, gd, ga, gt, gh, gc, gx⟩ : FX)) HOK.out; have hrng := applyQ_rng (m := m) (f := (⟨gk, gn, gs, gr, ge, gp, gq, go, gd, ga, gt, gh, gc, gx⟩ : FX)); rw [hAQ] at hap hok2 hrng; obtain ⟨ac, m2⟩ := AQ; dsimp only at hap hok2 hrng; have hnum := fun w1 (hk : Kp wb w1) => num_errN ads w1 (HV.out.below hk) ac hrng.1 hrng.2
     obtain ⟨er, her⟩ : ∃ x, errI ads ac = x := ⟨_, rfl⟩
     rw [her] at hap hnum; obtain ⟨HNUM, HOK2⟩ := hD2 hnum hok2; have hap1 := hap; clear hnum hok2 hrng her hAQ; go_wp2_with (first | (go_at_call 17; (with_reducible refine HRO.out.mono ?_); rintro e' w6 ⟨a2, c2, rfl, hsl, hk6⟩; obtain ⟨K6, S6⟩ := hD2 hk6 hsl; clear hk6 hsl) | (go_at_call 18; (with_reducible refine (HRE.out a2 c2 _ K6.out S6.out).mono ?_); rintro e' w7 ⟨qt, rfl, hll, hk7⟩; have K7 := hD (kT K6.out hk7); have L7 := hD hll; clear hk7 hll) | (go_at_call 19; (with_reducible refine (SL.same (HC.out.kp (kT K5.out K7.out)) L7.out.fst L7.out.snd HOK.out).mono ?_); rintro e' w8 ⟨rfl, hk8⟩; have K8 := hD (kT K7.out hk8); have L8 := hD (L7.out.kp hk8); clear hk8) | (go_at_call 13; (with_reducible refine (SL.both L8.out.snd (SD5.out.kp K8.out) HOK.out).mono ?_); rintro e' w9 ⟨rfl, hk9⟩; have K9 := hD (kT K5.out (kT K8.out hk9)); have SLLP := hD (L8.out.kp hk9); clear hk9))
     have HBT := hD (show wb.heap.size ≤ w6.heap.size from kS (kT K5.out K6.out)); have HAP := hD (fun w1 B1 q1 B2 q2 mx (hk1 : Kp wb w1) (h : SLL B1 q1 m B2 q2 mx w1) => hap1 w1 B1 q1 B2 q2 mx hk1 h); clear hap1 hap; obtain ⟨WD, hWD⟩ : ∃ x, (w9).drew = x := ⟨_, rfl⟩
     have kD : Kp (w9) WD := by rw [← hWD]; exact dQ (Kp.refl _)
     have HWD := hD hWD; clear hWD; refine rgW (fun w' => Kp wb w') ?_ fun hH => ?_
     ·exact by rw [HWD.out]; exact kT K9.out kD
     rw [HWD.out] at hH ⊢; refine tkP 0 ?_
     go_simp; refine tkP 1 ?_ (y := by intro w hZ; obtain ⟨a0, a1, a2, a3, a4, a5, a6, a7, a8, a9, a10, a11, a12, a13⟩ := cZ (rZ hZ RMB.out); go_simp; try rfl)
     go_simp; refine tkP 3 ?_
     go_simp; refine tkP 4 ?_ (y := by intro w hZ; obtain ⟨a0, a1, a2, a3, a4, a5, a6, a7, a8, a9, a10, a11, a12, a13⟩ := cZ (rZ hZ RMB.out); go_simp; try rfl)
     go_simp; refine rdW 2 fun K hK => ?_
     go_simp; go_wp2_with (go_at_call 11; (with_reducible refine (HAP.out _ _ _ _ _ _ (show Kp wb _ from hH) (SLLP.out.kp kD)).mono ?_); rintro e' w9 ⟨rfl, p9, k9⟩)
     refine hK.out _ _ (k9 wb hH (Nat.le_refl _)) fun hH => ?_
     clear hK K; refine rdW 5 fun K hK => ?_
     go_simp; go_wp2_with (go_at_call 11; (with_reducible refine (HAP.out _ _ _ _ _ _ (show Kp wb _ from hH) p9.symm).mono ?_); rintro e' w10 ⟨rfl, p10, k10⟩; have P10 := hD p10)
     refine hK.out _ _ (k10 wb hH HBT.out) fun hH => ?_
     clear hK K; refine tkP 6 ?_
     go_simp; refine tkP 7 ?_
     go_simp; refine dnW ?_ _
     have KF := hD (show Kp wb _ from hH); clear hH; go_wp2_with (first | (go_at_call 10; (with_reducible refine (HNUM.out _ K11.out).mono ?_); rintro e' w12 ⟨rfl, hk12⟩; have K12 := hD (kT K11.out hk12); have P12 := hD (P11.out.kp hk12); clear hk12) | (go_at_call 10; (with_reducible refine (HNUM.out _ KF.out).mono ?_); rintro e' w11 ⟨rfl, hk11⟩; have K11 := hD (kT KF.out hk11); have P11 := hD (P10.out.kp hk11); clear hk11) | (go_at_call 19; (with_reducible refine (SL.same (HC.out.kp K12.out) P12.out.snd P12.out.fst HOK2.out).mono ?_); rintro e' w13 ⟨rfl, hk13⟩; have K13 := hD (kT K12.out hk13); clear hk13))
     go_ret; exact ⟨rfl, kT KMB.out K13.out⟩
open Go.RowKit
theorem storeFacts_walk (node : Int) (v : Value) (list : List FX) (more : FX) (W : World) (_kn : -9223372036854775808 ≤ node ∧ node ≤ 9223372036854775807) (k1 : SlFc v list W) (_k2 : list.length ≤ maxLen) (k3 : more.wf) (hL : laidMetH Tryz.prog Rows.storeFactsRow.laid W) :
  Calls Tryz.prog 4 #[.int .i64 node, v, .agg more.cells] W fun e w' => e = .returned (.bool true) ∧ Below W.heap.size W w' := by
 obtain ⟨⟨ads, V⟩, T⟩ := st_tab_of (l := Rows.storeFactsRow.laid) (by kernel_rfl) (by kernel_rfl) (by kernel_rfl) hL; have C := facC_of ads W V T; have E : EP [0, 3, 4, 8, 13] ads W := ep_of_st V (by decide); exact facts_any15 node v list more V C E k1 k3
open Go.ChangeShapes Go.WideShapes Go.ChangeAt Go.WideMaps Go.WideElems Go.RowKit
theorem storeFacts_lifted (os : Os) (started : os.Started) (H : Type) (enc : TypeId × Value → H) :
  ReturnsInHanded {} Tryz.checked os 4 .any (fun w args => (Rows.storeFactsSpec.pre enc Tryz.prog Tryz.f4 [] false w args ∧ laidMetH Tryz.prog Rows.storeFactsRow.laid w) ∧ sizedMet enc Tryz.prog Tryz.f4 (OpenSpec.ofChange Rows.storeFactsSpec) false w args)
   (Rows.storeFactsSpec.post enc Tryz.prog Tryz.f4 false true false false) := by
 refine returnsInHanded_of_change_and (C := Tryz.checked) (X := fun w _ => laidMetH Tryz.prog Rows.storeFactsRow.laid w) (fun _ _ _ hh h => h.of_heap hh) own started (by kernel_rfl) Tryz.func4
  (ChangeSpec.witness_shaped (enc := enc) (C := Tryz.checked) (os := os) (X := fun w _ => laidMetH Tryz.prog Rows.storeFactsRow.laid w) false (World.laidAll Tryz.prog os Rows.storeFactsRow.laid) #[.int .i64 0, .slice none 0 0, .agg #[(0:Int), (0:Int), (0:Int), (0:Int), (0:Int), (0:Int), (0:Int), (0:Int), (0:Int), (0:Int), (0:Int), (0:Int), (0:Int), .float .f64 0]] 8 (World.laidAll_os _ _ _) (World.shaped_of_ZipB (by kernel_rfl) (by kernel_rfl)) (by kernel_rfl) (by kernel_rfl) (by kernel_rfl) (by rw [MakeChecks.laidMetH_plain _ _ _ (by kernel_rfl)]; exact laidMet_laidAll _ (by kernel_rfl) (by kernel_rfl))) ?_
 intro W base args ds gs before hval0 hW _ hsz hL _; have hval : ∀ (j : Nat) t v, Tryz.f4.params[j]? = some t → args[j]? = some v → Value.okWide Tryz.prog W .any base t v := hval0; have hW' := hW; obtain ⟨p, q, hA0, hV, rfl, hfz, hnd⟩ := hW; have hA : DataW.TrodAll enc Tryz.prog W 0 (fun _ => true) true Tryz.f4.params.toList args.toList ds p := hA0; rw [Tryz.params4] at hA hval; obtain ⟨v0, vs0, d0, ds0, p0, q0, e0, rfl, rfl, h0, r0⟩ := trodAll_cons hA; obtain ⟨v1, vs1, d1, ds1, p1, q1, e1, rfl, rfl, h1, r1⟩ := trodAll_cons r0; obtain ⟨v2, vs2, d2, ds2, p2, q2, e2, rfl, rfl, h2, r2⟩ := trodAll_cons r1; obtain ⟨rfl, rfl, rfl⟩ := trodAll_nil r2; obtain rfl : args = #[v0, v1, v2] := by cases args; simp_all
 obtain ⟨rfl, rfl⟩ := trodVars_none hV; obtain ⟨node, rfl, rfl, rfl, hnode⟩ := open_int Tryz.underlying3 (hval 0 3 v0 rfl rfl) h0; obtain ⟨list, klista, klistb⟩ := open_fcts (hval 1 22 v1 rfl rfl) h1; obtain ⟨more, rfl, kmore⟩ := open_fct (hval 2 39 v2 rfl rfl) h2; clear hA0 hval0; have knode : -9223372036854775808 ≤ node ∧ node ≤ 9223372036854775807 := by simpa [Lit.wf, IntKind.min, IntKind.max, IntKind.bits, IntKind.signed] using hnode
 refine (storeFacts_walk node v1 list more W knode klista klistb kmore hL).mono fun e W' ⟨he, hw⟩ => ?_
 subst he; exact ⟨_, rfl, law_post laidOut hW' rfl rfl rfl Tryz.underlying4 (par_ok (by kernel_rfl)) hw⟩
theorem storeFacts_said : Rows.StoreFactsSaid :=
 OpenClaim.holds_of_wide 4 Tryz.f4 rfl rfl rfl rfl rfl rfl rfl ⟨rfl, rfl, rfl, rfl, rfl⟩ rfl rfl rfl rfl rfl (by kernel_rfl) Tryz.func4 (by kernel_rfl)
  (of_decide_eq_true (by kernel_rfl)) (by unfold Func.isWrapper; first | (rw [if_pos (by decide +kernel)]; kernel_rfl) | (rw [if_neg (by decide +kernel)]; exact ⟨rfl, rfl⟩))
  (fun os started H enc _ => storeFacts_lifted os started H enc)
theorem storeFacts_holds : Rows.StoreFactsCardSaid :=
 Claim7.holds_tied_plain_at .later [] _ _ _ _ storeFacts_said (fun _ h => by cases h) (by kernel_rfl) (fun _ h => by cases h) storeFacts_row_tie rfl ⟨rfl, rfl⟩ (by kernel_rfl) rfl
  (fun f fn hf hfn => by
   obtain rfl : f = 4 := Option.some.inj ((show Tryz.prog.funcNamed "liaison/liaisonlaw15.StoreFacts" = some 4 by kernel_rfl).symm.trans hf) |>.symm
   obtain rfl : fn = Tryz.f4 := (Option.some.inj (Tryz.func4.symm.trans hfn)).symm; exact ⟨by kernel_rfl, stand_ok (P := Tryz.prog) (by kernel_rfl)⟩)
  (by kernel_rfl)
end Go.Proofs.YtpemeenfhkgmpaaGreatDoor
