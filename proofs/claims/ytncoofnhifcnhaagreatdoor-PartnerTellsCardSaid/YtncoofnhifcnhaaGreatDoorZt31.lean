/- Parts of this proof (own work). -/
import Derived.Test.YtncoofnhifcnhaaGreatDoorZt30
import Derived.Test.YtncoofnhifcnhaaGreatDoorZt12
set_option maxRecDepth 100000
set_option maxHeartbeats 40000000
namespace Go.Proofs.YtncoofnhifcnhaaGreatDoor
open Go.RowKit Go.ChangeShapes Go.WideShapes
theorem rules_any (k : Int) (h : 1 ≤ k ∧ k ≤ 8) (B : Nat) (w : World) (hB : B < w.heap.size) : Calls Tryz.prog 107 #[.int .i64 k] w fun e w' => ∃ v, e = .returned v ∧ RuL B v (rulesM k) w' ∧ Kp w w' := by
 have hk : k = 1 ∨ k = 2 ∨ k = 3 ∨ k = 4 ∨ k = 5 ∨ k = 6 ∨ k = 7 ∨ k = 8 := by omega
 rcases hk with rfl | rfl | rfl | rfl | rfl | rfl | rfl | rfl
 ·exact rules_1 B w hB
 ·exact rules_2 B w hB
 ·exact rules_3 B w hB
 ·exact rules_4 B w hB
 ·exact rules_5 B w hB
 ·exact rules_6 B w hB
 ·exact rules_7 B w hB
 ·exact rules_8 B w hB
theorem rulesM_len (k : Int) : (rulesM k).length ≤ 5 := by
 unfold rulesM
 split
 ·decide
 split
 ·decide
 split
 ·decide
 split
 ·decide
 split
 ·decide
 split
 ·decide
 split
 ·decide
 split <;> decide
theorem seat_call (B : Nat) (k n s r u p q o d a t hh c : Int) (x : Nat) (w : World) (hB : w.heap[B]? = some (.cells #[k, n, s, r, u, p, q, o, d, a, t, hh, c, x] 73 (0, 0))) :
  Calls Tryz.prog 147 #[.pointer (some ⟨B, 0, none⟩)] w fun e w' => e = .returned (.bool (seatX t hh)) ∧ w'.heap[B]? = some (.cells #[k, n, s, r, u, p, q, o, d, a, (0:Int), (0:Int), c, x] 73 (0, 0)) ∧ Xb B w w' := by
 by_cases h : 1 ≤ t ∧ t ≤ 14
 ·exact seat_t B k n s r u p q o d a t hh c x w hB h
 ·exact seat_f B k n s r u p q o d a t hh c x w hB h
theorem act_ru (ads : List Addr) (w0 : World) (V : St ads w0) (T : Tab w0) (B : Nat) (hB0 : w0.heap.size ≤ B) (l : List Int) (hl : l.length = 13) (y : Nat) (w : World) (K : Kp w0 w) (hB : w.heap[B]? = some (.cells (numsF l y) 73 (0, 0))) :
  Calls Tryz.prog 146 #[.pointer (some ⟨B, 0, none⟩)] w fun e w' => e = .returned (.bool (RuM.ok .act l y)) ∧ w'.heap[B]? = some (.cells (numsF (RuM.tkL .act l) y) 73 (0, 0)) ∧ Xb B w w' := by
 obtain ⟨k, n, s, r, u, p, q, o, d, a, t, hh, c, rfl⟩ := thirteen hl; exact act_call ads w0 V T B hB0 k n s r u p q o d a t hh c y w K hB
theorem ctx_ru (ads : List Addr) (w0 : World) (V : St ads w0) (T : Tab w0) (B : Nat) (hB0 : w0.heap.size ≤ B) (l : List Int) (hl : l.length = 13) (y : Nat) (hy : y < 18446744073709551616) (w : World) (K : Kp w0 w) (hB : w.heap[B]? = some (.cells (numsF l y) 73 (0, 0))) :
  Calls Tryz.prog 145 #[.pointer (some ⟨B, 0, none⟩)] w fun e w' => e = .returned (.bool (RuM.ok .ctx l y)) ∧ w'.heap[B]? = some (.cells (numsF (RuM.tkL .ctx l) 0) 73 (0, 0)) ∧ Xb B w w' := by
 obtain ⟨k, n, s, r, u, p, q, o, d, a, t, hh, c, rfl⟩ := thirteen hl; exact ctx_call ads w0 V T B hB0 k n s r u p q o d a t hh c y w K hB hy
theorem seat_ru (B : Nat) (l : List Int) (hl : l.length = 13) (y : Nat) (w : World) (hB : w.heap[B]? = some (.cells (numsF l y) 73 (0, 0))) :
  Calls Tryz.prog 147 #[.pointer (some ⟨B, 0, none⟩)] w fun e w' => e = .returned (.bool (RuM.ok .seat l y)) ∧ w'.heap[B]? = some (.cells (numsF (RuM.tkL .seat l) y) 73 (0, 0)) ∧ Xb B w w' := by
 obtain ⟨k, n, s, r, u, p, q, o, d, a, t, hh, c, rfl⟩ := thirteen hl; exact seat_call B k n s r u p q o d a t hh c y w hB
def RuM.safe : RuM → Prop
 | .rg tag _ _ => 2 ≤ tag
 | _ => True
theorem rulesM_safe (k : Int) : ∀ r ∈ rulesM k, r.safe := by
 have hs : ∀ (l : List RuM), (l.all fun r => match r with | .rg tag _ _ => decide (2 ≤ tag) | _ => true) = true → ∀ r ∈ l, r.safe := by
  intro l h r hr; have := List.all_eq_true.1 h r hr
  cases r with
  | rg tag lo hi => exact (of_decide_eq_true this : 2 ≤ tag)
  | act => trivial
  | ctx => trivial
  | seat => trivial
 refine hs _ ?_
 unfold rulesM
 split
 ·decide
 split
 ·decide
 split
 ·decide
 split
 ·decide
 split
 ·decide
 split
 ·decide
 split
 ·decide
 split <;> decide
theorem safe_head {r : RuM} (h : r.safe) (l : List Int) : (r.tkL l).getD 0 0 = l.getD 0 0 := by
 cases r with
 | rg tag lo hi =>
  have h2 : 2 ≤ tag := h; simp only [RuM.tkL, List.getD]
  rw [List.getElem?_set_ne (by omega)]
 | act => simp [RuM.tkL, List.getD]
 | ctx => simp [RuM.tkL, List.getD]
 | seat => simp [RuM.tkL, List.getD]
structure RiS (k : Int) (w0 : World) (B : Nat) (g : Nat) (rs : List RuM) (o : Option (List Int × Nat)) (j : Nat) (wr : World) : Prop where
 kW : Kp w0 wr
 lst : RuL B (.slice (some ⟨g, 0, none⟩) rs.length rs.length) rs wr
 ex : ∃ l x, l.length = 13 ∧ l.getD 0 0 = k ∧ x < 18446744073709551616 ∧ wr.heap[B]? = some (.cells (numsF l x) 73 (0, 0)) ∧ o = runR (rs.drop j) l x
theorem facRight_far (f : FX) (w : World) (hk : ¬ (1 ≤ f.k ∧ f.k ≤ 8)) : Calls Tryz.prog 70 #[.agg f.cells] w fun e w' => e = .returned (.bool (rightF f)) ∧ Kp w w' := by
 rw [right_far hk]; obtain ⟨k, n, s, r, u, p, q, o, d, a, t, hh, c, x⟩ := f; dsimp only [FX.cells] at hk ⊢; have HR := hD (mH w (.cells #[k, n, s, r, u, p, q, o, d, a, t, hh, c, x] 73)); obtain ⟨b0, b1, b2, b3, b4, b5, b6, b7, b8, b9, b10, b11, b12, b13⟩ := cZ HR.out; have K := hD (kA w (.cells #[k, n, s, r, u, p, q, o, d, a, t, hh, c, x] 73)); have h1 : decide (1 ≤ k ∧ k ≤ 8) = false := dF hk; have HW := hD (fun w1 => within_any k 1 8 w1); simp only [h1] at HW
 clear hk h1; go_enter Tryz.func70, Tryz.ntmps70; go_wp2_with (go_at_call 106; (with_reducible refine (HW.out _).mono ?_); rintro e w' ⟨rfl, rfl⟩)
 go_ret; exact ⟨rfl, K.out⟩
theorem facRight_in (ads : List Addr) (f : FX) (hf : f.wf) (w : World) (V : St ads w) (T : Tab w) (hk : 1 ≤ f.k ∧ f.k ≤ 8) : Calls Tryz.prog 70 #[.agg f.cells] w fun e w' => e = .returned (.bool (rightF f)) ∧ Kp w w' := by
 rw [right_rules hk]; obtain ⟨B, hB⟩ : ∃ y, w.heap.size = y := ⟨_, rfl⟩
 have hr := (mH w (.cells f.cells 73))
 have kb := kA w (.cells f.cells 73); have hs : B < (w.alloc (.cells f.cells 73)).heap.size := by rw [← hB]; simp
 rw [hB] at hr; obtain ⟨nl, hnl⟩ : ∃ y, f.nums = y := ⟨_, rfl⟩
 have hll : nl.length = 13 := by rw [← hnl]; rfl
 have HNL := hD hnl; obtain ⟨k, n, s, r, u, p, q, o, d, a, t, hh, c, x⟩ := f; dsimp only [FX.cells] at hk hr kb hs ⊢; have hr1 := hr.trans (show some (Obj.cells #[k, n, s, r, u, p, q, o, d, a, t, hh, c, x] 73 (0, 0)) = some (Obj.cells (numsF nl x) 73 (0, 0)) by rw [← hnl]; rfl); rw [hnl]; obtain ⟨b0, b1, b2, b3, b4, b5, b6, b7, b8, b9, b10, b11, b12, b13⟩ := cZ hr; have h1 : decide (1 ≤ k ∧ k ≤ 8) = true := dT hk; have HW := hD (fun w1 => within_any k 1 8 w1); simp only [h1] at HW
 have HRU := rules_any k hk B _ hs; have h5 := rulesM_len k; have hsafe := rulesM_safe k; obtain ⟨rs, hrs⟩ : ∃ y, rulesM k = y := ⟨_, rfl⟩
 rw [hrs] at HRU h5 hsafe ⊢; have HSA := hD hsafe; obtain ⟨nn, hn⟩ : ∃ y, rs.length = y := ⟨_, rfl⟩
 rw [hn] at h5; have HN := hD hn; have HRU2 : Calls Tryz.prog 107 #[.int .i64 k] (w.alloc (.cells #[k, n, s, r, u, p, q, o, d, a, t, hh, c, x] 73)) fun e w' => ∃ g, e = .returned (.slice (some ⟨g, 0, none⟩) nn nn) ∧ RuL B (.slice (some ⟨g, 0, none⟩) rs.length rs.length) rs w' ∧ Kp (w.alloc (.cells #[k, n, s, r, u, p, q, o, d, a, t, hh, c, x] 73)) w' :=
  HRU.mono (by
   rintro e w2 ⟨v, rfl, hv, hk2⟩; obtain ⟨g, vs, rfl, h6⟩ := hv; exact ⟨g, by rw [hn], ⟨g, vs, rfl, h6⟩, hk2⟩)
 have HRU2 := hD HRU2; clear HRU; obtain ⟨HR1, KB, HB, V0, T0⟩ := hD5 hr1 kb hB V T; have HF := hD (show x < 18446744073709551616 from hf); have HLL := hD hll; have HHD := hD (show nl.getD 0 0 = k by rw [← hnl]; rfl); clear hk h1 hnl hr hr1 kb hs hf V T hrs hn hll hsafe; go_enter Tryz.func70, Tryz.ntmps70; go_wp2_with (go_at_call 106; (with_reducible refine (HW.out _).mono ?_); rintro e w' ⟨rfl, rfl⟩)
 with_reducible refine HRU2.out.mono ?_
 rintro e w2 ⟨g, rfl, hv, hk2⟩; have K2 := hD (kT KB.out hk2); have R2 := hD (rZ hk2 HR1.out); have HV := hD hv; clear hk2 hv; go_wp2; have HL : RiS k w B g rs (runR rs nl x) 0 w2 := ⟨K2.out, HV.out, nl, x, HLL.out, HHD.out, HF.out, R2.out, rfl⟩
 have HL := hD HL; clear HRU2 R2 HV K2; go_loopw [13] (fun i wr => ∃ j : Nat, j ≤ nn ∧ i = .int .i64 j ∧ RiS k w B g rs (runR rs nl x) j wr) (fun i _ => nn - (intOf i).toNat)
 case atStart => exact ⟨0, Nat.zero_le _, rfl, HL.out⟩
 case round =>
  obtain ⟨j, hj, rfl, hi⟩ := hrel; obtain ⟨jj, hjj⟩ : ∃ jj : Int, (j : Int) = jj := ⟨_, rfl⟩
  rw [hjj]; obtain ⟨kW, lst, l, y, hl, hk0, hy, hrow, hex⟩ := hi; obtain ⟨KW, LST⟩ := hD2 kW lst
  by_cases hlt : j < nn
  ·have hjr : j < rs.length := by rw [HN.out]; exact hlt
   obtain ⟨g', vs, hv, hgB, hvl, ⟨ty, fr, hg⟩, hru⟩ := lst; injection hv with hv1 _ _
   injection hv1 with hv2
   injection hv2 with hv3 _ _
   subst hv3; have hjv : j < vs.length := by omega
   have hru1 := hru j vs[j] rs[j] (List.getElem?_eq_getElem hjv) (List.getElem?_eq_getElem hjr); have hdr : rs.drop j = rs[j] :: rs.drop (j + 1) := List.drop_eq_getElem_cons hjr; rw [hdr, runR] at hex; have hst := HSA.out rs[j] (List.getElem_mem hjr); have cv : wr.cell? ⟨g, j, none⟩ = some vs[j] := by
    unfold World.cell?; dsimp only; rw [hg]
    simp [hjv]
   obtain ⟨vj, hvj⟩ : ∃ z, vs[j] = z := ⟨_, rfl⟩
   obtain ⟨r0, hr0⟩ : ∃ z, rs[j] = z := ⟨_, rfl⟩
   rw [hvj] at cv hru1; rw [hr0] at hru1 hex hst hdr; have ej : jj.toNat = j := by omega
   rw [← ej] at cv; have j0 : 0 ≤ jj := by omega
   have hltj : jj < nn := by omega
   clear hru hg hvl hgB hjv hvj hr0
   cases r0 with
   | rg tag lo hi =>
    obtain ⟨p0, q0, s0, rfl, hn0, ht0, hp0, hq0, hs0⟩ := hru1
    cases hok : RuM.ok (.rg tag lo hi) l y with
    | false =>
     rw [if_neg (by rw [hok]; decide)] at hex; have HFA := hD (show leftF k (runR rs nl x) = false by rw [hex]; rfl); have HC := rg_call tag (tag : Int) lo hi rfl ht0 B p0 q0 s0 l y hl wr hrow hn0 hp0 hq0 hs0; rw [hok] at HC; have HC := hD HC; clear hok hex hrow kW hjr hlt ej hjj hdr hl hy hk0 hst; go_wp2_with (go_at_call 175; (with_reducible refine HC.out.mono ?_); rintro e w5 ⟨rfl, hb5, hx5⟩; have HX5 := hD hx5; clear hb5 hx5)
     go_ret; exact ⟨by rw [HFA.out]; rfl, HX5.out.below (Nat.le_of_eq HB.out) KW.out⟩
    | true =>
     rw [if_pos hok] at hex; have HEX := hD hex; have HC := rg_call tag (tag : Int) lo hi rfl ht0 B p0 q0 s0 l y hl wr hrow hn0 hp0 hq0 hs0; rw [hok] at HC; obtain ⟨HC, HJ⟩ := hD2 HC hjj; have HH2 := hD (show (RuM.tkL (.rg tag lo hi) l).getD 0 0 = k by rw [safe_head hst]; exact hk0); have HL2 := hD (show (RuM.tkL (.rg tag lo hi) l).length = 13 by rw [RuM.tkL_len]; exact hl); have HY2 := hD (RuM.tkX_wf (.rg tag lo hi) hy); clear hok hex hrow kW hjr ej hjj hdr hl hy hk0 hst; go_wp2_with (go_at_call 175; (with_reducible refine HC.out.mono ?_); rintro e w5 ⟨rfl, hb5, hx5⟩; obtain ⟨HX5, HB5⟩ := hD2 hx5 hb5; clear hb5 hx5)
     have hjj := HJ.out; go_roundw
     case rel => exact ⟨j + 1, by omega, by congr 1; omega, HX5.out.below (Nat.le_of_eq HB.out) KW.out, LST.out.xb HX5.out, _, _, HL2.out, HH2.out, HY2.out, HB5.out, HEX.out⟩
     case measure => simp [intOf]; omega
   | act =>
    obtain rfl : vj = _ := hru1
    cases hok : RuM.ok .act l y with
    | false =>
     rw [if_neg (by rw [hok]; decide)] at hex; have HFA := hD (show leftF k (runR rs nl x) = false by rw [hex]; rfl); have HC := act_ru ads w V0.out T0.out B (Nat.le_of_eq HB.out) l hl y wr kW hrow; rw [hok] at HC; have HC := hD HC; clear hok hex hrow kW hjr hlt ej hjj hdr hl hy hk0 hst; go_wp2_with (go_at_call 146; (with_reducible refine HC.out.mono ?_); rintro e w5 ⟨rfl, hb5, hx5⟩; have HX5 := hD hx5; clear hb5 hx5)
     go_ret; exact ⟨by rw [HFA.out]; rfl, HX5.out.below (Nat.le_of_eq HB.out) KW.out⟩
    | true =>
     rw [if_pos hok] at hex; have HEX := hD hex; have HC := act_ru ads w V0.out T0.out B (Nat.le_of_eq HB.out) l hl y wr kW hrow; rw [hok] at HC; obtain ⟨HC, HJ⟩ := hD2 HC hjj; have HH2 := hD (show (RuM.tkL .act l).getD 0 0 = k by rw [safe_head hst]; exact hk0); have HL2 := hD (show (RuM.tkL .act l).length = 13 by rw [RuM.tkL_len]; exact hl); have HY2 := hD (RuM.tkX_wf .act hy); clear hok hex hrow kW hjr ej hjj hdr hl hy hk0 hst; go_wp2_with (go_at_call 146; (with_reducible refine HC.out.mono ?_); rintro e w5 ⟨rfl, hb5, hx5⟩; obtain ⟨HX5, HB5⟩ := hD2 hx5 hb5; clear hb5 hx5)
     have hjj := HJ.out; go_roundw
     case rel => exact ⟨j + 1, by omega, by congr 1; omega, HX5.out.below (Nat.le_of_eq HB.out) KW.out, LST.out.xb HX5.out, _, _, HL2.out, HH2.out, HY2.out, HB5.out, HEX.out⟩
     case measure => simp [intOf]; omega
   | ctx =>
    obtain rfl : vj = _ := hru1
    cases hok : RuM.ok .ctx l y with
    | false =>
     rw [if_neg (by rw [hok]; decide)] at hex; have HFA := hD (show leftF k (runR rs nl x) = false by rw [hex]; rfl); have HC := ctx_ru ads w V0.out T0.out B (Nat.le_of_eq HB.out) l hl y hy wr kW hrow; rw [hok] at HC; have HC := hD HC; clear hok hex hrow kW hjr hlt ej hjj hdr hl hy hk0 hst; go_wp2_with (go_at_call 145; (with_reducible refine HC.out.mono ?_); rintro e w5 ⟨rfl, hb5, hx5⟩; have HX5 := hD hx5; clear hb5 hx5)
     go_ret; exact ⟨by rw [HFA.out]; rfl, HX5.out.below (Nat.le_of_eq HB.out) KW.out⟩
    | true =>
     rw [if_pos hok] at hex; have HEX := hD hex; have HC := ctx_ru ads w V0.out T0.out B (Nat.le_of_eq HB.out) l hl y hy wr kW hrow; rw [hok] at HC; obtain ⟨HC, HJ⟩ := hD2 HC hjj; have HH2 := hD (show (RuM.tkL .ctx l).getD 0 0 = k by rw [safe_head hst]; exact hk0); have HL2 := hD (show (RuM.tkL .ctx l).length = 13 by rw [RuM.tkL_len]; exact hl); have HY2 := hD (RuM.tkX_wf .ctx hy); clear hok hex hrow kW hjr ej hjj hdr hl hy hk0 hst; go_wp2_with (go_at_call 145; (with_reducible refine HC.out.mono ?_); rintro e w5 ⟨rfl, hb5, hx5⟩; obtain ⟨HX5, HB5⟩ := hD2 hx5 hb5; clear hb5 hx5)
     have hjj := HJ.out; go_roundw
     case rel => exact ⟨j + 1, by omega, by congr 1; omega, HX5.out.below (Nat.le_of_eq HB.out) KW.out, LST.out.xb HX5.out, _, _, HL2.out, HH2.out, HY2.out, HB5.out, HEX.out⟩
     case measure => simp [intOf]; omega
   | seat =>
    obtain rfl : vj = _ := hru1
    cases hok : RuM.ok .seat l y with
    | false =>
     rw [if_neg (by rw [hok]; decide)] at hex; have HFA := hD (show leftF k (runR rs nl x) = false by rw [hex]; rfl); have HC := seat_ru B l hl y wr hrow; rw [hok] at HC; have HC := hD HC; clear hok hex hrow kW hjr hlt ej hjj hdr hl hy hk0 hst; go_wp2_with (go_at_call 147; (with_reducible refine HC.out.mono ?_); rintro e w5 ⟨rfl, hb5, hx5⟩; have HX5 := hD hx5; clear hb5 hx5)
     go_ret; exact ⟨by rw [HFA.out]; rfl, HX5.out.below (Nat.le_of_eq HB.out) KW.out⟩
    | true =>
     rw [if_pos hok] at hex; have HEX := hD hex; have HC := seat_ru B l hl y wr hrow; rw [hok] at HC; obtain ⟨HC, HJ⟩ := hD2 HC hjj; have HH2 := hD (show (RuM.tkL .seat l).getD 0 0 = k by rw [safe_head hst]; exact hk0); have HL2 := hD (show (RuM.tkL .seat l).length = 13 by rw [RuM.tkL_len]; exact hl); have HY2 := hD (RuM.tkX_wf .seat hy); clear hok hex hrow kW hjr ej hjj hdr hl hy hk0 hst; go_wp2_with (go_at_call 147; (with_reducible refine HC.out.mono ?_); rintro e w5 ⟨rfl, hb5, hx5⟩; obtain ⟨HX5, HB5⟩ := hD2 hx5 hb5; clear hb5 hx5)
     have hjj := HJ.out; go_roundw
     case rel => exact ⟨j + 1, by omega, by congr 1; omega, HX5.out.below (Nat.le_of_eq HB.out) KW.out, LST.out.xb HX5.out, _, _, HL2.out, HH2.out, HY2.out, HB5.out, HEX.out⟩
     case measure => simp [intOf]; omega
  ·obtain rfl : j = nn := by omega
   rw [List.drop_of_length_le (by rw [HN.out]; omega), runR] at hex; obtain ⟨k1, n1, s1, r1, u1, p1, q1, o1, d1, a1, t1, hh1, c1, rfl⟩ := thirteen hl; obtain rfl : k1 = k := hk0; have HEX := hD hex; obtain ⟨m0, m1, m2, m3, m4, m5, m6, m7, m8, m9, m10, m11, m12, m13⟩ := cZ (show wr.heap[B]? = some (.cells #[k1, n1, s1, r1, u1, p1, q1, o1, d1, a1, t1, hh1, c1, y] 73 (0, 0)) from hrow); have hq := fun w1 => fct_eql ⟨k1, n1, s1, r1, u1, p1, q1, o1, d1, a1, t1, hh1, c1, y⟩ ⟨k1, 0, 0, 0, 0, 0, 0, 0, 0, 0, 0, 0, 0, 0⟩ w1
   have hgd := fun (op : BinOp) (xx yy : Operand) w1 => fct_guard op xx yy ⟨k1, n1, s1, r1, u1, p1, q1, o1, d1, a1, t1, hh1, c1, y⟩ ⟨k1, 0, 0, 0, 0, 0, 0, 0, 0, 0, 0, 0, 0, 0⟩ w1
   dsimp only [FX.cells] at hq hgd; have e1 := ext_bits; have HV : leftF k1 (runR rs nl x) = ((decide (FX.nums ⟨k1, n1, s1, r1, u1, p1, q1, o1, d1, a1, t1, hh1, c1, y⟩ = FX.nums ⟨k1, 0, 0, 0, 0, 0, 0, 0, 0, 0, 0, 0, 0, 0⟩) && feqF y 0) && ((y : Int) == 0)) := by
    rw [HEX.out]; unfold leftF; dsimp only [FX.nums]
    by_cases y0 : y = 0
    ·subst y0; rw [feqF_00]
     simp
    ·have g1 : decide (y = 0) = false := dF y0; have g2 : ((y : Int) == 0) = false := by simpa using y0
     rw [g1, g2, Bool.and_false, Bool.and_false]
   obtain ⟨bb, hbb⟩ : ∃ z, (decide (FX.nums ⟨k1, n1, s1, r1, u1, p1, q1, o1, d1, a1, t1, hh1, c1, y⟩ = FX.nums ⟨k1, 0, 0, 0, 0, 0, 0, 0, 0, 0, 0, 0, 0, 0⟩) && feqF y 0) = z := ⟨_, rfl⟩
   rw [hbb] at hq HV; have HVH := hD HV; have hex2 : ¬ jj < j := by omega
   clear HV hbb hex hrow kW lst hl hy hlt hjj
   cases bb with
   | false =>
    go_wp2; go_ret; exact ⟨by rw [HVH.out]; rfl, KW.out⟩
   | true =>
    go_wp2; go_ret; exact ⟨by rw [HVH.out]; rfl, KW.out⟩
theorem facRight_any (ads : List Addr) (f : FX) (hf : f.wf) (w : World) (V : St ads w) (T : Tab w) : Calls Tryz.prog 70 #[.agg f.cells] w fun e w' => e = .returned (.bool (rightF f)) ∧ Kp w w' := by
 by_cases hk : 1 ≤ f.k ∧ f.k ≤ 8
 ·exact facRight_in ads f hf w V T hk
 ·exact facRight_far f w hk
theorem doS_node {m m2 : StM} {f : FX} (h : doS m f = some m2) : m2.node = m.node := by
 unfold doS at h
 repeat' split at h
 all_goals first
  | (cases h; done)
  | (obtain rfl := Option.some.inj h; rfl)
  | (obtain ⟨z, -, hz⟩ := Option.map_eq_some_iff.1 h; subst hz; rfl)
  | (unfold actS at h; (repeat' split at h); (all_goals first | (cases h; done) | (obtain rfl := Option.some.inj h; rfl) | (obtain ⟨z, -, hz⟩ := Option.map_eq_some_iff.1 h; subst hz; rfl)))
theorem applyQ_stay {m : StM} {f : FX} (h : (applyQ m f).1 ≠ 0) : (applyQ m f).2 = m := by
 cases hr : rightF f with
 | false => rw [applyQ_bad hr]
 | true =>
  cases hd : doS m f with
  | none => rw [aZ hr hd]
  | some m2 => rw [aS hr hd] at h; exact absurd rfl h
theorem applyQ_yes {m : StM} {f : FX} (h : (applyQ m f).1 = 0) : rightF f = true ∧ doS m f = some (applyQ m f).2 := by
 cases hr : rightF f with
 | false => rw [applyQ_bad hr] at h; exact absurd h (by simp)
 | true =>
  cases hd : doS m f with
  | none => rw [aZ hr hd] at h; exact absurd h (by simp)
  | some m2 => rw [aS hr hd]; exact ⟨rfl, rfl⟩
theorem applyQ_node {m : StM} {f : FX} : (applyQ m f).2.node = m.node := by
 by_cases h : (applyQ m f).1 = 0
 ·exact doS_node (applyQ_yes h).2
 ·rw [applyQ_stay h]
theorem own_slfc {w : World} {B n : Nat} {v : Value} {xs : List FX} (o : w.ownsRow B 73 14 v n (fcE.row xs)) (hn : xs.length = n) (hw : ∀ f ∈ xs, f.wf) : SlFc v xs w := by
 subst hn; obtain ⟨a, c, rfl⟩ := fG o; refine ⟨a, c, rfl, fun j hj => ?_⟩
 obtain ⟨g, cp, e, _, _, _, _, hc⟩ := cQ (E := fcE) o rfl hj; injection e with e _ _
 refine ⟨g, 0, e, hw _ (List.getElem_mem hj), fun i u hu => ?_⟩
 rw [Nat.zero_add]; have hi : i < 14 := by
  obtain ⟨h, _⟩ := Array.getElem?_eq_some_iff.1 hu; exact h
 exact hc i u hi (by show (xs[j].cells.toList)[i]? = some u; rw [Array.getElem?_toList]; exact hu)
theorem GS.beside {T : TyQ} {B q : Nat} {m : StM} {gs : List AcG} {va vp : Value} {O O' : Nat → Prop} {w w' : World} (h : GS T B q m gs va vp w) (a : Asd O O' w w') (hd : ∀ b, Ow q gs va vp b → ¬ O b) : GS T B q m gs va vp w' := h.stay fun b hb => a.block b (h.mem b hb).2 (hd b hb)
variable {w0 w w' W w3 : World} {B q : Nat} {m : StM} {gs : List AcG} {va vp : Value}
theorem refApply_any (Hs : GS tyD B q m gs va vp w) (ok : OkS m) (f : FX) (hwf : f.wf) : Calls Tryz.prog 28 #[.pointer (some ⟨q, 0, none⟩), .agg f.cells] w fun r w' => r = .returned (.int .i64 (applyQ m f).1) ∧ ∃ gs' va' vp', GS tyD B q (applyQ m f).2 gs' va' vp' w' ∧ Asd (Ow q gs va vp) (Ow q gs' va' vp') w w' := by
 cases hR : rightF f with
 | false => exact refApply_no Hs f hwf hR
 | true =>
  have hk := kind_of hR; obtain ⟨k, fn, fs, fr, fe, fp, fq, fo, fd, fa, ft, fh, fc, fx⟩ := f; dsimp only at hk; have : k = 1 ∨ k = 2 ∨ k = 3 ∨ k = 4 ∨ k = 5 ∨ k = 6 ∨ k = 7 ∨ k = 8 := by omega
  rcases this with rfl | rfl | rfl | rfl | rfl | rfl | rfl | rfl
  ·exact refApply1 Hs ok fn fs fr fe fp fq fo fd fa ft fh fc fx hR
  ·exact refApply2 Hs ok fn fs fr fe fp fq fo fd fa ft fh fc fx hR
  ·exact refApply3 Hs ok fn fs fr fe fp fq fo fd fa ft fh fc fx hR
  ·exact refApply4 Hs ok fn fs fr fe fp fq fo fd fa ft fh fc fx hR
  ·exact refApply5 Hs ok fn fs fr fe fp fq fo fd fa ft fh fc fx hR
  ·exact refApply6 Hs ok fn fs fr fe fp fq fo fd fa ft fh fc fx hR
  ·exact refApply7 Hs ok fn fs fr fe fp fq fo fd fa ft fh fc fx hR
  ·exact refApply8 Hs ok fn fs fr fe fp fq fo fd fa ft fh fc fx hR
variable {ads : List Addr}
def SL (B q : Nat) (m : StM) (w : World) : Prop := ∃ gs va vp, GS tyL B q m gs va vp w
def SD (B q : Nat) (m : StM) (w : World) : Prop := ∃ gs va vp, GS tyD B q m gs va vp w
theorem SL.kp (h : SL B q m w) (hk : Kp w w') : SL B q m w' := by obtain ⟨_, _, _, h⟩ := h; exact ⟨_, _, _, h.kp hk⟩
theorem SD.kp (h : SD B q m w) (hk : Kp w w') : SD B q m w' := by obtain ⟨_, _, _, h⟩ := h; exact ⟨_, _, _, h.kp hk⟩
def OffL (t : TypeId) : Prop := t ≠ tyL.st ∧ t ≠ tyL.ac ∧ t ≠ tyL.pt ∧ t ≠ tyL.rg
def OffD (t : TypeId) : Prop := t ≠ tyD.st ∧ t ≠ tyD.ac ∧ t ≠ tyD.pt ∧ t ≠ tyD.rg
theorem ow_kind {T : TyQ} {b : Nat} (h : GS T B q m gs va vp w) (hb : Ow q gs va vp b) : ∃ cs t, (t = T.st ∨ t = T.ac ∨ t = T.pt ∨ t = T.rg) ∧ w.heap[b]? = some (.cells cs t (0, 0)) := by
 rcases hb with rfl | hb | hb | ⟨g, hg, hb⟩
 ·exact ⟨_, _, .inl rfl, h.row⟩
 ·obtain ⟨c, hc⟩ := own_kindQ h.oa b hb; exact ⟨_, _, .inr (.inl rfl), hc⟩
 ·obtain ⟨c, hc⟩ := own_kindQ h.op b hb; exact ⟨_, _, .inr (.inr (.inl rfl)), hc⟩
 ·obtain ⟨c, hc⟩ := own_kindQ (h.og g hg) b hb; exact ⟨_, _, .inr (.inr (.inr rfl)), hc⟩
theorem off_DL {t : TypeId} (h : t = tyD.st ∨ t = tyD.ac ∨ t = tyD.pt ∨ t = tyD.rg) : OffL t := by
 rcases h with rfl | rfl | rfl | rfl <;> exact ⟨by decide, by decide, by decide, by decide⟩
theorem apartL {B' q' : Nat} {m' : StM} {gs' : List AcG} {va' vp' : Value} (H : GS tyL B q m gs va vp w) (H' : GS tyD B' q' m' gs' va' vp' w) : ∀ b, Ow q gs va vp b → ¬ Ow q' gs' va' vp' b := fun b hb hb' => by
 obtain ⟨cs, t, ht, hr⟩ := ow_kind H' hb'; obtain ⟨h1, h2, h3, h4⟩ := off_DL ht; exact ow_not H hr h1 h2 h3 h4 hb
theorem apartD {B' q' : Nat} {m' : StM} {gs' : List AcG} {va' vp' : Value} (H : GS tyD B q m gs va vp w) (H' : GS tyL B' q' m' gs' va' vp' w) : ∀ b, Ow q gs va vp b → ¬ Ow q' gs' va' vp' b := fun b hb hb' => apartL H' H b hb' hb
theorem offL_fct : OffL 73 := ⟨by decide, by decide, by decide, by decide⟩
theorem SL.apply (C : FacC ads w) (E : EP [0, 3, 4, 8, 13] ads w) (h : SL B q m w) (ok : OkS m) (f : FX) (hwf : f.wf) : Calls Tryz.prog 27 #[.pointer (some ⟨q, 0, none⟩), .agg f.cells] w fun r w' => r = .returned (errI ads (applyQ m f).1) ∧ SL B q (applyQ m f).2 w' ∧ (∀ B' q' m', SD B' q' m' w → SD B' q' m' w') ∧ (∀ (b : Nat) (cs : Array Value) (t : TypeId), OffL t → w.heap[b]? = some (.cells cs t (0, 0)) → w'.heap[b]? = some (.cells cs t (0, 0))) ∧ (∀ w0, Kp w0 w → w0.heap.size ≤ B → Kp w0 w') := by
 obtain ⟨gs, va, vp, H⟩ := h; refine (lsApply_any C E H ok f hwf).mono ?_
 rintro e w2 ⟨rfl, gs2, va2, vp2, H2, A⟩; refine ⟨rfl, ⟨gs2, va2, vp2, H2⟩, ?_, ?_, ?_⟩
 ·rintro B' q' m' ⟨gs', va', vp', H'⟩; exact ⟨gs', va', vp', H'.beside A (fun b hb hb2 => apartL H H' b hb2 hb)⟩
 ·rintro b cs t ⟨h1, h2, h3, h4⟩ hr; exact (A.block _ (oZ hr) (ow_not H hr h1 h2 h3 h4)).trans hr
 ·intro w0 hk hb; exact A.kp hk (fun b hb2 => Nat.le_trans hb (H.mem b hb2).1)
theorem SD.apply (h : SD B q m w) (ok : OkS m) (f : FX) (hwf : f.wf) : Calls Tryz.prog 28 #[.pointer (some ⟨q, 0, none⟩), .agg f.cells] w fun r w' => r = .returned (.int .i64 (applyQ m f).1) ∧ SD B q (applyQ m f).2 w' ∧ (∀ B' q' m', SL B' q' m' w → SL B' q' m' w') ∧ (∀ (b : Nat) (cs : Array Value) (t : TypeId), OffD t → w.heap[b]? = some (.cells cs t (0, 0)) → w'.heap[b]? = some (.cells cs t (0, 0))) ∧ (∀ w0, Kp w0 w → w0.heap.size ≤ B → Kp w0 w') := by
 obtain ⟨gs, va, vp, H⟩ := h; refine (refApply_any H ok f hwf).mono ?_
 rintro e w2 ⟨rfl, gs2, va2, vp2, H2, A⟩; refine ⟨rfl, ⟨gs2, va2, vp2, H2⟩, ?_, ?_, ?_⟩
 ·rintro B' q' m' ⟨gs', va', vp', H'⟩; exact ⟨gs', va', vp', H'.beside A (fun b hb hb2 => apartD H H' b hb2 hb)⟩
 ·rintro b cs t ⟨h1, h2, h3, h4⟩ hr; exact (A.block _ (oZ hr) (ow_not H hr h1 h2 h3 h4)).trans hr
 ·intro w0 hk hb; exact A.kp hk (fun b hb2 => Nat.le_trans hb (H.mem b hb2).1)
theorem SD.new {nd : Int} (h : w.heap[q]? = some (.cells #[nd, (0:Int), .slice none 0 0, .slice none 0 0] 79)) (hb : B ≤ q) : SD B q (newSt nd) w := ⟨[], .slice none 0 0, .slice none 0 0, ⟨h, hb, rfl, ⟨by simp [EncG.row], .inl ⟨rfl, rfl⟩⟩, ⟨by simp [EncG.row, newSt], .inl ⟨rfl, rfl⟩⟩, (fun g hg => by cases hg), (fun i j g h hi => by simp at hi)⟩⟩
theorem SL.new (E : EP [0, 3, 4, 8, 13] ads w) (nd : Int) (hin : inN nd) : Calls Tryz.prog 26 #[.int .i64 nd] w fun r w' => ∃ q, r = .returned (.tuple #[.pointer (some ⟨q, 0, none⟩), .nilIface]) ∧ SL w.heap.size q (newSt nd) w' ∧ Kp w w' := (lsNew E nd).mono (by
 rintro e w2 (⟨h, _⟩ | ⟨_, q, rfl, hg, hk⟩)
 ·exact absurd hin h
 ·exact ⟨q, rfl, ⟨_, _, _, hg⟩, hk⟩)
theorem SL.noNew (E : EP [0, 3, 4, 8, 13] ads w) (nd : Int) (hin : ¬ inN nd) : Calls Tryz.prog 26 #[.int .i64 nd] w fun r w' => r = .returned (.tuple #[.pointer none, errI ads 1]) ∧ Kp w w' := (lsNew E nd).mono (by
 rintro e w2 (⟨_, rfl, hk2⟩ | ⟨h, _⟩)
 ·exact ⟨rfl, hk2⟩
 ·exact absurd h hin)
variable {w0 w w' W w3 : World} {B q : Nat} {m : StM} {ads : List Addr}
theorem set9_neP {b c : Nat} (ne : c ≠ b) (y0 y1 y2 y3 y4 y5 y6 y7 y8 : Value) : (((((((((w.setCell ⟨b, 0, none⟩ y0).setCell ⟨b, 1, none⟩ y1).setCell ⟨b, 2, none⟩ y2).setCell ⟨b, 3, none⟩ y3).setCell ⟨b, 4, none⟩ y4).setCell ⟨b, 5, none⟩ y5).setCell ⟨b, 6, none⟩ y6).setCell ⟨b, 7, none⟩ y7).setCell ⟨b, 8, none⟩ y8).heap[c]? = w.heap[c]? := by
 rw [bS _ _ _ _ ne, bS _ _ _ _ ne, bS _ _ _ _ ne, bS _ _ _ _ ne, bS _ _ _ _ ne, bS _ _ _ _ ne, bS _ _ _ _ ne, bS _ _ _ _ ne, bS _ _ _ _ ne]
theorem partQ_prt (m : StM) (i : Int) : partQ m i = prtP m i := rfl
theorem SL.part (h : SL B q m w) (i : Int) (x : PaM) (b : Bool) (hx : (prtP m i = some x ∧ b = true) ∨ (prtP m i = none ∧ b = false ∧ x = zeroP)) : Calls Tryz.prog 77 #[.pointer (some ⟨q, 0, none⟩), .int .i64 i] w fun r w' => r = .returned (.tuple #[.agg (paV x), .bool b]) ∧ Kp w w' := by
 obtain ⟨gs, va, vp, H⟩ := h; refine (stPart H i).mono ?_
 rw [partQ_prt]; rintro e w2 ⟨y, rfl, hy, hk⟩
 rcases hx with ⟨h1, rfl⟩ | ⟨h1, rfl, rfl⟩
 ·rw [h1] at hy ⊢; dsimp only at hy; subst hy; exact ⟨rfl, hk⟩
 ·rw [h1] at hy ⊢; dsimp only at hy; subst hy; exact ⟨rfl, hk⟩
theorem SL.nodeOf (h : SL B q m w) : Calls Tryz.prog 59 #[.pointer (some ⟨q, 0, none⟩)] w fun r w' => r = .returned (.int .i64 m.node) ∧ w = w' := by
 obtain ⟨gs, va, vp, H⟩ := h; exact stNode H
theorem pFind (h : SL B q m w) (i nd : Int) (hnd : m.node = nd) (xn xs xr y1 y2 y3 y4 : Int) (b : Bool) (hx : (prtP m i = some ⟨xn, xs, xr, ⟨y1, y2, y3, y4⟩⟩ ∧ b = true) ∨ (prtP m i = none ∧ b = false ∧ (⟨xn, xs, xr, ⟨y1, y2, y3, y4⟩⟩ : PaM) = zeroP)) : Calls Tryz.prog 29 #[.pointer (some ⟨q, 0, none⟩), .int .i64 i] w fun r w' => r = .returned (.tuple #[.agg #[xn, xs, xr, y1, y2, y3, y4, nd, i], .bool b]) ∧ Kp w w' := by
 have hpa := fun w1 (hk : Kp w w1) => (h.kp hk).part i ⟨xn, xs, xr, ⟨y1, y2, y3, y4⟩⟩ b hx
 have hno := fun w1 (hk : Kp w w1) => (h.kp hk).nodeOf
 rw [hnd] at hno; dsimp only [paV] at hpa; obtain ⟨HPA, HNO⟩ := hD2 hpa hno; have RZ0 := hD (mH w (.cells #[(0:Int), (0:Int), (0:Int), (0:Int), (0:Int), (0:Int), (0:Int), (0:Int), (0:Int)] 84)); have KZ0 := hD (kA w (.cells #[(0:Int), (0:Int), (0:Int), (0:Int), (0:Int), (0:Int), (0:Int), (0:Int), (0:Int)] 84)); clear hpa hno hx h hnd; go_enter Tryz.func29, Tryz.ntmps29; go_wp2_with (go_at_call 77; (with_reducible refine (HPA.out _ KZ0.out).mono ?_); rintro e' w3 ⟨rfl, hk⟩; have kz := kT hk (kA w3 (.cells #[xn, xs, xr, y1, y2, y3, y4] 71)); have K3 := hD (kT KZ0.out kz); have R3Z := hD (rZ kz RZ0.out); have R3P := hD (mH w3 (.cells #[xn, xs, xr, y1, y2, y3, y4] 71)); have HNE := hD (show w3.heap.size ≠ w.heap.size from fun e => by have := oZ (rZ hk RZ0.out); omega); clear hk kz)
 obtain ⟨WD, hWD⟩ : ∃ x, (w3.alloc (.cells #[xn, xs, xr, y1, y2, y3, y4] 71)).drew = x := ⟨_, rfl⟩
 have kD : Kp (w3.alloc (.cells #[xn, xs, xr, y1, y2, y3, y4] 71)) WD := by rw [← hWD]; exact dQ (Kp.refl _)
 have HWD := hD hWD; have kDD := Kp.refl WD; have RZD := hD (rZ kD R3Z.out); have KD := hD (kT K3.out kD); clear hWD; refine rgW (fun w' => w'.heap[w3.heap.size]? = some (.cells #[xn, xs, xr, y1, y2, y3, y4] 71) ∧ Kp w w') ?_ fun hH => ?_
 ·exact by rw [HWD.out]; exact ⟨rZ kD R3P.out, kT K3.out kD⟩
 rw [HWD.out] at hH ⊢; refine tkP 0 ?_ (y := by intro w hZ; obtain ⟨z0, z1, z2, z3, z4, z5, z6⟩ := c7X hZ.1; go_simp; try rfl)
 go_simp; refine tkP 1 ?_
 go_simp; refine tkP 3 ?_
 go_simp; refine tkP 5 ?_
 go_simp; refine rdW 2 fun K hK => ?_
 go_simp; go_wp2_with (go_at_call 59; (with_reducible refine (HNO.out _ hH.2).mono ?_); rintro e' W3 ⟨rfl, rfl⟩)
 refine hK.out _ _ (hH) fun hH => ?_
 clear hK K; refine tkP 4 ?_
 go_simp; refine rdW 6 fun K hK => ?_
 have r1 := RZD.out; obtain ⟨s0, s1, s2, s3, s4, s5, s6, s7, s8⟩ := cells9 r1; have fz := frozN r1; go_simp; refine hK.out _ _ (⟨(set9_neP HNE.out _ _ _ _ _ _ _ _ _).trans hH.1, set9_kp hH.2 (Nat.le_refl _) _ _ _ _ _ _ _ _ _⟩) fun hH => ?_
 clear hK K; refine tkP 7 ?_
 go_simp; refine dnW ?_ _
 clear r1 hH; go_wp2; refine bodyPost_ret (rQ (p := 4) (u := 5) rfl _ _ w.heap.size 84 _ (0, 0) _ rfl (set9 (.int .i64 xn) (.int .i64 xs) (.int .i64 xr) (.int .i64 y1) (.int .i64 y2) (.int .i64 y3) (.int .i64 y4) (.int .i64 nd) (.int .i64 i) RZD.out) Tryz.underlying84 rfl (by kernel_rfl)) rfl ?_
 exact ⟨rfl, set9_kp KD.out (Nat.le_refl _) _ _ _ _ _ _ _ _ _⟩
theorem pAsked (gk gf gt gn gs gr gp go gc : Int) : Calls Tryz.prog 14 #[.pointer (some ⟨q, 0, none⟩), .agg #[gk, gf, gt, gn, gs, gr, gp, go, gc]] w fun r w' => r = .returned (.bool (askedP (⟨gk, gf, gt, gn, gs, gr, gp, go, gc⟩ : MM))) ∧ Kp w w' := by
 have HD := hD (fun w => down_any gk w); have KB := hD (kA w (.cells #[gk, gf, gt, gn, gs, gr, gp, go, gc] 26)); obtain ⟨b0, b1, b2, b3, b4, b5, b6, b7, b8⟩ := cells9 (mH w (.cells #[gk, gf, gt, gn, gs, gr, gp, go, gc] 26)); unfold askedP; dsimp only
 by_cases h1 : gk = 18
 ·subst h1; rw [show (downM 18 || (decide ((18 : Int) = 18) || (decide ((18 : Int) = 16) || (decide ((18 : Int) = 19) || (decide ((18 : Int) = 15) && decide (gt ≠ gn)))))) = true by simp]; go_enter Tryz.func14, Tryz.ntmps14; go_wp2; go_ret; exact ⟨rfl, KB.out⟩
 by_cases h2 : gk = 16
 ·subst h2; rw [show (downM 16 || (decide ((16 : Int) = 18) || (decide ((16 : Int) = 16) || (decide ((16 : Int) = 19) || (decide ((16 : Int) = 15) && decide (gt ≠ gn)))))) = true by simp]; go_enter Tryz.func14, Tryz.ntmps14; go_wp2; go_ret; exact ⟨rfl, KB.out⟩
 by_cases h3 : gk = 19
 ·subst h3; rw [show (downM 19 || (decide ((19 : Int) = 18) || (decide ((19 : Int) = 16) || (decide ((19 : Int) = 19) || (decide ((19 : Int) = 15) && decide (gt ≠ gn)))))) = true by simp]; go_enter Tryz.func14, Tryz.ntmps14; go_wp2; go_ret; exact ⟨rfl, KB.out⟩
 by_cases h4 : gk = 15
 ·subst h4; rw [show (downM 15 || (decide ((15 : Int) = 18) || (decide ((15 : Int) = 16) || (decide ((15 : Int) = 19) || (decide ((15 : Int) = 15) && decide (gt ≠ gn)))))) = (gt != gn) by simp [downM, bne, Bool.beq_eq_decide_eq]]; go_enter Tryz.func14, Tryz.ntmps14; go_wp2; go_ret; exact ⟨rfl, KB.out⟩
 ·rw [dF h1, dF h2, dF h3, dF h4, Bool.false_and, Bool.or_false, Bool.or_false, Bool.or_false, Bool.or_false]; have g1 : (gk == 18) = false := by simpa using h1
  have g2 : (gk == 16) = false := by simpa using h2
  have g3 : (gk == 19) = false := by simpa using h3
  have g4 : (gk == 15) = false := by simpa using h4
  clear h1 h2 h3 h4; go_enter Tryz.func14, Tryz.ntmps14; go_wp2_with (go_at_call 35; (with_reducible refine (HD.out _).mono ?_); rintro e' w1 ⟨rfl, rfl⟩)
  go_ret; exact ⟨rfl, KB.out⟩
open Go.RowKit
theorem prt_some {m : StM} {i : Int} {x : PaM} (h : prtP m i = some x) : 0 ≤ i ∧ m.parts[i.toNat]? = some x := by
 unfold prtP at h
 split at h
 ·exact ⟨by assumption, h⟩
 ·cases h
theorem prt_le {m : StM} {i : Int} {x : PaM} (ok : OkS m) (h : prtP m i = some x) : 0 ≤ i ∧ i ≤ 7 ∧ OkP x := by
 obtain ⟨h0, h1⟩ := prt_some h; obtain ⟨h2, h3⟩ := List.getElem?_eq_some_iff.1 h1; have := ok.p8; exact ⟨h0, by omega, ok.p _ (List.mem_of_getElem? h1)⟩
theorem prt_set {m : StM} {i : Int} {x y : PaM} (h : prtP m i = some x) : prtP { m with parts := m.parts.set i.toNat y } i = some y := by
 obtain ⟨h0, h1⟩ := prt_some h; obtain ⟨h2, _⟩ := List.getElem?_eq_some_iff.1 h1; unfold prtP; rw [if_pos h0]; exact List.getElem?_set_self h2
theorem fits_some {m : StM} {g : MM} {x : PaM} (h : fitsP m g = some x) : prtP m g.p = some x ∧ x.n = g.n ∧ x.s = g.s ∧ g.f = g.n ∧ g.t = m.node ∧ (x.reg < 0 ∨ x.reg = g.r) := by
 unfold fitsP at h
 split at h
 ·cases h
 ·split at h
  ·obtain rfl := Option.some.inj h; exact ⟨by assumption, by assumption⟩
  ·cases h
theorem step_pla {m : StM} {i r : Int} {x : PaM} (ok : OkS m) (h : prtP m i = some x) (hx : x.reg < 0) (hr : 0 ≤ r ∧ r ≤ 5) : stepS m (fxPlaced i r) = some { m with parts := m.parts.set i.toNat { x with reg := r } } := by
 obtain ⟨h0, h7, _⟩ := prt_le ok h; obtain ⟨_, h1⟩ := prt_some h; unfold stepS fxPlaced; rw [if_pos (right_pla ⟨h0, h7⟩ hr)]; unfold doS; rw [if_neg (by simp), if_neg (by simp), if_pos rfl]; dsimp only; rw [h1]; dsimp only; rw [if_neg (by omega)]
theorem step_tur {m : StM} {i t hh : Int} {x : PaM} {z : SeatM} (ok : OkS m) (h : prtP m i = some x) (ht : turnS x.z t hh = some z) : stepS m (fxTurned i t hh) = some { m with parts := m.parts.set i.toNat { x with z := z } } := by
 obtain ⟨h0, h7, hp⟩ := prt_le ok h; obtain ⟨_, h1⟩ := prt_some h; have ht2 := ht; unfold turnS at ht2
 split at ht2
 ·rename_i hc
  have hs : seatX t hh = true := OkZ.seat (z := ⟨x.z.p, x.z.e, t, hh⟩) (e := x.z.e) ⟨hc.2, rfl⟩; unfold stepS fxTurned; rw [if_pos (right_tur ⟨h0, h7⟩ hs)]; unfold doS; rw [if_neg (by simp), if_neg (by simp), if_neg (by simp), if_pos rfl]; dsimp only; rw [h1]; dsimp only; rw [ht]
  rfl
 ·cases ht2
theorem run_one (m : StM) (f : FX) : runS m [f] = stepS m f := by
 show (stepS m f).bind (fun m2 => some m2) = stepS m f
 cases stepS m f <;> rfl
theorem kinds_in {k : Int} (h : 1 ≤ k ∧ k ≤ 14) : k ∈ kindsL := by
 unfold kindsL; simp only [List.mem_cons, List.not_mem_nil, or_false]
 omega
theorem down_in {k : Int} (h : downM k = true) : 1 ≤ k ∧ k ≤ 14 := by
 unfold downM at h; have := of_decide_eq_true h; omega
theorem told_ok {z : SeatM} {k : Int} (h : OkZ z 2) (hk : 1 ≤ k ∧ k ≤ 14) : (z.tell k).1 = 0 ∧ ((z.tell k).2.changed = true → turnS z (z.tell k).2.z.s (z.tell k).2.z.h = some (z.tell k).2.z) ∧
  ((z.tell k).2.changed = false → (z.tell k).2.z = z ∧ (z.tell k).2.work = 0) ∧ ((z.tell k).2.z.tell k).2.changed = false ∧ ((z.tell k).2.z.tell k).2.work = 0 ∧ ((z.tell k).2.send = 0 ∨ (z.tell k).2.fault = 0) := by
 have h1 := List.all_eq_true.1 told_all z (seats_in h.1 h.2); have h2 := List.all_eq_true.1 h1 k (kinds_in hk); unfold toldOk at h2; rw [h.1] at h2; simp only [Bool.or_eq_true, Bool.and_eq_true, beq_iff_eq, Bool.not_eq_true', Bool.true_eq_false, false_or] at h2
 obtain ⟨⟨⟨⟨a, b⟩, c⟩, d⟩, e⟩ := h2; refine ⟨a, fun hc => ?_, fun hc => ?_, d.1, d.2, e⟩
 ·rcases b with b | b
  ·rw [hc] at b; cases b
  ·exact b
 ·rcases c with c | c
  ·rw [hc] at c; cases c
  ·exact c
theorem tell_fit {m : StM} (ok : OkS m) (g : MM) (hr : 0 ≤ g.r ∧ g.r ≤ 5) : ∃ m2, runS m (tellP m g).facts = some m2 := by
 have hpl : ∀ x, fitsP m g = some x → ∃ m2, runS m (placeP x g) = some m2 ∧ OkS m2 ∧ ∃ x2, prtP m2 g.p = some x2 ∧ x2.z = x.z := by
  intro x hx; obtain ⟨h1, _⟩ := fits_some hx; unfold placeP
  split
  ·rename_i hn
   have hs := step_pla ok h1 hn hr; refine ⟨_, by rw [run_one]; exact hs, ?_, { x with reg := g.r }, prt_set h1, rfl⟩
   unfold stepS at hs
   split at hs
   ·exact keepS ok (by assumption) hs
   ·cases hs
  ·exact ⟨m, rfl, ok, x, h1, rfl⟩
 unfold tellP
 split
 ·split
  ·rename_i x hx
   obtain ⟨m2, h, _⟩ := hpl x hx; exact ⟨m2, h⟩
  ·exact ⟨m, rfl⟩
 split
 ·split
  ·rename_i x hx
   split
   ·rename_i hc
    obtain ⟨h1, _⟩ := fits_some hx; have hz := (prt_le ok h1).2.2.2.2.2; have ht : turnS x.z 14 1 = some ⟨x.z.p, x.z.e, 14, 1⟩ := by
     unfold turnS; rw [if_pos]; refine ⟨by omega, ?_⟩
     have hp := hz.p; have he := hz.2; unfold SeatM.right rightT hasT; dsimp only; rw [he]
     rcases hp with hp | hp <;> rw [hp] <;> decide
    have hs := step_tur ok h1 ht; exact ⟨_, by show runS m [fxTurned g.p 14 1] = _; rw [run_one]; exact hs⟩
   ·exact ⟨m, rfl⟩
  ·exact ⟨m, rfl⟩
 split
 ·split <;> exact ⟨m, rfl⟩
 split
 ·exact ⟨m, rfl⟩
 ·rename_i hd
  split
  ·exact ⟨m, rfl⟩
  ·rename_i x hx
   obtain ⟨m2, h, ok2, x2, hx2, hz2⟩ := hpl x hx
   split
   ·exact ⟨m2, h⟩
   ·obtain ⟨h1, _⟩ := fits_some hx; have hz := (prt_le ok h1).2.2.2.2.2; have hk : downM g.k = true := by
     cases hq : downM g.k with
     | true => rfl
     | false => exact absurd hq hd
    obtain ⟨_, hch, _⟩ := told_ok hz (down_in hk); unfold seatP; dsimp only; rw [runS_app, h]
    show ∃ m3, runS m2 _ = some m3
    split
    ·rename_i hc
     have hs := step_tur ok2 hx2 (by rw [hz2]; exact hch hc); exact ⟨_, by rw [run_one]; exact hs⟩
    ·exact ⟨m2, rfl⟩
theorem okz_ok {z : SeatM} {e : Int} (h : OkZ z e) (he : e = 1 ∨ e = 2) : z.ok := by
 obtain ⟨h1, h2, h3⟩ := right_in h.1; obtain ⟨p, e', s, hh⟩ := z; have hp := h.p; have h4 := h.2; dsimp only at hp h4 h2 h3; unfold SeatM.ok i64M; dsimp only; unfold allT at h2; unfold howsM at h3; simp only [List.mem_cons, List.not_mem_nil, or_false] at h2 h3
 omega
end Go.Proofs.YtncoofnhifcnhaaGreatDoor
