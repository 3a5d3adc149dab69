/- Parts of this proof (own work). -/
import Derived.Test.YtlmlmhmhgdjhnaaGreatDoorZa27
set_option maxRecDepth 100000
set_option maxHeartbeats 40000000
namespace Go.Proofs.YtlmlmhmhgdjhnaaGreatDoor
open Go.RowKit Go.ChangeShapes Go.WideShapes
theorem rules_any (k : Int) (h : 1 ≤ k ∧ k ≤ 8) (B : Nat) (w : World) (hB : B < w.heap.size) : Calls Tryz.prog 142 #[.int .i64 k] w fun e w' => ∃ v, e = .returned v ∧ RuL B v (rulesM k) w' ∧ Kp w w' := by
 have hk : k = 1 ∨ k = 2 ∨ k = 3 ∨ k = 4 ∨ k = 5 ∨ k = 6 ∨ k = 7 ∨ k = 8 := by omega
 rcases hk with rfl | rfl | rfl | rfl | rfl | rfl | rfl | rfl
 ·exact rules_1 B w hB
 ·exact rules_2 B w hB
 ·exact rules_3 B w hB
 ·exact rules_4 B w hB
 ·exact rules_5 B w hB
 ·exact rules_6 B w hB
 ·exact rules_7 B w hB
 ·exact rules_8 B w hB
theorem rulesM_len (k : Int) : (rulesM k).length ≤ 5 := by
 unfold rulesM
 split
 ·decide
 split
 ·decide
 split
 ·decide
 split
 ·decide
 split
 ·decide
 split
 ·decide
 split
 ·decide
 split <;> decide
theorem seat_call (B : Nat) (k n s r u p q o d a t hh c : Int) (x : Nat) (w : World) (hB : w.heap[B]? = some (.cells #[k, n, s, r, u, p, q, o, d, a, t, hh, c, x] 87 (0, 0))) :
  Calls Tryz.prog 179 #[.pointer (some ⟨B, 0, none⟩)] w fun e w' => e = .returned (.bool (seatX t hh)) ∧ w'.heap[B]? = some (.cells #[k, n, s, r, u, p, q, o, d, a, (0:Int), (0:Int), c, x] 87 (0, 0)) ∧ Xb B w w' := by
 by_cases h : 1 ≤ t ∧ t ≤ 14
 ·exact seat_t B k n s r u p q o d a t hh c x w hB h
 ·exact seat_f B k n s r u p q o d a t hh c x w hB h
theorem act_ru (ads : List Addr) (w0 : World) (V : St ads w0) (T : Tab w0) (B : Nat) (hB0 : w0.heap.size ≤ B) (l : List Int) (hl : l.length = 13) (y : Nat) (w : World) (K : Kp w0 w) (hB : w.heap[B]? = some (.cells (numsF l y) 87 (0, 0))) :
  Calls Tryz.prog 178 #[.pointer (some ⟨B, 0, none⟩)] w fun e w' => e = .returned (.bool (RuM.ok .act l y)) ∧ w'.heap[B]? = some (.cells (numsF (RuM.tkL .act l) y) 87 (0, 0)) ∧ Xb B w w' := by
 obtain ⟨k, n, s, r, u, p, q, o, d, a, t, hh, c, rfl⟩ := thirteen hl; exact act_call ads w0 V T B hB0 k n s r u p q o d a t hh c y w K hB
theorem ctx_ru (ads : List Addr) (w0 : World) (V : St ads w0) (T : Tab w0) (B : Nat) (hB0 : w0.heap.size ≤ B) (l : List Int) (hl : l.length = 13) (y : Nat) (hy : y < 18446744073709551616) (w : World) (K : Kp w0 w) (hB : w.heap[B]? = some (.cells (numsF l y) 87 (0, 0))) :
  Calls Tryz.prog 177 #[.pointer (some ⟨B, 0, none⟩)] w fun e w' => e = .returned (.bool (RuM.ok .ctx l y)) ∧ w'.heap[B]? = some (.cells (numsF (RuM.tkL .ctx l) 0) 87 (0, 0)) ∧ Xb B w w' := by
 obtain ⟨k, n, s, r, u, p, q, o, d, a, t, hh, c, rfl⟩ := thirteen hl; exact ctx_call ads w0 V T B hB0 k n s r u p q o d a t hh c y w K hB hy
theorem seat_ru (B : Nat) (l : List Int) (hl : l.length = 13) (y : Nat) (w : World) (hB : w.heap[B]? = some (.cells (numsF l y) 87 (0, 0))) :
  Calls Tryz.prog 179 #[.pointer (some ⟨B, 0, none⟩)] w fun e w' => e = .returned (.bool (RuM.ok .seat l y)) ∧ w'.heap[B]? = some (.cells (numsF (RuM.tkL .seat l) y) 87 (0, 0)) ∧ Xb B w w' := by
 obtain ⟨k, n, s, r, u, p, q, o, d, a, t, hh, c, rfl⟩ := thirteen hl; exact seat_call B k n s r u p q o d a t hh c y w hB
def RuM.safe : RuM → Prop
 | .rg tag _ _ => 2 ≤ tag
 | _ => True
theorem rulesM_safe (k : Int) : ∀ r ∈ rulesM k, r.safe := by
 have hs : ∀ (l : List RuM), (l.all fun r => match r with | .rg tag _ _ => decide (2 ≤ tag) | _ => true) = true → ∀ r ∈ l, r.safe := by
  intro l h r hr; have := List.all_eq_true.1 h r hr
  cases r with
  | rg tag lo hi => exact (of_decide_eq_true this : 2 ≤ tag)
  | act => trivial
  | ctx => trivial
  | seat => trivial
 refine hs _ ?_
 unfold rulesM
 split
 ·decide
 split
 ·decide
 split
 ·decide
 split
 ·decide
 split
 ·decide
 split
 ·decide
 split
 ·decide
 split <;> decide
theorem safe_head {r : RuM} (h : r.safe) (l : List Int) : (r.tkL l).getD 0 0 = l.getD 0 0 := by
 cases r with
 | rg tag lo hi =>
  have h2 : 2 ≤ tag := h; simp only [RuM.tkL, List.getD]
  rw [List.getElem?_set_ne (by omega)]
 | act => simp [RuM.tkL, List.getD]
 | ctx => simp [RuM.tkL, List.getD]
 | seat => simp [RuM.tkL, List.getD]
structure RiS (k : Int) (w0 : World) (B : Nat) (g : Nat) (rs : List RuM) (o : Option (List Int × Nat)) (j : Nat) (wr : World) : Prop where
 kW : Kp w0 wr
 lst : RuL B (.slice (some ⟨g, 0, none⟩) rs.length rs.length) rs wr
 ex : ∃ l x, l.length = 13 ∧ l.getD 0 0 = k ∧ x < 18446744073709551616 ∧ wr.heap[B]? = some (.cells (numsF l x) 87 (0, 0)) ∧ o = runR (rs.drop j) l x
theorem facRight_far (f : FX) (w : World) (hk : ¬ (1 ≤ f.k ∧ f.k ≤ 8)) : Calls Tryz.prog 85 #[.agg f.cells] w fun e w' => e = .returned (.bool (rightF f)) ∧ Kp w w' := by
 rw [right_far hk]; obtain ⟨k, n, s, r, u, p, q, o, d, a, t, hh, c, x⟩ := f; dsimp only [FX.cells] at hk ⊢; have HR := hD (mH w (.cells #[k, n, s, r, u, p, q, o, d, a, t, hh, c, x] 87)); obtain ⟨b0, b1, b2, b3, b4, b5, b6, b7, b8, b9, b10, b11, b12, b13⟩ := cZ HR.out; have K := hD (kA w (.cells #[k, n, s, r, u, p, q, o, d, a, t, hh, c, x] 87)); have h1 : decide (1 ≤ k ∧ k ≤ 8) = false := dF hk; have HW := hD (fun w1 => within_any k 1 8 w1); simp only [h1] at HW
 clear hk h1; go_enter Tryz.func85, Tryz.ntmps85; go_wp2_with (go_at_call 141; (with_reducible refine (HW.out _).mono ?_); rintro e w' ⟨rfl, rfl⟩)
 go_ret; exact ⟨rfl, K.out⟩
theorem facRight_in (ads : List Addr) (f : FX) (hf : f.wf) (w : World) (V : St ads w) (T : Tab w) (hk : 1 ≤ f.k ∧ f.k ≤ 8) : Calls Tryz.prog 85 #[.agg f.cells] w fun e w' => e = .returned (.bool (rightF f)) ∧ Kp w w' := by
 rw [right_rules hk]; obtain ⟨B, hB⟩ : ∃ y, w.heap.size = y := ⟨_, rfl⟩
 have hr := (mH w (.cells f.cells 87))
 have kb := kA w (.cells f.cells 87); have hs : B < (w.alloc (.cells f.cells 87)).heap.size := by rw [← hB]; simp
 rw [hB] at hr; obtain ⟨nl, hnl⟩ : ∃ y, f.nums = y := ⟨_, rfl⟩
 have hll : nl.length = 13 := by rw [← hnl]; rfl
 have HNL := hD hnl; obtain ⟨k, n, s, r, u, p, q, o, d, a, t, hh, c, x⟩ := f; dsimp only [FX.cells] at hk hr kb hs ⊢; have hr1 := hr.trans (show some (Obj.cells #[k, n, s, r, u, p, q, o, d, a, t, hh, c, x] 87 (0, 0)) = some (Obj.cells (numsF nl x) 87 (0, 0)) by rw [← hnl]; rfl); rw [hnl]; obtain ⟨b0, b1, b2, b3, b4, b5, b6, b7, b8, b9, b10, b11, b12, b13⟩ := cZ hr; have h1 : decide (1 ≤ k ∧ k ≤ 8) = true := dT hk; have HW := hD (fun w1 => within_any k 1 8 w1); simp only [h1] at HW
 have HRU := rules_any k hk B _ hs; have h5 := rulesM_len k; have hsafe := rulesM_safe k; obtain ⟨rs, hrs⟩ : ∃ y, rulesM k = y := ⟨_, rfl⟩
 rw [hrs] at HRU h5 hsafe ⊢; have HSA := hD hsafe; obtain ⟨nn, hn⟩ : ∃ y, rs.length = y := ⟨_, rfl⟩
 rw [hn] at h5; have HN := hD hn; have HRU2 : Calls Tryz.prog 142 #[.int .i64 k] (w.alloc (.cells #[k, n, s, r, u, p, q, o, d, a, t, hh, c, x] 87)) fun e w' => ∃ g, e = .returned (.slice (some ⟨g, 0, none⟩) nn nn) ∧ RuL B (.slice (some ⟨g, 0, none⟩) rs.length rs.length) rs w' ∧ Kp (w.alloc (.cells #[k, n, s, r, u, p, q, o, d, a, t, hh, c, x] 87)) w' :=
  HRU.mono (by
   rintro e w2 ⟨v, rfl, hv, hk2⟩; obtain ⟨g, vs, rfl, h6⟩ := hv; exact ⟨g, by rw [hn], ⟨g, vs, rfl, h6⟩, hk2⟩)
 have HRU2 := hD HRU2; clear HRU; obtain ⟨HR1, KB, HB, V0, T0⟩ := hD5 hr1 kb hB V T; have HF := hD (show x < 18446744073709551616 from hf); have HLL := hD hll; have HHD := hD (show nl.getD 0 0 = k by rw [← hnl]; rfl); clear hk h1 hnl hr hr1 kb hs hf V T hrs hn hll hsafe; go_enter Tryz.func85, Tryz.ntmps85; go_wp2_with (go_at_call 141; (with_reducible refine (HW.out _).mono ?_); rintro e w' ⟨rfl, rfl⟩)
 with_reducible refine HRU2.out.mono ?_
 rintro e w2 ⟨g, rfl, hv, hk2⟩; have K2 := hD (kT KB.out hk2); have R2 := hD (rZ hk2 HR1.out); have HV := hD hv; clear hk2 hv; go_wp2; have HL : RiS k w B g rs (runR rs nl x) 0 w2 := ⟨K2.out, HV.out, nl, x, HLL.out, HHD.out, HF.out, R2.out, rfl⟩
 have HL := hD HL; clear HRU2 R2 HV K2; go_loopw [13] (fun i wr => ∃ j : Nat, j ≤ nn ∧ i = .int .i64 j ∧ RiS k w B g rs (runR rs nl x) j wr) (fun i _ => nn - (intOf i).toNat)
 case atStart => exact ⟨0, Nat.zero_le _, rfl, HL.out⟩
 case round =>
  obtain ⟨j, hj, rfl, hi⟩ := hrel; obtain ⟨jj, hjj⟩ : ∃ jj : Int, (j : Int) = jj := ⟨_, rfl⟩
  rw [hjj]; obtain ⟨kW, lst, l, y, hl, hk0, hy, hrow, hex⟩ := hi; obtain ⟨KW, LST⟩ := hD2 kW lst
  by_cases hlt : j < nn
  ·have hjr : j < rs.length := by rw [HN.out]; exact hlt
   obtain ⟨g', vs, hv, hgB, hvl, ⟨ty, fr, hg⟩, hru⟩ := lst; injection hv with hv1 _ _
   injection hv1 with hv2
   injection hv2 with hv3 _ _
   subst hv3; have hjv : j < vs.length := by omega
   have hru1 := hru j vs[j] rs[j] (List.getElem?_eq_getElem hjv) (List.getElem?_eq_getElem hjr); have hdr : rs.drop j = rs[j] :: rs.drop (j + 1) := List.drop_eq_getElem_cons hjr; rw [hdr, runR] at hex; have hst := HSA.out rs[j] (List.getElem_mem hjr); have cv : wr.cell? ⟨g, j, none⟩ = some vs[j] := by
    unfold World.cell?; dsimp only; rw [hg]
    simp [hjv]
   obtain ⟨vj, hvj⟩ : ∃ z, vs[j] = z := ⟨_, rfl⟩
   obtain ⟨r0, hr0⟩ : ∃ z, rs[j] = z := ⟨_, rfl⟩
   rw [hvj] at cv hru1; rw [hr0] at hru1 hex hst hdr; have ej : jj.toNat = j := by omega
   rw [← ej] at cv; have j0 : 0 ≤ jj := by omega
   have hltj : jj < nn := by omega
   clear hru hg hvl hgB hjv hvj hr0
   cases r0 with
   | rg tag lo hi =>
    obtain ⟨p0, q0, s0, rfl, hn0, ht0, hp0, hq0, hs0⟩ := hru1
    cases hok : RuM.ok (.rg tag lo hi) l y with
    | false =>
     rw [if_neg (by rw [hok]; decide)] at hex; have HFA := hD (show leftF k (runR rs nl x) = false by rw [hex]; rfl); have HC := rg_call tag (tag : Int) lo hi rfl ht0 B p0 q0 s0 l y hl wr hrow hn0 hp0 hq0 hs0; rw [hok] at HC; have HC := hD HC; clear hok hex hrow kW hjr hlt ej hjj hdr hl hy hk0 hst; go_wp2_with (go_at_call 203; (with_reducible refine HC.out.mono ?_); rintro e w5 ⟨rfl, hb5, hx5⟩; have HX5 := hD hx5; clear hb5 hx5)
     go_ret; exact ⟨by rw [HFA.out]; rfl, HX5.out.below (Nat.le_of_eq HB.out) KW.out⟩
    | true =>
     rw [if_pos hok] at hex; have HEX := hD hex; have HC := rg_call tag (tag : Int) lo hi rfl ht0 B p0 q0 s0 l y hl wr hrow hn0 hp0 hq0 hs0; rw [hok] at HC; obtain ⟨HC, HJ⟩ := hD2 HC hjj; have HH2 := hD (show (RuM.tkL (.rg tag lo hi) l).getD 0 0 = k by rw [safe_head hst]; exact hk0); have HL2 := hD (show (RuM.tkL (.rg tag lo hi) l).length = 13 by rw [RuM.tkL_len]; exact hl); have HY2 := hD (RuM.tkX_wf (.rg tag lo hi) hy); clear hok hex hrow kW hjr ej hjj hdr hl hy hk0 hst; go_wp2_with (go_at_call 203; (with_reducible refine HC.out.mono ?_); rintro e w5 ⟨rfl, hb5, hx5⟩; obtain ⟨HX5, HB5⟩ := hD2 hx5 hb5; clear hb5 hx5)
     have hjj := HJ.out; go_roundw
     case rel => exact ⟨j + 1, by omega, by congr 1; omega, HX5.out.below (Nat.le_of_eq HB.out) KW.out, LST.out.xb HX5.out, _, _, HL2.out, HH2.out, HY2.out, HB5.out, HEX.out⟩
     case measure => simp [intOf]; omega
   | act =>
    obtain rfl : vj = _ := hru1
    cases hok : RuM.ok .act l y with
    | false =>
     rw [if_neg (by rw [hok]; decide)] at hex; have HFA := hD (show leftF k (runR rs nl x) = false by rw [hex]; rfl); have HC := act_ru ads w V0.out T0.out B (Nat.le_of_eq HB.out) l hl y wr kW hrow; rw [hok] at HC; have HC := hD HC; clear hok hex hrow kW hjr hlt ej hjj hdr hl hy hk0 hst; go_wp2_with (go_at_call 178; (with_reducible refine HC.out.mono ?_); rintro e w5 ⟨rfl, hb5, hx5⟩; have HX5 := hD hx5; clear hb5 hx5)
     go_ret; exact ⟨by rw [HFA.out]; rfl, HX5.out.below (Nat.le_of_eq HB.out) KW.out⟩
    | true =>
     rw [if_pos hok] at hex; have HEX := hD hex; have HC := act_ru ads w V0.out T0.out B (Nat.le_of_eq HB.out) l hl y wr kW hrow; rw [hok] at HC; obtain ⟨HC, HJ⟩ := hD2 HC hjj; have HH2 := hD (show (RuM.tkL .act l).getD 0 0 = k by rw [safe_head hst]; exact hk0); have HL2 := hD (show (RuM.tkL .act l).length = 13 by rw [RuM.tkL_len]; exact hl); have HY2 := hD (RuM.tkX_wf .act hy); clear hok hex hrow kW hjr ej hjj hdr hl hy hk0 hst; go_wp2_with (go_at_call 178; (with_reducible refine HC.out.mono ?_); rintro e w5 ⟨rfl, hb5, hx5⟩; obtain ⟨HX5, HB5⟩ := hD2 hx5 hb5; clear hb5 hx5)
     have hjj := HJ.out; go_roundw
     case rel => exact ⟨j + 1, by omega, by congr 1; omega, HX5.out.below (Nat.le_of_eq HB.out) KW.out, LST.out.xb HX5.out, _, _, HL2.out, HH2.out, HY2.out, HB5.out, HEX.out⟩
     case measure => simp [intOf]; omega
   | ctx =>
    obtain rfl : vj = _ := hru1
    cases hok : RuM.ok .ctx l y with
    | false =>
     rw [if_neg (by rw [hok]; decide)] at hex; have HFA := hD (show leftF k (runR rs nl x) = false by rw [hex]; rfl); have HC := ctx_ru ads w V0.out T0.out B (Nat.le_of_eq HB.out) l hl y hy wr kW hrow; rw [hok] at HC; have HC := hD HC; clear hok hex hrow kW hjr hlt ej hjj hdr hl hy hk0 hst; go_wp2_with (go_at_call 177; (with_reducible refine HC.out.mono ?_); rintro e w5 ⟨rfl, hb5, hx5⟩; have HX5 := hD hx5; clear hb5 hx5)
     go_ret; exact ⟨by rw [HFA.out]; rfl, HX5.out.below (Nat.le_of_eq HB.out) KW.out⟩
    | true =>
     rw [if_pos hok] at hex; have HEX := hD hex; have HC := ctx_ru ads w V0.out T0.out B (Nat.le_of_eq HB.out) l hl y hy wr kW hrow; rw [hok] at HC; obtain ⟨HC, HJ⟩ := hD2 HC hjj; have HH2 := hD (show (RuM.tkL .ctx l).getD 0 0 = k by rw [safe_head hst]; exact hk0); have HL2 := hD (show (RuM.tkL .ctx l).length = 13 by rw [RuM.tkL_len]; exact hl); have HY2 := hD (RuM.tkX_wf .ctx hy); clear hok hex hrow kW hjr ej hjj hdr hl hy hk0 hst; go_wp2_with (go_at_call 177; (with_reducible refine HC.out.mono ?_); rintro e w5 ⟨rfl, hb5, hx5⟩; obtain ⟨HX5, HB5⟩ := hD2 hx5 hb5; clear hb5 hx5)
     have hjj := HJ.out; go_roundw
     case rel => exact ⟨j + 1, by omega, by congr 1; omega, HX5.out.below (Nat.le_of_eq HB.out) KW.out, LST.out.xb HX5.out, _, _, HL2.out, HH2.out, HY2.out, HB5.out, HEX.out⟩
     case measure => simp [intOf]; omega
   | seat =>
    obtain rfl : vj = _ := hru1
    cases hok : RuM.ok .seat l y with
    | false =>
     rw [if_neg (by rw [hok]; decide)] at hex; have HFA := hD (show leftF k (runR rs nl x) = false by rw [hex]; rfl); have HC := seat_ru B l hl y wr hrow; rw [hok] at HC; have HC := hD HC; clear hok hex hrow kW hjr hlt ej hjj hdr hl hy hk0 hst; go_wp2_with (go_at_call 179; (with_reducible refine HC.out.mono ?_); rintro e w5 ⟨rfl, hb5, hx5⟩; have HX5 := hD hx5; clear hb5 hx5)
     go_ret; exact ⟨by rw [HFA.out]; rfl, HX5.out.below (Nat.le_of_eq HB.out) KW.out⟩
    | true =>
     rw [if_pos hok] at hex; have HEX := hD hex; have HC := seat_ru B l hl y wr hrow; rw [hok] at HC; obtain ⟨HC, HJ⟩ := hD2 HC hjj; have HH2 := hD (show (RuM.tkL .seat l).getD 0 0 = k by rw [safe_head hst]; exact hk0); have HL2 := hD (show (RuM.tkL .seat l).length = 13 by rw [RuM.tkL_len]; exact hl); have HY2 := hD (RuM.tkX_wf .seat hy); clear hok hex hrow kW hjr ej hjj hdr hl hy hk0 hst; go_wp2_with (go_at_call 179; (with_reducible refine HC.out.mono ?_); rintro e w5 ⟨rfl, hb5, hx5⟩; obtain ⟨HX5, HB5⟩ := hD2 hx5 hb5; clear hb5 hx5)
     have hjj := HJ.out; go_roundw
     case rel => exact ⟨j + 1, by omega, by congr 1; omega, HX5.out.below (Nat.le_of_eq HB.out) KW.out, LST.out.xb HX5.out, _, _, HL2.out, HH2.out, HY2.out, HB5.out, HEX.out⟩
     case measure => simp [intOf]; omega
  ·obtain rfl : j = nn := by omega
   rw [List.drop_of_length_le (by rw [HN.out]; omega), runR] at hex; obtain ⟨k1, n1, s1, r1, u1, p1, q1, o1, d1, a1, t1, hh1, c1, rfl⟩ := thirteen hl; obtain rfl : k1 = k := hk0; have HEX := hD hex; obtain ⟨m0, m1, m2, m3, m4, m5, m6, m7, m8, m9, m10, m11, m12, m13⟩ := cZ (show wr.heap[B]? = some (.cells #[k1, n1, s1, r1, u1, p1, q1, o1, d1, a1, t1, hh1, c1, y] 87 (0, 0)) from hrow); have hq := fun w1 => fct_eql ⟨k1, n1, s1, r1, u1, p1, q1, o1, d1, a1, t1, hh1, c1, y⟩ ⟨k1, 0, 0, 0, 0, 0, 0, 0, 0, 0, 0, 0, 0, 0⟩ w1
   have hgd := fun (op : BinOp) (xx yy : Operand) w1 => fct_guard op xx yy ⟨k1, n1, s1, r1, u1, p1, q1, o1, d1, a1, t1, hh1, c1, y⟩ ⟨k1, 0, 0, 0, 0, 0, 0, 0, 0, 0, 0, 0, 0, 0⟩ w1
   dsimp only [FX.cells] at hq hgd; have e1 := ext_bits; have HV : leftF k1 (runR rs nl x) = ((decide (FX.nums ⟨k1, n1, s1, r1, u1, p1, q1, o1, d1, a1, t1, hh1, c1, y⟩ = FX.nums ⟨k1, 0, 0, 0, 0, 0, 0, 0, 0, 0, 0, 0, 0, 0⟩) && feqF y 0) && ((y : Int) == 0)) := by
    rw [HEX.out]; unfold leftF; dsimp only [FX.nums]
    by_cases y0 : y = 0
    ·subst y0; rw [feqF_00]
     simp
    ·have g1 : decide (y = 0) = false := dF y0; have g2 : ((y : Int) == 0) = false := by simpa using y0
     rw [g1, g2, Bool.and_false, Bool.and_false]
   obtain ⟨bb, hbb⟩ : ∃ z, (decide (FX.nums ⟨k1, n1, s1, r1, u1, p1, q1, o1, d1, a1, t1, hh1, c1, y⟩ = FX.nums ⟨k1, 0, 0, 0, 0, 0, 0, 0, 0, 0, 0, 0, 0, 0⟩) && feqF y 0) = z := ⟨_, rfl⟩
   rw [hbb] at hq HV; have HVH := hD HV; have hex2 : ¬ jj < j := by omega
   clear HV hbb hex hrow kW lst hl hy hlt hjj
   cases bb with
   | false =>
    go_wp2; go_ret; exact ⟨by rw [HVH.out]; rfl, KW.out⟩
   | true =>
    go_wp2; go_ret; exact ⟨by rw [HVH.out]; rfl, KW.out⟩
theorem facRight_any (ads : List Addr) (f : FX) (hf : f.wf) (w : World) (V : St ads w) (T : Tab w) : Calls Tryz.prog 85 #[.agg f.cells] w fun e w' => e = .returned (.bool (rightF f)) ∧ Kp w w' := by
 by_cases hk : 1 ≤ f.k ∧ f.k ≤ 8
 ·exact facRight_in ads f hf w V T hk
 ·exact facRight_far f w hk
theorem doS_node {m m2 : StM} {f : FX} (h : doS m f = some m2) : m2.node = m.node := by
 unfold doS at h
 repeat' split at h
 all_goals first
  | (cases h; done)
  | (obtain rfl := Option.some.inj h; rfl)
  | (obtain ⟨z, -, hz⟩ := Option.map_eq_some_iff.1 h; subst hz; rfl)
  | (unfold actS at h; (repeat' split at h); (all_goals first | (cases h; done) | (obtain rfl := Option.some.inj h; rfl) | (obtain ⟨z, -, hz⟩ := Option.map_eq_some_iff.1 h; subst hz; rfl)))
theorem applyQ_stay {m : StM} {f : FX} (h : (applyQ m f).1 ≠ 0) : (applyQ m f).2 = m := by
 cases hr : rightF f with
 | false => rw [applyQ_bad hr]
 | true =>
  cases hd : doS m f with
  | none => rw [aZ hr hd]
  | some m2 => rw [aS hr hd] at h; exact absurd rfl h
theorem applyQ_yes {m : StM} {f : FX} (h : (applyQ m f).1 = 0) : rightF f = true ∧ doS m f = some (applyQ m f).2 := by
 cases hr : rightF f with
 | false => rw [applyQ_bad hr] at h; exact absurd h (by simp)
 | true =>
  cases hd : doS m f with
  | none => rw [aZ hr hd] at h; exact absurd h (by simp)
  | some m2 => rw [aS hr hd]; exact ⟨rfl, rfl⟩
theorem applyQ_node {m : StM} {f : FX} : (applyQ m f).2.node = m.node := by
 by_cases h : (applyQ m f).1 = 0
 ·exact doS_node (applyQ_yes h).2
 ·rw [applyQ_stay h]
theorem own_slfc {w : World} {B n : Nat} {v : Value} {xs : List FX} (o : w.ownsRow B 87 14 v n (fcE.row xs)) (hn : xs.length = n) (hw : ∀ f ∈ xs, f.wf) : SlFc v xs w := by
 subst hn; obtain ⟨a, c, rfl⟩ := fG o; refine ⟨a, c, rfl, fun j hj => ?_⟩
 obtain ⟨g, cp, e, _, _, _, _, hc⟩ := cQ (E := fcE) o rfl hj; injection e with e _ _
 refine ⟨g, 0, e, hw _ (List.getElem_mem hj), fun i u hu => ?_⟩
 rw [Nat.zero_add]; have hi : i < 14 := by
  obtain ⟨h, _⟩ := Array.getElem?_eq_some_iff.1 hu; exact h
 exact hc i u hi (by show (xs[j].cells.toList)[i]? = some u; rw [Array.getElem?_toList]; exact hu)
theorem GS.beside {T : TyQ} {B q : Nat} {m : StM} {gs : List AcG} {va vp : Value} {O O' : Nat → Prop} {w w' : World} (h : GS T B q m gs va vp w) (a : Asd O O' w w') (hd : ∀ b, Ow q gs va vp b → ¬ O b) : GS T B q m gs va vp w' := h.stay fun b hb => a.block b (h.mem b hb).2 (hd b hb)
variable {w0 w w' W w3 : World} {B q : Nat} {m : StM} {gs : List AcG} {va vp : Value}
theorem refApply7 (Hs : GS tyD B q m gs va vp w) (ok : OkS m) (fn fs fr fe fp fq fo fd fa ft fh fc : Int) (fx : Nat) (hR : rightF (⟨7, fn, fs, fr, fe, fp, fq, fo, fd, fa, ft, fh, fc, fx⟩ : FX) = true) : Calls Tryz.prog 35 #[.pointer (some ⟨q, 0, none⟩), .agg #[(7:Int), fn, fs, fr, fe, fp, fq, fo, fd, fa, ft, fh, fc, fx]] w fun r w' => r = .returned (.int .i64 (applyQ m (⟨7, fn, fs, fr, fe, fp, fq, fo, fd, fa, ft, fh, fc, fx⟩ : FX)).1) ∧ ∃ gs' va' vp', GS tyD B q (applyQ m (⟨7, fn, fs, fr, fe, fp, fq, fo, fd, fa, ft, fh, fc, fx⟩ : FX)).2 gs' va' vp' w' ∧ Asd (Ow q gs va vp) (Ow q gs' va' vp') w w' := by
 obtain ⟨a0, c0, eva⟩ := Hs.vForm; obtain ⟨b0, d0, evp⟩ := Hs.pForm; obtain ⟨nd, nx, A, PL⟩ := m; obtain ⟨len, hl⟩ : ∃ x, gs.length = x := ⟨_, rfl⟩
 obtain ⟨np, hnp⟩ : ∃ x, PL.length = x := ⟨_, rfl⟩
 have hlA : A.length = len := by have := Hs.len; dsimp only at this; omega
 have l8 : len ≤ 8 := by have := ok.l8; dsimp only at this; omega
 have p8 : np ≤ 8 := by have := ok.p8; dsimp only at this; omega
 have e0 : w.cell? ⟨q, 0, none⟩ = some (.int .i64 nd) := cU (i := 0) Hs.row rfl; have e1 : w.cell? ⟨q, 1, none⟩ = some (.int .i64 nx) := cU (i := 1) Hs.row rfl; have e2 : w.cell? ⟨q, 2, none⟩ = some va := cU (i := 2) Hs.row rfl; have e3 : w.cell? ⟨q, 3, none⟩ = some vp := cU (i := 3) Hs.row rfl; dsimp only at evp; rw [eva, hl] at e2; rw [evp, hnp] at e3; have hkW := kA w (.cells #[(7:Int), fn, fs, fr, fe, fp, fq, fo, fd, fa, ft, fh, fc, fx] 102); have rW := (mH w (.cells #[(7:Int), fn, fs, fr, fe, fp, fq, fo, fd, fa, ft, fh, fc, fx] 102))
 obtain ⟨W, hW⟩ : ∃ W, w.alloc (.cells #[(7:Int), fn, fs, fr, fe, fp, fq, fo, fd, fa, ft, fh, fc, fx] 102) = W := ⟨_, rfl⟩
 rw [hW] at hkW rW; obtain ⟨f0, f1, f2, f3, f4, f5, f6, f7, f8, f9, f10, f11, f12, f13⟩ := cZ rW; obtain ⟨e0, e1, e2, e3⟩ := kZ4 hkW e0 e1 e2 e3; have hwf : FX.wf (⟨7, fn, fs, fr, fe, fp, fq, fo, fd, fa, ft, fh, fc, fx⟩ : FX) := right_wf hR; have hri := fun w1 => refRight14_any (⟨7, fn, fs, fr, fe, fp, fq, fo, fd, fa, ft, fh, fc, fx⟩ : FX) hwf w1
 dsimp only [FX.cells] at hri; rw [hR] at hri; obtain ⟨HRI, HRR⟩ := hD2 hri hR; obtain ⟨L, hL⟩ : ∃ L : Int, (len : Int) = L := ⟨_, rfl⟩
 obtain ⟨NP, hNP⟩ : ∃ N : Int, (np : Int) = N := ⟨_, rfl⟩
 obtain ⟨HS, OK, HL, HLA, HNP, HLL, HNN, KW⟩ := hD8 Hs ok hl hlA hnp hL hNP hkW; obtain ⟨RW, EVA, EVP⟩ := hD3 rW eva evp; have L8 := hD (And.intro l8 p8); have hsf := sF; have hp0 : 0 ≤ fp := (by have := okF_of hR; simp [okF] at this; omega)
 by_cases h1 : fp < NP
 rotate_left
 ·have hno : PL[fp.toNat]? = none := List.getElem?_eq_none (by omega); have hdo : doS ⟨nd, nx, A, PL⟩ (⟨7, fn, fs, fr, fe, fp, fq, fo, fd, fa, ft, fh, fc, fx⟩ : FX) = none := by unfold doS; simp [hno]
  rw [aZ hR hdo]; have g1 : decide (fp ≥ NP) = true := dT (by omega); clear hdo hno h1 Hs ok hR hl hnp hlA l8 p8 hkW rW eva evp hwf hri; go_enter Tryz.func35, Tryz.ntmps35; go_wp2_with (go_at_call 87; (with_reducible refine (HRI.out _).mono ?_); rintro e' w1 ⟨rfl, hk1⟩; have K1 := hD hk1; obtain ⟨e0, e1, e2, e3, f0, f1, f2, f3, f4, f5, f6, f7, f8, f9, f10, f11, f12, f13⟩ := kZ18 hk1 e0 e1 e2 e3 f0 f1 f2 f3 f4 f5 f6 f7 f8 f9 f10 f11 f12 f13; clear hk1)
  go_region
  go_wp2; go_ret; exact ⟨rfl, gs, va, vp, HS.out.kp (kT KW.out (dQ K1.out)), Asd.of_kp _ (kT KW.out (dQ K1.out))⟩
 ·have g1 : decide (fp ≥ NP) = false := dF (by omega); have hpn : fp.toNat < PL.length := by omega
  obtain ⟨⟨yn, ys, yr, ⟨zp, ze, zt, zh⟩⟩, hx⟩ : ∃ x, PL[fp.toNat]? = some x := ⟨_, List.getElem?_eq_getElem hpn⟩
  obtain ⟨gp, ck, evp2, hck, hgpB, hgpl, hfzp, hcp⟩ := cQ (E := paE) Hs.op rfl hpn; have hcp2 : ∀ (i : Nat) (u : Value), i < paE.k → (paE.enc (PL[fp.toNat]'hpn))[i]? = some u → w.cell? ⟨gp, fp.toNat * paE.k + i, none⟩ = some u := hcp; rw [(List.getElem?_eq_some_iff.1 hx).2, show paE.k = 7 from rfl] at hcp2; have evp3 := evp2.symm.trans evp; injection evp3 with evp3 _ evp4
  subst evp3; have y2 := kZ hkW (hcp2 2 _ (by decide) rfl); have y3 := kZ hkW (hcp2 3 _ (by decide) rfl); have y4 := kZ hkW (hcp2 4 _ (by decide) rfl); have y5 := kZ hkW (hcp2 5 _ (by decide) rfl); have y6 := kZ hkW (hcp2 6 _ (by decide) rfl); have HZP := hD (show ∀ w', Kp w w' → ∀ j, w'.frozen? ⟨gp, j, none⟩ = false from fun w' h j => by rw [Below.frozen h hgpl]; exact hfzp j); have HX := hD hx; dsimp only at evp2; subst evp2
  by_cases h2 : 0 ≤ yr
  ·have hdo : doS ⟨nd, nx, A, PL⟩ (⟨7, fn, fs, fr, fe, fp, fq, fo, fd, fa, ft, fh, fc, fx⟩ : FX) = none := by unfold doS; simp [hx, h2]
   rw [aZ hR hdo]; have g2 : decide (yr ≥ 0) = true := dT h2; clear hdo h2 Hs ok hR hl hnp hlA l8 p8 hkW rW eva hwf hri hpn hx hck hgpB hgpl hfzp hcp hcp2 evp4; go_enter Tryz.func35, Tryz.ntmps35; go_wp2_with (go_at_call 87; (with_reducible refine (HRI.out _).mono ?_); rintro e' w1 ⟨rfl, hk1⟩; have K1 := hD hk1; obtain ⟨e0, e1, e2, e3, f0, f1, f2, f3, f4, f5, f6, f7, f8, f9, f10, f11, f12, f13⟩ := kZ18 hk1 e0 e1 e2 e3 f0 f1 f2 f3 f4 f5 f6 f7 f8 f9 f10 f11 f12 f13; obtain ⟨y2, y3, y4, y5, y6⟩ := kZ5 hk1 y2 y3 y4 y5 y6; clear hk1)
   go_region
   go_wp2; go_ret; exact ⟨rfl, gs, va, _, HS.out.kp (kT KW.out (dQ K1.out)), Asd.of_kp _ (kT KW.out (dQ K1.out))⟩
  ·have hdo : doS ⟨nd, nx, A, PL⟩ (⟨7, fn, fs, fr, fe, fp, fq, fo, fd, fa, ft, fh, fc, fx⟩ : FX) = some ⟨nd, nx, A, PL.set fp.toNat ⟨yn, ys, fr, ⟨zp, ze, zt, zh⟩⟩⟩ := by unfold doS; simp [hx, h2]
   rw [aS hR hdo]; have g2 : decide (yr ≥ 0) = false := dF (by omega); clear hdo h2 Hs ok hR hl hnp hlA l8 p8 hkW rW eva hwf hri hpn hx hck hgpB hgpl hfzp hcp hcp2 evp4; go_enter Tryz.func35, Tryz.ntmps35; go_wp2_with (go_at_call 87; (with_reducible refine (HRI.out _).mono ?_); rintro e' w1 ⟨rfl, hk1⟩; have K1 := hD hk1; obtain ⟨e0, e1, e2, e3, f0, f1, f2, f3, f4, f5, f6, f7, f8, f9, f10, f11, f12, f13⟩ := kZ18 hk1 e0 e1 e2 e3 f0 f1 f2 f3 f4 f5 f6 f7 f8 f9 f10 f11 f12 f13; obtain ⟨y2, y3, y4, y5, y6⟩ := kZ5 hk1 y2 y3 y4 y5 y6; clear hk1)
   go_region
   go_wp2_with fail
   obtain ⟨w2, hw2⟩ : ∃ x, w1.drew = x := ⟨_, rfl⟩
   have k2 : Kp w1 w2 := by rw [← hw2]; exact dQ (Kp.refl _)
   rw [hw2]; obtain ⟨e3, f3, f5, y2⟩ := kZ4 k2 e3 f3 f5 y2; have z2 := HZP.out w2 (kT KW.out (kT K1.out k2)) (fp.toNat * 7 + 2); have K2 := hD (kT K1.out k2); clear k2 hw2; go_still_tail 8, (by kernel_rfl)
   change wpList _ _ _ _ _ w2.drew
   go_wp2; have FIN := (HS.out.kp (kT KW.out (dQ K2.out))).setP tyD_ok HX.out (i := 2) (x' := ⟨yn, ys, fr, ⟨zp, ze, zt, zh⟩⟩) (y := .int .i64 fr) (by decide) rfl; go_ret; exact ⟨rfl, gs, va, _, FIN.1, (Asd.of_kp _ (kT KW.out (dQ K2.out))).trans FIN.2⟩
theorem refApply8 (Hs : GS tyD B q m gs va vp w) (ok : OkS m) (fn fs fr fe fp fq fo fd fa ft fh fc : Int) (fx : Nat) (hR : rightF (⟨8, fn, fs, fr, fe, fp, fq, fo, fd, fa, ft, fh, fc, fx⟩ : FX) = true) : Calls Tryz.prog 35 #[.pointer (some ⟨q, 0, none⟩), .agg #[(8:Int), fn, fs, fr, fe, fp, fq, fo, fd, fa, ft, fh, fc, fx]] w fun r w' => r = .returned (.int .i64 (applyQ m (⟨8, fn, fs, fr, fe, fp, fq, fo, fd, fa, ft, fh, fc, fx⟩ : FX)).1) ∧ ∃ gs' va' vp', GS tyD B q (applyQ m (⟨8, fn, fs, fr, fe, fp, fq, fo, fd, fa, ft, fh, fc, fx⟩ : FX)).2 gs' va' vp' w' ∧ Asd (Ow q gs va vp) (Ow q gs' va' vp') w w' := by
 obtain ⟨a0, c0, eva⟩ := Hs.vForm; obtain ⟨b0, d0, evp⟩ := Hs.pForm; obtain ⟨nd, nx, A, PL⟩ := m; obtain ⟨len, hl⟩ : ∃ x, gs.length = x := ⟨_, rfl⟩
 obtain ⟨np, hnp⟩ : ∃ x, PL.length = x := ⟨_, rfl⟩
 have hlA : A.length = len := by have := Hs.len; dsimp only at this; omega
 have l8 : len ≤ 8 := by have := ok.l8; dsimp only at this; omega
 have p8 : np ≤ 8 := by have := ok.p8; dsimp only at this; omega
 have e0 : w.cell? ⟨q, 0, none⟩ = some (.int .i64 nd) := cU (i := 0) Hs.row rfl; have e1 : w.cell? ⟨q, 1, none⟩ = some (.int .i64 nx) := cU (i := 1) Hs.row rfl; have e2 : w.cell? ⟨q, 2, none⟩ = some va := cU (i := 2) Hs.row rfl; have e3 : w.cell? ⟨q, 3, none⟩ = some vp := cU (i := 3) Hs.row rfl; dsimp only at evp; rw [eva, hl] at e2; rw [evp, hnp] at e3; have hkW := kA w (.cells #[(8:Int), fn, fs, fr, fe, fp, fq, fo, fd, fa, ft, fh, fc, fx] 102); have rW := (mH w (.cells #[(8:Int), fn, fs, fr, fe, fp, fq, fo, fd, fa, ft, fh, fc, fx] 102))
 obtain ⟨W, hW⟩ : ∃ W, w.alloc (.cells #[(8:Int), fn, fs, fr, fe, fp, fq, fo, fd, fa, ft, fh, fc, fx] 102) = W := ⟨_, rfl⟩
 rw [hW] at hkW rW; obtain ⟨f0, f1, f2, f3, f4, f5, f6, f7, f8, f9, f10, f11, f12, f13⟩ := cZ rW; obtain ⟨e0, e1, e2, e3⟩ := kZ4 hkW e0 e1 e2 e3; have hwf : FX.wf (⟨8, fn, fs, fr, fe, fp, fq, fo, fd, fa, ft, fh, fc, fx⟩ : FX) := right_wf hR; have hri := fun w1 => refRight14_any (⟨8, fn, fs, fr, fe, fp, fq, fo, fd, fa, ft, fh, fc, fx⟩ : FX) hwf w1
 dsimp only [FX.cells] at hri; rw [hR] at hri; obtain ⟨HRI, HRR⟩ := hD2 hri hR; obtain ⟨L, hL⟩ : ∃ L : Int, (len : Int) = L := ⟨_, rfl⟩
 obtain ⟨NP, hNP⟩ : ∃ N : Int, (np : Int) = N := ⟨_, rfl⟩
 obtain ⟨HS, OK, HL, HLA, HNP, HLL, HNN, KW⟩ := hD8 Hs ok hl hlA hnp hL hNP hkW; obtain ⟨RW, EVA, EVP⟩ := hD3 rW eva evp; have L8 := hD (And.intro l8 p8); have hsf := sF; have hp0 : 0 ≤ fp := (by have := okF_of hR; simp [okF] at this; omega)
 by_cases h1 : fp < NP
 rotate_left
 ·have hno : PL[fp.toNat]? = none := List.getElem?_eq_none (by omega); have hdo : doS ⟨nd, nx, A, PL⟩ (⟨8, fn, fs, fr, fe, fp, fq, fo, fd, fa, ft, fh, fc, fx⟩ : FX) = none := by unfold doS; simp [hno]
  rw [aZ hR hdo]; have g1 : decide (fp ≥ NP) = true := dT (by omega); clear hdo hno h1 Hs ok hR hl hnp hlA l8 p8 hkW rW eva evp hwf hri; go_enter Tryz.func35, Tryz.ntmps35; go_wp2_with (go_at_call 87; (with_reducible refine (HRI.out _).mono ?_); rintro e' w1 ⟨rfl, hk1⟩; have K1 := hD hk1; obtain ⟨e0, e1, e2, e3, f0, f1, f2, f3, f4, f5, f6, f7, f8, f9, f10, f11, f12, f13⟩ := kZ18 hk1 e0 e1 e2 e3 f0 f1 f2 f3 f4 f5 f6 f7 f8 f9 f10 f11 f12 f13; clear hk1)
  go_region
  go_wp2; go_ret; exact ⟨rfl, gs, va, vp, HS.out.kp (kT KW.out (dQ K1.out)), Asd.of_kp _ (kT KW.out (dQ K1.out))⟩
 ·have g1 : decide (fp ≥ NP) = false := dF (by omega); have hpn : fp.toNat < PL.length := by omega
  obtain ⟨⟨yn, ys, yr, ⟨zp, ze, zt, zh⟩⟩, hx⟩ : ∃ x, PL[fp.toNat]? = some x := ⟨_, List.getElem?_eq_getElem hpn⟩
  obtain ⟨gp, ck, evp2, hck, hgpB, hgpl, hfzp, hcp⟩ := cQ (E := paE) Hs.op rfl hpn; have hcp2 : ∀ (i : Nat) (u : Value), i < paE.k → (paE.enc (PL[fp.toNat]'hpn))[i]? = some u → w.cell? ⟨gp, fp.toNat * paE.k + i, none⟩ = some u := hcp; rw [(List.getElem?_eq_some_iff.1 hx).2, show paE.k = 7 from rfl] at hcp2; have evp3 := evp2.symm.trans evp; injection evp3 with evp3 _ evp4
  subst evp3; have y2 := kZ hkW (hcp2 2 _ (by decide) rfl); have y3 := kZ hkW (hcp2 3 _ (by decide) rfl); have y4 := kZ hkW (hcp2 4 _ (by decide) rfl); have y5 := kZ hkW (hcp2 5 _ (by decide) rfl); have y6 := kZ hkW (hcp2 6 _ (by decide) rfl); have HZP := hD (show ∀ w', Kp w w' → ∀ j, w'.frozen? ⟨gp, j, none⟩ = false from fun w' h j => by rw [Below.frozen h hgpl]; exact hfzp j); have HX := hD hx; dsimp only at evp2; subst evp2; have HT := hD (fun w1 : World => refTurned15 ⟨zp, ze, zt, zh⟩ (⟨8, fn, fs, fr, fe, fp, fq, fo, fd, fa, ft, fh, fc, fx⟩ : FX) w1); dsimp only [seatV, FX.cells] at HT; have hdo : doS ⟨nd, nx, A, PL⟩ (⟨8, fn, fs, fr, fe, fp, fq, fo, fd, fa, ft, fh, fc, fx⟩ : FX) = if turnOk ⟨zp, ze, zt, zh⟩ ft fh = true then some ⟨nd, nx, A, PL.set fp.toNat ⟨yn, ys, yr, ⟨zp, ze, ft, fh⟩⟩⟩ else none := by
   unfold doS; dsimp only; rw [if_neg (by decide), if_neg (by decide), if_neg (by decide), if_pos rfl, hx]; dsimp only; rw [turnS_eq]
   by_cases ht : turnOk ⟨zp, ze, zt, zh⟩ ft fh = true
   ·rw [if_pos ht, if_pos ht]
    rfl
   ·rw [if_neg ht, if_neg ht]
    rfl
  obtain ⟨tk, htk⟩ : ∃ b, turnOk ⟨zp, ze, zt, zh⟩ ft fh = b := ⟨_, rfl⟩
  rw [htk] at HT hdo; have hap : applyQ ⟨nd, nx, A, PL⟩ (⟨8, fn, fs, fr, fe, fp, fq, fo, fd, fa, ft, fh, fc, fx⟩ : FX) = if tk = true then (0, ⟨nd, nx, A, PL.set fp.toNat ⟨yn, ys, yr, ⟨zp, ze, ft, fh⟩⟩⟩) else (9, ⟨nd, nx, A, PL⟩) := by
   cases tk with
   | false => exact aZ hR hdo
   | true => exact aS hR hdo
  rw [hap]; clear hap hdo htk Hs ok hR hl hnp hlA l8 p8 hkW rW eva hwf hri hpn hx hck hgpB hgpl hfzp hcp hcp2 evp4; go_enter Tryz.func35, Tryz.ntmps35; go_wp2_with (go_at_call 87; (with_reducible refine (HRI.out _).mono ?_); rintro e' w1 ⟨rfl, hk1⟩; have K1 := hD hk1; obtain ⟨e0, e1, e2, e3, f0, f1, f2, f3, f4, f5, f6, f7, f8, f9, f10, f11, f12, f13⟩ := kZ18 hk1 e0 e1 e2 e3 f0 f1 f2 f3 f4 f5 f6 f7 f8 f9 f10 f11 f12 f13; obtain ⟨y2, y3, y4, y5, y6⟩ := kZ5 hk1 y2 y3 y4 y5 y6; clear hk1)
  go_region
  go_wp2_with fail
  obtain ⟨WD, hWD⟩ : ∃ x, w1.drew.drew = x := ⟨_, rfl⟩
  have kD : Kp w1 WD := by rw [← hWD]; exact dQ (dQ (Kp.refl w1))
  have HWD := hD hWD; clear hWD; refine rgW (fun w' => Kp w1 w') ?_ fun hH => ?_
  ·exact by rw [HWD.out]; exact kD
  rw [HWD.out] at hH ⊢; have hDD : Kp w1 WD := hH; refine tkP 0 ?_
  go_simp; refine tkP 1 ?_
  go_simp; refine tkP 2 ?_
  go_simp; refine tkP 3 ?_ (y := by intro w hZ; have g7 := kZ hZ e3; go_simp; try rfl)
  go_simp; refine tkP 4 ?_
  go_simp; refine tkP 5 ?_ (y := by intro w hZ; have gf := kZ hZ f5; go_simp; try rfl)
  go_simp; refine tkP 6 ?_
  go_simp; refine tkP 7 ?_
  go_simp; refine tkP 8 ?_ (y := by intro w hZ; obtain ⟨a3, a4, a5, a6⟩ := kZ4 hZ y3 y4 y5 y6; go_simp; try rfl)
  go_simp; refine tkP 9 ?_ (y := by intro w hZ; obtain ⟨a0, a1, a2, a3, a4, a5, a6, a7, a8, a9, a10, a11, a12, a13⟩ := kZ14 hZ f0 f1 f2 f3 f4 f5 f6 f7 f8 f9 f10 f11 f12 f13; go_simp; try rfl)
  go_simp; refine wpAnyH_ready (rs := [10, 14]) (by kernel_rfl) (by simp) ?_
  refine aC (fun K hK => ?_) (aC (fun K hK => ?_) aN0)
  ·go_simp; go_wp2_with (go_at_call 88; (with_reducible refine (HT.out _).mono ?_); rintro e' w5 ⟨rfl, hk5⟩)
   refine hK.out _ _ (kT hH hk5) fun hH => ?_
   clear hK K; have h55 : Kp w1 w5 := hH; refine tkP 11 ?_
   go_simp; refine tkP 12 ?_
   go_simp; refine tkP 13 ?_
   go_simp; refine rdW 14 fun K hK => ?_
   go_simp; refine hK.out _ _ (kT hH (kA _ _)) fun hH => ?_
   clear hK K; obtain ⟨Y14, hY14⟩ : ∃ x, w5.alloc (.cells #[(0:Int), (0:Int), (0:Int), (0:Int)] 128) = x := ⟨_, rfl⟩
   have r14 : Y14.heap[w5.heap.size]? = some (.cells #[(0:Int), (0:Int), (0:Int), (0:Int)] 128) := by rw [← hY14]; exact (mH w5 (.cells #[(0:Int), (0:Int), (0:Int), (0:Int)] 128))
   have b14 : w1.heap.size ≤ w5.heap.size := kS (show Kp w1 w5 from by assumption); obtain ⟨p14, hp14⟩ : ∃ x, w5.heap.size = x := ⟨_, rfl⟩
   rw [hp14] at r14 b14; rw [hY14] at hH ⊢
   try rw [hp14]
   clear hY14 hp14; have hYY : Kp w1 Y14 := hH; refine rdW 15 fun K hK => ?_
   obtain ⟨v0, v1, v2, v3⟩ := cells_4 r14; have fz5 := fQ r14; go_simp; refine hK.out _ _ (set_4_kp hH b14 _ _ _ _) fun hH => ?_
   clear hK K; obtain ⟨w6, hw6⟩ : ∃ x, (((Y14.setCell ⟨p14, 0, none⟩ (.int .i64 zp)).setCell ⟨p14, 1, none⟩ (.int .i64 ze)).setCell ⟨p14, 2, none⟩ (.int .i64 ft)).setCell ⟨p14, 3, none⟩ (.int .i64 fh) = x := ⟨_, rfl⟩
   have r10 : w6.heap[p14]? = some (.cells #[zp, ze, ft, fh] 128) := by rw [← hw6]; exact set_4 _ _ _ _ r14
   rw [hw6] at hH ⊢; have kw6 : Kp w1 w6 := hH; clear hw6 v0 v1 v2 v3 fz5; refine tkP 16 ?_
   go_simp; refine dnW ?_ _
   obtain ⟨g0, gf, h3, h4, h5⟩ := kZ5 kw6 e3 f5 y3 y4 y5; have h6 := kZ kw6 y6; obtain ⟨s0, s1, s2, s3⟩ := cells_4 r10; have zz := HZP.out w6 (kT KW.out (kT K1.out kw6)); have KW6 := hD (kT KW.out (kT K1.out kw6))
   cases tk with
   | false =>
    clear kw6 hH; go_wp2; go_ret; exact ⟨rfl, gs, va, _, HS.out.kp KW6.out, Asd.of_kp _ KW6.out⟩
   | true =>
    clear kw6 hH; go_wp2_with fail
    go_still_tail 7, (by kernel_rfl)
    change wpList _ _ _ _ _ w6.drew
    go_wp2; have FIN := (HS.out.kp KW6.out.drew).seatP tyD_ok HX.out ⟨zp, ze, ft, fh⟩; go_ret; exact ⟨rfl, gs, va, _, FIN.1, (Asd.of_kp _ KW6.out.drew).trans FIN.2⟩
  ·go_simp; refine hK.out _ _ (kT hH (kA _ _)) fun hH => ?_
   clear hK K; obtain ⟨Y14, hY14⟩ : ∃ x, WD.alloc (.cells #[(0:Int), (0:Int), (0:Int), (0:Int)] 128) = x := ⟨_, rfl⟩
   have r14 : Y14.heap[WD.heap.size]? = some (.cells #[(0:Int), (0:Int), (0:Int), (0:Int)] 128) := by rw [← hY14]; exact (mH WD (.cells #[(0:Int), (0:Int), (0:Int), (0:Int)] 128))
   have b14 : w1.heap.size ≤ WD.heap.size := kS (show Kp w1 WD from by assumption); obtain ⟨p14, hp14⟩ : ∃ x, WD.heap.size = x := ⟨_, rfl⟩
   rw [hp14] at r14 b14; rw [hY14] at hH ⊢
   try rw [hp14]
   clear hY14 hp14; have hYY : Kp w1 Y14 := hH; refine rdW 10 fun K hK => ?_
   go_simp; go_wp2_with (go_at_call 88; (with_reducible refine (HT.out _).mono ?_); rintro e' w5 ⟨rfl, hk5⟩)
   refine hK.out _ _ (kT hH hk5) fun hH => ?_
   clear hK K; have h55 : Kp w1 w5 := hH; have r14 := rZ hk5 r14; refine tkP 11 ?_
   go_simp; refine tkP 12 ?_
   go_simp; refine tkP 13 ?_
   go_simp; refine rdW 15 fun K hK => ?_
   obtain ⟨v0, v1, v2, v3⟩ := cells_4 r14; have fz5 := fQ r14; go_simp; refine hK.out _ _ (set_4_kp hH b14 _ _ _ _) fun hH => ?_
   clear hK K; obtain ⟨w6, hw6⟩ : ∃ x, (((w5.setCell ⟨p14, 0, none⟩ (.int .i64 zp)).setCell ⟨p14, 1, none⟩ (.int .i64 ze)).setCell ⟨p14, 2, none⟩ (.int .i64 ft)).setCell ⟨p14, 3, none⟩ (.int .i64 fh) = x := ⟨_, rfl⟩
   have r10 : w6.heap[p14]? = some (.cells #[zp, ze, ft, fh] 128) := by rw [← hw6]; exact set_4 _ _ _ _ r14
   rw [hw6] at hH ⊢; have kw6 : Kp w1 w6 := hH; clear hw6 v0 v1 v2 v3 fz5; refine tkP 16 ?_
   go_simp; refine dnW ?_ _
   obtain ⟨g0, gf, h3, h4, h5⟩ := kZ5 kw6 e3 f5 y3 y4 y5; have h6 := kZ kw6 y6; obtain ⟨s0, s1, s2, s3⟩ := cells_4 r10; have zz := HZP.out w6 (kT KW.out (kT K1.out kw6)); have KW6 := hD (kT KW.out (kT K1.out kw6))
   cases tk with
   | false =>
    clear kw6 hH; go_wp2; go_ret; exact ⟨rfl, gs, va, _, HS.out.kp KW6.out, Asd.of_kp _ KW6.out⟩
   | true =>
    clear kw6 hH; go_wp2_with fail
    go_still_tail 7, (by kernel_rfl)
    change wpList _ _ _ _ _ w6.drew
    go_wp2; have FIN := (HS.out.kp KW6.out.drew).seatP tyD_ok HX.out ⟨zp, ze, ft, fh⟩; go_ret; exact ⟨rfl, gs, va, _, FIN.1, (Asd.of_kp _ KW6.out.drew).trans FIN.2⟩
end Go.Proofs.YtlmlmhmhgdjhnaaGreatDoor
