/- Parts of this proof (own work). -/
import Derived.Test.YtpemeenfhkgmpaaGreatDoorZr12
set_option maxRecDepth 100000
set_option maxHeartbeats 40000000
namespace Go.Proofs.YtpemeenfhkgmpaaGreatDoor
open Go.RowKit Go.ChangeShapes Go.WideShapes
theorem rules_any (k : Int) (h : 1 ≤ k ∧ k ≤ 8) (B : Nat) (w : World) (hB : B < w.heap.size) : Calls Tryz.prog 63 #[.int .i64 k] w fun e w' => ∃ v, e = .returned v ∧ RuL B v (rulesM k) w' ∧ Kp w w' := by
 have hk : k = 1 ∨ k = 2 ∨ k = 3 ∨ k = 4 ∨ k = 5 ∨ k = 6 ∨ k = 7 ∨ k = 8 := by omega
 rcases hk with rfl | rfl | rfl | rfl | rfl | rfl | rfl | rfl
 ·exact rules_1 B w hB
 ·exact rules_2 B w hB
 ·exact rules_3 B w hB
 ·exact rules_4 B w hB
 ·exact rules_5 B w hB
 ·exact rules_6 B w hB
 ·exact rules_7 B w hB
 ·exact rules_8 B w hB
theorem rulesM_len (k : Int) : (rulesM k).length ≤ 5 := by
 unfold rulesM
 split
 ·decide
 split
 ·decide
 split
 ·decide
 split
 ·decide
 split
 ·decide
 split
 ·decide
 split
 ·decide
 split <;> decide
theorem seat_call (B : Nat) (k n s r u p q o d a t hh c : Int) (x : Nat) (w : World) (hB : w.heap[B]? = some (.cells #[k, n, s, r, u, p, q, o, d, a, t, hh, c, .float .f64 x] 39 (0, 0))) :
  Calls Tryz.prog 105 #[.pointer (some ⟨B, 0, none⟩)] w fun e w' => e = .returned (.bool (seatX t hh)) ∧ w'.heap[B]? = some (.cells #[k, n, s, r, u, p, q, o, d, a, .int .i64 0, .int .i64 0, c, .float .f64 x] 39 (0, 0)) ∧ Xb B w w' := by
 by_cases h : 1 ≤ t ∧ t ≤ 14
 ·exact seat_t B k n s r u p q o d a t hh c x w hB h
 ·exact seat_f B k n s r u p q o d a t hh c x w hB h
theorem act_ru (ads : List Addr) (w0 : World) (V : St ads w0) (T : Tab w0) (B : Nat) (hB0 : w0.heap.size ≤ B) (l : List Int) (hl : l.length = 13) (y : Nat) (w : World) (K : Kp w0 w) (hB : w.heap[B]? = some (.cells (numsF l y) 39 (0, 0))) :
  Calls Tryz.prog 104 #[.pointer (some ⟨B, 0, none⟩)] w fun e w' => e = .returned (.bool (RuM.ok .act l y)) ∧ w'.heap[B]? = some (.cells (numsF (RuM.tkL .act l) y) 39 (0, 0)) ∧ Xb B w w' := by
 obtain ⟨k, n, s, r, u, p, q, o, d, a, t, hh, c, rfl⟩ := thirteen hl; exact act_call ads w0 V T B hB0 k n s r u p q o d a t hh c y w K hB
theorem ctx_ru (ads : List Addr) (w0 : World) (V : St ads w0) (T : Tab w0) (B : Nat) (hB0 : w0.heap.size ≤ B) (l : List Int) (hl : l.length = 13) (y : Nat) (hy : y < 18446744073709551616) (w : World) (K : Kp w0 w) (hB : w.heap[B]? = some (.cells (numsF l y) 39 (0, 0))) :
  Calls Tryz.prog 103 #[.pointer (some ⟨B, 0, none⟩)] w fun e w' => e = .returned (.bool (RuM.ok .ctx l y)) ∧ w'.heap[B]? = some (.cells (numsF (RuM.tkL .ctx l) 0) 39 (0, 0)) ∧ Xb B w w' := by
 obtain ⟨k, n, s, r, u, p, q, o, d, a, t, hh, c, rfl⟩ := thirteen hl; exact ctx_call ads w0 V T B hB0 k n s r u p q o d a t hh c y w K hB hy
theorem seat_ru (B : Nat) (l : List Int) (hl : l.length = 13) (y : Nat) (w : World) (hB : w.heap[B]? = some (.cells (numsF l y) 39 (0, 0))) :
  Calls Tryz.prog 105 #[.pointer (some ⟨B, 0, none⟩)] w fun e w' => e = .returned (.bool (RuM.ok .seat l y)) ∧ w'.heap[B]? = some (.cells (numsF (RuM.tkL .seat l) y) 39 (0, 0)) ∧ Xb B w w' := by
 obtain ⟨k, n, s, r, u, p, q, o, d, a, t, hh, c, rfl⟩ := thirteen hl; exact seat_call B k n s r u p q o d a t hh c y w hB
def RuM.safe : RuM → Prop
 | .rg tag _ _ => 2 ≤ tag
 | _ => True
theorem rulesM_safe (k : Int) : ∀ r ∈ rulesM k, r.safe := by
 have hs : ∀ (l : List RuM), (l.all fun r => match r with | .rg tag _ _ => decide (2 ≤ tag) | _ => true) = true → ∀ r ∈ l, r.safe := by
  intro l h r hr; have := List.all_eq_true.1 h r hr
  cases r with
  | rg tag lo hi => exact (of_decide_eq_true this : 2 ≤ tag)
  | act => trivial
  | ctx => trivial
  | seat => trivial
 refine hs _ ?_
 unfold rulesM
 split
 ·decide
 split
 ·decide
 split
 ·decide
 split
 ·decide
 split
 ·decide
 split
 ·decide
 split
 ·decide
 split <;> decide
theorem safe_head {r : RuM} (h : r.safe) (l : List Int) : (r.tkL l).getD 0 0 = l.getD 0 0 := by
 cases r with
 | rg tag lo hi =>
  have h2 : 2 ≤ tag := h; simp only [RuM.tkL, List.getD]
  rw [List.getElem?_set_ne (by omega)]
 | act => simp [RuM.tkL, List.getD]
 | ctx => simp [RuM.tkL, List.getD]
 | seat => simp [RuM.tkL, List.getD]
structure RiS (k : Int) (w0 : World) (B : Nat) (g : Nat) (rs : List RuM) (o : Option (List Int × Nat)) (j : Nat) (wr : World) : Prop where
 kW : Kp w0 wr
 lst : RuL B (.slice (some ⟨g, 0, none⟩) rs.length rs.length) rs wr
 ex : ∃ l x, l.length = 13 ∧ l.getD 0 0 = k ∧ x < 18446744073709551616 ∧ wr.heap[B]? = some (.cells (numsF l x) 39 (0, 0)) ∧ o = runR (rs.drop j) l x
theorem facRight_far (f : FX) (w : World) (hk : ¬ (1 ≤ f.k ∧ f.k ≤ 8)) : Calls Tryz.prog 27 #[.agg f.cells] w fun e w' => e = .returned (.bool (rightF f)) ∧ Kp w w' := by
 rw [right_far hk]; obtain ⟨k, n, s, r, u, p, q, o, d, a, t, hh, c, x⟩ := f; dsimp only [FX.cells] at hk ⊢; have HR := hD (mH w (.cells #[k, n, s, r, u, p, q, o, d, a, t, hh, c, .float .f64 x] 39)); obtain ⟨b0, b1, b2, b3, b4, b5, b6, b7, b8, b9, b10, b11, b12, b13⟩ := cZ HR.out; have K := hD (kA w (.cells #[k, n, s, r, u, p, q, o, d, a, t, hh, c, .float .f64 x] 39)); have h1 : decide (1 ≤ k ∧ k ≤ 8) = false := dF hk; have HW := hD (fun w1 => within_any k 1 8 w1); simp only [h1] at HW
 clear hk h1; go_enter Tryz.func27, Tryz.ntmps27; go_wp2_with (go_at_call 62; (with_reducible refine (HW.out _).mono ?_); rintro e w' ⟨rfl, rfl⟩)
 go_ret; exact ⟨rfl, K.out⟩
theorem facRight_in (ads : List Addr) (f : FX) (hf : f.wf) (w : World) (V : St ads w) (T : Tab w) (hk : 1 ≤ f.k ∧ f.k ≤ 8) : Calls Tryz.prog 27 #[.agg f.cells] w fun e w' => e = .returned (.bool (rightF f)) ∧ Kp w w' := by
 rw [right_rules hk]; obtain ⟨B, hB⟩ : ∃ y, w.heap.size = y := ⟨_, rfl⟩
 have hr := (mH w (.cells f.cells 39))
 have kb := kA w (.cells f.cells 39); have hs : B < (w.alloc (.cells f.cells 39)).heap.size := by rw [← hB]; simp
 rw [hB] at hr; obtain ⟨nl, hnl⟩ : ∃ y, f.nums = y := ⟨_, rfl⟩
 have hll : nl.length = 13 := by rw [← hnl]; rfl
 have HNL := hD hnl; obtain ⟨k, n, s, r, u, p, q, o, d, a, t, hh, c, x⟩ := f; dsimp only [FX.cells] at hk hr kb hs ⊢; have hr1 := hr.trans (show some (Obj.cells #[k, n, s, r, u, p, q, o, d, a, t, hh, c, .float .f64 x] 39 (0, 0)) = some (Obj.cells (numsF nl x) 39 (0, 0)) by rw [← hnl]; rfl); rw [hnl]; obtain ⟨b0, b1, b2, b3, b4, b5, b6, b7, b8, b9, b10, b11, b12, b13⟩ := cZ hr; have h1 : decide (1 ≤ k ∧ k ≤ 8) = true := dT hk; have HW := hD (fun w1 => within_any k 1 8 w1); simp only [h1] at HW
 have HRU := rules_any k hk B _ hs; have h5 := rulesM_len k; have hsafe := rulesM_safe k; obtain ⟨rs, hrs⟩ : ∃ y, rulesM k = y := ⟨_, rfl⟩
 rw [hrs] at HRU h5 hsafe ⊢; have HSA := hD hsafe; obtain ⟨nn, hn⟩ : ∃ y, rs.length = y := ⟨_, rfl⟩
 rw [hn] at h5; have HN := hD hn; have HRU2 : Calls Tryz.prog 63 #[.int .i64 k] (w.alloc (.cells #[k, n, s, r, u, p, q, o, d, a, t, hh, c, .float .f64 x] 39)) fun e w' => ∃ g, e = .returned (.slice (some ⟨g, 0, none⟩) nn nn) ∧ RuL B (.slice (some ⟨g, 0, none⟩) rs.length rs.length) rs w' ∧ Kp (w.alloc (.cells #[k, n, s, r, u, p, q, o, d, a, t, hh, c, .float .f64 x] 39)) w' :=
  HRU.mono (by
   rintro e w2 ⟨v, rfl, hv, hk2⟩; obtain ⟨g, vs, rfl, h6⟩ := hv; exact ⟨g, by rw [hn], ⟨g, vs, rfl, h6⟩, hk2⟩)
 have HRU2 := hD HRU2; clear HRU; have HR1 := hD hr1; have KB := hD kb; have HB := hD hB; have V0 := hD V; have T0 := hD T; have HF := hD (show x < 18446744073709551616 from hf); have HLL := hD hll; have HHD := hD (show nl.getD 0 0 = k by rw [← hnl]; rfl); clear hk h1 hnl hr hr1 kb hs hf V T hrs hn hll hsafe; go_enter Tryz.func27, Tryz.ntmps27; go_wp2_with (go_at_call 62; (with_reducible refine (HW.out _).mono ?_); rintro e w' ⟨rfl, rfl⟩)
 with_reducible refine HRU2.out.mono ?_
 rintro e w2 ⟨g, rfl, hv, hk2⟩; have K2 := hD (kT KB.out hk2); have R2 := hD (rZ hk2 HR1.out); have HV := hD hv; clear hk2 hv; go_wp2; have HL : RiS k w B g rs (runR rs nl x) 0 w2 := ⟨K2.out, HV.out, nl, x, HLL.out, HHD.out, HF.out, R2.out, rfl⟩
 have HL := hD HL; clear HRU2 R2 HV K2; go_loopw [13] (fun i wr => ∃ j : Nat, j ≤ nn ∧ i = .int .i64 j ∧ RiS k w B g rs (runR rs nl x) j wr) (fun i _ => nn - (intOf i).toNat)
 case atStart => exact ⟨0, Nat.zero_le _, rfl, HL.out⟩
 case round =>
  obtain ⟨j, hj, rfl, hi⟩ := hrel; obtain ⟨jj, hjj⟩ : ∃ jj : Int, (j : Int) = jj := ⟨_, rfl⟩
  rw [hjj]; obtain ⟨kW, lst, l, y, hl, hk0, hy, hrow, hex⟩ := hi; have KW := hD kW; have LST := hD lst
  by_cases hlt : j < nn
  ·have hjr : j < rs.length := by rw [HN.out]; exact hlt
   obtain ⟨g', vs, hv, hgB, hvl, ⟨ty, fr, hg⟩, hru⟩ := lst; injection hv with hv1 _ _
   injection hv1 with hv2
   injection hv2 with hv3 _ _
   subst hv3; have hjv : j < vs.length := by omega
   have hru1 := hru j vs[j] rs[j] (List.getElem?_eq_getElem hjv) (List.getElem?_eq_getElem hjr); have hdr : rs.drop j = rs[j] :: rs.drop (j + 1) := List.drop_eq_getElem_cons hjr; rw [hdr, runR] at hex; have hst := HSA.out rs[j] (List.getElem_mem hjr); have cv : wr.cell? ⟨g, j, none⟩ = some vs[j] := by
    unfold World.cell?; dsimp only; rw [hg]
    simp [hjv]
   obtain ⟨vj, hvj⟩ : ∃ z, vs[j] = z := ⟨_, rfl⟩
   obtain ⟨r0, hr0⟩ : ∃ z, rs[j] = z := ⟨_, rfl⟩
   rw [hvj] at cv hru1; rw [hr0] at hru1 hex hst hdr; have ej : jj.toNat = j := by omega
   rw [← ej] at cv; have j0 : 0 ≤ jj := by omega
   have hltj : jj < nn := by omega
   clear hru hg hvl hgB hjv hvj hr0
   cases r0 with
   | rg tag lo hi =>
    obtain ⟨p0, q0, s0, rfl, hn0, ht0, hp0, hq0, hs0⟩ := hru1
    cases hok : RuM.ok (.rg tag lo hi) l y with
    | false =>
     rw [if_neg (by rw [hok]; decide)] at hex; have HFA := hD (show leftF k (runR rs nl x) = false by rw [hex]; rfl); have HC := rg_call tag (tag : Int) lo hi rfl ht0 B p0 q0 s0 l y hl wr hrow hn0 hp0 hq0 hs0; rw [hok] at HC; have HC := hD HC; clear hok hex hrow kW hjr hlt ej hjj hdr hl hy hk0 hst; go_wp2_with (go_at_call 142; (with_reducible refine HC.out.mono ?_); rintro e w5 ⟨rfl, hb5, hx5⟩; have HX5 := hD hx5; clear hb5 hx5)
     go_ret; exact ⟨by rw [HFA.out]; rfl, HX5.out.below (Nat.le_of_eq HB.out) KW.out⟩
    | true =>
     rw [if_pos hok] at hex; have HEX := hD hex; have HC := rg_call tag (tag : Int) lo hi rfl ht0 B p0 q0 s0 l y hl wr hrow hn0 hp0 hq0 hs0; rw [hok] at HC; have HC := hD HC; have HJ := hD hjj; have HH2 := hD (show (RuM.tkL (.rg tag lo hi) l).getD 0 0 = k by rw [safe_head hst]; exact hk0); have HL2 := hD (show (RuM.tkL (.rg tag lo hi) l).length = 13 by rw [RuM.tkL_len]; exact hl); have HY2 := hD (RuM.tkX_wf (.rg tag lo hi) hy); clear hok hex hrow kW hjr ej hjj hdr hl hy hk0 hst; go_wp2_with (go_at_call 142; (with_reducible refine HC.out.mono ?_); rintro e w5 ⟨rfl, hb5, hx5⟩; have HX5 := hD hx5; have HB5 := hD hb5; clear hb5 hx5)
     have hjj := HJ.out; go_roundw
     case rel => exact ⟨j + 1, by omega, by congr 1; omega, HX5.out.below (Nat.le_of_eq HB.out) KW.out, LST.out.xb HX5.out, _, _, HL2.out, HH2.out, HY2.out, HB5.out, HEX.out⟩
     case measure => simp [intOf]; omega
   | act =>
    obtain rfl : vj = _ := hru1
    cases hok : RuM.ok .act l y with
    | false =>
     rw [if_neg (by rw [hok]; decide)] at hex; have HFA := hD (show leftF k (runR rs nl x) = false by rw [hex]; rfl); have HC := act_ru ads w V0.out T0.out B (Nat.le_of_eq HB.out) l hl y wr kW hrow; rw [hok] at HC; have HC := hD HC; clear hok hex hrow kW hjr hlt ej hjj hdr hl hy hk0 hst; go_wp2_with (go_at_call 104; (with_reducible refine HC.out.mono ?_); rintro e w5 ⟨rfl, hb5, hx5⟩; have HX5 := hD hx5; clear hb5 hx5)
     go_ret; exact ⟨by rw [HFA.out]; rfl, HX5.out.below (Nat.le_of_eq HB.out) KW.out⟩
    | true =>
     rw [if_pos hok] at hex; have HEX := hD hex; have HC := act_ru ads w V0.out T0.out B (Nat.le_of_eq HB.out) l hl y wr kW hrow; rw [hok] at HC; have HC := hD HC; have HJ := hD hjj; have HH2 := hD (show (RuM.tkL .act l).getD 0 0 = k by rw [safe_head hst]; exact hk0); have HL2 := hD (show (RuM.tkL .act l).length = 13 by rw [RuM.tkL_len]; exact hl); have HY2 := hD (RuM.tkX_wf .act hy); clear hok hex hrow kW hjr ej hjj hdr hl hy hk0 hst; go_wp2_with (go_at_call 104; (with_reducible refine HC.out.mono ?_); rintro e w5 ⟨rfl, hb5, hx5⟩; have HX5 := hD hx5; have HB5 := hD hb5; clear hb5 hx5)
     have hjj := HJ.out; go_roundw
     case rel => exact ⟨j + 1, by omega, by congr 1; omega, HX5.out.below (Nat.le_of_eq HB.out) KW.out, LST.out.xb HX5.out, _, _, HL2.out, HH2.out, HY2.out, HB5.out, HEX.out⟩
     case measure => simp [intOf]; omega
   | ctx =>
    obtain rfl : vj = _ := hru1
    cases hok : RuM.ok .ctx l y with
    | false =>
     rw [if_neg (by rw [hok]; decide)] at hex; have HFA := hD (show leftF k (runR rs nl x) = false by rw [hex]; rfl); have HC := ctx_ru ads w V0.out T0.out B (Nat.le_of_eq HB.out) l hl y hy wr kW hrow; rw [hok] at HC; have HC := hD HC; clear hok hex hrow kW hjr hlt ej hjj hdr hl hy hk0 hst; go_wp2_with (go_at_call 103; (with_reducible refine HC.out.mono ?_); rintro e w5 ⟨rfl, hb5, hx5⟩; have HX5 := hD hx5; clear hb5 hx5)
     go_ret; exact ⟨by rw [HFA.out]; rfl, HX5.out.below (Nat.le_of_eq HB.out) KW.out⟩
    | true =>
     rw [if_pos hok] at hex; have HEX := hD hex; have HC := ctx_ru ads w V0.out T0.out B (Nat.le_of_eq HB.out) l hl y hy wr kW hrow; rw [hok] at HC; have HC := hD HC; have HJ := hD hjj; have HH2 := hD (show (RuM.tkL .ctx l).getD 0 0 = k by rw [safe_head hst]; exact hk0); have HL2 := hD (show (RuM.tkL .ctx l).length = 13 by rw [RuM.tkL_len]; exact hl); have HY2 := hD (RuM.tkX_wf .ctx hy); clear hok hex hrow kW hjr ej hjj hdr hl hy hk0 hst; go_wp2_with (go_at_call 103; (with_reducible refine HC.out.mono ?_); rintro e w5 ⟨rfl, hb5, hx5⟩; have HX5 := hD hx5; have HB5 := hD hb5; clear hb5 hx5)
     have hjj := HJ.out; go_roundw
     case rel => exact ⟨j + 1, by omega, by congr 1; omega, HX5.out.below (Nat.le_of_eq HB.out) KW.out, LST.out.xb HX5.out, _, _, HL2.out, HH2.out, HY2.out, HB5.out, HEX.out⟩
     case measure => simp [intOf]; omega
   | seat =>
    obtain rfl : vj = _ := hru1
    cases hok : RuM.ok .seat l y with
    | false =>
     rw [if_neg (by rw [hok]; decide)] at hex; have HFA := hD (show leftF k (runR rs nl x) = false by rw [hex]; rfl); have HC := seat_ru B l hl y wr hrow; rw [hok] at HC; have HC := hD HC; clear hok hex hrow kW hjr hlt ej hjj hdr hl hy hk0 hst; go_wp2_with (go_at_call 105; (with_reducible refine HC.out.mono ?_); rintro e w5 ⟨rfl, hb5, hx5⟩; have HX5 := hD hx5; clear hb5 hx5)
     go_ret; exact ⟨by rw [HFA.out]; rfl, HX5.out.below (Nat.le_of_eq HB.out) KW.out⟩
    | true =>
     rw [if_pos hok] at hex; have HEX := hD hex; have HC := seat_ru B l hl y wr hrow; rw [hok] at HC; have HC := hD HC; have HJ := hD hjj; have HH2 := hD (show (RuM.tkL .seat l).getD 0 0 = k by rw [safe_head hst]; exact hk0); have HL2 := hD (show (RuM.tkL .seat l).length = 13 by rw [RuM.tkL_len]; exact hl); have HY2 := hD (RuM.tkX_wf .seat hy); clear hok hex hrow kW hjr ej hjj hdr hl hy hk0 hst; go_wp2_with (go_at_call 105; (with_reducible refine HC.out.mono ?_); rintro e w5 ⟨rfl, hb5, hx5⟩; have HX5 := hD hx5; have HB5 := hD hb5; clear hb5 hx5)
     have hjj := HJ.out; go_roundw
     case rel => exact ⟨j + 1, by omega, by congr 1; omega, HX5.out.below (Nat.le_of_eq HB.out) KW.out, LST.out.xb HX5.out, _, _, HL2.out, HH2.out, HY2.out, HB5.out, HEX.out⟩
     case measure => simp [intOf]; omega
  ·obtain rfl : j = nn := by omega
   rw [List.drop_of_length_le (by rw [HN.out]; omega), runR] at hex; obtain ⟨k1, n1, s1, r1, u1, p1, q1, o1, d1, a1, t1, hh1, c1, rfl⟩ := thirteen hl; obtain rfl : k1 = k := hk0; have HEX := hD hex; obtain ⟨m0, m1, m2, m3, m4, m5, m6, m7, m8, m9, m10, m11, m12, m13⟩ := cZ (show wr.heap[B]? = some (.cells #[k1, n1, s1, r1, u1, p1, q1, o1, d1, a1, t1, hh1, c1, .float .f64 y] 39 (0, 0)) from hrow); have hq := fun w1 => fct_eql ⟨k1, n1, s1, r1, u1, p1, q1, o1, d1, a1, t1, hh1, c1, y⟩ ⟨k1, 0, 0, 0, 0, 0, 0, 0, 0, 0, 0, 0, 0, 0⟩ w1
   have hgd := fun (op : BinOp) (xx yy : Operand) w1 => fct_guard op xx yy ⟨k1, n1, s1, r1, u1, p1, q1, o1, d1, a1, t1, hh1, c1, y⟩ ⟨k1, 0, 0, 0, 0, 0, 0, 0, 0, 0, 0, 0, 0, 0⟩ w1
   dsimp only [FX.cells] at hq hgd; have e1 := ext_bits; have HV : leftF k1 (runR rs nl x) = ((decide (FX.nums ⟨k1, n1, s1, r1, u1, p1, q1, o1, d1, a1, t1, hh1, c1, y⟩ = FX.nums ⟨k1, 0, 0, 0, 0, 0, 0, 0, 0, 0, 0, 0, 0, 0⟩) && feqF y 0) && ((y : Int) == 0)) := by
    rw [HEX.out]; unfold leftF; dsimp only [FX.nums]
    by_cases y0 : y = 0
    ·subst y0; rw [feqF_00]
     simp
    ·have g1 : decide (y = 0) = false := dF y0; have g2 : ((y : Int) == 0) = false := by simpa using y0
     rw [g1, g2, Bool.and_false, Bool.and_false]
   obtain ⟨bb, hbb⟩ : ∃ z, (decide (FX.nums ⟨k1, n1, s1, r1, u1, p1, q1, o1, d1, a1, t1, hh1, c1, y⟩ = FX.nums ⟨k1, 0, 0, 0, 0, 0, 0, 0, 0, 0, 0, 0, 0, 0⟩) && feqF y 0) = z := ⟨_, rfl⟩
   rw [hbb] at hq HV; have HVH := hD HV; have hex2 : ¬ jj < j := by omega
   clear HV hbb hex hrow kW lst hl hy hlt hjj
   cases bb with
   | false =>
    go_wp2; go_ret; exact ⟨by rw [HVH.out]; rfl, KW.out⟩
   | true =>
    go_wp2; go_ret; exact ⟨by rw [HVH.out]; rfl, KW.out⟩
theorem facRight_any (ads : List Addr) (f : FX) (hf : f.wf) (w : World) (V : St ads w) (T : Tab w) : Calls Tryz.prog 27 #[.agg f.cells] w fun e w' => e = .returned (.bool (rightF f)) ∧ Kp w w' := by
 by_cases hk : 1 ≤ f.k ∧ f.k ≤ 8
 ·exact facRight_in ads f hf w V T hk
 ·exact facRight_far f w hk
theorem split_own (ads : List Addr) (h1 : 1 < ads.length) (h3 : 3 < ads.length) (a : Option Addr) (cap : Nat) (bs : List Int) (len : Nat) (hlen : bs.length = len) (hl : len ≤ 1000000) (hlc : len ≤ cap) (hb : InB bs) (w : World) (V : St ads w) (hs : SlB (.slice a len cap) bs w) (h0 : (splitQ 17 bs 0 0).1 = 0) :
  Calls Tryz.prog 94 #[.slice a len cap] w fun e w' => ∃ v gs, e = .returned (.tuple #[v, .nilIface]) ∧ (splitQ 17 bs 0 0).2 = gs.map fldQ ∧ w'.ownsRow w.heap.size 122 2 v gs.length (gs.flatMap cellQ) ∧ OwnD w.heap.size gs w' ∧ Kp w w' := by
 have hmf : ∀ (fn : Fn) (first cap : Array Value) (w : World), (Instr.makeFunc fn first cap).run Tryz.prog w = .ok (.func fn first cap) w := fun _ _ _ _ => rfl
 have kb := kA w (.cells #[.slice a len cap] 55); have hbx : (w.alloc (boxS (.slice a len cap))).heap[w.heap.size]? = some (boxS (.slice a len cap)) := (mH w _)
 have hsz : (w.alloc (.cells #[.slice a len cap] 55)).heap.size = w.heap.size + 1 := by simp
 obtain ⟨RES, hres⟩ : ∃ RES, splitQ 17 bs 0 0 = RES := ⟨_, rfl⟩
 have HB := fun w1 (hk : Kp (w.alloc (.cells #[.slice a len cap] 55)) w1) => split1_any ads h1 h3 w a cap bs len hlen hl hlc hb hs V w1 (kT kb hk) (rZ hk hbx)
 rw [hres] at HB h0 ⊢; have hf : ∀ w, (callFunc 133 #[.pointer (some ⟨w.heap.size, 0, none⟩)]).run Tryz.prog w = .ok (.enter 133 #[.pointer (some ⟨w.heap.size, 0, none⟩)]) w := by intro w; simp [go_sem]
 have KB := hD kb; have HSZ := hD hsz; have HT : Calls Tryz.prog 132 #[.func (.func 133) #[] #[.pointer (some ⟨w.heap.size, 0, none⟩)]] (w.alloc (.cells #[.slice a len cap] 55)) fun e w' => ∃ v gs, e = .returned (.tuple #[v, .nilIface]) ∧ RES.2 = gs.map fldQ ∧ w'.ownsRow w.heap.size 122 2 v gs.length (gs.flatMap cellQ) ∧ OwnD w.heap.size gs w' ∧ Below w.heap.size w w' := by
  refine (try_fields_ret 133 _ _ (fun v w1 w2 => ∃ gs, RES.2 = gs.map fldQ ∧ w2.ownsRow w1.heap.size 122 2 v gs.length (gs.flatMap cellQ) ∧ OwnD w1.heap.size gs w2 ∧ Kp w w2) (by intro w; simp [go_sem]) fun w1 hb1 hs1 => ?_).mono ?_
  ·refine (HB w1 hb1).mono ?_
   rintro e w2 ⟨h, hk, hkb⟩
   rcases h with ⟨_, v, gs, rfl, h2, ho, hd⟩ | ⟨h, _⟩ | ⟨h, _⟩
   ·exact ⟨v, rfl, hkb.past (by rw [HSZ.out]; omega), gs, h2, ho, hd, hk⟩
   ·rw [h0] at h; cases h
   ·rw [h0] at h; cases h
  ·rintro e w' ⟨v, rfl, w1, w2, hb1, hs1, ⟨gs, h2, ho, hd, hk⟩, hb2, ha⟩; have hle : w.heap.size ≤ w1.heap.size := by have := HSZ.out; omega
   refine ⟨v, gs, rfl, h2, own_mono (own_aside ho ha (by omega)) hle, fun g hg => ⟨own_mono ((ownD_aside hd ha (by omega)) g hg).1 hle, (hd g hg).2⟩, ?_⟩
   exact Below.trans hk (Below.mono hb2 (by rw [HSZ.out]; omega))
 have HTT := hD HT; clear HT HB kb hbx hsz hs V; go_enter Tryz.func94, Tryz.ntmps94; go_wp2_with (go_at_call 132; (with_reducible refine HTT.out.mono ?_); rintro e w' ⟨v, gs, rfl, h2, ho, hd, hk⟩; have HK := hD hk; have HO := hD ho; have HD := hD hd; have H2 := hD h2; clear hk ho hd h2)
 go_ret2
 exact ⟨_, gs, rfl, H2.out, HO.out, HD.out, HK.out⟩
end Go.Proofs.YtpemeenfhkgmpaaGreatDoor
