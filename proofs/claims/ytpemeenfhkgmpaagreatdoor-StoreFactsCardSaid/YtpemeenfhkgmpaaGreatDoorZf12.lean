/- Parts of this proof (own work). -/
import Derived.Test.YtpemeenfhkgmpaaGreatDoorZf11
set_option maxRecDepth 100000
set_option maxHeartbeats 40000000
namespace Go.Proofs.YtpemeenfhkgmpaaGreatDoor
open Go.RowKit Go.ChangeShapes Go.WideShapes
theorem fct_fields : Tryz.prog.underlying 39 = some (.struct (Tryz.prog.fieldsOf 39)) := by
 unfold Program.fieldsOf; rw [Tryz.underlying39]
def feqF (x y : Nat) : Bool := FloatKind.f64.format.order x y == some .eq
theorem feqF_00 : feqF 0 0 = true := by decide
theorem run_equalIn_f64 (d : Nat) (t : TypeId) (x y : Nat) (w : World) (h : Tryz.prog.underlying t = some (.float .f64)) : (Op.equalIn (d + 1) t (.float .f64 x) (.float .f64 y)).run Tryz.prog w = .ok (feqF x y) w := by
 simp [Op.equalIn, run_underlying h, go_sem, feqF, Op.floatEq]
theorem fct_eq (a b : FX) (w : World) : (Op.equalIn 10000 39 (.agg a.cells) (.agg b.cells)).run Tryz.prog w = .ok (decide (a.nums = b.nums) && feqF a.x b.x) w := by
 obtain ⟨k, n, s, r, u, p, q, o, d, a, t, hh, c, x⟩ := a; obtain ⟨k', n', s', r', u', p', q', o', d', a', t', hh', c', x'⟩ := b; have hm : Tryz.prog.stoodInHeld 39 = false := by kernel_rfl
 have ha : Tryz.prog.stoodInHeld 36 = false := by kernel_rfl
 have hq := run_equalIn_f64 9998 37 x x' w Tryz.underlying37; obtain ⟨fq, hfq⟩ : ∃ y, feqF x x' = y := ⟨_, rfl⟩
 rw [hfq] at hq; dsimp only [FX.cells, FX.nums]; rw [hfq]; rw [show (10000 : Nat) = 9998 + 1 + 1 from rfl, run_equalIn_agg w (9998 + 1) 39 _ _ fct_fields hm]
 simp [Program.fieldsOf, Tryz.underlying39, Tryz.underlying36, Op.eqFields, part, go_sem]
 by_cases h0 : k = k'
 rotate_left
 ·simp [h0]
 subst h0
 by_cases h1 : n = n'
 rotate_left
 ·simp [h1]
 subst h1
 by_cases h2 : s = s'
 rotate_left
 ·simp [h2]
 subst h2
 by_cases h3 : r = r'
 rotate_left
 ·simp [h3]
 subst h3
 by_cases h4 : u = u'
 rotate_left
 ·simp [h4]
 subst h4
 by_cases h5 : p = p'
 rotate_left
 ·simp [h5]
 subst h5
 by_cases h6 : q = q'
 rotate_left
 ·simp [h6]
 subst h6
 by_cases h7 : o = o'
 rotate_left
 ·simp [h7]
 subst h7
 by_cases h8 : d = d'
 rotate_left
 ·simp [h8]
 subst h8
 by_cases h9 : a = a'
 rotate_left
 ·simp [h9]
 subst h9
 by_cases h10 : t = t'
 rotate_left
 ·simp [h10]
 subst h10
 by_cases h11 : hh = hh'
 rotate_left
 ·simp [h11]
 subst h11
 by_cases h12 : c = c'
 rotate_left
 ·simp [h12]
 subst h12
 simp [hq]
 cases fq <;> rfl
theorem fct_eql (a b : FX) (w : World) : (binOp .eql 39 (.agg a.cells) (.agg b.cells)).run Tryz.prog w = .ok (.bool (decide (a.nums = b.nums) && feqF a.x b.x)) w := by
 rw [run_eql_struct, fct_eq]; rfl
theorem fct_guard (op : BinOp) (x y : Operand) (a b : FX) (w : World) : (eqGuard op 39 x y (.agg a.cells) (.agg b.cells)).run Tryz.prog w = .ok () w := run_eqGuard_agg w op 39 x y _ _ (by kernel_rfl)
theorem rules_any (k : Int) (h : 1 ≤ k ∧ k ≤ 8) (B : Nat) (w : World) (hB : B < w.heap.size) : Calls Tryz.prog 63 #[.int .i64 k] w fun e w' => ∃ v, e = .returned v ∧ RuL B v (rulesM k) w' ∧ Kp w w' := by
 have hk : k = 1 ∨ k = 2 ∨ k = 3 ∨ k = 4 ∨ k = 5 ∨ k = 6 ∨ k = 7 ∨ k = 8 := by omega
 rcases hk with rfl | rfl | rfl | rfl | rfl | rfl | rfl | rfl
 ·exact rules_1 B w hB
 ·exact rules_2 B w hB
 ·exact rules_3 B w hB
 ·exact rules_4 B w hB
 ·exact rules_5 B w hB
 ·exact rules_6 B w hB
 ·exact rules_7 B w hB
 ·exact rules_8 B w hB
theorem rulesM_len (k : Int) : (rulesM k).length ≤ 5 := by
 unfold rulesM
 split
 ·decide
 split
 ·decide
 split
 ·decide
 split
 ·decide
 split
 ·decide
 split
 ·decide
 split
 ·decide
 split <;> decide
theorem seat_call (B : Nat) (k n s r u p q o d a t hh c : Int) (x : Nat) (w : World) (hB : w.heap[B]? = some (.cells #[k, n, s, r, u, p, q, o, d, a, t, hh, c, x] 39 (0, 0))) :
  Calls Tryz.prog 105 #[.pointer (some ⟨B, 0, none⟩)] w fun e w' => e = .returned (.bool (seatX t hh)) ∧ w'.heap[B]? = some (.cells #[k, n, s, r, u, p, q, o, d, a, (0:Int), (0:Int), c, x] 39 (0, 0)) ∧ Xb B w w' := by
 by_cases h : 1 ≤ t ∧ t ≤ 14
 ·exact seat_t B k n s r u p q o d a t hh c x w hB h
 ·exact seat_f B k n s r u p q o d a t hh c x w hB h
theorem act_ru (ads : List Addr) (w0 : World) (V : St ads w0) (T : Tab w0) (B : Nat) (hB0 : w0.heap.size ≤ B) (l : List Int) (hl : l.length = 13) (y : Nat) (w : World) (K : Kp w0 w) (hB : w.heap[B]? = some (.cells (numsF l y) 39 (0, 0))) :
  Calls Tryz.prog 104 #[.pointer (some ⟨B, 0, none⟩)] w fun e w' => e = .returned (.bool (RuM.ok .act l y)) ∧ w'.heap[B]? = some (.cells (numsF (RuM.tkL .act l) y) 39 (0, 0)) ∧ Xb B w w' := by
 obtain ⟨k, n, s, r, u, p, q, o, d, a, t, hh, c, rfl⟩ := thirteen hl; exact act_call ads w0 V T B hB0 k n s r u p q o d a t hh c y w K hB
theorem ctx_ru (ads : List Addr) (w0 : World) (V : St ads w0) (T : Tab w0) (B : Nat) (hB0 : w0.heap.size ≤ B) (l : List Int) (hl : l.length = 13) (y : Nat) (hy : y < 18446744073709551616) (w : World) (K : Kp w0 w) (hB : w.heap[B]? = some (.cells (numsF l y) 39 (0, 0))) :
  Calls Tryz.prog 103 #[.pointer (some ⟨B, 0, none⟩)] w fun e w' => e = .returned (.bool (RuM.ok .ctx l y)) ∧ w'.heap[B]? = some (.cells (numsF (RuM.tkL .ctx l) 0) 39 (0, 0)) ∧ Xb B w w' := by
 obtain ⟨k, n, s, r, u, p, q, o, d, a, t, hh, c, rfl⟩ := thirteen hl; exact ctx_call ads w0 V T B hB0 k n s r u p q o d a t hh c y w K hB hy
theorem seat_ru (B : Nat) (l : List Int) (hl : l.length = 13) (y : Nat) (w : World) (hB : w.heap[B]? = some (.cells (numsF l y) 39 (0, 0))) :
  Calls Tryz.prog 105 #[.pointer (some ⟨B, 0, none⟩)] w fun e w' => e = .returned (.bool (RuM.ok .seat l y)) ∧ w'.heap[B]? = some (.cells (numsF (RuM.tkL .seat l) y) 39 (0, 0)) ∧ Xb B w w' := by
 obtain ⟨k, n, s, r, u, p, q, o, d, a, t, hh, c, rfl⟩ := thirteen hl; exact seat_call B k n s r u p q o d a t hh c y w hB
def RuM.safe : RuM → Prop
 | .rg tag _ _ => 2 ≤ tag
 | _ => True
theorem rulesM_safe (k : Int) : ∀ r ∈ rulesM k, r.safe := by
 have hs : ∀ (l : List RuM), (l.all fun r => match r with | .rg tag _ _ => decide (2 ≤ tag) | _ => true) = true → ∀ r ∈ l, r.safe := by
  intro l h r hr; have := List.all_eq_true.1 h r hr
  cases r with
  | rg tag lo hi => exact (of_decide_eq_true this : 2 ≤ tag)
  | act => trivial
  | ctx => trivial
  | seat => trivial
 refine hs _ ?_
 unfold rulesM
 split
 ·decide
 split
 ·decide
 split
 ·decide
 split
 ·decide
 split
 ·decide
 split
 ·decide
 split
 ·decide
 split <;> decide
theorem safe_head {r : RuM} (h : r.safe) (l : List Int) : (r.tkL l).getD 0 0 = l.getD 0 0 := by
 cases r with
 | rg tag lo hi =>
  have h2 : 2 ≤ tag := h; simp only [RuM.tkL, List.getD]
  rw [List.getElem?_set_ne (by omega)]
 | act => simp [RuM.tkL, List.getD]
 | ctx => simp [RuM.tkL, List.getD]
 | seat => simp [RuM.tkL, List.getD]
structure RiS (k : Int) (w0 : World) (B : Nat) (g : Nat) (rs : List RuM) (o : Option (List Int × Nat)) (j : Nat) (wr : World) : Prop where
 kW : Kp w0 wr
 lst : RuL B (.slice (some ⟨g, 0, none⟩) rs.length rs.length) rs wr
 ex : ∃ l x, l.length = 13 ∧ l.getD 0 0 = k ∧ x < 18446744073709551616 ∧ wr.heap[B]? = some (.cells (numsF l x) 39 (0, 0)) ∧ o = runR (rs.drop j) l x
theorem facRight_far (f : FX) (w : World) (hk : ¬ (1 ≤ f.k ∧ f.k ≤ 8)) : Calls Tryz.prog 27 #[.agg f.cells] w fun e w' => e = .returned (.bool (rightF f)) ∧ Kp w w' := by
 rw [right_far hk]; obtain ⟨k, n, s, r, u, p, q, o, d, a, t, hh, c, x⟩ := f; dsimp only [FX.cells] at hk ⊢; have HR := hD (mH w (.cells #[k, n, s, r, u, p, q, o, d, a, t, hh, c, x] 39)); obtain ⟨b0, b1, b2, b3, b4, b5, b6, b7, b8, b9, b10, b11, b12, b13⟩ := cZ HR.out; have K := hD (kA w (.cells #[k, n, s, r, u, p, q, o, d, a, t, hh, c, x] 39)); have h1 : decide (1 ≤ k ∧ k ≤ 8) = false := dF hk; have HW := hD (fun w1 => within_any k 1 8 w1); simp only [h1] at HW
 clear hk h1; go_enter Tryz.func27, Tryz.ntmps27; go_wp2_with (go_at_call 62; (with_reducible refine (HW.out _).mono ?_); rintro e w' ⟨rfl, rfl⟩)
 go_ret; exact ⟨rfl, K.out⟩
theorem facRight_in (ads : List Addr) (f : FX) (hf : f.wf) (w : World) (V : St ads w) (T : Tab w) (hk : 1 ≤ f.k ∧ f.k ≤ 8) : Calls Tryz.prog 27 #[.agg f.cells] w fun e w' => e = .returned (.bool (rightF f)) ∧ Kp w w' := by
 rw [right_rules hk]; obtain ⟨B, hB⟩ : ∃ y, w.heap.size = y := ⟨_, rfl⟩
 have hr := (mH w (.cells f.cells 39))
 have kb := kA w (.cells f.cells 39); have hs : B < (w.alloc (.cells f.cells 39)).heap.size := by rw [← hB]; simp
 rw [hB] at hr; obtain ⟨nl, hnl⟩ : ∃ y, f.nums = y := ⟨_, rfl⟩
 have hll : nl.length = 13 := by rw [← hnl]; rfl
 have HNL := hD hnl; obtain ⟨k, n, s, r, u, p, q, o, d, a, t, hh, c, x⟩ := f; dsimp only [FX.cells] at hk hr kb hs ⊢; have hr1 := hr.trans (show some (Obj.cells #[k, n, s, r, u, p, q, o, d, a, t, hh, c, x] 39 (0, 0)) = some (Obj.cells (numsF nl x) 39 (0, 0)) by rw [← hnl]; rfl); rw [hnl]; obtain ⟨b0, b1, b2, b3, b4, b5, b6, b7, b8, b9, b10, b11, b12, b13⟩ := cZ hr; have h1 : decide (1 ≤ k ∧ k ≤ 8) = true := dT hk; have HW := hD (fun w1 => within_any k 1 8 w1); simp only [h1] at HW
 have HRU := rules_any k hk B _ hs; have h5 := rulesM_len k; have hsafe := rulesM_safe k; obtain ⟨rs, hrs⟩ : ∃ y, rulesM k = y := ⟨_, rfl⟩
 rw [hrs] at HRU h5 hsafe ⊢; have HSA := hD hsafe; obtain ⟨nn, hn⟩ : ∃ y, rs.length = y := ⟨_, rfl⟩
 rw [hn] at h5; have HN := hD hn; have HRU2 : Calls Tryz.prog 63 #[.int .i64 k] (w.alloc (.cells #[k, n, s, r, u, p, q, o, d, a, t, hh, c, x] 39)) fun e w' => ∃ g, e = .returned (.slice (some ⟨g, 0, none⟩) nn nn) ∧ RuL B (.slice (some ⟨g, 0, none⟩) rs.length rs.length) rs w' ∧ Kp (w.alloc (.cells #[k, n, s, r, u, p, q, o, d, a, t, hh, c, x] 39)) w' :=
  HRU.mono (by
   rintro e w2 ⟨v, rfl, hv, hk2⟩; obtain ⟨g, vs, rfl, h6⟩ := hv; exact ⟨g, by rw [hn], ⟨g, vs, rfl, h6⟩, hk2⟩)
 have HRU2 := hD HRU2; clear HRU; obtain ⟨HR1, KB, HB, V0, T0⟩ := hD5 hr1 kb hB V T; have HF := hD (show x < 18446744073709551616 from hf); have HLL := hD hll; have HHD := hD (show nl.getD 0 0 = k by rw [← hnl]; rfl); clear hk h1 hnl hr hr1 kb hs hf V T hrs hn hll hsafe; go_enter Tryz.func27, Tryz.ntmps27; go_wp2_with (go_at_call 62; (with_reducible refine (HW.out _).mono ?_); rintro e w' ⟨rfl, rfl⟩)
 with_reducible refine HRU2.out.mono ?_
 rintro e w2 ⟨g, rfl, hv, hk2⟩; have K2 := hD (kT KB.out hk2); have R2 := hD (rZ hk2 HR1.out); have HV := hD hv; clear hk2 hv; go_wp2; have HL : RiS k w B g rs (runR rs nl x) 0 w2 := ⟨K2.out, HV.out, nl, x, HLL.out, HHD.out, HF.out, R2.out, rfl⟩
 have HL := hD HL; clear HRU2 R2 HV K2; go_loopw [13] (fun i wr => ∃ j : Nat, j ≤ nn ∧ i = .int .i64 j ∧ RiS k w B g rs (runR rs nl x) j wr) (fun i _ => nn - (intOf i).toNat)
 case atStart => exact ⟨0, Nat.zero_le _, rfl, HL.out⟩
 case round =>
  obtain ⟨j, hj, rfl, hi⟩ := hrel; obtain ⟨jj, hjj⟩ : ∃ jj : Int, (j : Int) = jj := ⟨_, rfl⟩
  rw [hjj]; obtain ⟨kW, lst, l, y, hl, hk0, hy, hrow, hex⟩ := hi; obtain ⟨KW, LST⟩ := hD2 kW lst
  by_cases hlt : j < nn
  ·have hjr : j < rs.length := by rw [HN.out]; exact hlt
   obtain ⟨g', vs, hv, hgB, hvl, ⟨ty, fr, hg⟩, hru⟩ := lst; injection hv with hv1 _ _
   injection hv1 with hv2
   injection hv2 with hv3 _ _
   subst hv3; have hjv : j < vs.length := by omega
   have hru1 := hru j vs[j] rs[j] (List.getElem?_eq_getElem hjv) (List.getElem?_eq_getElem hjr); have hdr : rs.drop j = rs[j] :: rs.drop (j + 1) := List.drop_eq_getElem_cons hjr; rw [hdr, runR] at hex; have hst := HSA.out rs[j] (List.getElem_mem hjr); have cv : wr.cell? ⟨g, j, none⟩ = some vs[j] := by
    unfold World.cell?; dsimp only; rw [hg]
    simp [hjv]
   obtain ⟨vj, hvj⟩ : ∃ z, vs[j] = z := ⟨_, rfl⟩
   obtain ⟨r0, hr0⟩ : ∃ z, rs[j] = z := ⟨_, rfl⟩
   rw [hvj] at cv hru1; rw [hr0] at hru1 hex hst hdr; have ej : jj.toNat = j := by omega
   rw [← ej] at cv; have j0 : 0 ≤ jj := by omega
   have hltj : jj < nn := by omega
   clear hru hg hvl hgB hjv hvj hr0
   cases r0 with
   | rg tag lo hi =>
    obtain ⟨p0, q0, s0, rfl, hn0, ht0, hp0, hq0, hs0⟩ := hru1
    cases hok : RuM.ok (.rg tag lo hi) l y with
    | false =>
     rw [if_neg (by rw [hok]; decide)] at hex; have HFA := hD (show leftF k (runR rs nl x) = false by rw [hex]; rfl); have HC := rg_call tag (tag : Int) lo hi rfl ht0 B p0 q0 s0 l y hl wr hrow hn0 hp0 hq0 hs0; rw [hok] at HC; have HC := hD HC; clear hok hex hrow kW hjr hlt ej hjj hdr hl hy hk0 hst; go_wp2_with (go_at_call 142; (with_reducible refine HC.out.mono ?_); rintro e w5 ⟨rfl, hb5, hx5⟩; have HX5 := hD hx5; clear hb5 hx5)
     go_ret; exact ⟨by rw [HFA.out]; rfl, HX5.out.below (Nat.le_of_eq HB.out) KW.out⟩
    | true =>
     rw [if_pos hok] at hex; have HEX := hD hex; have HC := rg_call tag (tag : Int) lo hi rfl ht0 B p0 q0 s0 l y hl wr hrow hn0 hp0 hq0 hs0; rw [hok] at HC; obtain ⟨HC, HJ⟩ := hD2 HC hjj; have HH2 := hD (show (RuM.tkL (.rg tag lo hi) l).getD 0 0 = k by rw [safe_head hst]; exact hk0); have HL2 := hD (show (RuM.tkL (.rg tag lo hi) l).length = 13 by rw [RuM.tkL_len]; exact hl); have HY2 := hD (RuM.tkX_wf (.rg tag lo hi) hy); clear hok hex hrow kW hjr ej hjj hdr hl hy hk0 hst; go_wp2_with (go_at_call 142; (with_reducible refine HC.out.mono ?_); rintro e w5 ⟨rfl, hb5, hx5⟩; obtain ⟨HX5, HB5⟩ := hD2 hx5 hb5; clear hb5 hx5)
     have hjj := HJ.out; go_roundw
     case rel => exact ⟨j + 1, by omega, by congr 1; omega, HX5.out.below (Nat.le_of_eq HB.out) KW.out, LST.out.xb HX5.out, _, _, HL2.out, HH2.out, HY2.out, HB5.out, HEX.out⟩
     case measure => simp [intOf]; omega
   | act =>
    obtain rfl : vj = _ := hru1
    cases hok : RuM.ok .act l y with
    | false =>
     rw [if_neg (by rw [hok]; decide)] at hex; have HFA := hD (show leftF k (runR rs nl x) = false by rw [hex]; rfl); have HC := act_ru ads w V0.out T0.out B (Nat.le_of_eq HB.out) l hl y wr kW hrow; rw [hok] at HC; have HC := hD HC; clear hok hex hrow kW hjr hlt ej hjj hdr hl hy hk0 hst; go_wp2_with (go_at_call 104; (with_reducible refine HC.out.mono ?_); rintro e w5 ⟨rfl, hb5, hx5⟩; have HX5 := hD hx5; clear hb5 hx5)
     go_ret; exact ⟨by rw [HFA.out]; rfl, HX5.out.below (Nat.le_of_eq HB.out) KW.out⟩
    | true =>
     rw [if_pos hok] at hex; have HEX := hD hex; have HC := act_ru ads w V0.out T0.out B (Nat.le_of_eq HB.out) l hl y wr kW hrow; rw [hok] at HC; obtain ⟨HC, HJ⟩ := hD2 HC hjj; have HH2 := hD (show (RuM.tkL .act l).getD 0 0 = k by rw [safe_head hst]; exact hk0); have HL2 := hD (show (RuM.tkL .act l).length = 13 by rw [RuM.tkL_len]; exact hl); have HY2 := hD (RuM.tkX_wf .act hy); clear hok hex hrow kW hjr ej hjj hdr hl hy hk0 hst; go_wp2_with (go_at_call 104; (with_reducible refine HC.out.mono ?_); rintro e w5 ⟨rfl, hb5, hx5⟩; obtain ⟨HX5, HB5⟩ := hD2 hx5 hb5; clear hb5 hx5)
     have hjj := HJ.out; go_roundw
     case rel => exact ⟨j + 1, by omega, by congr 1; omega, HX5.out.below (Nat.le_of_eq HB.out) KW.out, LST.out.xb HX5.out, _, _, HL2.out, HH2.out, HY2.out, HB5.out, HEX.out⟩
     case measure => simp [intOf]; omega
   | ctx =>
    obtain rfl : vj = _ := hru1
    cases hok : RuM.ok .ctx l y with
    | false =>
     rw [if_neg (by rw [hok]; decide)] at hex; have HFA := hD (show leftF k (runR rs nl x) = false by rw [hex]; rfl); have HC := ctx_ru ads w V0.out T0.out B (Nat.le_of_eq HB.out) l hl y hy wr kW hrow; rw [hok] at HC; have HC := hD HC; clear hok hex hrow kW hjr hlt ej hjj hdr hl hy hk0 hst; go_wp2_with (go_at_call 103; (with_reducible refine HC.out.mono ?_); rintro e w5 ⟨rfl, hb5, hx5⟩; have HX5 := hD hx5; clear hb5 hx5)
     go_ret; exact ⟨by rw [HFA.out]; rfl, HX5.out.below (Nat.le_of_eq HB.out) KW.out⟩
    | true =>
     rw [if_pos hok] at hex; have HEX := hD hex; have HC := ctx_ru ads w V0.out T0.out B (Nat.le_of_eq HB.out) l hl y hy wr kW hrow; rw [hok] at HC; obtain ⟨HC, HJ⟩ := hD2 HC hjj; have HH2 := hD (show (RuM.tkL .ctx l).getD 0 0 = k by rw [safe_head hst]; exact hk0); have HL2 := hD (show (RuM.tkL .ctx l).length = 13 by rw [RuM.tkL_len]; exact hl); have HY2 := hD (RuM.tkX_wf .ctx hy); clear hok hex hrow kW hjr ej hjj hdr hl hy hk0 hst; go_wp2_with (go_at_call 103; (with_reducible refine HC.out.mono ?_); rintro e w5 ⟨rfl, hb5, hx5⟩; obtain ⟨HX5, HB5⟩ := hD2 hx5 hb5; clear hb5 hx5)
     have hjj := HJ.out; go_roundw
     case rel => exact ⟨j + 1, by omega, by congr 1; omega, HX5.out.below (Nat.le_of_eq HB.out) KW.out, LST.out.xb HX5.out, _, _, HL2.out, HH2.out, HY2.out, HB5.out, HEX.out⟩
     case measure => simp [intOf]; omega
   | seat =>
    obtain rfl : vj = _ := hru1
    cases hok : RuM.ok .seat l y with
    | false =>
     rw [if_neg (by rw [hok]; decide)] at hex; have HFA := hD (show leftF k (runR rs nl x) = false by rw [hex]; rfl); have HC := seat_ru B l hl y wr hrow; rw [hok] at HC; have HC := hD HC; clear hok hex hrow kW hjr hlt ej hjj hdr hl hy hk0 hst; go_wp2_with (go_at_call 105; (with_reducible refine HC.out.mono ?_); rintro e w5 ⟨rfl, hb5, hx5⟩; have HX5 := hD hx5; clear hb5 hx5)
     go_ret; exact ⟨by rw [HFA.out]; rfl, HX5.out.below (Nat.le_of_eq HB.out) KW.out⟩
    | true =>
     rw [if_pos hok] at hex; have HEX := hD hex; have HC := seat_ru B l hl y wr hrow; rw [hok] at HC; obtain ⟨HC, HJ⟩ := hD2 HC hjj; have HH2 := hD (show (RuM.tkL .seat l).getD 0 0 = k by rw [safe_head hst]; exact hk0); have HL2 := hD (show (RuM.tkL .seat l).length = 13 by rw [RuM.tkL_len]; exact hl); have HY2 := hD (RuM.tkX_wf .seat hy); clear hok hex hrow kW hjr ej hjj hdr hl hy hk0 hst; go_wp2_with (go_at_call 105; (with_reducible refine HC.out.mono ?_); rintro e w5 ⟨rfl, hb5, hx5⟩; obtain ⟨HX5, HB5⟩ := hD2 hx5 hb5; clear hb5 hx5)
     have hjj := HJ.out; go_roundw
     case rel => exact ⟨j + 1, by omega, by congr 1; omega, HX5.out.below (Nat.le_of_eq HB.out) KW.out, LST.out.xb HX5.out, _, _, HL2.out, HH2.out, HY2.out, HB5.out, HEX.out⟩
     case measure => simp [intOf]; omega
  ·obtain rfl : j = nn := by omega
   rw [List.drop_of_length_le (by rw [HN.out]; omega), runR] at hex; obtain ⟨k1, n1, s1, r1, u1, p1, q1, o1, d1, a1, t1, hh1, c1, rfl⟩ := thirteen hl; obtain rfl : k1 = k := hk0; have HEX := hD hex; obtain ⟨m0, m1, m2, m3, m4, m5, m6, m7, m8, m9, m10, m11, m12, m13⟩ := cZ (show wr.heap[B]? = some (.cells #[k1, n1, s1, r1, u1, p1, q1, o1, d1, a1, t1, hh1, c1, y] 39 (0, 0)) from hrow); have hq := fun w1 => fct_eql ⟨k1, n1, s1, r1, u1, p1, q1, o1, d1, a1, t1, hh1, c1, y⟩ ⟨k1, 0, 0, 0, 0, 0, 0, 0, 0, 0, 0, 0, 0, 0⟩ w1
   have hgd := fun (op : BinOp) (xx yy : Operand) w1 => fct_guard op xx yy ⟨k1, n1, s1, r1, u1, p1, q1, o1, d1, a1, t1, hh1, c1, y⟩ ⟨k1, 0, 0, 0, 0, 0, 0, 0, 0, 0, 0, 0, 0, 0⟩ w1
   dsimp only [FX.cells] at hq hgd; have e1 := ext_bits; have HV : leftF k1 (runR rs nl x) = ((decide (FX.nums ⟨k1, n1, s1, r1, u1, p1, q1, o1, d1, a1, t1, hh1, c1, y⟩ = FX.nums ⟨k1, 0, 0, 0, 0, 0, 0, 0, 0, 0, 0, 0, 0, 0⟩) && feqF y 0) && ((y : Int) == 0)) := by
    rw [HEX.out]; unfold leftF; dsimp only [FX.nums]
    by_cases y0 : y = 0
    ·subst y0; rw [feqF_00]
     simp
    ·have g1 : decide (y = 0) = false := dF y0; have g2 : ((y : Int) == 0) = false := by simpa using y0
     rw [g1, g2, Bool.and_false, Bool.and_false]
   obtain ⟨bb, hbb⟩ : ∃ z, (decide (FX.nums ⟨k1, n1, s1, r1, u1, p1, q1, o1, d1, a1, t1, hh1, c1, y⟩ = FX.nums ⟨k1, 0, 0, 0, 0, 0, 0, 0, 0, 0, 0, 0, 0, 0⟩) && feqF y 0) = z := ⟨_, rfl⟩
   rw [hbb] at hq HV; have HVH := hD HV; have hex2 : ¬ jj < j := by omega
   clear HV hbb hex hrow kW lst hl hy hlt hjj
   cases bb with
   | false =>
    go_wp2; go_ret; exact ⟨by rw [HVH.out]; rfl, KW.out⟩
   | true =>
    go_wp2; go_ret; exact ⟨by rw [HVH.out]; rfl, KW.out⟩
theorem facRight_any (ads : List Addr) (f : FX) (hf : f.wf) (w : World) (V : St ads w) (T : Tab w) : Calls Tryz.prog 27 #[.agg f.cells] w fun e w' => e = .returned (.bool (rightF f)) ∧ Kp w w' := by
 by_cases hk : 1 ≤ f.k ∧ f.k ≤ 8
 ·exact facRight_in ads f hf w V T hk
 ·exact facRight_far f w hk
theorem own_nilF (w : World) (base : Nat) (e : TypeId) (size : Nat) : w.ownsRow base e size (.slice none 0 0) 0 [] := ⟨by simp, .inl ⟨rfl, rfl⟩⟩
theorem fbytes1_bad (ads : List Addr) (h3 : 3 < ads.length) (f : FX) (hf : f.wf) (B : Nat) (w : World) (V : St ads w) (T : Tab w) (hB : w.heap[B]? = some (.cells f.cells 39 (0, 0))) (hr : rightF f = false) :
  Calls Tryz.prog 85 #[.pointer (some ⟨B, 0, none⟩)] w fun e w' => e = .panicked [{ v := snt (ads[3]'h3), recovered := false }] ∧ Kp w w' := by
 have c3 : w.cell? ⟨3, 0, none⟩ = some (snt (ads[3]'h3)) := V.cell 3 (by decide); obtain ⟨a3, ha3⟩ : ∃ a, ads[3]'h3 = a := ⟨_, rfl⟩
 rw [ha3] at c3 ⊢; have HR := hD (fun w1 (hk : Kp w w1) => facRight_any ads f hf w1 (V.below hk) (T.kp hk)); simp only [hr] at HR
 obtain ⟨k, n, s, r, u, p, q, o, d, a, t, hh, c, x⟩ := f; dsimp only [FX.cells] at HR hB; obtain ⟨b0, b1, b2, b3, b4, b5, b6, b7, b8, b9, b10, b11, b12, b13⟩ := cZ hB; clear V T hB hr ha3 hf; go_enter Tryz.func85, Tryz.ntmps85; go_wp2; refine rgW (fun w' => Kp w w') ?_ fun hH => ?_
 ·exact (Kp.refl w).drew
 refine tkP 0 ?_ (y := by intro w hZ; obtain ⟨q0, q1, q2, q3, q4, q5, q6, q7, q8, q9, q10, q11, q12, q13⟩ := kZ14 hZ b0 b1 b2 b3 b4 b5 b6 b7 b8 b9 b10 b11 b12 b13; go_simp; try rfl)
 go_simp; refine tkP 2 ?_ (y := by intro w hZ; have q := kZ hZ c3; go_simp; try rfl)
 go_simp; refine rdW 1 fun K hK => ?_
 go_simp; go_wp2_with (go_at_call 27; (with_reducible refine (HR.out _ hH).mono ?_); rintro e w2 ⟨rfl, hk2⟩; have K2 := hD (kT hH hk2); clear hk2)
 refine hK.out _ _ (K2.out) fun hH => ?_
 clear hK K; refine rdW 3 fun K hK => ?_
 go_simp; go_wp2_with (go_at_call 86; (with_reducible refine (fdemand_f _ _).mono ?_); rintro e w' ⟨rfl, rfl⟩)
 exact ⟨rfl, rfl, hH⟩
theorem fbytes1_ok (ads : List Addr) (h3 : 3 < ads.length) (f : FX) (B : Nat) (w : World) (V : St ads w) (T : Tab w) (hB : w.heap[B]? = some (.cells f.cells 39 (0, 0))) (hr : rightF f = true) :
  Calls Tryz.prog 85 #[.pointer (some ⟨B, 0, none⟩)] w fun e w' => ∃ v, e = .returned v ∧ w'.ownsRow w.heap.size 5 1 v (encF f).length ((encF f).map (Value.int .u8)) ∧ Kp w w' := by
 have c3 : w.cell? ⟨3, 0, none⟩ = some (snt (ads[3]'h3)) := V.cell 3 (by decide); obtain ⟨a3, ha3⟩ : ∃ a, ads[3]'h3 = a := ⟨_, rfl⟩
 rw [ha3] at c3; obtain ⟨hpl, hc⟩ := rightF_plain hr; have HR := hD (fun w1 (hk : Kp w w1) => facRight_any ads f hc w1 (V.below hk) (T.kp hk)); simp only [hr] at HR
 have hml : f.nums.length = 13 := rfl; have hm := rightF_okn hr; have hjo := fun (a : Option Addr) (cap len : Nat) (hl : (rowG f).length = len) (w1 : World) (hk : Kp w w1) (hs : SlQ (.slice a len cap) (rowG f) w1) => join_ok ads a cap (rowG f) len hl (by have := rowG_len f; omega) w1 (V.below hk) hs (rowG_run f)
 have hrow0 : w.heap[B]? = some (.cells (numsF f.nums f.x) 39 (0, 0)) := hB; have hcell := fun (w1 : World) (hk : Kp w w1) (j : Nat) (hj : j < f.nums.length) => kZ hk (numsF_cell hrow0 j hj)
 have hnb := fun (n : Nat) (hn : n < 9223372036854775808) (nn : Int) (hnn : (n : Int) = nn) (w1 : World) (hk : Kp w w1) => number_any ads n hn nn hnn w1 (V.below hk)
 have hfl := fun w1 => float_any f.x hc w1
 unfold encF; have hrx : rowG f = rowF 1 f.nums ++ tailF f := rfl; have htl : tailF f = if f.k = 1 then [(14, f8 (Fl.plain f.x))] else [] := rfl
 obtain ⟨RX, hRX⟩ : ∃ y, rowG f = y := ⟨_, rfl⟩
 rw [hRX] at hjo hrx ⊢; obtain ⟨TX, hTX⟩ : ∃ y, tailF f = y := ⟨_, rfl⟩
 rw [hTX] at hrx htl; obtain ⟨k, n, s, r, u, p, q, o, d, a, t, hh, c, x⟩ := f; obtain ⟨ns, hns⟩ : ∃ y, FX.nums ⟨k, n, s, r, u, p, q, o, d, a, t, hh, c, x⟩ = y := ⟨_, rfl⟩
 have hcell2 : ∀ (w1 : World), Kp w w1 → ∀ (j : Nat) (hj : j < ns.length), w1.cell? ⟨B, j, none⟩ = some (.int .i64 ns[j]) := by subst hns; exact hcell
 rw [hns] at hml hm hrx; dsimp only [FX.cells] at HR hB hfl htl; obtain ⟨fx, hfx⟩ : ∃ y, f8 (Fl.plain x) = y := ⟨_, rfl⟩
 have hfi : InB fx := by rw [← hfx]; exact f8_in _
 have hf8 : fx.length = 8 := by rw [← hfx]; rfl
 rw [hfx] at hfl htl; obtain ⟨b0, b1, b2, b3, b4, b5, b6, b7, b8, b9, b10, b11, b12, b13⟩ := cZ hB; obtain ⟨HBK, HBX, HOK, HML, HC, HJO, HNB, HFL⟩ := hD8 b0 b13 hm hml hcell2 hjo hnb hfl; obtain ⟨HRX, HTL⟩ := hD2 hrx htl; have HFI := hD (And.intro hfi hf8); have HIF := hD (info_parts info_fieldT); have HPL := hD (fun (w1 : World) => (show Calls Tryz.prog 87 #[.pointer (some ⟨B, 0, none⟩)] w1 fun e w' => e = .returned (.agg #[.pointer none, .pointer (some ⟨B, 0, none⟩), .pointer (some ⟨B, 1, none⟩), .pointer (some ⟨B, 2, none⟩), .pointer (some ⟨B, 3, none⟩), .pointer (some ⟨B, 4, none⟩), .pointer (some ⟨B, 5, none⟩), .pointer (some ⟨B, 6, none⟩), .pointer (some ⟨B, 7, none⟩), .pointer (some ⟨B, 8, none⟩), .pointer (some ⟨B, 9, none⟩), .pointer (some ⟨B, 10, none⟩), .pointer (some ⟨B, 11, none⟩), .pointer (some ⟨B, 12, none⟩)]) ∧ Kp w1 w' from placesF_any B w1))
 clear V T hB hrow0 hr ha3 hm hml hns hcell hcell2 hjo hnb hfl hrx htl hRX hTX hfx hfi hf8 hpl hc; go_enter Tryz.func85, Tryz.ntmps85; go_wp2; refine rgW (fun w' => Kp w w') ?_ fun hH => ?_
 ·exact (Kp.refl w).drew
 refine tkP 0 ?_ (y := by intro w hZ; obtain ⟨q0, q1, q2, q3, q4, q5, q6, q7, q8, q9, q10, q11, q12, q13⟩ := kZ14 hZ b0 b1 b2 b3 b4 b5 b6 b7 b8 b9 b10 b11 b12 b13; go_simp; try rfl)
 go_simp; refine tkP 2 ?_ (y := by intro w hZ; have q := kZ hZ c3; go_simp; try rfl)
 go_simp; refine rdW 1 fun K hK => ?_
 go_simp; go_wp2_with (go_at_call 27; (with_reducible refine (HR.out _ hH).mono ?_); rintro e w2 ⟨rfl, hk2⟩; have K2 := hD (kT hH hk2); clear hk2)
 refine hK.out _ _ (K2.out) fun hH => ?_
 clear hK K; refine rdW 3 fun K hK => ?_
 go_simp; go_wp2_with (go_at_call 86; (with_reducible refine (fdemand_t _ _).mono ?_); rintro e w' ⟨rfl, rfl⟩)
 refine hK.out _ _ (hH) fun hH => ?_
 clear hK K; refine dnW ?_ _
 clear b0 b1 b2 b3 b4 b5 b6 b7 b8 b9 b10 b11 b12 b13 c3; go_wp2_with (go_at_call 87; (with_reducible refine (HPL.out _).mono ?_); rintro e w3 ⟨rfl, hk3⟩; have K3 := hD (kT K2.out hk3); clear hk3)
 have K4 := hD (kT K3.out (kA w3 (.cells #[.pointer none, .pointer (some ⟨B, 0, none⟩), .pointer (some ⟨B, 1, none⟩), .pointer (some ⟨B, 2, none⟩), .pointer (some ⟨B, 3, none⟩), .pointer (some ⟨B, 4, none⟩), .pointer (some ⟨B, 5, none⟩), .pointer (some ⟨B, 6, none⟩), .pointer (some ⟨B, 7, none⟩), .pointer (some ⟨B, 8, none⟩), .pointer (some ⟨B, 9, none⟩), .pointer (some ⟨B, 10, none⟩), .pointer (some ⟨B, 11, none⟩), .pointer (some ⟨B, 12, none⟩)] 153))); have hra : (w3.alloc (.cells #[.pointer none, .pointer (some ⟨B, 0, none⟩), .pointer (some ⟨B, 1, none⟩), .pointer (some ⟨B, 2, none⟩), .pointer (some ⟨B, 3, none⟩), .pointer (some ⟨B, 4, none⟩), .pointer (some ⟨B, 5, none⟩), .pointer (some ⟨B, 6, none⟩), .pointer (some ⟨B, 7, none⟩), .pointer (some ⟨B, 8, none⟩), .pointer (some ⟨B, 9, none⟩), .pointer (some ⟨B, 10, none⟩), .pointer (some ⟨B, 11, none⟩), .pointer (some ⟨B, 12, none⟩)] 153)).heap[w3.heap.size]? = some (.cells (plF B) 153 (0, 0)) := (mH w3 (.cells #[.pointer none, .pointer (some ⟨B, 0, none⟩), .pointer (some ⟨B, 1, none⟩), .pointer (some ⟨B, 2, none⟩), .pointer (some ⟨B, 3, none⟩), .pointer (some ⟨B, 4, none⟩), .pointer (some ⟨B, 5, none⟩), .pointer (some ⟨B, 6, none⟩), .pointer (some ⟨B, 7, none⟩), .pointer (some ⟨B, 8, none⟩), .pointer (some ⟨B, 9, none⟩), .pointer (some ⟨B, 10, none⟩), .pointer (some ⟨B, 11, none⟩), .pointer (some ⟨B, 12, none⟩)] 153))
 obtain ⟨A, hAA⟩ : ∃ y, w3.heap.size = y := ⟨_, rfl⟩
 rw [hAA] at hra ⊢; have HRA := hD hra; clear hra hAA; go_loopw [2, 4] (fun v i wr => ∃ (j : Nat) (gs : List (Int × List Int × Value)), j ≤ 13 ∧ i = .int .i64 ((j : Int) + 1) ∧ Kp w wr ∧ wr.ownsRow w.heap.size 122 2 v gs.length (gs.flatMap cellQ) ∧ OwnD w.heap.size gs wr ∧ gs.map fldQ = rowF 1 (ns.take j) ∧ wr.heap[A]? = some (.cells (plF B) 153 (0, 0))) (fun _ i _ => 14 - (intOf i).toNat)
 case atStart => exact ⟨0, [], Nat.zero_le _, rfl, K4.out, own_nilF _ _ _ _, (fun g hg => by cases hg), rfl, HRA.out⟩
 case round =>
  obtain ⟨j, gs, hj, rfl, hk, hown, hod, hrow, hra⟩ := hrel; obtain ⟨jj, hjj⟩ : ∃ jj : Int, (j : Int) + 1 = jj := ⟨_, rfl⟩
  rw [hjj]; obtain ⟨HK, HOW, HOD, HROW, HA⟩ := hD5 hk hown hod hrow hra; have hml := HML.out
  by_cases hlt : j < 13
  ·have hjl : j < ns.length := by omega
   have hcj := HC.out wr hk j hjl; have hx := HOK.out ns[j] (List.getElem_mem hjl); have cpa := plF_cell hra j hlt; have SN := rowF_snoc (ns.take j) 1 ns[j]; rw [← List.take_succ_eq_append_getElem hjl, List.length_take, Nat.min_eq_left (by omega)] at SN; obtain ⟨y, hxx⟩ : ∃ x, ns[j] = x := ⟨_, rfl⟩
   rw [hxx] at hcj hx SN; obtain ⟨x0, x1⟩ := hx; have j0 : 0 ≤ jj := by omega
   have hltj : jj < 14 := by omega
   have ej : j + 1 = jj.toNat := by omega
   rw [ej] at cpa; have HJ := hD hjj
   by_cases hz : y = 0
   ·rw [if_pos hz] at SN; have HSN := hD SN; subst hz; clear hk hown hod hrow hra SN hxx hjl hml hlt x0 x1 ej hjj; go_wp2; have hjj := HJ.out; go_roundw
    case rel => exact ⟨j + 1, gs, by omega, by congr 1; omega, HK.out, HOW.out, HOD.out, by rw [HSN.out, List.append_nil]; exact HROW.out, HA.out⟩
    case measure => simp [intOf]; omega
   ·rw [if_neg hz] at SN; have HSN := hD SN; have hxn : ((y.toNat : Nat) : Int) = y := by omega
    have hzb : (y != 0) = true := by simpa using hz
    have HNU := hD (HNB.out y.toNat (by omega) y hxn wr hk); obtain ⟨bs, hbs⟩ : ∃ b, beF 8 y.toNat = b := ⟨_, rfl⟩
    have hbi : InB bs := by rw [← hbs]; exact beF_inB _ _
    rw [hbs] at HNU HSN; have HBI := hD hbi; obtain ⟨av, cv, hv⟩ := (own_slq rfl hown hod).form; rw [List.length_map] at hv; subst hv; obtain ⟨kl, hkl⟩ : ∃ x, gs.length = x := ⟨_, rfl⟩
    have hk9 : kl ≤ 13 := by
     have h1 := congrArg List.length hrow; have h2 := rowF_len (ns.take j) 1; rw [List.length_map] at h1; rw [List.length_take] at h2; omega
    rw [hkl] at hown HOW ⊢; have HKL := hD hkl; obtain ⟨i0, hi, hz0, hz1, hz2⟩ := HIF.out; have HI := hD (And.intro hz1 hz2); obtain ⟨HI2, HI3⟩ := hD2 hi hz0; clear hk hown hod hrow hra SN hxx hjl hml hlt x0 x1 hxn hbs hbi hi hz0 hz1 hz2 hkl ej hjj hz; go_wp2_with (first
     | (go_at_call 88; (with_reducible refine HNU.out.mono ?_); rintro e w5 ⟨v5, rfl, ho5, hk5⟩; obtain ⟨a5, c5, rfl, -⟩ := enc_len ho5; obtain ⟨HO5, K5⟩ := hD2 ho5 hk5; have K6 := hD (kT hk5 (kA w5 (.cells #[jj, .slice a5 bs.length c5] 122))); have OW6 := hD (oK HOW.out K6.out); clear ho5 hk5)
     | (go_at_call 47; (with_reducible refine (must_bytes_t _ _).mono ?_); rintro e w' ⟨rfl, rfl⟩)
     | (at_builtin; refine wpList_append_own _ rfl (.tmp 22) (.tmp 30) 118 rfl w.heap.size 122 i0 (.agg #[(0:Int), .slice none 0 0]) 2 32 Tryz.underlying118 HI2.out HI3.out HI.out.1 HI.out.2 rfl (by decide) _ _ _ rfl OW6.out ⟨w5.heap.size, 0, none⟩ 1 1 [.int .i64 jj, .slice a5 bs.length c5] rfl ?c1 ?c2 ?c3 ?c4 ?c5 ?c6 ?_))
    case c1 => rfl
    case c2 =>
     intro i u hi; rw [add_plain]; unfold World.cell?; dsimp only; rw [(mH w5 _)]; have hi3 : i < 2 := by
      rcases Nat.lt_or_ge i 2 with q | q
      ·exact q
      ·rw [List.getElem?_eq_none (by simpa using q)] at hi; cases hi
     match i, hi3, hi with
     | 0, _, hi | 1, _, hi => simpa using hi
    case c3 => intro u hu; simp at hu; rcases hu with rfl | rfl <;> rfl
    case c4 => unfold maxLen; omega
    case c5 => omega
    case c6 => exact Below.size (kT HK.out K6.out)
    rintro v6 w6 hown6 hgr6 -; have hsz := Below.size HK.out; have kp6 : Kp w w6 := rows_kp OW6.out hgr6 (kT HK.out K6.out); have od6 : OwnD w.heap.size (gs ++ [(jj, bs, Value.slice a5 bs.length c5)]) w6 := by
     intro g hg
     rcases List.mem_append.1 hg with hg | hg
     ·exact ((HOD.out.kp K6.out).grows OW6.out hgr6) g hg
     ·have : g = (jj, bs, Value.slice a5 bs.length c5) := by simpa using hg
      subst this; exact ⟨own_grows OW6.out hgr6 (oK (own_mono HO5.out hsz) (kA w5 _)) (by decide), HBI.out⟩
    have own6 : w6.ownsRow w.heap.size 122 2 v6 (gs ++ [(jj, bs, Value.slice a5 bs.length c5)]).length ((gs ++ [(jj, bs, Value.slice a5 bs.length c5)]).flatMap cellQ) := by
     rw [List.length_append, List.length_singleton, HKL.out, List.flatMap_append]; exact hown6
    have ra6 := row_grows OW6.out hgr6 _ _ _ (rZ K6.out HA.out) (by decide); obtain ⟨O6, D6, KQ6, RA6⟩ := hD4 own6 od6 kp6 ra6; clear own6 od6 kp6 ra6 hown6 hgr6 hsz; go_wp2; have hjj := HJ.out; go_roundw
    case rel =>
     refine ⟨j + 1, gs ++ [(jj, bs, Value.slice a5 bs.length c5)], by omega, by congr 1; omega, KQ6.out, O6.out, D6.out, ?_, RA6.out⟩
     rw [HSN.out, List.map_append, HROW.out, ← hjj, show (1 : Int) + (j : Int) = (j : Int) + 1 by omega]
     rfl
    case measure => simp [intOf]; omega
  ·obtain rfl : j = 13 := by omega
   have hful : ns.take 13 = ns := List.take_of_length_le (by omega); rw [hful] at hrow; obtain ⟨av, cv, hv⟩ := (own_slq rfl hown hod).form; rw [List.length_map] at hv; subst hv; have hrow2 := hrow; obtain ⟨kl, hkl⟩ : ∃ x, gs.length = x := ⟨_, rfl⟩
   have hk9 : kl ≤ 13 := by
    have h1 := congrArg List.length hrow; have h2 := rowF_len ns 1; rw [List.length_map] at h1; omega
   have HSQ := hD (own_slq rfl hown hod); rw [hkl] at hown HOW ⊢; have HKL := hD hkl; obtain ⟨i0, hi, hz0, hz1, hz2⟩ := HIF.out; have HI := hD (And.intro hz1 hz2); obtain ⟨HI2, HI3⟩ := hD2 hi hz0; have hex : ¬ jj < 14 := by omega
   have cK := kZ hk HBK.out; have cX := kZ hk HBX.out; have H8 := HFI.out.2
   by_cases hk1 : k = 1
   ·subst hk1; have htx := HTL.out; rw [if_pos rfl] at htx; have HTX := hD htx; clear hk hown hod hrow hrow2 hful hml hlt hi hz0 hz1 hz2 hkl hjj hra htx; go_wp2_with (first
     | (go_at_call 89; (with_reducible refine (HFL.out _).mono ?_); rintro e w5 ⟨v5, rfl, ho5, hk5⟩; obtain ⟨a5, c5, rfl, -⟩ := enc_len ho5; obtain ⟨HO5, K5⟩ := hD2 ho5 hk5; have K6 := hD (kT hk5 (kA w5 (.cells #[(14:Int), .slice a5 8 c5] 122))); have OW6 := hD (oK HOW.out K6.out); clear ho5 hk5)
     | (at_builtin; refine wpList_append_own _ rfl (.tmp 35) (.tmp 40) 118 rfl w.heap.size 122 i0 (.agg #[(0:Int), .slice none 0 0]) 2 32 Tryz.underlying118 HI2.out HI3.out HI.out.1 HI.out.2 rfl (by decide) _ _ _ rfl OW6.out ⟨w5.heap.size, 0, none⟩ 1 1 [.int .i64 14, .slice a5 8 c5] rfl ?d1 ?d2 ?d3 ?d4 ?d5 ?d6 ?_))
    case d1 => rfl
    case d2 =>
     intro i u hi; rw [add_plain]; unfold World.cell?; dsimp only; rw [(mH w5 _)]; have hi3 : i < 2 := by
      rcases Nat.lt_or_ge i 2 with q | q
      ·exact q
      ·rw [List.getElem?_eq_none (by simpa using q)] at hi; cases hi
     match i, hi3, hi with
     | 0, _, hi | 1, _, hi => simpa using hi
    case d3 => intro u hu; simp at hu; rcases hu with rfl | rfl <;> rfl
    case d4 => unfold maxLen; omega
    case d5 => omega
    case d6 => exact Below.size (kT HK.out K6.out)
    rintro v6 w6 hown6 hgr6 -; have hsz := Below.size HK.out; have kp6 : Kp w w6 := rows_kp OW6.out hgr6 (kT HK.out K6.out); have od6 : OwnD w.heap.size (gs ++ [(14, fx, Value.slice a5 8 c5)]) w6 := by
     intro g hg
     rcases List.mem_append.1 hg with hg | hg
     ·exact ((HOD.out.kp K6.out).grows OW6.out hgr6) g hg
     ·have : g = (14, fx, Value.slice a5 8 c5) := by simpa using hg
      subst this; refine ⟨?_, HFI.out.1⟩
      have := own_grows OW6.out hgr6 (oK (own_mono HO5.out hsz) (kA w5 _)) (by decide); rw [H8]; exact this
    have own6 : w6.ownsRow w.heap.size 122 2 v6 (gs ++ [(14, fx, Value.slice a5 8 c5)]).length ((gs ++ [(14, fx, Value.slice a5 8 c5)]).flatMap cellQ) := by
     rw [List.length_append, List.length_singleton, HKL.out, List.flatMap_append]; have e : [((14 : Int), fx, Value.slice a5 8 c5)].flatMap cellQ = [.int .i64 14, .slice a5 8 c5] := rfl; rw [e]; exact hown6
    have hsq := own_slq rfl own6 od6; have hrow2 : (gs ++ [((14 : Int), fx, Value.slice a5 8 c5)]).map fldQ = RX := by
     have hful : ns.take 13 = ns := List.take_of_length_le (by have := HML.out; omega); have h := HROW.out; rw [hful] at h; rw [List.map_append, h, HRX.out, HTX.out]
     rfl
    rw [hrow2] at hsq; obtain ⟨av6, cv6, hv6⟩ := hsq.form; subst hv6; have hj := hD (HJO.out av6 cv6 _ rfl w6 kp6 hsq); have K8 := hD kp6; clear own6 od6 kp6 hown6 hgr6 hsz hsq hrow2; go_wp2_with (first
     | (go_at_call 90; (with_reducible refine hj.out.mono ?_); rintro e w7 ⟨v7, rfl, hs7, hk7⟩; have K7 := hD (kT K8.out hk7); have S7 := hD (own_mono hs7 (Below.size K8.out)); clear hs7 hk7)
     | (go_at_call 47; (with_reducible refine (must_bytes_t _ _).mono ?_); rintro e w' ⟨rfl, rfl⟩))
    go_ret; exact ⟨_, rfl, S7.out, K7.out⟩
   ·have hkb : (k == 1) = false := by simpa using hk1
    have htx := HTL.out; rw [if_neg hk1] at htx; have hrx : gs.map fldQ = RX := by rw [hrow2, HRX.out, htx, List.append_nil]
    have hsq := HSQ.out; rw [hrx] at hsq; have hlr : RX.length = kl := by rw [← hrx, List.length_map]; exact hkl
    have hj := hD (HJO.out av cv kl hlr wr hk (by rw [← hkl]; exact hsq)); clear hk hown hod hrow hrow2 hful hml hlt hi hz0 hz1 hz2 hkl hjj hra htx hrx hsq hlr hk1; go_wp2_with (first
     | (go_at_call 90; (with_reducible refine hj.out.mono ?_); rintro e w7 ⟨v7, rfl, hs7, hk7⟩; have K7 := hD (kT HK.out hk7); have S7 := hD (own_mono hs7 (Below.size HK.out)); clear hs7 hk7)
     | (go_at_call 47; (with_reducible refine (must_bytes_t _ _).mono ?_); rintro e w' ⟨rfl, rfl⟩))
    go_ret; exact ⟨_, rfl, S7.out, K7.out⟩
theorem fbytes_bad (ads : List Addr) (h3 : 3 < ads.length) (m : FX) (hm : m.wf) (w : World) (V : St ads w) (T : Tab w) (hr : rightF m = false) :
  Calls Tryz.prog 48 #[.agg m.cells] w fun e w' => e = .returned (.tuple #[.slice none 0 0, snt (ads[3]'h3)]) ∧ Kp w w' := by
 have hmf : ∀ (fn : Fn) (first cap : Array Value) (w : World), (Instr.makeFunc fn first cap).run Tryz.prog w = .ok (.func fn first cap) w := fun _ _ _ _ => rfl
 have kb := kA w (.cells m.cells 39); have hc := (mH w (.cells m.cells 39))
 have HT := hD (try_bytes_err ads 3 h3 85 #[.pointer (some ⟨w.heap.size, 0, none⟩)] (w.alloc (.cells m.cells 39)) (V.below kb) (by intro w; simp [go_sem]) fun w1 h1 => fbytes1_bad ads h3 m hm w.heap.size w1 (V.below (kT kb h1)) (T.kp (kT kb h1)) (rZ h1 hc) hr); have KB := hD kb; clear kb hc V T hr; obtain ⟨k, n, s, r, u, p, q, o, d, a, t, hh, c, x⟩ := m; dsimp only [FX.cells] at HT KB ⊢; go_enter Tryz.func48, Tryz.ntmps48; go_wp2_with (go_at_call 84; (with_reducible refine HT.out.mono ?_); rintro e w' ⟨rfl, hk⟩; have HK := hD hk; clear hk)
 go_ret2
 exact ⟨rfl, kT KB.out HK.out⟩
theorem fbytes_ok (ads : List Addr) (m : FX) (w : World) (V : St ads w) (T : Tab w) (hr : rightF m = true) :
  Calls Tryz.prog 48 #[.agg m.cells] w fun e w' => ∃ v, e = .returned (.tuple #[v, .nilIface]) ∧ w'.ownsRow w.heap.size 5 1 v (encF m).length ((encF m).map (Value.int .u8)) ∧ Kp w w' := by
 have hmf : ∀ (fn : Fn) (first cap : Array Value) (w : World), (Instr.makeFunc fn first cap).run Tryz.prog w = .ok (.func fn first cap) w := fun _ _ _ _ => rfl
 have h3 : 3 < ads.length := by rw [V.len]; decide
 have kb := kA w (.cells m.cells 39); have hc := (mH w (.cells m.cells 39))
 have HT := hD (try_bytes_own 85 #[.pointer (some ⟨w.heap.size, 0, none⟩)] (encF m) (w.alloc (.cells m.cells 39)) (by intro w; simp [go_sem]) fun w1 h1 => (fbytes1_ok ads h3 m w.heap.size w1 (V.below (kT kb h1)) (T.kp (kT kb h1)) (rZ h1 hc) hr).mono (by
  rintro e w2 ⟨v, rfl, ho, hk⟩; exact ⟨v, rfl, ho, hk⟩))
 obtain ⟨eb, heb⟩ : ∃ x, encF m = x := ⟨_, rfl⟩
 rw [heb] at HT ⊢; clear heb; have KB := hD kb; clear kb hc V T hr; obtain ⟨k, n, s, r, u, p, q, o, d, a, t, hh, c, x⟩ := m; dsimp only [FX.cells] at HT KB ⊢; go_enter Tryz.func48, Tryz.ntmps48; go_wp2_with (go_at_call 84; (with_reducible refine HT.out.mono ?_); rintro e w' ⟨v, rfl, ho, hk⟩; obtain ⟨HK, HO⟩ := hD2 hk ho; clear hk ho)
 go_ret2
 exact ⟨_, rfl, own_mono HO.out (Below.size KB.out), kT KB.out HK.out⟩
end Go.Proofs.YtpemeenfhkgmpaaGreatDoor
