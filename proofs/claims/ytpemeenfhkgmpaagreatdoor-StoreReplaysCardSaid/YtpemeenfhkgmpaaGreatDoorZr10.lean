/- Parts of this proof (own work). -/
import Derived.Test.YtpemeenfhkgmpaaGreatDoorZr09
import Derived.Laws.StructEq
set_option maxRecDepth 100000
set_option maxHeartbeats 40000000
namespace Go.Proofs.YtpemeenfhkgmpaaGreatDoor
open Go.RowKit Go.ChangeShapes Go.WideShapes
theorem two_cells {b : Nat} {t : TypeId} {w : World} {x0 x1 : Value} (h : w.heap[b]? = some (.cells #[x0, x1] t (0, 0))) : w.cell? ⟨b, 0, none⟩ = some x0 ∧ w.cell? ⟨b, 1, none⟩ = some x1 := by
 refine ⟨?_, ?_⟩ <;> (unfold World.cell?; dsimp only; rw [h]; rfl)
theorem outcome_any (n : Int) (w : World) : Calls Tryz.prog 157 #[.int .i64 n] w fun e w' => e = .returned (.bool (outX n)) ∧ w = w' := by
 unfold outX
 by_cases h : n = 1
 ·subst h; rw [dT (.inl rfl)]; go_enter Tryz.func157, Tryz.ntmps157; go_wp2; go_ret; exact ⟨rfl, rfl⟩
 by_cases g : n = 2
 ·subst g; rw [dT (.inr rfl)]; go_enter Tryz.func157, Tryz.ntmps157; go_wp2; go_ret; exact ⟨rfl, rfl⟩
 ·rw [dF (by omega)]; have h1 : (n == 1) = false := by simpa using h
  have h2 : (n == 2) = false := by simpa using g
  go_enter Tryz.func157, Tryz.ntmps157; go_wp2; go_ret; exact ⟨rfl, rfl⟩
theorem plainTime_t (x : Nat) (w : World) (h : Fl.dl x = true) : Calls Tryz.prog 158 #[.float .f64 x] w fun e w' => e = .returned (.bool (tmX x)) ∧ w = w' := by
 have e1 := ext_bits; have HD := hD (fun w => delay_ok x w h); have et : tmX x = (((Fl.plain x : Nat) : Int) == (x : Int)) := by
  unfold tmX; rw [h, Bool.eq_iff_iff]
  simp
  omega
 rw [et]; clear h et; go_enter Tryz.func158, Tryz.ntmps158; go_wp2_with (go_at_call 164; (with_reducible refine (HD.out _).mono ?_); rintro e w' ⟨rfl, rfl⟩)
 go_ret; exact ⟨rfl, rfl⟩
theorem plainTime_f (ads : List Addr) (x : Nat) (hx : x < 18446744073709551616) (w : World) (V : St ads w) (h : Fl.dl x = false) : Calls Tryz.prog 158 #[.float .f64 x] w fun e w' => e = .returned (.bool (tmX x)) ∧ Kp w w' := by
 obtain ⟨a3, c3⟩ : ∃ a3, w.cell? ⟨3, 0, none⟩ = some (snt a3) := ⟨_, V.cell 3 (by decide)⟩
 have HD := hD (delay_err x _ w hx h c3); have et : tmX x = false := by
  unfold tmX; rw [h]
  rfl
 rw [et]; clear h et V c3; go_enter Tryz.func158, Tryz.ntmps158; go_wp2_with (go_at_call 164; (with_reducible refine HD.out.mono ?_); rintro e w1 ⟨rfl, hk⟩; have K1 := hD hk; clear hk)
 go_ret; exact ⟨rfl, K1.out⟩
theorem plainTime_any (ads : List Addr) (x : Nat) (hx : x < 18446744073709551616) (w : World) (V : St ads w) : Calls Tryz.prog 158 #[.float .f64 x] w fun e w' => e = .returned (.bool (tmX x)) ∧ Kp w w' := by
 cases h : Fl.dl x with
 | true => exact (plainTime_t x w h).mono (by rintro e w' ⟨rfl, rfl⟩; exact ⟨rfl, Kp.refl _⟩)
 | false => exact plainTime_f ads x hx w V h
theorem sright_a (ads : List Addr) (n s o d : Int) (x : Nat) (hx : x < 18446744073709551616) (w : World) (V : St ads w) (T : Tab w) (hr : rightA n s = false) :
  Calls Tryz.prog 143 #[.agg #[n, s, o, d, .float .f64 x]] w fun e w' => e = .returned (.bool false) ∧ Kp w w' := by
 have HA := fun w1 (hk : Kp w w1) => right_any ads w1 (V.below hk) (T.kp hk) n s
 have HO := fun w1 => outcome_any o w1
 have HP := fun w1 (hk : Kp w w1) => plainTime_any ads x hx w1 (V.below hk)
 simp only [hr] at HA
 have HA := hD HA; have HO := hD HO; have HP := hD HP; have K0 := hD (kA w (.cells #[n, s, o, d, .float .f64 x] 62)); have HR := hD (mH w (.cells #[n, s, o, d, .float .f64 x] 62)); have hr0 := HR.out; obtain ⟨e0, e1, e2, e3, e4⟩ := cells5 hr0; clear V T hx hr hr0; go_enter Tryz.func143, Tryz.ntmps143; go_wp2_with (first
  | (go_at_call 144; (with_reducible refine (HA.out _ K0.out).mono ?_); rintro e w1 ⟨rfl, hk⟩; have K1 := hD (kT K0.out hk); have R1 := hD (rZ hk HR.out); obtain ⟨b0, b1, b2, b3, b4⟩ := cells5 R1.out; clear hk))
 go_ret; exact ⟨by first | rfl | simp, K1.out⟩
theorem sright_o (ads : List Addr) (n s o d : Int) (x : Nat) (hx : x < 18446744073709551616) (w : World) (V : St ads w) (T : Tab w) (hr : rightA n s = true) (ho : outX o = false) :
  Calls Tryz.prog 143 #[.agg #[n, s, o, d, .float .f64 x]] w fun e w' => e = .returned (.bool false) ∧ Kp w w' := by
 have HA := fun w1 (hk : Kp w w1) => right_any ads w1 (V.below hk) (T.kp hk) n s
 have HO := fun w1 => outcome_any o w1
 have HP := fun w1 (hk : Kp w w1) => plainTime_any ads x hx w1 (V.below hk)
 simp only [hr] at HA
 simp only [ho] at HO
 have HA := hD HA; have HO := hD HO; have HP := hD HP; have K0 := hD (kA w (.cells #[n, s, o, d, .float .f64 x] 62)); have HR := hD (mH w (.cells #[n, s, o, d, .float .f64 x] 62)); have hr0 := HR.out; obtain ⟨e0, e1, e2, e3, e4⟩ := cells5 hr0; clear V T hx hr hr0 ho; go_enter Tryz.func143, Tryz.ntmps143; go_wp2_with (first
  | (go_at_call 144; (with_reducible refine (HA.out _ K0.out).mono ?_); rintro e w1 ⟨rfl, hk⟩; have K1 := hD (kT K0.out hk); have R1 := hD (rZ hk HR.out); obtain ⟨b0, b1, b2, b3, b4⟩ := cells5 R1.out; clear hk)
  | (go_at_call 157; (with_reducible refine (HO.out _).mono ?_); rintro e w' ⟨rfl, rfl⟩))
 go_ret; exact ⟨by first | rfl | simp, K1.out⟩
theorem sright_d (ads : List Addr) (n s o d : Int) (x : Nat) (hx : x < 18446744073709551616) (w : World) (V : St ads w) (T : Tab w) (hr : rightA n s = true) (ho : outX o = true) (hd : d < 0) :
  Calls Tryz.prog 143 #[.agg #[n, s, o, d, .float .f64 x]] w fun e w' => e = .returned (.bool false) ∧ Kp w w' := by
 have HA := fun w1 (hk : Kp w w1) => right_any ads w1 (V.below hk) (T.kp hk) n s
 have HO := fun w1 => outcome_any o w1
 have HP := fun w1 (hk : Kp w w1) => plainTime_any ads x hx w1 (V.below hk)
 simp only [hr] at HA
 simp only [ho] at HO
 have hd1 : decide (0 ≤ d) = false := dF (by omega); have HA := hD HA; have HO := hD HO; have HP := hD HP; have K0 := hD (kA w (.cells #[n, s, o, d, .float .f64 x] 62)); have HR := hD (mH w (.cells #[n, s, o, d, .float .f64 x] 62)); have hr0 := HR.out; obtain ⟨e0, e1, e2, e3, e4⟩ := cells5 hr0; clear V T hx hr hr0 ho; go_enter Tryz.func143, Tryz.ntmps143; go_wp2_with (first
  | (go_at_call 144; (with_reducible refine (HA.out _ K0.out).mono ?_); rintro e w1 ⟨rfl, hk⟩; have K1 := hD (kT K0.out hk); have R1 := hD (rZ hk HR.out); obtain ⟨b0, b1, b2, b3, b4⟩ := cells5 R1.out; clear hk)
  | (go_at_call 157; (with_reducible refine (HO.out _).mono ?_); rintro e w' ⟨rfl, rfl⟩))
 go_ret; exact ⟨by first | rfl | simp, K1.out⟩
theorem sright_e (ads : List Addr) (n s o d : Int) (x : Nat) (hx : x < 18446744073709551616) (w : World) (V : St ads w) (T : Tab w) (hr : rightA n s = true) (ho : outX o = true) (hd : 3 < d) :
  Calls Tryz.prog 143 #[.agg #[n, s, o, d, .float .f64 x]] w fun e w' => e = .returned (.bool false) ∧ Kp w w' := by
 have HA := fun w1 (hk : Kp w w1) => right_any ads w1 (V.below hk) (T.kp hk) n s
 have HO := fun w1 => outcome_any o w1
 have HP := fun w1 (hk : Kp w w1) => plainTime_any ads x hx w1 (V.below hk)
 simp only [hr] at HA
 simp only [ho] at HO
 have hd1 : decide (0 ≤ d) = true := dT (by omega); have hd2 : decide (d ≤ 3) = false := dF (by omega); have HA := hD HA; have HO := hD HO; have HP := hD HP; have K0 := hD (kA w (.cells #[n, s, o, d, .float .f64 x] 62)); have HR := hD (mH w (.cells #[n, s, o, d, .float .f64 x] 62)); have hr0 := HR.out; obtain ⟨e0, e1, e2, e3, e4⟩ := cells5 hr0; clear V T hx hr hr0 ho; go_enter Tryz.func143, Tryz.ntmps143; go_wp2_with (first
  | (go_at_call 144; (with_reducible refine (HA.out _ K0.out).mono ?_); rintro e w1 ⟨rfl, hk⟩; have K1 := hD (kT K0.out hk); have R1 := hD (rZ hk HR.out); obtain ⟨b0, b1, b2, b3, b4⟩ := cells5 R1.out; clear hk)
  | (go_at_call 157; (with_reducible refine (HO.out _).mono ?_); rintro e w' ⟨rfl, rfl⟩))
 go_ret; exact ⟨by first | rfl | simp, K1.out⟩
theorem sright_p (ads : List Addr) (n s o d : Int) (x : Nat) (hx : x < 18446744073709551616) (w : World) (V : St ads w) (T : Tab w) (hr : rightA n s = true) (ho : outX o = true) (hd : 0 ≤ d ∧ d ≤ 3) :
  Calls Tryz.prog 143 #[.agg #[n, s, o, d, .float .f64 x]] w fun e w' => e = .returned (.bool (tmX x)) ∧ Kp w w' := by
 have HA := fun w1 (hk : Kp w w1) => right_any ads w1 (V.below hk) (T.kp hk) n s
 have HO := fun w1 => outcome_any o w1
 have HP := fun w1 (hk : Kp w w1) => plainTime_any ads x hx w1 (V.below hk)
 simp only [hr] at HA
 simp only [ho] at HO
 have hd1 : decide (0 ≤ d) = true := dT (by omega); have hd2 : decide (d ≤ 3) = true := dT (by omega); have HA := hD HA; have HO := hD HO; have HP := hD HP; have K0 := hD (kA w (.cells #[n, s, o, d, .float .f64 x] 62)); have HR := hD (mH w (.cells #[n, s, o, d, .float .f64 x] 62)); have hr0 := HR.out; obtain ⟨e0, e1, e2, e3, e4⟩ := cells5 hr0; clear V T hx hr hr0 ho; go_enter Tryz.func143, Tryz.ntmps143; go_wp2_with (first
  | (go_at_call 144; (with_reducible refine (HA.out _ K0.out).mono ?_); rintro e w1 ⟨rfl, hk⟩; have K1 := hD (kT K0.out hk); have R1 := hD (rZ hk HR.out); obtain ⟨b0, b1, b2, b3, b4⟩ := cells5 R1.out; clear hk)
  | (go_at_call 157; (with_reducible refine (HO.out _).mono ?_); rintro e w' ⟨rfl, rfl⟩)
  | (go_at_call 158; (with_reducible refine (HP.out _ K1.out).mono ?_); rintro e w2 ⟨rfl, hk⟩; have K2 := hD (kT K1.out hk); clear hk))
 go_ret; exact ⟨by first | rfl | simp, K2.out⟩
theorem scoRight_any (ads : List Addr) (c : CX) (hc : c.wf) (w : World) (V : St ads w) (T : Tab w) : Calls Tryz.prog 143 #[.agg c.cells] w fun e w' => e = .returned (.bool (rightX c)) ∧ Kp w w' := by
 obtain ⟨n, s, o, d, x⟩ := c; unfold rightX; dsimp only [CX.cells]
 cases hr : rightA n s with
 | false => exact sright_a ads n s o d x hc w V T hr
 | true =>
  cases ho : outX o with
  | false => exact sright_o ads n s o d x hc w V T hr ho
  | true =>
   by_cases h0 : d < 0
   ·rw [dF (show ¬ (0 ≤ d ∧ d ≤ 3) by omega)]; exact sright_d ads n s o d x hc w V T hr ho h0
   by_cases h3 : 3 < d
   ·rw [dF (show ¬ (0 ≤ d ∧ d ≤ 3) by omega)]; exact sright_e ads n s o d x hc w V T hr ho h3
   ·rw [dT (show 0 ≤ d ∧ d ≤ 3 by omega)]; exact sright_p ads n s o d x hc w V T hr ho (by omega)
theorem act_fields9 : Tryz.prog.underlying 36 = some (.struct (Tryz.prog.fieldsOf 36)) := by
 unfold Program.fieldsOf; rw [Tryz.underlying36]
theorem act_eql9 (n s n2 s2 : Int) (w : World) : (binOp .eql 36 (.agg #[n, s]) (.agg #[n2, s2])).run Tryz.prog w = .ok (.bool (decide (n = n2 ∧ s = s2))) w := by
 have ha : Tryz.prog.stoodInHeld 36 = false := by kernel_rfl
 rw [run_eql_struct, show (10000 : Nat) = 9999 + 1 from rfl, run_equalIn_agg w 9999 36 _ _ act_fields9 ha]
 simp [Program.fieldsOf, Tryz.underlying36, Op.eqFields, part, go_sem]
 by_cases h0 : n = n2
 rotate_left
 ·simp [h0]
 subst h0
 by_cases h1 : s = s2
 rotate_left
 ·simp [h1]
 subst h1
 simp [*]
theorem act_guard9 (op : BinOp) (x y : Operand) (n s n2 s2 : Int) (w : World) : (eqGuard op 36 x y (.agg #[n, s]) (.agg #[n2, s2])).run Tryz.prog w = .ok () w := run_eqGuard_agg w op 36 x y _ _ (by kernel_rfl)
theorem errN_nil (ads : List Addr) : errN ads 0 = .nilIface := rfl
theorem errN_1 (ads : List Addr) (h0 : 0 < ads.length) : errN ads 1 = snt (ads[0]'h0) := by unfold errN; simp [List.getElem?_eq_getElem h0]
theorem errN_4 (ads : List Addr) (h3 : 3 < ads.length) : errN ads 4 = snt (ads[3]'h3) := by unfold errN; simp [List.getElem?_eq_getElem h3]
theorem toNum_err (bs : List Int) : (toNum bs).2 = 0 ∨ (toNum bs).2 = 1 ∨ (toNum bs).2 = 4 := by
 unfold toNum
 split
 ·exact .inr (.inr rfl)
 split
 ·exact .inr (.inl rfl)
 split
 ·exact .inr (.inl rfl)
 ·exact .inl rfl
theorem cZ {b : Nat} {t : TypeId} {w : World} {x0 x1 x2 x3 x4 x5 x6 x7 x8 x9 x10 x11 x12 x13 : Value} (h : w.heap[b]? = some (.cells #[x0, x1, x2, x3, x4, x5, x6, x7, x8, x9, x10, x11, x12, x13] t (0, 0))) : w.cell? ⟨b, 0, none⟩ = some x0 ∧ w.cell? ⟨b, 1, none⟩ = some x1 ∧ w.cell? ⟨b, 2, none⟩ = some x2 ∧ w.cell? ⟨b, 3, none⟩ = some x3 ∧ w.cell? ⟨b, 4, none⟩ = some x4 ∧ w.cell? ⟨b, 5, none⟩ = some x5 ∧ w.cell? ⟨b, 6, none⟩ = some x6 ∧ w.cell? ⟨b, 7, none⟩ = some x7 ∧ w.cell? ⟨b, 8, none⟩ = some x8 ∧ w.cell? ⟨b, 9, none⟩ = some x9 ∧ w.cell? ⟨b, 10, none⟩ = some x10 ∧ w.cell? ⟨b, 11, none⟩ = some x11 ∧ w.cell? ⟨b, 12, none⟩ = some x12 ∧ w.cell? ⟨b, 13, none⟩ = some x13 := by
 refine ⟨?_, ?_, ?_, ?_, ?_, ?_, ?_, ?_, ?_, ?_, ?_, ?_, ?_, ?_⟩ <;> (unfold World.cell?; dsimp only; rw [h]; rfl)
theorem froz14 {b : Nat} {t : TypeId} {w : World} {cs : Array Value} (h : w.heap[b]? = some (.cells cs t (0, 0))) (i : Nat) : w.frozen? ⟨b, i, none⟩ = false := by
 unfold World.frozen?; dsimp only; rw [h]
 simp
theorem set14 {b : Nat} {t : TypeId} {w : World} {x0 x1 x2 x3 x4 x5 x6 x7 x8 x9 x10 x11 x12 x13 : Value} (y0 y1 y2 y3 y4 y5 y6 y7 y8 y9 y10 y11 y12 y13 : Value) (h : w.heap[b]? = some (.cells #[x0, x1, x2, x3, x4, x5, x6, x7, x8, x9, x10, x11, x12, x13] t (0, 0))) : ((((((((((((((w.setCell ⟨b, 0, none⟩ y0).setCell ⟨b, 1, none⟩ y1).setCell ⟨b, 2, none⟩ y2).setCell ⟨b, 3, none⟩ y3).setCell ⟨b, 4, none⟩ y4).setCell ⟨b, 5, none⟩ y5).setCell ⟨b, 6, none⟩ y6).setCell ⟨b, 7, none⟩ y7).setCell ⟨b, 8, none⟩ y8).setCell ⟨b, 9, none⟩ y9).setCell ⟨b, 10, none⟩ y10).setCell ⟨b, 11, none⟩ y11).setCell ⟨b, 12, none⟩ y12).setCell ⟨b, 13, none⟩ y13).heap[b]? = some (.cells #[y0, y1, y2, y3, y4, y5, y6, y7, y8, y9, y10, y11, y12, y13] t (0, 0)) := by
 have h1 : (w.setCell ⟨b, 0, none⟩ y0).heap[b]? = some (.cells #[y0, x1, x2, x3, x4, x5, x6, x7, x8, x9, x10, x11, x12, x13] t (0, 0)) := (Joins.block_setCell h _).trans rfl; have h2 : ((w.setCell ⟨b, 0, none⟩ y0).setCell ⟨b, 1, none⟩ y1).heap[b]? = some (.cells #[y0, y1, x2, x3, x4, x5, x6, x7, x8, x9, x10, x11, x12, x13] t (0, 0)) := (Joins.block_setCell h1 _).trans rfl; have h3 : (((w.setCell ⟨b, 0, none⟩ y0).setCell ⟨b, 1, none⟩ y1).setCell ⟨b, 2, none⟩ y2).heap[b]? = some (.cells #[y0, y1, y2, x3, x4, x5, x6, x7, x8, x9, x10, x11, x12, x13] t (0, 0)) := (Joins.block_setCell h2 _).trans rfl; have h4 : ((((w.setCell ⟨b, 0, none⟩ y0).setCell ⟨b, 1, none⟩ y1).setCell ⟨b, 2, none⟩ y2).setCell ⟨b, 3, none⟩ y3).heap[b]? = some (.cells #[y0, y1, y2, y3, x4, x5, x6, x7, x8, x9, x10, x11, x12, x13] t (0, 0)) := (Joins.block_setCell h3 _).trans rfl; have h5 : (((((w.setCell ⟨b, 0, none⟩ y0).setCell ⟨b, 1, none⟩ y1).setCell ⟨b, 2, none⟩ y2).setCell ⟨b, 3, none⟩ y3).setCell ⟨b, 4, none⟩ y4).heap[b]? = some (.cells #[y0, y1, y2, y3, y4, x5, x6, x7, x8, x9, x10, x11, x12, x13] t (0, 0)) := (Joins.block_setCell h4 _).trans rfl
 have h6 : ((((((w.setCell ⟨b, 0, none⟩ y0).setCell ⟨b, 1, none⟩ y1).setCell ⟨b, 2, none⟩ y2).setCell ⟨b, 3, none⟩ y3).setCell ⟨b, 4, none⟩ y4).setCell ⟨b, 5, none⟩ y5).heap[b]? = some (.cells #[y0, y1, y2, y3, y4, y5, x6, x7, x8, x9, x10, x11, x12, x13] t (0, 0)) := (Joins.block_setCell h5 _).trans rfl; have h7 : (((((((w.setCell ⟨b, 0, none⟩ y0).setCell ⟨b, 1, none⟩ y1).setCell ⟨b, 2, none⟩ y2).setCell ⟨b, 3, none⟩ y3).setCell ⟨b, 4, none⟩ y4).setCell ⟨b, 5, none⟩ y5).setCell ⟨b, 6, none⟩ y6).heap[b]? = some (.cells #[y0, y1, y2, y3, y4, y5, y6, x7, x8, x9, x10, x11, x12, x13] t (0, 0)) := (Joins.block_setCell h6 _).trans rfl; have h8 : ((((((((w.setCell ⟨b, 0, none⟩ y0).setCell ⟨b, 1, none⟩ y1).setCell ⟨b, 2, none⟩ y2).setCell ⟨b, 3, none⟩ y3).setCell ⟨b, 4, none⟩ y4).setCell ⟨b, 5, none⟩ y5).setCell ⟨b, 6, none⟩ y6).setCell ⟨b, 7, none⟩ y7).heap[b]? = some (.cells #[y0, y1, y2, y3, y4, y5, y6, y7, x8, x9, x10, x11, x12, x13] t (0, 0)) := (Joins.block_setCell h7 _).trans rfl
 have h9 : (((((((((w.setCell ⟨b, 0, none⟩ y0).setCell ⟨b, 1, none⟩ y1).setCell ⟨b, 2, none⟩ y2).setCell ⟨b, 3, none⟩ y3).setCell ⟨b, 4, none⟩ y4).setCell ⟨b, 5, none⟩ y5).setCell ⟨b, 6, none⟩ y6).setCell ⟨b, 7, none⟩ y7).setCell ⟨b, 8, none⟩ y8).heap[b]? = some (.cells #[y0, y1, y2, y3, y4, y5, y6, y7, y8, x9, x10, x11, x12, x13] t (0, 0)) := (Joins.block_setCell h8 _).trans rfl; have h10 : ((((((((((w.setCell ⟨b, 0, none⟩ y0).setCell ⟨b, 1, none⟩ y1).setCell ⟨b, 2, none⟩ y2).setCell ⟨b, 3, none⟩ y3).setCell ⟨b, 4, none⟩ y4).setCell ⟨b, 5, none⟩ y5).setCell ⟨b, 6, none⟩ y6).setCell ⟨b, 7, none⟩ y7).setCell ⟨b, 8, none⟩ y8).setCell ⟨b, 9, none⟩ y9).heap[b]? = some (.cells #[y0, y1, y2, y3, y4, y5, y6, y7, y8, y9, x10, x11, x12, x13] t (0, 0)) := (Joins.block_setCell h9 _).trans rfl; have h11 : (((((((((((w.setCell ⟨b, 0, none⟩ y0).setCell ⟨b, 1, none⟩ y1).setCell ⟨b, 2, none⟩ y2).setCell ⟨b, 3, none⟩ y3).setCell ⟨b, 4, none⟩ y4).setCell ⟨b, 5, none⟩ y5).setCell ⟨b, 6, none⟩ y6).setCell ⟨b, 7, none⟩ y7).setCell ⟨b, 8, none⟩ y8).setCell ⟨b, 9, none⟩ y9).setCell ⟨b, 10, none⟩ y10).heap[b]? = some (.cells #[y0, y1, y2, y3, y4, y5, y6, y7, y8, y9, y10, x11, x12, x13] t (0, 0)) := (Joins.block_setCell h10 _).trans rfl
 have h12 : ((((((((((((w.setCell ⟨b, 0, none⟩ y0).setCell ⟨b, 1, none⟩ y1).setCell ⟨b, 2, none⟩ y2).setCell ⟨b, 3, none⟩ y3).setCell ⟨b, 4, none⟩ y4).setCell ⟨b, 5, none⟩ y5).setCell ⟨b, 6, none⟩ y6).setCell ⟨b, 7, none⟩ y7).setCell ⟨b, 8, none⟩ y8).setCell ⟨b, 9, none⟩ y9).setCell ⟨b, 10, none⟩ y10).setCell ⟨b, 11, none⟩ y11).heap[b]? = some (.cells #[y0, y1, y2, y3, y4, y5, y6, y7, y8, y9, y10, y11, x12, x13] t (0, 0)) := (Joins.block_setCell h11 _).trans rfl; have h13 : (((((((((((((w.setCell ⟨b, 0, none⟩ y0).setCell ⟨b, 1, none⟩ y1).setCell ⟨b, 2, none⟩ y2).setCell ⟨b, 3, none⟩ y3).setCell ⟨b, 4, none⟩ y4).setCell ⟨b, 5, none⟩ y5).setCell ⟨b, 6, none⟩ y6).setCell ⟨b, 7, none⟩ y7).setCell ⟨b, 8, none⟩ y8).setCell ⟨b, 9, none⟩ y9).setCell ⟨b, 10, none⟩ y10).setCell ⟨b, 11, none⟩ y11).setCell ⟨b, 12, none⟩ y12).heap[b]? = some (.cells #[y0, y1, y2, y3, y4, y5, y6, y7, y8, y9, y10, y11, y12, x13] t (0, 0)) := (Joins.block_setCell h12 _).trans rfl
 have h14 : ((((((((((((((w.setCell ⟨b, 0, none⟩ y0).setCell ⟨b, 1, none⟩ y1).setCell ⟨b, 2, none⟩ y2).setCell ⟨b, 3, none⟩ y3).setCell ⟨b, 4, none⟩ y4).setCell ⟨b, 5, none⟩ y5).setCell ⟨b, 6, none⟩ y6).setCell ⟨b, 7, none⟩ y7).setCell ⟨b, 8, none⟩ y8).setCell ⟨b, 9, none⟩ y9).setCell ⟨b, 10, none⟩ y10).setCell ⟨b, 11, none⟩ y11).setCell ⟨b, 12, none⟩ y12).setCell ⟨b, 13, none⟩ y13).heap[b]? = some (.cells #[y0, y1, y2, y3, y4, y5, y6, y7, y8, y9, y10, y11, y12, y13] t (0, 0)) := (Joins.block_setCell h13 _).trans rfl; exact h14
theorem set14_kp {b : Nat} {w0 w : World} (hk : Kp w0 w) (hb : w0.heap.size ≤ b) (y0 y1 y2 y3 y4 y5 y6 y7 y8 y9 y10 y11 y12 y13 : Value) : Kp w0 ((((((((((((((w.setCell ⟨b, 0, none⟩ y0).setCell ⟨b, 1, none⟩ y1).setCell ⟨b, 2, none⟩ y2).setCell ⟨b, 3, none⟩ y3).setCell ⟨b, 4, none⟩ y4).setCell ⟨b, 5, none⟩ y5).setCell ⟨b, 6, none⟩ y6).setCell ⟨b, 7, none⟩ y7).setCell ⟨b, 8, none⟩ y8).setCell ⟨b, 9, none⟩ y9).setCell ⟨b, 10, none⟩ y10).setCell ⟨b, 11, none⟩ y11).setCell ⟨b, 12, none⟩ y12).setCell ⟨b, 13, none⟩ y13) := by
 refine Below.setCell ?_ hb _
 refine Below.setCell ?_ hb _
 refine Below.setCell ?_ hb _
 refine Below.setCell ?_ hb _
 refine Below.setCell ?_ hb _
 refine Below.setCell ?_ hb _
 refine Below.setCell ?_ hb _
 refine Below.setCell ?_ hb _
 refine Below.setCell ?_ hb _
 refine Below.setCell ?_ hb _
 refine Below.setCell ?_ hb _
 refine Below.setCell ?_ hb _
 refine Below.setCell ?_ hb _
 refine Below.setCell ?_ hb _
 exact hk
theorem nX0 (w : World) (o o' : Obj) : ((w.alloc o).alloc o').heap[w.heap.size]? = some o := by
 rw [Below.heap_alloc _ _ _ (by simp)]; exact (mH w o)
theorem nX1 (w : World) (o o' : Obj) : ((w.alloc o).alloc o').heap[w.heap.size + 1]? = some o' := by
 have := (mH (w.alloc o) o')
 simpa using this
def numsF (l : List Int) (x : Nat) : Array Value := (l.map (Value.int .i64) ++ [Value.float .f64 x]).toArray
theorem numsF_cell {w : World} {B x : Nat} {l : List Int} {t : TypeId} (h : w.heap[B]? = some (.cells (numsF l x) t (0, 0))) (j : Nat) (hj : j < l.length) : w.cell? ⟨B, j, none⟩ = some (.int .i64 l[j]) := by
 unfold World.cell?; dsimp only; rw [h]
 simp [numsF, List.getElem?_append_left, hj]
theorem numsF_last {w : World} {B x : Nat} {l : List Int} {t : TypeId} (h : w.heap[B]? = some (.cells (numsF l x) t (0, 0))) (hl : l.length = 13) : w.cell? ⟨B, 13, none⟩ = some (.float .f64 x) := by
 unfold World.cell?; dsimp only; rw [h]; obtain ⟨k, n, s, r, e, p, q, o, d, a, t, hh, c, rfl⟩ := thirteen hl
 rfl
theorem numsF_set {w : World} {B x : Nat} {l : List Int} {t : TypeId} (h : w.heap[B]? = some (.cells (numsF l x) t (0, 0))) (i : Nat) (hi : i < l.length) (y : Int) : (w.setCell ⟨B, i, none⟩ (.int .i64 y)).heap[B]? = some (.cells (numsF (l.set i y) x) t (0, 0)) := by
 rw [Joins.block_setCell h]
 congr 2
 simp [numsF, List.set_append_left, hi, List.map_set]
theorem numsF_setX {w : World} {B x : Nat} {l : List Int} {t : TypeId} (h : w.heap[B]? = some (.cells (numsF l x) t (0, 0))) (hl : l.length = 13) (y : Nat) : (w.setCell ⟨B, 13, none⟩ (.float .f64 y)).heap[B]? = some (.cells (numsF l y) t (0, 0)) := by
 rw [Joins.block_setCell h]
 congr 2
 obtain ⟨k, n, s, r, e, p, q, o, d, a, t, hh, c, rfl⟩ := thirteen hl
 rfl
end Go.Proofs.YtpemeenfhkgmpaaGreatDoor
