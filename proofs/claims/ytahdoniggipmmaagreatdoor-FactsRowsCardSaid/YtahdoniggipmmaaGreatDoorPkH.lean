/-
  PACKAGE scope (own work): number, places.
-/
import Derived.Test.YtahdoniggipmmaaGreatDoorPkB
import Derived.Test.YtahdoniggipmmaaGreatDoorPkC
import Derived.Test.YtahdoniggipmmaaGreatDoorPkA
import Derived.Test.YtahdoniggipmmaaGreatDoorPkG
import Derived.Deep.RegionHeld3
import Derived.Laws.StructEq
import Derived.Test.YtahdoniggipmmaaGreatDoorPkE
import Derived.Lib.SmallJoins

namespace Go.Proofs.YtahdoniggipmmaaGreatDoor
open Go.RowKit Go.ChangeShapes Go.WideShapes

theorem two_cells {b : Nat} {t : TypeId} {w : World} {x0 x1 : Value} (h : w.heap[b]? = some (.cells #[x0, x1] t (0, 0))) : w.cell? ⟨b, 0, none⟩ = some x0 ∧ w.cell? ⟨b, 1, none⟩ = some x1 := by
  refine ⟨?_, ?_⟩ <;> (unfold World.cell?; dsimp only; rw [h]; rfl)
theorem must_f64_t (x : Nat) (w : World) : Calls Tryz.prog 42 #[.float .f64 x, .nilIface] w fun e w' => e = .returned (.float .f64 x) ∧ w = w' := by
  go_enter Tryz.func42, Tryz.ntmps42
  go_wp2_with (go_at_call 58; (with_reducible refine (check_t _).mono ?_); rintro e w' ⟨rfl, rfl⟩)
  go_ret
  exact ⟨rfl, rfl⟩
theorem must_f64_f (x : Nat) (a : Addr) (w : World) : Calls Tryz.prog 42 #[.float .f64 x, snt a] w fun e w' => e = .panicked [{ v := snt a, recovered := false }] ∧ w = w' := by
  go_enter Tryz.func42, Tryz.ntmps42
  go_wp2_with (go_at_call 58; (with_reducible refine (check_f _ _).mono ?_); rintro e w' ⟨rfl, rfl⟩)
  exact ⟨rfl, rfl, rfl⟩
theorem sbits_any (b : Nat) (w : World) (hb : b < 18446744073709551616) :
    Calls Tryz.prog 55 #[.float .f64 b] w fun e w' => e = .returned (.int .u64 (Fl.plain b)) ∧ w = w' := by
  have e1 := ext_bits
  go_enter Tryz.func55, Tryz.ntmps55
  go_wp2_with (go_at_call 85; (with_reducible refine (plain_any _ _ hb).mono ?_); rintro e w' ⟨rfl, rfl⟩)
  go_ret
  exact ⟨rfl, rfl⟩
theorem outcome_any (n : Int) (w : World) : Calls Tryz.prog 98 #[.int .i64 n] w fun e w' => e = .returned (.bool (outX n)) ∧ w = w' := by
  unfold outX
  by_cases h : n = 1
  · subst h
    rw [decide_eq_true (.inl rfl)]
    go_enter Tryz.func98, Tryz.ntmps98
    go_wp2
    go_ret
    exact ⟨rfl, rfl⟩
  by_cases g : n = 2
  · subst g
    rw [decide_eq_true (.inr rfl)]
    go_enter Tryz.func98, Tryz.ntmps98
    go_wp2
    go_ret
    exact ⟨rfl, rfl⟩
  · rw [decide_eq_false (by omega)]
    have h1 : (n == 1) = false := by simpa using h
    have h2 : (n == 2) = false := by simpa using g
    go_enter Tryz.func98, Tryz.ntmps98
    go_wp2
    go_ret
    exact ⟨rfl, rfl⟩
theorem plainTime_t (x : Nat) (w : World) (h : Fl.dl x = true) : Calls Tryz.prog 99 #[.float .f64 x] w fun e w' => e = .returned (.bool (tmX x)) ∧ w = w' := by
  have e1 := ext_bits
  have HD := Lib.hid (fun w => delay_ok x w h)
  have et : tmX x = (((Fl.plain x : Nat) : Int) == (x : Int)) := by
    unfold tmX
    rw [h, Bool.eq_iff_iff]
    simp
    omega
  rw [et]
  clear h et
  go_enter Tryz.func99, Tryz.ntmps99
  go_wp2_with (go_at_call 103; (with_reducible refine (HD.out _).mono ?_); rintro e w' ⟨rfl, rfl⟩)
  go_ret
  exact ⟨rfl, rfl⟩
theorem plainTime_f (ads : List Addr) (x : Nat) (hx : x < 18446744073709551616) (w : World) (V : St ads w) (h : Fl.dl x = false) : Calls Tryz.prog 99 #[.float .f64 x] w fun e w' => e = .returned (.bool (tmX x)) ∧ Kp w w' := by
  obtain ⟨a3, c3⟩ : ∃ a3, w.cell? ⟨0, 0, none⟩ = some (snt a3) := ⟨_, V.cell 3 (by decide)⟩
  have HD := Lib.hid (delay_err x _ w hx h c3)
  have et : tmX x = false := by
    unfold tmX
    rw [h]
    rfl
  rw [et]
  clear h et V c3
  go_enter Tryz.func99, Tryz.ntmps99
  go_wp2_with (go_at_call 103; (with_reducible refine HD.out.mono ?_); rintro e w1 ⟨rfl, hk⟩; have K1 := Lib.hid hk; clear hk)
  go_ret
  exact ⟨rfl, K1.out⟩
theorem plainTime_any (ads : List Addr) (x : Nat) (hx : x < 18446744073709551616) (w : World) (V : St ads w) : Calls Tryz.prog 99 #[.float .f64 x] w fun e w' => e = .returned (.bool (tmX x)) ∧ Kp w w' := by
  cases h : Fl.dl x with
  | true => exact (plainTime_t x w h).mono (by rintro e w' ⟨rfl, rfl⟩; exact ⟨rfl, Kp.refl _⟩)
  | false => exact plainTime_f ads x hx w V h
set_option maxRecDepth 100000 in
set_option maxHeartbeats 2000000 in
theorem sright_a (ads : List Addr) (n s o d : Int) (x : Nat) (hx : x < 18446744073709551616) (w : World) (V : St ads w) (T : Tab w) (hr : rightA n s = false) :
    Calls Tryz.prog 89 #[.agg #[.int .i64 n, .int .i64 s, .int .i64 o, .int .i64 d, .float .f64 x]] w fun e w' => e = .returned (.bool false) ∧ Kp w w' := by
  have HA := fun w1 (hk : Kp w w1) => right_any ads w1 (V.below hk) (T.kp hk) n s
  have HO := fun w1 => outcome_any o w1
  have HP := fun w1 (hk : Kp w w1) => plainTime_any ads x hx w1 (V.below hk)
  simp only [hr] at HA
  have HA := Lib.hid HA
  have HO := Lib.hid HO
  have HP := Lib.hid HP
  have K0 := Lib.hid (kp_alloc w (.cells #[.int .i64 n, .int .i64 s, .int .i64 o, .int .i64 d, .float .f64 x] 79))
  have HR := Lib.hid (MapKept.heap_alloc w (.cells #[.int .i64 n, .int .i64 s, .int .i64 o, .int .i64 d, .float .f64 x] 79)).1
  have hr0 := HR.out
  obtain ⟨e0, e1, e2, e3, e4⟩ := cells5 hr0
  clear V T hx hr hr0
  go_enter Tryz.func89, Tryz.ntmps89
  go_wp2_with (first
    | (go_at_call 90; (with_reducible refine (HA.out _ K0.out).mono ?_); rintro e w1 ⟨rfl, hk⟩; have K1 := Lib.hid (Kp.trans K0.out hk); have R1 := Lib.hid (kp_row hk HR.out); obtain ⟨b0, b1, b2, b3, b4⟩ := cells5 R1.out; clear hk))
  go_ret
  exact ⟨by first | rfl | simp, K1.out⟩
set_option maxRecDepth 100000 in
set_option maxHeartbeats 2000000 in
theorem sright_o (ads : List Addr) (n s o d : Int) (x : Nat) (hx : x < 18446744073709551616) (w : World) (V : St ads w) (T : Tab w) (hr : rightA n s = true) (ho : outX o = false) :
    Calls Tryz.prog 89 #[.agg #[.int .i64 n, .int .i64 s, .int .i64 o, .int .i64 d, .float .f64 x]] w fun e w' => e = .returned (.bool false) ∧ Kp w w' := by
  have HA := fun w1 (hk : Kp w w1) => right_any ads w1 (V.below hk) (T.kp hk) n s
  have HO := fun w1 => outcome_any o w1
  have HP := fun w1 (hk : Kp w w1) => plainTime_any ads x hx w1 (V.below hk)
  simp only [hr] at HA
  simp only [ho] at HO
  have HA := Lib.hid HA
  have HO := Lib.hid HO
  have HP := Lib.hid HP
  have K0 := Lib.hid (kp_alloc w (.cells #[.int .i64 n, .int .i64 s, .int .i64 o, .int .i64 d, .float .f64 x] 79))
  have HR := Lib.hid (MapKept.heap_alloc w (.cells #[.int .i64 n, .int .i64 s, .int .i64 o, .int .i64 d, .float .f64 x] 79)).1
  have hr0 := HR.out
  obtain ⟨e0, e1, e2, e3, e4⟩ := cells5 hr0
  clear V T hx hr hr0 ho
  go_enter Tryz.func89, Tryz.ntmps89
  go_wp2_with (first
    | (go_at_call 90; (with_reducible refine (HA.out _ K0.out).mono ?_); rintro e w1 ⟨rfl, hk⟩; have K1 := Lib.hid (Kp.trans K0.out hk); have R1 := Lib.hid (kp_row hk HR.out); obtain ⟨b0, b1, b2, b3, b4⟩ := cells5 R1.out; clear hk)
    | (go_at_call 98; (with_reducible refine (HO.out _).mono ?_); rintro e w' ⟨rfl, rfl⟩))
  go_ret
  exact ⟨by first | rfl | simp, K1.out⟩
set_option maxRecDepth 100000 in
set_option maxHeartbeats 2000000 in
theorem sright_d (ads : List Addr) (n s o d : Int) (x : Nat) (hx : x < 18446744073709551616) (w : World) (V : St ads w) (T : Tab w) (hr : rightA n s = true) (ho : outX o = true) (hd : d < 0) :
    Calls Tryz.prog 89 #[.agg #[.int .i64 n, .int .i64 s, .int .i64 o, .int .i64 d, .float .f64 x]] w fun e w' => e = .returned (.bool false) ∧ Kp w w' := by
  have HA := fun w1 (hk : Kp w w1) => right_any ads w1 (V.below hk) (T.kp hk) n s
  have HO := fun w1 => outcome_any o w1
  have HP := fun w1 (hk : Kp w w1) => plainTime_any ads x hx w1 (V.below hk)
  simp only [hr] at HA
  simp only [ho] at HO
  have hd1 : decide (0 ≤ d) = false := decide_eq_false (by omega)
  have HA := Lib.hid HA
  have HO := Lib.hid HO
  have HP := Lib.hid HP
  have K0 := Lib.hid (kp_alloc w (.cells #[.int .i64 n, .int .i64 s, .int .i64 o, .int .i64 d, .float .f64 x] 79))
  have HR := Lib.hid (MapKept.heap_alloc w (.cells #[.int .i64 n, .int .i64 s, .int .i64 o, .int .i64 d, .float .f64 x] 79)).1
  have hr0 := HR.out
  obtain ⟨e0, e1, e2, e3, e4⟩ := cells5 hr0
  clear V T hx hr hr0 ho
  go_enter Tryz.func89, Tryz.ntmps89
  go_wp2_with (first
    | (go_at_call 90; (with_reducible refine (HA.out _ K0.out).mono ?_); rintro e w1 ⟨rfl, hk⟩; have K1 := Lib.hid (Kp.trans K0.out hk); have R1 := Lib.hid (kp_row hk HR.out); obtain ⟨b0, b1, b2, b3, b4⟩ := cells5 R1.out; clear hk)
    | (go_at_call 98; (with_reducible refine (HO.out _).mono ?_); rintro e w' ⟨rfl, rfl⟩))
  go_ret
  exact ⟨by first | rfl | simp, K1.out⟩
set_option maxRecDepth 100000 in
set_option maxHeartbeats 2000000 in
theorem sright_e (ads : List Addr) (n s o d : Int) (x : Nat) (hx : x < 18446744073709551616) (w : World) (V : St ads w) (T : Tab w) (hr : rightA n s = true) (ho : outX o = true) (hd : 3 < d) :
    Calls Tryz.prog 89 #[.agg #[.int .i64 n, .int .i64 s, .int .i64 o, .int .i64 d, .float .f64 x]] w fun e w' => e = .returned (.bool false) ∧ Kp w w' := by
  have HA := fun w1 (hk : Kp w w1) => right_any ads w1 (V.below hk) (T.kp hk) n s
  have HO := fun w1 => outcome_any o w1
  have HP := fun w1 (hk : Kp w w1) => plainTime_any ads x hx w1 (V.below hk)
  simp only [hr] at HA
  simp only [ho] at HO
  have hd1 : decide (0 ≤ d) = true := decide_eq_true (by omega)
  have hd2 : decide (d ≤ 3) = false := decide_eq_false (by omega)
  have HA := Lib.hid HA
  have HO := Lib.hid HO
  have HP := Lib.hid HP
  have K0 := Lib.hid (kp_alloc w (.cells #[.int .i64 n, .int .i64 s, .int .i64 o, .int .i64 d, .float .f64 x] 79))
  have HR := Lib.hid (MapKept.heap_alloc w (.cells #[.int .i64 n, .int .i64 s, .int .i64 o, .int .i64 d, .float .f64 x] 79)).1
  have hr0 := HR.out
  obtain ⟨e0, e1, e2, e3, e4⟩ := cells5 hr0
  clear V T hx hr hr0 ho
  go_enter Tryz.func89, Tryz.ntmps89
  go_wp2_with (first
    | (go_at_call 90; (with_reducible refine (HA.out _ K0.out).mono ?_); rintro e w1 ⟨rfl, hk⟩; have K1 := Lib.hid (Kp.trans K0.out hk); have R1 := Lib.hid (kp_row hk HR.out); obtain ⟨b0, b1, b2, b3, b4⟩ := cells5 R1.out; clear hk)
    | (go_at_call 98; (with_reducible refine (HO.out _).mono ?_); rintro e w' ⟨rfl, rfl⟩))
  go_ret
  exact ⟨by first | rfl | simp, K1.out⟩
set_option maxRecDepth 100000 in
set_option maxHeartbeats 2000000 in
theorem sright_p (ads : List Addr) (n s o d : Int) (x : Nat) (hx : x < 18446744073709551616) (w : World) (V : St ads w) (T : Tab w) (hr : rightA n s = true) (ho : outX o = true) (hd : 0 ≤ d ∧ d ≤ 3) :
    Calls Tryz.prog 89 #[.agg #[.int .i64 n, .int .i64 s, .int .i64 o, .int .i64 d, .float .f64 x]] w fun e w' => e = .returned (.bool (tmX x)) ∧ Kp w w' := by
  have HA := fun w1 (hk : Kp w w1) => right_any ads w1 (V.below hk) (T.kp hk) n s
  have HO := fun w1 => outcome_any o w1
  have HP := fun w1 (hk : Kp w w1) => plainTime_any ads x hx w1 (V.below hk)
  simp only [hr] at HA
  simp only [ho] at HO
  have hd1 : decide (0 ≤ d) = true := decide_eq_true (by omega)
  have hd2 : decide (d ≤ 3) = true := decide_eq_true (by omega)
  have HA := Lib.hid HA
  have HO := Lib.hid HO
  have HP := Lib.hid HP
  have K0 := Lib.hid (kp_alloc w (.cells #[.int .i64 n, .int .i64 s, .int .i64 o, .int .i64 d, .float .f64 x] 79))
  have HR := Lib.hid (MapKept.heap_alloc w (.cells #[.int .i64 n, .int .i64 s, .int .i64 o, .int .i64 d, .float .f64 x] 79)).1
  have hr0 := HR.out
  obtain ⟨e0, e1, e2, e3, e4⟩ := cells5 hr0
  clear V T hx hr hr0 ho
  go_enter Tryz.func89, Tryz.ntmps89
  go_wp2_with (first
    | (go_at_call 90; (with_reducible refine (HA.out _ K0.out).mono ?_); rintro e w1 ⟨rfl, hk⟩; have K1 := Lib.hid (Kp.trans K0.out hk); have R1 := Lib.hid (kp_row hk HR.out); obtain ⟨b0, b1, b2, b3, b4⟩ := cells5 R1.out; clear hk)
    | (go_at_call 98; (with_reducible refine (HO.out _).mono ?_); rintro e w' ⟨rfl, rfl⟩)
    | (go_at_call 99; (with_reducible refine (HP.out _ K1.out).mono ?_); rintro e w2 ⟨rfl, hk⟩; have K2 := Lib.hid (Kp.trans K1.out hk); clear hk))
  go_ret
  exact ⟨by first | rfl | simp, K2.out⟩
/-- WHICH CONTEXTS ARE RIGHT. -/
theorem scoRight_any (ads : List Addr) (c : CX) (hc : c.wf) (w : World) (V : St ads w) (T : Tab w) : Calls Tryz.prog 89 #[.agg c.cells] w fun e w' => e = .returned (.bool (rightX c)) ∧ Kp w w' := by
  obtain ⟨n, s, o, d, x⟩ := c
  unfold rightX
  dsimp only [CX.cells]
  cases hr : rightA n s with
  | false => exact sright_a ads n s o d x hc w V T hr
  | true =>
    cases ho : outX o with
    | false => exact sright_o ads n s o d x hc w V T hr ho
    | true =>
      by_cases h0 : d < 0
      · rw [decide_eq_false (show ¬ (0 ≤ d ∧ d ≤ 3) by omega)]
        exact sright_d ads n s o d x hc w V T hr ho h0
      by_cases h3 : 3 < d
      · rw [decide_eq_false (show ¬ (0 ≤ d ∧ d ≤ 3) by omega)]
        exact sright_e ads n s o d x hc w V T hr ho h3
      · rw [decide_eq_true (show 0 ≤ d ∧ d ≤ 3 by omega)]
        exact sright_p ads n s o d x hc w V T hr ho (by omega)
theorem flt9 {a b : Nat} (ha : a < 18446744073709551616) (hb : b < 18446744073709551616) : (FloatKind.f64.format.order a b == some .lt) = Fl.isLt a b := Fl.test_lt ha hb
theorem act_fields9 : Tryz.prog.underlying 23 = some (.struct (Tryz.prog.fieldsOf 23)) := by
  unfold Program.fieldsOf
  rw [Tryz.underlying23]
theorem act_eql9 (n s n2 s2 : Int) (w : World) : (binOp .eql 23 (.agg #[.int .i64 n, .int .i64 s]) (.agg #[.int .i64 n2, .int .i64 s2])).run Tryz.prog w = .ok (.bool (decide (n = n2 ∧ s = s2))) w := by
  have ha : Tryz.prog.stoodInHeld 23 = false := by kernel_rfl
  rw [run_eql_struct, show (10000 : Nat) = 9999 + 1 from rfl, run_equalIn_agg w 9999 23 _ _ act_fields9 ha]
  simp [Program.fieldsOf, Tryz.underlying23, Op.eqFields, part, go_sem]
  by_cases h0 : n = n2
  rotate_left
  · simp [h0]
  subst h0
  by_cases h1 : s = s2
  rotate_left
  · simp [h1]
  subst h1
  simp [*]
theorem act_guard9 (op : BinOp) (x y : Operand) (n s n2 s2 : Int) (w : World) : (eqGuard op 23 x y (.agg #[.int .i64 n, .int .i64 s]) (.agg #[.int .i64 n2, .int .i64 s2])).run Tryz.prog w = .ok () w := run_eqGuard_agg w op 23 x y _ _ (by kernel_rfl)
theorem same_parts9b (a b : CX) : sameX a b = (decide (a.n = b.n ∧ a.s = b.s) && ((a.o == b.o) && ((a.d == b.d) && (((Fl.plain a.x : Nat) : Int) == ((Fl.plain b.x : Nat) : Int))))) := by
  unfold sameX
  rw [Bool.eq_iff_iff]
  simp only [Bool.and_eq_true, decide_eq_true_eq, beq_iff_eq]
  constructor
  · rintro ⟨⟨h1, h2, h3, h4⟩, h5⟩; exact ⟨⟨h1, h2⟩, h3, h4, by omega⟩
  · rintro ⟨⟨h1, h2⟩, h3, h4, h5⟩; exact ⟨⟨h1, h2, h3, h4⟩, by omega⟩
end Go.Proofs.YtahdoniggipmmaaGreatDoor

namespace Go.Proofs.YtahdoniggipmmaaGreatDoor
open Go.RowKit Go.ChangeShapes Go.WideShapes

theorem errN_nil (ads : List Addr) : errN ads 0 = .nilIface := rfl
theorem errN_1 (ads : List Addr) (h0 : 0 < ads.length) : errN ads 1 = snt (ads[0]'h0) := by unfold errN; simp [List.getElem?_eq_getElem h0]
theorem errN_4 (ads : List Addr) (h3 : 3 < ads.length) : errN ads 4 = snt (ads[3]'h3) := by unfold errN; simp [List.getElem?_eq_getElem h3]
theorem toNum_err (bs : List Int) : (toNum bs).2 = 0 ∨ (toNum bs).2 = 1 ∨ (toNum bs).2 = 4 := by
  unfold toNum
  split
  · exact .inr (.inr rfl)
  split
  · exact .inr (.inl rfl)
  split
  · exact .inr (.inl rfl)
  · exact .inl rfl
/-- the places of a context's numbers -/
def plX (b : Nat) : Array Value := #[.pointer (some ⟨b, 0, none⟩), .pointer (some ⟨b, 1, none⟩), .pointer (some ⟨b, 2, none⟩), .pointer (some ⟨b, 3, none⟩)]
theorem ctx_cell {w : World} {B : Nat} {c : CX} (h : w.heap[B]? = some (.cells c.cells 79 (0, 0))) (j : Nat) (hj : j < c.nums.length) : w.cell? ⟨B, j, none⟩ = some (.int .i64 c.nums[j]) := by
  obtain ⟨n, s, o, d, x⟩ := c
  unfold World.cell?
  dsimp only
  rw [h]
  have hj : j < 4 := hj
  match j, hj with
  | 0, _ | 1, _ | 2, _ | 3, _ => rfl
end Go.Proofs.YtahdoniggipmmaaGreatDoor

