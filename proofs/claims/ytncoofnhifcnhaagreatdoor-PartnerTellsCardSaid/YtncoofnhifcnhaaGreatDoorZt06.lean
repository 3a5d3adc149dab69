/- Parts of this proof (own work). -/
import Derived.Test.YtncoofnhifcnhaaGreatDoorZt05
import Derived.Laws.StructEq
import Derived.Test.YtncoofnhifcnhaaGreatDoorZt03
set_option maxRecDepth 100000
set_option maxHeartbeats 40000000
namespace Go.Proofs.YtncoofnhifcnhaaGreatDoor
open Go.RowKit Go.ChangeShapes Go.WideShapes
theorem two_cells {b : Nat} {t : TypeId} {w : World} {x0 x1 : Value} (h : w.heap[b]? = some (.cells #[x0, x1] t (0, 0))) : w.cell? ⟨b, 0, none⟩ = some x0 ∧ w.cell? ⟨b, 1, none⟩ = some x1 := by
 refine ⟨?_, ?_⟩ <;> (unfold World.cell?; dsimp only; rw [h]; rfl)
theorem outcome_any (n : Int) (w : World) : Calls Tryz.prog 97 #[.int .i64 n] w fun e w' => e = .returned (.bool (outX n)) ∧ w = w' := by
 unfold outX
 by_cases h : n = 1
 ·subst h; rw [dT (.inl rfl)]; go_enter Tryz.func97, Tryz.ntmps97; go_wp2; go_ret; exact ⟨rfl, rfl⟩
 by_cases g : n = 2
 ·subst g; rw [dT (.inr rfl)]; go_enter Tryz.func97, Tryz.ntmps97; go_wp2; go_ret; exact ⟨rfl, rfl⟩
 ·rw [dF (by omega)]; have h1 : (n == 1) = false := by simpa using h
  have h2 : (n == 2) = false := by simpa using g
  go_enter Tryz.func97, Tryz.ntmps97; go_wp2; go_ret; exact ⟨rfl, rfl⟩
theorem plainTime_t (x : Nat) (w : World) (h : Fl.dl x = true) : Calls Tryz.prog 98 #[.float .f64 x] w fun e w' => e = .returned (.bool (tmX x)) ∧ w = w' := by
 have e1 := ext_bits; have HD := hD (fun w => delay_ok x w h); have et : tmX x = (((Fl.plain x : Nat) : Int) == (x : Int)) := by
  unfold tmX; rw [h, Bool.eq_iff_iff]
  simp
  omega
 rw [et]; clear h et; go_enter Tryz.func98, Tryz.ntmps98; go_wp2_with (go_at_call 99; (with_reducible refine (HD.out _).mono ?_); rintro e w' ⟨rfl, rfl⟩)
 go_ret; exact ⟨rfl, rfl⟩
theorem plainTime_f (ads : List Addr) (x : Nat) (hx : x < 18446744073709551616) (w : World) (V : St ads w) (h : Fl.dl x = false) : Calls Tryz.prog 98 #[.float .f64 x] w fun e w' => e = .returned (.bool (tmX x)) ∧ Kp w w' := by
 obtain ⟨a3, c3⟩ : ∃ a3, w.cell? ⟨5, 0, none⟩ = some (snt a3) := ⟨_, V.cell 3 (by decide)⟩
 have HD := hD (delay_err x _ w hx h c3); have et : tmX x = false := by
  unfold tmX; rw [h]
  rfl
 rw [et]; clear h et V c3; go_enter Tryz.func98, Tryz.ntmps98; go_wp2_with (go_at_call 99; (with_reducible refine HD.out.mono ?_); rintro e w1 ⟨rfl, hk⟩; have K1 := hD hk; clear hk)
 go_ret; exact ⟨rfl, K1.out⟩
theorem plainTime_any (ads : List Addr) (x : Nat) (hx : x < 18446744073709551616) (w : World) (V : St ads w) : Calls Tryz.prog 98 #[.float .f64 x] w fun e w' => e = .returned (.bool (tmX x)) ∧ Kp w w' := by
 cases h : Fl.dl x with
 | true => exact (plainTime_t x w h).mono (by rintro e w' ⟨rfl, rfl⟩; exact ⟨rfl, Kp.refl _⟩)
 | false => exact plainTime_f ads x hx w V h
theorem sright_a (ads : List Addr) (n s o d : Int) (x : Nat) (hx : x < 18446744073709551616) (w : World) (V : St ads w) (T : Tab w) (hr : rightA n s = false) :
  Calls Tryz.prog 56 #[.agg #[n, s, o, d, x]] w fun e w' => e = .returned (.bool false) ∧ Kp w w' := by
 have HA := fun w1 (hk : Kp w w1) => right_any ads w1 (V.below hk) (T.kp hk) n s
 have HO := fun w1 => outcome_any o w1
 have HP := fun w1 (hk : Kp w w1) => plainTime_any ads x hx w1 (V.below hk)
 simp only [hr] at HA
 obtain ⟨HA, HO, HP⟩ := hD3 HA HO HP; have K0 := hD (kA w (.cells #[n, s, o, d, x] 60)); have HR := hD (mH w (.cells #[n, s, o, d, x] 60)); have hr0 := HR.out; obtain ⟨e0, e1, e2, e3, e4⟩ := cells5 hr0; clear V T hx hr hr0; go_enter Tryz.func56, Tryz.ntmps56; go_wp2_with (first
  | (go_at_call 65; (with_reducible refine (HA.out _ K0.out).mono ?_); rintro e w1 ⟨rfl, hk⟩; have K1 := hD (kT K0.out hk); have R1 := hD (rZ hk HR.out); obtain ⟨b0, b1, b2, b3, b4⟩ := cells5 R1.out; clear hk))
 go_ret; exact ⟨by first | rfl | simp, K1.out⟩
theorem sright_o (ads : List Addr) (n s o d : Int) (x : Nat) (hx : x < 18446744073709551616) (w : World) (V : St ads w) (T : Tab w) (hr : rightA n s = true) (ho : outX o = false) :
  Calls Tryz.prog 56 #[.agg #[n, s, o, d, x]] w fun e w' => e = .returned (.bool false) ∧ Kp w w' := by
 have HA := fun w1 (hk : Kp w w1) => right_any ads w1 (V.below hk) (T.kp hk) n s
 have HO := fun w1 => outcome_any o w1
 have HP := fun w1 (hk : Kp w w1) => plainTime_any ads x hx w1 (V.below hk)
 simp only [hr] at HA
 simp only [ho] at HO
 obtain ⟨HA, HO, HP⟩ := hD3 HA HO HP; have K0 := hD (kA w (.cells #[n, s, o, d, x] 60)); have HR := hD (mH w (.cells #[n, s, o, d, x] 60)); have hr0 := HR.out; obtain ⟨e0, e1, e2, e3, e4⟩ := cells5 hr0; clear V T hx hr hr0 ho; go_enter Tryz.func56, Tryz.ntmps56; go_wp2_with (first
  | (go_at_call 65; (with_reducible refine (HA.out _ K0.out).mono ?_); rintro e w1 ⟨rfl, hk⟩; have K1 := hD (kT K0.out hk); have R1 := hD (rZ hk HR.out); obtain ⟨b0, b1, b2, b3, b4⟩ := cells5 R1.out; clear hk)
  | (go_at_call 97; (with_reducible refine (HO.out _).mono ?_); rintro e w' ⟨rfl, rfl⟩))
 go_ret; exact ⟨by first | rfl | simp, K1.out⟩
theorem sright_d (ads : List Addr) (n s o d : Int) (x : Nat) (hx : x < 18446744073709551616) (w : World) (V : St ads w) (T : Tab w) (hr : rightA n s = true) (ho : outX o = true) (hd : d < 0) :
  Calls Tryz.prog 56 #[.agg #[n, s, o, d, x]] w fun e w' => e = .returned (.bool false) ∧ Kp w w' := by
 have HA := fun w1 (hk : Kp w w1) => right_any ads w1 (V.below hk) (T.kp hk) n s
 have HO := fun w1 => outcome_any o w1
 have HP := fun w1 (hk : Kp w w1) => plainTime_any ads x hx w1 (V.below hk)
 simp only [hr] at HA
 simp only [ho] at HO
 have hd1 : decide (0 ≤ d) = false := dF (by omega); obtain ⟨HA, HO, HP⟩ := hD3 HA HO HP; have K0 := hD (kA w (.cells #[n, s, o, d, x] 60)); have HR := hD (mH w (.cells #[n, s, o, d, x] 60)); have hr0 := HR.out; obtain ⟨e0, e1, e2, e3, e4⟩ := cells5 hr0; clear V T hx hr hr0 ho; go_enter Tryz.func56, Tryz.ntmps56; go_wp2_with (first
  | (go_at_call 65; (with_reducible refine (HA.out _ K0.out).mono ?_); rintro e w1 ⟨rfl, hk⟩; have K1 := hD (kT K0.out hk); have R1 := hD (rZ hk HR.out); obtain ⟨b0, b1, b2, b3, b4⟩ := cells5 R1.out; clear hk)
  | (go_at_call 97; (with_reducible refine (HO.out _).mono ?_); rintro e w' ⟨rfl, rfl⟩))
 go_ret; exact ⟨by first | rfl | simp, K1.out⟩
theorem sright_e (ads : List Addr) (n s o d : Int) (x : Nat) (hx : x < 18446744073709551616) (w : World) (V : St ads w) (T : Tab w) (hr : rightA n s = true) (ho : outX o = true) (hd : 3 < d) :
  Calls Tryz.prog 56 #[.agg #[n, s, o, d, x]] w fun e w' => e = .returned (.bool false) ∧ Kp w w' := by
 have HA := fun w1 (hk : Kp w w1) => right_any ads w1 (V.below hk) (T.kp hk) n s
 have HO := fun w1 => outcome_any o w1
 have HP := fun w1 (hk : Kp w w1) => plainTime_any ads x hx w1 (V.below hk)
 simp only [hr] at HA
 simp only [ho] at HO
 have hd1 : decide (0 ≤ d) = true := dT (by omega); have hd2 : decide (d ≤ 3) = false := dF (by omega); obtain ⟨HA, HO, HP⟩ := hD3 HA HO HP; have K0 := hD (kA w (.cells #[n, s, o, d, x] 60)); have HR := hD (mH w (.cells #[n, s, o, d, x] 60)); have hr0 := HR.out; obtain ⟨e0, e1, e2, e3, e4⟩ := cells5 hr0; clear V T hx hr hr0 ho; go_enter Tryz.func56, Tryz.ntmps56; go_wp2_with (first
  | (go_at_call 65; (with_reducible refine (HA.out _ K0.out).mono ?_); rintro e w1 ⟨rfl, hk⟩; have K1 := hD (kT K0.out hk); have R1 := hD (rZ hk HR.out); obtain ⟨b0, b1, b2, b3, b4⟩ := cells5 R1.out; clear hk)
  | (go_at_call 97; (with_reducible refine (HO.out _).mono ?_); rintro e w' ⟨rfl, rfl⟩))
 go_ret; exact ⟨by first | rfl | simp, K1.out⟩
theorem sright_p (ads : List Addr) (n s o d : Int) (x : Nat) (hx : x < 18446744073709551616) (w : World) (V : St ads w) (T : Tab w) (hr : rightA n s = true) (ho : outX o = true) (hd : 0 ≤ d ∧ d ≤ 3) :
  Calls Tryz.prog 56 #[.agg #[n, s, o, d, x]] w fun e w' => e = .returned (.bool (tmX x)) ∧ Kp w w' := by
 have HA := fun w1 (hk : Kp w w1) => right_any ads w1 (V.below hk) (T.kp hk) n s
 have HO := fun w1 => outcome_any o w1
 have HP := fun w1 (hk : Kp w w1) => plainTime_any ads x hx w1 (V.below hk)
 simp only [hr] at HA
 simp only [ho] at HO
 have hd1 : decide (0 ≤ d) = true := dT (by omega); have hd2 : decide (d ≤ 3) = true := dT (by omega); obtain ⟨HA, HO, HP⟩ := hD3 HA HO HP; have K0 := hD (kA w (.cells #[n, s, o, d, x] 60)); have HR := hD (mH w (.cells #[n, s, o, d, x] 60)); have hr0 := HR.out; obtain ⟨e0, e1, e2, e3, e4⟩ := cells5 hr0; clear V T hx hr hr0 ho; go_enter Tryz.func56, Tryz.ntmps56; go_wp2_with (first
  | (go_at_call 65; (with_reducible refine (HA.out _ K0.out).mono ?_); rintro e w1 ⟨rfl, hk⟩; have K1 := hD (kT K0.out hk); have R1 := hD (rZ hk HR.out); obtain ⟨b0, b1, b2, b3, b4⟩ := cells5 R1.out; clear hk)
  | (go_at_call 97; (with_reducible refine (HO.out _).mono ?_); rintro e w' ⟨rfl, rfl⟩)
  | (go_at_call 98; (with_reducible refine (HP.out _ K1.out).mono ?_); rintro e w2 ⟨rfl, hk⟩; have K2 := hD (kT K1.out hk); clear hk))
 go_ret; exact ⟨by first | rfl | simp, K2.out⟩
theorem scoRight_any (ads : List Addr) (c : CX) (hc : c.wf) (w : World) (V : St ads w) (T : Tab w) : Calls Tryz.prog 56 #[.agg c.cells] w fun e w' => e = .returned (.bool (rightX c)) ∧ Kp w w' := by
 obtain ⟨n, s, o, d, x⟩ := c; unfold rightX; dsimp only [CX.cells]
 cases hr : rightA n s with
 | false => exact sright_a ads n s o d x hc w V T hr
 | true =>
  cases ho : outX o with
  | false => exact sright_o ads n s o d x hc w V T hr ho
  | true =>
   by_cases h0 : d < 0
   ·rw [dF (show ¬ (0 ≤ d ∧ d ≤ 3) by omega)]; exact sright_d ads n s o d x hc w V T hr ho h0
   by_cases h3 : 3 < d
   ·rw [dF (show ¬ (0 ≤ d ∧ d ≤ 3) by omega)]; exact sright_e ads n s o d x hc w V T hr ho h3
   ·rw [dT (show 0 ≤ d ∧ d ≤ 3 by omega)]; exact sright_p ads n s o d x hc w V T hr ho (by omega)
theorem act_fields9 : Tryz.prog.underlying 24 = some (.struct (Tryz.prog.fieldsOf 24)) := by
 unfold Program.fieldsOf; rw [Tryz.underlying24]
theorem act_eql9 (n s n2 s2 : Int) (w : World) : (binOp .eql 24 (.agg #[n, s]) (.agg #[n2, s2])).run Tryz.prog w = .ok (.bool (decide (n = n2 ∧ s = s2))) w := by
 have ha : Tryz.prog.stoodInHeld 24 = false := by kernel_rfl
 rw [run_eql_struct, show (10000 : Nat) = 9999 + 1 from rfl, run_equalIn_agg w 9999 24 _ _ act_fields9 ha]
 simp [Program.fieldsOf, Tryz.underlying24, Op.eqFields, part, go_sem]
 by_cases h0 : n = n2
 rotate_left
 ·simp [h0]
 subst h0
 by_cases h1 : s = s2
 rotate_left
 ·simp [h1]
 subst h1
 simp [*]
theorem act_guard9 (op : BinOp) (x y : Operand) (n s n2 s2 : Int) (w : World) : (eqGuard op 24 x y (.agg #[n, s]) (.agg #[n2, s2])).run Tryz.prog w = .ok () w := run_eqGuard_agg w op 24 x y _ _ (by kernel_rfl)
theorem rQ {P : Program} {fn : Func} {p u : Tmp} {ty : TypeId} (h : fn.results = #[.cell p ty, .tmp u]) (tmps : Array Value) (w : World) (g : Nat) (t : TypeId) (cs : Array Value) (fr : Nat × Nat) (d : TypeDesc)
  (hp : tmps.getD p undef = .pointer (some ⟨g, 0, none⟩)) (hg : w.heap[g]? = some (.cells cs t fr))
  (hu : P.underlying ty = some d) (hd : (match d with | .struct _ | .array _ _ => true | _ => false) = true) (hi : (P.info? ty).map (·.size) = some cs.size) :
  (results fn tmps).run P w = .ok (.tuple #[.agg cs, tmps.getD u undef]) w := by
 have hp' : tmps[p]?.getD undef = .pointer (some ⟨g, 0, none⟩) := by simpa using hp
 simp [results, h, hp', asAddr, run_loadVar_row w g t ty cs fr d hg hu hd hi]
theorem cZ {b : Nat} {t : TypeId} {w : World} {x0 x1 x2 x3 x4 x5 x6 x7 x8 x9 x10 x11 x12 x13 : Value} (h : w.heap[b]? = some (.cells #[x0, x1, x2, x3, x4, x5, x6, x7, x8, x9, x10, x11, x12, x13] t (0, 0))) : w.cell? ⟨b, 0, none⟩ = some x0 ∧ w.cell? ⟨b, 1, none⟩ = some x1 ∧ w.cell? ⟨b, 2, none⟩ = some x2 ∧ w.cell? ⟨b, 3, none⟩ = some x3 ∧ w.cell? ⟨b, 4, none⟩ = some x4 ∧ w.cell? ⟨b, 5, none⟩ = some x5 ∧ w.cell? ⟨b, 6, none⟩ = some x6 ∧ w.cell? ⟨b, 7, none⟩ = some x7 ∧ w.cell? ⟨b, 8, none⟩ = some x8 ∧ w.cell? ⟨b, 9, none⟩ = some x9 ∧ w.cell? ⟨b, 10, none⟩ = some x10 ∧ w.cell? ⟨b, 11, none⟩ = some x11 ∧ w.cell? ⟨b, 12, none⟩ = some x12 ∧ w.cell? ⟨b, 13, none⟩ = some x13 := by
 refine ⟨?_, ?_, ?_, ?_, ?_, ?_, ?_, ?_, ?_, ?_, ?_, ?_, ?_, ?_⟩ <;> (unfold World.cell?; dsimp only; rw [h]; rfl)
theorem froz14 {b : Nat} {t : TypeId} {w : World} {cs : Array Value} (h : w.heap[b]? = some (.cells cs t (0, 0))) (i : Nat) : w.frozen? ⟨b, i, none⟩ = false := by
 unfold World.frozen?; dsimp only; rw [h]
 simp
theorem nX0 (w : World) (o o' : Obj) : ((w.alloc o).alloc o').heap[w.heap.size]? = some o := by
 rw [Below.heap_alloc _ _ _ (by simp)]; exact (mH w o)
theorem nX1 (w : World) (o o' : Obj) : ((w.alloc o).alloc o').heap[w.heap.size + 1]? = some o' := by
 have := (mH (w.alloc o) o')
 simpa using this
def numsF (l : List Int) (x : Nat) : Array Value := (l.map (Value.int .i64) ++ [Value.float .f64 x]).toArray
theorem numsF_cell {w : World} {B x : Nat} {l : List Int} {t : TypeId} (h : w.heap[B]? = some (.cells (numsF l x) t (0, 0))) (j : Nat) (hj : j < l.length) : w.cell? ⟨B, j, none⟩ = some (.int .i64 l[j]) := by
 unfold World.cell?; dsimp only; rw [h]
 simp [numsF, List.getElem?_append_left, hj]
theorem numsF_set {w : World} {B x : Nat} {l : List Int} {t : TypeId} (h : w.heap[B]? = some (.cells (numsF l x) t (0, 0))) (i : Nat) (hi : i < l.length) (y : Int) : (w.setCell ⟨B, i, none⟩ (.int .i64 y)).heap[B]? = some (.cells (numsF (l.set i y) x) t (0, 0)) := by
 rw [Joins.block_setCell h]
 congr 2
 simp [numsF, List.set_append_left, hi, List.map_set]
open Go.RowKit
structure Asd (O O' : Nat → Prop) (w w' : World) : Prop where
 os : w'.os = w.os
 tape : w'.tape = w.tape
 output : w'.output = w.output
 size : w.heap.size ≤ w'.heap.size
 block : ∀ b, b < w.heap.size → ¬ O b → w'.heap[b]? = w.heap[b]?
 own : ∀ b, O' b → O b ∨ w.heap.size ≤ b
theorem Asd.kp {O O' : Nat → Prop} {W w w' : World} (h : Asd O O' w w') (hk : Kp W w) (hO : ∀ b, O b → W.heap.size ≤ b) : Kp W w' :=
 ⟨h.os.trans hk.os, h.tape.trans hk.tape, h.output.trans hk.output, Nat.le_trans (Below.size hk) h.size, fun b hb => by
  rw [h.block b (Nat.lt_of_lt_of_le hb (Below.size hk)) (fun q => absurd (hO b q) (by omega))]; exact Below.block hk b hb⟩
theorem Asd.trans {P P' P'' : Nat → Prop} {a b c : World} (h : Asd P P' a b) (k : Asd P' P'' b c) : Asd P P'' a c :=
 ⟨k.os.trans h.os, k.tape.trans h.tape, k.output.trans h.output, Nat.le_trans h.size k.size, fun i hi hn => by
  rw [k.block i (Nat.lt_of_lt_of_le hi h.size) (fun q => by rcases h.own i q with q | q; exact hn q; omega)]; exact h.block i hi hn, fun i q => by
  rcases k.own i q with q | q
  ·exact h.own i q
  ·exact .inr (Nat.le_trans h.size q)⟩
theorem Asd.of_kp (P : Nat → Prop) {w w' : World} (h : Kp w w') : Asd P P w w' := ⟨h.os, h.tape, h.output, Below.size h, fun b hb _ => Below.block h b hb, fun _ q => .inl q⟩
def i64M (x : Int) : Prop := -9223372036854775808 ≤ x ∧ x ≤ 9223372036854775807
instance (x : Int) : Decidable (i64M x) := by unfold i64M; infer_instance
def seatV (z : SeatM) : Array Value := #[.int .i64 z.p, .int .i64 z.e, .int .i64 z.s, .int .i64 z.h]
def effV (y : EffM) : Array Value := #[.int .i64 y.z.p, .int .i64 y.z.e, .int .i64 y.z.s, .int .i64 y.z.h, .int .i64 y.send, .int .i64 y.fault, .int .i64 y.work, .bool y.changed]
def SeatM.ok (z : SeatM) : Prop := i64M z.p ∧ i64M z.e ∧ i64M z.s ∧ i64M z.h
def newS (p e : Int) : SeatM := if rightT p e = true then ⟨p, e, 1, 0⟩ else ⟨0, 0, 0, 0⟩
theorem refFailing_any (s : Int) (w : World) : Calls Tryz.prog 94 #[.int .i64 s] w fun e' w' => e' = .returned (.bool (failT s)) ∧ w = w' := by
 unfold failT
 by_cases h1 : 8 ≤ s
 ·by_cases h2 : s ≤ 11
  ·rw [dT (And.intro h1 h2)]
   (go_enter Tryz.func94, Tryz.ntmps94; go_wp2; go_ret; exact ⟨rfl, rfl⟩)
  ·rw [dF (fun q => h2 q.2)]
   (go_enter Tryz.func94, Tryz.ntmps94; go_wp2; go_ret; exact ⟨rfl, rfl⟩)
 ·rw [dF (fun q => h1 q.1)]
  (go_enter Tryz.func94, Tryz.ntmps94; go_wp2; go_ret; exact ⟨rfl, rfl⟩)
theorem refHas_any (p e s : Int) (w : World) : Calls Tryz.prog 122 #[.int .i64 p, .int .i64 e, .int .i64 s] w fun e' w' => e' = .returned (.bool (hasT p e s)) ∧ w = w' := by
 by_cases h4 : s = 4
 ·subst h4; rw [show hasT p e 4 = (p == 2) by simp [hasT]; rw [Bool.eq_iff_iff]; simp]
  (go_enter Tryz.func122, Tryz.ntmps122; go_wp2; go_ret; exact ⟨rfl, rfl⟩)
 by_cases h10 : s = 10
 ·subst h10; rw [show hasT p e 10 = (p == 2) by simp [hasT]; rw [Bool.eq_iff_iff]; simp]
  (go_enter Tryz.func122, Tryz.ntmps122; go_wp2; go_ret; exact ⟨rfl, rfl⟩)
 have b4 : (s == 4) = false := by simpa using h4
 have b10 : (s == 10) = false := by simpa using h10
 by_cases h3 : s = 3
 ·subst h3
  by_cases hp : p = 2
  ·subst hp; rw [show hasT 2 e 3 = (e == 1) by simp [hasT]; rw [Bool.eq_iff_iff]; simp]
   (go_enter Tryz.func122, Tryz.ntmps122; go_wp2; go_ret; exact ⟨rfl, rfl⟩)
  ·rw [show hasT p e 3 = false by simp [hasT, hp]]; have bp : (p == 2) = false := by simpa using hp
   (go_enter Tryz.func122, Tryz.ntmps122; go_wp2; go_ret; exact ⟨rfl, rfl⟩)
 have b3 : (s == 3) = false := by simpa using h3
 by_cases h1 : 1 ≤ s
 ·by_cases h2 : s ≤ 14
  ·rw [show hasT p e s = true by simp [hasT, h4, h10, h3, h1, h2]]
   (go_enter Tryz.func122, Tryz.ntmps122; go_wp2; go_ret; exact ⟨rfl, rfl⟩)
  ·rw [show hasT p e s = false by simp [hasT, h4, h10, h3, h2]]
   (go_enter Tryz.func122, Tryz.ntmps122; go_wp2; go_ret; exact ⟨rfl, rfl⟩)
 ·rw [show hasT p e s = false by simp [hasT, h4, h10, h3, h1]]
  (go_enter Tryz.func122, Tryz.ntmps122; go_wp2; go_ret; exact ⟨rfl, rfl⟩)
theorem refTakes_any (p e k : Int) (w : World) : Calls Tryz.prog 123 #[.int .i64 p, .int .i64 e, .int .i64 k] w fun e' w' => e' = .returned (.bool (takesT p e k)) ∧ w = w' := by
 by_cases he : e = 1
 ·subst he; rw [show takesT p 1 k = upT k from rfl]; unfold upT
  by_cases h1 : k = 1
  ·subst h1; rw [dT (Or.inl rfl)]
   (go_enter Tryz.func123, Tryz.ntmps123; go_wp2; go_ret; exact ⟨rfl, rfl⟩)
  have b1 : (k == 1) = false := by simpa using h1
  by_cases h2 : 3 ≤ k
  ·by_cases h3 : k ≤ 8
   ·rw [dT (Or.inr (And.intro h2 h3))]
    (go_enter Tryz.func123, Tryz.ntmps123; go_wp2; go_ret; exact ⟨rfl, rfl⟩)
   ·rw [dF (by omega)]
    (go_enter Tryz.func123, Tryz.ntmps123; go_wp2; go_ret; exact ⟨rfl, rfl⟩)
  ·rw [dF (by omega)]
   (go_enter Tryz.func123, Tryz.ntmps123; go_wp2; go_ret; exact ⟨rfl, rfl⟩)
 ·have be : (e == 1) = false := by simpa using he
  rw [show takesT p e k = downT p k from if_neg he]; unfold downT
  by_cases h2 : k = 2
  ·subst h2
   by_cases hp : p = 2
   ·subst hp; rw [dT (Or.inl ⟨rfl, rfl⟩)]
    (go_enter Tryz.func123, Tryz.ntmps123; go_wp2; go_ret; exact ⟨rfl, rfl⟩)
   ·have bp : (p == 2) = false := by simpa using hp
    rw [dF (by omega)]
    (go_enter Tryz.func123, Tryz.ntmps123; go_wp2; go_ret; exact ⟨rfl, rfl⟩)
  have b2 : (k == 2) = false := by simpa using h2
  by_cases h9 : 9 ≤ k
  ·by_cases h14 : k ≤ 14
   ·rw [dT (Or.inr (And.intro h9 h14))]
    (go_enter Tryz.func123, Tryz.ntmps123; go_wp2; go_ret; exact ⟨rfl, rfl⟩)
   ·rw [dF (by omega)]
    (go_enter Tryz.func123, Tryz.ntmps123; go_wp2; go_ret; exact ⟨rfl, rfl⟩)
  ·rw [dF (by omega)]
   (go_enter Tryz.func123, Tryz.ntmps123; go_wp2; go_ret; exact ⟨rfl, rfl⟩)
theorem refWaits_any (e s : Int) (w : World) : Calls Tryz.prog 52 #[.int .i64 e, .int .i64 s] w fun e' w' => e' = .returned (.int .i64 (waitT e s)) ∧ w = w' := by
 have HF := hD (fun s w => refFailing_any s w)
 by_cases he : e = 1
 ·subst he
  by_cases h : s = 2 ∨ s = 3 ∨ s = 4 ∨ s = 6 ∨ s = 7
  ·rcases h with rfl | rfl | rfl | rfl | rfl <;> (go_enter Tryz.func52, Tryz.ntmps52; go_wp2; go_ret; exact ⟨rfl, rfl⟩)
  ·have b2 : (s == 2) = false := by simp; omega
   have b3 : (s == 3) = false := by simp; omega
   have b4 : (s == 4) = false := by simp; omega
   have b6 : (s == 6) = false := by simp; omega
   have b7 : (s == 7) = false := by simp; omega
   rw [show waitT 1 s = 0 by unfold waitT; rw [if_pos rfl, if_neg (by omega), if_neg (by omega), if_neg (by omega), if_neg (by omega)]]
   (go_enter Tryz.func52, Tryz.ntmps52; go_wp2; go_ret; exact ⟨rfl, rfl⟩)
 ·have be : (e == 1) = false := by simpa using he
  by_cases h5 : s = 5
  ·subst h5; rw [show waitT e 5 = 3 by unfold waitT; rw [if_neg he]; rfl]
   (go_enter Tryz.func52, Tryz.ntmps52; go_wp2; go_ret; exact ⟨rfl, rfl⟩)
  have b5 : (s == 5) = false := by simpa using h5
  cases hf : failT s with
  | true =>
   have HF1 := hD (fun w => hf ▸ refFailing_any s w); rw [show waitT e s = 4 by unfold waitT; rw [if_neg he, if_neg h5, if_pos hf]]
   (go_enter Tryz.func52, Tryz.ntmps52; go_wp2_with (go_at_call 94; (with_reducible refine (HF1.out _).mono ?_); rintro e' w' ⟨rfl, rfl⟩); go_ret; exact ⟨rfl, rfl⟩)
  | false =>
   have HF1 := hD (fun w => hf ▸ refFailing_any s w)
   by_cases h12 : s = 12
   ·subst h12; rw [show waitT e 12 = 5 by unfold waitT; rw [if_neg he]; rfl]
    (go_enter Tryz.func52, Tryz.ntmps52; go_wp2_with (go_at_call 94; (with_reducible refine (HF1.out _).mono ?_); rintro e' w' ⟨rfl, rfl⟩); go_ret; exact ⟨rfl, rfl⟩)
   have b12 : (s == 12) = false := by simpa using h12
   by_cases h13 : s = 13
   ·subst h13; rw [show waitT e 13 = 1 by unfold waitT; rw [if_neg he]; rfl]
    (go_enter Tryz.func52, Tryz.ntmps52; go_wp2_with (go_at_call 94; (with_reducible refine (HF1.out _).mono ?_); rintro e' w' ⟨rfl, rfl⟩); go_ret; exact ⟨rfl, rfl⟩)
   have b13 : (s == 13) = false := by simpa using h13
   rw [show waitT e s = 0 by unfold waitT; rw [if_neg he, if_neg h5, if_neg (by rw [hf]; decide), if_neg h12, if_neg h13]]
   (go_enter Tryz.func52, Tryz.ntmps52; go_wp2_with (go_at_call 94; (with_reducible refine (HF1.out _).mono ?_); rintro e' w' ⟨rfl, rfl⟩); go_ret; exact ⟨rfl, rfl⟩)
theorem cells3 {b : Nat} {t : TypeId} {w : World} {x0 x1 x2 : Value} (h : w.heap[b]? = some (.cells #[x0, x1, x2] t (0, 0))) : w.cell? ⟨b, 0, none⟩ = some x0 ∧ w.cell? ⟨b, 1, none⟩ = some x1 ∧ w.cell? ⟨b, 2, none⟩ = some x2 := by
 refine ⟨?_, ?_, ?_⟩ <;> (unfold World.cell?; dsimp only; rw [h]; rfl)
theorem froz3 {b : Nat} {t : TypeId} {w : World} {cs : Array Value} (h : w.heap[b]? = some (.cells cs t (0, 0))) (i : Nat) : w.frozen? ⟨b, i, none⟩ = false := by
 unfold World.frozen?; dsimp only; rw [h]
 simp
theorem set3 {b : Nat} {t : TypeId} {w : World} {x0 x1 x2 : Value} (y0 y1 y2 : Value) (h : w.heap[b]? = some (.cells #[x0, x1, x2] t (0, 0))) : (((w.setCell ⟨b, 0, none⟩ y0).setCell ⟨b, 1, none⟩ y1).setCell ⟨b, 2, none⟩ y2).heap[b]? = some (.cells #[y0, y1, y2] t (0, 0)) := by
 have h1 : (w.setCell ⟨b, 0, none⟩ y0).heap[b]? = some (.cells #[y0, x1, x2] t (0, 0)) := (Joins.block_setCell h _).trans rfl; have h2 : ((w.setCell ⟨b, 0, none⟩ y0).setCell ⟨b, 1, none⟩ y1).heap[b]? = some (.cells #[y0, y1, x2] t (0, 0)) := (Joins.block_setCell h1 _).trans rfl; have h3 : (((w.setCell ⟨b, 0, none⟩ y0).setCell ⟨b, 1, none⟩ y1).setCell ⟨b, 2, none⟩ y2).heap[b]? = some (.cells #[y0, y1, y2] t (0, 0)) := (Joins.block_setCell h2 _).trans rfl; exact h3
theorem set3_kp {b : Nat} {w0 w : World} (hk : Kp w0 w) (hb : w0.heap.size ≤ b) (y0 y1 y2 : Value) : Kp w0 (((w.setCell ⟨b, 0, none⟩ y0).setCell ⟨b, 1, none⟩ y1).setCell ⟨b, 2, none⟩ y2) := by
 refine Below.setCell ?_ hb _
 refine Below.setCell ?_ hb _
 refine Below.setCell ?_ hb _
 exact hk
theorem refTo_any (s : Int) (w : World) : Calls Tryz.prog 167 #[.int .i64 s] w fun e' w' => e' = .returned (.agg #[(1:Int), s, (0:Int)]) ∧ Kp w w' := by
 go_enter Tryz.func167, Tryz.ntmps167; go_wp2; refine bodyPost_ret (results_cell_row (p := 2) rfl _ _ w.heap.size 149 _ (0, 0) _ rfl (mH w (.cells #[(1:Int), s, (0:Int)] 149)) Tryz.underlying149 rfl (by kernel_rfl)) rfl ?_; exact ⟨rfl, kA _ _⟩
theorem refAgain_any (s : Int) (w : World) : Calls Tryz.prog 168 #[.int .i64 s] w fun e' w' => e' = .returned (.agg #[(3:Int), (0:Int), s]) ∧ Kp w w' := by
 go_enter Tryz.func168, Tryz.ntmps168; go_wp2; refine bodyPost_ret (results_cell_row (p := 2) rfl _ _ w.heap.size 149 _ (0, 0) _ rfl (mH w (.cells #[(3:Int), (0:Int), s] 149)) Tryz.underlying149 rfl (by kernel_rfl)) rfl ?_; exact ⟨rfl, kA _ _⟩
theorem cells_4 {b : Nat} {t : TypeId} {w : World} {x0 x1 x2 x3 : Value} (h : w.heap[b]? = some (.cells #[x0, x1, x2, x3] t (0, 0))) : w.cell? ⟨b, 0, none⟩ = some x0 ∧ w.cell? ⟨b, 1, none⟩ = some x1 ∧ w.cell? ⟨b, 2, none⟩ = some x2 ∧ w.cell? ⟨b, 3, none⟩ = some x3 := by
 refine ⟨?_, ?_, ?_, ?_⟩ <;> (unfold World.cell?; dsimp only; rw [h]; rfl)
theorem set_4 {b : Nat} {t : TypeId} {w : World} {x0 x1 x2 x3 : Value} (y0 y1 y2 y3 : Value) (h : w.heap[b]? = some (.cells #[x0, x1, x2, x3] t (0, 0))) : ((((w.setCell ⟨b, 0, none⟩ y0).setCell ⟨b, 1, none⟩ y1).setCell ⟨b, 2, none⟩ y2).setCell ⟨b, 3, none⟩ y3).heap[b]? = some (.cells #[y0, y1, y2, y3] t (0, 0)) := by
 have h0 : (w.setCell ⟨b, 0, none⟩ y0).heap[b]? = some (.cells #[y0, x1, x2, x3] t (0, 0)) := (Joins.block_setCell h _).trans rfl; have h1 : ((w.setCell ⟨b, 0, none⟩ y0).setCell ⟨b, 1, none⟩ y1).heap[b]? = some (.cells #[y0, y1, x2, x3] t (0, 0)) := (Joins.block_setCell h0 _).trans rfl; have h2 : (((w.setCell ⟨b, 0, none⟩ y0).setCell ⟨b, 1, none⟩ y1).setCell ⟨b, 2, none⟩ y2).heap[b]? = some (.cells #[y0, y1, y2, x3] t (0, 0)) := (Joins.block_setCell h1 _).trans rfl; have h3 : ((((w.setCell ⟨b, 0, none⟩ y0).setCell ⟨b, 1, none⟩ y1).setCell ⟨b, 2, none⟩ y2).setCell ⟨b, 3, none⟩ y3).heap[b]? = some (.cells #[y0, y1, y2, y3] t (0, 0)) := (Joins.block_setCell h2 _).trans rfl; exact h3
theorem set_4_kp {b : Nat} {w0 w : World} (hk : Kp w0 w) (hb : w0.heap.size ≤ b) (y0 y1 y2 y3 : Value) : Kp w0 ((((w.setCell ⟨b, 0, none⟩ y0).setCell ⟨b, 1, none⟩ y1).setCell ⟨b, 2, none⟩ y2).setCell ⟨b, 3, none⟩ y3) := by
 refine Below.setCell ?_ hb _
 refine Below.setCell ?_ hb _
 refine Below.setCell ?_ hb _
 refine Below.setCell ?_ hb _
 exact hk
theorem cells_5 {b : Nat} {t : TypeId} {w : World} {x0 x1 x2 x3 x4 : Value} (h : w.heap[b]? = some (.cells #[x0, x1, x2, x3, x4] t (0, 0))) : w.cell? ⟨b, 0, none⟩ = some x0 ∧ w.cell? ⟨b, 1, none⟩ = some x1 ∧ w.cell? ⟨b, 2, none⟩ = some x2 ∧ w.cell? ⟨b, 3, none⟩ = some x3 ∧ w.cell? ⟨b, 4, none⟩ = some x4 := by
 refine ⟨?_, ?_, ?_, ?_, ?_⟩ <;> (unfold World.cell?; dsimp only; rw [h]; rfl)
theorem c8X {b : Nat} {t : TypeId} {w : World} {x0 x1 x2 x3 x4 x5 x6 x7 : Value} (h : w.heap[b]? = some (.cells #[x0, x1, x2, x3, x4, x5, x6, x7] t (0, 0))) : w.cell? ⟨b, 0, none⟩ = some x0 ∧ w.cell? ⟨b, 1, none⟩ = some x1 ∧ w.cell? ⟨b, 2, none⟩ = some x2 ∧ w.cell? ⟨b, 3, none⟩ = some x3 ∧ w.cell? ⟨b, 4, none⟩ = some x4 ∧ w.cell? ⟨b, 5, none⟩ = some x5 ∧ w.cell? ⟨b, 6, none⟩ = some x6 ∧ w.cell? ⟨b, 7, none⟩ = some x7 := by
 refine ⟨?_, ?_, ?_, ?_, ?_, ?_, ?_, ?_⟩ <;> (unfold World.cell?; dsimp only; rw [h]; rfl)
theorem set_8 {b : Nat} {t : TypeId} {w : World} {x0 x1 x2 x3 x4 x5 x6 x7 : Value} (y0 y1 y2 y3 y4 y5 y6 y7 : Value) (h : w.heap[b]? = some (.cells #[x0, x1, x2, x3, x4, x5, x6, x7] t (0, 0))) : ((((((((w.setCell ⟨b, 0, none⟩ y0).setCell ⟨b, 1, none⟩ y1).setCell ⟨b, 2, none⟩ y2).setCell ⟨b, 3, none⟩ y3).setCell ⟨b, 4, none⟩ y4).setCell ⟨b, 5, none⟩ y5).setCell ⟨b, 6, none⟩ y6).setCell ⟨b, 7, none⟩ y7).heap[b]? = some (.cells #[y0, y1, y2, y3, y4, y5, y6, y7] t (0, 0)) := by
 have h0 : (w.setCell ⟨b, 0, none⟩ y0).heap[b]? = some (.cells #[y0, x1, x2, x3, x4, x5, x6, x7] t (0, 0)) := (Joins.block_setCell h _).trans rfl; have h1 : ((w.setCell ⟨b, 0, none⟩ y0).setCell ⟨b, 1, none⟩ y1).heap[b]? = some (.cells #[y0, y1, x2, x3, x4, x5, x6, x7] t (0, 0)) := (Joins.block_setCell h0 _).trans rfl; have h2 : (((w.setCell ⟨b, 0, none⟩ y0).setCell ⟨b, 1, none⟩ y1).setCell ⟨b, 2, none⟩ y2).heap[b]? = some (.cells #[y0, y1, y2, x3, x4, x5, x6, x7] t (0, 0)) := (Joins.block_setCell h1 _).trans rfl; have h3 : ((((w.setCell ⟨b, 0, none⟩ y0).setCell ⟨b, 1, none⟩ y1).setCell ⟨b, 2, none⟩ y2).setCell ⟨b, 3, none⟩ y3).heap[b]? = some (.cells #[y0, y1, y2, y3, x4, x5, x6, x7] t (0, 0)) := (Joins.block_setCell h2 _).trans rfl; have h4 : (((((w.setCell ⟨b, 0, none⟩ y0).setCell ⟨b, 1, none⟩ y1).setCell ⟨b, 2, none⟩ y2).setCell ⟨b, 3, none⟩ y3).setCell ⟨b, 4, none⟩ y4).heap[b]? = some (.cells #[y0, y1, y2, y3, y4, x5, x6, x7] t (0, 0)) := (Joins.block_setCell h3 _).trans rfl
 have h5 : ((((((w.setCell ⟨b, 0, none⟩ y0).setCell ⟨b, 1, none⟩ y1).setCell ⟨b, 2, none⟩ y2).setCell ⟨b, 3, none⟩ y3).setCell ⟨b, 4, none⟩ y4).setCell ⟨b, 5, none⟩ y5).heap[b]? = some (.cells #[y0, y1, y2, y3, y4, y5, x6, x7] t (0, 0)) := (Joins.block_setCell h4 _).trans rfl; have h6 : (((((((w.setCell ⟨b, 0, none⟩ y0).setCell ⟨b, 1, none⟩ y1).setCell ⟨b, 2, none⟩ y2).setCell ⟨b, 3, none⟩ y3).setCell ⟨b, 4, none⟩ y4).setCell ⟨b, 5, none⟩ y5).setCell ⟨b, 6, none⟩ y6).heap[b]? = some (.cells #[y0, y1, y2, y3, y4, y5, y6, x7] t (0, 0)) := (Joins.block_setCell h5 _).trans rfl; have h7 : ((((((((w.setCell ⟨b, 0, none⟩ y0).setCell ⟨b, 1, none⟩ y1).setCell ⟨b, 2, none⟩ y2).setCell ⟨b, 3, none⟩ y3).setCell ⟨b, 4, none⟩ y4).setCell ⟨b, 5, none⟩ y5).setCell ⟨b, 6, none⟩ y6).setCell ⟨b, 7, none⟩ y7).heap[b]? = some (.cells #[y0, y1, y2, y3, y4, y5, y6, y7] t (0, 0)) := (Joins.block_setCell h6 _).trans rfl
 exact h7
theorem set_8_kp {b : Nat} {w0 w : World} (hk : Kp w0 w) (hb : w0.heap.size ≤ b) (y0 y1 y2 y3 y4 y5 y6 y7 : Value) : Kp w0 ((((((((w.setCell ⟨b, 0, none⟩ y0).setCell ⟨b, 1, none⟩ y1).setCell ⟨b, 2, none⟩ y2).setCell ⟨b, 3, none⟩ y3).setCell ⟨b, 4, none⟩ y4).setCell ⟨b, 5, none⟩ y5).setCell ⟨b, 6, none⟩ y6).setCell ⟨b, 7, none⟩ y7) := by
 refine Below.setCell ?_ hb _
 refine Below.setCell ?_ hb _
 refine Below.setCell ?_ hb _
 refine Below.setCell ?_ hb _
 refine Below.setCell ?_ hb _
 refine Below.setCell ?_ hb _
 refine Below.setCell ?_ hb _
 refine Below.setCell ?_ hb _
 exact hk
theorem set_8_ne {b c : Nat} {w : World} {o : Obj} (y0 y1 y2 y3 y4 y5 y6 y7 : Value) (h : w.heap[c]? = some o) (hne : c ≠ b) : ((((((((w.setCell ⟨b, 0, none⟩ y0).setCell ⟨b, 1, none⟩ y1).setCell ⟨b, 2, none⟩ y2).setCell ⟨b, 3, none⟩ y3).setCell ⟨b, 4, none⟩ y4).setCell ⟨b, 5, none⟩ y5).setCell ⟨b, 6, none⟩ y6).setCell ⟨b, 7, none⟩ y7).heap[c]? = some o := by
 rw [bS _ _ _ _ hne, bS _ _ _ _ hne, bS _ _ _ _ hne, bS _ _ _ _ hne, bS _ _ _ _ hne, bS _ _ _ _ hne, bS _ _ _ _ hne, bS _ _ _ _ hne]; exact h
theorem frozN {b : Nat} {t : TypeId} {w : World} {cs : Array Value} (h : w.heap[b]? = some (.cells cs t (0, 0))) (i : Nat) : w.frozen? ⟨b, i, none⟩ = false := by
 unfold World.frozen?; dsimp only; rw [h]
 simp
theorem kp_drewM {a b : World} (h : Kp a b) : Kp a b.drew := ⟨h.os, h.tape, h.output, h.size, h.block⟩
theorem drew_heapM (w : World) : w.drew.heap = w.heap := rfl
theorem refWork_any (z : SeatM) (w : World) : Calls Tryz.prog 126 #[.agg (seatV z)] w fun r w' => r = .returned (.int .i64 z.work) ∧ Kp w w' := by
 obtain ⟨p, e, s, h⟩ := z; dsimp only [seatV]; have KB := hD (kA w (.cells #[p, e, s, h] 93)); have HR := hD (mH w (.cells #[p, e, s, h] 93)); obtain ⟨g0, g1, g2, g3⟩ := cells_4 HR.out
 by_cases he : e = 2
 ·subst he
  by_cases h4 : s = 4
  ·subst h4; (go_enter Tryz.func126, Tryz.ntmps126; go_wp2; go_ret; exact ⟨by first | rfl | (simp [SeatM.work, *]; done), KB.out⟩)
  by_cases h6 : s = 6
  ·subst h6; (go_enter Tryz.func126, Tryz.ntmps126; go_wp2; go_ret; exact ⟨by first | rfl | (simp [SeatM.work, *]; done), KB.out⟩)
  by_cases h2 : s = 2
  ·subst h2; (go_enter Tryz.func126, Tryz.ntmps126; go_wp2; go_ret; exact ⟨by first | rfl | (simp [SeatM.work, *]; done), KB.out⟩)
  by_cases h7 : s = 7
  ·subst h7; (go_enter Tryz.func126, Tryz.ntmps126; go_wp2; go_ret; exact ⟨by first | rfl | (simp [SeatM.work, *]; done), KB.out⟩)
  have b4 : (s == 4) = false := by simpa using h4
  have b6 : (s == 6) = false := by simpa using h6
  have b2 : (s == 2) = false := by simpa using h2
  have b7 : (s == 7) = false := by simpa using h7
  rw [show SeatM.work ⟨p, 2, s, h⟩ = 0 by simp [SeatM.work, h4, h6, h2, h7]]; clear h4 h6 h2 h7
  (go_enter Tryz.func126, Tryz.ntmps126; go_wp2; go_ret; exact ⟨by first | rfl | (simp [SeatM.work, *]; done), KB.out⟩)
 ·rw [show SeatM.work ⟨p, e, s, h⟩ = 0 by simp [SeatM.work, he]]; have be : (e == 2) = false := by simpa using he
  clear he
  (go_enter Tryz.func126, Tryz.ntmps126; go_wp2; go_ret; exact ⟨by first | rfl | (simp [SeatM.work, *]; done), KB.out⟩)
theorem refSeatRt_any (z : SeatM) (w : World) : Calls Tryz.prog 84 #[.agg (seatV z)] w fun r w' => r = .returned (.bool z.right) ∧ Kp w w' := by
 obtain ⟨p, e, s, h⟩ := z; dsimp only [seatV]; have KB := hD (kA w (.cells #[p, e, s, h] 93)); have HR := hD (mH w (.cells #[p, e, s, h] 93)); obtain ⟨g0, g1, g2, g3⟩ := cells_4 HR.out
 cases hr : rightT p e with
 | false =>
  rw [show SeatM.right ⟨p, e, s, h⟩ = false by simp [SeatM.right, hr]]; have hn := of_decide_eq_false hr
  by_cases h1 : p < 1
  ·clear hn hr; (go_enter Tryz.func84, Tryz.ntmps84; go_wp2; go_ret; exact ⟨rfl, KB.out⟩)
  by_cases h2 : p > 2
  ·clear hn hr; (go_enter Tryz.func84, Tryz.ntmps84; go_wp2; go_ret; exact ⟨rfl, KB.out⟩)
  by_cases h3 : e < 1
  ·clear hn hr; (go_enter Tryz.func84, Tryz.ntmps84; go_wp2; go_ret; exact ⟨rfl, KB.out⟩)
  by_cases h4 : e > 2
  ·clear hn hr; (go_enter Tryz.func84, Tryz.ntmps84; go_wp2; go_ret; exact ⟨rfl, KB.out⟩)
  ·exact absurd ⟨by omega, by omega⟩ hn
 | true =>
  have hh := fun w => refHas_any p e s w
  cases hs : hasT p e s with
  | false =>
   rw [hs] at hh; have HH := hD hh; rw [show SeatM.right ⟨p, e, s, h⟩ = false by simp [SeatM.right, hr, hs]]; obtain ⟨hp, he⟩ := of_decide_eq_true hr; clear hr hs hh
   rcases hp with rfl | rfl <;> rcases he with rfl | rfl <;> (go_enter Tryz.func84, Tryz.ntmps84; go_wp2_with (go_at_call 122; (with_reducible refine (HH.out _).mono ?_); rintro e' w' ⟨rfl, rfl⟩); go_ret; exact ⟨rfl, KB.out⟩)
  | true =>
   rw [hs] at hh; have HH := hD hh; have hp := (of_decide_eq_true hr).1; have he := (of_decide_eq_true hr).2
   by_cases h14 : s = 14
   ·subst h14; rw [show SeatM.right ⟨p, e, 14, h⟩ = decide (h = 1 ∨ (4 ≤ h ∧ h ≤ 8)) by simp [SeatM.right, hr, hs]]; clear hr hs hh
    by_cases h1 : h = 1
    ·subst h1
     rcases hp with rfl | rfl <;> rcases he with rfl | rfl <;> (go_enter Tryz.func84, Tryz.ntmps84; go_wp2_with (go_at_call 122; (with_reducible refine (HH.out _).mono ?_); rintro e' w' ⟨rfl, rfl⟩); go_ret; exact ⟨rfl, KB.out⟩)
    ·have b1 : (h == 1) = false := by simpa using h1
     by_cases h4 : 4 ≤ h
     ·by_cases h8 : h ≤ 8
      ·rw [dT (Or.inr (And.intro h4 h8))]; have q4 : decide (h ≥ 4) = true := dT h4; have q8 : decide (h ≤ 8) = true := dT h8
       rcases hp with rfl | rfl <;> rcases he with rfl | rfl <;> (go_enter Tryz.func84, Tryz.ntmps84; go_wp2_with (go_at_call 122; (with_reducible refine (HH.out _).mono ?_); rintro e' w' ⟨rfl, rfl⟩); go_ret; exact ⟨rfl, KB.out⟩)
      ·rw [dF (by omega)]; have q4 : decide (h ≥ 4) = true := dT h4; have q8 : decide (h ≤ 8) = false := dF h8
       rcases hp with rfl | rfl <;> rcases he with rfl | rfl <;> (go_enter Tryz.func84, Tryz.ntmps84; go_wp2_with (go_at_call 122; (with_reducible refine (HH.out _).mono ?_); rintro e' w' ⟨rfl, rfl⟩); go_ret; exact ⟨rfl, KB.out⟩)
     ·rw [dF (by omega)]; have q4 : decide (h ≥ 4) = false := dF h4
      rcases hp with rfl | rfl <;> rcases he with rfl | rfl <;> (go_enter Tryz.func84, Tryz.ntmps84; go_wp2_with (go_at_call 122; (with_reducible refine (HH.out _).mono ?_); rintro e' w' ⟨rfl, rfl⟩); go_ret; exact ⟨rfl, KB.out⟩)
   ·rw [show SeatM.right ⟨p, e, s, h⟩ = (h == 0) by simp [SeatM.right, hr, hs, h14]; rw [Bool.eq_iff_iff]; simp]; have b14 : (s == 14) = false := by simpa using h14
    clear hr hs hh
    rcases hp with rfl | rfl <;> rcases he with rfl | rfl <;> (go_enter Tryz.func84, Tryz.ntmps84; go_wp2_with (go_at_call 122; (with_reducible refine (HH.out _).mono ?_); rintro e' w' ⟨rfl, rfl⟩); go_ret; exact ⟨rfl, KB.out⟩)
theorem msg_fields : Tryz.prog.underlying 26 = some (.struct (Tryz.prog.fieldsOf 26)) := by
 unfold Program.fieldsOf; rw [Tryz.underlying26]
theorem msg_eq (a b : MM) (w : World) : (Op.equalIn 10000 26 (.agg a.cells) (.agg b.cells)).run Tryz.prog w = .ok (decide (a = b)) w := by
 obtain ⟨k, f, t, n, s, r, p, o, c⟩ := a; obtain ⟨k', f', t', n', s', r', p', o', c'⟩ := b; have hm : Tryz.prog.stoodInHeld 26 = false := by kernel_rfl
 have ha : Tryz.prog.stoodInHeld 24 = false := by kernel_rfl
 dsimp only [MM.cells]; rw [show (10000 : Nat) = 9998 + 1 + 1 from rfl, run_equalIn_agg w (9998 + 1) 26 _ _ msg_fields hm]
 simp [Program.fieldsOf, Tryz.underlying26, Tryz.underlying24, Op.eqFields, part, go_sem]
 by_cases h0 : k = k'
 rotate_left
 ·simp [h0]
 subst h0
 by_cases h1 : f = f'
 rotate_left
 ·simp [h1]
 subst h1
 by_cases h2 : t = t'
 rotate_left
 ·simp [h2]
 subst h2
 by_cases h3 : n = n'
 rotate_left
 ·simp [h3]
 subst h3
 by_cases h4 : s = s'
 rotate_left
 ·simp [h4]
 subst h4
 by_cases h5 : r = r'
 rotate_left
 ·simp [h5]
 subst h5
 by_cases h6 : p = p'
 rotate_left
 ·simp [h6]
 subst h6
 by_cases h7 : o = o'
 rotate_left
 ·simp [h7]
 subst h7
 by_cases h8 : c = c'
 rotate_left
 ·simp [h8]
 subst h8
 simp [*]
theorem msg_neq (a b : MM) (w : World) : (binOp .neq 26 (.agg a.cells) (.agg b.cells)).run Tryz.prog w = .ok (.bool (!decide (a = b))) w := by
 rw [run_neq_struct, msg_eq]; rfl
theorem msg_guard (op : BinOp) (x y : Operand) (a b : MM) (w : World) : (eqGuard op 26 x y (.agg a.cells) (.agg b.cells)).run Tryz.prog w = .ok () w := run_eqGuard_agg w op 26 x y _ _ (by kernel_rfl)
theorem refDown8_any (k : Int) (w : World) : Calls Tryz.prog 40 #[.int .i64 k] w fun e w' => e = .returned (.bool (downM k)) ∧ w = w' := by
 by_cases h2 : k = 2
 ·subst h2; rw [show downM 2 = true by decide]
  (go_enter Tryz.func40, Tryz.ntmps40; go_wp2; go_ret; exact ⟨by first | rfl | simp [*], rfl⟩)
 by_cases h9 : 9 ≤ k
 ·by_cases h14 : k ≤ 14
  ·rw [show downM k = true from dT (by omega)]
   (go_enter Tryz.func40, Tryz.ntmps40; go_wp2; go_ret; exact ⟨by first | rfl | simp [*], rfl⟩)
  ·rw [show downM k = false from dF (by omega)]
   (go_enter Tryz.func40, Tryz.ntmps40; go_wp2; go_ret; exact ⟨by first | rfl | simp [*], rfl⟩)
 ·rw [show downM k = false from dF (by omega)]
  (go_enter Tryz.func40, Tryz.ntmps40; go_wp2; go_ret; exact ⟨by first | rfl | simp [*], rfl⟩)
theorem answer_any (m : MM) (x y : Int) (w : World) : Calls Tryz.prog 78 #[.agg m.cells, .int .i64 x, .int .i64 y] w fun e w' => e = .returned (.agg (answerM m x y).cells) ∧ Kp w w' := by
 obtain ⟨k, f, t, n, s, r, p, o, c⟩ := m; dsimp only [MM.cells]; have kb := hD (kA w (.cells #[k, f, t, n, s, r, p, o, c] 26)); have hr := (mH w (.cells #[k, f, t, n, s, r, p, o, c] 26))
 obtain ⟨g0, g1, g2, g3, g4, g5, g6, g7, g8⟩ := cells9 (rZ (kA _ (.cells #[(0:Int), (0:Int), (0:Int), (0:Int), (0:Int), (0:Int), (0:Int), (0:Int), (0:Int)] 26)) hr); go_enter Tryz.func78, Tryz.ntmps78; go_wp2; refine bodyPost_ret (results_cell_row (p := 6) rfl _ _ (w.heap.size + 1) 26 _ (0, 0) _ rfl (nX1 w _ _) Tryz.underlying26 rfl (by kernel_rfl)) rfl ?_
 exact ⟨rfl, kT kb.out (kA _ _)⟩
end Go.Proofs.YtncoofnhifcnhaaGreatDoor
