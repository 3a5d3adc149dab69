/- Parts of this proof (own work). -/
import Derived.Test.YtlmlmhmhgdjhnaaGreatDoorZa03
import Derived.Recover
import Derived.Laws.Pointers
import Derived.StillTailTactics
import Derived.Laws.Cover1
import Derived.Defers
set_option maxRecDepth 100000
set_option maxHeartbeats 40000000
namespace Go.Proofs.YtlmlmhmhgdjhnaaGreatDoor
open Go.RowKit Go.ChangeShapes Go.WideShapes
theorem cells5 {b : Nat} {t : TypeId} {w : World} {x0 x1 x2 x3 x4 : Value} (h : w.heap[b]? = some (.cells #[x0, x1, x2, x3, x4] t (0, 0))) : w.cell? ⟨b, 0, none⟩ = some x0 ∧ w.cell? ⟨b, 1, none⟩ = some x1 ∧ w.cell? ⟨b, 2, none⟩ = some x2 ∧ w.cell? ⟨b, 3, none⟩ = some x3 ∧ w.cell? ⟨b, 4, none⟩ = some x4 := by
 refine ⟨?_, ?_, ?_, ?_, ?_⟩ <;> (unfold World.cell?; dsimp only; rw [h]; rfl)
theorem right_parts9 (c : CX) : rightX c = (rightA c.n c.s && (((c.o == 1) || (c.o == 2)) && (decide (0 ≤ c.d) && (decide (c.d ≤ 3) && (Fl.dl c.x && ((c.x : Int) == ((Fl.plain c.x : Nat) : Int))))))) := by
 unfold rightX outX tmX; have e1 : decide (c.o = 1 ∨ c.o = 2) = ((c.o == 1) || (c.o == 2)) := by
  rw [Bool.eq_iff_iff]; simp
 have e2 : decide (0 ≤ c.d ∧ c.d ≤ 3) = (decide (0 ≤ c.d) && decide (c.d ≤ 3)) := by
  rw [Bool.eq_iff_iff]; simp
 have e3 : decide (Fl.plain c.x = c.x) = ((c.x : Int) == ((Fl.plain c.x : Nat) : Int)) := by
  rw [Bool.eq_iff_iff]; simp; omega
 rw [e1, e2, e3, Bool.and_assoc]
theorem refRight9_any (c : CX) (hc : c.wf) (w : World) :
  Calls Tryz.prog 54 #[.agg c.cells] w fun e w' => e = .returned (.bool (rightX c)) ∧ Kp w w' := by
 rw [right_parts9]; obtain ⟨n, s, o, d, x⟩ := c
 replace hc : x < 18446744073709551616 := hc
 dsimp only [CX.cells]; have HA := fun w1 => refRight_any n s w1
 have HDL := fun w1 => refDelay_any x w1 hc
 have HRW := fun w1 => raw_any x w1
 have HBI := fun w1 => refBits_any x w1 hc
 obtain ⟨x0, hx0⟩ : ∃ b, rightA n s = b := ⟨_, rfl⟩
 obtain ⟨o1, ho1⟩ : ∃ b, (o == 1) = b := ⟨_, rfl⟩
 obtain ⟨o2, ho2⟩ : ∃ b, (o == 2) = b := ⟨_, rfl⟩
 obtain ⟨d1, hd1⟩ : ∃ b, decide (0 ≤ d) = b := ⟨_, rfl⟩
 obtain ⟨d2, hd2⟩ : ∃ b, decide (d ≤ 3) = b := ⟨_, rfl⟩
 obtain ⟨dx, hdx⟩ : ∃ b, Fl.dl x = b := ⟨_, rfl⟩
 obtain ⟨xi, hxi⟩ : ∃ y : Int, (x : Int) = y := ⟨_, rfl⟩
 obtain ⟨pi, hpi⟩ : ∃ y : Int, ((Fl.plain x : Nat) : Int) = y := ⟨_, rfl⟩
 rw [hx0] at HA ⊢; rw [hdx] at HDL ⊢; rw [hxi] at HRW; rw [hpi] at HBI; rw [ho1, ho2, hd1, hd2, hxi, hpi]; obtain ⟨pe, hpe⟩ : ∃ b, (xi == pi) = b := ⟨_, rfl⟩
 rw [hpe]; obtain ⟨HA, HDL, HRW, HBI⟩ := hD4 HA HDL HRW HBI; have kb := kA w (.cells #[n, s, o, d, x] 27); have hr := (mH w (.cells #[n, s, o, d, x] 27))
 clear hx0 hdx hxi hpi hc; go_enter Tryz.func54, Tryz.ntmps54; go_wp2; obtain ⟨w0, hw0⟩ : ∃ y, w.alloc (.cells #[n, s, o, d, x] 27) = y := ⟨_, rfl⟩
 obtain ⟨p0, hp0⟩ : ∃ y, w.heap.size = y := ⟨_, rfl⟩
 rw [hw0] at kb hr ⊢; rw [hp0] at hr ⊢; obtain ⟨b0, b1, b2, b3, b4⟩ := cells5 (hr); have K0 := hD kb; clear hr hw0 kb hp0; refine rgW (fun w' => Kp w0 w') ?_ fun hH => ?_
 ·exact (Kp.refl w0).drew
 refine tkP 0 ?_
 go_simp; refine tkP 1 ?_ (y := by intro w hZ; obtain ⟨qb0, qb1, qb2, qb3, qb4⟩ := kZ5 hZ b0 b1 b2 b3 b4; go_simp; try rfl)
 go_simp; refine rdW 2 fun K hK => ?_
 go_simp; go_wp2_with (go_at_call 98; (with_reducible refine (HA.out _).mono ?_); rintro e w' ⟨rfl, hk4⟩; have K4 := hD (kT hH hk4); clear hk4)
 refine hK.out _ _ (K4.out) fun hH => ?_
 clear hK K; refine tkP 3 ?_
 go_simp
 cases x0 with
 | false =>
  refine skW 4 ?_
  go_simp; refine skW 5 ?_
  go_simp; refine skW 6 ?_
  go_simp; refine skW 7 ?_
  go_simp; refine skW 8 ?_
  go_simp; refine skW 9 ?_
  go_simp; refine skW 10 ?_
  go_simp; refine skW 11 ?_
  go_simp; refine tkP 12 ?_
  go_simp; refine tkP 13 ?_
  go_simp; refine skW 14 ?_
  go_simp; refine skW 15 ?_
  go_simp; refine skW 16 ?_
  go_simp; refine tkP 17 ?_
  go_simp; refine tkP 18 ?_
  go_simp; refine skW 19 ?_
  go_simp; refine skW 20 ?_
  go_simp; refine skW 21 ?_
  go_simp; refine tkP 22 ?_
  go_simp; refine tkP 23 ?_
  go_simp; refine skW 24 ?_
  go_simp; refine skW 25 ?_
  go_simp; refine skW 26 ?_
  go_simp; refine tkP 27 ?_
  go_simp; refine tkP 28 ?_
  go_simp; refine skW 29 ?_
  go_simp; refine skW 30 ?_
  go_simp; refine skW 31 ?_
  go_simp; refine skW 32 ?_
  go_simp; refine skW 33 ?_
  go_simp; refine skW 34 ?_
  go_simp; refine skW 35 ?_
  go_simp; refine tkP 36 ?_
  go_simp; refine tkP 37 ?_
  go_simp; refine dnW ?_ _
  go_wp2; go_ret; exact ⟨by first | rfl | simp, kT K0.out hH⟩
 | true =>
  refine tkP 4 ?_
  go_simp; refine tkP 5 ?_ (y := by intro w hZ; obtain ⟨qb0, qb1, qb2, qb3, qb4⟩ := kZ5 hZ b0 b1 b2 b3 b4; go_simp; try rfl)
  go_simp; refine tkP 6 ?_
  go_simp; refine tkP 7 ?_
  go_simp
  cases o1 with
  | false =>
   refine tkP 8 ?_
   go_simp; refine tkP 9 ?_ (y := by intro w hZ; obtain ⟨qb0, qb1, qb2, qb3, qb4⟩ := kZ5 hZ b0 b1 b2 b3 b4; go_simp; try rfl)
   go_simp; refine tkP 10 ?_
   go_simp; refine tkP 11 ?_
   go_simp; refine tkP 12 ?_
   go_simp; refine tkP 13 ?_
   go_simp
   cases o2 with
   | false =>
    refine skW 14 ?_
    go_simp; refine skW 15 ?_
    go_simp; refine skW 16 ?_
    go_simp; refine tkP 17 ?_
    go_simp; refine tkP 18 ?_
    go_simp; refine skW 19 ?_
    go_simp; refine skW 20 ?_
    go_simp; refine skW 21 ?_
    go_simp; refine tkP 22 ?_
    go_simp; refine tkP 23 ?_
    go_simp; refine skW 24 ?_
    go_simp; refine skW 25 ?_
    go_simp; refine skW 26 ?_
    go_simp; refine tkP 27 ?_
    go_simp; refine tkP 28 ?_
    go_simp; refine skW 29 ?_
    go_simp; refine skW 30 ?_
    go_simp; refine skW 31 ?_
    go_simp; refine skW 32 ?_
    go_simp; refine skW 33 ?_
    go_simp; refine skW 34 ?_
    go_simp; refine skW 35 ?_
    go_simp; refine tkP 36 ?_
    go_simp; refine tkP 37 ?_
    go_simp; refine dnW ?_ _
    go_wp2; go_ret; exact ⟨by first | rfl | simp, kT K0.out hH⟩
   | true =>
    refine tkP 14 ?_
    go_simp; refine tkP 15 ?_ (y := by intro w hZ; obtain ⟨qb0, qb1, qb2, qb3, qb4⟩ := kZ5 hZ b0 b1 b2 b3 b4; go_simp; try rfl)
    go_simp; refine tkP 16 ?_
    go_simp; refine tkP 17 ?_
    go_simp; refine tkP 18 ?_
    go_simp
    cases d1 with
    | false =>
     refine skW 19 ?_
     go_simp; refine skW 20 ?_
     go_simp; refine skW 21 ?_
     go_simp; refine tkP 22 ?_
     go_simp; refine tkP 23 ?_
     go_simp; refine skW 24 ?_
     go_simp; refine skW 25 ?_
     go_simp; refine skW 26 ?_
     go_simp; refine tkP 27 ?_
     go_simp; refine tkP 28 ?_
     go_simp; refine skW 29 ?_
     go_simp; refine skW 30 ?_
     go_simp; refine skW 31 ?_
     go_simp; refine skW 32 ?_
     go_simp; refine skW 33 ?_
     go_simp; refine skW 34 ?_
     go_simp; refine skW 35 ?_
     go_simp; refine tkP 36 ?_
     go_simp; refine tkP 37 ?_
     go_simp; refine dnW ?_ _
     go_wp2; go_ret; exact ⟨by first | rfl | simp, kT K0.out hH⟩
    | true =>
     refine tkP 19 ?_
     go_simp; refine tkP 20 ?_ (y := by intro w hZ; obtain ⟨qb0, qb1, qb2, qb3, qb4⟩ := kZ5 hZ b0 b1 b2 b3 b4; go_simp; try rfl)
     go_simp; refine tkP 21 ?_
     go_simp; refine tkP 22 ?_
     go_simp; refine tkP 23 ?_
     go_simp
     cases d2 with
     | false =>
      refine skW 24 ?_
      go_simp; refine skW 25 ?_
      go_simp; refine skW 26 ?_
      go_simp; refine tkP 27 ?_
      go_simp; refine tkP 28 ?_
      go_simp; refine skW 29 ?_
      go_simp; refine skW 30 ?_
      go_simp; refine skW 31 ?_
      go_simp; refine skW 32 ?_
      go_simp; refine skW 33 ?_
      go_simp; refine skW 34 ?_
      go_simp; refine skW 35 ?_
      go_simp; refine tkP 36 ?_
      go_simp; refine tkP 37 ?_
      go_simp; refine dnW ?_ _
      go_wp2; go_ret; exact ⟨by first | rfl | simp, kT K0.out hH⟩
     | true =>
      refine tkP 24 ?_
      go_simp; refine tkP 25 ?_ (y := by intro w hZ; obtain ⟨qb0, qb1, qb2, qb3, qb4⟩ := kZ5 hZ b0 b1 b2 b3 b4; go_simp; try rfl)
      go_simp; refine rdW 26 fun K hK => ?_
      go_simp; go_wp2_with (go_at_call 99; (with_reducible refine (HDL.out _).mono ?_); rintro e w' ⟨rfl, rfl⟩)
      refine hK.out _ _ (hH) fun hH => ?_
      clear hK K; refine tkP 27 ?_
      go_simp; refine tkP 28 ?_
      go_simp
      cases dx with
      | false =>
       refine skW 29 ?_
       go_simp; refine skW 30 ?_
       go_simp; refine skW 31 ?_
       go_simp; refine skW 32 ?_
       go_simp; refine skW 33 ?_
       go_simp; refine skW 34 ?_
       go_simp; refine skW 35 ?_
       go_simp; refine tkP 36 ?_
       go_simp; refine tkP 37 ?_
       go_simp; refine dnW ?_ _
       go_wp2; go_ret; exact ⟨by first | rfl | simp, kT K0.out hH⟩
      | true =>
       refine tkP 29 ?_
       go_simp; refine tkP 30 ?_ (y := by intro w hZ; obtain ⟨qb0, qb1, qb2, qb3, qb4⟩ := kZ5 hZ b0 b1 b2 b3 b4; go_simp; try rfl)
       go_simp; refine tkP 32 ?_
       go_simp; refine tkP 33 ?_ (y := by intro w hZ; obtain ⟨qb0, qb1, qb2, qb3, qb4⟩ := kZ5 hZ b0 b1 b2 b3 b4; go_simp; try rfl)
       go_simp; refine rdW 31 fun K hK => ?_
       go_simp; go_wp2_with (go_at_call 104; (with_reducible refine (HRW.out _).mono ?_); rintro e w' ⟨rfl, rfl⟩)
       refine hK.out _ _ (hH) fun hH => ?_
       clear hK K; refine rdW 34 fun K hK => ?_
       go_simp; go_wp2_with (go_at_call 45; (with_reducible refine (HBI.out _).mono ?_); rintro e w' ⟨rfl, rfl⟩)
       refine hK.out _ _ (hH) fun hH => ?_
       clear hK K; refine tkP 35 ?_
       go_simp; refine tkP 36 ?_
       go_simp; refine tkP 37 ?_
       go_simp; refine dnW ?_ _
       go_wp2; go_ret; exact ⟨by first | rfl | simp, kT K0.out hH⟩
  | true =>
   refine skW 8 ?_
   go_simp; refine skW 9 ?_
   go_simp; refine skW 10 ?_
   go_simp; refine tkP 11 ?_
   go_simp; refine tkP 12 ?_
   go_simp; refine tkP 13 ?_
   go_simp; refine tkP 14 ?_
   go_simp; refine tkP 15 ?_ (y := by intro w hZ; obtain ⟨qb0, qb1, qb2, qb3, qb4⟩ := kZ5 hZ b0 b1 b2 b3 b4; go_simp; try rfl)
   go_simp; refine tkP 16 ?_
   go_simp; refine tkP 17 ?_
   go_simp; refine tkP 18 ?_
   go_simp
   cases d1 with
   | false =>
    refine skW 19 ?_
    go_simp; refine skW 20 ?_
    go_simp; refine skW 21 ?_
    go_simp; refine tkP 22 ?_
    go_simp; refine tkP 23 ?_
    go_simp; refine skW 24 ?_
    go_simp; refine skW 25 ?_
    go_simp; refine skW 26 ?_
    go_simp; refine tkP 27 ?_
    go_simp; refine tkP 28 ?_
    go_simp; refine skW 29 ?_
    go_simp; refine skW 30 ?_
    go_simp; refine skW 31 ?_
    go_simp; refine skW 32 ?_
    go_simp; refine skW 33 ?_
    go_simp; refine skW 34 ?_
    go_simp; refine skW 35 ?_
    go_simp; refine tkP 36 ?_
    go_simp; refine tkP 37 ?_
    go_simp; refine dnW ?_ _
    go_wp2; go_ret; exact ⟨by first | rfl | simp, kT K0.out hH⟩
   | true =>
    refine tkP 19 ?_
    go_simp; refine tkP 20 ?_ (y := by intro w hZ; obtain ⟨qb0, qb1, qb2, qb3, qb4⟩ := kZ5 hZ b0 b1 b2 b3 b4; go_simp; try rfl)
    go_simp; refine tkP 21 ?_
    go_simp; refine tkP 22 ?_
    go_simp; refine tkP 23 ?_
    go_simp
    cases d2 with
    | false =>
     refine skW 24 ?_
     go_simp; refine skW 25 ?_
     go_simp; refine skW 26 ?_
     go_simp; refine tkP 27 ?_
     go_simp; refine tkP 28 ?_
     go_simp; refine skW 29 ?_
     go_simp; refine skW 30 ?_
     go_simp; refine skW 31 ?_
     go_simp; refine skW 32 ?_
     go_simp; refine skW 33 ?_
     go_simp; refine skW 34 ?_
     go_simp; refine skW 35 ?_
     go_simp; refine tkP 36 ?_
     go_simp; refine tkP 37 ?_
     go_simp; refine dnW ?_ _
     go_wp2; go_ret; exact ⟨by first | rfl | simp, kT K0.out hH⟩
    | true =>
     refine tkP 24 ?_
     go_simp; refine tkP 25 ?_ (y := by intro w hZ; obtain ⟨qb0, qb1, qb2, qb3, qb4⟩ := kZ5 hZ b0 b1 b2 b3 b4; go_simp; try rfl)
     go_simp; refine rdW 26 fun K hK => ?_
     go_simp; go_wp2_with (go_at_call 99; (with_reducible refine (HDL.out _).mono ?_); rintro e w' ⟨rfl, rfl⟩)
     refine hK.out _ _ (hH) fun hH => ?_
     clear hK K; refine tkP 27 ?_
     go_simp; refine tkP 28 ?_
     go_simp
     cases dx with
     | false =>
      refine skW 29 ?_
      go_simp; refine skW 30 ?_
      go_simp; refine skW 31 ?_
      go_simp; refine skW 32 ?_
      go_simp; refine skW 33 ?_
      go_simp; refine skW 34 ?_
      go_simp; refine skW 35 ?_
      go_simp; refine tkP 36 ?_
      go_simp; refine tkP 37 ?_
      go_simp; refine dnW ?_ _
      go_wp2; go_ret; exact ⟨by first | rfl | simp, kT K0.out hH⟩
     | true =>
      refine tkP 29 ?_
      go_simp; refine tkP 30 ?_ (y := by intro w hZ; obtain ⟨qb0, qb1, qb2, qb3, qb4⟩ := kZ5 hZ b0 b1 b2 b3 b4; go_simp; try rfl)
      go_simp; refine tkP 32 ?_
      go_simp; refine tkP 33 ?_ (y := by intro w hZ; obtain ⟨qb0, qb1, qb2, qb3, qb4⟩ := kZ5 hZ b0 b1 b2 b3 b4; go_simp; try rfl)
      go_simp; refine rdW 31 fun K hK => ?_
      go_simp; go_wp2_with (go_at_call 104; (with_reducible refine (HRW.out _).mono ?_); rintro e w' ⟨rfl, rfl⟩)
      refine hK.out _ _ (hH) fun hH => ?_
      clear hK K; refine rdW 34 fun K hK => ?_
      go_simp; go_wp2_with (go_at_call 45; (with_reducible refine (HBI.out _).mono ?_); rintro e w' ⟨rfl, rfl⟩)
      refine hK.out _ _ (hH) fun hH => ?_
      clear hK K; refine tkP 35 ?_
      go_simp; refine tkP 36 ?_
      go_simp; refine tkP 37 ?_
      go_simp; refine dnW ?_ _
      go_wp2; go_ret; exact ⟨by first | rfl | simp, kT K0.out hH⟩
theorem rightX_tm {c : CX} (h : rightX c = true) : tmX c.x = true := by
 unfold rightX at h; simp only [Bool.and_eq_true] at h
 exact h.2.2.2
theorem sF (w : World) (a : Addr) (x : Nat) : (store a (.float .f64 x)).run Tryz.prog w = match w.cell? a with
   | some _ => if w.frozen? a then .halt (.unsupported (.unsafePointer "a write to bytes that a string shares")) w else .ok () (w.setCell a (.float .f64 x))
   | none => match w.farStore Tryz.prog a (.float .f64 x) (Mode.plain == .atomic) with
    | .ok (w', _) => .ok () w'
    | .error h => .halt h w := run_store Tryz.prog w a (.float .f64 x) .plain rfl
open Go.RowKit Go.Extern.Stop Go.Stop Go.Extern
theorem isErrorE (v : Value) (w : World) : (Instr.typeAssert (.iface 283 v) 20 39 true).run Tryz.prog w = .ok (.tuple #[.iface 283 v, .bool true]) w := run_typeAssert_hasB Tryz.underlying39 (by kernel_rfl) v _ w
theorem is_door (w : World) :
  CallsD Tryz.prog 208 #[] .returning w fun e u' w' => e = .returned (.tuple #[]) ∧ u' = .returning ∧ w' = w := by
 refine callsD_of_wpS Tryz.func208 rfl fun c₀ cs hu => ?_
 apply wpS_region
 cases c₀
 simp_all [wpOpsS, go_sem, recoverD, Tryz.ntmps208, bodyPostS, results, Tryz.results208]
theorem cis_of {v t : Value} {b : Bool} {w : World} (h : Calls Tryz.prog 46 #[v, t] w fun e w' => e = .returned (.bool b) ∧ w = w') :
  Calls Tryz.prog 194 #[v, t] w fun e w' => e = .returned (.bool b) ∧ w = w' := by
 go_enter_defers Tryz.func194, Tryz.ntmps194
 go_wp2_with (go_at_call 46; (with_reducible refine h.mono ?_); rintro e w' ⟨rfl, rfl⟩)
 refine leaves_cons (f := 208) (args := #[]) (by simp) (by simp [go_sem]) ?_
 refine (is_door _).mono ?_
 rintro e u' w'' ⟨rfl, rfl, rfl⟩
 simp [Leaves, settle, results, Tryz.results194, go_sem]
theorem named_gen (ads : List Addr) (w : World) (E : Errs gs14 ads w) (v r : Value) (K : Nat) (hK : K ≤ 14)
  (H0 : ∀ (j : Nat) (h : j < ads.length), j < K → ∀ w1, Kp w w1 → Calls Tryz.prog 194 #[v, snt ads[j]] w1 fun e w' => e = .returned (.bool false) ∧ w1 = w')
  (H1 : ∀ (h : K < ads.length), ∀ w1, Kp w w1 → Calls Tryz.prog 194 #[v, snt ads[K]] w1 fun e w' => e = .returned (.bool true) ∧ w1 = w')
  (hr : (∃ h : K < ads.length, r = snt ads[K]) ∨ (K = 14 ∧ ∃ h : 12 < ads.length, r = snt ads[12])) :
  Calls Tryz.prog 160 #[v] w fun e w' => e = .returned r ∧ Kp w w' := by
 match ads, E, H0, H1, hr with
 | [a0, a1, a2, a3, a4, a5, a6, a7, a8, a9, a10, a11, a12, a13], E, H0, H1, hr =>
  have c0 : w.cell? ⟨0, 0, none⟩ = some (.iface 283 (.pointer (some a0))) := E.cell 0 (by decide); have c1 : w.cell? ⟨1, 0, none⟩ = some (.iface 283 (.pointer (some a1))) := E.cell 1 (by decide); have c2 : w.cell? ⟨2, 0, none⟩ = some (.iface 283 (.pointer (some a2))) := E.cell 2 (by decide); have c3 : w.cell? ⟨3, 0, none⟩ = some (.iface 283 (.pointer (some a3))) := E.cell 3 (by decide); have c4 : w.cell? ⟨4, 0, none⟩ = some (.iface 283 (.pointer (some a4))) := E.cell 4 (by decide); have c5 : w.cell? ⟨5, 0, none⟩ = some (.iface 283 (.pointer (some a5))) := E.cell 5 (by decide); have c6 : w.cell? ⟨6, 0, none⟩ = some (.iface 283 (.pointer (some a6))) := E.cell 6 (by decide); have c7 : w.cell? ⟨7, 0, none⟩ = some (.iface 283 (.pointer (some a7))) := E.cell 7 (by decide); have c8 : w.cell? ⟨8, 0, none⟩ = some (.iface 283 (.pointer (some a8))) := E.cell 8 (by decide); have c9 : w.cell? ⟨9, 0, none⟩ = some (.iface 283 (.pointer (some a9))) := E.cell 9 (by decide)
  have c10 : w.cell? ⟨10, 0, none⟩ = some (.iface 283 (.pointer (some a10))) := E.cell 10 (by decide); have c11 : w.cell? ⟨11, 0, none⟩ = some (.iface 283 (.pointer (some a11))) := E.cell 11 (by decide); have c12 : w.cell? ⟨12, 0, none⟩ = some (.iface 283 (.pointer (some a12))) := E.cell 12 (by decide); have c13 : w.cell? ⟨13, 0, none⟩ = some (.iface 283 (.pointer (some a13))) := E.cell 13 (by decide); have hnew : Kp w (w.alloc (.cells #[.iface 283 (.pointer (some a0)), .iface 283 (.pointer (some a1)), .iface 283 (.pointer (some a2)), .iface 283 (.pointer (some a3)), .iface 283 (.pointer (some a4)), .iface 283 (.pointer (some a5)), .iface 283 (.pointer (some a6)), .iface 283 (.pointer (some a7)), .iface 283 (.pointer (some a8)), .iface 283 (.pointer (some a9)), .iface 283 (.pointer (some a10)), .iface 283 (.pointer (some a11)), .iface 283 (.pointer (some a12)), .iface 283 (.pointer (some a13))] 39)) := (Below.refl _ _).alloc (Nat.le_refl _) _
  have hlt : 12 < w.heap.size := E.old.1 12 (by decide); have c12' : (w.alloc (.cells #[.iface 283 (.pointer (some a0)), .iface 283 (.pointer (some a1)), .iface 283 (.pointer (some a2)), .iface 283 (.pointer (some a3)), .iface 283 (.pointer (some a4)), .iface 283 (.pointer (some a5)), .iface 283 (.pointer (some a6)), .iface 283 (.pointer (some a7)), .iface 283 (.pointer (some a8)), .iface 283 (.pointer (some a9)), .iface 283 (.pointer (some a10)), .iface 283 (.pointer (some a11)), .iface 283 (.pointer (some a12)), .iface 283 (.pointer (some a13))] 39)).cell? ⟨12, 0, none⟩ = some (.iface 283 (.pointer (some a12))) := by rw [Below.cell hnew hlt]; exact c12
  obtain ⟨HE, HR, HH0, HH1, HN⟩ := hD5 E hr H0 H1 hnew; clear E hr H0 H1 hnew; go_enter Tryz.func160, Tryz.ntmps160; go_wp2; go_loop [23] (fun i => ∃ j : Nat, j ≤ K ∧ i = .int .i64 j) (fun i => 14 - (intOf i).toNat)
  case atStart => exact ⟨0, Nat.zero_le _, rfl⟩
  case round =>
   obtain ⟨j, hj, rfl⟩ := hrel
   by_cases hj14 : j = 14
   ·subst hj14; obtain rfl : K = 14 := by omega
    go_wp2; go_ret; refine ⟨?_, HN.out⟩
    rcases HR.out with ⟨h, _⟩ | ⟨_, h, rfl⟩
    ·exact absurd h (by simp)
    ·rfl
   ·have hj14' : j < 14 := by omega
    obtain ⟨x, hx⟩ : ∃ x, ([a0, a1, a2, a3, a4, a5, a6, a7, a8, a9, a10, a11, a12, a13] : List Addr)[j]'(by simpa using hj14') = x := ⟨_, rfl⟩
    have hel : (w.alloc (.cells #[.iface 283 (.pointer (some a0)), .iface 283 (.pointer (some a1)), .iface 283 (.pointer (some a2)), .iface 283 (.pointer (some a3)), .iface 283 (.pointer (some a4)), .iface 283 (.pointer (some a5)), .iface 283 (.pointer (some a6)), .iface 283 (.pointer (some a7)), .iface 283 (.pointer (some a8)), .iface 283 (.pointer (some a9)), .iface 283 (.pointer (some a10)), .iface 283 (.pointer (some a11)), .iface 283 (.pointer (some a12)), .iface 283 (.pointer (some a13))] 39)).cell? ⟨w.heap.size, j, none⟩ = some (.iface 283 (.pointer (some x))) := by
     rw [← hx]; exact cells_new w [a0, a1, a2, a3, a4, a5, a6, a7, a8, a9, a10, a11, a12, a13] 39 j (by simpa using hj14')
    by_cases hjk : j = K
    ·subst hjk; have h1 := HH1.out (by simpa using hj14') _ HN.out; rw [hx] at h1; have hrx : r = snt x := by
      rcases HR.out with ⟨h, rfl⟩ | ⟨h, _⟩
      ·rw [hx]
      ·exact absurd h (by omega)
     obtain ⟨HX, HC, HRX⟩ := hD3 hx h1 hrx; clear hx h1 hrx; go_wp2_with (go_at_call 194; (with_reducible refine HC.out.mono ?_); rintro e w' ⟨rfl, rfl⟩)
     go_ret; exact ⟨by rw [HRX.out]; rfl, HN.out⟩
    ·have h0 := HH0.out j (by simpa using hj14') (by omega) _ HN.out; rw [hx] at h0; obtain ⟨HX, HC⟩ := hD2 hx h0; clear hx h0; go_wp2_with (go_at_call 194; (with_reducible refine HC.out.mono ?_); rintro e w' ⟨rfl, rfl⟩)
     go_round
     case rel => exact ⟨j + 1, by omega, by go_num⟩
     case measure => simp [intOf]; omega
theorem named_any (ads : List Addr) (w : World) (V : St ads w) (k : Nat) (hk : k < ads.length) :
  Calls Tryz.prog 160 #[snt ads[k]] w fun e w' => e = .returned (snt ads[k]) ∧ Kp w w' := by
 have hl : ads.length = 14 := V.len; refine named_gen ads w V _ _ k (by omega) (fun j hj hjk w1 hw => ?_) (fun _ w1 hw => ?_) (.inl ⟨hk, rfl⟩)
 ·have V1 := V.below hw; obtain ⟨ca, ta, ra⟩ := V1.row _ (List.getElem_mem hk); obtain ⟨cb, tb, rb⟩ := V1.row _ (List.getElem_mem hj); refine cis_of (is_other _ _ ca cb ta tb w1 (fun e => ?_) ra rb)
  exact List.pairwise_iff_getElem.1 V.nodup j k hj hk hjk e.symm
 ·exact cis_of (is_same _ w1)
theorem errorOf_any (ads : List Addr) (w : World) (V : St ads w) (k : Nat) (hk : k < ads.length) :
  Calls Tryz.prog 115 #[snt ads[k]] w fun e w' => e = .returned (snt ads[k]) ∧ Kp w w' := by
 have hn := named_any ads w V k hk; obtain ⟨r, hr⟩ : ∃ r, ads[k] = r := ⟨_, rfl⟩
 rw [hr] at hn ⊢; have HN := hD hn; have ha := isErrorE (.pointer (some r)) w; clear hn hr; go_enter Tryz.func115, Tryz.ntmps115; go_wp2_with (go_at_call 160; (with_reducible refine HN.out.mono ?_); rintro e w' ⟨rfl, hw⟩)
 go_ret; exact ⟨rfl, hw⟩
theorem panic_some {P : Program} (t : TypeId) (v : Value) (w : World) : (Instr.panic (.iface t v)).run P w = .halt (.panic (.iface t v)) w := rfl
theorem idemand_t (v : Value) (w : World) : Calls Tryz.prog 201 #[.bool true, v] w fun e w' => e = .returned (.tuple #[]) ∧ w = w' := by
 go_enter Tryz.func201, Tryz.ntmps201; go_wp2; go_end0
 exact ⟨rfl, rfl⟩
theorem idemand_f (a : Addr) (w : World) : Calls Tryz.prog 201 #[.bool false, snt a] w fun e w' => e = .panicked [{ v := snt a, recovered := false }] ∧ w = w' := by
 have hpn := panic_some (P := Tryz.prog) 283 (.pointer (some a)) w; go_enter Tryz.func201, Tryz.ntmps201; go_wp2; exact ⟨rfl, rfl, rfl⟩
theorem l0 : (strOfNums []).toList = [] := by rw [Lib.toList_data]; rfl
def PlC (v : Value) (ps : List (Int × Int)) (w : World) : Prop :=
 ∃ g cap, v = .slice (some ⟨g, 0, none⟩) ps.length cap ∧ ∀ j, j < ps.length → w.cell? ⟨g, 2 * j, none⟩ = some (.string (strOfNums [(ps.getD j (0, 0)).1])) ∧ w.cell? ⟨g, 2 * j + 1, none⟩ = some (.int .i64 (ps.getD j (0, 0)).2)
theorem PlC.kp {v : Value} {ps : List (Int × Int)} {w w' : World} (h : PlC v ps w) (hk : Kp w w') : PlC v ps w' := by
 obtain ⟨g, cap, h1, h2⟩ := h; exact ⟨g, cap, h1, fun j hj => ⟨kZ hk (h2 j hj).1, kZ hk (h2 j hj).2⟩⟩
def actL : List (Int × Int) := [(97, 4), (46, 1000000)]
theorem two_pl (w : World) (a b c d : Int) : PlC (.slice (some ⟨w.heap.size, 0, none⟩) 2 2) [(a, b), (c, d)] (w.alloc (.cells #[.string (strOfNums [a]), .int .i64 b, .string (strOfNums [c]), .int .i64 d] 258)) := by
 refine ⟨w.heap.size, 2, rfl, fun j hj => ?_⟩
 have hj1 : j < 2 := hj; have hr := (mH w (.cells #[.string (strOfNums [a]), .int .i64 b, .string (strOfNums [c]), .int .i64 d] 258))
 match j, hj1 with
 | 0, _ | 1, _ => constructor <;> (unfold World.cell?; dsimp only; rw [hr]; rfl)
theorem actPl_own (w : World) : Calls Tryz.prog 175 #[] w fun e w' => e = .returned (.slice (some ⟨w.heap.size, 0, none⟩) 2 2) ∧ w' = w.alloc (.cells #[.string (strOfNums [97]), .int .i64 4, .string (strOfNums [46]), .int .i64 1000000] 258) := by
 go_enter Tryz.func175, Tryz.ntmps175; go_wp2; go_ret; exact ⟨rfl, rfl⟩
theorem actPl_any (w : World) : Calls Tryz.prog 175 #[] w fun e w' => ∃ v, e = .returned v ∧ PlC v actL w' ∧ Kp w w' := by
 refine (actPl_own w).mono ?_
 rintro e w' ⟨rfl, rfl⟩; exact ⟨_, rfl, two_pl w 97 4 46 1000000, kA _ _⟩
def wrU (ps : List (Int × Int)) (ns : List Int) : Nat → List Int
 | 0 => []
 | k + 1 => wrU ps ns k ++ ([(ps.getD k (0, 0)).1] ++ dec (ns.getD k 0).toNat)
def okU (ps : List (Int × Int)) (ns : List Int) : Nat → Bool
 | 0 => true
 | k + 1 => okU ps ns k && decide (0 ≤ ns.getD k 0 ∧ ns.getD k 0 < (ps.getD k (0, 0)).2)
theorem wrU_len (ps : List (Int × Int)) (ns : List Int) : ∀ k, (wrU ps ns k).length ≤ 9 * k
 | 0 => Nat.le_refl _
 | k + 1 => by
  have := wrU_len ps ns k; have h := dec_len (ns.getD k 0).toNat; simp only [wrU, List.length_append, List.length_cons, List.length_nil]
  omega
theorem okU_no {ps : List (Int × Int)} {ns : List Int} : ∀ (k d : Nat), okU ps ns k = false → okU ps ns (k + d) = false
 | _, 0, h => h
 | k, d + 1, h => by
  rw [← Nat.add_assoc, okU, okU_no k d h]
  rfl
theorem write1_any (ads : List Addr) (h0 : 0 < ads.length) (ps : List (Int × Int)) (ns : List Int) (m : Nat) (hm : ps.length = m) (hm2 : ns.length = m) (hm3 : m ≤ 3) (hb : ∀ j, j < m → (ps.getD j (0, 0)).2 ≤ 1000000)
  (B0 B1 : Nat) (gp cp gn cn : Nat) (w : World) (V : St ads w) (T : Tab w) (c0 : w.cell? ⟨B0, 0, none⟩ = some (.slice (some ⟨gp, 0, none⟩) m cp)) (c1 : w.cell? ⟨B1, 0, none⟩ = some (.slice (some ⟨gn, 0, none⟩) m cn))
  (hp : ∀ j, j < m → w.cell? ⟨gp, 2 * j, none⟩ = some (.string (strOfNums [(ps.getD j (0, 0)).1])) ∧ w.cell? ⟨gp, 2 * j + 1, none⟩ = some (.int .i64 (ps.getD j (0, 0)).2))
  (hn : ∀ j, j < m → w.cell? ⟨gn, j, none⟩ = some (.int .i64 (ns.getD j 0))) :
  Calls Tryz.prog 200 #[.pointer (some ⟨B0, 0, none⟩), .pointer (some ⟨B1, 0, none⟩)] w fun e w' =>
   ((okU ps ns m = true ∧ e = .returned (.string (strOfNums (wrU ps ns m)))) ∨ (okU ps ns m = false ∧ e = .panicked [{ v := snt (ads[0]'h0), recovered := false }])) ∧ Kp w w' := by
 have CE := fun w1 (hk : Kp w w1) => kZ hk (V.cell 0 (by decide))
 obtain ⟨a0, ha0⟩ : ∃ a, ads[0]'h0 = a := ⟨_, rfl⟩
 rw [ha0] at CE ⊢
 replace CE : ∀ w1, Kp w w1 → w1.cell? ⟨0, 0, none⟩ = some (snt a0) := CE
 obtain ⟨CE, HT, HP, HN, HB, C0⟩ := hD6 CE T hp hn hb c0; have C1 := hD c1; obtain ⟨L, hL⟩ : ∃ L : Int, (m : Int) = L := ⟨_, rfl⟩
 obtain ⟨HL, HM⟩ := hD2 hL hm3; have l3 : L ≤ 3 := by omega
 clear V T hp hn hb ha0 hm hm2 c1 hm3; go_enter Tryz.func200, Tryz.ntmps200; go_wp2; go_loopw [3, 8] (fun u i wr => ∃ j : Nat, j ≤ m ∧ i = .int .i64 j ∧ u = .string (strOfNums (wrU ps ns j)) ∧ okU ps ns j = true ∧ Kp w wr) (fun _ i _ => m - (intOf i).toNat)
 case atStart => exact ⟨0, Nat.zero_le _, rfl, rfl, rfl, Kp.refl _⟩
 case round =>
  obtain ⟨j, hj, rfl, rfl, hok, hk⟩ := hrel; have KR := hD hk; have c0 := kZ hk C0.out; have c1 := kZ hk C1.out; obtain ⟨jj, hjj⟩ : ∃ jj : Int, (j : Int) = jj := ⟨_, rfl⟩
  rw [hjj]; have hLL := HL.out
  by_cases hlt : j < m
  ·have hjl : jj < L := by omega
   have hj0 : 0 ≤ jj := by omega
   obtain ⟨hp1, hp2⟩ := HP.out j hlt; obtain ⟨hp1, hp2⟩ := kZ2 hk hp1 hp2; have hn1 := kZ hk (HN.out j hlt); have hb1 := HB.out j hlt; have htn : jj.toNat = j := by omega
   obtain ⟨mk, hmk⟩ : ∃ s, strOfNums [(ps.getD j (0, 0)).1] = s := ⟨_, rfl⟩
   obtain ⟨bb, hbb⟩ : ∃ s, (ps.getD j (0, 0)).2 = s := ⟨_, rfl⟩
   obtain ⟨nv, hnv⟩ : ∃ s, ns.getD j 0 = s := ⟨_, rfl⟩
   obtain ⟨uu, huu⟩ : ∃ s, strOfNums (wrU ps ns j) = s := ⟨_, rfl⟩
   rw [hmk] at hp1; rw [hbb] at hp2 hb1; rw [hnv] at hn1; rw [huu]
   replace hp1 : wr.cell? ⟨gp, jj.toNat * 2, none⟩ = some (.string mk) := by rw [htn, Nat.mul_comm]; exact hp1
   replace hp2 : wr.cell? ⟨gp, jj.toNat * 2 + 1, none⟩ = some (.int .i64 bb) := by rw [htn, Nat.mul_comm]; exact hp2
   replace hn1 : wr.cell? ⟨gn, jj.toNat, none⟩ = some (.int .i64 nv) := by rw [htn]; exact hn1
   obtain ⟨HJ, HK, HBB, HNV, HUU, HOK, HLT, HTN⟩ := hD8 hjj hmk hbb hnv huu hok hlt htn; clear hjj hmk hbb hnv huu hok hlt hk hj hLL htn; go_wp2; have k2 := kA wr (.cells #[.string mk, bb] 258); have hr2 := (mH wr (.cells #[.string mk, bb] 258))
   obtain ⟨w2, hw2⟩ : ∃ w2, wr.alloc (.cells #[.string mk, bb] 258) = w2 := ⟨_, rfl⟩
   obtain ⟨p5, hp5⟩ : ∃ p, wr.heap.size = p := ⟨_, rfl⟩
   rw [hw2] at k2 hr2 ⊢; rw [hp5] at hr2 ⊢; obtain ⟨c12, n12⟩ := kZ2 k2 c1 hn1; have f0 : w2.cell? ⟨p5, 0, none⟩ = some (.string mk) := by unfold World.cell?; dsimp only; rw [hr2]; rfl
   have f1 : w2.cell? ⟨p5, 1, none⟩ = some (.int .i64 bb) := by unfold World.cell?; dsimp only; rw [hr2]; rfl
   have ce := CE.out _ (kT KR.out k2); have c12' : w2.drew.cell? ⟨B1, 0, none⟩ = some (.slice (some ⟨gn, 0, none⟩) m cn) := c12; have n12' : w2.drew.cell? ⟨gn, jj.toNat, none⟩ = some (.int .i64 nv) := n12; have f0' : w2.drew.cell? ⟨p5, 0, none⟩ = some (.string mk) := f0; have f1' : w2.drew.cell? ⟨p5, 1, none⟩ = some (.int .i64 bb) := f1; have ce' : w2.drew.cell? ⟨0, 0, none⟩ = some (snt a0) := ce; have K2 := hD (kT KR.out k2); clear hr2 hw2 hp5 k2 hp1 hp2 c0 c1 hn1
   by_cases hg : 0 ≤ nv ∧ nv < bb
   ·have d1 : decide (0 ≤ nv) = true := dT hg.1; have d2 : decide (nv < bb) = true := dT hg.2; have HG := hD hg; have g1 := hg.1; have g2 := hg.2; clear hg; go_still_tail 15, (by kernel_rfl)
    change wpList _ _ _ _ _ w2.drew
    go_wp2_with (go_at_call 201; (with_reducible refine (idemand_t _ _).mono ?_); rintro e w' ⟨rfl, rfl⟩)
    obtain ⟨w3, hw3⟩ : ∃ w3, w2.drew = w3 := ⟨_, rfl⟩
    have K3 := hD (K2.out.drew); rw [hw3] at K3 c12' n12' f0' f1' ⊢; clear c12 n12 f0 f1 ce ce' hw3 f1'; have hd8 := dec_len nv.toNat; have hmk1 : mk.size = 1 := by rw [← HK.out, strOfNums_size]; rfl
    have hu9 : uu.size ≤ 27 := by
     have h1 := wrU_len ps ns j; have h2 := HM.out; have h3 := HLT.out; rw [← HUU.out, strOfNums_size]; omega
    have HI := fun w1 (hk : Kp w3 w1) => itoa_any nv.toNat (by omega) nv (by omega) w1 (HT.out.kp (kT K3.out hk))
    obtain ⟨dd, hdd⟩ : ∃ s, strOfNums (dec nv.toNat) = s := ⟨_, rfl⟩
    rw [hdd] at HI; have HI := hD HI; have hds : dd.size ≤ 8 := by rw [← hdd, strOfNums_size]; exact hd8
    obtain ⟨t1, ht1⟩ : ∃ s, mk ++ dd = s := ⟨_, rfl⟩
    obtain ⟨t2, ht2⟩ : ∃ s, uu ++ t1 = s := ⟨_, rfl⟩
    have HT2 := hD (show strOfNums (wrU ps ns (j + 1)) = t2 by
     rw [← ht2, ← ht1, ← HUU.out, ← HK.out, ← hdd, str_append, str_append, wrU, HNV.out])
    have ht1s : t1.size = mk.size + dd.size := by rw [← ht1, ByteArray.size_append]
    have HS1 := hD (show ¬ 9223372036854775807 < mk.size + dd.size by omega); have HS2 := hD (show ¬ 9223372036854775807 < uu.size + t1.size by omega); obtain ⟨HC1, HC2⟩ := hD2 ht1 ht2; have HG9 := hD (show okU ps ns (j + 1) = true by rw [okU, HOK.out, HNV.out, HBB.out, dT HG.out]; rfl); clear hd8 hmk1 hu9 hdd hds ht1 ht2 ht1s; refine rgW (fun w' => Kp w3 w') ?_ fun hH => ?_
    ·exact (Kp.refl w3).drew
    refine tkP 0 ?_
    go_simp; refine tkP 1 ?_
    go_simp; refine tkP 2 ?_ (y := by intro w hZ; have q := kZ hZ f0'; go_simp; try rfl)
    go_simp; refine tkP 3 ?_ (y := by intro w hZ; have q := kZ hZ c12'; go_simp; try rfl)
    go_simp; refine tkP 4 ?_
    go_simp; refine tkP 5 ?_
    go_simp; refine tkP 6 ?_ (y := by intro w hZ; have q := kZ hZ n12'; go_simp; try rfl)
    go_simp; refine rdW 7 fun K hK => ?_
    go_simp; go_wp2_with (go_at_call 202; (with_reducible refine (HI.out _ hH).mono ?_); rintro e w4 ⟨rfl, hk4⟩; have K4 := hD (kT hH hk4); clear hk4)
    refine hK.out _ _ (K4.out) fun hH => ?_
    clear hK K; refine wpAnyH_take (i := 8) (v := ?_) rfl (by kernel_rfl) (by kernel_rfl) (by kernel_rfl) (fun _ _ _ h => h) (Or.inl ⟨by rfl, ?_⟩) (by assumption) ?_
    rotate_left
    ·intro w hZ; go_simp; rw [if_neg HS1.out, HC1.out]
    go_simp; refine wpAnyH_take (i := 9) (v := ?_) rfl (by kernel_rfl) (by kernel_rfl) (by kernel_rfl) (fun _ _ _ h => h) (Or.inl ⟨by rfl, ?_⟩) (by assumption) ?_
    rotate_left
    ·intro w hZ; go_simp; rw [if_neg HS2.out, HC2.out]
    go_simp; refine tkP 10 ?_
    go_simp; refine dnW ?_ _
    go_wp2; have hj1 : (j : Int) = jj := HJ.out; have hlt1 : j < m := HLT.out; refine ⟨⟨j + 1, hlt1, ?_, ?_, HG9.out, kT K3.out hH⟩, ?_⟩
    ·rw [← hj1]; rfl
    ·rw [HT2.out]
    ·simp [intOf]; omega
   ·have hno : okU ps ns m = false := by
     have e1 : okU ps ns (j + 1) = false := by
      rw [okU, HNV.out, HBB.out, dF hg, Bool.and_false]
     have hlt1 : j < m := HLT.out; have := okU_no (j + 1) (m - (j + 1)) e1; rwa [show j + 1 + (m - (j + 1)) = m by omega] at this
    have HNO := hD hno; clear hno
    by_cases g1 : 0 ≤ nv
    ·have g2 : ¬ nv < bb := fun q => hg ⟨g1, q⟩
     have d1 : decide (0 ≤ nv) = true := dT g1; have d2 : decide (nv < bb) = false := dF g2; clear hg; go_still_tail 15, (by kernel_rfl)
     change wpList _ _ _ _ _ w2.drew
     go_wp2_with (go_at_call 201; (with_reducible refine (idemand_f _ _).mono ?_); rintro e w' ⟨rfl, rfl⟩)
     exact ⟨rfl, .inr ⟨HNO.out, rfl⟩, K2.out.drew⟩
    ·have d1 : decide (0 ≤ nv) = false := dF g1; clear hg; refine rgW (fun w' => Kp w2 w') ?_ fun hH => ?_
     ·exact (Kp.refl w2).drew
     refine tkP 0 ?_ (y := by intro w hZ; have q := kZ hZ c12; go_simp; try rfl)
     go_simp; refine tkP 1 ?_
     go_simp; refine tkP 2 ?_
     go_simp; refine tkP 3 ?_ (y := by intro w hZ; have q := kZ hZ n12; go_simp; try rfl)
     go_simp; refine tkP 4 ?_
     go_simp; refine tkP 5 ?_
     go_simp; refine skW 6 ?_
     go_simp; refine skW 7 ?_
     go_simp; refine skW 8 ?_
     go_simp; refine skW 9 ?_
     go_simp; refine skW 10 ?_
     go_simp; refine skW 11 ?_
     go_simp; refine skW 12 ?_
     go_simp; refine tkP 13 ?_
     go_simp; refine tkP 14 ?_ (y := by intro w hZ; have q := CE.out _ (kT K2.out hZ); go_simp; try rfl)
     go_simp; refine rdW 15 fun K hK => ?_
     go_simp; go_wp2_with (go_at_call 201; (with_reducible refine (idemand_f _ _).mono ?_); rintro e w' ⟨rfl, rfl⟩)
     exact ⟨rfl, .inr ⟨HNO.out, rfl⟩, kT K2.out hH⟩
  ·have hjm : j = m := by omega
   have hjl : ¬ jj < L := by omega
   subst hjm; have HOK := hD hok; clear hjj hlt hk hj hok c0 c1 hLL; go_wp2; go_ret; exact ⟨.inl ⟨HOK.out, rfl⟩, KR.out⟩
def Past (B : Nat) (w w' : World) : Prop := w.heap.size ≤ w'.heap.size ∧ ∀ b, B ≤ b → b < w.heap.size → w'.heap[b]? = w.heap[b]?
def Aside (B : Nat) (w w' : World) : Prop := w.heap.size ≤ w'.heap.size ∧ ∀ b, b ≠ B → b ≠ B + 1 → w'.heap[b]? = w.heap[b]?
theorem Aside.below {B : Nat} {w w' : World} (h : Below B w w') (hs : ∀ b, b ≠ B → b ≠ B + 1 → w'.heap[b]? = w.heap[b]?) : Aside B w w' := ⟨h.size, hs⟩
theorem past_of {w0 w w' : World} (h : Kp w w') : Past w0.heap.size w w' := ⟨Below.size h, fun b _ hb => Below.block h b hb⟩
def Mid (w : World) (G : World → World → Prop) (w' : World) : Prop := ∃ w1 w2, Below w.heap.size w w1 ∧ w1.heap.size = w.heap.size + 2 ∧ G w1 w2 ∧ Below w.heap.size w2 w'
theorem try_new0 (w : World) (o o' : Obj) : ((w.alloc o).alloc o').heap[w.heap.size]? = some o := by
 rw [Below.heap_alloc _ _ _ (by simp)]; exact (mH w o)
theorem try_new1 (w : World) (o o' : Obj) : ((w.alloc o).alloc o').heap[w.heap.size + 1]? = some o' := by
 have := (mH (w.alloc o) o')
 simpa using this
theorem hsO (w : World) (q : Addr) (v : Value) (b : Nat) (h : b ≠ q.block) : (w.setCell q v).heap[b]? = w.heap[b]? := bS w q v b h
end Go.Proofs.YtlmlmhmhgdjhnaaGreatDoor
