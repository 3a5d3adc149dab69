/- Parts of this proof (own work). -/
import Derived.Test.YtpemeenfhkgmpaaGreatDoorZr07
import Derived.Laws.Cover1
set_option maxRecDepth 100000
set_option maxHeartbeats 40000000
namespace Go.Proofs.YtpemeenfhkgmpaaGreatDoor
open Go.RowKit Go.ChangeShapes Go.WideShapes
theorem cells5 {b : Nat} {t : TypeId} {w : World} {x0 x1 x2 x3 x4 : Value} (h : w.heap[b]? = some (.cells #[x0, x1, x2, x3, x4] t (0, 0))) : w.cell? ⟨b, 0, none⟩ = some x0 ∧ w.cell? ⟨b, 1, none⟩ = some x1 ∧ w.cell? ⟨b, 2, none⟩ = some x2 ∧ w.cell? ⟨b, 3, none⟩ = some x3 ∧ w.cell? ⟨b, 4, none⟩ = some x4 := by
 refine ⟨?_, ?_, ?_, ?_, ?_⟩ <;> (unfold World.cell?; dsimp only; rw [h]; rfl)
theorem new5_0 (w : World) (o o' : Obj) : ((w.alloc o).alloc o').heap[w.heap.size]? = some o := by
 rw [Below.heap_alloc _ _ _ (by simp)]; exact (mH w o)
theorem new5_1 (w : World) (o o' : Obj) : ((w.alloc o).alloc o').heap[w.heap.size + 1]? = some o' := by
 have := (mH (w.alloc o) o')
 simpa using this
theorem right_parts9 (c : CX) : rightX c = (rightA c.n c.s && (((c.o == 1) || (c.o == 2)) && (decide (0 ≤ c.d) && (decide (c.d ≤ 3) && (Fl.dl c.x && ((c.x : Int) == ((Fl.plain c.x : Nat) : Int))))))) := by
 unfold rightX outX tmX; have e1 : decide (c.o = 1 ∨ c.o = 2) = ((c.o == 1) || (c.o == 2)) := by
  rw [Bool.eq_iff_iff]; simp
 have e2 : decide (0 ≤ c.d ∧ c.d ≤ 3) = (decide (0 ≤ c.d) && decide (c.d ≤ 3)) := by
  rw [Bool.eq_iff_iff]; simp
 have e3 : decide (Fl.plain c.x = c.x) = ((c.x : Int) == ((Fl.plain c.x : Nat) : Int)) := by
  rw [Bool.eq_iff_iff]; simp; omega
 rw [e1, e2, e3, Bool.and_assoc]
theorem refRight9_any (c : CX) (hc : c.wf) (w : World) :
  Calls Tryz.prog 74 #[.agg c.cells] w fun e w' => e = .returned (.bool (rightX c)) ∧ Kp w w' := by
 rw [right_parts9]; obtain ⟨n, s, o, d, x⟩ := c
 replace hc : x < 18446744073709551616 := hc
 dsimp only [CX.cells]; have HA := fun w1 => refRight_any n s w1
 have HDL := fun w1 => refDelay_any x w1 hc
 have HRW := fun w1 => raw_any x w1
 have HBI := fun w1 => refBits_any x w1 hc
 obtain ⟨x0, hx0⟩ : ∃ b, rightA n s = b := ⟨_, rfl⟩
 obtain ⟨o1, ho1⟩ : ∃ b, (o == 1) = b := ⟨_, rfl⟩
 obtain ⟨o2, ho2⟩ : ∃ b, (o == 2) = b := ⟨_, rfl⟩
 obtain ⟨d1, hd1⟩ : ∃ b, decide (0 ≤ d) = b := ⟨_, rfl⟩
 obtain ⟨d2, hd2⟩ : ∃ b, decide (d ≤ 3) = b := ⟨_, rfl⟩
 obtain ⟨dx, hdx⟩ : ∃ b, Fl.dl x = b := ⟨_, rfl⟩
 obtain ⟨xi, hxi⟩ : ∃ y : Int, (x : Int) = y := ⟨_, rfl⟩
 obtain ⟨pi, hpi⟩ : ∃ y : Int, ((Fl.plain x : Nat) : Int) = y := ⟨_, rfl⟩
 rw [hx0] at HA ⊢; rw [hdx] at HDL ⊢; rw [hxi] at HRW; rw [hpi] at HBI; rw [ho1, ho2, hd1, hd2, hxi, hpi]; obtain ⟨pe, hpe⟩ : ∃ b, (xi == pi) = b := ⟨_, rfl⟩
 rw [hpe]; have HA := hD HA; have HDL := hD HDL; have HRW := hD HRW; have HBI := hD HBI; have kb := kA w (.cells #[n, s, o, d, .float .f64 x] 62); have hr := (mH w (.cells #[n, s, o, d, .float .f64 x] 62))
 clear hx0 hdx hxi hpi hc; go_enter Tryz.func74, Tryz.ntmps74; go_wp2; obtain ⟨w0, hw0⟩ : ∃ y, w.alloc (.cells #[n, s, o, d, .float .f64 x] 62) = y := ⟨_, rfl⟩
 obtain ⟨p0, hp0⟩ : ∃ y, w.heap.size = y := ⟨_, rfl⟩
 rw [hw0] at kb hr ⊢; rw [hp0] at hr ⊢; obtain ⟨b0, b1, b2, b3, b4⟩ := cells5 (hr); have K0 := hD kb; clear hr hw0 kb hp0; refine wp_region_held_drew (S := fun w' => Kp w0 w') (by kernel_rfl) ?_ (fun hH => ?_)
 ·exact (Kp.refl w0).drew
 refine tkW ?_ 0 ?_ ?_; rotate_left
 ·intro w hZ; go_simp; try rfl
 go_simp; refine tkW ?_ 1 ?_ ?_; rotate_left
 ·intro w hZ; have qb0 := kZ hZ b0; have qb1 := kZ hZ b1; have qb2 := kZ hZ b2; have qb3 := kZ hZ b3; have qb4 := kZ hZ b4; go_simp; try rfl
 go_simp; refine rdW 2 fun K hK => ?_
 go_simp; go_wp2_with (go_at_call 73; (with_reducible refine (HA.out _).mono ?_); rintro e w' ⟨rfl, hk4⟩; have K4 := hD (kT hH hk4); clear hk4)
 refine hK.out _ _ ?_ (fun hH => ?_)
 ·exact K4.out
 clear hK K; refine tkW ?_ 3 ?_ ?_; rotate_left
 ·intro w hZ; go_simp; try rfl
 go_simp
 cases x0 with
 | false =>
  refine skW 4 ?_
  go_simp; refine skW 5 ?_
  go_simp; refine skW 6 ?_
  go_simp; refine skW 7 ?_
  go_simp; refine skW 8 ?_
  go_simp; refine skW 9 ?_
  go_simp; refine skW 10 ?_
  go_simp; refine skW 11 ?_
  go_simp; refine tkW ?_ 12 ?_ ?_; rotate_left
  ·intro w hZ; go_simp; try rfl
  go_simp; refine tkW ?_ 13 ?_ ?_; rotate_left
  ·intro w hZ; go_simp; try rfl
  go_simp; refine skW 14 ?_
  go_simp; refine skW 15 ?_
  go_simp; refine skW 16 ?_
  go_simp; refine tkW ?_ 17 ?_ ?_; rotate_left
  ·intro w hZ; go_simp; try rfl
  go_simp; refine tkW ?_ 18 ?_ ?_; rotate_left
  ·intro w hZ; go_simp; try rfl
  go_simp; refine skW 19 ?_
  go_simp; refine skW 20 ?_
  go_simp; refine skW 21 ?_
  go_simp; refine tkW ?_ 22 ?_ ?_; rotate_left
  ·intro w hZ; go_simp; try rfl
  go_simp; refine tkW ?_ 23 ?_ ?_; rotate_left
  ·intro w hZ; go_simp; try rfl
  go_simp; refine skW 24 ?_
  go_simp; refine skW 25 ?_
  go_simp; refine skW 26 ?_
  go_simp; refine tkW ?_ 27 ?_ ?_; rotate_left
  ·intro w hZ; go_simp; try rfl
  go_simp; refine tkW ?_ 28 ?_ ?_; rotate_left
  ·intro w hZ; go_simp; try rfl
  go_simp; refine skW 29 ?_
  go_simp; refine skW 30 ?_
  go_simp; refine skW 31 ?_
  go_simp; refine skW 32 ?_
  go_simp; refine skW 33 ?_
  go_simp; refine skW 34 ?_
  go_simp; refine skW 35 ?_
  go_simp; refine tkW ?_ 36 ?_ ?_; rotate_left
  ·intro w hZ; go_simp; try rfl
  go_simp; refine tkW ?_ 37 ?_ ?_; rotate_left
  ·intro w hZ; go_simp; try rfl
  go_simp; refine wpAnyH_done (by kernel_rfl) ?_ _
  go_wp2; go_ret; exact ⟨by first | rfl | simp, kT K0.out hH⟩
 | true =>
  refine tkW ?_ 4 ?_ ?_; rotate_left
  ·intro w hZ; go_simp; try rfl
  go_simp; refine tkW ?_ 5 ?_ ?_; rotate_left
  ·intro w hZ; have qb0 := kZ hZ b0; have qb1 := kZ hZ b1; have qb2 := kZ hZ b2; have qb3 := kZ hZ b3; have qb4 := kZ hZ b4; go_simp; try rfl
  go_simp; refine tkW ?_ 6 ?_ ?_; rotate_left
  ·intro w hZ; go_simp; try rfl
  go_simp; refine tkW ?_ 7 ?_ ?_; rotate_left
  ·intro w hZ; go_simp; try rfl
  go_simp
  cases o1 with
  | false =>
   refine tkW ?_ 8 ?_ ?_; rotate_left
   ·intro w hZ; go_simp; try rfl
   go_simp; refine tkW ?_ 9 ?_ ?_; rotate_left
   ·intro w hZ; have qb0 := kZ hZ b0; have qb1 := kZ hZ b1; have qb2 := kZ hZ b2; have qb3 := kZ hZ b3; have qb4 := kZ hZ b4; go_simp; try rfl
   go_simp; refine tkW ?_ 10 ?_ ?_; rotate_left
   ·intro w hZ; go_simp; try rfl
   go_simp; refine tkW ?_ 11 ?_ ?_; rotate_left
   ·intro w hZ; go_simp; try rfl
   go_simp; refine tkW ?_ 12 ?_ ?_; rotate_left
   ·intro w hZ; go_simp; try rfl
   go_simp; refine tkW ?_ 13 ?_ ?_; rotate_left
   ·intro w hZ; go_simp; try rfl
   go_simp
   cases o2 with
   | false =>
    refine skW 14 ?_
    go_simp; refine skW 15 ?_
    go_simp; refine skW 16 ?_
    go_simp; refine tkW ?_ 17 ?_ ?_; rotate_left
    ·intro w hZ; go_simp; try rfl
    go_simp; refine tkW ?_ 18 ?_ ?_; rotate_left
    ·intro w hZ; go_simp; try rfl
    go_simp; refine skW 19 ?_
    go_simp; refine skW 20 ?_
    go_simp; refine skW 21 ?_
    go_simp; refine tkW ?_ 22 ?_ ?_; rotate_left
    ·intro w hZ; go_simp; try rfl
    go_simp; refine tkW ?_ 23 ?_ ?_; rotate_left
    ·intro w hZ; go_simp; try rfl
    go_simp; refine skW 24 ?_
    go_simp; refine skW 25 ?_
    go_simp; refine skW 26 ?_
    go_simp; refine tkW ?_ 27 ?_ ?_; rotate_left
    ·intro w hZ; go_simp; try rfl
    go_simp; refine tkW ?_ 28 ?_ ?_; rotate_left
    ·intro w hZ; go_simp; try rfl
    go_simp; refine skW 29 ?_
    go_simp; refine skW 30 ?_
    go_simp; refine skW 31 ?_
    go_simp; refine skW 32 ?_
    go_simp; refine skW 33 ?_
    go_simp; refine skW 34 ?_
    go_simp; refine skW 35 ?_
    go_simp; refine tkW ?_ 36 ?_ ?_; rotate_left
    ·intro w hZ; go_simp; try rfl
    go_simp; refine tkW ?_ 37 ?_ ?_; rotate_left
    ·intro w hZ; go_simp; try rfl
    go_simp; refine wpAnyH_done (by kernel_rfl) ?_ _
    go_wp2; go_ret; exact ⟨by first | rfl | simp, kT K0.out hH⟩
   | true =>
    refine tkW ?_ 14 ?_ ?_; rotate_left
    ·intro w hZ; go_simp; try rfl
    go_simp; refine tkW ?_ 15 ?_ ?_; rotate_left
    ·intro w hZ; have qb0 := kZ hZ b0; have qb1 := kZ hZ b1; have qb2 := kZ hZ b2; have qb3 := kZ hZ b3; have qb4 := kZ hZ b4; go_simp; try rfl
    go_simp; refine tkW ?_ 16 ?_ ?_; rotate_left
    ·intro w hZ; go_simp; try rfl
    go_simp; refine tkW ?_ 17 ?_ ?_; rotate_left
    ·intro w hZ; go_simp; try rfl
    go_simp; refine tkW ?_ 18 ?_ ?_; rotate_left
    ·intro w hZ; go_simp; try rfl
    go_simp
    cases d1 with
    | false =>
     refine skW 19 ?_
     go_simp; refine skW 20 ?_
     go_simp; refine skW 21 ?_
     go_simp; refine tkW ?_ 22 ?_ ?_; rotate_left
     ·intro w hZ; go_simp; try rfl
     go_simp; refine tkW ?_ 23 ?_ ?_; rotate_left
     ·intro w hZ; go_simp; try rfl
     go_simp; refine skW 24 ?_
     go_simp; refine skW 25 ?_
     go_simp; refine skW 26 ?_
     go_simp; refine tkW ?_ 27 ?_ ?_; rotate_left
     ·intro w hZ; go_simp; try rfl
     go_simp; refine tkW ?_ 28 ?_ ?_; rotate_left
     ·intro w hZ; go_simp; try rfl
     go_simp; refine skW 29 ?_
     go_simp; refine skW 30 ?_
     go_simp; refine skW 31 ?_
     go_simp; refine skW 32 ?_
     go_simp; refine skW 33 ?_
     go_simp; refine skW 34 ?_
     go_simp; refine skW 35 ?_
     go_simp; refine tkW ?_ 36 ?_ ?_; rotate_left
     ·intro w hZ; go_simp; try rfl
     go_simp; refine tkW ?_ 37 ?_ ?_; rotate_left
     ·intro w hZ; go_simp; try rfl
     go_simp; refine wpAnyH_done (by kernel_rfl) ?_ _
     go_wp2; go_ret; exact ⟨by first | rfl | simp, kT K0.out hH⟩
    | true =>
     refine tkW ?_ 19 ?_ ?_; rotate_left
     ·intro w hZ; go_simp; try rfl
     go_simp; refine tkW ?_ 20 ?_ ?_; rotate_left
     ·intro w hZ; have qb0 := kZ hZ b0; have qb1 := kZ hZ b1; have qb2 := kZ hZ b2; have qb3 := kZ hZ b3; have qb4 := kZ hZ b4; go_simp; try rfl
     go_simp; refine tkW ?_ 21 ?_ ?_; rotate_left
     ·intro w hZ; go_simp; try rfl
     go_simp; refine tkW ?_ 22 ?_ ?_; rotate_left
     ·intro w hZ; go_simp; try rfl
     go_simp; refine tkW ?_ 23 ?_ ?_; rotate_left
     ·intro w hZ; go_simp; try rfl
     go_simp
     cases d2 with
     | false =>
      refine skW 24 ?_
      go_simp; refine skW 25 ?_
      go_simp; refine skW 26 ?_
      go_simp; refine tkW ?_ 27 ?_ ?_; rotate_left
      ·intro w hZ; go_simp; try rfl
      go_simp; refine tkW ?_ 28 ?_ ?_; rotate_left
      ·intro w hZ; go_simp; try rfl
      go_simp; refine skW 29 ?_
      go_simp; refine skW 30 ?_
      go_simp; refine skW 31 ?_
      go_simp; refine skW 32 ?_
      go_simp; refine skW 33 ?_
      go_simp; refine skW 34 ?_
      go_simp; refine skW 35 ?_
      go_simp; refine tkW ?_ 36 ?_ ?_; rotate_left
      ·intro w hZ; go_simp; try rfl
      go_simp; refine tkW ?_ 37 ?_ ?_; rotate_left
      ·intro w hZ; go_simp; try rfl
      go_simp; refine wpAnyH_done (by kernel_rfl) ?_ _
      go_wp2; go_ret; exact ⟨by first | rfl | simp, kT K0.out hH⟩
     | true =>
      refine tkW ?_ 24 ?_ ?_; rotate_left
      ·intro w hZ; go_simp; try rfl
      go_simp; refine tkW ?_ 25 ?_ ?_; rotate_left
      ·intro w hZ; have qb0 := kZ hZ b0; have qb1 := kZ hZ b1; have qb2 := kZ hZ b2; have qb3 := kZ hZ b3; have qb4 := kZ hZ b4; go_simp; try rfl
      go_simp; refine rdW 26 fun K hK => ?_
      go_simp; go_wp2_with (go_at_call 121; (with_reducible refine (HDL.out _).mono ?_); rintro e w' ⟨rfl, rfl⟩)
      refine hK.out _ _ ?_ (fun hH => ?_)
      ·exact hH
      clear hK K; refine tkW ?_ 27 ?_ ?_; rotate_left
      ·intro w hZ; go_simp; try rfl
      go_simp; refine tkW ?_ 28 ?_ ?_; rotate_left
      ·intro w hZ; go_simp; try rfl
      go_simp
      cases dx with
      | false =>
       refine skW 29 ?_
       go_simp; refine skW 30 ?_
       go_simp; refine skW 31 ?_
       go_simp; refine skW 32 ?_
       go_simp; refine skW 33 ?_
       go_simp; refine skW 34 ?_
       go_simp; refine skW 35 ?_
       go_simp; refine tkW ?_ 36 ?_ ?_; rotate_left
       ·intro w hZ; go_simp; try rfl
       go_simp; refine tkW ?_ 37 ?_ ?_; rotate_left
       ·intro w hZ; go_simp; try rfl
       go_simp; refine wpAnyH_done (by kernel_rfl) ?_ _
       go_wp2; go_ret; exact ⟨by first | rfl | simp, kT K0.out hH⟩
      | true =>
       refine tkW ?_ 29 ?_ ?_; rotate_left
       ·intro w hZ; go_simp; try rfl
       go_simp; refine tkW ?_ 30 ?_ ?_; rotate_left
       ·intro w hZ; have qb0 := kZ hZ b0; have qb1 := kZ hZ b1; have qb2 := kZ hZ b2; have qb3 := kZ hZ b3; have qb4 := kZ hZ b4; go_simp; try rfl
       go_simp; refine tkW ?_ 32 ?_ ?_; rotate_left
       ·intro w hZ; go_simp; try rfl
       go_simp; refine tkW ?_ 33 ?_ ?_; rotate_left
       ·intro w hZ; have qb0 := kZ hZ b0; have qb1 := kZ hZ b1; have qb2 := kZ hZ b2; have qb3 := kZ hZ b3; have qb4 := kZ hZ b4; go_simp; try rfl
       go_simp; refine rdW 31 fun K hK => ?_
       go_simp; go_wp2_with (go_at_call 77; (with_reducible refine (HRW.out _).mono ?_); rintro e w' ⟨rfl, rfl⟩)
       refine hK.out _ _ ?_ (fun hH => ?_)
       ·exact hH
       clear hK K; refine rdW 34 fun K hK => ?_
       go_simp; go_wp2_with (go_at_call 44; (with_reducible refine (HBI.out _).mono ?_); rintro e w' ⟨rfl, rfl⟩)
       refine hK.out _ _ ?_ (fun hH => ?_)
       ·exact hH
       clear hK K; refine tkW ?_ 35 ?_ ?_; rotate_left
       ·intro w hZ; go_simp; try rfl
       go_simp; refine tkW ?_ 36 ?_ ?_; rotate_left
       ·intro w hZ; go_simp; try rfl
       go_simp; refine tkW ?_ 37 ?_ ?_; rotate_left
       ·intro w hZ; go_simp; try rfl
       go_simp; refine wpAnyH_done (by kernel_rfl) ?_ _
       go_wp2; go_ret; exact ⟨by first | rfl | simp, kT K0.out hH⟩
  | true =>
   refine skW 8 ?_
   go_simp; refine skW 9 ?_
   go_simp; refine skW 10 ?_
   go_simp; refine tkW ?_ 11 ?_ ?_; rotate_left
   ·intro w hZ; go_simp; try rfl
   go_simp; refine tkW ?_ 12 ?_ ?_; rotate_left
   ·intro w hZ; go_simp; try rfl
   go_simp; refine tkW ?_ 13 ?_ ?_; rotate_left
   ·intro w hZ; go_simp; try rfl
   go_simp; refine tkW ?_ 14 ?_ ?_; rotate_left
   ·intro w hZ; go_simp; try rfl
   go_simp; refine tkW ?_ 15 ?_ ?_; rotate_left
   ·intro w hZ; have qb0 := kZ hZ b0; have qb1 := kZ hZ b1; have qb2 := kZ hZ b2; have qb3 := kZ hZ b3; have qb4 := kZ hZ b4; go_simp; try rfl
   go_simp; refine tkW ?_ 16 ?_ ?_; rotate_left
   ·intro w hZ; go_simp; try rfl
   go_simp; refine tkW ?_ 17 ?_ ?_; rotate_left
   ·intro w hZ; go_simp; try rfl
   go_simp; refine tkW ?_ 18 ?_ ?_; rotate_left
   ·intro w hZ; go_simp; try rfl
   go_simp
   cases d1 with
   | false =>
    refine skW 19 ?_
    go_simp; refine skW 20 ?_
    go_simp; refine skW 21 ?_
    go_simp; refine tkW ?_ 22 ?_ ?_; rotate_left
    ·intro w hZ; go_simp; try rfl
    go_simp; refine tkW ?_ 23 ?_ ?_; rotate_left
    ·intro w hZ; go_simp; try rfl
    go_simp; refine skW 24 ?_
    go_simp; refine skW 25 ?_
    go_simp; refine skW 26 ?_
    go_simp; refine tkW ?_ 27 ?_ ?_; rotate_left
    ·intro w hZ; go_simp; try rfl
    go_simp; refine tkW ?_ 28 ?_ ?_; rotate_left
    ·intro w hZ; go_simp; try rfl
    go_simp; refine skW 29 ?_
    go_simp; refine skW 30 ?_
    go_simp; refine skW 31 ?_
    go_simp; refine skW 32 ?_
    go_simp; refine skW 33 ?_
    go_simp; refine skW 34 ?_
    go_simp; refine skW 35 ?_
    go_simp; refine tkW ?_ 36 ?_ ?_; rotate_left
    ·intro w hZ; go_simp; try rfl
    go_simp; refine tkW ?_ 37 ?_ ?_; rotate_left
    ·intro w hZ; go_simp; try rfl
    go_simp; refine wpAnyH_done (by kernel_rfl) ?_ _
    go_wp2; go_ret; exact ⟨by first | rfl | simp, kT K0.out hH⟩
   | true =>
    refine tkW ?_ 19 ?_ ?_; rotate_left
    ·intro w hZ; go_simp; try rfl
    go_simp; refine tkW ?_ 20 ?_ ?_; rotate_left
    ·intro w hZ; have qb0 := kZ hZ b0; have qb1 := kZ hZ b1; have qb2 := kZ hZ b2; have qb3 := kZ hZ b3; have qb4 := kZ hZ b4; go_simp; try rfl
    go_simp; refine tkW ?_ 21 ?_ ?_; rotate_left
    ·intro w hZ; go_simp; try rfl
    go_simp; refine tkW ?_ 22 ?_ ?_; rotate_left
    ·intro w hZ; go_simp; try rfl
    go_simp; refine tkW ?_ 23 ?_ ?_; rotate_left
    ·intro w hZ; go_simp; try rfl
    go_simp
    cases d2 with
    | false =>
     refine skW 24 ?_
     go_simp; refine skW 25 ?_
     go_simp; refine skW 26 ?_
     go_simp; refine tkW ?_ 27 ?_ ?_; rotate_left
     ·intro w hZ; go_simp; try rfl
     go_simp; refine tkW ?_ 28 ?_ ?_; rotate_left
     ·intro w hZ; go_simp; try rfl
     go_simp; refine skW 29 ?_
     go_simp; refine skW 30 ?_
     go_simp; refine skW 31 ?_
     go_simp; refine skW 32 ?_
     go_simp; refine skW 33 ?_
     go_simp; refine skW 34 ?_
     go_simp; refine skW 35 ?_
     go_simp; refine tkW ?_ 36 ?_ ?_; rotate_left
     ·intro w hZ; go_simp; try rfl
     go_simp; refine tkW ?_ 37 ?_ ?_; rotate_left
     ·intro w hZ; go_simp; try rfl
     go_simp; refine wpAnyH_done (by kernel_rfl) ?_ _
     go_wp2; go_ret; exact ⟨by first | rfl | simp, kT K0.out hH⟩
    | true =>
     refine tkW ?_ 24 ?_ ?_; rotate_left
     ·intro w hZ; go_simp; try rfl
     go_simp; refine tkW ?_ 25 ?_ ?_; rotate_left
     ·intro w hZ; have qb0 := kZ hZ b0; have qb1 := kZ hZ b1; have qb2 := kZ hZ b2; have qb3 := kZ hZ b3; have qb4 := kZ hZ b4; go_simp; try rfl
     go_simp; refine rdW 26 fun K hK => ?_
     go_simp; go_wp2_with (go_at_call 121; (with_reducible refine (HDL.out _).mono ?_); rintro e w' ⟨rfl, rfl⟩)
     refine hK.out _ _ ?_ (fun hH => ?_)
     ·exact hH
     clear hK K; refine tkW ?_ 27 ?_ ?_; rotate_left
     ·intro w hZ; go_simp; try rfl
     go_simp; refine tkW ?_ 28 ?_ ?_; rotate_left
     ·intro w hZ; go_simp; try rfl
     go_simp
     cases dx with
     | false =>
      refine skW 29 ?_
      go_simp; refine skW 30 ?_
      go_simp; refine skW 31 ?_
      go_simp; refine skW 32 ?_
      go_simp; refine skW 33 ?_
      go_simp; refine skW 34 ?_
      go_simp; refine skW 35 ?_
      go_simp; refine tkW ?_ 36 ?_ ?_; rotate_left
      ·intro w hZ; go_simp; try rfl
      go_simp; refine tkW ?_ 37 ?_ ?_; rotate_left
      ·intro w hZ; go_simp; try rfl
      go_simp; refine wpAnyH_done (by kernel_rfl) ?_ _
      go_wp2; go_ret; exact ⟨by first | rfl | simp, kT K0.out hH⟩
     | true =>
      refine tkW ?_ 29 ?_ ?_; rotate_left
      ·intro w hZ; go_simp; try rfl
      go_simp; refine tkW ?_ 30 ?_ ?_; rotate_left
      ·intro w hZ; have qb0 := kZ hZ b0; have qb1 := kZ hZ b1; have qb2 := kZ hZ b2; have qb3 := kZ hZ b3; have qb4 := kZ hZ b4; go_simp; try rfl
      go_simp; refine tkW ?_ 32 ?_ ?_; rotate_left
      ·intro w hZ; go_simp; try rfl
      go_simp; refine tkW ?_ 33 ?_ ?_; rotate_left
      ·intro w hZ; have qb0 := kZ hZ b0; have qb1 := kZ hZ b1; have qb2 := kZ hZ b2; have qb3 := kZ hZ b3; have qb4 := kZ hZ b4; go_simp; try rfl
      go_simp; refine rdW 31 fun K hK => ?_
      go_simp; go_wp2_with (go_at_call 77; (with_reducible refine (HRW.out _).mono ?_); rintro e w' ⟨rfl, rfl⟩)
      refine hK.out _ _ ?_ (fun hH => ?_)
      ·exact hH
      clear hK K; refine rdW 34 fun K hK => ?_
      go_simp; go_wp2_with (go_at_call 44; (with_reducible refine (HBI.out _).mono ?_); rintro e w' ⟨rfl, rfl⟩)
      refine hK.out _ _ ?_ (fun hH => ?_)
      ·exact hH
      clear hK K; refine tkW ?_ 35 ?_ ?_; rotate_left
      ·intro w hZ; go_simp; try rfl
      go_simp; refine tkW ?_ 36 ?_ ?_; rotate_left
      ·intro w hZ; go_simp; try rfl
      go_simp; refine tkW ?_ 37 ?_ ?_; rotate_left
      ·intro w hZ; go_simp; try rfl
      go_simp; refine wpAnyH_done (by kernel_rfl) ?_ _
      go_wp2; go_ret; exact ⟨by first | rfl | simp, kT K0.out hH⟩
theorem same_parts9 (a b : CX) : sameX a b = ((a.n == b.n) && ((a.s == b.s) && ((a.o == b.o) && ((a.d == b.d) && (((Fl.plain a.x : Nat) : Int) == ((Fl.plain b.x : Nat) : Int)))))) := by
 unfold sameX; rw [Bool.eq_iff_iff]; simp only [Bool.and_eq_true, decide_eq_true_eq, beq_iff_eq]
 constructor
 ·rintro ⟨⟨h1, h2, h3, h4⟩, h5⟩; exact ⟨h1, h2, h3, h4, by omega⟩
 ·rintro ⟨h1, h2, h3, h4, h5⟩; exact ⟨⟨h1, h2, h3, h4⟩, by omega⟩
theorem refSame9_any (a c : CX) (ha : a.wf) (hc : c.wf) (w : World) :
  Calls Tryz.prog 79 #[.agg a.cells, .agg c.cells] w fun e w' => e = .returned (.bool (sameX a c)) ∧ Kp w w' := by
 rw [same_parts9]; obtain ⟨n, s, o, d, x⟩ := a; obtain ⟨n2, s2, o2, d2, x2⟩ := c
 replace ha : x < 18446744073709551616 := ha
 replace hc : x2 < 18446744073709551616 := hc
 dsimp only [CX.cells]; have HB1 := fun w1 => refBits_any x w1 ha
 have HB2 := fun w1 => refBits_any x2 w1 hc
 obtain ⟨e0, h0⟩ : ∃ b, (n == n2) = b := ⟨_, rfl⟩
 obtain ⟨e1, h1⟩ : ∃ b, (s == s2) = b := ⟨_, rfl⟩
 obtain ⟨e2, h2⟩ : ∃ b, (o == o2) = b := ⟨_, rfl⟩
 obtain ⟨e3, h3⟩ : ∃ b, (d == d2) = b := ⟨_, rfl⟩
 obtain ⟨xi, hxi⟩ : ∃ y : Int, ((Fl.plain x : Nat) : Int) = y := ⟨_, rfl⟩
 obtain ⟨yi, hyi⟩ : ∃ y : Int, ((Fl.plain x2 : Nat) : Int) = y := ⟨_, rfl⟩
 rw [hxi] at HB1; rw [hyi] at HB2; rw [h0, h1, h2, h3, hxi, hyi]; obtain ⟨pe, hpe⟩ : ∃ b, (xi == yi) = b := ⟨_, rfl⟩
 rw [hpe]; have HB1 := hD HB1; have HB2 := hD HB2; have kb := kT (kA w (.cells #[n, s, o, d, .float .f64 x] 62)) (kA (w.alloc (.cells #[n, s, o, d, .float .f64 x] 62)) (.cells #[n2, s2, o2, d2, .float .f64 x2] 62)); have hr := new5_0 w (.cells #[n, s, o, d, .float .f64 x] 62) (.cells #[n2, s2, o2, d2, .float .f64 x2] 62); have ht := new5_1 w (.cells #[n, s, o, d, .float .f64 x] 62) (.cells #[n2, s2, o2, d2, .float .f64 x2] 62); clear hxi hyi ha hc; go_enter Tryz.func79, Tryz.ntmps79; go_wp2; obtain ⟨w0, hw0⟩ : ∃ y, (w.alloc (.cells #[n, s, o, d, .float .f64 x] 62)).alloc (.cells #[n2, s2, o2, d2, .float .f64 x2] 62) = y := ⟨_, rfl⟩
 obtain ⟨p1, hp1⟩ : ∃ y, w.heap.size + 1 = y := ⟨_, rfl⟩
 rw [hw0] at kb hr ht ⊢; rw [hp1] at ht ⊢; obtain ⟨p0, hp0⟩ : ∃ y, w.heap.size = y := ⟨_, rfl⟩
 rw [hp0] at hr ⊢; obtain ⟨b0, b1, b2, b3, b4⟩ := cells5 (hr); obtain ⟨c0, c1, c2, c3, c4⟩ := cells5 (ht); have K0 := hD kb; clear hr ht hw0 kb hp0 hp1; refine wp_region_held_drew (S := fun w' => Kp w0 w') (by kernel_rfl) ?_ (fun hH => ?_)
 ·exact (Kp.refl w0).drew
 refine tkW ?_ 0 ?_ ?_; rotate_left
 ·intro w hZ; go_simp; try rfl
 go_simp; refine tkW ?_ 1 ?_ ?_; rotate_left
 ·intro w hZ; go_simp; try rfl
 go_simp; refine tkW ?_ 2 ?_ ?_; rotate_left
 ·intro w hZ; have qb0 := kZ hZ b0; have qb1 := kZ hZ b1; have qb2 := kZ hZ b2; have qb3 := kZ hZ b3; have qb4 := kZ hZ b4; go_simp; try rfl
 go_simp; refine tkW ?_ 3 ?_ ?_; rotate_left
 ·intro w hZ; go_simp; try rfl
 go_simp; refine tkW ?_ 4 ?_ ?_; rotate_left
 ·intro w hZ; go_simp; try rfl
 go_simp; refine tkW ?_ 5 ?_ ?_; rotate_left
 ·intro w hZ; have qc0 := kZ hZ c0; have qc1 := kZ hZ c1; have qc2 := kZ hZ c2; have qc3 := kZ hZ c3; have qc4 := kZ hZ c4; go_simp; try rfl
 go_simp; refine tkW ?_ 6 ?_ ?_; rotate_left
 ·intro w hZ; go_simp; try rfl
 go_simp; refine tkW ?_ 7 ?_ ?_; rotate_left
 ·intro w hZ; go_simp; try rfl
 go_simp
 cases e0 with
 | false =>
  refine skW 8 ?_
  go_simp; refine skW 9 ?_
  go_simp; refine skW 10 ?_
  go_simp; refine skW 11 ?_
  go_simp; refine skW 12 ?_
  go_simp; refine skW 13 ?_
  go_simp; refine skW 14 ?_
  go_simp; refine tkW ?_ 15 ?_ ?_; rotate_left
  ·intro w hZ; go_simp; try rfl
  go_simp; refine tkW ?_ 16 ?_ ?_; rotate_left
  ·intro w hZ; go_simp; try rfl
  go_simp; refine skW 17 ?_
  go_simp; refine skW 18 ?_
  go_simp; refine skW 19 ?_
  go_simp; refine skW 20 ?_
  go_simp; refine skW 21 ?_
  go_simp; refine tkW ?_ 22 ?_ ?_; rotate_left
  ·intro w hZ; go_simp; try rfl
  go_simp; refine tkW ?_ 23 ?_ ?_; rotate_left
  ·intro w hZ; go_simp; try rfl
  go_simp; refine skW 24 ?_
  go_simp; refine skW 25 ?_
  go_simp; refine skW 26 ?_
  go_simp; refine skW 27 ?_
  go_simp; refine skW 28 ?_
  go_simp; refine tkW ?_ 29 ?_ ?_; rotate_left
  ·intro w hZ; go_simp; try rfl
  go_simp; refine tkW ?_ 30 ?_ ?_; rotate_left
  ·intro w hZ; go_simp; try rfl
  go_simp; refine skW 31 ?_
  go_simp; refine skW 32 ?_
  go_simp; refine skW 33 ?_
  go_simp; refine skW 34 ?_
  go_simp; refine skW 35 ?_
  go_simp; refine skW 36 ?_
  go_simp; refine skW 37 ?_
  go_simp; refine tkW ?_ 38 ?_ ?_; rotate_left
  ·intro w hZ; go_simp; try rfl
  go_simp; refine tkW ?_ 39 ?_ ?_; rotate_left
  ·intro w hZ; go_simp; try rfl
  go_simp; refine wpAnyH_done (by kernel_rfl) ?_ _
  go_wp2; go_ret; exact ⟨by first | rfl | simp, kT K0.out hH⟩
 | true =>
  refine tkW ?_ 8 ?_ ?_; rotate_left
  ·intro w hZ; go_simp; try rfl
  go_simp; refine tkW ?_ 9 ?_ ?_; rotate_left
  ·intro w hZ; go_simp; try rfl
  go_simp; refine tkW ?_ 10 ?_ ?_; rotate_left
  ·intro w hZ; have qb0 := kZ hZ b0; have qb1 := kZ hZ b1; have qb2 := kZ hZ b2; have qb3 := kZ hZ b3; have qb4 := kZ hZ b4; go_simp; try rfl
  go_simp; refine tkW ?_ 11 ?_ ?_; rotate_left
  ·intro w hZ; go_simp; try rfl
  go_simp; refine tkW ?_ 12 ?_ ?_; rotate_left
  ·intro w hZ; go_simp; try rfl
  go_simp; refine tkW ?_ 13 ?_ ?_; rotate_left
  ·intro w hZ; have qc0 := kZ hZ c0; have qc1 := kZ hZ c1; have qc2 := kZ hZ c2; have qc3 := kZ hZ c3; have qc4 := kZ hZ c4; go_simp; try rfl
  go_simp; refine tkW ?_ 14 ?_ ?_; rotate_left
  ·intro w hZ; go_simp; try rfl
  go_simp; refine tkW ?_ 15 ?_ ?_; rotate_left
  ·intro w hZ; go_simp; try rfl
  go_simp; refine tkW ?_ 16 ?_ ?_; rotate_left
  ·intro w hZ; go_simp; try rfl
  go_simp
  cases e1 with
  | false =>
   refine skW 17 ?_
   go_simp; refine skW 18 ?_
   go_simp; refine skW 19 ?_
   go_simp; refine skW 20 ?_
   go_simp; refine skW 21 ?_
   go_simp; refine tkW ?_ 22 ?_ ?_; rotate_left
   ·intro w hZ; go_simp; try rfl
   go_simp; refine tkW ?_ 23 ?_ ?_; rotate_left
   ·intro w hZ; go_simp; try rfl
   go_simp; refine skW 24 ?_
   go_simp; refine skW 25 ?_
   go_simp; refine skW 26 ?_
   go_simp; refine skW 27 ?_
   go_simp; refine skW 28 ?_
   go_simp; refine tkW ?_ 29 ?_ ?_; rotate_left
   ·intro w hZ; go_simp; try rfl
   go_simp; refine tkW ?_ 30 ?_ ?_; rotate_left
   ·intro w hZ; go_simp; try rfl
   go_simp; refine skW 31 ?_
   go_simp; refine skW 32 ?_
   go_simp; refine skW 33 ?_
   go_simp; refine skW 34 ?_
   go_simp; refine skW 35 ?_
   go_simp; refine skW 36 ?_
   go_simp; refine skW 37 ?_
   go_simp; refine tkW ?_ 38 ?_ ?_; rotate_left
   ·intro w hZ; go_simp; try rfl
   go_simp; refine tkW ?_ 39 ?_ ?_; rotate_left
   ·intro w hZ; go_simp; try rfl
   go_simp; refine wpAnyH_done (by kernel_rfl) ?_ _
   go_wp2; go_ret; exact ⟨by first | rfl | simp, kT K0.out hH⟩
  | true =>
   refine tkW ?_ 17 ?_ ?_; rotate_left
   ·intro w hZ; go_simp; try rfl
   go_simp; refine tkW ?_ 18 ?_ ?_; rotate_left
   ·intro w hZ; have qb0 := kZ hZ b0; have qb1 := kZ hZ b1; have qb2 := kZ hZ b2; have qb3 := kZ hZ b3; have qb4 := kZ hZ b4; go_simp; try rfl
   go_simp; refine tkW ?_ 19 ?_ ?_; rotate_left
   ·intro w hZ; go_simp; try rfl
   go_simp; refine tkW ?_ 20 ?_ ?_; rotate_left
   ·intro w hZ; have qc0 := kZ hZ c0; have qc1 := kZ hZ c1; have qc2 := kZ hZ c2; have qc3 := kZ hZ c3; have qc4 := kZ hZ c4; go_simp; try rfl
   go_simp; refine tkW ?_ 21 ?_ ?_; rotate_left
   ·intro w hZ; go_simp; try rfl
   go_simp; refine tkW ?_ 22 ?_ ?_; rotate_left
   ·intro w hZ; go_simp; try rfl
   go_simp; refine tkW ?_ 23 ?_ ?_; rotate_left
   ·intro w hZ; go_simp; try rfl
   go_simp
   cases e2 with
   | false =>
    refine skW 24 ?_
    go_simp; refine skW 25 ?_
    go_simp; refine skW 26 ?_
    go_simp; refine skW 27 ?_
    go_simp; refine skW 28 ?_
    go_simp; refine tkW ?_ 29 ?_ ?_; rotate_left
    ·intro w hZ; go_simp; try rfl
    go_simp; refine tkW ?_ 30 ?_ ?_; rotate_left
    ·intro w hZ; go_simp; try rfl
    go_simp; refine skW 31 ?_
    go_simp; refine skW 32 ?_
    go_simp; refine skW 33 ?_
    go_simp; refine skW 34 ?_
    go_simp; refine skW 35 ?_
    go_simp; refine skW 36 ?_
    go_simp; refine skW 37 ?_
    go_simp; refine tkW ?_ 38 ?_ ?_; rotate_left
    ·intro w hZ; go_simp; try rfl
    go_simp; refine tkW ?_ 39 ?_ ?_; rotate_left
    ·intro w hZ; go_simp; try rfl
    go_simp; refine wpAnyH_done (by kernel_rfl) ?_ _
    go_wp2; go_ret; exact ⟨by first | rfl | simp, kT K0.out hH⟩
   | true =>
    refine tkW ?_ 24 ?_ ?_; rotate_left
    ·intro w hZ; go_simp; try rfl
    go_simp; refine tkW ?_ 25 ?_ ?_; rotate_left
    ·intro w hZ; have qb0 := kZ hZ b0; have qb1 := kZ hZ b1; have qb2 := kZ hZ b2; have qb3 := kZ hZ b3; have qb4 := kZ hZ b4; go_simp; try rfl
    go_simp; refine tkW ?_ 26 ?_ ?_; rotate_left
    ·intro w hZ; go_simp; try rfl
    go_simp; refine tkW ?_ 27 ?_ ?_; rotate_left
    ·intro w hZ; have qc0 := kZ hZ c0; have qc1 := kZ hZ c1; have qc2 := kZ hZ c2; have qc3 := kZ hZ c3; have qc4 := kZ hZ c4; go_simp; try rfl
    go_simp; refine tkW ?_ 28 ?_ ?_; rotate_left
    ·intro w hZ; go_simp; try rfl
    go_simp; refine tkW ?_ 29 ?_ ?_; rotate_left
    ·intro w hZ; go_simp; try rfl
    go_simp; refine tkW ?_ 30 ?_ ?_; rotate_left
    ·intro w hZ; go_simp; try rfl
    go_simp
    cases e3 with
    | false =>
     refine skW 31 ?_
     go_simp; refine skW 32 ?_
     go_simp; refine skW 33 ?_
     go_simp; refine skW 34 ?_
     go_simp; refine skW 35 ?_
     go_simp; refine skW 36 ?_
     go_simp; refine skW 37 ?_
     go_simp; refine tkW ?_ 38 ?_ ?_; rotate_left
     ·intro w hZ; go_simp; try rfl
     go_simp; refine tkW ?_ 39 ?_ ?_; rotate_left
     ·intro w hZ; go_simp; try rfl
     go_simp; refine wpAnyH_done (by kernel_rfl) ?_ _
     go_wp2; go_ret; exact ⟨by first | rfl | simp, kT K0.out hH⟩
    | true =>
     refine tkW ?_ 31 ?_ ?_; rotate_left
     ·intro w hZ; go_simp; try rfl
     go_simp; refine tkW ?_ 32 ?_ ?_; rotate_left
     ·intro w hZ; have qb0 := kZ hZ b0; have qb1 := kZ hZ b1; have qb2 := kZ hZ b2; have qb3 := kZ hZ b3; have qb4 := kZ hZ b4; go_simp; try rfl
     go_simp; refine tkW ?_ 34 ?_ ?_; rotate_left
     ·intro w hZ; go_simp; try rfl
     go_simp; refine tkW ?_ 35 ?_ ?_; rotate_left
     ·intro w hZ; have qc0 := kZ hZ c0; have qc1 := kZ hZ c1; have qc2 := kZ hZ c2; have qc3 := kZ hZ c3; have qc4 := kZ hZ c4; go_simp; try rfl
     go_simp; refine rdW 33 fun K hK => ?_
     go_simp; go_wp2_with (go_at_call 44; (with_reducible refine (HB1.out _).mono ?_); rintro e w' ⟨rfl, rfl⟩)
     refine hK.out _ _ ?_ (fun hH => ?_)
     ·exact hH
     clear hK K; refine rdW 36 fun K hK => ?_
     go_simp; go_wp2_with (go_at_call 44; (with_reducible refine (HB2.out _).mono ?_); rintro e w' ⟨rfl, rfl⟩)
     refine hK.out _ _ ?_ (fun hH => ?_)
     ·exact hH
     clear hK K; refine tkW ?_ 37 ?_ ?_; rotate_left
     ·intro w hZ; go_simp; try rfl
     go_simp; refine tkW ?_ 38 ?_ ?_; rotate_left
     ·intro w hZ; go_simp; try rfl
     go_simp; refine tkW ?_ 39 ?_ ?_; rotate_left
     ·intro w hZ; go_simp; try rfl
     go_simp; refine wpAnyH_done (by kernel_rfl) ?_ _
     go_wp2; go_ret; exact ⟨by first | rfl | simp, kT K0.out hH⟩
theorem sF (w : World) (a : Addr) (x : Nat) : (store a (.float .f64 x)).run Tryz.prog w = match w.cell? a with
   | some _ => if w.frozen? a then .halt (.unsupported (.unsafePointer "a write to bytes that a string shares")) w else .ok () (w.setCell a (.float .f64 x))
   | none => match w.farStore Tryz.prog a (.float .f64 x) (Mode.plain == .atomic) with
    | .ok (w', _) => .ok () w'
    | .error h => .halt h w := run_store Tryz.prog w a (.float .f64 x) .plain rfl
theorem panic_some {P : Program} (t : TypeId) (v : Value) (w : World) : (Instr.panic (.iface t v)).run P w = .halt (.panic (.iface t v)) w := rfl
theorem idemand_t (v : Value) (w : World) : Calls Tryz.prog 173 #[.bool true, v] w fun e w' => e = .returned (.tuple #[]) ∧ w = w' := by
 go_enter Tryz.func173, Tryz.ntmps173; go_wp2; go_end0
 exact ⟨rfl, rfl⟩
theorem idemand_f (a : Addr) (w : World) : Calls Tryz.prog 173 #[.bool false, snt a] w fun e w' => e = .panicked [{ v := snt a, recovered := false }] ∧ w = w' := by
 have hpn := panic_some (P := Tryz.prog) 240 (.pointer (some a)) w; go_enter Tryz.func173, Tryz.ntmps173; go_wp2; exact ⟨rfl, rfl, rfl⟩
theorem l0 : (strOfNums []).toList = [] := by rw [Lib.toList_data]; rfl
def PlC (v : Value) (ps : List (Int × Int)) (w : World) : Prop :=
 ∃ g cap, v = .slice (some ⟨g, 0, none⟩) ps.length cap ∧ ∀ j, j < ps.length → w.cell? ⟨g, 2 * j, none⟩ = some (.string (strOfNums [(ps.getD j (0, 0)).1])) ∧ w.cell? ⟨g, 2 * j + 1, none⟩ = some (.int .i64 (ps.getD j (0, 0)).2)
theorem PlC.kp {v : Value} {ps : List (Int × Int)} {w w' : World} (h : PlC v ps w) (hk : Kp w w') : PlC v ps w' := by
 obtain ⟨g, cap, h1, h2⟩ := h; exact ⟨g, cap, h1, fun j hj => ⟨kZ hk (h2 j hj).1, kZ hk (h2 j hj).2⟩⟩
def actL : List (Int × Int) := [(97, 4), (46, 1000000)]
theorem two_pl (w : World) (a b c d : Int) : PlC (.slice (some ⟨w.heap.size, 0, none⟩) 2 2) [(a, b), (c, d)] (w.alloc (.cells #[.string (strOfNums [a]), .int .i64 b, .string (strOfNums [c]), .int .i64 d] 222)) := by
 refine ⟨w.heap.size, 2, rfl, fun j hj => ?_⟩
 have hj1 : j < 2 := hj; have hr := (mH w (.cells #[.string (strOfNums [a]), .int .i64 b, .string (strOfNums [c]), .int .i64 d] 222))
 match j, hj1 with
 | 0, _ | 1, _ => constructor <;> (unfold World.cell?; dsimp only; rw [hr]; rfl)
theorem actPl_own (w : World) : Calls Tryz.prog 166 #[] w fun e w' => e = .returned (.slice (some ⟨w.heap.size, 0, none⟩) 2 2) ∧ w' = w.alloc (.cells #[.string (strOfNums [97]), .int .i64 4, .string (strOfNums [46]), .int .i64 1000000] 222) := by
 go_enter Tryz.func166, Tryz.ntmps166; go_wp2; go_ret; exact ⟨rfl, rfl⟩
theorem actPl_any (w : World) : Calls Tryz.prog 166 #[] w fun e w' => ∃ v, e = .returned v ∧ PlC v actL w' ∧ Kp w w' := by
 refine (actPl_own w).mono ?_
 rintro e w' ⟨rfl, rfl⟩; exact ⟨_, rfl, two_pl w 97 4 46 1000000, kA _ _⟩
end Go.Proofs.YtpemeenfhkgmpaaGreatDoor
