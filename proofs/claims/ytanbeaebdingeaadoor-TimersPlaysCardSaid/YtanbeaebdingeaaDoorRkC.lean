/-
  THE DOCUMENT's CLOCK (own work): Set and Again where there is a timer.
-/
import Derived.Test.YtanbeaebdingeaaDoorRkB
namespace Go.Proofs.YtanbeaebdingeaaDoor
open Go.RowKit Go.ChangeShapes Go.WideShapes
variable {w0 w w' W w3 : World} {q : Nat} {c : CkM} {v v' : Value}

set_option maxRecDepth 100000 in
set_option maxHeartbeats 1000000 in
theorem rkSet_put (H : Rk w0 q c v w) (ok : CkOk c) {k : List UInt8} {b m : Nat} (hb : Fl.dl b = true) (hm : Fl.dl m = true) (h1 : c.has k = true) : Calls Tryd.prog 28 #[.pointer (some ⟨q, 0, none⟩), encStr k, .float .f64 b, .float .f64 m] w fun r w' => r = .returned (.int .i64 0) ∧ ∃ v', Rk w0 q (c.put (c.setT k b m)) v' w' ∧ Asd (Or q v) (Or q v') w w' := by
  have HB := Lib.hid (fun w1 : World => refDelay_t b w1 (Fl.dl_lt hb) hb)
  have HM := Lib.hid (fun w1 : World => refDelay_t m w1 (Fl.dl_lt hm) hm)
  have hfi := rkFind H ok.len k
  obtain ⟨ii, hii⟩ : ∃ x, c.findI k = x := ⟨_, rfl⟩
  obtain ⟨s, hs⟩ : ∃ s, (⟨k.toArray⟩ : ByteArray) = s := ⟨_, rfl⟩
  rw [hii] at hfi
  unfold encStr at hfi ⊢
  rw [hs] at hfi ⊢
  have HF := Lib.hid hfi
  have hrr := (add_le ok.now (backR_le b 0 m hm)).1
  obtain ⟨d, hdd⟩ : ∃ d, Fl.backR b 0 m = d := ⟨_, rfl⟩
  obtain ⟨r, hr⟩ : ∃ r, Fl.addR c.now d = r := ⟨_, rfl⟩
  rw [hdd, hr] at hrr
  have hbk : ∀ w1 : World, Calls Tryd.prog 45 #[.float .f64 b, .int .i64 0, .float .f64 m] w1 fun e w' => e = .returned (.tuple #[.float .f64 d, .int .i64 0]) ∧ w1 = w' := fun w1 => by rw [← hdd]; exact refBack_ok b m 0 w1 hb hm (by omega)
  have HBK := Lib.hid hbk
  have hadd : ∀ w, (binOp .add 28 (.float .f64 c.now) (.float .f64 d)).run Tryd.prog w = .ok (.float .f64 r) w := fun w => run_float_arith w .add 28 .f64 c.now d r hrr
  have hlt := idx_lt.2 h1
  have hiI : ii = (c.idx k : Int) := by rw [← hii]; unfold CkM.findI; rw [if_pos hlt]
  have hput : c.put (c.setT k b m) = ⟨c.now, c.ts.set ii.toNat ⟨k, r, 0, b, m⟩⟩ := by
    unfold CkM.put CkM.setT
    rw [hdd, hr]
    dsimp only
    rw [if_pos hlt, hiI, Int.toNat_natCast]
  rw [hput]
  obtain ⟨gv, cv, ev, -⟩ := H.cell hlt
  subst ev
  have HH := Lib.hid H
  obtain ⟨L, hL⟩ : ∃ L : Int, (c.ts.length : Int) = L := ⟨_, rfl⟩
  have g2 : decide (ii < 0) = false := decide_eq_false (by omega)
  have i0 : 0 ≤ ii := by omega
  have i1 : ii < L := by omega
  have HII := Lib.hid (show ii.toNat < c.ts.length by omega)
  obtain ⟨len, hlen⟩ : ∃ m, c.ts.length = m := ⟨_, rfl⟩
  have HLEN := Lib.hid hlen
  have e0 : ∀ w1, Kp w w1 → w1.cell? ⟨q, 1, none⟩ = some (.slice (some ⟨gv, 0, none⟩) len cv) ∧ w1.cell? ⟨q, 0, none⟩ = some (.float .f64 c.now) := fun w1 hk => by rw [← hlen]; exact ⟨cell_row (i := 1) (HH.out.kp hk).row rfl, cell_row (i := 0) (HH.out.kp hk).row rfl⟩
  have E0 := Lib.hid e0
  rw [hlen] at hL
  have HS := Lib.hid hs
  have hsf := store_fl
  clear H hfi hb hm h1 hii hs ok hlen e0 hbk hrr hdd hr hput hlt hiI
  go_enter Tryd.func28, Tryd.ntmps28
  go_wp2_with (first | (go_at_call 45; (with_reducible refine (HBK.out _).mono ?_); rintro e' w7 ⟨rfl, rfl⟩) | (go_at_call 20; (with_reducible refine HF.out.mono ?_); rintro e' w6 ⟨rfl, hk6⟩; obtain ⟨e1, e2⟩ := E0.out _ hk6; have HK6 := Lib.hid hk6; clear hk6) | (go_at_call 43; (with_reducible refine (HM.out _).mono ?_); rintro e' w5 ⟨rfl, rfl⟩) | (go_at_call 43; (with_reducible refine (HB.out _).mono ?_); rintro e' w4 ⟨rfl, rfl⟩))
  obtain ⟨bx, hbx⟩ : ∃ x, w6.heap.size = x := ⟨_, rfl⟩
  have hy := (MapKept.heap_alloc w6 (.cells #[.string s, .float .f64 r, .int .i64 0, .float .f64 b, .float .f64 m] 47)).1
  have ky := Kp.trans HK6.out (kp_alloc w6 (.cells #[.string s, .float .f64 r, .int .i64 0, .float .f64 b, .float .f64 m] 47))
  rw [hbx] at hy
  try rw [hbx]
  obtain ⟨Y, hY⟩ : ∃ Y, w6.alloc (.cells #[.string s, .float .f64 r, .int .i64 0, .float .f64 b, .float .f64 m] 47) = Y := ⟨_, rfl⟩
  rw [hY] at hy ky ⊢
  have a1 : Y.cell? ⟨q, 1, none⟩ = some (.slice (some ⟨gv, 0, none⟩) len cv) := by rw [← HLEN.out]; exact cell_row (i := 1) (HH.out.kp ky).row rfl
  have b0 : Y.cell? ⟨bx, 0, none⟩ = some (.string s) := cell_row (i := 0) hy rfl
  have b1 : Y.cell? ⟨bx, 1, none⟩ = some (.float .f64 r) := cell_row (i := 1) hy rfl
  have b2 : Y.cell? ⟨bx, 2, none⟩ = some (.int .i64 0) := cell_row (i := 2) hy rfl
  have b3 : Y.cell? ⟨bx, 3, none⟩ = some (.float .f64 b) := cell_row (i := 3) hy rfl
  have b4 : Y.cell? ⟨bx, 4, none⟩ = some (.float .f64 m) := cell_row (i := 4) hy rfl
  obtain ⟨g9, c9, ev9, tc⟩ := (HH.out.kp ky).cell HII.out
  injection ev9 with ev9 _ _
  injection ev9 with ev9
  injection ev9 with ev9
  subst ev9
  obtain ⟨⟨ok0, oa0, on0, ob0, om0⟩, hold⟩ : ∃ t, c.ts[ii.toNat]'HII.out = t := ⟨_, rfl⟩
  rw [hold] at tc
  have t0 : Y.cell? ⟨gv, ii.toNat * 5, none⟩ = some (encStr ok0) := tc 0 _ (by decide) rfl
  have t1 : Y.cell? ⟨gv, ii.toNat * 5 + 1, none⟩ = some (.float .f64 oa0) := tc 1 _ (by decide) rfl
  have t2 : Y.cell? ⟨gv, ii.toNat * 5 + 2, none⟩ = some (.int .i64 on0) := tc 2 _ (by decide) rfl
  have t3 : Y.cell? ⟨gv, ii.toNat * 5 + 3, none⟩ = some (.float .f64 ob0) := tc 3 _ (by decide) rfl
  have t4 : Y.cell? ⟨gv, ii.toNat * 5 + 4, none⟩ = some (.float .f64 om0) := tc 4 _ (by decide) rfl
  have f0 : Y.frozen? ⟨gv, ii.toNat * 5, none⟩ = false := (HH.out.kp ky).own.frozenAt _
  have f1 : Y.frozen? ⟨gv, ii.toNat * 5 + 1, none⟩ = false := (HH.out.kp ky).own.frozenAt _
  have f2 : Y.frozen? ⟨gv, ii.toNat * 5 + 2, none⟩ = false := (HH.out.kp ky).own.frozenAt _
  have f3 : Y.frozen? ⟨gv, ii.toNat * 5 + 3, none⟩ = false := (HH.out.kp ky).own.frozenAt _
  have f4 : Y.frozen? ⟨gv, ii.toNat * 5 + 4, none⟩ = false := (HH.out.kp ky).own.frozenAt _
  have FIN := Lib.hid (show Rk w0 q ⟨c.now, c.ts.set ii.toNat ⟨k, r, 0, b, m⟩⟩ (.slice (some ⟨gv, 0, none⟩) c.ts.length cv) (set5 Y.drew gv ii.toNat s r 0 b m) ∧ Asd (Or q (.slice (some ⟨gv, 0, none⟩) c.ts.length cv)) (Or q (.slice (some ⟨gv, 0, none⟩) c.ts.length cv)) w (set5 Y.drew gv ii.toNat s r 0 b m) from by
    have kd := kp_drewR ky
    have h5 := (HH.out.kp kd).set5 HII.out HS.out r 0 b m
    exact ⟨h5.1, (Asd.of_kp _ kd).trans h5.2⟩)
  unfold set5 at FIN
  clear hy ky hY hbx e1 e2 g2 HB HM HF HBK hadd E0 HK6
  go_region
  all_goals go_wp2
  all_goals go_ret
  all_goals exact ⟨rfl, _, FIN.out⟩
end Go.Proofs.YtanbeaebdingeaaDoor
