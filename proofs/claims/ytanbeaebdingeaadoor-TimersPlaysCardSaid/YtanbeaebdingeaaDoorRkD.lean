/-
  THE DOCUMENT's CLOCK (own work): Tick and Set whole; Again.
-/
import Derived.Test.YtanbeaebdingeaaDoorRkC
namespace Go.Proofs.YtanbeaebdingeaaDoor
open Go.RowKit Go.ChangeShapes Go.WideShapes
variable {w0 w w' W w3 : World} {q : Nat} {c : CkM} {v v' : Value}

theorem rkTick_any (H : Rk w0 q c v w) (ok : CkOk c) {x : Nat} (h64 : x < 18446744073709551616) : Calls Tryd.prog 27 #[.pointer (some ⟨q, 0, none⟩), .float .f64 x] w fun r w' => r = .returned (.int .i64 (c.tick x).1) ∧ Rk w0 q (c.tick x).2 v w' ∧ Asd (Or q v) (Or q v) w w' := by
  unfold CkM.tick
  cases hx : Fl.dl x with
  | true =>
    rw [if_pos rfl]
    exact rkTick_ok H ok.now hx
  | false =>
    rw [if_neg (by decide)]
    exact (rkTick_no (q := q) h64 hx).mono fun r w' ⟨q1, q2⟩ => ⟨q1, H.kp q2, Asd.of_kp _ q2⟩
theorem rkSet_any (H : Rk w0 q c v w) (ok : CkOk c) (k : List UInt8) {b m : Nat} (hb64 : b < 18446744073709551616) (hm64 : m < 18446744073709551616) : Calls Tryd.prog 28 #[.pointer (some ⟨q, 0, none⟩), encStr k, .float .f64 b, .float .f64 m] w fun r w' => r = .returned (.int .i64 (c.set k b m).1) ∧ ∃ v', Rk w0 q (c.set k b m).2 v' w' ∧ Asd (Or q v) (Or q v') w w' := by
  unfold CkM.set
  cases hd : Fl.dl b && Fl.dl m with
  | false =>
    rw [if_neg (by decide)]
    exact (rkSet_form (q := q) hb64 hm64 hd).mono fun r w' ⟨q1, q2⟩ => ⟨q1, v, H.kp q2, Asd.of_kp _ q2⟩
  | true =>
    rw [if_pos rfl]
    rw [Bool.and_eq_true] at hd
    cases hh : c.has k with
    | true =>
      rw [Bool.not_true, Bool.false_and, if_neg (by decide)]
      exact rkSet_put H ok hd.1 hd.2 hh
    | false =>
      rw [Bool.not_false, Bool.true_and]
      by_cases hf : 63 < c.ts.length
      · rw [if_pos (decide_eq_true hf)]
        exact (rkSet_full H ok hd.1 hd.2 hh hf).mono fun r w' ⟨q1, q2⟩ => ⟨q1, v, H.kp q2, Asd.of_kp _ q2⟩
      · rw [if_neg (by rw [decide_eq_false hf]; decide)]
        exact rkSet_add H ok hd.1 hd.2 hh hf
set_option maxRecDepth 100000 in
theorem rkAgain_none (H : Rk w0 q c v w) (ok : CkOk c) {k : List UInt8} (h0 : c.has k = false) : Calls Tryd.prog 29 #[.pointer (some ⟨q, 0, none⟩), encStr k] w fun r w' => r = .returned (.int .i64 8) ∧ Kp w w' := by
  have hfi := rkFind H ok.len k
  obtain ⟨ii, hii⟩ : ∃ x, c.findI k = x := ⟨_, rfl⟩
  obtain ⟨s, hs⟩ : ∃ s, (⟨k.toArray⟩ : ByteArray) = s := ⟨_, rfl⟩
  rw [hii] at hfi
  unfold encStr at hfi ⊢
  rw [hs] at hfi ⊢
  have HF := Lib.hid hfi
  have g2 : decide (ii < 0) = true := decide_eq_true (by rw [← hii]; exact (findI_neg k).2 h0)
  clear H ok h0 hfi hii hs
  go_enter Tryd.func29, Tryd.ntmps29
  go_wp2_with ((go_at_call 20; (with_reducible refine HF.out.mono ?_); rintro e' w6 ⟨rfl, hk6⟩))
  go_ret
  exact ⟨rfl, hk6⟩
set_option maxRecDepth 100000 in
set_option maxHeartbeats 2000000 in
theorem rkAgain_some (H : Rk w0 q c v w) (ok : CkOk c) {k : List UInt8} {t : Tm} (h0 : c.look k = some t) : Calls Tryd.prog 29 #[.pointer (some ⟨q, 0, none⟩), encStr k] w fun r w' => r = .returned (.int .i64 0) ∧ ∃ v', Rk w0 q (c.put (c.againT t)) v' w' ∧ Asd (Or q v) (Or q v') w w' := by
  have hfi := rkFind H ok.len k
  obtain ⟨ii, hii⟩ : ∃ x, c.findI k = x := ⟨_, rfl⟩
  obtain ⟨s, hs⟩ : ∃ s, (⟨k.toArray⟩ : ByteArray) = s := ⟨_, rfl⟩
  rw [hii] at hfi
  unfold encStr at hfi ⊢
  rw [hs] at hfi ⊢
  have HF := Lib.hid hfi
  have h1 : c.has k = true := by unfold CkM.has; rw [h0]; rfl
  have hlt := idx_lt.2 h1
  have hiI : ii = (c.idx k : Int) := by rw [← hii]; unfold CkM.findI; rw [if_pos hlt]
  have htn : ii.toNat = c.idx k := by omega
  have hget : c.ts[c.idx k] = t := by
    have := idx_look ok.nd hlt
    rw [h0] at this
    injection this with this
    exact this.symm
  have tok := ok.each t (look_some h0).1
  obtain ⟨tk, a, n, b, m⟩ := t
  obtain rfl : k = tk := (look_some h0).2.symm
  have hb : Fl.dl b = true := tok.b
  have hm : Fl.dl m = true := tok.m
  have hn0 : 0 ≤ n := tok.n0
  have hnM : n ≤ 1000000 := tok.n1
  have mr := more_rng hn0
  obtain ⟨n1, hm1⟩ : ∃ x, more n = x := ⟨_, rfl⟩
  rw [hm1] at mr
  have hrr := (add_le ok.now (backR_le b n1.toNat m hm)).1
  obtain ⟨d, hdd⟩ : ∃ d, Fl.backR b n1.toNat m = d := ⟨_, rfl⟩
  obtain ⟨r, hr⟩ : ∃ r, Fl.addR c.now d = r := ⟨_, rfl⟩
  rw [hdd, hr] at hrr
  have hbk : ∀ w1 : World, Calls Tryd.prog 45 #[.float .f64 b, .int .i64 n1, .float .f64 m] w1 fun e w' => e = .returned (.tuple #[.float .f64 d, .int .i64 0]) ∧ w1 = w' := fun w1 => by
    have := refBack_ok b m n1.toNat w1 hb hm (by omega)
    rw [Int.toNat_of_nonneg mr.1, hdd] at this
    exact this
  have HBK := Lib.hid hbk
  have hadd : ∀ w, (binOp .add 28 (.float .f64 c.now) (.float .f64 d)).run Tryd.prog w = .ok (.float .f64 r) w := fun w => run_float_arith w .add 28 .f64 c.now d r hrr
  have hput : c.put (c.againT ⟨k, a, n, b, m⟩) = ⟨c.now, c.ts.set ii.toNat ⟨k, r, n1, b, m⟩⟩ := by
    unfold CkM.put CkM.againT
    dsimp only
    rw [hm1, hdd, hr, if_pos hlt, htn]
  rw [hput]
  obtain ⟨gv, cv, ev, -⟩ := H.cell hlt
  subst ev
  have HH := Lib.hid H
  obtain ⟨L, hL⟩ : ∃ L : Int, (c.ts.length : Int) = L := ⟨_, rfl⟩
  have g2 : decide (ii < 0) = false := decide_eq_false (by omega)
  have i0 : 0 ≤ ii := by omega
  have i1 : ii < L := by omega
  have HII := Lib.hid (show ii.toNat < c.ts.length by omega)
  obtain ⟨len, hlen⟩ : ∃ m, c.ts.length = m := ⟨_, rfl⟩
  have HLEN := Lib.hid hlen
  have e0 : ∀ w1, Kp w w1 → w1.cell? ⟨q, 1, none⟩ = some (.slice (some ⟨gv, 0, none⟩) len cv) ∧ w1.cell? ⟨q, 0, none⟩ = some (.float .f64 c.now) ∧ w1.cell? ⟨gv, ii.toNat * 5, none⟩ = some (.string s) ∧ w1.cell? ⟨gv, ii.toNat * 5 + 1, none⟩ = some (.float .f64 a) ∧ w1.cell? ⟨gv, ii.toNat * 5 + 2, none⟩ = some (.int .i64 n) ∧ w1.cell? ⟨gv, ii.toNat * 5 + 3, none⟩ = some (.float .f64 b) ∧ w1.cell? ⟨gv, ii.toNat * 5 + 4, none⟩ = some (.float .f64 m) := fun w1 hk => by
    obtain ⟨g9, c9, ev9, tc⟩ := (HH.out.kp hk).cell hlt
    injection ev9 with ev9 _ _
    injection ev9 with ev9
    injection ev9 with ev9
    subst ev9
    rw [hget, ← htn] at tc
    rw [← hlen]
    refine ⟨cell_row (i := 1) (HH.out.kp hk).row rfl, cell_row (i := 0) (HH.out.kp hk).row rfl, ?_, tc 1 _ (by decide) rfl, tc 2 _ (by decide) rfl, tc 3 _ (by decide) rfl, tc 4 _ (by decide) rfl⟩
    rw [← hs]
    exact tc 0 _ (by decide) rfl
  have E0 := Lib.hid e0
  rw [hlen] at hL
  have HS := Lib.hid hs
  have hsf := store_fl
  have Y2 := Lib.hid (fun w6 : World => (show (w6.alloc (.cells #[.string s, .float .f64 a, .int .i64 n, .float .f64 b, .float .f64 m] 47)).cell? ⟨w6.heap.size, 2, none⟩ = some (.int .i64 n) from cell_row (i := 2) (MapKept.heap_alloc w6 (.cells #[.string s, .float .f64 a, .int .i64 n, .float .f64 b, .float .f64 m] 47)).1 rfl))
  have Z2 := Lib.hid (fun w6 : World => (show (w6.alloc (.cells #[.string s, .float .f64 a, .int .i64 n1, .float .f64 b, .float .f64 m] 47)).cell? ⟨w6.heap.size, 2, none⟩ = some (.int .i64 n1) from cell_row (i := 2) (MapKept.heap_alloc w6 (.cells #[.string s, .float .f64 a, .int .i64 n1, .float .f64 b, .float .f64 m] 47)).1 rfl))
  have Z3 := Lib.hid (fun w6 : World => (show (w6.alloc (.cells #[.string s, .float .f64 a, .int .i64 n1, .float .f64 b, .float .f64 m] 47)).cell? ⟨w6.heap.size, 3, none⟩ = some (.float .f64 b) from cell_row (i := 3) (MapKept.heap_alloc w6 (.cells #[.string s, .float .f64 a, .int .i64 n1, .float .f64 b, .float .f64 m] 47)).1 rfl))
  have Z4 := Lib.hid (fun w6 : World => (show (w6.alloc (.cells #[.string s, .float .f64 a, .int .i64 n1, .float .f64 b, .float .f64 m] 47)).cell? ⟨w6.heap.size, 4, none⟩ = some (.float .f64 m) from cell_row (i := 4) (MapKept.heap_alloc w6 (.cells #[.string s, .float .f64 a, .int .i64 n1, .float .f64 b, .float .f64 m] 47)).1 rfl))
  by_cases hbig : n < 1000000
  · have hn1 : n + 1 = n1 := by rw [← hm1]; unfold more; omega
    have hw2 : wrap64 n1 = n1 := IntWalk.wrap64_in _ (by omega)
    have g3 : decide (n < 1000000) = true := decide_eq_true hbig
    clear H hfi hb hm h0 h1 hii hs ok hlen e0 hbk hrr hdd hr hput hlt hiI htn hget tok mr hm1 hnM hbig
    go_enter Tryd.func29, Tryd.ntmps29
    go_wp2_with (first | (go_at_call 45; (with_reducible refine (HBK.out _).mono ?_); rintro e' w7 ⟨rfl, rfl⟩) | (go_at_call 20; (with_reducible refine HF.out.mono ?_); rintro e' w6 ⟨rfl, hk6⟩; obtain ⟨e1, e2, t0, t1, t2, t3, t4⟩ := E0.out _ hk6; have HK6 := Lib.hid hk6; have y2 := Y2.out w6; have z2 := Z2.out w6; have z3 := Z3.out w6; have z4 := Z4.out w6; have e3 := (E0.out _ (Kp.trans hk6 (kp_alloc w6 (.cells #[.string s, .float .f64 a, .int .i64 n1, .float .f64 b, .float .f64 m] 47)))).2.1; clear hk6))
    obtain ⟨bx, hbx⟩ : ∃ x, w6.heap.size = x := ⟨_, rfl⟩
    have hy := (MapKept.heap_alloc w6 (.cells #[.string s, .float .f64 r, .int .i64 n1, .float .f64 b, .float .f64 m] 47)).1
    have ky := Kp.trans HK6.out (kp_alloc w6 (.cells #[.string s, .float .f64 r, .int .i64 n1, .float .f64 b, .float .f64 m] 47))
    rw [hbx] at hy
    try rw [hbx]
    obtain ⟨Y, hY⟩ : ∃ Y, w6.alloc (.cells #[.string s, .float .f64 r, .int .i64 n1, .float .f64 b, .float .f64 m] 47) = Y := ⟨_, rfl⟩
    rw [hY] at hy ky ⊢
    clear t0 t1 t2 t3 t4 y2 z2 z3 z4 e3
    have a1 : Y.cell? ⟨q, 1, none⟩ = some (.slice (some ⟨gv, 0, none⟩) len cv) := by rw [← HLEN.out]; exact cell_row (i := 1) (HH.out.kp ky).row rfl
    have b0 : Y.cell? ⟨bx, 0, none⟩ = some (.string s) := cell_row (i := 0) hy rfl
    have b1 : Y.cell? ⟨bx, 1, none⟩ = some (.float .f64 r) := cell_row (i := 1) hy rfl
    have b2 : Y.cell? ⟨bx, 2, none⟩ = some (.int .i64 n1) := cell_row (i := 2) hy rfl
    have b3 : Y.cell? ⟨bx, 3, none⟩ = some (.float .f64 b) := cell_row (i := 3) hy rfl
    have b4 : Y.cell? ⟨bx, 4, none⟩ = some (.float .f64 m) := cell_row (i := 4) hy rfl
    obtain ⟨g9, c9, ev9, tc⟩ := (HH.out.kp ky).cell HII.out
    injection ev9 with ev9 _ _
    injection ev9 with ev9
    injection ev9 with ev9
    subst ev9
    obtain ⟨⟨ok0, oa0, on0, ob0, om0⟩, hold⟩ : ∃ t, c.ts[ii.toNat]'HII.out = t := ⟨_, rfl⟩
    rw [hold] at tc
    have t0 : Y.cell? ⟨gv, ii.toNat * 5, none⟩ = some (encStr ok0) := tc 0 _ (by decide) rfl
    have t1 : Y.cell? ⟨gv, ii.toNat * 5 + 1, none⟩ = some (.float .f64 oa0) := tc 1 _ (by decide) rfl
    have t2 : Y.cell? ⟨gv, ii.toNat * 5 + 2, none⟩ = some (.int .i64 on0) := tc 2 _ (by decide) rfl
    have t3 : Y.cell? ⟨gv, ii.toNat * 5 + 3, none⟩ = some (.float .f64 ob0) := tc 3 _ (by decide) rfl
    have t4 : Y.cell? ⟨gv, ii.toNat * 5 + 4, none⟩ = some (.float .f64 om0) := tc 4 _ (by decide) rfl
    have f0 : Y.frozen? ⟨gv, ii.toNat * 5, none⟩ = false := (HH.out.kp ky).own.frozenAt _
    have f1 : Y.frozen? ⟨gv, ii.toNat * 5 + 1, none⟩ = false := (HH.out.kp ky).own.frozenAt _
    have f2 : Y.frozen? ⟨gv, ii.toNat * 5 + 2, none⟩ = false := (HH.out.kp ky).own.frozenAt _
    have f3 : Y.frozen? ⟨gv, ii.toNat * 5 + 3, none⟩ = false := (HH.out.kp ky).own.frozenAt _
    have f4 : Y.frozen? ⟨gv, ii.toNat * 5 + 4, none⟩ = false := (HH.out.kp ky).own.frozenAt _
    have FIN := Lib.hid (show Rk w0 q ⟨c.now, c.ts.set ii.toNat ⟨k, r, n1, b, m⟩⟩ (.slice (some ⟨gv, 0, none⟩) c.ts.length cv) (set5 Y.drew gv ii.toNat s r n1 b m) ∧ Asd (Or q (.slice (some ⟨gv, 0, none⟩) c.ts.length cv)) (Or q (.slice (some ⟨gv, 0, none⟩) c.ts.length cv)) w (set5 Y.drew gv ii.toNat s r n1 b m) from by
      have kd := kp_drewR ky
      have h5 := (HH.out.kp kd).set5 HII.out HS.out r n1 b m
      exact ⟨h5.1, (Asd.of_kp _ kd).trans h5.2⟩)
    unfold set5 at FIN
    clear hy ky hY hbx e1 e2 g2 HF HBK hadd E0 HK6
    go_region
    all_goals go_wp2
    all_goals go_ret
    all_goals exact ⟨rfl, _, FIN.out⟩
  · have hn1 : n = n1 := by rw [← hm1]; unfold more; omega
    subst hn1
    have g3 : decide (n < 1000000) = false := decide_eq_false hbig
    clear H hfi hb hm h0 h1 hii hs ok hlen e0 hbk hrr hdd hr hput hlt hiI htn hget tok mr hm1 hnM hbig
    go_enter Tryd.func29, Tryd.ntmps29
    go_wp2_with (first | (go_at_call 45; (with_reducible refine (HBK.out _).mono ?_); rintro e' w7 ⟨rfl, rfl⟩) | (go_at_call 20; (with_reducible refine HF.out.mono ?_); rintro e' w6 ⟨rfl, hk6⟩; obtain ⟨e1, e2, t0, t1, t2, t3, t4⟩ := E0.out _ hk6; have HK6 := Lib.hid hk6; have y2 := Y2.out w6; have z2 := Z2.out w6; have z3 := Z3.out w6; have z4 := Z4.out w6; have e3 := (E0.out _ (Kp.trans hk6 (kp_alloc w6 (.cells #[.string s, .float .f64 a, .int .i64 n, .float .f64 b, .float .f64 m] 47)))).2.1; clear hk6))
    obtain ⟨bx, hbx⟩ : ∃ x, w6.heap.size = x := ⟨_, rfl⟩
    have hy := (MapKept.heap_alloc w6 (.cells #[.string s, .float .f64 r, .int .i64 n, .float .f64 b, .float .f64 m] 47)).1
    have ky := Kp.trans HK6.out (kp_alloc w6 (.cells #[.string s, .float .f64 r, .int .i64 n, .float .f64 b, .float .f64 m] 47))
    rw [hbx] at hy
    try rw [hbx]
    obtain ⟨Y, hY⟩ : ∃ Y, w6.alloc (.cells #[.string s, .float .f64 r, .int .i64 n, .float .f64 b, .float .f64 m] 47) = Y := ⟨_, rfl⟩
    rw [hY] at hy ky ⊢
    clear t0 t1 t2 t3 t4 y2 z2 z3 z4 e3
    have a1 : Y.cell? ⟨q, 1, none⟩ = some (.slice (some ⟨gv, 0, none⟩) len cv) := by rw [← HLEN.out]; exact cell_row (i := 1) (HH.out.kp ky).row rfl
    have b0 : Y.cell? ⟨bx, 0, none⟩ = some (.string s) := cell_row (i := 0) hy rfl
    have b1 : Y.cell? ⟨bx, 1, none⟩ = some (.float .f64 r) := cell_row (i := 1) hy rfl
    have b2 : Y.cell? ⟨bx, 2, none⟩ = some (.int .i64 n) := cell_row (i := 2) hy rfl
    have b3 : Y.cell? ⟨bx, 3, none⟩ = some (.float .f64 b) := cell_row (i := 3) hy rfl
    have b4 : Y.cell? ⟨bx, 4, none⟩ = some (.float .f64 m) := cell_row (i := 4) hy rfl
    obtain ⟨g9, c9, ev9, tc⟩ := (HH.out.kp ky).cell HII.out
    injection ev9 with ev9 _ _
    injection ev9 with ev9
    injection ev9 with ev9
    subst ev9
    obtain ⟨⟨ok0, oa0, on0, ob0, om0⟩, hold⟩ : ∃ t, c.ts[ii.toNat]'HII.out = t := ⟨_, rfl⟩
    rw [hold] at tc
    have t0 : Y.cell? ⟨gv, ii.toNat * 5, none⟩ = some (encStr ok0) := tc 0 _ (by decide) rfl
    have t1 : Y.cell? ⟨gv, ii.toNat * 5 + 1, none⟩ = some (.float .f64 oa0) := tc 1 _ (by decide) rfl
    have t2 : Y.cell? ⟨gv, ii.toNat * 5 + 2, none⟩ = some (.int .i64 on0) := tc 2 _ (by decide) rfl
    have t3 : Y.cell? ⟨gv, ii.toNat * 5 + 3, none⟩ = some (.float .f64 ob0) := tc 3 _ (by decide) rfl
    have t4 : Y.cell? ⟨gv, ii.toNat * 5 + 4, none⟩ = some (.float .f64 om0) := tc 4 _ (by decide) rfl
    have f0 : Y.frozen? ⟨gv, ii.toNat * 5, none⟩ = false := (HH.out.kp ky).own.frozenAt _
    have f1 : Y.frozen? ⟨gv, ii.toNat * 5 + 1, none⟩ = false := (HH.out.kp ky).own.frozenAt _
    have f2 : Y.frozen? ⟨gv, ii.toNat * 5 + 2, none⟩ = false := (HH.out.kp ky).own.frozenAt _
    have f3 : Y.frozen? ⟨gv, ii.toNat * 5 + 3, none⟩ = false := (HH.out.kp ky).own.frozenAt _
    have f4 : Y.frozen? ⟨gv, ii.toNat * 5 + 4, none⟩ = false := (HH.out.kp ky).own.frozenAt _
    have FIN := Lib.hid (show Rk w0 q ⟨c.now, c.ts.set ii.toNat ⟨k, r, n, b, m⟩⟩ (.slice (some ⟨gv, 0, none⟩) c.ts.length cv) (set5 Y.drew gv ii.toNat s r n b m) ∧ Asd (Or q (.slice (some ⟨gv, 0, none⟩) c.ts.length cv)) (Or q (.slice (some ⟨gv, 0, none⟩) c.ts.length cv)) w (set5 Y.drew gv ii.toNat s r n b m) from by
      have kd := kp_drewR ky
      have h5 := (HH.out.kp kd).set5 HII.out HS.out r n b m
      exact ⟨h5.1, (Asd.of_kp _ kd).trans h5.2⟩)
    unfold set5 at FIN
    clear hy ky hY hbx e1 e2 g2 HF HBK hadd E0 HK6
    go_region
    all_goals go_wp2
    all_goals go_ret
    all_goals exact ⟨rfl, _, FIN.out⟩
theorem rkAgain_any (H : Rk w0 q c v w) (ok : CkOk c) (k : List UInt8) : Calls Tryd.prog 29 #[.pointer (some ⟨q, 0, none⟩), encStr k] w fun r w' => r = .returned (.int .i64 (c.again k).1) ∧ ∃ v', Rk w0 q (c.again k).2 v' w' ∧ Asd (Or q v) (Or q v') w w' := by
  unfold CkM.again
  cases h0 : c.look k with
  | none => exact (rkAgain_none H ok (by unfold CkM.has; rw [h0]; rfl)).mono fun r w' ⟨q1, q2⟩ => ⟨q1, v, H.kp q2, Asd.of_kp _ q2⟩
  | some t => exact rkAgain_some H ok h0
end Go.Proofs.YtanbeaebdingeaaDoor
