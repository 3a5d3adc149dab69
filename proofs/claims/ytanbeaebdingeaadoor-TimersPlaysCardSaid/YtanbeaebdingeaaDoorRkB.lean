/-
  THE DOCUMENT's CLOCK (own work): Tick, Set, Again.
-/
import Derived.Test.YtanbeaebdingeaaDoorRkA
namespace Go.Proofs.YtanbeaebdingeaaDoor
open Go.RowKit Go.ChangeShapes Go.WideShapes
variable {w0 w w' W w3 : World} {q : Nat} {c : CkM} {v v' : Value}

theorem Rk.setNow (h : Rk w0 q c v w) (r : Nat) : Rk w0 q ⟨r, c.ts⟩ v (w.setCell ⟨q, 0, none⟩ (.float .f64 r)) ∧ Asd (Or q v) (Or q v) w (w.setCell ⟨q, 0, none⟩ (.float .f64 r)) :=
  ⟨⟨(Joins.block_setCell h.row _).trans rfl, h.bq, own_stayG h.own (fun b e => Below.heap_setCell _ _ _ _ (fun e2 => h.ne (by rw [← show b = q from e2]; exact e)))⟩, asd_setN (.inl rfl) _⟩
set_option maxRecDepth 100000 in
theorem rkTick_no {x : Nat} (h64 : x < 18446744073709551616) (hx : Fl.dl x = false) : Calls Tryd.prog 27 #[.pointer (some ⟨q, 0, none⟩), .float .f64 x] w fun r w' => r = .returned (.int .i64 4) ∧ Kp w w' := by
  have HD := Lib.hid (fun w1 : World => refDelay_f x w1 h64 hx)
  have KW := Lib.hid (Kp.refl w)
  clear h64 hx
  go_enter Tryd.func27, Tryd.ntmps27
  go_wp2_with (go_at_call 43; (with_reducible refine (HD.out _).mono ?_); rintro e' w3 ⟨rfl, rfl⟩)
  go_ret
  exact ⟨rfl, KW.out⟩
set_option maxRecDepth 100000 in
theorem rkTick_ok (H : Rk w0 q c v w) (hn : c.now ≤ 9218868437227405312) {x : Nat} (hx : Fl.dl x = true) : Calls Tryd.prog 27 #[.pointer (some ⟨q, 0, none⟩), .float .f64 x] w fun r w' => r = .returned (.int .i64 0) ∧ Rk w0 q ⟨Fl.addR c.now (Fl.plain x), c.ts⟩ v w' ∧ Asd (Or q v) (Or q v) w w' := by
  have HD := Lib.hid (fun w1 : World => refDelay_t x w1 (Fl.dl_lt hx) hx)
  have HP := Lib.hid (fun w1 : World => refPlain_any x w1 (Fl.dl_lt hx))
  have hr := (add_le hn (Fl.dl_plain hx).1).1
  obtain ⟨px, hpx⟩ : ∃ r, Fl.plain x = r := ⟨_, rfl⟩
  rw [hpx] at hr HP ⊢
  obtain ⟨r, hrr⟩ : ∃ r, Fl.addR c.now px = r := ⟨_, rfl⟩
  rw [hrr] at hr ⊢
  have hadd : ∀ w, (binOp .add 28 (.float .f64 c.now) (.float .f64 px)).run Tryd.prog w = .ok (.float .f64 r) w := fun w => run_float_arith w .add 28 .f64 c.now px r hr
  have kx : Kp w w.drew := kp_drewR (Kp.refl _)
  have FIN := Lib.hid ((H.kp kx).setNow r)
  have KX := Lib.hid kx
  have e0 : w.cell? ⟨q, 0, none⟩ = some (.float .f64 c.now) := cell_row (i := 0) H.row rfl
  have fz := frozR H.row 0
  have hsf := store_fl
  clear H hr hrr hpx hx hn kx
  go_enter Tryd.func27, Tryd.ntmps27
  go_wp2_with (go_at_call 43; (with_reducible refine (HD.out _).mono ?_); rintro e' w3 ⟨rfl, rfl⟩)
  go_region_with (go_at_call 44; (with_reducible refine (HP.out _).mono ?_); rintro e' w3 ⟨rfl, rfl⟩)
  all_goals go_wp2
  all_goals go_ret
  all_goals exact ⟨rfl, FIN.out.1, (Asd.of_kp _ KX.out).trans FIN.out.2⟩
/-- THE TIMERS REPLACED: by a row in their own block, or a new one -/
theorem Rk.rep (h : Rk w0 q c v w) (hk : Kp w W) (hg : W.grownBy w3 v.ownBlock) {L : Nat} {f : List Tm} (hL : f.length = L) (ho : w3.ownsRow w0.heap.size 47 5 v' L (tmE.row f)) (hb : ∀ b, v'.ownBlock = some b → v.ownBlock = some b ∨ w.heap.size ≤ b) :
    Rk w0 q ⟨c.now, f⟩ v' (w3.setCell ⟨q, 1, none⟩ v') ∧ Asd (Or q v) (Or q v') w (w3.setCell ⟨q, 1, none⟩ v') := by
  subst hL
  have hs := Below.size hk
  have hlt := old_of_row h.row
  have n6 : v'.ownBlock ≠ some q := fun e => (hb q e).elim h.ne (fun e => by omega)
  have r1 : w3.heap[q]? = some (.cells #[.float .f64 c.now, v] 31 (0, 0)) := by rw [hg.block q (by omega) (fun e => h.ne e.symm)]; exact kp_row hk h.row
  refine ⟨⟨(Joins.block_setCell r1 _).trans rfl, h.bq, own_stayG ho (fun b e => Below.heap_setCell _ _ _ _ (fun e2 => n6 (by rw [← show b = q from e2]; exact e)))⟩, ?_⟩
  refine ⟨hg.os.trans hk.os, hg.tape.trans hk.tape, hg.output.trans hk.output, by simpa using Nat.le_trans hs hg.size, fun b hb2 hn => ?_, fun b e => ?_⟩
  · rw [Below.heap_setCell _ _ _ _ (fun e => hn (.inl e)), hg.block b (Nat.lt_of_lt_of_le hb2 hs) (fun e => hn (.inr e.symm))]
    exact Below.block hk b hb2
  · rcases e with rfl | e
    · exact .inl (.inl rfl)
    · exact (hb b e).imp (fun e => .inr e) id
/-- five cells of a row, set -/
theorem row_set5 : ∀ (f : List Tm) (i : Nat) (_ : i < f.length) (t : Tm), (((((tmE.row f).set (i * 5) (encStr t.k)).set (i * 5 + 1) (.float .f64 t.a)).set (i * 5 + 2) (.int .i64 t.n)).set (i * 5 + 3) (.float .f64 t.b)).set (i * 5 + 4) (.float .f64 t.m) = tmE.row (f.set i t)
  | x :: f, 0, _, t => rfl
  | x :: f, i + 1, hi, t => by
    have ih := row_set5 f i (by simpa using hi) t
    have e : ∀ l : List Tm, tmE.row (x :: l) = encStr x.k :: .float .f64 x.a :: .int .i64 x.n :: .float .f64 x.b :: .float .f64 x.m :: tmE.row l := fun l => rfl
    rw [List.set_cons_succ, e, e, ← ih]
    rw [show (i + 1) * 5 = i * 5 + 1 + 1 + 1 + 1 + 1 by omega]
    rfl
def set5 (w : World) (g i : Nat) (s : ByteArray) (a : Nat) (n : Int) (b m : Nat) : World := ((((w.setCell ⟨g, i * 5, none⟩ (.string s)).setCell ⟨g, i * 5 + 1, none⟩ (.float .f64 a)).setCell ⟨g, i * 5 + 2, none⟩ (.int .i64 n)).setCell ⟨g, i * 5 + 3, none⟩ (.float .f64 b)).setCell ⟨g, i * 5 + 4, none⟩ (.float .f64 m)
theorem Asd.more {P P' P'' : Nat → Prop} {a b d : World} (h : Asd P P' a b) (k : Asd P' P'' b d) : Asd P P'' a d := h.trans k
theorem Rk.set5 {g cp i : Nat} (h : Rk w0 q c (.slice (some ⟨g, 0, none⟩) c.ts.length cp) w) (hi : i < c.ts.length) {k : List UInt8} {s : ByteArray} (hs : (⟨k.toArray⟩ : ByteArray) = s) (a : Nat) (n : Int) (b m : Nat) :
    Rk w0 q ⟨c.now, c.ts.set i ⟨k, a, n, b, m⟩⟩ (.slice (some ⟨g, 0, none⟩) c.ts.length cp) (set5 w g i s a n b m) ∧ Asd (Or q (.slice (some ⟨g, 0, none⟩) c.ts.length cp)) (Or q (.slice (some ⟨g, 0, none⟩) c.ts.length cp)) w (set5 w g i s a n b m) := by
  subst hs
  have hne : q ≠ g := fun e => h.ne (by rw [e]; rfl)
  have o1 := ((((h.own.stored (i * 5) (encStr k)).1.stored (i * 5 + 1) (.float .f64 a)).1.stored (i * 5 + 2) (.int .i64 n)).1.stored (i * 5 + 3) (.float .f64 b)).1.stored (i * 5 + 4) (.float .f64 m)
  rw [row_set5 c.ts i hi ⟨k, a, n, b, m⟩] at o1
  have A : ∀ (w : World) (j : Nat) (y : Value), Asd (Or q (.slice (some ⟨g, 0, none⟩) c.ts.length cp)) (Or q (.slice (some ⟨g, 0, none⟩) c.ts.length cp)) w (w.setCell ⟨g, j, none⟩ y) := fun w j y => asd_setN (.inr rfl) y
  refine ⟨⟨?_, h.bq, ?_⟩, ((((A _ _ _).trans (A _ _ _)).trans (A _ _ _)).trans (A _ _ _)).trans (A _ _ _)⟩
  · unfold Go.Proofs.YtanbeaebdingeaaDoor.set5
    rw [Below.heap_setCell _ _ _ _ hne, Below.heap_setCell _ _ _ _ hne, Below.heap_setCell _ _ _ _ hne, Below.heap_setCell _ _ _ _ hne, Below.heap_setCell _ _ _ _ hne]
    exact h.row
  · rw [List.length_set]
    exact o1.1
set_option maxRecDepth 100000 in
theorem rkSet_form {k : List UInt8} {b m : Nat} (hb64 : b < 18446744073709551616) (hm64 : m < 18446744073709551616) (hd : (Fl.dl b && Fl.dl m) = false) : Calls Tryd.prog 28 #[.pointer (some ⟨q, 0, none⟩), encStr k, .float .f64 b, .float .f64 m] w fun r w' => r = .returned (.int .i64 4) ∧ Kp w w' := by
  have KW := Lib.hid (Kp.refl w)
  unfold encStr
  cases h1 : Fl.dl b with
  | false =>
    have HB := Lib.hid (fun w1 : World => refDelay_f b w1 hb64 h1)
    clear hd h1 hb64 hm64
    go_enter Tryd.func28, Tryd.ntmps28
    go_wp2_with (go_at_call 43; (with_reducible refine (HB.out _).mono ?_); rintro e' w4 ⟨rfl, rfl⟩)
    go_ret
    exact ⟨rfl, KW.out⟩
  | true =>
    rw [h1, Bool.true_and] at hd
    have HB := Lib.hid (fun w1 : World => refDelay_t b w1 hb64 h1)
    have HM := Lib.hid (fun w1 : World => refDelay_f m w1 hm64 hd)
    clear hd h1 hb64 hm64
    go_enter Tryd.func28, Tryd.ntmps28
    go_wp2_with (first | (go_at_call 43; (with_reducible refine (HM.out _).mono ?_); rintro e' w5 ⟨rfl, rfl⟩) | (go_at_call 43; (with_reducible refine (HB.out _).mono ?_); rintro e' w4 ⟨rfl, rfl⟩))
    go_ret
    exact ⟨rfl, KW.out⟩
set_option maxRecDepth 100000 in
theorem rkSet_full (H : Rk w0 q c v w) (ok : CkOk c) {k : List UInt8} {b m : Nat} (hb : Fl.dl b = true) (hm : Fl.dl m = true) (h1 : c.has k = false) (h2 : 63 < c.ts.length) : Calls Tryd.prog 28 #[.pointer (some ⟨q, 0, none⟩), encStr k, .float .f64 b, .float .f64 m] w fun r w' => r = .returned (.int .i64 6) ∧ Kp w w' := by
  have HB := Lib.hid (fun w1 : World => refDelay_t b w1 (Fl.dl_lt hb) hb)
  have HM := Lib.hid (fun w1 : World => refDelay_t m w1 (Fl.dl_lt hm) hm)
  have hfi := rkFind H ok.len k
  obtain ⟨ii, hii⟩ : ∃ x, c.findI k = x := ⟨_, rfl⟩
  obtain ⟨s, hs⟩ : ∃ s, (⟨k.toArray⟩ : ByteArray) = s := ⟨_, rfl⟩
  rw [hii] at hfi
  unfold encStr at hfi ⊢
  rw [hs] at hfi ⊢
  have HF := Lib.hid hfi
  have hneg : ii < 0 := by rw [← hii]; exact (findI_neg k).2 h1
  obtain ⟨av, cv, rfl⟩ := H.form
  have HH := Lib.hid H
  obtain ⟨L, hL⟩ : ∃ L : Int, (c.ts.length : Int) = L := ⟨_, rfl⟩
  have g1 : decide (L > 63) = true := decide_eq_true (by omega)
  have g2 : decide (ii < 0) = true := decide_eq_true hneg
  obtain ⟨len, hlen⟩ : ∃ m, c.ts.length = m := ⟨_, rfl⟩
  have e0 : ∀ w1, Kp w w1 → w1.cell? ⟨q, 1, none⟩ = some (.slice av len cv) := fun w1 hk => by rw [← hlen]; exact cell_row (i := 1) (HH.out.kp hk).row rfl
  have E0 := Lib.hid e0
  rw [hlen] at hL
  clear H hfi hb hm h1 h2 hii hs ok hlen e0 hneg
  go_enter Tryd.func28, Tryd.ntmps28
  go_wp2_with (first | (go_at_call 20; (with_reducible refine HF.out.mono ?_); rintro e' w6 ⟨rfl, hk6⟩; have e1 := E0.out _ hk6) | (go_at_call 43; (with_reducible refine (HM.out _).mono ?_); rintro e' w5 ⟨rfl, rfl⟩) | (go_at_call 43; (with_reducible refine (HB.out _).mono ?_); rintro e' w4 ⟨rfl, rfl⟩))
  go_ret
  exact ⟨rfl, hk6⟩
theorem part_oneT {W : World} {bx : Nat} {k : List UInt8} {s : ByteArray} {a : Nat} {n : Int} {b m : Nat} (h : W.heap[bx]? = some (.cells #[.string s, .float .f64 a, .int .i64 n, .float .f64 b, .float .f64 m] 47 (0, 0))) (hs : (⟨k.toArray⟩ : ByteArray) = s) : PartG tmE (.slice (some ⟨bx, 0, none⟩) 1 1) [⟨k, a, n, b, m⟩] W := by
  subst hs
  refine ⟨_, _, rfl, fun e => (by cases e), fun ad e j u hj => ?_⟩
  injection e with e
  subst e
  rw [Addr.add_lit, Nat.zero_add]
  match j, hj with
  | 0, hj => simp [EncG.row, tmE] at hj; subst hj; exact cell_row h rfl
  | 1, hj => simp [EncG.row, tmE] at hj; subst hj; exact cell_row h rfl
  | 2, hj => simp [EncG.row, tmE] at hj; subst hj; exact cell_row h rfl
  | 3, hj => simp [EncG.row, tmE] at hj; subst hj; exact cell_row h rfl
  | 4, hj => simp [EncG.row, tmE] at hj; subst hj; exact cell_row h rfl
  | j + 5, hj => simp [EncG.row, tmE] at hj
set_option maxRecDepth 100000 in
set_option maxHeartbeats 1000000 in
theorem rkSet_add (H : Rk w0 q c v w) (ok : CkOk c) {k : List UInt8} {b m : Nat} (hb : Fl.dl b = true) (hm : Fl.dl m = true) (h1 : c.has k = false) (h2 : ¬ 63 < c.ts.length) : Calls Tryd.prog 28 #[.pointer (some ⟨q, 0, none⟩), encStr k, .float .f64 b, .float .f64 m] w fun r w' => r = .returned (.int .i64 0) ∧ ∃ v', Rk w0 q (c.put (c.setT k b m)) v' w' ∧ Asd (Or q v) (Or q v') w w' := by
  have HB := Lib.hid (fun w1 : World => refDelay_t b w1 (Fl.dl_lt hb) hb)
  have HM := Lib.hid (fun w1 : World => refDelay_t m w1 (Fl.dl_lt hm) hm)
  have hfi := rkFind H ok.len k
  obtain ⟨ii, hii⟩ : ∃ x, c.findI k = x := ⟨_, rfl⟩
  obtain ⟨s, hs⟩ : ∃ s, (⟨k.toArray⟩ : ByteArray) = s := ⟨_, rfl⟩
  rw [hii] at hfi
  unfold encStr at hfi ⊢
  rw [hs] at hfi ⊢
  have HF := Lib.hid hfi
  have hrr := (add_le ok.now (backR_le b 0 m hm)).1
  obtain ⟨d, hdd⟩ : ∃ d, Fl.backR b 0 m = d := ⟨_, rfl⟩
  obtain ⟨r, hr⟩ : ∃ r, Fl.addR c.now d = r := ⟨_, rfl⟩
  rw [hdd, hr] at hrr
  have hbk : ∀ w1 : World, Calls Tryd.prog 45 #[.float .f64 b, .int .i64 0, .float .f64 m] w1 fun e w' => e = .returned (.tuple #[.float .f64 d, .int .i64 0]) ∧ w1 = w' := fun w1 => by rw [← hdd]; exact refBack_ok b m 0 w1 hb hm (by omega)
  have HBK := Lib.hid hbk
  have hadd : ∀ w, (binOp .add 28 (.float .f64 c.now) (.float .f64 d)).run Tryd.prog w = .ok (.float .f64 r) w := fun w => run_float_arith w .add 28 .f64 c.now d r hrr
  have hneg : ii < 0 := by rw [← hii]; exact (findI_neg k).2 h1
  have hput : c.put (c.setT k b m) = ⟨c.now, c.ts ++ [⟨k, r, 0, b, m⟩]⟩ := by
    unfold CkM.put CkM.setT
    rw [hdd, hr]
    dsimp only
    rw [if_neg (fun e => by rw [idx_lt, h1] at e; cases e)]
  rw [hput]
  obtain ⟨av, cv, rfl⟩ := H.form
  have HH := Lib.hid H
  obtain ⟨L, hL⟩ : ∃ L : Int, (c.ts.length : Int) = L := ⟨_, rfl⟩
  have g1 : decide (L > 63) = false := decide_eq_false (by omega)
  have g2 : decide (ii < 0) = true := decide_eq_true hneg
  obtain ⟨len, hlen⟩ : ∃ m, c.ts.length = m := ⟨_, rfl⟩
  have e0 : ∀ w1, Kp w w1 → w1.cell? ⟨q, 1, none⟩ = some (.slice av len cv) ∧ w1.cell? ⟨q, 0, none⟩ = some (.float .f64 c.now) := fun w1 hk => by rw [← hlen]; exact ⟨cell_row (i := 1) (HH.out.kp hk).row rfl, cell_row (i := 0) (HH.out.kp hk).row rfl⟩
  have E0 := Lib.hid e0
  rw [hlen] at hL
  have HS := Lib.hid hs
  have HLEN := Lib.hid hlen
  have H63 := Lib.hid h2
  have hsf := store_fl
  clear H hfi hb hm h1 h2 hii hs ok hlen e0 hneg hbk hrr hdd hr hput
  go_enter Tryd.func28, Tryd.ntmps28
  go_wp2_with (first | (go_at_call 45; (with_reducible refine (HBK.out _).mono ?_); rintro e' w7 ⟨rfl, rfl⟩) | (go_at_call 20; (with_reducible refine HF.out.mono ?_); rintro e' w6 ⟨rfl, hk6⟩; obtain ⟨e1, e2⟩ := E0.out _ hk6; have HK6 := Lib.hid hk6; clear hk6) | (go_at_call 43; (with_reducible refine (HM.out _).mono ?_); rintro e' w5 ⟨rfl, rfl⟩) | (go_at_call 43; (with_reducible refine (HB.out _).mono ?_); rintro e' w4 ⟨rfl, rfl⟩))
  obtain ⟨bx, hbx⟩ : ∃ x, w6.heap.size = x := ⟨_, rfl⟩
  have hy := (MapKept.heap_alloc w6 (.cells #[.string s, .float .f64 r, .int .i64 0, .float .f64 b, .float .f64 m] 47)).1
  have ky := Kp.trans HK6.out (kp_alloc w6 (.cells #[.string s, .float .f64 r, .int .i64 0, .float .f64 b, .float .f64 m] 47))
  have hno : ∀ b, Or q (.slice av c.ts.length cv) b → b < bx := fun b hb => by rw [← hbx]; exact Nat.lt_of_lt_of_le (HH.out.mem b hb).2 (Below.size HK6.out)
  rw [hbx] at hy
  try rw [hbx]
  obtain ⟨Y, hY⟩ : ∃ Y, w6.alloc (.cells #[.string s, .float .f64 r, .int .i64 0, .float .f64 b, .float .f64 m] 47) = Y := ⟨_, rfl⟩
  rw [hY] at hy ky ⊢
  have kd : Kp Y Y.drew := kp_drewR (Kp.refl _)
  obtain ⟨XD, hXD⟩ : ∃ D, Y.drew = D := ⟨_, rfl⟩
  rw [hXD] at kd
  have RX := Lib.hid hy
  have ND := Lib.hid (HH.out.kp (Kp.trans ky kd))
  have AD := Lib.hid (Asd.of_kp (Or q (.slice av c.ts.length cv)) (Kp.trans ky kd))
  have HXD := Lib.hid hXD
  have HNO := Lib.hid hno
  have KD := Lib.hid kd
  have d1 : XD.cell? ⟨q, 1, none⟩ = some (.slice av len cv) := by rw [← HLEN.out]; exact cell_row (i := 1) ND.out.row rfl
  clear hy ky hY kd hXD hno hbx e1 e2 g1 g2
  refine wp_region_held_drew (S := fun w' => w'.heap[bx]? = some (.cells #[.string s, .float .f64 r, .int .i64 0, .float .f64 b, .float .f64 m] 47)) (by kernel_rfl) ?_ (fun hHeld => ?_)
  · exact kp_row (kp_drewR (Kp.refl _)) RX.out
  rw [HXD.out] at hHeld ⊢
  refine wpAnyH_take (i := 0) (v := ?_) rfl (by kernel_rfl) (by kernel_rfl) (by kernel_rfl) (fun _ _ _ h => h) (Or.inl ⟨by rfl, ?_⟩) (by assumption) ?_
  rotate_left
  · intro w hSw; go_simp; try with_reducible rfl
  go_simp
  refine wpAnyH_take (i := 1) (v := ?_) rfl (by kernel_rfl) (by kernel_rfl) (by kernel_rfl) (fun _ _ _ h => h) (Or.inl ⟨by rfl, ?_⟩) (by assumption) ?_
  rotate_left
  · intro w hSw; go_simp; try with_reducible rfl
  go_simp
  refine wpAnyH_take (i := 2) (v := ?_) rfl (by kernel_rfl) (by kernel_rfl) (by kernel_rfl) (fun _ _ _ h => h) (Or.inl ⟨by rfl, ?_⟩) (by assumption) ?_
  rotate_left
  · intro w hSw; go_simp; try with_reducible rfl
  go_simp
  refine wpAnyH_take (i := 3) (v := ?_) rfl (by kernel_rfl) (by kernel_rfl) (by kernel_rfl) (fun _ _ _ h => h) (Or.inl ⟨by rfl, ?_⟩) (by assumption) ?_
  rotate_left
  · intro w hSw; go_simp; try with_reducible rfl
  go_simp
  refine wpAnyH_take (i := 5) (v := ?_) rfl (by kernel_rfl) (by kernel_rfl) (by kernel_rfl) (fun _ _ _ h => h) (Or.inl ⟨by rfl, ?_⟩) (by assumption) ?_
  rotate_left
  · intro w hSw; have q0 := cell_row (i := 0) hSw rfl; have q1 := cell_row (i := 1) hSw rfl; have q2 := cell_row (i := 2) hSw rfl; have q3 := cell_row (i := 3) hSw rfl; have q4 := cell_row (i := 4) hSw rfl; go_simp; try with_reducible rfl
  go_simp
  refine wpAnyH_ready (rs := [4, 6]) (by kernel_rfl) (by simp) ?_
  refine AllReadyH.cons rfl (fun K hK => ?_) (AllReadyH.cons rfl (fun K hK => ?_) AllReadyH.nil)
  · go_simp
    refine hK.out _ _ hHeld (fun hHeld => ?_)
    clear hK K
    refine wpAnyH_ready (rs := [6]) (by kernel_rfl) (by simp) ?_
    refine AllReadyH.cons rfl (fun K hK => ?_) AllReadyH.nil
    go_simp
    refine hK.out _ _ (kp_row (kp_alloc _ _) hHeld) (fun hHeld => ?_)
    clear hK K
    obtain ⟨Z, hZ⟩ : ∃ Z, XD.alloc (.cells #[.string s, .float .f64 r, .int .i64 0, .float .f64 b, .float .f64 m] 47) = Z := ⟨_, rfl⟩
    have kz : Kp XD Z := by rw [← hZ]; exact kp_alloc _ _
    have rz : Z.heap[XD.heap.size]? = some (.cells #[.string s, .float .f64 r, .int .i64 0, .float .f64 b, .float .f64 m] 47) := by rw [← hZ]; exact (MapKept.heap_alloc XD (.cells #[.string s, .float .f64 r, .int .i64 0, .float .f64 b, .float .f64 m] 47)).1
    have KZ := Lib.hid kz
    have PZ := Lib.hid (part_oneT rz HS.out)
    have NZ := Lib.hid (ND.out.kp kz)
    have z1 : Z.cell? ⟨q, 1, none⟩ = some (.slice av len cv) := by rw [← HLEN.out]; exact cell_row (i := 1) NZ.out.row rfl
    rw [hZ] at hHeld ⊢
    clear hZ kz rz
    refine wpAnyH_ready (rs := [7]) (by kernel_rfl) (by simp) ?_
    refine AllReadyH.consLG rfl (fun K hK => ?_) AllReadyH.nil
    go_simp
    refine wpList_append_rwG (E := tmE) ty_rt (by decide) _ rfl _ _ rfl w0.heap.size _ _ c.ts rfl (by have o := NZ.out.own; rw [HLEN.out] at o; exact o) _ [⟨k, r, 0, b, m⟩] rfl PZ.out ?f1 ?f2 ?_
    case f1 => have := H63.out; have := HLEN.out; simp; omega
    case f2 => have := NZ.out.bq; have := old_of_row NZ.out.row; omega
    rintro v3 w3 ho hg hb
    obtain ⟨ad3, c3, rfl⟩ := own_formG ho
    have RF := Lib.hid (ND.out.rep KZ.out (by rw [HLEN.out]; exact hg) (L := len + 1) (f := c.ts ++ [⟨k, r, 0, b, m⟩]) (by rw [List.length_append, HLEN.out]; rfl) (show w3.ownsRow w0.heap.size 47 5 (.slice ad3 (len + 1) c3) (len + 1) (tmE.row (c.ts ++ [⟨k, r, 0, b, m⟩])) from ho) (fun b e => (hb b e).imp (fun e => by rw [HLEN.out]; exact e) (fun e => Nat.le_trans (Below.size KZ.out) e)))
    have r4 := (hg.block q (old_of_row NZ.out.row) (fun e => NZ.out.ne (by rw [HLEN.out]; exact e.symm))).trans NZ.out.row
    have y1 := cell_row (i := 1) r4 rfl
    have fz := frozR r4
    have hHeld3 := (hg.block bx (old_of_row hHeld) (fun e => Nat.lt_irrefl _ (HNO.out bx (.inr (by rw [HLEN.out]; exact e.symm))))).trans hHeld
    refine hK.out _ _ hHeld3 (fun hHeld => ?_)
    clear hK K ho hg hb r4 hHeld3
    refine wpAnyH_take (i := 8) (v := ?_) rfl (by kernel_rfl) (by kernel_rfl) (by kernel_rfl) (fun _ _ _ h => h) (Or.inl ⟨by rfl, ?_⟩) (by assumption) ?_
    rotate_left
    · intro w hSw; go_simp; try with_reducible rfl
    go_simp
    refine wpAnyH_take (i := 9) (v := ?_) rfl (by kernel_rfl) (by kernel_rfl) (by kernel_rfl) (fun _ _ _ h => h) (Or.inl ⟨by rfl, ?_⟩) (by assumption) ?_
    rotate_left
    · intro w hSw; go_simp; try with_reducible rfl
    go_simp
    refine wpAnyH_ready (rs := [10]) (by kernel_rfl) (by simp) ?_
    refine AllReadyH.cons rfl (fun K hK => ?_) AllReadyH.nil
    go_simp
    refine hK.out _ _ ?_ (fun hHeld => ?_)
    · exact (Below.heap_setCell _ _ _ _ (fun e => Nat.lt_irrefl _ (HNO.out bx (.inl e)))).trans hHeld
    clear hK K
    refine wpAnyH_done (by kernel_rfl) ?_ _
    go_wp2
    go_ret
    exact ⟨rfl, _, RF.out.1, AD.out.trans RF.out.2⟩
  · go_simp
    refine hK.out _ _ (kp_row (kp_alloc _ _) hHeld) (fun hHeld => ?_)
    clear hK K
    obtain ⟨Z, hZ⟩ : ∃ Z, XD.alloc (.cells #[.string s, .float .f64 r, .int .i64 0, .float .f64 b, .float .f64 m] 47) = Z := ⟨_, rfl⟩
    have kz : Kp XD Z := by rw [← hZ]; exact kp_alloc _ _
    have rz : Z.heap[XD.heap.size]? = some (.cells #[.string s, .float .f64 r, .int .i64 0, .float .f64 b, .float .f64 m] 47) := by rw [← hZ]; exact (MapKept.heap_alloc XD (.cells #[.string s, .float .f64 r, .int .i64 0, .float .f64 b, .float .f64 m] 47)).1
    have KZ := Lib.hid kz
    have PZ := Lib.hid (part_oneT rz HS.out)
    have NZ := Lib.hid (ND.out.kp kz)
    have z1 : Z.cell? ⟨q, 1, none⟩ = some (.slice av len cv) := by rw [← HLEN.out]; exact cell_row (i := 1) NZ.out.row rfl
    rw [hZ] at hHeld ⊢
    clear hZ kz rz
    refine wpAnyH_ready (rs := [4]) (by kernel_rfl) (by simp) ?_
    refine AllReadyH.cons rfl (fun K hK => ?_) AllReadyH.nil
    go_simp
    refine hK.out _ _ hHeld (fun hHeld => ?_)
    clear hK K
    refine wpAnyH_ready (rs := [7]) (by kernel_rfl) (by simp) ?_
    refine AllReadyH.consLG rfl (fun K hK => ?_) AllReadyH.nil
    go_simp
    refine wpList_append_rwG (E := tmE) ty_rt (by decide) _ rfl _ _ rfl w0.heap.size _ _ c.ts rfl (by have o := NZ.out.own; rw [HLEN.out] at o; exact o) _ [⟨k, r, 0, b, m⟩] rfl PZ.out ?f1 ?f2 ?_
    case f1 => have := H63.out; have := HLEN.out; simp; omega
    case f2 => have := NZ.out.bq; have := old_of_row NZ.out.row; omega
    rintro v3 w3 ho hg hb
    obtain ⟨ad3, c3, rfl⟩ := own_formG ho
    have RF := Lib.hid (ND.out.rep KZ.out (by rw [HLEN.out]; exact hg) (L := len + 1) (f := c.ts ++ [⟨k, r, 0, b, m⟩]) (by rw [List.length_append, HLEN.out]; rfl) (show w3.ownsRow w0.heap.size 47 5 (.slice ad3 (len + 1) c3) (len + 1) (tmE.row (c.ts ++ [⟨k, r, 0, b, m⟩])) from ho) (fun b e => (hb b e).imp (fun e => by rw [HLEN.out]; exact e) (fun e => Nat.le_trans (Below.size KZ.out) e)))
    have r4 := (hg.block q (old_of_row NZ.out.row) (fun e => NZ.out.ne (by rw [HLEN.out]; exact e.symm))).trans NZ.out.row
    have y1 := cell_row (i := 1) r4 rfl
    have fz := frozR r4
    have hHeld3 := (hg.block bx (old_of_row hHeld) (fun e => Nat.lt_irrefl _ (HNO.out bx (.inr (by rw [HLEN.out]; exact e.symm))))).trans hHeld
    refine hK.out _ _ hHeld3 (fun hHeld => ?_)
    clear hK K ho hg hb r4 hHeld3
    refine wpAnyH_take (i := 8) (v := ?_) rfl (by kernel_rfl) (by kernel_rfl) (by kernel_rfl) (fun _ _ _ h => h) (Or.inl ⟨by rfl, ?_⟩) (by assumption) ?_
    rotate_left
    · intro w hSw; go_simp; try with_reducible rfl
    go_simp
    refine wpAnyH_take (i := 9) (v := ?_) rfl (by kernel_rfl) (by kernel_rfl) (by kernel_rfl) (fun _ _ _ h => h) (Or.inl ⟨by rfl, ?_⟩) (by assumption) ?_
    rotate_left
    · intro w hSw; go_simp; try with_reducible rfl
    go_simp
    refine wpAnyH_ready (rs := [10]) (by kernel_rfl) (by simp) ?_
    refine AllReadyH.cons rfl (fun K hK => ?_) AllReadyH.nil
    go_simp
    refine hK.out _ _ ?_ (fun hHeld => ?_)
    · exact (Below.heap_setCell _ _ _ _ (fun e => Nat.lt_irrefl _ (HNO.out bx (.inl e)))).trans hHeld
    clear hK K
    refine wpAnyH_done (by kernel_rfl) ?_ _
    go_wp2
    go_ret
    exact ⟨rfl, _, RF.out.1, AD.out.trans RF.out.2⟩
end Go.Proofs.YtanbeaebdingeaaDoor
