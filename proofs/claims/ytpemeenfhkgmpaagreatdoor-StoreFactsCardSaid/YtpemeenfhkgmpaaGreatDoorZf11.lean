/- Parts of this proof (own work). -/
import Derived.Test.YtpemeenfhkgmpaaGreatDoorZf10
set_option maxRecDepth 100000
set_option maxHeartbeats 40000000
namespace Go.Proofs.YtpemeenfhkgmpaaGreatDoor
open Go.RowKit Go.ChangeShapes Go.WideShapes
structure Xb (p : Nat) (w w' : World) : Prop where
 os : w'.os = w.os
 tape : w'.tape = w.tape
 output : w'.output = w.output
 size : w.heap.size ≤ w'.heap.size
 block : ∀ k, k < w.heap.size → k ≠ p → w'.heap[k]? = w.heap[k]?
theorem Xb.of_kp {p : Nat} {w w' : World} (h : Kp w w') : Xb p w w' := ⟨h.os, h.tape, h.output, h.size, fun k hk _ => h.block k hk⟩
theorem Xb.trans {p : Nat} {a b c : World} (h : Xb p a b) (k : Xb p b c) : Xb p a c :=
 ⟨k.os.trans h.os, k.tape.trans h.tape, k.output.trans h.output, Nat.le_trans h.size k.size, fun i hi h1 => (k.block i (Nat.lt_of_lt_of_le hi h.size) h1).trans (h.block i hi h1)⟩
theorem Xb.kp {p : Nat} {a b c : World} (h : Xb p a b) (k : Kp b c) : Xb p a c := h.trans (Xb.of_kp k)
theorem Xb.set {p : Nat} {w w' : World} (h : Xb p w w') (i : Nat) (v : Value) : Xb p w (w'.setCell ⟨p, i, none⟩ v) :=
 ⟨h.os, h.tape, h.output, by simp; exact h.size, fun k hk h1 => by rw [bS _ _ _ _ h1]; exact h.block k hk h1⟩
theorem Xb.below {p : Nat} {w0 w w' : World} (h : Xb p w w') (hp : w0.heap.size ≤ p) (hk : Kp w0 w) : Kp w0 w' :=
 Below.trans hk ⟨h.os, h.tape, h.output, h.size, fun k q => h.block k (Nat.lt_of_lt_of_le q hk.size) (by omega)⟩
theorem Xb.row {p b : Nat} {w w' : World} {o : Obj} (h : Xb p w w') (hb : b ≠ p) (hr : w.heap[b]? = some o) : w'.heap[b]? = some o := by
 rw [h.block b (oZ hr) hb]; exact hr
theorem Xb.cell {p : Nat} {w w' : World} {q : Addr} {v : Value} (h : Xb p w w') (hp : q.block ≠ p) (hc : w.cell? q = some v) : w'.cell? q = some v := by
 rw [← hc]; exact World.cell?_of_block (h.block _ (old_of_cell hc) hp)
def RuV (B : Nat) (w : World) (v : Value) : RuM → Prop
 | .rg tag lo hi => ∃ p q r : Nat, v = .func (.func 142) #[] #[.pointer (some ⟨p, 0, none⟩), .pointer (some ⟨q, 0, none⟩), .pointer (some ⟨r, 0, none⟩)] ∧ (p ≠ B ∧ q ≠ B ∧ r ≠ B) ∧ (1 ≤ tag ∧ tag ≤ 13) ∧ w.heap[p]? = some (boxI tag) ∧ w.heap[q]? = some (boxI lo) ∧ w.heap[r]? = some (boxI hi)
 | .act => v = .func (.func 104) #[] #[]
 | .ctx => v = .func (.func 103) #[] #[]
 | .seat => v = .func (.func 105) #[] #[]
theorem RuV.xb {B : Nat} {w w' : World} {v : Value} {r : RuM} (h : RuV B w v r) (hk : Xb B w w') : RuV B w' v r := by
 cases r with
 | rg tag lo hi =>
  obtain ⟨p, q, r, e, hn, ht, h1, h2, h3⟩ := h; exact ⟨p, q, r, e, hn, ht, hk.row hn.1 h1, hk.row hn.2.1 h2, hk.row hn.2.2 h3⟩
 | act => exact h
 | ctx => exact h
 | seat => exact h
theorem rA (tag : Nat) (tg lo hi : Int) (htg : (tag : Int) = tg) (ht : 1 ≤ tag ∧ tag ≤ 13) (B : Nat) (w : World) (hB : B < w.heap.size) :
  Calls Tryz.prog 102 #[.int .i64 tg, .int .i64 lo, .int .i64 hi] w fun e w' => ∃ v, e = .returned v ∧ RuV B w' v (.rg tag lo hi) ∧ Kp w w' := by
 have hmf : ∀ (fn : Fn) (first cap : Array Value) (w : World), (Instr.makeFunc fn first cap).run Tryz.prog w = .ok (.func fn first cap) w := fun _ _ _ _ => rfl
 have b0 := (mH w (boxI tg))
 have b1 := (mH (w.alloc (boxI tg)) (boxI lo))
 have b2 := (mH ((w.alloc (boxI tg)).alloc (boxI lo)) (boxI hi))
 have k1 := kA (w.alloc (boxI tg)) (boxI lo); have k2 := kA ((w.alloc (boxI tg)).alloc (boxI lo)) (boxI hi); have H0 := hD (rZ (kT k1 k2) b0); have H1 := hD (rZ k2 b1); have H2 := hD b2; have K := hD (kT (kA w (boxI tg)) (kT k1 k2)); clear b0 b1 b2 k1 k2; go_enter Tryz.func102, Tryz.ntmps102; go_wp2; go_ret; subst htg; have e1 : (w.alloc (boxI (tag : Int))).heap.size = w.heap.size + 1 := by simp
 have e2 : ((w.alloc (boxI (tag : Int))).alloc (boxI lo)).heap.size = w.heap.size + 1 + 1 := by simp
 have h1 := H1.out; have h2 := H2.out; rw [e1] at h1; rw [e2] at h2; exact ⟨_, rfl, ⟨_, _, _, rfl, ⟨by omega, by omega, by omega⟩, ht, H0.out, h1, h2⟩, K.out⟩
theorem rg_call (tag : Nat) (tg lo hi : Int) (htg : (tag : Int) = tg) (ht : 1 ≤ tag ∧ tag ≤ 13) (B p q r : Nat) (l : List Int) (x : Nat) (hl : l.length = 13) (w : World) (hB : w.heap[B]? = some (.cells (numsF l x) 39 (0, 0))) (hn : p ≠ B ∧ q ≠ B ∧ r ≠ B) (hp : w.heap[p]? = some (boxI tg)) (hq : w.heap[q]? = some (boxI lo)) (hr : w.heap[r]? = some (boxI hi)) :
  Calls Tryz.prog 142 #[.pointer (some ⟨B, 0, none⟩), .pointer (some ⟨p, 0, none⟩), .pointer (some ⟨q, 0, none⟩), .pointer (some ⟨r, 0, none⟩)] w fun e w' => e = .returned (.bool (RuM.ok (.rg tag lo hi) l x)) ∧ w'.heap[B]? = some (.cells (numsF (RuM.tkL (.rg tag lo hi) l) x) 39 (0, 0)) ∧ Xb B w w' := by
 have cp := cell_of_one hp; have hj : tag - 1 < 13 := by omega
 have hjt : ((tag - 1 : Nat) : Int) + 1 = tg := by omega
 have hwp : IntKind.i64.wrap tg = tg := IntWalk.i64_in tg (by omega); obtain ⟨HQ, HR, HB⟩ := hD3 hq hr hB; clear hp hB hq hr; go_enter Tryz.func142, Tryz.ntmps142; go_wp2; refine rgW (fun w' => Kp w w') ?_ fun hH => ?_
 ·exact (Kp.refl w).drew
 refine tkP 0 ?_
 go_simp; refine tkP 2 ?_ (y := by intro w hZ; have q := kZ hZ cp; go_simp; try rfl)
 go_simp; refine rdW 1 fun K hK => ?_
 go_simp; go_wp2_with (go_at_call 87; (with_reducible refine (placesF_any B _).mono ?_); rintro e w4 ⟨rfl, hk4⟩; have K4 := hD (kT hH hk4); clear hk4)
 refine hK.out _ _ (K4.out) fun hH => ?_
 clear hK K; refine tkP 3 ?_ (y := by intro w hZ; have q := plF_at B (tag - 1) hj tg hjt w; go_simp; try rfl)
 go_simp; refine tkP 4 ?_
 go_simp; refine dnW ?_ _
 have hL := rZ hH HB.out; have hjl : tag - 1 < l.length := by omega
 have ct := numsF_cell hL (tag - 1) hjl; have zt := froz14 hL (tag - 1); have hgd : l.getD (tag - 1) 0 = l[tag - 1] := by simp [List.getD, hjl]
 obtain ⟨y, hy⟩ : ∃ y, l[tag - 1] = y := ⟨_, rfl⟩
 have LQ := hD (rZ hH HQ.out); have LR := hD (rZ hH HR.out); have cq : (w4.setCell ⟨B, tag - 1, none⟩ (.int .i64 0)).cell? ⟨q, 0, none⟩ = some (.int .i64 lo) := cell_of_one (by rw [bS _ _ _ _ hn.2.1]; exact LQ.out); have cr : (w4.setCell ⟨B, tag - 1, none⟩ (.int .i64 0)).cell? ⟨r, 0, none⟩ = some (.int .i64 hi) := cell_of_one (by rw [bS _ _ _ _ hn.2.2]; exact LR.out); have HS := hD (numsF_set hL (tag - 1) hjl 0); have HXB := hD ((Xb.of_kp (p := B) K4.out).set (tag - 1) (.int .i64 0)); have HOK : Hid (RuM.ok (.rg tag lo hi) l x = decide (lo ≤ y ∧ y ≤ hi)) := hD (by show decide (lo ≤ l.getD (tag - 1) 0 ∧ l.getD (tag - 1) 0 ≤ hi) = _; rw [hgd, hy]); rw [hy] at ct; clear hgd hy hL hjl hl hjt htg ht hn cp; go_wp2_with (go_at_call 62; (with_reducible refine (within_any _ _ _ _).mono ?_); rintro e w' ⟨rfl, rfl⟩)
 go_ret; exact ⟨by rw [HOK.out]; simp, HS.out, HXB.out⟩
theorem act_call (ads : List Addr) (w0 : World) (V : St ads w0) (T : Tab w0) (B : Nat) (hB0 : w0.heap.size ≤ B) (k n s r u p q o d a t hh c : Int) (x : Nat) (w : World) (K : Kp w0 w) (hB : w.heap[B]? = some (.cells #[k, n, s, r, u, p, q, o, d, a, t, hh, c, x] 39 (0, 0))) :
  Calls Tryz.prog 104 #[.pointer (some ⟨B, 0, none⟩)] w fun e w' => e = .returned (.bool (rightA n s)) ∧ w'.heap[B]? = some (.cells #[k, (0:Int), (0:Int), r, u, p, q, o, d, a, t, hh, c, x] 39 (0, 0)) ∧ Xb B w w' := by
 have hne : w.heap.size ≠ B := fun q => by have := oZ hB; omega
 obtain ⟨W0, hW0⟩ : ∃ y, w.alloc (.cells #[n, s] 36) = y := ⟨_, rfl⟩
 have kb : Kp w W0 := by rw [← hW0]; exact kA w (.cells #[n, s] 36)
 have hr : W0.heap[w.heap.size]? = some (.cells #[n, s] 36) := by rw [← hW0]; exact (mH w (.cells #[n, s] 36))
 have g0 := rZ kb hB; have g1 : (W0.setCell ⟨B, 1, none⟩ (.int .i64 0)).heap[B]? = some (.cells #[k, (0:Int), s, r, u, p, q, o, d, a, t, hh, c, x] 39 (0, 0)) := (Joins.block_setCell g0 _).trans rfl; have g2 : ((W0.setCell ⟨B, 1, none⟩ (.int .i64 0)).setCell ⟨B, 2, none⟩ (.int .i64 0)).heap[B]? = some (.cells #[k, (0:Int), (0:Int), r, u, p, q, o, d, a, t, hh, c, x] 39 (0, 0)) := (Joins.block_setCell g1 _).trans rfl; have xb : Xb B w ((W0.setCell ⟨B, 1, none⟩ (.int .i64 0)).setCell ⟨B, 2, none⟩ (.int .i64 0)) := Xb.set (Xb.set (Xb.of_kp kb) 1 (.int .i64 0)) 2 (.int .i64 0); have kw := xb.below hB0 K; have HA := hD (right_any ads ((W0.setCell ⟨B, 1, none⟩ (.int .i64 0)).setCell ⟨B, 2, none⟩ (.int .i64 0)) (V.below kw) (T.kp kw) n s); have hr2 : ((W0.setCell ⟨B, 1, none⟩ (.int .i64 0)).setCell ⟨B, 2, none⟩ (.int .i64 0)).heap[w.heap.size]? = some (.cells #[n, s] 36) := by rw [bS _ _ _ _ hne, bS _ _ _ _ hne]; exact hr
 obtain ⟨e0, e1⟩ := two_cells hr2; obtain ⟨b0, b1, b2, b3, b4, b5, b6, b7, b8, b9, b10, b11, b12, b13⟩ := cZ hB; obtain ⟨c0, c1, c2, c3, c4, c5, c6, c7, c8, c9, c10, c11, c12, c13⟩ := cZ g0; have z0 := froz14 g0; have c2' : (W0.setCell ⟨B, 1, none⟩ (.int .i64 0)).cell? ⟨B, 2, none⟩ = some (.int .i64 s) := (cZ g1).2.2.1; have z1 := froz14 g1; obtain ⟨G, XB⟩ := hD2 g2 xb; clear V T K hB hr g0 g1 g2 xb kw hr2 kb; go_enter Tryz.func104, Tryz.ntmps104; go_wp2_with (go_at_call 144; (with_reducible refine HA.out.mono ?_); rintro e w5 ⟨rfl, hk5⟩; have HK5 := hD hk5; clear hk5)
 go_ret; exact ⟨rfl, rZ HK5.out G.out, XB.out.kp HK5.out⟩
theorem ctx_call (ads : List Addr) (w0 : World) (V : St ads w0) (T : Tab w0) (B : Nat) (hB0 : w0.heap.size ≤ B) (k n s r u p q o d a t hh c : Int) (x : Nat) (w : World) (K : Kp w0 w) (hB : w.heap[B]? = some (.cells #[k, n, s, r, u, p, q, o, d, a, t, hh, c, x] 39 (0, 0))) (hx : x < 18446744073709551616) :
  Calls Tryz.prog 103 #[.pointer (some ⟨B, 0, none⟩)] w fun e w' => e = .returned (.bool (rightX ⟨n, s, o, d, x⟩)) ∧ w'.heap[B]? = some (.cells #[k, (0:Int), (0:Int), r, u, p, q, (0:Int), (0:Int), a, t, hh, c, .float .f64 0] 39 (0, 0)) ∧ Xb B w w' := by
 have hne : w.heap.size ≠ B := fun q => by have := oZ hB; omega
 have hsf := sF; obtain ⟨W0, hW0⟩ : ∃ y, (w.alloc (.cells #[n, s, o, d, x] 62)).drew = y := ⟨_, rfl⟩
 have kb : Kp w W0 := by rw [← hW0]; exact (kA w (.cells #[n, s, o, d, x] 62)).drew
 have hr : W0.heap[w.heap.size]? = some (.cells #[n, s, o, d, x] 62) := by rw [← hW0]; exact (mH w (.cells #[n, s, o, d, x] 62))
 have g0 := rZ kb hB; have g1 : (W0.setCell ⟨B, 1, none⟩ (.int .i64 0)).heap[B]? = some (.cells #[k, (0:Int), s, r, u, p, q, o, d, a, t, hh, c, x] 39 (0, 0)) := (Joins.block_setCell g0 _).trans rfl; have g2 : ((W0.setCell ⟨B, 1, none⟩ (.int .i64 0)).setCell ⟨B, 2, none⟩ (.int .i64 0)).heap[B]? = some (.cells #[k, (0:Int), (0:Int), r, u, p, q, o, d, a, t, hh, c, x] 39 (0, 0)) := (Joins.block_setCell g1 _).trans rfl; have g3 : (((W0.setCell ⟨B, 1, none⟩ (.int .i64 0)).setCell ⟨B, 2, none⟩ (.int .i64 0)).setCell ⟨B, 7, none⟩ (.int .i64 0)).heap[B]? = some (.cells #[k, (0:Int), (0:Int), r, u, p, q, (0:Int), d, a, t, hh, c, x] 39 (0, 0)) := (Joins.block_setCell g2 _).trans rfl; have g4 : ((((W0.setCell ⟨B, 1, none⟩ (.int .i64 0)).setCell ⟨B, 2, none⟩ (.int .i64 0)).setCell ⟨B, 7, none⟩ (.int .i64 0)).setCell ⟨B, 8, none⟩ (.int .i64 0)).heap[B]? = some (.cells #[k, (0:Int), (0:Int), r, u, p, q, (0:Int), (0:Int), a, t, hh, c, x] 39 (0, 0)) := (Joins.block_setCell g3 _).trans rfl
 have g5 : (((((W0.setCell ⟨B, 1, none⟩ (.int .i64 0)).setCell ⟨B, 2, none⟩ (.int .i64 0)).setCell ⟨B, 7, none⟩ (.int .i64 0)).setCell ⟨B, 8, none⟩ (.int .i64 0)).setCell ⟨B, 13, none⟩ (.float .f64 0)).heap[B]? = some (.cells #[k, (0:Int), (0:Int), r, u, p, q, (0:Int), (0:Int), a, t, hh, c, .float .f64 0] 39 (0, 0)) := (Joins.block_setCell g4 _).trans rfl; have xb : Xb B w (((((W0.setCell ⟨B, 1, none⟩ (.int .i64 0)).setCell ⟨B, 2, none⟩ (.int .i64 0)).setCell ⟨B, 7, none⟩ (.int .i64 0)).setCell ⟨B, 8, none⟩ (.int .i64 0)).setCell ⟨B, 13, none⟩ (.float .f64 0)) := Xb.set (Xb.set (Xb.set (Xb.set (Xb.set (Xb.of_kp kb) 1 (.int .i64 0)) 2 (.int .i64 0)) 7 (.int .i64 0)) 8 (.int .i64 0)) 13 (.float .f64 0); have kw := xb.below hB0 K; have HA := hD (scoRight_any ads ⟨n, s, o, d, x⟩ hx (((((W0.setCell ⟨B, 1, none⟩ (.int .i64 0)).setCell ⟨B, 2, none⟩ (.int .i64 0)).setCell ⟨B, 7, none⟩ (.int .i64 0)).setCell ⟨B, 8, none⟩ (.int .i64 0)).setCell ⟨B, 13, none⟩ (.float .f64 0)) (V.below kw) (T.kp kw))
 dsimp only [CX.cells] at HA; have hr2 : (((((W0.setCell ⟨B, 1, none⟩ (.int .i64 0)).setCell ⟨B, 2, none⟩ (.int .i64 0)).setCell ⟨B, 7, none⟩ (.int .i64 0)).setCell ⟨B, 8, none⟩ (.int .i64 0)).setCell ⟨B, 13, none⟩ (.float .f64 0)).heap[w.heap.size]? = some (.cells #[n, s, o, d, x] 62) := by rw [bS _ _ _ _ hne, bS _ _ _ _ hne, bS _ _ _ _ hne, bS _ _ _ _ hne, bS _ _ _ _ hne]; exact hr
 obtain ⟨e0, e1, e2, e3, e4⟩ := cells5 hr2; obtain ⟨b0, b1, b2, b3, b4, b5, b6, b7, b8, b9, b10, b11, b12, b13⟩ := cZ hB; obtain ⟨c0, c1, c2, c3, c4, c5, c6, c7, c8, c9, c10, c11, c12, c13⟩ := cZ g0; obtain ⟨m0, m1, m2, m3, m4, m5, m6, m7, m8, m9, m10, m11, m12, m13⟩ := cZ (rZ (kA w (.cells #[(0:Int), (0:Int), (0:Int), (0:Int), .float .f64 0] 62)) hB); have hz := (mH w (.cells #[(0:Int), (0:Int), (0:Int), (0:Int), .float .f64 0] 62))
 have z0 := froz14 g0; have y1 : (W0.setCell ⟨B, 1, none⟩ (.int .i64 0)).cell? ⟨B, 2, none⟩ = some (.int .i64 s) := (cZ g1).2.2.1; have z1 := froz14 g1; have y2 : ((W0.setCell ⟨B, 1, none⟩ (.int .i64 0)).setCell ⟨B, 2, none⟩ (.int .i64 0)).cell? ⟨B, 7, none⟩ = some (.int .i64 o) := (cZ g2).2.2.2.2.2.2.2.1; have z2 := froz14 g2; have y3 : (((W0.setCell ⟨B, 1, none⟩ (.int .i64 0)).setCell ⟨B, 2, none⟩ (.int .i64 0)).setCell ⟨B, 7, none⟩ (.int .i64 0)).cell? ⟨B, 8, none⟩ = some (.int .i64 d) := (cZ g3).2.2.2.2.2.2.2.2.1; have z3 := froz14 g3; have y4 : ((((W0.setCell ⟨B, 1, none⟩ (.int .i64 0)).setCell ⟨B, 2, none⟩ (.int .i64 0)).setCell ⟨B, 7, none⟩ (.int .i64 0)).setCell ⟨B, 8, none⟩ (.int .i64 0)).cell? ⟨B, 13, none⟩ = some (.float .f64 x) := (cZ g4).2.2.2.2.2.2.2.2.2.2.2.2.2; have z4 := froz14 g4; obtain ⟨G, XB⟩ := hD2 g5 xb; clear V T K hB hr g0 g1 g2 g3 g4 g5 xb kw hr2 kb hx; go_enter Tryz.func103, Tryz.ntmps103
 go_wp2; go_region
 try rw [hW0]
 clear hW0; go_wp2_with (go_at_call 143; (with_reducible refine HA.out.mono ?_); rintro e w5 ⟨rfl, hk5⟩; have HK5 := hD hk5; clear hk5)
 go_ret; exact ⟨rfl, rZ HK5.out G.out, XB.out.kp HK5.out⟩
theorem seat_t (B : Nat) (k n s r u p q o d a t hh c : Int) (x : Nat) (w : World) (hB : w.heap[B]? = some (.cells #[k, n, s, r, u, p, q, o, d, a, t, hh, c, x] 39 (0, 0))) (ht : 1 ≤ t ∧ t ≤ 14) :
  Calls Tryz.prog 105 #[.pointer (some ⟨B, 0, none⟩)] w fun e w' => e = .returned (.bool (seatX t hh)) ∧ w'.heap[B]? = some (.cells #[k, n, s, r, u, p, q, o, d, a, (0:Int), (0:Int), c, x] 39 (0, 0)) ∧ Xb B w w' := by
 rw [seat_how]; obtain ⟨W0, hW0⟩ : ∃ y, w.drew = y := ⟨_, rfl⟩
 have kb : Kp w W0 := by rw [← hW0]; exact (Kp.refl w).drew
 have g0 := rZ kb hB; have g1 : (W0.setCell ⟨B, 10, none⟩ (.int .i64 0)).heap[B]? = some (.cells #[k, n, s, r, u, p, q, o, d, a, (0:Int), hh, c, x] 39 (0, 0)) := (Joins.block_setCell g0 _).trans rfl; have g2 : ((W0.setCell ⟨B, 10, none⟩ (.int .i64 0)).setCell ⟨B, 11, none⟩ (.int .i64 0)).heap[B]? = some (.cells #[k, n, s, r, u, p, q, o, d, a, (0:Int), (0:Int), c, x] 39 (0, 0)) := (Joins.block_setCell g1 _).trans rfl; have xb : Xb B w ((W0.setCell ⟨B, 10, none⟩ (.int .i64 0)).setCell ⟨B, 11, none⟩ (.int .i64 0)) := Xb.set (Xb.set (Xb.of_kp kb) 10 (.int .i64 0)) 11 (.int .i64 0); obtain ⟨b0, b1, b2, b3, b4, b5, b6, b7, b8, b9, b10, b11, b12, b13⟩ := cZ hB; obtain ⟨c0, c1, c2, c3, c4, c5, c6, c7, c8, c9, c10, c11, c12, c13⟩ := cZ g0; have z0 := froz14 g0; have y1 : (W0.setCell ⟨B, 10, none⟩ (.int .i64 0)).cell? ⟨B, 11, none⟩ = some (.int .i64 hh) := (cZ g1).2.2.2.2.2.2.2.2.2.2.2.1; have z1 := froz14 g1
 obtain ⟨G, XB⟩ := hD2 g2 xb; have h1 : decide (1 ≤ t ∧ t ≤ 14) = true := dT ht; rw [h1, Bool.true_and]; clear ht; clear hB g0 g1 g2 xb kb; go_enter Tryz.func105, Tryz.ntmps105; go_wp2; go_region
 try rw [hW0]
 clear hW0; go_wp2_with (first | (go_at_call 62; (with_reducible refine (within_any _ _ _ _).mono ?_); rintro e w' ⟨rfl, rfl⟩) | (go_at_call 145; (with_reducible refine (rightHow_any _ _ _).mono ?_); rintro e w' ⟨rfl, rfl⟩))
 go_ret; exact ⟨rfl, G.out, XB.out⟩
theorem seat_f (B : Nat) (k n s r u p q o d a t hh c : Int) (x : Nat) (w : World) (hB : w.heap[B]? = some (.cells #[k, n, s, r, u, p, q, o, d, a, t, hh, c, x] 39 (0, 0))) (ht : ¬ (1 ≤ t ∧ t ≤ 14)) :
  Calls Tryz.prog 105 #[.pointer (some ⟨B, 0, none⟩)] w fun e w' => e = .returned (.bool (seatX t hh)) ∧ w'.heap[B]? = some (.cells #[k, n, s, r, u, p, q, o, d, a, (0:Int), (0:Int), c, x] 39 (0, 0)) ∧ Xb B w w' := by
 rw [seat_how]; obtain ⟨W0, hW0⟩ : ∃ y, w.drew = y := ⟨_, rfl⟩
 have kb : Kp w W0 := by rw [← hW0]; exact (Kp.refl w).drew
 have g0 := rZ kb hB; have g1 : (W0.setCell ⟨B, 10, none⟩ (.int .i64 0)).heap[B]? = some (.cells #[k, n, s, r, u, p, q, o, d, a, (0:Int), hh, c, x] 39 (0, 0)) := (Joins.block_setCell g0 _).trans rfl; have g2 : ((W0.setCell ⟨B, 10, none⟩ (.int .i64 0)).setCell ⟨B, 11, none⟩ (.int .i64 0)).heap[B]? = some (.cells #[k, n, s, r, u, p, q, o, d, a, (0:Int), (0:Int), c, x] 39 (0, 0)) := (Joins.block_setCell g1 _).trans rfl; have xb : Xb B w ((W0.setCell ⟨B, 10, none⟩ (.int .i64 0)).setCell ⟨B, 11, none⟩ (.int .i64 0)) := Xb.set (Xb.set (Xb.of_kp kb) 10 (.int .i64 0)) 11 (.int .i64 0); obtain ⟨b0, b1, b2, b3, b4, b5, b6, b7, b8, b9, b10, b11, b12, b13⟩ := cZ hB; obtain ⟨c0, c1, c2, c3, c4, c5, c6, c7, c8, c9, c10, c11, c12, c13⟩ := cZ g0; have z0 := froz14 g0; have y1 : (W0.setCell ⟨B, 10, none⟩ (.int .i64 0)).cell? ⟨B, 11, none⟩ = some (.int .i64 hh) := (cZ g1).2.2.2.2.2.2.2.2.2.2.2.1; have z1 := froz14 g1
 obtain ⟨G, XB⟩ := hD2 g2 xb; have h1 : decide (1 ≤ t ∧ t ≤ 14) = false := dF ht; rw [h1, Bool.false_and]; clear ht; clear hB g0 g1 g2 xb kb; go_enter Tryz.func105, Tryz.ntmps105; go_wp2; go_region
 try rw [hW0]
 clear hW0; go_wp2_with (first | (go_at_call 62; (with_reducible refine (within_any _ _ _ _).mono ?_); rintro e w' ⟨rfl, rfl⟩))
 go_ret; exact ⟨rfl, G.out, XB.out⟩
def RuL (B : Nat) (v : Value) (rs : List RuM) (w : World) : Prop :=
 ∃ (b : Nat) (vs : List Value), v = .slice (some ⟨b, 0, none⟩) rs.length rs.length ∧ b ≠ B ∧ vs.length = rs.length ∧ (∃ t fr, w.heap[b]? = some (.cells vs.toArray t fr)) ∧ ∀ (j : Nat) (u : Value) (r : RuM), vs[j]? = some u → rs[j]? = some r → RuV B w u r
theorem RuL.xb {B : Nat} {v : Value} {rs : List RuM} {w w' : World} (h : RuL B v rs w) (hk : Xb B w w') : RuL B v rs w' := by
 obtain ⟨b, vs, h1, h2, h3, ⟨t, fr, h4⟩, h5⟩ := h; exact ⟨b, vs, h1, h2, h3, ⟨t, fr, hk.row h2 h4⟩, fun j u r hu hr => (h5 j u r hu hr).xb hk⟩
theorem rules_1 (B : Nat) (w : World) (hB : B < w.heap.size) : Calls Tryz.prog 63 #[.int .i64 1] w fun e w' => ∃ v, e = .returned v ∧ RuL B v (rulesM 1) w' ∧ Kp w w' := by
 have HS0 := hD hB; clear hB; go_enter Tryz.func63, Tryz.ntmps63; go_wp2_with (first
  | (go_at_call 102; (with_reducible refine (rA 4 4 0 5 rfl (by omega) B _ HS0.out).mono ?_); rintro e w1 ⟨v1, rfl, hv1, hk1⟩; obtain ⟨p1, q1, r1, rfl, hn1⟩ := hv1; obtain ⟨HV1, HK1⟩ := hD2 hn1 hk1; have HS1 := hD (Nat.lt_of_lt_of_le HS0.out hk1.size); clear hn1 hk1)
  | (go_at_call 102; (with_reducible refine (rA 6 6 0 7 rfl (by omega) B _ HS1.out).mono ?_); rintro e w2 ⟨v2, rfl, hv2, hk2⟩; obtain ⟨p2, q2, r2, rfl, hn2⟩ := hv2; obtain ⟨HV2, HK2⟩ := hD2 hn2 hk2; have HS2 := hD (Nat.lt_of_lt_of_le HS1.out hk2.size); clear hn2 hk2)
  | (go_at_call 102; (with_reducible refine (rA 7 7 1 2 rfl (by omega) B _ HS2.out).mono ?_); rintro e w3 ⟨v3, rfl, hv3, hk3⟩; obtain ⟨p3, q3, r3, rfl, hn3⟩ := hv3; obtain ⟨HV3, HK3⟩ := hD2 hn3 hk3; have HS3 := hD (Nat.lt_of_lt_of_le HS2.out hk3.size); clear hn3 hk3)
  | (go_at_call 102; (with_reducible refine (rA 10 10 0 8 rfl (by omega) B _ HS3.out).mono ?_); rintro e w4 ⟨v4, rfl, hv4, hk4⟩; obtain ⟨p4, q4, r4, rfl, hn4⟩ := hv4; obtain ⟨HV4, HK4⟩ := hD2 hn4 hk4; have HS4 := hD (Nat.lt_of_lt_of_le HS3.out hk4.size); clear hn4 hk4))
 go_ret; have KA := kA w4 (.cells #[.func (.func 103) #[] #[], .func (.func 142) #[] #[.pointer (some ⟨p4, 0, none⟩), .pointer (some ⟨q4, 0, none⟩), .pointer (some ⟨r4, 0, none⟩)]] 139); have hs := HS4.out; refine ⟨_, rfl, ⟨w4.heap.size, [.func (.func 103) #[] #[], .func (.func 142) #[] #[.pointer (some ⟨p4, 0, none⟩), .pointer (some ⟨q4, 0, none⟩), .pointer (some ⟨r4, 0, none⟩)]], rfl, by omega, rfl, ⟨_, _, (mH w4 _)⟩, ?_⟩, kT (kT (kT (kT (HK1.out) HK2.out) HK3.out) HK4.out) KA⟩
 intro j u r hu hr
 match j, u, r, hu, hr with
 | 0, u, r, hu, hr =>
  obtain rfl : .func (.func 103) #[] #[] = u := by simpa using hu
  obtain rfl : .ctx = r := by simpa [rulesM] using hr
  exact rfl
 | 1, u, r, hu, hr =>
  obtain rfl : .func (.func 142) #[] #[.pointer (some ⟨p4, 0, none⟩), .pointer (some ⟨q4, 0, none⟩), .pointer (some ⟨r4, 0, none⟩)] = u := by simpa using hu
  obtain rfl : (.rg 10 0 8) = r := by simpa [rulesM] using hr
  exact RuV.xb (show RuV B w4 _ (.rg _ _ _) from ⟨p4, q4, r4, rfl, HV4.out⟩) (Xb.of_kp (KA))
 | j + 2, u, r, hu, hr => simp at hu
theorem rules_2 (B : Nat) (w : World) (hB : B < w.heap.size) : Calls Tryz.prog 63 #[.int .i64 2] w fun e w' => ∃ v, e = .returned v ∧ RuL B v (rulesM 2) w' ∧ Kp w w' := by
 have HS0 := hD hB; clear hB; go_enter Tryz.func63, Tryz.ntmps63; go_wp2_with (first
  | (go_at_call 102; (with_reducible refine (rA 4 4 0 5 rfl (by omega) B _ HS0.out).mono ?_); rintro e w1 ⟨v1, rfl, hv1, hk1⟩; obtain ⟨p1, q1, r1, rfl, hn1⟩ := hv1; obtain ⟨HV1, HK1⟩ := hD2 hn1 hk1; have HS1 := hD (Nat.lt_of_lt_of_le HS0.out hk1.size); clear hn1 hk1)
  | (go_at_call 102; (with_reducible refine (rA 6 6 0 7 rfl (by omega) B _ HS1.out).mono ?_); rintro e w2 ⟨v2, rfl, hv2, hk2⟩; obtain ⟨p2, q2, r2, rfl, hn2⟩ := hv2; obtain ⟨HV2, HK2⟩ := hD2 hn2 hk2; have HS2 := hD (Nat.lt_of_lt_of_le HS1.out hk2.size); clear hn2 hk2)
  | (go_at_call 102; (with_reducible refine (rA 7 7 1 2 rfl (by omega) B _ HS2.out).mono ?_); rintro e w3 ⟨v3, rfl, hv3, hk3⟩; obtain ⟨p3, q3, r3, rfl, hn3⟩ := hv3; obtain ⟨HV3, HK3⟩ := hD2 hn3 hk3; have HS3 := hD (Nat.lt_of_lt_of_le HS2.out hk3.size); clear hn3 hk3)
  | (go_at_call 102; (with_reducible refine (rA 5 5 0 3 rfl (by omega) B _ HS3.out).mono ?_); rintro e w4 ⟨v4, rfl, hv4, hk4⟩; obtain ⟨p4, q4, r4, rfl, hn4⟩ := hv4; obtain ⟨HV4, HK4⟩ := hD2 hn4 hk4; have HS4 := hD (Nat.lt_of_lt_of_le HS3.out hk4.size); clear hn4 hk4))
 go_ret; have KA := kA w4 (.cells #[.func (.func 104) #[] #[], .func (.func 142) #[] #[.pointer (some ⟨p1, 0, none⟩), .pointer (some ⟨q1, 0, none⟩), .pointer (some ⟨r1, 0, none⟩)], .func (.func 142) #[] #[.pointer (some ⟨p4, 0, none⟩), .pointer (some ⟨q4, 0, none⟩), .pointer (some ⟨r4, 0, none⟩)], .func (.func 142) #[] #[.pointer (some ⟨p2, 0, none⟩), .pointer (some ⟨q2, 0, none⟩), .pointer (some ⟨r2, 0, none⟩)], .func (.func 142) #[] #[.pointer (some ⟨p3, 0, none⟩), .pointer (some ⟨q3, 0, none⟩), .pointer (some ⟨r3, 0, none⟩)]] 139); have hs := HS4.out; refine ⟨_, rfl, ⟨w4.heap.size, [.func (.func 104) #[] #[], .func (.func 142) #[] #[.pointer (some ⟨p1, 0, none⟩), .pointer (some ⟨q1, 0, none⟩), .pointer (some ⟨r1, 0, none⟩)], .func (.func 142) #[] #[.pointer (some ⟨p4, 0, none⟩), .pointer (some ⟨q4, 0, none⟩), .pointer (some ⟨r4, 0, none⟩)], .func (.func 142) #[] #[.pointer (some ⟨p2, 0, none⟩), .pointer (some ⟨q2, 0, none⟩), .pointer (some ⟨r2, 0, none⟩)], .func (.func 142) #[] #[.pointer (some ⟨p3, 0, none⟩), .pointer (some ⟨q3, 0, none⟩), .pointer (some ⟨r3, 0, none⟩)]], rfl, by omega, rfl, ⟨_, _, (mH w4 _)⟩, ?_⟩, kT (kT (kT (kT (HK1.out) HK2.out) HK3.out) HK4.out) KA⟩
 intro j u r hu hr
 match j, u, r, hu, hr with
 | 0, u, r, hu, hr =>
  obtain rfl : .func (.func 104) #[] #[] = u := by simpa using hu
  obtain rfl : .act = r := by simpa [rulesM] using hr
  exact rfl
 | 1, u, r, hu, hr =>
  obtain rfl : .func (.func 142) #[] #[.pointer (some ⟨p1, 0, none⟩), .pointer (some ⟨q1, 0, none⟩), .pointer (some ⟨r1, 0, none⟩)] = u := by simpa using hu
  obtain rfl : (.rg 4 0 5) = r := by simpa [rulesM] using hr
  exact RuV.xb (show RuV B w1 _ (.rg _ _ _) from ⟨p1, q1, r1, rfl, HV1.out⟩) (Xb.of_kp (kT (kT (kT (HK2.out) (HK3.out)) (HK4.out)) (KA)))
 | 2, u, r, hu, hr =>
  obtain rfl : .func (.func 142) #[] #[.pointer (some ⟨p4, 0, none⟩), .pointer (some ⟨q4, 0, none⟩), .pointer (some ⟨r4, 0, none⟩)] = u := by simpa using hu
  obtain rfl : (.rg 5 0 3) = r := by simpa [rulesM] using hr
  exact RuV.xb (show RuV B w4 _ (.rg _ _ _) from ⟨p4, q4, r4, rfl, HV4.out⟩) (Xb.of_kp (KA))
 | 3, u, r, hu, hr =>
  obtain rfl : .func (.func 142) #[] #[.pointer (some ⟨p2, 0, none⟩), .pointer (some ⟨q2, 0, none⟩), .pointer (some ⟨r2, 0, none⟩)] = u := by simpa using hu
  obtain rfl : (.rg 6 0 7) = r := by simpa [rulesM] using hr
  exact RuV.xb (show RuV B w2 _ (.rg _ _ _) from ⟨p2, q2, r2, rfl, HV2.out⟩) (Xb.of_kp (kT (kT (HK3.out) (HK4.out)) (KA)))
 | 4, u, r, hu, hr =>
  obtain rfl : .func (.func 142) #[] #[.pointer (some ⟨p3, 0, none⟩), .pointer (some ⟨q3, 0, none⟩), .pointer (some ⟨r3, 0, none⟩)] = u := by simpa using hu
  obtain rfl : (.rg 7 1 2) = r := by simpa [rulesM] using hr
  exact RuV.xb (show RuV B w3 _ (.rg _ _ _) from ⟨p3, q3, r3, rfl, HV3.out⟩) (Xb.of_kp (kT (HK4.out) (KA)))
 | j + 5, u, r, hu, hr => simp at hu
theorem rules_3 (B : Nat) (w : World) (hB : B < w.heap.size) : Calls Tryz.prog 63 #[.int .i64 3] w fun e w' => ∃ v, e = .returned v ∧ RuL B v (rulesM 3) w' ∧ Kp w w' := by
 have HS0 := hD hB; clear hB; go_enter Tryz.func63, Tryz.ntmps63; go_wp2_with (first
  | (go_at_call 102; (with_reducible refine (rA 4 4 0 5 rfl (by omega) B _ HS0.out).mono ?_); rintro e w1 ⟨v1, rfl, hv1, hk1⟩; obtain ⟨p1, q1, r1, rfl, hn1⟩ := hv1; obtain ⟨HV1, HK1⟩ := hD2 hn1 hk1; have HS1 := hD (Nat.lt_of_lt_of_le HS0.out hk1.size); clear hn1 hk1)
  | (go_at_call 102; (with_reducible refine (rA 6 6 0 7 rfl (by omega) B _ HS1.out).mono ?_); rintro e w2 ⟨v2, rfl, hv2, hk2⟩; obtain ⟨p2, q2, r2, rfl, hn2⟩ := hv2; obtain ⟨HV2, HK2⟩ := hD2 hn2 hk2; have HS2 := hD (Nat.lt_of_lt_of_le HS1.out hk2.size); clear hn2 hk2)
  | (go_at_call 102; (with_reducible refine (rA 7 7 1 2 rfl (by omega) B _ HS2.out).mono ?_); rintro e w3 ⟨v3, rfl, hv3, hk3⟩; obtain ⟨p3, q3, r3, rfl, hn3⟩ := hv3; obtain ⟨HV3, HK3⟩ := hD2 hn3 hk3; have HS3 := hD (Nat.lt_of_lt_of_le HS2.out hk3.size); clear hn3 hk3))
 go_ret; have KA := kA w3 (.cells #[.func (.func 104) #[] #[], .func (.func 142) #[] #[.pointer (some ⟨p1, 0, none⟩), .pointer (some ⟨q1, 0, none⟩), .pointer (some ⟨r1, 0, none⟩)], .func (.func 105) #[] #[]] 139); have hs := HS3.out; refine ⟨_, rfl, ⟨w3.heap.size, [.func (.func 104) #[] #[], .func (.func 142) #[] #[.pointer (some ⟨p1, 0, none⟩), .pointer (some ⟨q1, 0, none⟩), .pointer (some ⟨r1, 0, none⟩)], .func (.func 105) #[] #[]], rfl, by omega, rfl, ⟨_, _, (mH w3 _)⟩, ?_⟩, kT (kT (kT (HK1.out) HK2.out) HK3.out) KA⟩
 intro j u r hu hr
 match j, u, r, hu, hr with
 | 0, u, r, hu, hr =>
  obtain rfl : .func (.func 104) #[] #[] = u := by simpa using hu
  obtain rfl : .act = r := by simpa [rulesM] using hr
  exact rfl
 | 1, u, r, hu, hr =>
  obtain rfl : .func (.func 142) #[] #[.pointer (some ⟨p1, 0, none⟩), .pointer (some ⟨q1, 0, none⟩), .pointer (some ⟨r1, 0, none⟩)] = u := by simpa using hu
  obtain rfl : (.rg 4 0 5) = r := by simpa [rulesM] using hr
  exact RuV.xb (show RuV B w1 _ (.rg _ _ _) from ⟨p1, q1, r1, rfl, HV1.out⟩) (Xb.of_kp (kT (kT (HK2.out) (HK3.out)) (KA)))
 | 2, u, r, hu, hr =>
  obtain rfl : .func (.func 105) #[] #[] = u := by simpa using hu
  obtain rfl : .seat = r := by simpa [rulesM] using hr
  exact rfl
 | j + 3, u, r, hu, hr => simp at hu
theorem rules_4 (B : Nat) (w : World) (hB : B < w.heap.size) : Calls Tryz.prog 63 #[.int .i64 4] w fun e w' => ∃ v, e = .returned v ∧ RuL B v (rulesM 4) w' ∧ Kp w w' := by
 have HS0 := hD hB; clear hB; go_enter Tryz.func63, Tryz.ntmps63; go_wp2_with (first
  | (go_at_call 102; (with_reducible refine (rA 4 4 0 5 rfl (by omega) B _ HS0.out).mono ?_); rintro e w1 ⟨v1, rfl, hv1, hk1⟩; obtain ⟨p1, q1, r1, rfl, hn1⟩ := hv1; obtain ⟨HV1, HK1⟩ := hD2 hn1 hk1; have HS1 := hD (Nat.lt_of_lt_of_le HS0.out hk1.size); clear hn1 hk1)
  | (go_at_call 102; (with_reducible refine (rA 6 6 0 7 rfl (by omega) B _ HS1.out).mono ?_); rintro e w2 ⟨v2, rfl, hv2, hk2⟩; obtain ⟨p2, q2, r2, rfl, hn2⟩ := hv2; obtain ⟨HV2, HK2⟩ := hD2 hn2 hk2; have HS2 := hD (Nat.lt_of_lt_of_le HS1.out hk2.size); clear hn2 hk2)
  | (go_at_call 102; (with_reducible refine (rA 7 7 1 2 rfl (by omega) B _ HS2.out).mono ?_); rintro e w3 ⟨v3, rfl, hv3, hk3⟩; obtain ⟨p3, q3, r3, rfl, hn3⟩ := hv3; obtain ⟨HV3, HK3⟩ := hD2 hn3 hk3; have HS3 := hD (Nat.lt_of_lt_of_le HS2.out hk3.size); clear hn3 hk3)
  | (go_at_call 102; (with_reducible refine (rA 13 13 1 2 rfl (by omega) B _ HS3.out).mono ?_); rintro e w4 ⟨v4, rfl, hv4, hk4⟩; obtain ⟨p4, q4, r4, rfl, hn4⟩ := hv4; obtain ⟨HV4, HK4⟩ := hD2 hn4 hk4; have HS4 := hD (Nat.lt_of_lt_of_le HS3.out hk4.size); clear hn4 hk4))
 go_ret; have KA := kA w4 (.cells #[.func (.func 104) #[] #[], .func (.func 142) #[] #[.pointer (some ⟨p4, 0, none⟩), .pointer (some ⟨q4, 0, none⟩), .pointer (some ⟨r4, 0, none⟩)]] 139); have hs := HS4.out; refine ⟨_, rfl, ⟨w4.heap.size, [.func (.func 104) #[] #[], .func (.func 142) #[] #[.pointer (some ⟨p4, 0, none⟩), .pointer (some ⟨q4, 0, none⟩), .pointer (some ⟨r4, 0, none⟩)]], rfl, by omega, rfl, ⟨_, _, (mH w4 _)⟩, ?_⟩, kT (kT (kT (kT (HK1.out) HK2.out) HK3.out) HK4.out) KA⟩
 intro j u r hu hr
 match j, u, r, hu, hr with
 | 0, u, r, hu, hr =>
  obtain rfl : .func (.func 104) #[] #[] = u := by simpa using hu
  obtain rfl : .act = r := by simpa [rulesM] using hr
  exact rfl
 | 1, u, r, hu, hr =>
  obtain rfl : .func (.func 142) #[] #[.pointer (some ⟨p4, 0, none⟩), .pointer (some ⟨q4, 0, none⟩), .pointer (some ⟨r4, 0, none⟩)] = u := by simpa using hu
  obtain rfl : (.rg 13 1 2) = r := by simpa [rulesM] using hr
  exact RuV.xb (show RuV B w4 _ (.rg _ _ _) from ⟨p4, q4, r4, rfl, HV4.out⟩) (Xb.of_kp (KA))
 | j + 2, u, r, hu, hr => simp at hu
theorem rules_5 (B : Nat) (w : World) (hB : B < w.heap.size) : Calls Tryz.prog 63 #[.int .i64 5] w fun e w' => ∃ v, e = .returned v ∧ RuL B v (rulesM 5) w' ∧ Kp w w' := by
 have HS0 := hD hB; clear hB; go_enter Tryz.func63, Tryz.ntmps63; go_wp2_with (first
  | (go_at_call 102; (with_reducible refine (rA 4 4 0 5 rfl (by omega) B _ HS0.out).mono ?_); rintro e w1 ⟨v1, rfl, hv1, hk1⟩; obtain ⟨p1, q1, r1, rfl, hn1⟩ := hv1; obtain ⟨HV1, HK1⟩ := hD2 hn1 hk1; have HS1 := hD (Nat.lt_of_lt_of_le HS0.out hk1.size); clear hn1 hk1)
  | (go_at_call 102; (with_reducible refine (rA 6 6 0 7 rfl (by omega) B _ HS1.out).mono ?_); rintro e w2 ⟨v2, rfl, hv2, hk2⟩; obtain ⟨p2, q2, r2, rfl, hn2⟩ := hv2; obtain ⟨HV2, HK2⟩ := hD2 hn2 hk2; have HS2 := hD (Nat.lt_of_lt_of_le HS1.out hk2.size); clear hn2 hk2)
  | (go_at_call 102; (with_reducible refine (rA 7 7 1 2 rfl (by omega) B _ HS2.out).mono ?_); rintro e w3 ⟨v3, rfl, hv3, hk3⟩; obtain ⟨p3, q3, r3, rfl, hn3⟩ := hv3; obtain ⟨HV3, HK3⟩ := hD2 hn3 hk3; have HS3 := hD (Nat.lt_of_lt_of_le HS2.out hk3.size); clear hn3 hk3))
 go_ret; have KA := kA w3 (.cells #[.func (.func 104) #[] #[]] 139); have hs := HS3.out; refine ⟨_, rfl, ⟨w3.heap.size, [.func (.func 104) #[] #[]], rfl, by omega, rfl, ⟨_, _, (mH w3 _)⟩, ?_⟩, kT (kT (kT (HK1.out) HK2.out) HK3.out) KA⟩
 intro j u r hu hr
 match j, u, r, hu, hr with
 | 0, u, r, hu, hr =>
  obtain rfl : .func (.func 104) #[] #[] = u := by simpa using hu
  obtain rfl : .act = r := by simpa [rulesM] using hr
  exact rfl
 | j + 1, u, r, hu, hr => simp at hu
theorem rules_6 (B : Nat) (w : World) (hB : B < w.heap.size) : Calls Tryz.prog 63 #[.int .i64 6] w fun e w' => ∃ v, e = .returned v ∧ RuL B v (rulesM 6) w' ∧ Kp w w' := by
 have HS0 := hD hB; clear hB; go_enter Tryz.func63, Tryz.ntmps63; go_wp2_with (first
  | (go_at_call 102; (with_reducible refine (rA 4 4 0 5 rfl (by omega) B _ HS0.out).mono ?_); rintro e w1 ⟨v1, rfl, hv1, hk1⟩; obtain ⟨p1, q1, r1, rfl, hn1⟩ := hv1; obtain ⟨HV1, HK1⟩ := hD2 hn1 hk1; have HS1 := hD (Nat.lt_of_lt_of_le HS0.out hk1.size); clear hn1 hk1)
  | (go_at_call 102; (with_reducible refine (rA 6 6 0 7 rfl (by omega) B _ HS1.out).mono ?_); rintro e w2 ⟨v2, rfl, hv2, hk2⟩; obtain ⟨p2, q2, r2, rfl, hn2⟩ := hv2; obtain ⟨HV2, HK2⟩ := hD2 hn2 hk2; have HS2 := hD (Nat.lt_of_lt_of_le HS1.out hk2.size); clear hn2 hk2)
  | (go_at_call 102; (with_reducible refine (rA 7 7 1 2 rfl (by omega) B _ HS2.out).mono ?_); rintro e w3 ⟨v3, rfl, hv3, hk3⟩; obtain ⟨p3, q3, r3, rfl, hn3⟩ := hv3; obtain ⟨HV3, HK3⟩ := hD2 hn3 hk3; have HS3 := hD (Nat.lt_of_lt_of_le HS2.out hk3.size); clear hn3 hk3))
 go_ret; have KA := kA w3 (.cells #[.func (.func 142) #[] #[.pointer (some ⟨p2, 0, none⟩), .pointer (some ⟨q2, 0, none⟩), .pointer (some ⟨r2, 0, none⟩)], .func (.func 104) #[] #[], .func (.func 142) #[] #[.pointer (some ⟨p3, 0, none⟩), .pointer (some ⟨q3, 0, none⟩), .pointer (some ⟨r3, 0, none⟩)]] 139); have hs := HS3.out; refine ⟨_, rfl, ⟨w3.heap.size, [.func (.func 142) #[] #[.pointer (some ⟨p2, 0, none⟩), .pointer (some ⟨q2, 0, none⟩), .pointer (some ⟨r2, 0, none⟩)], .func (.func 104) #[] #[], .func (.func 142) #[] #[.pointer (some ⟨p3, 0, none⟩), .pointer (some ⟨q3, 0, none⟩), .pointer (some ⟨r3, 0, none⟩)]], rfl, by omega, rfl, ⟨_, _, (mH w3 _)⟩, ?_⟩, kT (kT (kT (HK1.out) HK2.out) HK3.out) KA⟩
 intro j u r hu hr
 match j, u, r, hu, hr with
 | 0, u, r, hu, hr =>
  obtain rfl : .func (.func 142) #[] #[.pointer (some ⟨p2, 0, none⟩), .pointer (some ⟨q2, 0, none⟩), .pointer (some ⟨r2, 0, none⟩)] = u := by simpa using hu
  obtain rfl : (.rg 6 0 7) = r := by simpa [rulesM] using hr
  exact RuV.xb (show RuV B w2 _ (.rg _ _ _) from ⟨p2, q2, r2, rfl, HV2.out⟩) (Xb.of_kp (kT (HK3.out) (KA)))
 | 1, u, r, hu, hr =>
  obtain rfl : .func (.func 104) #[] #[] = u := by simpa using hu
  obtain rfl : .act = r := by simpa [rulesM] using hr
  exact rfl
 | 2, u, r, hu, hr =>
  obtain rfl : .func (.func 142) #[] #[.pointer (some ⟨p3, 0, none⟩), .pointer (some ⟨q3, 0, none⟩), .pointer (some ⟨r3, 0, none⟩)] = u := by simpa using hu
  obtain rfl : (.rg 7 1 2) = r := by simpa [rulesM] using hr
  exact RuV.xb (show RuV B w3 _ (.rg _ _ _) from ⟨p3, q3, r3, rfl, HV3.out⟩) (Xb.of_kp (KA))
 | j + 3, u, r, hu, hr => simp at hu
theorem rules_7 (B : Nat) (w : World) (hB : B < w.heap.size) : Calls Tryz.prog 63 #[.int .i64 7] w fun e w' => ∃ v, e = .returned v ∧ RuL B v (rulesM 7) w' ∧ Kp w w' := by
 have HS0 := hD hB; clear hB; go_enter Tryz.func63, Tryz.ntmps63; go_wp2_with (first
  | (go_at_call 102; (with_reducible refine (rA 4 4 0 5 rfl (by omega) B _ HS0.out).mono ?_); rintro e w1 ⟨v1, rfl, hv1, hk1⟩; obtain ⟨p1, q1, r1, rfl, hn1⟩ := hv1; obtain ⟨HV1, HK1⟩ := hD2 hn1 hk1; have HS1 := hD (Nat.lt_of_lt_of_le HS0.out hk1.size); clear hn1 hk1)
  | (go_at_call 102; (with_reducible refine (rA 6 6 0 7 rfl (by omega) B _ HS1.out).mono ?_); rintro e w2 ⟨v2, rfl, hv2, hk2⟩; obtain ⟨p2, q2, r2, rfl, hn2⟩ := hv2; obtain ⟨HV2, HK2⟩ := hD2 hn2 hk2; have HS2 := hD (Nat.lt_of_lt_of_le HS1.out hk2.size); clear hn2 hk2)
  | (go_at_call 102; (with_reducible refine (rA 7 7 1 2 rfl (by omega) B _ HS2.out).mono ?_); rintro e w3 ⟨v3, rfl, hv3, hk3⟩; obtain ⟨p3, q3, r3, rfl, hn3⟩ := hv3; obtain ⟨HV3, HK3⟩ := hD2 hn3 hk3; have HS3 := hD (Nat.lt_of_lt_of_le HS2.out hk3.size); clear hn3 hk3))
 go_ret; have KA := kA w3 (.cells #[.func (.func 142) #[] #[.pointer (some ⟨p2, 0, none⟩), .pointer (some ⟨q2, 0, none⟩), .pointer (some ⟨r2, 0, none⟩)], .func (.func 142) #[] #[.pointer (some ⟨p1, 0, none⟩), .pointer (some ⟨q1, 0, none⟩), .pointer (some ⟨r1, 0, none⟩)]] 139); have hs := HS3.out; refine ⟨_, rfl, ⟨w3.heap.size, [.func (.func 142) #[] #[.pointer (some ⟨p2, 0, none⟩), .pointer (some ⟨q2, 0, none⟩), .pointer (some ⟨r2, 0, none⟩)], .func (.func 142) #[] #[.pointer (some ⟨p1, 0, none⟩), .pointer (some ⟨q1, 0, none⟩), .pointer (some ⟨r1, 0, none⟩)]], rfl, by omega, rfl, ⟨_, _, (mH w3 _)⟩, ?_⟩, kT (kT (kT (HK1.out) HK2.out) HK3.out) KA⟩
 intro j u r hu hr
 match j, u, r, hu, hr with
 | 0, u, r, hu, hr =>
  obtain rfl : .func (.func 142) #[] #[.pointer (some ⟨p2, 0, none⟩), .pointer (some ⟨q2, 0, none⟩), .pointer (some ⟨r2, 0, none⟩)] = u := by simpa using hu
  obtain rfl : (.rg 6 0 7) = r := by simpa [rulesM] using hr
  exact RuV.xb (show RuV B w2 _ (.rg _ _ _) from ⟨p2, q2, r2, rfl, HV2.out⟩) (Xb.of_kp (kT (HK3.out) (KA)))
 | 1, u, r, hu, hr =>
  obtain rfl : .func (.func 142) #[] #[.pointer (some ⟨p1, 0, none⟩), .pointer (some ⟨q1, 0, none⟩), .pointer (some ⟨r1, 0, none⟩)] = u := by simpa using hu
  obtain rfl : (.rg 4 0 5) = r := by simpa [rulesM] using hr
  exact RuV.xb (show RuV B w1 _ (.rg _ _ _) from ⟨p1, q1, r1, rfl, HV1.out⟩) (Xb.of_kp (kT (kT (HK2.out) (HK3.out)) (KA)))
 | j + 2, u, r, hu, hr => simp at hu
theorem rules_8 (B : Nat) (w : World) (hB : B < w.heap.size) : Calls Tryz.prog 63 #[.int .i64 8] w fun e w' => ∃ v, e = .returned v ∧ RuL B v (rulesM 8) w' ∧ Kp w w' := by
 have HS0 := hD hB; clear hB; go_enter Tryz.func63, Tryz.ntmps63; go_wp2_with (first
  | (go_at_call 102; (with_reducible refine (rA 4 4 0 5 rfl (by omega) B _ HS0.out).mono ?_); rintro e w1 ⟨v1, rfl, hv1, hk1⟩; obtain ⟨p1, q1, r1, rfl, hn1⟩ := hv1; obtain ⟨HV1, HK1⟩ := hD2 hn1 hk1; have HS1 := hD (Nat.lt_of_lt_of_le HS0.out hk1.size); clear hn1 hk1)
  | (go_at_call 102; (with_reducible refine (rA 6 6 0 7 rfl (by omega) B _ HS1.out).mono ?_); rintro e w2 ⟨v2, rfl, hv2, hk2⟩; obtain ⟨p2, q2, r2, rfl, hn2⟩ := hv2; obtain ⟨HV2, HK2⟩ := hD2 hn2 hk2; have HS2 := hD (Nat.lt_of_lt_of_le HS1.out hk2.size); clear hn2 hk2)
  | (go_at_call 102; (with_reducible refine (rA 7 7 1 2 rfl (by omega) B _ HS2.out).mono ?_); rintro e w3 ⟨v3, rfl, hv3, hk3⟩; obtain ⟨p3, q3, r3, rfl, hn3⟩ := hv3; obtain ⟨HV3, HK3⟩ := hD2 hn3 hk3; have HS3 := hD (Nat.lt_of_lt_of_le HS2.out hk3.size); clear hn3 hk3))
 go_ret; have KA := kA w3 (.cells #[.func (.func 142) #[] #[.pointer (some ⟨p2, 0, none⟩), .pointer (some ⟨q2, 0, none⟩), .pointer (some ⟨r2, 0, none⟩)], .func (.func 105) #[] #[]] 139); have hs := HS3.out; refine ⟨_, rfl, ⟨w3.heap.size, [.func (.func 142) #[] #[.pointer (some ⟨p2, 0, none⟩), .pointer (some ⟨q2, 0, none⟩), .pointer (some ⟨r2, 0, none⟩)], .func (.func 105) #[] #[]], rfl, by omega, rfl, ⟨_, _, (mH w3 _)⟩, ?_⟩, kT (kT (kT (HK1.out) HK2.out) HK3.out) KA⟩
 intro j u r hu hr
 match j, u, r, hu, hr with
 | 0, u, r, hu, hr =>
  obtain rfl : .func (.func 142) #[] #[.pointer (some ⟨p2, 0, none⟩), .pointer (some ⟨q2, 0, none⟩), .pointer (some ⟨r2, 0, none⟩)] = u := by simpa using hu
  obtain rfl : (.rg 6 0 7) = r := by simpa [rulesM] using hr
  exact RuV.xb (show RuV B w2 _ (.rg _ _ _) from ⟨p2, q2, r2, rfl, HV2.out⟩) (Xb.of_kp (kT (HK3.out) (KA)))
 | 1, u, r, hu, hr =>
  obtain rfl : .func (.func 105) #[] #[] = u := by simpa using hu
  obtain rfl : .seat = r := by simpa [rulesM] using hr
  exact rfl
 | j + 2, u, r, hu, hr => simp at hu
end Go.Proofs.YtpemeenfhkgmpaaGreatDoor
