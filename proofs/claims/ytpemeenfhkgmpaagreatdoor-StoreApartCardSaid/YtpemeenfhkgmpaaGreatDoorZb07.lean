/-
  PARTS OF THIS PROOF (own work): FacR.
-/
import Derived.Test.YtpemeenfhkgmpaaGreatDoorZb01
import Derived.Test.YtpemeenfhkgmpaaGreatDoorZb06
import Derived.Test.YtpemeenfhkgmpaaGreatDoorZb02
import Derived.Laws.StructEq
namespace Go.Proofs.YtpemeenfhkgmpaaGreatDoor
open Go.RowKit Go.ChangeShapes Go.WideShapes

/-- ALL MEMORY BUT ONE BLOCK IS AS IT WAS. -/
structure Xb (p : Nat) (w w' : World) : Prop where
  os : w'.os = w.os
  tape : w'.tape = w.tape
  output : w'.output = w.output
  size : w.heap.size ≤ w'.heap.size
  block : ∀ k, k < w.heap.size → k ≠ p → w'.heap[k]? = w.heap[k]?
theorem Xb.of_kp {p : Nat} {w w' : World} (h : Kp w w') : Xb p w w' := ⟨h.os, h.tape, h.output, h.size, fun k hk _ => h.block k hk⟩
theorem Xb.trans {p : Nat} {a b c : World} (h : Xb p a b) (k : Xb p b c) : Xb p a c :=
  ⟨k.os.trans h.os, k.tape.trans h.tape, k.output.trans h.output, Nat.le_trans h.size k.size, fun i hi h1 => (k.block i (Nat.lt_of_lt_of_le hi h.size) h1).trans (h.block i hi h1)⟩
theorem Xb.kp {p : Nat} {a b c : World} (h : Xb p a b) (k : Kp b c) : Xb p a c := h.trans (Xb.of_kp k)
theorem Xb.set {p : Nat} {w w' : World} (h : Xb p w w') (i : Nat) (v : Value) : Xb p w (w'.setCell ⟨p, i, none⟩ v) :=
  ⟨h.os, h.tape, h.output, by simp; exact h.size, fun k hk h1 => by rw [Below.heap_setCell _ _ _ _ h1]; exact h.block k hk h1⟩
theorem Xb.below {p : Nat} {w0 w w' : World} (h : Xb p w w') (hp : w0.heap.size ≤ p) (hk : Kp w0 w) : Kp w0 w' :=
  Below.trans hk ⟨h.os, h.tape, h.output, h.size, fun k q => h.block k (Nat.lt_of_lt_of_le q hk.size) (by omega)⟩
theorem Xb.row {p b : Nat} {w w' : World} {o : Obj} (h : Xb p w w') (hb : b ≠ p) (hr : w.heap[b]? = some o) : w'.heap[b]? = some o := by
  rw [h.block b (old_of_row hr) hb]; exact hr
theorem Xb.cell {p : Nat} {w w' : World} {q : Addr} {v : Value} (h : Xb p w w') (hp : q.block ≠ p) (hc : w.cell? q = some v) : w'.cell? q = some v := by
  rw [← hc]; exact World.cell?_of_block (h.block _ (old_of_cell hc) hp)
/-- A RULE AS A VALUE -/
def RuV (B : Nat) (w : World) (v : Value) : RuM → Prop
  | .rg tag lo hi => ∃ p q r : Nat, v = .func (.func 142) #[] #[.pointer (some ⟨p, 0, none⟩), .pointer (some ⟨q, 0, none⟩), .pointer (some ⟨r, 0, none⟩)] ∧ (p ≠ B ∧ q ≠ B ∧ r ≠ B) ∧ (1 ≤ tag ∧ tag ≤ 13) ∧ w.heap[p]? = some (boxI tag) ∧ w.heap[q]? = some (boxI lo) ∧ w.heap[r]? = some (boxI hi)
  | .act => v = .func (.func 104) #[] #[]
  | .ctx => v = .func (.func 103) #[] #[]
  | .seat => v = .func (.func 105) #[] #[]
theorem RuV.xb {B : Nat} {w w' : World} {v : Value} {r : RuM} (h : RuV B w v r) (hk : Xb B w w') : RuV B w' v r := by
  cases r with
  | rg tag lo hi =>
    obtain ⟨p, q, r, e, hn, ht, h1, h2, h3⟩ := h
    exact ⟨p, q, r, e, hn, ht, hk.row hn.1 h1, hk.row hn.2.1 h2, hk.row hn.2.2 h3⟩
  | act => exact h
  | ctx => exact h
  | seat => exact h
set_option maxRecDepth 20000 in
theorem ranged_any (tag : Nat) (tg lo hi : Int) (htg : (tag : Int) = tg) (ht : 1 ≤ tag ∧ tag ≤ 13) (B : Nat) (w : World) (hB : B < w.heap.size) :
    Calls Tryz.prog 102 #[.int .i64 tg, .int .i64 lo, .int .i64 hi] w fun e w' => ∃ v, e = .returned v ∧ RuV B w' v (.rg tag lo hi) ∧ Kp w w' := by
  have hmf : ∀ (fn : Fn) (first cap : Array Value) (w : World), (Instr.makeFunc fn first cap).run Tryz.prog w = .ok (.func fn first cap) w := fun _ _ _ _ => rfl
  have b0 := (MapKept.heap_alloc w (boxI tg)).1
  have b1 := (MapKept.heap_alloc (w.alloc (boxI tg)) (boxI lo)).1
  have b2 := (MapKept.heap_alloc ((w.alloc (boxI tg)).alloc (boxI lo)) (boxI hi)).1
  have k1 := kp_alloc (w.alloc (boxI tg)) (boxI lo)
  have k2 := kp_alloc ((w.alloc (boxI tg)).alloc (boxI lo)) (boxI hi)
  have H0 := Lib.hid (kp_row (Kp.trans k1 k2) b0)
  have H1 := Lib.hid (kp_row k2 b1)
  have H2 := Lib.hid b2
  have K := Lib.hid (Kp.trans (kp_alloc w (boxI tg)) (Kp.trans k1 k2))
  clear b0 b1 b2 k1 k2
  go_enter Tryz.func102, Tryz.ntmps102
  go_wp2
  go_ret
  subst htg
  have e1 : (w.alloc (boxI (tag : Int))).heap.size = w.heap.size + 1 := by simp
  have e2 : ((w.alloc (boxI (tag : Int))).alloc (boxI lo)).heap.size = w.heap.size + 1 + 1 := by simp
  have h1 := H1.out
  have h2 := H2.out
  rw [e1] at h1
  rw [e2] at h2
  exact ⟨_, rfl, ⟨_, _, _, rfl, ⟨by omega, by omega, by omega⟩, ht, H0.out, h1, h2⟩, K.out⟩
set_option maxRecDepth 20000 in
theorem rg_call (tag : Nat) (tg lo hi : Int) (htg : (tag : Int) = tg) (ht : 1 ≤ tag ∧ tag ≤ 13) (B p q r : Nat) (l : List Int) (x : Nat) (hl : l.length = 13) (w : World) (hB : w.heap[B]? = some (.cells (numsF l x) 39 (0, 0))) (hn : p ≠ B ∧ q ≠ B ∧ r ≠ B) (hp : w.heap[p]? = some (boxI tg)) (hq : w.heap[q]? = some (boxI lo)) (hr : w.heap[r]? = some (boxI hi)) :
    Calls Tryz.prog 142 #[.pointer (some ⟨B, 0, none⟩), .pointer (some ⟨p, 0, none⟩), .pointer (some ⟨q, 0, none⟩), .pointer (some ⟨r, 0, none⟩)] w fun e w' => e = .returned (.bool (RuM.ok (.rg tag lo hi) l x)) ∧ w'.heap[B]? = some (.cells (numsF (RuM.tkL (.rg tag lo hi) l) x) 39 (0, 0)) ∧ Xb B w w' := by
  have cp := cell_of_one hp
  have hj : tag - 1 < 13 := by omega
  have hjt : ((tag - 1 : Nat) : Int) + 1 = tg := by omega
  have hwp : IntKind.i64.wrap tg = tg := IntWalk.i64_in tg (by omega)
  have HQ := Lib.hid hq
  have HR := Lib.hid hr
  have HB := Lib.hid hB
  clear hp hB hq hr
  go_enter Tryz.func142, Tryz.ntmps142
  go_wp2
  refine wp_region_held_drew (S := fun w' => Kp w w') (by kernel_rfl) ?_ (fun hHeld => ?_)
  · exact (Kp.refl w).drew
  refine tkW ?_ 0 ?_ ?_; rotate_left
  · intro w hSw; go_simp; try rfl
  go_simp
  refine tkW ?_ 2 ?_ ?_; rotate_left
  · intro w hSw; have q := kp_cell hSw cp; go_simp; try rfl
  go_simp
  refine wpAnyH_ready (rs := [1]) (by kernel_rfl) (by simp) ?_
  refine AllReadyH.cons rfl (fun K hK => ?_) AllReadyH.nil
  go_simp
  go_wp2_with (go_at_call 87; (with_reducible refine (placesF_any B _).mono ?_); rintro e w4 ⟨rfl, hk4⟩; have K4 := Lib.hid (Kp.trans hHeld hk4); clear hk4)
  refine hK.out _ _ ?_ (fun hHeld => ?_)
  · exact K4.out
  clear hK K
  refine tkW ?_ 3 ?_ ?_; rotate_left
  · intro w hSw; have q := plF_at B (tag - 1) hj tg hjt w; go_simp; try rfl
  go_simp
  refine tkW ?_ 4 ?_ ?_; rotate_left
  · intro w hSw; go_simp; try rfl
  go_simp
  refine wpAnyH_done (by kernel_rfl) ?_ _
  have hL := kp_row hHeld HB.out
  have hjl : tag - 1 < l.length := by omega
  have ct := numsF_cell hL (tag - 1) hjl
  have zt := froz14 hL (tag - 1)
  have hgd : l.getD (tag - 1) 0 = l[tag - 1] := by simp [List.getD, hjl]
  obtain ⟨y, hy⟩ : ∃ y, l[tag - 1] = y := ⟨_, rfl⟩
  have LQ := Lib.hid (kp_row hHeld HQ.out)
  have LR := Lib.hid (kp_row hHeld HR.out)
  have cq : (w4.setCell ⟨B, tag - 1, none⟩ (.int .i64 0)).cell? ⟨q, 0, none⟩ = some (.int .i64 lo) := cell_of_one (by rw [Below.heap_setCell _ _ _ _ hn.2.1]; exact LQ.out)
  have cr : (w4.setCell ⟨B, tag - 1, none⟩ (.int .i64 0)).cell? ⟨r, 0, none⟩ = some (.int .i64 hi) := cell_of_one (by rw [Below.heap_setCell _ _ _ _ hn.2.2]; exact LR.out)
  have HS := Lib.hid (numsF_set hL (tag - 1) hjl 0)
  have HXB := Lib.hid ((Xb.of_kp (p := B) K4.out).set (tag - 1) (.int .i64 0))
  have HOK : Hid (RuM.ok (.rg tag lo hi) l x = decide (lo ≤ y ∧ y ≤ hi)) := Lib.hid (by show decide (lo ≤ l.getD (tag - 1) 0 ∧ l.getD (tag - 1) 0 ≤ hi) = _; rw [hgd, hy])
  rw [hy] at ct
  clear hgd hy hL hjl hl hjt htg ht hn cp
  go_wp2_with (go_at_call 62; (with_reducible refine (within_any _ _ _ _).mono ?_); rintro e w' ⟨rfl, rfl⟩)
  go_ret
  exact ⟨by rw [HOK.out]; simp, HS.out, HXB.out⟩
set_option maxRecDepth 100000 in
set_option maxHeartbeats 2000000 in
theorem act_call (ads : List Addr) (w0 : World) (V : St ads w0) (T : Tab w0) (B : Nat) (hB0 : w0.heap.size ≤ B) (k n s r u p q o d a t hh c : Int) (x : Nat) (w : World) (K : Kp w0 w) (hB : w.heap[B]? = some (.cells #[.int .i64 k, .int .i64 n, .int .i64 s, .int .i64 r, .int .i64 u, .int .i64 p, .int .i64 q, .int .i64 o, .int .i64 d, .int .i64 a, .int .i64 t, .int .i64 hh, .int .i64 c, .float .f64 x] 39 (0, 0))) :
    Calls Tryz.prog 104 #[.pointer (some ⟨B, 0, none⟩)] w fun e w' => e = .returned (.bool (rightA n s)) ∧ w'.heap[B]? = some (.cells #[.int .i64 k, .int .i64 0, .int .i64 0, .int .i64 r, .int .i64 u, .int .i64 p, .int .i64 q, .int .i64 o, .int .i64 d, .int .i64 a, .int .i64 t, .int .i64 hh, .int .i64 c, .float .f64 x] 39 (0, 0)) ∧ Xb B w w' := by
  have hne : w.heap.size ≠ B := fun q => by have := old_of_row hB; omega
  obtain ⟨W0, hW0⟩ : ∃ y, w.alloc (.cells #[.int .i64 n, .int .i64 s] 36) = y := ⟨_, rfl⟩
  have kb : Kp w W0 := by rw [← hW0]; exact kp_alloc w (.cells #[.int .i64 n, .int .i64 s] 36)
  have hr : W0.heap[w.heap.size]? = some (.cells #[.int .i64 n, .int .i64 s] 36) := by rw [← hW0]; exact (MapKept.heap_alloc w (.cells #[.int .i64 n, .int .i64 s] 36)).1
  have g0 := kp_row kb hB
  have g1 : (W0.setCell ⟨B, 1, none⟩ (.int .i64 0)).heap[B]? = some (.cells #[.int .i64 k, .int .i64 0, .int .i64 s, .int .i64 r, .int .i64 u, .int .i64 p, .int .i64 q, .int .i64 o, .int .i64 d, .int .i64 a, .int .i64 t, .int .i64 hh, .int .i64 c, .float .f64 x] 39 (0, 0)) := (Joins.block_setCell g0 _).trans rfl
  have g2 : ((W0.setCell ⟨B, 1, none⟩ (.int .i64 0)).setCell ⟨B, 2, none⟩ (.int .i64 0)).heap[B]? = some (.cells #[.int .i64 k, .int .i64 0, .int .i64 0, .int .i64 r, .int .i64 u, .int .i64 p, .int .i64 q, .int .i64 o, .int .i64 d, .int .i64 a, .int .i64 t, .int .i64 hh, .int .i64 c, .float .f64 x] 39 (0, 0)) := (Joins.block_setCell g1 _).trans rfl
  have xb : Xb B w ((W0.setCell ⟨B, 1, none⟩ (.int .i64 0)).setCell ⟨B, 2, none⟩ (.int .i64 0)) := Xb.set (Xb.set (Xb.of_kp kb) 1 (.int .i64 0)) 2 (.int .i64 0)
  have kw := xb.below hB0 K
  have HA := Lib.hid (right_any ads ((W0.setCell ⟨B, 1, none⟩ (.int .i64 0)).setCell ⟨B, 2, none⟩ (.int .i64 0)) (V.below kw) (T.kp kw) n s)
  have hr2 : ((W0.setCell ⟨B, 1, none⟩ (.int .i64 0)).setCell ⟨B, 2, none⟩ (.int .i64 0)).heap[w.heap.size]? = some (.cells #[.int .i64 n, .int .i64 s] 36) := by rw [Below.heap_setCell _ _ _ _ hne, Below.heap_setCell _ _ _ _ hne]; exact hr
  obtain ⟨e0, e1⟩ := two_cells hr2
  obtain ⟨b0, b1, b2, b3, b4, b5, b6, b7, b8, b9, b10, b11, b12, b13⟩ := cells14 hB
  obtain ⟨c0, c1, c2, c3, c4, c5, c6, c7, c8, c9, c10, c11, c12, c13⟩ := cells14 g0
  have z0 := froz14 g0
  have c2' : (W0.setCell ⟨B, 1, none⟩ (.int .i64 0)).cell? ⟨B, 2, none⟩ = some (.int .i64 s) := (cells14 g1).2.2.1
  have z1 := froz14 g1
  have G := Lib.hid g2
  have XB := Lib.hid xb
  clear V T K hB hr g0 g1 g2 xb kw hr2 kb
  go_enter Tryz.func104, Tryz.ntmps104
  go_wp2_with (go_at_call 144; (with_reducible refine HA.out.mono ?_); rintro e w5 ⟨rfl, hk5⟩; have HK5 := Lib.hid hk5; clear hk5)
  go_ret
  exact ⟨rfl, kp_row HK5.out G.out, XB.out.kp HK5.out⟩
set_option maxRecDepth 100000 in
set_option maxHeartbeats 2000000 in
theorem ctx_call (ads : List Addr) (w0 : World) (V : St ads w0) (T : Tab w0) (B : Nat) (hB0 : w0.heap.size ≤ B) (k n s r u p q o d a t hh c : Int) (x : Nat) (w : World) (K : Kp w0 w) (hB : w.heap[B]? = some (.cells #[.int .i64 k, .int .i64 n, .int .i64 s, .int .i64 r, .int .i64 u, .int .i64 p, .int .i64 q, .int .i64 o, .int .i64 d, .int .i64 a, .int .i64 t, .int .i64 hh, .int .i64 c, .float .f64 x] 39 (0, 0))) (hx : x < 18446744073709551616) :
    Calls Tryz.prog 103 #[.pointer (some ⟨B, 0, none⟩)] w fun e w' => e = .returned (.bool (rightX ⟨n, s, o, d, x⟩)) ∧ w'.heap[B]? = some (.cells #[.int .i64 k, .int .i64 0, .int .i64 0, .int .i64 r, .int .i64 u, .int .i64 p, .int .i64 q, .int .i64 0, .int .i64 0, .int .i64 a, .int .i64 t, .int .i64 hh, .int .i64 c, .float .f64 0] 39 (0, 0)) ∧ Xb B w w' := by
  have hne : w.heap.size ≠ B := fun q => by have := old_of_row hB; omega
  have hsf := store_fl
  obtain ⟨W0, hW0⟩ : ∃ y, (w.alloc (.cells #[.int .i64 n, .int .i64 s, .int .i64 o, .int .i64 d, .float .f64 x] 62)).drew = y := ⟨_, rfl⟩
  have kb : Kp w W0 := by rw [← hW0]; exact (kp_alloc w (.cells #[.int .i64 n, .int .i64 s, .int .i64 o, .int .i64 d, .float .f64 x] 62)).drew
  have hr : W0.heap[w.heap.size]? = some (.cells #[.int .i64 n, .int .i64 s, .int .i64 o, .int .i64 d, .float .f64 x] 62) := by rw [← hW0]; exact (MapKept.heap_alloc w (.cells #[.int .i64 n, .int .i64 s, .int .i64 o, .int .i64 d, .float .f64 x] 62)).1
  have g0 := kp_row kb hB
  have g1 : (W0.setCell ⟨B, 1, none⟩ (.int .i64 0)).heap[B]? = some (.cells #[.int .i64 k, .int .i64 0, .int .i64 s, .int .i64 r, .int .i64 u, .int .i64 p, .int .i64 q, .int .i64 o, .int .i64 d, .int .i64 a, .int .i64 t, .int .i64 hh, .int .i64 c, .float .f64 x] 39 (0, 0)) := (Joins.block_setCell g0 _).trans rfl
  have g2 : ((W0.setCell ⟨B, 1, none⟩ (.int .i64 0)).setCell ⟨B, 2, none⟩ (.int .i64 0)).heap[B]? = some (.cells #[.int .i64 k, .int .i64 0, .int .i64 0, .int .i64 r, .int .i64 u, .int .i64 p, .int .i64 q, .int .i64 o, .int .i64 d, .int .i64 a, .int .i64 t, .int .i64 hh, .int .i64 c, .float .f64 x] 39 (0, 0)) := (Joins.block_setCell g1 _).trans rfl
  have g3 : (((W0.setCell ⟨B, 1, none⟩ (.int .i64 0)).setCell ⟨B, 2, none⟩ (.int .i64 0)).setCell ⟨B, 7, none⟩ (.int .i64 0)).heap[B]? = some (.cells #[.int .i64 k, .int .i64 0, .int .i64 0, .int .i64 r, .int .i64 u, .int .i64 p, .int .i64 q, .int .i64 0, .int .i64 d, .int .i64 a, .int .i64 t, .int .i64 hh, .int .i64 c, .float .f64 x] 39 (0, 0)) := (Joins.block_setCell g2 _).trans rfl
  have g4 : ((((W0.setCell ⟨B, 1, none⟩ (.int .i64 0)).setCell ⟨B, 2, none⟩ (.int .i64 0)).setCell ⟨B, 7, none⟩ (.int .i64 0)).setCell ⟨B, 8, none⟩ (.int .i64 0)).heap[B]? = some (.cells #[.int .i64 k, .int .i64 0, .int .i64 0, .int .i64 r, .int .i64 u, .int .i64 p, .int .i64 q, .int .i64 0, .int .i64 0, .int .i64 a, .int .i64 t, .int .i64 hh, .int .i64 c, .float .f64 x] 39 (0, 0)) := (Joins.block_setCell g3 _).trans rfl
  have g5 : (((((W0.setCell ⟨B, 1, none⟩ (.int .i64 0)).setCell ⟨B, 2, none⟩ (.int .i64 0)).setCell ⟨B, 7, none⟩ (.int .i64 0)).setCell ⟨B, 8, none⟩ (.int .i64 0)).setCell ⟨B, 13, none⟩ (.float .f64 0)).heap[B]? = some (.cells #[.int .i64 k, .int .i64 0, .int .i64 0, .int .i64 r, .int .i64 u, .int .i64 p, .int .i64 q, .int .i64 0, .int .i64 0, .int .i64 a, .int .i64 t, .int .i64 hh, .int .i64 c, .float .f64 0] 39 (0, 0)) := (Joins.block_setCell g4 _).trans rfl
  have xb : Xb B w (((((W0.setCell ⟨B, 1, none⟩ (.int .i64 0)).setCell ⟨B, 2, none⟩ (.int .i64 0)).setCell ⟨B, 7, none⟩ (.int .i64 0)).setCell ⟨B, 8, none⟩ (.int .i64 0)).setCell ⟨B, 13, none⟩ (.float .f64 0)) := Xb.set (Xb.set (Xb.set (Xb.set (Xb.set (Xb.of_kp kb) 1 (.int .i64 0)) 2 (.int .i64 0)) 7 (.int .i64 0)) 8 (.int .i64 0)) 13 (.float .f64 0)
  have kw := xb.below hB0 K
  have HA := Lib.hid (scoRight_any ads ⟨n, s, o, d, x⟩ hx (((((W0.setCell ⟨B, 1, none⟩ (.int .i64 0)).setCell ⟨B, 2, none⟩ (.int .i64 0)).setCell ⟨B, 7, none⟩ (.int .i64 0)).setCell ⟨B, 8, none⟩ (.int .i64 0)).setCell ⟨B, 13, none⟩ (.float .f64 0)) (V.below kw) (T.kp kw))
  dsimp only [CX.cells] at HA
  have hr2 : (((((W0.setCell ⟨B, 1, none⟩ (.int .i64 0)).setCell ⟨B, 2, none⟩ (.int .i64 0)).setCell ⟨B, 7, none⟩ (.int .i64 0)).setCell ⟨B, 8, none⟩ (.int .i64 0)).setCell ⟨B, 13, none⟩ (.float .f64 0)).heap[w.heap.size]? = some (.cells #[.int .i64 n, .int .i64 s, .int .i64 o, .int .i64 d, .float .f64 x] 62) := by rw [Below.heap_setCell _ _ _ _ hne, Below.heap_setCell _ _ _ _ hne, Below.heap_setCell _ _ _ _ hne, Below.heap_setCell _ _ _ _ hne, Below.heap_setCell _ _ _ _ hne]; exact hr
  obtain ⟨e0, e1, e2, e3, e4⟩ := cells5 hr2
  obtain ⟨b0, b1, b2, b3, b4, b5, b6, b7, b8, b9, b10, b11, b12, b13⟩ := cells14 hB
  obtain ⟨c0, c1, c2, c3, c4, c5, c6, c7, c8, c9, c10, c11, c12, c13⟩ := cells14 g0
  obtain ⟨m0, m1, m2, m3, m4, m5, m6, m7, m8, m9, m10, m11, m12, m13⟩ := cells14 (kp_row (kp_alloc w (.cells #[.int .i64 0, .int .i64 0, .int .i64 0, .int .i64 0, .float .f64 0] 62)) hB)
  have hz := (MapKept.heap_alloc w (.cells #[.int .i64 0, .int .i64 0, .int .i64 0, .int .i64 0, .float .f64 0] 62)).1
  have z0 := froz14 g0
  have y1 : (W0.setCell ⟨B, 1, none⟩ (.int .i64 0)).cell? ⟨B, 2, none⟩ = some (.int .i64 s) := (cells14 g1).2.2.1
  have z1 := froz14 g1
  have y2 : ((W0.setCell ⟨B, 1, none⟩ (.int .i64 0)).setCell ⟨B, 2, none⟩ (.int .i64 0)).cell? ⟨B, 7, none⟩ = some (.int .i64 o) := (cells14 g2).2.2.2.2.2.2.2.1
  have z2 := froz14 g2
  have y3 : (((W0.setCell ⟨B, 1, none⟩ (.int .i64 0)).setCell ⟨B, 2, none⟩ (.int .i64 0)).setCell ⟨B, 7, none⟩ (.int .i64 0)).cell? ⟨B, 8, none⟩ = some (.int .i64 d) := (cells14 g3).2.2.2.2.2.2.2.2.1
  have z3 := froz14 g3
  have y4 : ((((W0.setCell ⟨B, 1, none⟩ (.int .i64 0)).setCell ⟨B, 2, none⟩ (.int .i64 0)).setCell ⟨B, 7, none⟩ (.int .i64 0)).setCell ⟨B, 8, none⟩ (.int .i64 0)).cell? ⟨B, 13, none⟩ = some (.float .f64 x) := (cells14 g4).2.2.2.2.2.2.2.2.2.2.2.2.2
  have z4 := froz14 g4
  have G := Lib.hid g5
  have XB := Lib.hid xb
  clear V T K hB hr g0 g1 g2 g3 g4 g5 xb kw hr2 kb hx
  go_enter Tryz.func103, Tryz.ntmps103
  go_wp2
  go_region
  try rw [hW0]
  clear hW0
  go_wp2_with (go_at_call 143; (with_reducible refine HA.out.mono ?_); rintro e w5 ⟨rfl, hk5⟩; have HK5 := Lib.hid hk5; clear hk5)
  go_ret
  exact ⟨rfl, kp_row HK5.out G.out, XB.out.kp HK5.out⟩
set_option maxRecDepth 100000 in
set_option maxHeartbeats 2000000 in
theorem seat_t (B : Nat) (k n s r u p q o d a t hh c : Int) (x : Nat) (w : World) (hB : w.heap[B]? = some (.cells #[.int .i64 k, .int .i64 n, .int .i64 s, .int .i64 r, .int .i64 u, .int .i64 p, .int .i64 q, .int .i64 o, .int .i64 d, .int .i64 a, .int .i64 t, .int .i64 hh, .int .i64 c, .float .f64 x] 39 (0, 0))) (ht : 1 ≤ t ∧ t ≤ 14) :
    Calls Tryz.prog 105 #[.pointer (some ⟨B, 0, none⟩)] w fun e w' => e = .returned (.bool (seatX t hh)) ∧ w'.heap[B]? = some (.cells #[.int .i64 k, .int .i64 n, .int .i64 s, .int .i64 r, .int .i64 u, .int .i64 p, .int .i64 q, .int .i64 o, .int .i64 d, .int .i64 a, .int .i64 0, .int .i64 0, .int .i64 c, .float .f64 x] 39 (0, 0)) ∧ Xb B w w' := by
  rw [seat_how]
  obtain ⟨W0, hW0⟩ : ∃ y, w.drew = y := ⟨_, rfl⟩
  have kb : Kp w W0 := by rw [← hW0]; exact (Kp.refl w).drew
  have g0 := kp_row kb hB
  have g1 : (W0.setCell ⟨B, 10, none⟩ (.int .i64 0)).heap[B]? = some (.cells #[.int .i64 k, .int .i64 n, .int .i64 s, .int .i64 r, .int .i64 u, .int .i64 p, .int .i64 q, .int .i64 o, .int .i64 d, .int .i64 a, .int .i64 0, .int .i64 hh, .int .i64 c, .float .f64 x] 39 (0, 0)) := (Joins.block_setCell g0 _).trans rfl
  have g2 : ((W0.setCell ⟨B, 10, none⟩ (.int .i64 0)).setCell ⟨B, 11, none⟩ (.int .i64 0)).heap[B]? = some (.cells #[.int .i64 k, .int .i64 n, .int .i64 s, .int .i64 r, .int .i64 u, .int .i64 p, .int .i64 q, .int .i64 o, .int .i64 d, .int .i64 a, .int .i64 0, .int .i64 0, .int .i64 c, .float .f64 x] 39 (0, 0)) := (Joins.block_setCell g1 _).trans rfl
  have xb : Xb B w ((W0.setCell ⟨B, 10, none⟩ (.int .i64 0)).setCell ⟨B, 11, none⟩ (.int .i64 0)) := Xb.set (Xb.set (Xb.of_kp kb) 10 (.int .i64 0)) 11 (.int .i64 0)
  obtain ⟨b0, b1, b2, b3, b4, b5, b6, b7, b8, b9, b10, b11, b12, b13⟩ := cells14 hB
  obtain ⟨c0, c1, c2, c3, c4, c5, c6, c7, c8, c9, c10, c11, c12, c13⟩ := cells14 g0
  have z0 := froz14 g0
  have y1 : (W0.setCell ⟨B, 10, none⟩ (.int .i64 0)).cell? ⟨B, 11, none⟩ = some (.int .i64 hh) := (cells14 g1).2.2.2.2.2.2.2.2.2.2.2.1
  have z1 := froz14 g1
  have G := Lib.hid g2
  have XB := Lib.hid xb
  have h1 : decide (1 ≤ t ∧ t ≤ 14) = true := decide_eq_true ht
  rw [h1, Bool.true_and]
  clear ht
  clear hB g0 g1 g2 xb kb
  go_enter Tryz.func105, Tryz.ntmps105
  go_wp2
  go_region
  try rw [hW0]
  clear hW0
  go_wp2_with (first | (go_at_call 62; (with_reducible refine (within_any _ _ _ _).mono ?_); rintro e w' ⟨rfl, rfl⟩) | (go_at_call 145; (with_reducible refine (rightHow_any _ _ _).mono ?_); rintro e w' ⟨rfl, rfl⟩))
  go_ret
  exact ⟨rfl, G.out, XB.out⟩
set_option maxRecDepth 100000 in
set_option maxHeartbeats 2000000 in
theorem seat_f (B : Nat) (k n s r u p q o d a t hh c : Int) (x : Nat) (w : World) (hB : w.heap[B]? = some (.cells #[.int .i64 k, .int .i64 n, .int .i64 s, .int .i64 r, .int .i64 u, .int .i64 p, .int .i64 q, .int .i64 o, .int .i64 d, .int .i64 a, .int .i64 t, .int .i64 hh, .int .i64 c, .float .f64 x] 39 (0, 0))) (ht : ¬ (1 ≤ t ∧ t ≤ 14)) :
    Calls Tryz.prog 105 #[.pointer (some ⟨B, 0, none⟩)] w fun e w' => e = .returned (.bool (seatX t hh)) ∧ w'.heap[B]? = some (.cells #[.int .i64 k, .int .i64 n, .int .i64 s, .int .i64 r, .int .i64 u, .int .i64 p, .int .i64 q, .int .i64 o, .int .i64 d, .int .i64 a, .int .i64 0, .int .i64 0, .int .i64 c, .float .f64 x] 39 (0, 0)) ∧ Xb B w w' := by
  rw [seat_how]
  obtain ⟨W0, hW0⟩ : ∃ y, w.drew = y := ⟨_, rfl⟩
  have kb : Kp w W0 := by rw [← hW0]; exact (Kp.refl w).drew
  have g0 := kp_row kb hB
  have g1 : (W0.setCell ⟨B, 10, none⟩ (.int .i64 0)).heap[B]? = some (.cells #[.int .i64 k, .int .i64 n, .int .i64 s, .int .i64 r, .int .i64 u, .int .i64 p, .int .i64 q, .int .i64 o, .int .i64 d, .int .i64 a, .int .i64 0, .int .i64 hh, .int .i64 c, .float .f64 x] 39 (0, 0)) := (Joins.block_setCell g0 _).trans rfl
  have g2 : ((W0.setCell ⟨B, 10, none⟩ (.int .i64 0)).setCell ⟨B, 11, none⟩ (.int .i64 0)).heap[B]? = some (.cells #[.int .i64 k, .int .i64 n, .int .i64 s, .int .i64 r, .int .i64 u, .int .i64 p, .int .i64 q, .int .i64 o, .int .i64 d, .int .i64 a, .int .i64 0, .int .i64 0, .int .i64 c, .float .f64 x] 39 (0, 0)) := (Joins.block_setCell g1 _).trans rfl
  have xb : Xb B w ((W0.setCell ⟨B, 10, none⟩ (.int .i64 0)).setCell ⟨B, 11, none⟩ (.int .i64 0)) := Xb.set (Xb.set (Xb.of_kp kb) 10 (.int .i64 0)) 11 (.int .i64 0)
  obtain ⟨b0, b1, b2, b3, b4, b5, b6, b7, b8, b9, b10, b11, b12, b13⟩ := cells14 hB
  obtain ⟨c0, c1, c2, c3, c4, c5, c6, c7, c8, c9, c10, c11, c12, c13⟩ := cells14 g0
  have z0 := froz14 g0
  have y1 : (W0.setCell ⟨B, 10, none⟩ (.int .i64 0)).cell? ⟨B, 11, none⟩ = some (.int .i64 hh) := (cells14 g1).2.2.2.2.2.2.2.2.2.2.2.1
  have z1 := froz14 g1
  have G := Lib.hid g2
  have XB := Lib.hid xb
  have h1 : decide (1 ≤ t ∧ t ≤ 14) = false := decide_eq_false ht
  rw [h1, Bool.false_and]
  clear ht
  clear hB g0 g1 g2 xb kb
  go_enter Tryz.func105, Tryz.ntmps105
  go_wp2
  go_region
  try rw [hW0]
  clear hW0
  go_wp2_with (first | (go_at_call 62; (with_reducible refine (within_any _ _ _ _).mono ?_); rintro e w' ⟨rfl, rfl⟩))
  go_ret
  exact ⟨rfl, G.out, XB.out⟩
end Go.Proofs.YtpemeenfhkgmpaaGreatDoor
