/-
  THE DOCUMENT's NET (own work): Take.
-/
import Derived.Test.YtjffkfcokgcenaaDoorRnE
namespace Go.Proofs.YtjffkfcokgcenaaDoor
open Go.RowKit Go.ChangeShapes Go.WideShapes
variable {w0 w w' W w3 : World} {q : Nat} {m : NetM} {v v' vc : Value} {rb : List Nat}

theorem results_row_tmpN {P : Program} {fn : Func} {p u : Tmp} {ty : TypeId} (h : fn.results = #[.cell p ty, .tmp u]) (tmps : Array Value) (w : World) (g : Nat) (t : TypeId) (cs : Array Value) (fr : Nat × Nat) (d : TypeDesc)
    (hp : tmps.getD p undef = .pointer (some ⟨g, 0, none⟩)) (hg : w.heap[g]? = some (.cells cs t fr))
    (hu : P.underlying ty = some d) (hd : (match d with | .struct _ | .array _ _ => true | _ => false) = true) (hi : (P.info? ty).map (·.size) = some cs.size) :
    (results fn tmps).run P w = .ok (.tuple #[.agg cs, tmps.getD u undef]) w := by
  have hp' : tmps[p]?.getD undef = .pointer (some ⟨g, 0, none⟩) := by simpa using hp
  simp [results, h, hp', asAddr, run_loadVar_row w g t ty cs fr d hg hu hd hi]
theorem set_3N {b : Nat} {t : TypeId} {w : World} {x0 x1 x2 : Value} (y0 y1 y2 : Value) (h : w.heap[b]? = some (.cells #[x0, x1, x2] t (0, 0))) : (((w.setCell ⟨b, 0, none⟩ y0).setCell ⟨b, 1, none⟩ y1).setCell ⟨b, 2, none⟩ y2).heap[b]? = some (.cells #[y0, y1, y2] t (0, 0)) := by
  have h0 : (w.setCell ⟨b, 0, none⟩ y0).heap[b]? = some (.cells #[y0, x1, x2] t (0, 0)) := (Joins.block_setCell h _).trans rfl
  have h1 : ((w.setCell ⟨b, 0, none⟩ y0).setCell ⟨b, 1, none⟩ y1).heap[b]? = some (.cells #[y0, y1, x2] t (0, 0)) := (Joins.block_setCell h0 _).trans rfl
  exact (Joins.block_setCell h1 _).trans rfl
theorem set_3eq {b c : Nat} {w : World} {y0 y1 y2 : Value} (hne : c ≠ b) : (((w.setCell ⟨b, 0, none⟩ y0).setCell ⟨b, 1, none⟩ y1).setCell ⟨b, 2, none⟩ y2).heap[c]? = w.heap[c]? := by
  rw [Below.heap_setCell _ _ _ _ hne, Below.heap_setCell _ _ _ _ hne, Below.heap_setCell _ _ _ _ hne]
theorem asd_newN {O O' : Nat → Prop} {b i : Nat} {w w' : World} {y : Value} (h : Asd O O' w w') (hb : w.heap.size ≤ b) : Asd O O' w (w'.setCell ⟨b, i, none⟩ y) :=
  ⟨h.os, h.tape, h.output, by simpa using h.size, fun c hc hn => (Below.heap_setCell _ _ _ _ (by show c ≠ b; omega)).trans (h.block c hc hn), h.own⟩
set_option maxRecDepth 100000 in
theorem rnTake_no (H : Rn w0 q m v vc rb w) (ii : Int) (h : m.there ii = false) : Calls Tryd.prog 26 #[.pointer (some ⟨q, 0, none⟩), .int .i64 ii] w fun r w' => r = .returned (.tuple #[.agg #[.int .i64 0, .int .i64 0, .string ⟨#[]⟩], .int .i64 1]) ∧ Kp w w' := by
  have K1 := Lib.hid (kp_alloc w (.cells #[.int .i64 0, .int .i64 0, .string ⟨#[]⟩] 47))
  have HZ := Lib.hid (MapKept.heap_alloc w (.cells #[.int .i64 0, .int .i64 0, .string ⟨#[]⟩] 47)).1
  have ht := rnThere_any (H.kp K1.out) ii
  rw [h] at ht
  have HT := Lib.hid ht
  have z0 := cell_row (i := 0) HZ.out rfl
  have z1 := cell_row (i := 1) HZ.out rfl
  have z2 := cell_row (i := 2) HZ.out rfl
  have fz := frozR HZ.out
  clear H h ht
  go_enter Tryd.func26, Tryd.ntmps26
  go_wp2_with (go_at_call 42; (with_reducible refine (HT.out).mono ?_); rintro e' w3 ⟨rfl, rfl⟩)
  first
    | refine bodyPost_ret (results_row_tmpN (p := 4) (u := 5) rfl _ _ w.heap.size 47 _ (0, 0) _ rfl HZ.out Tryd.underlying47 rfl (by kernel_rfl)) rfl ?_; exact ⟨rfl, K1.out⟩
    | refine bodyPost_ret (results_row_tmpN (p := 4) (u := 5) rfl _ _ w.heap.size 47 _ (0, 0) _ rfl (set_3N _ _ _ HZ.out) Tryd.underlying47 rfl (by kernel_rfl)) rfl ?_; exact ⟨rfl, Below.setCell (Below.setCell (Below.setCell K1.out (Nat.le_refl _) _) (Nat.le_refl _) _) (Nat.le_refl _) _⟩
set_option maxRecDepth 100000 in
set_option maxHeartbeats 2000000 in
theorem rnTake_ok (H : Rn w0 q m v vc rb w) (hl : m.f.length ≤ 64) (ii : Int) (h : m.there ii = true) (a b : Int) (d : List Int) (s : ByteArray) (hs : strOfNums d = s) (hd : m.f.getD ii.toNat lt0 = ⟨a, b, d⟩) : Calls Tryd.prog 26 #[.pointer (some ⟨q, 0, none⟩), .int .i64 ii] w fun r w' => r = .returned (.tuple #[.agg #[.int .i64 a, .int .i64 b, .string s], .int .i64 0]) ∧ ∃ v', Rn w0 q ⟨m.n, m.but ii.toNat, m.cut, m.lost⟩ v' vc rb w' ∧ Asd (On q v vc rb) (On q v' vc rb) w w' := by
  have k1 := kp_alloc w (.cells #[.int .i64 0, .int .i64 0, .string ⟨#[]⟩] 47)
  have hz := (MapKept.heap_alloc w (.cells #[.int .i64 0, .int .i64 0, .string ⟨#[]⟩] 47)).1
  have ht := rnThere_any (H.kp k1) ii
  rw [h] at ht
  have HT := Lib.hid ht
  obtain ⟨hi0, hlt⟩ := there_lt h
  obtain ⟨W, hW⟩ : ∃ W, (w.alloc (.cells #[.int .i64 0, .int .i64 0, .string ⟨#[]⟩] 47)).alloc (.cells #[.int .i64 a, .int .i64 b, .string s] 47) = W := ⟨_, rfl⟩
  have k2 := kp_alloc (w.alloc (.cells #[.int .i64 0, .int .i64 0, .string ⟨#[]⟩] 47)) (.cells #[.int .i64 a, .int .i64 b, .string s] 47)
  have t2 := (MapKept.heap_alloc (w.alloc (.cells #[.int .i64 0, .int .i64 0, .string ⟨#[]⟩] 47)) (.cells #[.int .i64 a, .int .i64 b, .string s] 47)).1
  rw [show (w.alloc (.cells #[.int .i64 0, .int .i64 0, .string ⟨#[]⟩] 47)).heap.size = w.heap.size + 1 by simp] at t2
  have WS := Lib.hid (show W.heap.size = w.heap.size + 2 by rw [← hW]; simp)
  have zw := kp_row k2 hz
  rw [hW] at k2 t2 zw
  have KW := Lib.hid (Kp.trans k1 k2)
  have TW := Lib.hid t2
  have ZW := Lib.hid zw
  have HH := Lib.hid H
  have HNO := Lib.hid (fun b (h1 : w.heap.size ≤ b) => (fun e => absurd (H.mem b e).2 (by omega) : ¬ On q v vc rb b))
  have HWO := Lib.hid (rnWithout_any (H.kp KW.out) hl ii.toNat ii (by omega) hlt)
  have hown := H.own
  rcases hown.2 with ⟨rfl, h0⟩ | ⟨bv, cp, cur, rfl, hb, hh, hnc, -⟩
  · omega
  obtain ⟨n, hN⟩ : ∃ n, m.f.length = n := ⟨_, rfl⟩
  have hget : m.f[ii.toNat] = ⟨a, b, d⟩ := by rw [← hd, List.getD_eq_getElem?_getD, List.getElem?_eq_getElem hlt]; rfl
  have cc : ∀ (k : Nat) (u : Value), k < 3 → (ltE.enc ⟨a, b, d⟩)[k]? = some u → w.cell? ⟨bv, ii.toNat * 3 + k, none⟩ = some u := fun k u hk hu => by
    have := hown.cells rfl (ii.toNat * 3 + k) u (by rw [← hu, ← hget]; exact row_at ltE m.f ii.toNat hlt k hk)
    rw [Addr.add_lit, Nat.zero_add] at this
    exact this
  have c0 : (w.alloc (.cells #[.int .i64 0, .int .i64 0, .string ⟨#[]⟩] 47)).cell? ⟨bv, ii.toNat * 3, none⟩ = some (.int .i64 a) := kp_cell k1 (cc 0 _ (by decide) rfl)
  have c1 : (w.alloc (.cells #[.int .i64 0, .int .i64 0, .string ⟨#[]⟩] 47)).cell? ⟨bv, ii.toNat * 3 + 1, none⟩ = some (.int .i64 b) := kp_cell k1 (cc 1 _ (by decide) rfl)
  have c2 : (w.alloc (.cells #[.int .i64 0, .int .i64 0, .string ⟨#[]⟩] 47)).cell? ⟨bv, ii.toNat * 3 + 2, none⟩ = some (.string s) := by rw [← hs]; exact kp_cell k1 (cc 2 _ (by decide) rfl)
  have y1 := kp_cell k1 (cell_row (i := 1) H.row rfl)
  rw [hN] at y1 hlt
  have i1 : ii < n := by omega
  have HW := Lib.hid hW
  clear h ht hown hb hh hnc hd hget cc hW H hs hlt k1 k2 hz t2 zw hl hN
  go_enter Tryd.func26, Tryd.ntmps26
  go_wp2_with (first | (go_at_call 42; (with_reducible refine (HT.out).mono ?_); rintro e' w3 ⟨rfl, rfl⟩) | (go_at_call 43; (try rw [HW.out]); (with_reducible refine HWO.out.mono ?_); rintro e' w5 ⟨v5, rfl, ho, hk⟩; have K5 := Lib.hid (Kp.trans KW.out hk); have RF := Lib.hid (HH.out.letters K5.out (w3 := w5) (f := m.but ii.toNat) ⟨rfl, rfl, rfl, Nat.le_refl _, fun _ _ _ => rfl⟩ rfl (own_baseG ho (Nat.le_trans HH.out.bq (Nat.le_trans (Nat.le_of_lt (old_of_row HH.out.row)) (Below.size KW.out)))) (fun b e => .inr (Nat.le_trans (Below.size KW.out) (ho.lt b e).1))); have r5 := kp_row K5.out HH.out.row; have y5 := cell_row (i := 1) r5 rfl; have fy := frozR r5; have Q5 := Lib.hid (old_of_row HH.out.row); have T6 := Lib.hid (show (w5.setCell ⟨q, 1, none⟩ v5).heap[w.heap.size + 1]? = some (.cells #[.int .i64 a, .int .i64 b, .string s] 47) from (Below.heap_setCell _ _ _ _ (by have := Q5.out; show w.heap.size + 1 ≠ q; omega)).trans (kp_row hk TW.out)); have Z6 := Lib.hid (show (w5.setCell ⟨q, 1, none⟩ v5).heap[w.heap.size]? = some (.cells #[.int .i64 0, .int .i64 0, .string ⟨#[]⟩] 47) from (Below.heap_setCell _ _ _ _ (by have := Q5.out; show w.heap.size ≠ q; omega)).trans (kp_row hk ZW.out)); have HNV := Lib.hid (fun (e : On q v5 vc rb w.heap.size) => (e.elim (fun e => HNO.out _ (Nat.le_refl _) (.inl e)) (fun e => e.elim (fun e => by have := (ho.lt _ e).1; have := WS.out; omega) (fun e => HNO.out _ (Nat.le_refl _) (.inr (.inr e)))) : False)); obtain ⟨a5, p5, hv5⟩ := own_formG ho; subst hv5; have t60 := cell_row (i := 0) T6.out rfl; have t61 := cell_row (i := 1) T6.out rfl; have t62 := cell_row (i := 2) T6.out rfl; have z60 := cell_row (i := 0) Z6.out rfl; have z61 := cell_row (i := 1) Z6.out rfl; have z62 := cell_row (i := 2) Z6.out rfl; have fz6 := frozR Z6.out; clear ho hk r5))
  refine bodyPost_ret (results_row_tmpN (p := 4) (u := 5) rfl _ _ w.heap.size 47 _ (0, 0) _ rfl (set_3N _ _ _ Z6.out) Tryd.underlying47 rfl (by kernel_rfl)) rfl ?_
  exact ⟨rfl, _, RF.out.1.stay (fun b hb => set_3eq (fun e => HNV.out (e ▸ hb))), asd_newN (asd_newN (asd_newN RF.out.2 (Nat.le_refl _)) (Nat.le_refl _)) (Nat.le_refl _)⟩
def ltV (l : LtM) : Array Value := #[.int .i64 l.a, .int .i64 l.b, .string (strOfNums l.d)]
theorem rnTake_any (H : Rn w0 q m v vc rb w) (hm : Nok m) (ii : Int) : Calls Tryd.prog 26 #[.pointer (some ⟨q, 0, none⟩), .int .i64 ii] w fun r w' => r = .returned (.tuple #[.agg (ltV (m.take ii).1.1), .int .i64 (m.take ii).1.2]) ∧ ∃ v', Rn w0 q (m.take ii).2 v' vc rb w' ∧ Asd (On q v vc rb) (On q v' vc rb) w w' := by
  unfold NetM.take
  by_cases h1 : m.there ii = false
  · rw [if_pos h1]
    exact (rnTake_no H ii h1).mono fun r w' ⟨q1, q2⟩ => ⟨q1, v, H.kp q2, Asd.of_kp _ q2⟩
  rw [if_neg h1]
  have h1 : m.there ii = true := by simpa using h1
  obtain ⟨⟨a, b, d⟩, hd⟩ : ∃ l, m.f.getD ii.toNat lt0 = l := ⟨_, rfl⟩
  rw [hd]
  exact rnTake_ok H hm.len ii h1 a b d _ rfl hd
end Go.Proofs.YtjffkfcokgcenaaDoor
