/- Parts of this proof (own work). -/
import Derived.Test.YtpemeenfhkgmpaaGreatDoorZf14
import Derived.ChangeSame
set_option maxRecDepth 100000
set_option maxHeartbeats 40000000
namespace Go.Proofs.YtpemeenfhkgmpaaGreatDoor
open Go.RowKit Go.ChangeShapes Go.WideShapes
theorem results_row_tmpF {P : Program} {fn : Func} {p u : Tmp} {ty : TypeId} (h : fn.results = #[.cell p ty, .tmp u]) (tmps : Array Value) (w : World) (g : Nat) (t : TypeId) (cs : Array Value) (fr : Nat × Nat) (d : TypeDesc)
  (hp : tmps.getD p undef = .pointer (some ⟨g, 0, none⟩)) (hg : w.heap[g]? = some (.cells cs t fr))
  (hu : P.underlying ty = some d) (hd : (match d with | .struct _ | .array _ _ => true | _ => false) = true) (hi : (P.info? ty).map (·.size) = some cs.size) :
  (results fn tmps).run P w = .ok (.tuple #[.agg cs, tmps.getD u undef]) w := by
 have hp' : tmps[p]?.getD undef = .pointer (some ⟨g, 0, none⟩) := by simpa using hp
 simp [results, h, hp', asAddr, run_loadVar_row w g t ty cs fr d hg hu hd hi]
theorem fread_val (a : Option Addr) (cap : Nat) (len : Nat) (w : World) (k n s r u p q o d aa t hh c : Int) (x : Nat)
  (H : ∀ w1, Kp w w1 → w1.cell? ⟨w.heap.size, 0, none⟩ = some (.slice a len cap) → Calls Tryz.prog 92 #[.pointer (some ⟨w.heap.size, 0, none⟩)] w1 fun e w' => e = .returned (.agg #[k, n, s, r, u, p, q, o, d, aa, t, hh, c, x]) ∧ Kp w1 w') :
  Calls Tryz.prog 49 #[.slice a len cap] w fun e w' => e = .returned (.tuple #[.agg #[k, n, s, r, u, p, q, o, d, aa, t, hh, c, x], .nilIface]) ∧ Kp w w' := by
 have hmf : ∀ (fn : Fn) (first cap : Array Value) (w : World), (Instr.makeFunc fn first cap).run Tryz.prog w = .ok (.func fn first cap) w := fun _ _ _ _ => rfl
 have hsf := sF; have kb := kA w (.cells #[.slice a len cap] 55); have kb2 := kT kb (kA (w.alloc (.cells #[.slice a len cap] 55)) (.cells #[(0:Int), (0:Int), (0:Int), (0:Int), (0:Int), (0:Int), (0:Int), (0:Int), (0:Int), (0:Int), (0:Int), (0:Int), (0:Int), .float .f64 0] 39)); have hc := kZ (kA (w.alloc (.cells #[.slice a len cap] 55)) (.cells #[(0:Int), (0:Int), (0:Int), (0:Int), (0:Int), (0:Int), (0:Int), (0:Int), (0:Int), (0:Int), (0:Int), (0:Int), (0:Int), .float .f64 0] 39)) (box_cell w (.slice a len cap) 55); have hz := nX1 w (.cells #[.slice a len cap] 55) (.cells #[(0:Int), (0:Int), (0:Int), (0:Int), (0:Int), (0:Int), (0:Int), (0:Int), (0:Int), (0:Int), (0:Int), (0:Int), (0:Int), .float .f64 0] 39); have HT := hD (try_fct_val 92 #[.pointer (some ⟨w.heap.size, 0, none⟩)] k n s r u p q o d aa t hh c x ((w.alloc (.cells #[.slice a len cap] 55)).alloc (.cells #[(0:Int), (0:Int), (0:Int), (0:Int), (0:Int), (0:Int), (0:Int), (0:Int), (0:Int), (0:Int), (0:Int), (0:Int), (0:Int), .float .f64 0] 39)) (by intro w; simp [go_sem]) fun w1 hk => H w1 (kT kb2 hk) (kZ hk hc))
 clear H hc kb; obtain ⟨KB, HZ⟩ := hD2 kb2 hz; clear hz kb2; go_enter Tryz.func49, Tryz.ntmps49; go_wp2_with (go_at_call 91; (with_reducible refine HT.out.mono ?_); rintro e w5 ⟨rfl, hk⟩; have HK := hD hk; have HR := hD (rZ hk HZ.out); obtain ⟨d0, d1, d2, d3, d4, d5, d6, d7, d8, d9, d10, d11, d12, d13⟩ := cZ HR.out; have fz := froz14 HR.out; clear hk)
 have hz9 := set14 (.int .i64 k) (.int .i64 n) (.int .i64 s) (.int .i64 r) (.int .i64 u) (.int .i64 p) (.int .i64 q) (.int .i64 o) (.int .i64 d) (.int .i64 aa) (.int .i64 t) (.int .i64 hh) (.int .i64 c) (.float .f64 x) HR.out; refine bodyPost_ret (results_row_tmpF (p := 2) (u := 3) rfl _ _ (w.heap.size + 1) 39 _ (0, 0) _ rfl hz9 Tryz.underlying39 rfl (by kernel_rfl)) rfl ?_
 exact ⟨rfl, set14_kp (kT KB.out HK.out) (by omega) _ _ _ _ _ _ _ _ _ _ _ _ _ _⟩
theorem fread_err (ads : List Addr) (a : Option Addr) (cap : Nat) (len : Nat) (w : World) (V : St ads w) (i : Nat) (hi : i < ads.length)
  (H : ∀ w1, Kp w w1 → w1.cell? ⟨w.heap.size, 0, none⟩ = some (.slice a len cap) → Calls Tryz.prog 92 #[.pointer (some ⟨w.heap.size, 0, none⟩)] w1 fun e w' => e = .panicked [{ v := snt (ads[i]'hi), recovered := false }] ∧ Kp w1 w') :
  Calls Tryz.prog 49 #[.slice a len cap] w fun e w' => e = .returned (.tuple #[.agg #[(0:Int), (0:Int), (0:Int), (0:Int), (0:Int), (0:Int), (0:Int), (0:Int), (0:Int), (0:Int), (0:Int), (0:Int), (0:Int), .float .f64 0], snt (ads[i]'hi)]) ∧ Kp w w' := by
 have hmf : ∀ (fn : Fn) (first cap : Array Value) (w : World), (Instr.makeFunc fn first cap).run Tryz.prog w = .ok (.func fn first cap) w := fun _ _ _ _ => rfl
 have hsf := sF; have kb := kA w (.cells #[.slice a len cap] 55); have kb2 := kT kb (kA (w.alloc (.cells #[.slice a len cap] 55)) (.cells #[(0:Int), (0:Int), (0:Int), (0:Int), (0:Int), (0:Int), (0:Int), (0:Int), (0:Int), (0:Int), (0:Int), (0:Int), (0:Int), .float .f64 0] 39)); have hc := kZ (kA (w.alloc (.cells #[.slice a len cap] 55)) (.cells #[(0:Int), (0:Int), (0:Int), (0:Int), (0:Int), (0:Int), (0:Int), (0:Int), (0:Int), (0:Int), (0:Int), (0:Int), (0:Int), .float .f64 0] 39)) (box_cell w (.slice a len cap) 55); have hz := nX1 w (.cells #[.slice a len cap] 55) (.cells #[(0:Int), (0:Int), (0:Int), (0:Int), (0:Int), (0:Int), (0:Int), (0:Int), (0:Int), (0:Int), (0:Int), (0:Int), (0:Int), .float .f64 0] 39); have HT := hD (try_fct_err ads i hi 92 #[.pointer (some ⟨w.heap.size, 0, none⟩)] ((w.alloc (.cells #[.slice a len cap] 55)).alloc (.cells #[(0:Int), (0:Int), (0:Int), (0:Int), (0:Int), (0:Int), (0:Int), (0:Int), (0:Int), (0:Int), (0:Int), (0:Int), (0:Int), .float .f64 0] 39)) (V.below kb2) (by intro w; simp [go_sem]) fun w1 hk => H w1 (kT kb2 hk) (kZ hk hc))
 clear H hc kb V; obtain ⟨KB, HZ⟩ := hD2 kb2 hz; clear hz kb2; go_enter Tryz.func49, Tryz.ntmps49; go_wp2_with (go_at_call 91; (with_reducible refine HT.out.mono ?_); rintro e w5 ⟨rfl, hk⟩; have HK := hD hk; have HR := hD (rZ hk HZ.out); obtain ⟨d0, d1, d2, d3, d4, d5, d6, d7, d8, d9, d10, d11, d12, d13⟩ := cZ HR.out; have fz := froz14 HR.out; clear hk)
 have hz9 := set14 (.int .i64 0) (.int .i64 0) (.int .i64 0) (.int .i64 0) (.int .i64 0) (.int .i64 0) (.int .i64 0) (.int .i64 0) (.int .i64 0) (.int .i64 0) (.int .i64 0) (.int .i64 0) (.int .i64 0) (.float .f64 0) HR.out; refine bodyPost_ret (results_row_tmpF (p := 2) (u := 3) rfl _ _ (w.heap.size + 1) 39 _ (0, 0) _ rfl hz9 Tryz.underlying39 rfl (by kernel_rfl)) rfl ?_
 exact ⟨rfl, set14_kp (kT KB.out HK.out) (by omega) _ _ _ _ _ _ _ _ _ _ _ _ _ _⟩
theorem errI_isF (ads : List Addr) (i : Nat) (hi : i < ads.length) : errI ads ((i : Int) + 1) = snt (ads[i]'hi) := errI_at ads i hi
theorem finG_num : ∀ o : Option (List Int × Option Nat), (finG o).1 = 0 ∨ (finG o).1 = 4
 | none => .inr rfl
 | some (l, o) => by
  by_cases q : o.isSome = decide ((ofF l (o.getD 0)).k = 1) ∧ rightF (ofF l (o.getD 0)) = true
  ·left
   have e : finG (some (l, o)) = (0, ofF l (o.getD 0)) := if_pos q; rw [e]
  ·right
   have e : finG (some (l, o)) = (4, noF) := if_neg q; rw [e]
theorem fread_any (ads : List Addr) (a : Option Addr) (cap : Nat) (bs : List Int) (len : Nat) (hlen : bs.length = len) (hb : InB bs) (hlc : len ≤ cap) (hl : len ≤ 1000) (w : World) (V : St ads w) (T : Tab w) (hs : SlB (.slice a len cap) bs w) :
  Calls Tryz.prog 49 #[.slice a len cap] w fun e w' => e = .returned (.tuple #[.agg (decG bs).2.cells, errI ads (decG bs).1]) ∧ Kp w w' := by
 have h14 : ads.length = 14 := V.len; have h1 : 1 < ads.length := by omega
 have h3 : 3 < ads.length := by omega
 by_cases h0 : (splitQ 17 bs 0 0).1 = 0
 ·have HR := fun w1 (hk : Kp w w1) hc => fread1_row ads h1 h3 ⟨w.heap.size, 0, none⟩ a cap bs len hlen hb hlc w1 (V.below hk) hc (hs.kp hk) hl (T.kp hk) h0
  by_cases hd : (decG bs).1 = 0
  ·rw [hd, eN]; obtain ⟨m, hm⟩ : ∃ m, (decG bs).2 = m := ⟨_, rfl⟩
   rw [hm] at HR ⊢; obtain ⟨k, n, s, r, u, p, q, o, d, aa, t, hh, c, x⟩ := m; exact fread_val a cap len w k n s r u p q o d aa t hh c x fun w1 hk hc => (HR w1 hk hc).mono (by
    rintro e w2 ⟨⟨_, rfl⟩ | ⟨h, _⟩, hk2⟩
    ·exact ⟨rfl, hk2⟩
    ·rw [h] at hd; cases hd)
  ·have hg : decG bs = (4, noF) := by
    have h2 := decG_bad hd; have h4 : (decG bs).1 = 4 := by
     have h5 : (decG bs).1 = (finG (putG (List.replicate 13 0) none (splitQ 17 bs 0 0).2)).1 := by unfold decG; rw [if_neg (fun q => q h0)]
     rcases finG_num (putG (List.replicate 13 0) none (splitQ 17 bs 0 0).2) with h6 | h6
     ·rw [h5] at hd; exact absurd h6 hd
     ·rw [h5]; exact h6
    exact Prod.ext h4 h2
   have := fread_err ads a cap len w V 3 h3 fun w1 hk hc => (HR w1 hk hc).mono (by
    rintro e w2 ⟨⟨h, _⟩ | ⟨_, rfl⟩, hk2⟩
    ·exact absurd h hd
    ·exact ⟨rfl, hk2⟩)
   rw [← errI_isF ads 3 h3] at this; rw [hg]; exact this
 ·have e : decG bs = ((splitQ 17 bs 0 0).1, noF) := by unfold decG; rw [if_pos h0]
  rw [e]
  rcases splitQ_num 17 bs 0 0 with h | h | h
  ·exact absurd h h0
  ·have := fread_err ads a cap len w V 1 h1 fun w1 hk hc => fread1_err ads h1 h3 ⟨w.heap.size, 0, none⟩ a cap bs len hlen hb hlc w1 (V.below hk) hc (hs.kp hk) hl 1 h1 h
   rw [← errI_isF ads 1 h1] at this; dsimp only; rw [h]; exact this
  ·have := fread_err ads a cap len w V 3 h3 fun w1 hk hc => fread1_err ads h1 h3 ⟨w.heap.size, 0, none⟩ a cap bs len hlen hb hlc w1 (V.below hk) hc (hs.kp hk) hl 3 h3 h
   rw [← errI_isF ads 3 h3] at this; dsimp only; rw [h]; exact this
theorem facSame_any (f g : FX) (hf : f.wf) (hg : g.wf) (w : World) : Calls Tryz.prog 51 #[.agg f.cells, .agg g.cells] w fun e w' => e = .returned (.bool (sameF f g)) ∧ Kp w w' := by
 obtain ⟨k, n, s, r, u, p, q, o, d, a, t, hh, c, x⟩ := f; obtain ⟨k', n', s', r', u', p', q', o', d', a', t', hh', c', x'⟩ := g; have hx : x < 18446744073709551616 := hf; have hx' : x' < 18446744073709551616 := hg; have HSM : Hid (sameF ⟨k, n, s, r, u, p, q, o, d, a, t, hh, c, x⟩ ⟨k', n', s', r', u', p', q', o', d', a', t', hh', c', x'⟩ = ((((Fl.plain x : Nat) : Int) == ((Fl.plain x' : Nat) : Int)) && (decide (FX.nums ⟨k, n, s, r, u, p, q, o, d, a, t, hh, c, 0⟩ = FX.nums ⟨k', n', s', r', u', p', q', o', d', a', t', hh', c', 0⟩) && feqF 0 0))) := hD (by
  have e : decide (Fl.plain x = Fl.plain x') = (((Fl.plain x : Nat) : Int) == ((Fl.plain x' : Nat) : Int)) := by
   rw [Bool.eq_iff_iff, decide_eq_true_eq, beq_iff_eq]; omega
  rw [feqF_00, Bool.and_true, ← e, Bool.and_comm]
  rfl)
 dsimp only [FX.cells]; obtain ⟨w2, hw2⟩ : ∃ y, (w.alloc (.cells #[k, n, s, r, u, p, q, o, d, a, t, hh, c, x] 39)).alloc (.cells #[k', n', s', r', u', p', q', o', d', a', t', hh', c', x'] 39) = y := ⟨_, rfl⟩
 have ra : w2.heap[w.heap.size]? = some (.cells #[k, n, s, r, u, p, q, o, d, a, t, hh, c, x] 39) := by rw [← hw2]; exact nX0 w _ _
 have rb : w2.heap[w.heap.size + 1]? = some (.cells #[k', n', s', r', u', p', q', o', d', a', t', hh', c', x'] 39) := by rw [← hw2]; exact nX1 w _ _
 have kw : Kp w w2 := by rw [← hw2]; exact kT (kA _ _) (kA _ _)
 obtain ⟨a0, a1, a2, a3, a4, a5, a6, a7, a8, a9, a10, a11, a12, a13⟩ := cZ ra; obtain ⟨b0, b1, b2, b3, b4, b5, b6, b7, b8, b9, b10, b11, b12, b13⟩ := cZ rb; obtain ⟨RA, RB, KW⟩ := hD3 ra rb kw; have hq := fun w1 => fct_eql ⟨k, n, s, r, u, p, q, o, d, a, t, hh, c, 0⟩ ⟨k', n', s', r', u', p', q', o', d', a', t', hh', c', 0⟩ w1
 have hgd := fun (op : BinOp) (xx yy : Operand) w1 => fct_guard op xx yy ⟨k, n, s, r, u, p, q, o, d, a, t, hh, c, 0⟩ ⟨k', n', s', r', u', p', q', o', d', a', t', hh', c', 0⟩ w1
 dsimp only [FX.cells] at hq hgd; obtain ⟨ve, hve⟩ : ∃ z, (decide (FX.nums ⟨k, n, s, r, u, p, q, o, d, a, t, hh, c, 0⟩ = FX.nums ⟨k', n', s', r', u', p', q', o', d', a', t', hh', c', 0⟩) && feqF 0 0) = z := ⟨_, rfl⟩
 rw [hve] at HSM hq; have hsf := sF; clear hf hg hve ra rb kw; go_enter Tryz.func51, Tryz.ntmps51; go_wp2
 try rw [hw2]
 clear hw2; refine rgW (fun w' => Kp w2 w') ?_ fun hH => ?_
 ·exact (Kp.refl w2).drew
 refine tkP 0 ?_
 go_simp; refine tkP 1 ?_ (y := by intro w hZ; have q := kZ hZ a13; go_simp; try rfl)
 go_simp; refine tkP 3 ?_
 go_simp; refine tkP 4 ?_ (y := by intro w hZ; have q := kZ hZ b13; go_simp; try rfl)
 go_simp; refine rdW 2 fun K hK => ?_
 go_simp; go_wp2_with (go_at_call 98; (with_reducible refine (sbits_any x _ hx).mono ?_); rintro e w' ⟨rfl, rfl⟩)
 refine hK.out _ _ (hH) fun hH => ?_
 clear hK K; refine rdW 5 fun K hK => ?_
 go_simp; go_wp2_with (go_at_call 98; (with_reducible refine (sbits_any x' _ hx').mono ?_); rintro e w' ⟨rfl, rfl⟩)
 refine hK.out _ _ (hH) fun hH => ?_
 clear hK K; refine tkP 6 ?_
 go_simp; refine tkP 7 ?_
 go_simp; refine dnW ?_ _
 obtain ⟨w4, hw4⟩ : ∃ y, w2.drew = y := ⟨_, rfl⟩
 have k24 : Kp w2 w4 := by rw [← hw4]; exact (Kp.refl w2).drew
 rw [hw4]; obtain ⟨vp, hvp⟩ : ∃ z, (((Fl.plain x : Nat) : Int) == ((Fl.plain x' : Nat) : Int)) = z := ⟨_, rfl⟩
 rw [hvp] at HSM ⊢; obtain ⟨Ba, hBa⟩ : ∃ y, w.heap.size = y := ⟨_, rfl⟩
 obtain ⟨Bb, hBb⟩ : ∃ y, w.heap.size + 1 = y := ⟨_, rfl⟩
 have ra := RA.out; have rb := RB.out; rw [hBa] at ra; rw [hBb] at rb; rw [hBb, hBa]; have hne : Ba ≠ Bb := by omega
 have hne' : Bb ≠ Ba := by omega
 have ra4 := rZ k24 ra; have rb4 := rZ k24 rb; have ga : (w4.setCell ⟨Ba, 13, none⟩ (.float .f64 0)).heap[Ba]? = some (.cells #[k, n, s, r, u, p, q, o, d, a, t, hh, c, .float .f64 0] 39 (0, 0)) := (Joins.block_setCell ra4 _).trans rfl; have gb : (w4.setCell ⟨Ba, 13, none⟩ (.float .f64 0)).heap[Bb]? = some (.cells #[k', n', s', r', u', p', q', o', d', a', t', hh', c', x'] 39 (0, 0)) := by rw [bS _ _ _ _ hne']; exact rb4
 have gb2 : ((w4.setCell ⟨Ba, 13, none⟩ (.float .f64 0)).setCell ⟨Bb, 13, none⟩ (.float .f64 0)).heap[Bb]? = some (.cells #[k', n', s', r', u', p', q', o', d', a', t', hh', c', .float .f64 0] 39 (0, 0)) := (Joins.block_setCell gb _).trans rfl; have ga2 : ((w4.setCell ⟨Ba, 13, none⟩ (.float .f64 0)).setCell ⟨Bb, 13, none⟩ (.float .f64 0)).heap[Ba]? = some (.cells #[k, n, s, r, u, p, q, o, d, a, t, hh, c, .float .f64 0] 39 (0, 0)) := by rw [bS _ _ _ _ hne]; exact ga
 obtain ⟨c0, c1, c2, c3, c4, c5, c6, c7, c8, c9, c10, c11, c12, c13⟩ := cZ ra4; have fa := froz14 ra4; have y13 := (cZ gb).2.2.2.2.2.2.2.2.2.2.2.2.2; have fb := froz14 gb; obtain ⟨d0, d1, d2, d3, d4, d5, d6, d7, d8, d9, d10, d11, d12, d13⟩ := cZ ga2; obtain ⟨e0, e1, e2, e3, e4, e5, e6, e7, e8, e9, e10, e11, e12, e13⟩ := cZ gb2; have l1 : w.heap.size ≤ Ba := by omega
 have l2 : w.heap.size ≤ Bb := by omega
 have KE := hD (show Kp w ((w4.setCell ⟨Ba, 13, none⟩ (.float .f64 0)).setCell ⟨Bb, 13, none⟩ (.float .f64 0)) from Below.setCell (Below.setCell (kT KW.out k24) l1 _) l2 _); clear ga gb ga2 gb2 ra4 rb4 ra rb hw4 k24 hvp hBa hBb hH a0 a1 a2 a3 a4 a5 a6 a7 a8 a9 a10 a11 a12 a13 b0 b1 b2 b3 b4 b5 b6 b7 b8 b9 b10 b11 b12 b13
 cases vp with
 | false =>
  go_wp2; go_ret; exact ⟨by rw [HSM.out]; rfl, KE.out⟩
 | true =>
  go_wp2; go_ret; exact ⟨by rw [HSM.out]; rfl, KE.out⟩
theorem facC_of (ads : List Addr) (W : World) (V : St ads W) (T : Tab W) : FacC ads W where
 right := fun w1 hk f hf => facRight_any ads f hf w1 (V.below hk) (T.kp hk)
 encOk := fun w1 hk c h => (fbytes_ok ads c w1 (V.below hk) (T.kp hk) h).mono (by
  rintro e w' ⟨v, rfl, ho, hk2⟩; obtain ⟨a, p, rfl, hp⟩ := enc_len ho; exact ⟨a, p, rfl, hp, ho, hk2⟩)
 encBad := fun w1 hk c hc h => by
  have h3 : 3 < ads.length := by rw [V.len]; decide
  have := fbytes_bad ads h3 c hc w1 (V.below hk) (T.kp hk) h; rw [← errI_at ads 3 h3] at this; exact this
 dec := fun w1 hk a p bs n hn hl hb hp hs => fread_any ads a p bs n hn hb hp hl w1 (V.below hk) (T.kp hk) hs
 same := fun w1 hk f g hf hg => facSame_any f g hf hg w1
theorem one_int9 {H : Type} {enc : TypeId × Value → H} {W : World} {n : Nat} {cs : List Value} {y : DataW H × List MemPlace} {v : Value} (h : DataW.trod enc Tryz.prog W 0 (fun _ => true) true n 3 cs = some y) (hc : cs = [v]) : ∃ x : Int, v = .int .i64 x := by
 obtain ⟨x, e, _, _⟩ := DataW.trod_int Tryz.underlying3 h; rw [hc] at e; exact ⟨x, by simpa using e⟩
theorem one_float9 {H : Type} {enc : TypeId × Value → H} {W : World} {n : Nat} {cs : List Value} {y : DataW H × List MemPlace} {v : Value} (h : DataW.trod enc Tryz.prog W 0 (fun _ => true) true n 37 cs = some y) (hc : cs = [v]) : ∃ x : Nat, v = .float .f64 x ∧ x < 18446744073709551616 := by
 rw [hc] at h
 cases n with
 | zero => simp [DataW.trod] at h
 | succ n =>
  unfold DataW.trod at h; rw [Tryz.underlying37] at h
  split at h <;> simp_all
  rename_i hk
  subst hk
  simpa [Lit.wf] using h.1.2
theorem open_fct {H : Type} {enc : TypeId × Value → H} {W : World} {r : Reach} {b0 : Nat} {v : Value} {d : DataW H} {ps : List MemPlace}
  (hval : Value.okWide Tryz.prog W r b0 39 v) (h : DataW.Trod enc Tryz.prog W 0 (fun _ => true) true 39 v d ps) : ∃ c : FX, v = .agg c.cells ∧ c.wf := by
 obtain ⟨⟨cs⟩, rfl, hsz⟩ := okWide_struct Tryz.underlying39 hval; have h14 : Tryz.prog.cellsOf 39 = 14 := by kernel_rfl
 have h1 : Tryz.prog.cellsOf 3 = 1 := by kernel_rfl
 have hf1 : Tryz.prog.cellsOf 37 = 1 := by kernel_rfl
 have h2 : Tryz.prog.cellsOf 36 = 2 := by kernel_rfl
 rw [h14] at hsz; obtain ⟨fuel, hf⟩ := h
 match cs, hsz with
 | [c0, c1, c2, c3, c4, c5, c6, c7, c8, c9, c10, c11, c12, c13], _ =>
  obtain ⟨xs, n, _, _, _, hlen, hfs⟩ := DataW.trod_struct Tryz.underlying39 hf; have g0 := hfs 0 _ rfl; have g1 := hfs 1 _ rfl; have g2 := hfs 2 _ rfl; have g3 := hfs 3 _ rfl; have g4 := hfs 4 _ rfl; have g5 := hfs 5 _ rfl; have g6 := hfs 6 _ rfl; have g7 := hfs 7 _ rfl; have g8 := hfs 8 _ rfl; have g9 := hfs 9 _ rfl; have g10 := hfs 10 _ rfl; have g11 := hfs 11 _ rfl; have g12 := hfs 12 _ rfl; have e13 : xs.length = 13 := hlen
  match xs, e13 with
  | [x0, x1, x2, x3, x4, x5, x6, x7, x8, x9, x10, x11, x12], _ =>
   obtain ⟨y0, rfl⟩ := one_int9 (v := c0) g0 (by simp [Value.cells, h1]); obtain ⟨y3, rfl⟩ := one_int9 (v := c3) g2 (by simp [Value.cells, h1]); obtain ⟨y4, rfl⟩ := one_int9 (v := c4) g3 (by simp [Value.cells, h1]); obtain ⟨y5, rfl⟩ := one_int9 (v := c5) g4 (by simp [Value.cells, h1]); obtain ⟨y6, rfl⟩ := one_int9 (v := c6) g5 (by simp [Value.cells, h1]); obtain ⟨y7, rfl⟩ := one_int9 (v := c7) g6 (by simp [Value.cells, h1]); obtain ⟨y8, rfl⟩ := one_int9 (v := c8) g7 (by simp [Value.cells, h1]); obtain ⟨y9, rfl⟩ := one_int9 (v := c9) g8 (by simp [Value.cells, h1]); obtain ⟨y10, rfl⟩ := one_int9 (v := c10) g9 (by simp [Value.cells, h1]); obtain ⟨y11, rfl⟩ := one_int9 (v := c11) g10 (by simp [Value.cells, h1]); obtain ⟨y12, rfl⟩ := one_int9 (v := c12) g11 (by simp [Value.cells, h1]); obtain ⟨y13, rfl, w13⟩ := one_float9 (v := c13) g12 (by simp [Value.cells, hf1]); obtain ⟨z3, z4, k, _, _, a0, a1⟩ := trod_struct2 Tryz.underlying36 g1
   obtain ⟨y1, rfl⟩ := one_int9 (v := c1) a0 (by simp [Value.cells, h1, h2]); obtain ⟨y2, rfl⟩ := one_int9 (v := c2) a1 (by simp [Value.cells, h1, h2]); exact ⟨⟨y0, y1, y2, y3, y4, y5, y6, y7, y8, y9, y10, y11, y12, y13⟩, rfl, w13⟩
open Go.RowKit
def rightT (p e : Int) : Bool := decide ((p = 1 ∨ p = 2) ∧ (e = 1 ∨ e = 2))
def hasT (p e s : Int) : Bool := if s = 4 ∨ s = 10 then decide (p = 2) else if s = 3 then decide (p = 2 ∧ e = 1) else decide (1 ≤ s ∧ s ≤ 14)
def failT (s : Int) : Bool := decide (8 ≤ s ∧ s ≤ 11)
def waitT (e s : Int) : Int :=
 if e = 1 then (if s = 2 ∨ s = 3 then 10 else if s = 4 then 2 else if s = 6 then 9 else if s = 7 then 11 else 0)
 else (if s = 5 then 3 else if failT s then 4 else if s = 12 then 5 else if s = 13 then 1 else 0)
def waitsT (p e s : Int) : Int × Int :=
 if rightT p e = false then (14, 0) else if hasT p e s = false then (1, 0) else (0, waitT e s)
structure SeatM where
 (p e s h : Int)
deriving DecidableEq
def SeatM.right (z : SeatM) : Bool := rightT z.p z.e && hasT z.p z.e z.s && (if z.s = 14 then decide (z.h = 1 ∨ (4 ≤ z.h ∧ z.h ≤ 8)) else decide (z.h = 0))
structure RS where
 (c x : Int × Int) (h : List (Int × Int)) (w : List Int) (d : Bool)
deriving DecidableEq
structure RgM where
 (node part : Int) (z : SeatM)
deriving DecidableEq
structure AcM where
 (c : CX) (par dec : Int) (regs : List RgM)
deriving DecidableEq
structure PaM where
 (n s reg : Int) (z : SeatM)
deriving DecidableEq
structure StM where
 (node next : Int) (acts : List AcM) (parts : List PaM)
deriving DecidableEq
def newSt (node : Int) : StM := ⟨node, 0, [], []⟩
def findS (l : List AcM) (n s : Int) : Option Nat := l.findIdx? fun a => decide (a.c.n = n ∧ a.c.s = s)
def childS (l : List AcM) (p : Int) : Option Nat := if p < 0 then none else l.findIdx? fun a => decide (a.par = p + 1)
def turnS (z : SeatM) (t h : Int) : Option SeatM := if z.s ≠ 14 ∧ SeatM.right ⟨z.p, z.e, t, h⟩ = true then some ⟨z.p, z.e, t, h⟩ else none
def actS (m : StM) (i : Nat) (a : AcM) (f : FX) : Option StM :=
 if f.k = 2 then
  if f.r ≠ a.regs.length ∨ a.dec ≠ 0 ∨ a.regs.any (fun g => decide (g.node = f.e ∧ g.part = f.p)) then none
  else some { m with acts := m.acts.set i { a with regs := a.regs ++ [⟨f.e, f.p, ⟨f.q, 1, 1, 0⟩⟩] } }
 else if f.k = 3 then
  match a.regs[f.r.toNat]? with
  | none => none
  | some g => (turnS g.z f.t f.h).map fun z => { m with acts := m.acts.set i { a with regs := a.regs.set f.r.toNat { g with z := z } } }
 else if f.k = 4 then
  if a.c.o ≠ 1 ∨ a.dec ≠ 0 then none else some { m with acts := m.acts.set i { a with dec := f.c } }
 else if f.k = 5 then
  if a.regs.any (fun g => decide (g.z.s ≠ 14)) then none else some { m with acts := m.acts.eraseIdx i }
 else some m
def doS (m : StM) (f : FX) : Option StM :=
 if f.k = 1 then
  if f.n ≠ m.node ∨ f.s < m.next ∨ 8 ≤ m.acts.length ∨ (0 < f.a ∧ (m.parts.length < f.a ∨ (childS m.acts (f.a - 1)).isSome)) then none
  else some { m with acts := m.acts ++ [⟨ctxF f, f.a, 0, []⟩], next := f.s + 1 }
 else if f.k = 6 then
  if f.p ≠ m.parts.length then none else some { m with parts := m.parts ++ [⟨f.n, f.s, -1, ⟨f.q, 2, 1, 0⟩⟩] }
 else if f.k = 7 then
  match m.parts[f.p.toNat]? with
  | none => none
  | some x => if 0 ≤ x.reg then none else some { m with parts := m.parts.set f.p.toNat { x with reg := f.r } }
 else if f.k = 8 then
  match m.parts[f.p.toNat]? with
  | none => none
  | some x => (turnS x.z f.t f.h).map fun z => { m with parts := m.parts.set f.p.toNat { x with z := z } }
 else match findS m.acts f.n f.s with
  | none => none
  | some i => match m.acts[i]? with
   | none => none
   | some a => actS m i a f
def fxJoined (i : Nat) (x : PaM) : FX := ⟨6, x.n, x.s, 0, 0, i, x.z.p, 0, 0, 0, 0, 0, 0, 0⟩
def factsP : Nat → List PaM → List FX
 | _, [] => []
 | i, x :: l => fxJoined i x :: ((if 0 ≤ x.reg then [⟨7, 0, 0, x.reg, 0, i, 0, 0, 0, 0, 0, 0, 0, 0⟩] else []) ++ (if x.z.s ≠ 1 then [⟨8, 0, 0, 0, 0, i, 0, 0, 0, 0, x.z.s, x.z.h, 0, 0⟩] else []) ++ factsP (i + 1) l)
def factsR (n s : Int) : Nat → List RgM → List FX
 | _, [] => []
 | i, g :: l => ⟨2, n, s, i, g.node, g.part, g.z.p, 0, 0, 0, 0, 0, 0, 0⟩ :: factsR n s (i + 1) l
def factsZ (n s : Int) : Nat → List RgM → List FX
 | _, [] => []
 | i, g :: l => (if g.z.s ≠ 1 then [⟨3, n, s, i, 0, 0, 0, 0, 0, 0, g.z.s, g.z.h, 0, 0⟩] else []) ++ factsZ n s (i + 1) l
def factsA (a : AcM) : List FX :=
 ⟨1, a.c.n, a.c.s, 0, 0, 0, 0, a.c.o, a.c.d, a.par, 0, 0, 0, a.c.x⟩ :: (factsR a.c.n a.c.s 0 a.regs ++ factsZ a.c.n a.c.s 0 a.regs ++ (if a.dec ≠ 0 then [⟨4, a.c.n, a.c.s, 0, 0, 0, 0, 0, 0, 0, 0, 0, a.dec, 0⟩] else []))
def lastS (l : List AcM) : Int := (l.getLast?.map (·.c.s)).getD (-1)
def factsS (m : StM) : List FX :=
 factsP 0 m.parts ++ m.acts.flatMap factsA ++
 (if lastS m.acts ≠ m.next - 1 then [⟨1, m.node, m.next - 1, 0, 0, 0, 0, 1, 0, 0, 0, 0, 0, 0⟩, ⟨5, m.node, m.next - 1, 0, 0, 0, 0, 0, 0, 0, 0, 0, 0, 0⟩] else [])
end Go.Proofs.YtpemeenfhkgmpaaGreatDoor
