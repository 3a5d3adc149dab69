/-
  A NET's CODE KEEPS ITS CONTRACTS (own work): a letter's own bytes; New, Put.
-/
import Derived.Test.YtjffkfcokgcenaaDoorNtA
import Derived.Test.YtjffkfcokgcenaaDoorLaidE
import Derived.Deep.QuietTactic
namespace Go.Proofs.YtjffkfcokgcenaaDoor
open Go.RowKit Go.ChangeShapes Go.WideShapes
variable {w0 w w' W w3 : World} {q mb : Nat} {m : NetM} {v v' : Value} {ps ps' : List LtP} {ads : List Addr}

theorem Kp.drewN12 {a b : World} (h : Kp a b) (n : Nat) : Kp a (b.drewN n) := ⟨h.os, h.tape, h.output, h.size, h.block⟩
theorem results_rowN1 {P : Program} {fn : Func} {p : Tmp} {ty : TypeId} (h : fn.results = #[.cell p ty]) (tmps : Array Value) (w : World) (g : Nat) (t : TypeId) (cs : Array Value) (fr : Nat × Nat) (d : TypeDesc)
    (hp : tmps.getD p undef = .pointer (some ⟨g, 0, none⟩)) (hg : w.heap[g]? = some (.cells cs t fr))
    (hu : P.underlying ty = some d) (hd : (match d with | .struct _ | .array _ _ => true | _ => false) = true) (hi : (P.info? ty).map (·.size) = some cs.size) :
    (results fn tmps).run P w = .ok (.agg cs) w := by
  have hp' : tmps[p]?.getD undef = .pointer (some ⟨g, 0, none⟩) := by simpa using hp
  simp [results, h, hp', asAddr, run_loadVar_row w g t ty cs fr d hg hu hd hi]
set_option maxRecDepth 100000 in
theorem ownL_base (a b : Int) (o : Option Addr) (k c : Nat) (d : List Int) (hk : d.length = k) (hl : d.length ≤ 1000000) (w : World) (hs : SlB (.slice o k c) d w) : Calls Tryd.prog 35 #[.agg #[.int .i64 a, .int .i64 b, .slice o k c]] w fun r w' => ∃ o' c', r = .returned (.agg #[.int .i64 a, .int .i64 b, .slice o' k c']) ∧ w'.ownsRow w.heap.size 5 1 (.slice o' k c') k (d.map (Value.int .u8)) ∧ Kp w w' := by
  obtain ⟨W, hW⟩ : ∃ W, (w.alloc (.cells #[.int .i64 a, .int .i64 b, .slice o k c] 45)).alloc (.cells #[.int .i64 0, .int .i64 0, .slice none 0 0] 45) = W := ⟨_, rfl⟩
  have k1 := kp_alloc w (.cells #[.int .i64 a, .int .i64 b, .slice o k c] 45)
  have k2 := kp_alloc (w.alloc (.cells #[.int .i64 a, .int .i64 b, .slice o k c] 45)) (.cells #[.int .i64 0, .int .i64 0, .slice none 0 0] 45)
  have t1 := kp_row k2 (MapKept.heap_alloc w (.cells #[.int .i64 a, .int .i64 b, .slice o k c] 45)).1
  have t2 := (MapKept.heap_alloc (w.alloc (.cells #[.int .i64 a, .int .i64 b, .slice o k c] 45)) (.cells #[.int .i64 0, .int .i64 0, .slice none 0 0] 45)).1
  rw [show (w.alloc (.cells #[.int .i64 a, .int .i64 b, .slice o k c] 45)).heap.size = w.heap.size + 1 by simp] at t2
  have WS := Lib.hid (show W.heap.size = w.heap.size + 2 by rw [← hW]; simp)
  rw [hW] at k2 t1 t2
  have kw := Kp.trans k1 k2
  have KW := Lib.hid kw
  have T1 := Lib.hid t1
  have T2 := Lib.hid t2
  have HCL := Lib.hid (clone_any _ d hl W (hs.kp kw))
  have HW := Lib.hid hW
  have x2 := cell_row (i := 2) t1 rfl
  have x3 := x2
  rw [← hW] at x2
  have HK := Lib.hid hk
  clear k1 k2 t1 t2 hW kw hs hl hk
  go_enter Tryd.func35, Tryd.ntmps35
  go_wp2_with (go_at_call 45; (try rw [HW.out]); (with_reducible refine HCL.out.mono ?_); rintro e' w2 ⟨v2, rfl, ho, hk2⟩; rw [HK.out] at ho; obtain ⟨o2, c2, hv2⟩ := own_formG ho; subst hv2; have HO := Lib.hid ho; have K2 := Lib.hid hk2; have R1 := Lib.hid (kp_row hk2 T1.out); have R2 := Lib.hid (kp_row hk2 T2.out); have y0 := cell_row (i := 0) R1.out rfl; have y1 := cell_row (i := 1) R1.out rfl; have y2 := cell_row (i := 2) R1.out rfl; have fy := frozR R1.out; have z0 := cell_row (i := 0) R2.out rfl; have z1 := cell_row (i := 1) R2.out rfl; have z2 := cell_row (i := 2) R2.out rfl; have fz := frozR R2.out; clear ho hk2)
  have Q2 := Lib.hid (show (w2.setCell ⟨w.heap.size, 2, none⟩ (.slice o2 k c2)).heap[w.heap.size + 1]? = some (.cells #[.int .i64 0, .int .i64 0, .slice none 0 0] 45) from (Below.heap_setCell _ _ _ _ (by show w.heap.size + 1 ≠ w.heap.size; omega)).trans R2.out)
  refine bodyPost_ret (results_rowN1 (p := 2) rfl _ _ (w.heap.size + 1) 45 _ (0, 0) _ rfl (set_3N _ _ _ Q2.out) Tryd.underlying45 rfl (by kernel_rfl)) rfl ?_
  refine ⟨_, _, rfl, ?_, ?_⟩
  · refine own_stayG (own_baseG HO.out (Below.size KW.out)) (fun b hb => ?_)
    have h1 := (HO.out.lt b hb).1
    have h2 := WS.out
    rw [set_3eq (by omega), Below.heap_setCell _ _ _ _ (by show b ≠ w.heap.size; omega)]
  · exact Below.setCell (Below.setCell (Below.setCell (Below.setCell (Kp.trans KW.out K2.out) (Nat.le_refl _) _) (Nat.le_succ _) _) (Nat.le_succ _) _) (Nat.le_succ _) _
theorem ownL_any (a b : Int) (o : Option Addr) (k c : Nat) (d : List Int) (hk : d.length = k) (hl : d.length ≤ 1000000) (w : World) (hs : SlB (.slice o k c) d w) : Calls Tryd.prog 35 #[.agg #[.int .i64 a, .int .i64 b, .slice o k c]] w fun r w' => ∃ p : LtP, p.l = ⟨a, b, d⟩ ∧ r = .returned (.agg #[.int .i64 p.l.a, .int .i64 p.l.b, p.v]) ∧ DatP w.heap.size p w' ∧ Kp w w' := by
  refine (ownL_base a b o k c d hk hl w hs).mono ?_
  rintro r w' ⟨o', c', rfl, ho, hk'⟩
  subst hk
  exact ⟨⟨⟨a, b, d⟩, o', c'⟩, rfl, rfl, ho, hk'⟩
set_option maxRecDepth 100000 in
theorem ntNew_no (n : Int) (hn : ¬ (1 ≤ n ∧ n ≤ 4)) (e0 : w.cell? ⟨0, 0, none⟩ = some (errI ads 1)) : Calls Tryd.prog 9 #[.int .i64 n] w fun r w' => r = .returned (.tuple #[.pointer none, errI ads 1]) ∧ Kp w w' := by
  obtain ⟨x, hx⟩ : ∃ x, errI ads 1 = x := ⟨_, rfl⟩
  rw [hx] at e0 ⊢
  clear hx
  by_cases h1 : n < 1
  · have b1 : decide (n < 1) = true := decide_eq_true h1
    clear hn h1
    go_enter Tryd.func9, Tryd.ntmps9
    go_wp2
    go_quiet (fail)
    go_wp2
    go_ret2
    exact ⟨rfl, Kp.drewN12 (Kp.refl _) _⟩
  · have b1 : decide (n < 1) = false := decide_eq_false h1
    have b2 : decide (n > 4) = true := decide_eq_true (by omega)
    clear hn h1
    go_enter Tryd.func9, Tryd.ntmps9
    go_wp2
    go_quiet (fail)
    go_wp2
    go_ret2
    exact ⟨rfl, Kp.drewN12 (Kp.refl _) _⟩
set_option maxRecDepth 100000 in
theorem ntNew_ok (n : Nat) (h1 : 1 ≤ n) (h4 : n ≤ 4) (hw : w0.heap.size ≤ w.heap.size) : Calls Tryd.prog 9 #[.int .i64 n] w fun r w' => ∃ q mb, r = .returned (.tuple #[.pointer (some ⟨q, 0, none⟩), .nilIface]) ∧ Nt w0 q (NetM.new n) (.slice none 0 0) [] mb w' ∧ (∀ b, Ob q (.slice none 0 0) [] mb b → w.heap.size ≤ b) ∧ Kp w w' := by
  have hmm := @run_makeMap Tryd.prog
  obtain ⟨nn, hnn⟩ : ∃ x : Int, (n : Int) = x := ⟨_, rfl⟩
  have HN := Lib.hid hnn
  have k1 := kp_alloc w (.map #[] 0)
  have k2 := kp_alloc (w.alloc (.map #[] 0)) (.cells #[.int .i64 nn, .slice none 0 0, .map (some w.heap.size), .int .i64 0] 70)
  have r2 := (MapKept.heap_alloc (w.alloc (.map #[] 0)) (.cells #[.int .i64 nn, .slice none 0 0, .map (some w.heap.size), .int .i64 0] 70)).1
  rw [show (w.alloc (.map #[] 0)).heap.size = w.heap.size + 1 by simp] at r2
  have cm := (cuts_new (n := n) w).kept (Below.block k2 w.heap.size (by simp))
  obtain ⟨W, hW⟩ : ∃ W, (w.alloc (.map #[] 0)).alloc (.cells #[.int .i64 nn, .slice none 0 0, .map (some w.heap.size), .int .i64 0] 70) = W := ⟨_, rfl⟩
  rw [hW] at k2 r2 cm
  have FIN := Lib.hid (show Nt w0 (w.heap.size + 1) (NetM.new n) (.slice none 0 0) [] w.heap.size W from ⟨by rw [r2, ← hnn]; rfl, by omega, World.ownsRow_nil _ _ _ _, rfl, fun p hp => (by cases hp), ⟨_, cm⟩, hw⟩)
  have KW := Lib.hid (Kp.trans k1 k2)
  have HW := Lib.hid hW
  rw [hnn]
  have b1 : decide (nn < 1) = false := decide_eq_false (by omega)
  have b2 : decide (nn > 4) = false := decide_eq_false (by omega)
  clear k1 k2 r2 cm hW hnn h1 h4 hw
  go_enter Tryd.func9, Tryd.ntmps9
  go_wp2
  go_ret2
  rw [HW.out]
  refine ⟨_, _, rfl, FIN.out, ?_, KW.out⟩
  rintro b (rfl | hb | rfl | ⟨p, hp, hb⟩)
  · omega
  · cases hb
  · exact Nat.le_refl _
  · cases hp
set_option maxRecDepth 100000 in
theorem ntPut_range (H : Nt w0 q m v ps mb w) (a b : Int) (o : Option Addr) (k c : Nat) (h : (m.has a && m.has b) = false) (e0 : w.cell? ⟨0, 0, none⟩ = some (errI ads 1)) : Calls Tryd.prog 19 #[.pointer (some ⟨q, 0, none⟩), .agg #[.int .i64 a, .int .i64 b, .slice o k c]] w fun r w' => r = .returned (.tuple #[.bool false, errI ads 1]) ∧ Kp w w' := by
  have k1 := kp_alloc w (.cells #[.int .i64 a, .int .i64 b, .slice o k c] 45)
  have r1 := (MapKept.heap_alloc w (.cells #[.int .i64 a, .int .i64 b, .slice o k c] 45)).1
  obtain ⟨W, hW⟩ : ∃ W, w.alloc (.cells #[.int .i64 a, .int .i64 b, .slice o k c] 45) = W := ⟨_, rfl⟩
  have HW := Lib.hid hW
  have x0 := cell_row (i := 0) r1 rfl
  have x1 := cell_row (i := 1) r1 rfl
  have x2 := cell_row (i := 2) r1 rfl
  have x3 := x0
  have x4 := x1
  have x5 := x2
  rw [hW] at k1 x3 x4 x5
  have K1 := Lib.hid k1
  have R1 := Lib.hid (H.kp k1)
  have HA := Lib.hid (fun w1 (H1 : Nt w0 q m v ps mb w1) => ntHas_any H1 a)
  have HB := Lib.hid (fun w1 (H1 : Nt w0 q m v ps mb w1) => ntHas_any H1 b)
  have e1 := kp_cell k1 e0
  obtain ⟨x, hx⟩ : ∃ x, errI ads 1 = x := ⟨_, rfl⟩
  rw [hx] at e1 ⊢
  cases h1 : m.has a with
  | false =>
    rw [h1] at HA
    clear H h hW k1 r1 h1 e0 hx
    go_enter Tryd.func19, Tryd.ntmps19
    go_wp2_with (go_at_call 33; (try rw [HW.out]); (with_reducible refine (HA.out _ R1.out).mono ?_); rintro e' w3 ⟨rfl, rfl⟩)
    go_quiet (fail)
    go_wp2
    go_ret2
    exact ⟨rfl, Kp.drewN12 K1.out _⟩
  | true =>
    rw [h1, Bool.true_and] at h
    rw [h1] at HA
    rw [h] at HB
    clear H h hW k1 r1 h1 e0 hx
    go_enter Tryd.func19, Tryd.ntmps19
    go_wp2_with (first | (go_at_call 33; (try rw [HW.out]); (with_reducible refine (HB.out _ R1.out).mono ?_); rintro e' w4 ⟨rfl, rfl⟩) | (go_at_call 33; (try rw [HW.out]); (with_reducible refine (HA.out _ R1.out).mono ?_); rintro e' w3 ⟨rfl, rfl⟩))
    go_quiet (fail)
    go_wp2
    go_ret2
    exact ⟨rfl, Kp.drewN12 K1.out _⟩
set_option maxRecDepth 100000 in
theorem ntPut_long (H : Nt w0 q m v ps mb w) (a b : Int) (o : Option Addr) (k c : Nat) (h1 : m.has a = true) (h2 : m.has b = true) (hl : 1000 < k) (e0 : w.cell? ⟨2, 0, none⟩ = some (errI ads 3)) : Calls Tryd.prog 19 #[.pointer (some ⟨q, 0, none⟩), .agg #[.int .i64 a, .int .i64 b, .slice o k c]] w fun r w' => r = .returned (.tuple #[.bool false, errI ads 3]) ∧ Kp w w' := by
  have k1 := kp_alloc w (.cells #[.int .i64 a, .int .i64 b, .slice o k c] 45)
  have r1 := (MapKept.heap_alloc w (.cells #[.int .i64 a, .int .i64 b, .slice o k c] 45)).1
  obtain ⟨W, hW⟩ : ∃ W, w.alloc (.cells #[.int .i64 a, .int .i64 b, .slice o k c] 45) = W := ⟨_, rfl⟩
  have HW := Lib.hid hW
  have x0 := cell_row (i := 0) r1 rfl
  have x1 := cell_row (i := 1) r1 rfl
  have x2 := cell_row (i := 2) r1 rfl
  have x3 := x0
  have x4 := x1
  have x5 := x2
  rw [hW] at k1 x3 x4 x5
  have K1 := Lib.hid k1
  have R1 := Lib.hid (H.kp k1)
  have HA := Lib.hid (fun w1 (H1 : Nt w0 q m v ps mb w1) => ntHas_any H1 a)
  have HB := Lib.hid (fun w1 (H1 : Nt w0 q m v ps mb w1) => ntHas_any H1 b)
  have e1 := kp_cell k1 e0
  obtain ⟨x, hx⟩ : ∃ x, errI ads 3 = x := ⟨_, rfl⟩
  rw [hx] at e1 ⊢
  rw [h1] at HA
  rw [h2] at HB
  obtain ⟨n, hn⟩ : ∃ n : Int, (k : Int) = n := ⟨_, rfl⟩
  have g1 : decide (n > 1000) = true := decide_eq_true (by omega)
  clear H hW k1 r1 h1 h2 hl e0 hx
  go_enter Tryd.func19, Tryd.ntmps19
  go_wp2_with (first | (go_at_call 33; (try rw [HW.out]); (with_reducible refine (HB.out _ R1.out).mono ?_); rintro e' w4 ⟨rfl, rfl⟩) | (go_at_call 33; (try rw [HW.out]); (with_reducible refine (HA.out _ R1.out).mono ?_); rintro e' w3 ⟨rfl, rfl⟩))
  go_quiet (fail)
  go_wp2
  go_ret2
  exact ⟨rfl, Kp.drewN12 K1.out _⟩
set_option maxRecDepth 100000 in
set_option maxHeartbeats 1000000 in
theorem ntPut_lost (H : Nt w0 q m v ps mb w) (a b : Int) (o : Option Addr) (k c : Nat) (hm : Nok m) (h1 : m.has a = true) (h2 : m.has b = true) (hl : ¬ 1000 < k) (hc : m.isCut a b = true) : Calls Tryd.prog 19 #[.pointer (some ⟨q, 0, none⟩), .agg #[.int .i64 a, .int .i64 b, .slice o k c]] w fun r w' => r = .returned (.tuple #[.bool false, .nilIface]) ∧ Nt w0 q ⟨m.n, m.f, m.cut, wrap64 (m.lost + 1)⟩ v ps mb w' ∧ Asd (Ob q v ps mb) (Ob q v ps mb) w w' := by
  have k1 := kp_alloc w (.cells #[.int .i64 a, .int .i64 b, .slice o k c] 45)
  have r1 := (MapKept.heap_alloc w (.cells #[.int .i64 a, .int .i64 b, .slice o k c] 45)).1
  obtain ⟨W, hW⟩ : ∃ W, w.alloc (.cells #[.int .i64 a, .int .i64 b, .slice o k c] 45) = W := ⟨_, rfl⟩
  have HW := Lib.hid hW
  have x0 := cell_row (i := 0) r1 rfl
  have x1 := cell_row (i := 1) r1 rfl
  have x2 := cell_row (i := 2) r1 rfl
  have x3 := x0
  have x4 := x1
  have x5 := x2
  rw [hW] at k1 x3 x4 x5
  have K1 := Lib.hid k1
  have R1 := Lib.hid (H.kp k1)
  have HA := Lib.hid (fun w1 (H1 : Nt w0 q m v ps mb w1) => ntHas_any H1 a)
  have HB := Lib.hid (fun w1 (H1 : Nt w0 q m v ps mb w1) => ntHas_any H1 b)
  rw [h1] at HA
  rw [h2] at HB
  obtain ⟨n, hn⟩ : ∃ n : Int, (k : Int) = n := ⟨_, rfl⟩
  have g1 : decide (n > 1000) = false := decide_eq_false (by omega)
  have rw1 := r1
  rw [hW] at rw1
  have RW := Lib.hid rw1
  have NW := R1
  obtain ⟨DC, hDC⟩ := R1.out.cuts
  have CQ := Lib.hid (fun w1 (hk : Kp W w1) => (hDC.kept (Below.block hk mb hDC.lt)).look hm.n4 h1 h2)
  rw [hc] at CQ
  clear H hW k1 r1 h1 h2 hl rw1 hm hc hDC
  go_enter Tryd.func19, Tryd.ntmps19
  go_wp2_with (first | (go_at_call 33; (try rw [HW.out]); (with_reducible refine (HB.out _ R1.out).mono ?_); rintro e' w4 ⟨rfl, rfl⟩) | (go_at_call 33; (try rw [HW.out]); (with_reducible refine (HA.out _ R1.out).mono ?_); rintro e' w3 ⟨rfl, rfl⟩))
  refine wp_region_held_drew (S := fun w' => Kp W w') (by kernel_rfl) ?_ (fun hHeld => ?_)
  · exact kp_drewR (Kp.refl _)
  refine wpAnyH_take (i := 0) (v := ?_) rfl (by kernel_rfl) (by kernel_rfl) (by kernel_rfl) (fun _ _ _ h => h) (Or.inl ⟨by rfl, ?_⟩) (by assumption) ?_
  rotate_left
  · intro w hSw; go_simp; try with_reducible rfl
  go_simp
  refine wpAnyH_take (i := 1) (v := ?_) rfl (by kernel_rfl) (by kernel_rfl) (by kernel_rfl) (fun _ _ _ h => h) (Or.inl ⟨by rfl, ?_⟩) (by assumption) ?_
  rotate_left
  · intro w hSw; go_simp; try with_reducible rfl
  go_simp
  refine wpAnyH_take (i := 2) (v := ?_) rfl (by kernel_rfl) (by kernel_rfl) (by kernel_rfl) (fun _ _ _ h => h) (Or.inl ⟨by rfl, ?_⟩) (by assumption) ?_
  rotate_left
  · intro w hSw; go_simp; try with_reducible rfl
  go_simp
  refine wpAnyH_take (i := 3) (v := ?_) rfl (by kernel_rfl) (by kernel_rfl) (by kernel_rfl) (fun _ _ _ h => h) (Or.inl ⟨by rfl, ?_⟩) (by assumption) ?_
  rotate_left
  · intro w hSw; have q2 := cell_row (i := 2) (kp_row hSw NW.out.row) rfl; go_simp; try with_reducible rfl
  go_simp
  refine wpAnyH_take (i := 4) (v := ?_) rfl (by kernel_rfl) (by kernel_rfl) (by kernel_rfl) (fun _ _ _ h => h) (Or.inl ⟨by rfl, ?_⟩) (by assumption) ?_
  rotate_left
  · intro w hSw; go_simp; try with_reducible rfl
  go_simp
  refine wpAnyH_take (i := 5) (v := ?_) rfl (by kernel_rfl) (by kernel_rfl) (by kernel_rfl) (fun _ _ _ h => h) (Or.inl ⟨by rfl, ?_⟩) (by assumption) ?_
  rotate_left
  · intro w hSw; have q0 := cell_row (i := 0) (kp_row hSw RW.out) rfl; have q1 := cell_row (i := 1) (kp_row hSw RW.out) rfl; go_simp; try with_reducible rfl
  go_simp
  refine wpAnyH_take (i := 6) (v := ?_) rfl (by kernel_rfl) (by kernel_rfl) (by kernel_rfl) (fun _ _ _ h => h) (Or.inl ⟨by rfl, ?_⟩) (by assumption) ?_
  rotate_left
  · intro w hSw; go_simp; try with_reducible rfl
  go_simp
  refine wpAnyH_take (i := 7) (v := ?_) rfl (by kernel_rfl) (by kernel_rfl) (by kernel_rfl) (fun _ _ _ h => h) (Or.inl ⟨by rfl, ?_⟩) (by assumption) ?_
  rotate_left
  · intro w hSw; have q0 := cell_row (i := 0) (kp_row hSw RW.out) rfl; have q1 := cell_row (i := 1) (kp_row hSw RW.out) rfl; go_simp; try with_reducible rfl
  go_simp
  refine wpAnyH_take (i := 8) (v := ?_) rfl (by kernel_rfl) (by kernel_rfl) (by kernel_rfl) (fun _ _ _ h => h) (Or.inl ⟨by rfl, ?_⟩) (by assumption) ?_
  rotate_left
  · intro w hSw; go_simp; try with_reducible rfl
  go_simp
  refine wpAnyH_take (i := 9) (v := ?_) rfl (by kernel_rfl) (by kernel_rfl) (by kernel_rfl) (fun _ _ _ h => h) (Or.inl ⟨by rfl, ?_⟩) (by assumption) ?_
  rotate_left
  · intro w hSw; have q3 := CQ.out w hSw; go_simp; try with_reducible rfl
  go_simp
  refine wpAnyH_take (i := 10) (v := ?_) rfl (by kernel_rfl) (by kernel_rfl) (by kernel_rfl) (fun _ _ _ h => h) (Or.inl ⟨by rfl, ?_⟩) (by assumption) ?_
  rotate_left
  · intro w hSw; go_simp; try with_reducible rfl
  go_simp
  refine wpAnyH_done (by kernel_rfl) ?_ _
  obtain ⟨X, hX⟩ : ∃ X, W.drew = X := ⟨_, rfl⟩
  have NX := Lib.hid (R1.out.kp (show Kp W X by rw [← hX]; exact kp_drewR (Kp.refl _)))
  have AX := Lib.hid (show Asd (Ob q v ps mb) (Ob q v ps mb) w X from Asd.of_kp _ (Kp.trans K1.out (by rw [← hX]; exact kp_drewR (Kp.refl _))))
  try rw [hX]
  have y3 := cell_row (i := 3) NX.out.row rfl
  have fz := frozR NX.out.row
  go_wp2
  go_ret2
  obtain ⟨n1, n2, n3, n4⟩ := NX.out.ne
  exact ⟨rfl, ⟨(Joins.block_setCell NX.out.row _).trans rfl, NX.out.bq, own_stayG NX.out.own (fun b e => Below.heap_setCell _ _ _ _ (fun e2 => n1 (by rw [← show b = q from e2]; exact e))), NX.out.fs, fun p hp => own_stayG (NX.out.dat p hp) (fun b e => Below.heap_setCell _ _ _ _ (fun e2 => (n4 p hp).1 (by rw [← show b = q from e2]; exact e))), NX.out.cuts.imp fun _ hD => ⟨(hD.kept (Below.heap_setCell _ _ _ _ (fun e2 => n2 e2.symm))).own, hD.at', hD.only⟩, NX.out.bm⟩, AX.out.trans (asd_setN (.inl rfl) _)⟩
set_option maxRecDepth 100000 in
set_option maxHeartbeats 1000000 in
theorem ntPut_full (H : Nt w0 q m v ps mb w) (a b : Int) (o : Option Addr) (k c : Nat) (hm : Nok m) (h1 : m.has a = true) (h2 : m.has b = true) (hl : ¬ 1000 < k) (hc : m.isCut a b = false) (hf : 63 < m.f.length) (e0 : w.cell? ⟨5, 0, none⟩ = some (errI ads 6)) : Calls Tryd.prog 19 #[.pointer (some ⟨q, 0, none⟩), .agg #[.int .i64 a, .int .i64 b, .slice o k c]] w fun r w' => r = .returned (.tuple #[.bool false, errI ads 6]) ∧ Kp w w' := by
  obtain ⟨x, hx⟩ : ∃ x, errI ads 6 = x := ⟨_, rfl⟩
  rw [hx] at e0 ⊢
  clear hx
  have k1 := kp_alloc w (.cells #[.int .i64 a, .int .i64 b, .slice o k c] 45)
  have r1 := (MapKept.heap_alloc w (.cells #[.int .i64 a, .int .i64 b, .slice o k c] 45)).1
  obtain ⟨W, hW⟩ : ∃ W, w.alloc (.cells #[.int .i64 a, .int .i64 b, .slice o k c] 45) = W := ⟨_, rfl⟩
  have HW := Lib.hid hW
  have x0 := cell_row (i := 0) r1 rfl
  have x1 := cell_row (i := 1) r1 rfl
  have x2 := cell_row (i := 2) r1 rfl
  have x3 := x0
  have x4 := x1
  have x5 := x2
  rw [hW] at k1 x3 x4 x5
  have K1 := Lib.hid k1
  have R1 := Lib.hid (H.kp k1)
  have HA := Lib.hid (fun w1 (H1 : Nt w0 q m v ps mb w1) => ntHas_any H1 a)
  have HB := Lib.hid (fun w1 (H1 : Nt w0 q m v ps mb w1) => ntHas_any H1 b)
  rw [h1] at HA
  rw [h2] at HB
  obtain ⟨n, hn⟩ : ∃ n : Int, (k : Int) = n := ⟨_, rfl⟩
  have g1 : decide (n > 1000) = false := decide_eq_false (by omega)
  have rw1 := r1
  rw [hW] at rw1
  have RW := Lib.hid rw1
  have NW := R1
  obtain ⟨DC, hDC⟩ := R1.out.cuts
  have CQ := Lib.hid (fun w1 (hk : Kp W w1) => (hDC.kept (Below.block hk mb hDC.lt)).look hm.n4 h1 h2)
  rw [hc] at CQ
  have E1 := Lib.hid (kp_cell k1 e0)
  have HF := Lib.hid (show decide (m.f.length < 64) = false from decide_eq_false (by omega))
  clear H hW k1 r1 h1 h2 hl rw1 hm hc hDC e0 hf
  go_enter Tryd.func19, Tryd.ntmps19
  go_wp2_with (first | (go_at_call 33; (try rw [HW.out]); (with_reducible refine (HB.out _ R1.out).mono ?_); rintro e' w4 ⟨rfl, rfl⟩) | (go_at_call 33; (try rw [HW.out]); (with_reducible refine (HA.out _ R1.out).mono ?_); rintro e' w3 ⟨rfl, rfl⟩))
  refine wp_region_held_drew (S := fun w' => Kp W w') (by kernel_rfl) ?_ (fun hHeld => ?_)
  · exact kp_drewR (Kp.refl _)
  refine wpAnyH_take (i := 0) (v := ?_) rfl (by kernel_rfl) (by kernel_rfl) (by kernel_rfl) (fun _ _ _ h => h) (Or.inl ⟨by rfl, ?_⟩) (by assumption) ?_
  rotate_left
  · intro w hSw; go_simp; try with_reducible rfl
  go_simp
  refine wpAnyH_take (i := 1) (v := ?_) rfl (by kernel_rfl) (by kernel_rfl) (by kernel_rfl) (fun _ _ _ h => h) (Or.inl ⟨by rfl, ?_⟩) (by assumption) ?_
  rotate_left
  · intro w hSw; go_simp; try with_reducible rfl
  go_simp
  refine wpAnyH_take (i := 2) (v := ?_) rfl (by kernel_rfl) (by kernel_rfl) (by kernel_rfl) (fun _ _ _ h => h) (Or.inl ⟨by rfl, ?_⟩) (by assumption) ?_
  rotate_left
  · intro w hSw; go_simp; try with_reducible rfl
  go_simp
  refine wpAnyH_take (i := 3) (v := ?_) rfl (by kernel_rfl) (by kernel_rfl) (by kernel_rfl) (fun _ _ _ h => h) (Or.inl ⟨by rfl, ?_⟩) (by assumption) ?_
  rotate_left
  · intro w hSw; have q2 := cell_row (i := 2) (kp_row hSw NW.out.row) rfl; go_simp; try with_reducible rfl
  go_simp
  refine wpAnyH_take (i := 4) (v := ?_) rfl (by kernel_rfl) (by kernel_rfl) (by kernel_rfl) (fun _ _ _ h => h) (Or.inl ⟨by rfl, ?_⟩) (by assumption) ?_
  rotate_left
  · intro w hSw; go_simp; try with_reducible rfl
  go_simp
  refine wpAnyH_take (i := 5) (v := ?_) rfl (by kernel_rfl) (by kernel_rfl) (by kernel_rfl) (fun _ _ _ h => h) (Or.inl ⟨by rfl, ?_⟩) (by assumption) ?_
  rotate_left
  · intro w hSw; have q0 := cell_row (i := 0) (kp_row hSw RW.out) rfl; have q1 := cell_row (i := 1) (kp_row hSw RW.out) rfl; go_simp; try with_reducible rfl
  go_simp
  refine wpAnyH_take (i := 6) (v := ?_) rfl (by kernel_rfl) (by kernel_rfl) (by kernel_rfl) (fun _ _ _ h => h) (Or.inl ⟨by rfl, ?_⟩) (by assumption) ?_
  rotate_left
  · intro w hSw; go_simp; try with_reducible rfl
  go_simp
  refine wpAnyH_take (i := 7) (v := ?_) rfl (by kernel_rfl) (by kernel_rfl) (by kernel_rfl) (fun _ _ _ h => h) (Or.inl ⟨by rfl, ?_⟩) (by assumption) ?_
  rotate_left
  · intro w hSw; have q0 := cell_row (i := 0) (kp_row hSw RW.out) rfl; have q1 := cell_row (i := 1) (kp_row hSw RW.out) rfl; go_simp; try with_reducible rfl
  go_simp
  refine wpAnyH_take (i := 8) (v := ?_) rfl (by kernel_rfl) (by kernel_rfl) (by kernel_rfl) (fun _ _ _ h => h) (Or.inl ⟨by rfl, ?_⟩) (by assumption) ?_
  rotate_left
  · intro w hSw; go_simp; try with_reducible rfl
  go_simp
  refine wpAnyH_take (i := 9) (v := ?_) rfl (by kernel_rfl) (by kernel_rfl) (by kernel_rfl) (fun _ _ _ h => h) (Or.inl ⟨by rfl, ?_⟩) (by assumption) ?_
  rotate_left
  · intro w hSw; have q3 := CQ.out w hSw; go_simp; try with_reducible rfl
  go_simp
  refine wpAnyH_take (i := 10) (v := ?_) rfl (by kernel_rfl) (by kernel_rfl) (by kernel_rfl) (fun _ _ _ h => h) (Or.inl ⟨by rfl, ?_⟩) (by assumption) ?_
  rotate_left
  · intro w hSw; go_simp; try with_reducible rfl
  go_simp
  refine wpAnyH_done (by kernel_rfl) ?_ _
  obtain ⟨X, hX⟩ : ∃ X, W.drew = X := ⟨_, rfl⟩
  have kx : Kp W X := by rw [← hX]; exact kp_drewR (Kp.refl _)
  have NX := Lib.hid (R1.out.kp kx)
  have KX := Lib.hid (Kp.trans K1.out kx)
  have HRO := Lib.hid (ntRoom_any NX.out)
  rw [HF.out] at HRO
  try rw [hX]
  have e2 := kp_cell kx E1.out
  clear kx hX
  go_wp2_with (go_at_call 34; (with_reducible refine HRO.out.mono ?_); rintro e' w5 ⟨rfl, rfl⟩)
  go_quiet (fail)
  go_wp2
  go_ret2
  exact ⟨rfl, Kp.drewN12 KX.out _⟩
theorem part_oneL {b k c : Nat} {x y : Int} {o : Option Addr} {d : List Int} (hk : d.length = k) (h : W.heap[b]? = some (.cells #[.int .i64 x, .int .i64 y, .slice o k c] 45 (0, 0))) : PartG pE (.slice (some ⟨b, 0, none⟩) 1 1) [(⟨⟨x, y, d⟩, o, c⟩ : LtP)] W := by
  subst hk
  refine ⟨_, _, rfl, fun e => (by cases e), fun ad e j u hj => ?_⟩
  injection e with e
  subst e
  rw [Addr.add_lit, Nat.zero_add]
  match j, hj with
  | 0, hj => simp [EncG.row, pE] at hj; subst hj; exact cell_row h rfl
  | 1, hj => simp [EncG.row, pE] at hj; subst hj; exact cell_row h rfl
  | 2, hj => simp [EncG.row, pE] at hj; subst hj; exact cell_row h rfl
  | j + 3, hj => simp [EncG.row, pE] at hj
/-- THE LETTERS REPLACED: by a row in their own block, or a new one; each letter's bytes are as they were, or new -/
theorem Nt.lettersP (h : Nt w0 q m v ps mb w) (hk : Kp w W) (hg : W.grownBy w3 v.ownBlock) {L : Nat} {f : List LtM} (hL : f.length = L) (hf : ps'.map (·.l) = f) (ho : w3.ownsRow w0.heap.size 45 3 v' L (pE.row ps')) (hb : ∀ b, v'.ownBlock = some b → v.ownBlock = some b ∨ W.heap.size ≤ b)
    (hd : ∀ p ∈ ps', p ∈ ps ∨ DatP w.heap.size p W) :
    Nt w0 q ⟨m.n, f, m.cut, m.lost⟩ v' ps' mb (w3.setCell ⟨q, 1, none⟩ v') ∧ Asd (Ob q v ps mb) (Ob q v' ps' mb) w (w3.setCell ⟨q, 1, none⟩ v') ∧ ∀ p ∈ ps, DatP w0.heap.size p (w3.setCell ⟨q, 1, none⟩ v') := by
  subst hL
  obtain ⟨n1, n2, n3, n4⟩ := h.ne
  have hs := Below.size hk
  have old : ∀ b, Ob q v ps mb b → v.ownBlock ≠ some b → w3.heap[b]? = w.heap[b]? := fun b e1 e2 => by
    have := (h.mem b e1).2
    rw [hg.block b (by omega) (fun e => e2 e.symm)]
    exact Below.block hk b this
  have lq := old_of_row h.row
  obtain ⟨DC, hDC⟩ := h.cuts
  have n6 : v'.ownBlock ≠ some q := fun e => (hb q e).elim n1 (fun e => by omega)
  have r1 : w3.heap[q]? = some (.cells #[.int .i64 m.n, v, .map (some mb), .int .i64 m.lost] 70 (0, 0)) := by rw [old q (.inl rfl) n1]; exact h.row
  have dold : ∀ p ∈ ps, DatP w0.heap.size p (w3.setCell ⟨q, 1, none⟩ v') := fun p h1 => by
    obtain ⟨p1, p2, p3⟩ := n4 p h1
    refine own_stayG (h.dat p h1) (fun b e => ?_)
    rw [Below.heap_setCell _ _ _ _ (fun e2 => p1 (by rw [← show b = q from e2]; exact e))]
    exact old b (.inr (.inr (.inr ⟨p, h1, e⟩))) (fun e2 => p3 b e2 e)
  refine ⟨⟨(Joins.block_setCell r1 _).trans rfl, h.bq, own_stayG ho (fun b e => Below.heap_setCell _ _ _ _ (fun e2 => n6 (by rw [← show b = q from e2]; exact e))), hf, fun p hp => ?_, ⟨DC, ⟨(hDC.kept (w' := w3.setCell ⟨q, 1, none⟩ v') ?_).own, hDC.at', hDC.only⟩⟩, h.bm⟩, ?_, dold⟩
  · rcases hd p hp with h1 | h1
    · exact dold p h1
    · refine own_stayG (h1.base (by have := h.bq; omega)) (fun b e => ?_)
      have hl := (h1.lt b e)
      rw [Below.heap_setCell _ _ _ _ (fun e2 => by have : b = q := e2; omega), hg.block b hl.2 (fun e2 => by have := (h.own.lt b e2.symm).2; omega)]
  · rw [Below.heap_setCell _ _ _ _ (fun e2 => n2 (show mb = q from e2).symm)]
    exact old mb (.inr (.inr (.inl rfl))) n3
  · refine ⟨hg.os.trans hk.os, hg.tape.trans hk.tape, hg.output.trans hk.output, by simpa using Nat.le_trans hs hg.size, fun b hb2 hn => ?_, fun b e => ?_⟩
    · rw [Below.heap_setCell _ _ _ _ (fun e => hn (.inl e)), hg.block b (Nat.lt_of_lt_of_le hb2 hs) (fun e => hn (.inr (.inl e.symm)))]
      exact Below.block hk b hb2
    · rcases e with rfl | e | rfl | ⟨p, hp, e⟩
      · exact .inl (.inl rfl)
      · exact (hb b e).imp (fun e => .inr (.inl e)) (fun e => Nat.le_trans hs e)
      · exact .inl (.inr (.inr (.inl rfl)))
      · rcases hd p hp with h1 | h1
        · exact .inl (.inr (.inr (.inr ⟨p, h1, e⟩)))
        · exact .inr (h1.lt b e).1
set_option maxRecDepth 100000 in
set_option maxHeartbeats 2000000 in
theorem ntPut_ok (H : Nt w0 q m v ps mb w) (a b : Int) (o : Option Addr) (k c : Nat) (d : List Int) (hk : d.length = k) (hs : SlB (.slice o k c) d w) (hm : Nok m) (h1 : m.has a = true) (h2 : m.has b = true) (hl : ¬ 1000 < k) (hc : m.isCut a b = false) (hf : ¬ 63 < m.f.length) : Calls Tryd.prog 19 #[.pointer (some ⟨q, 0, none⟩), .agg #[.int .i64 a, .int .i64 b, .slice o k c]] w fun r w' => r = .returned (.tuple #[.bool true, .nilIface]) ∧ ∃ v' ps', Nt w0 q ⟨m.n, m.f ++ [⟨a, b, d⟩], m.cut, m.lost⟩ v' ps' mb w' ∧ Asd (Ob q v ps mb) (Ob q v' ps' mb) w w' := by
  have HK := Lib.hid hk
  have HFL := Lib.hid hf
  have k1 := kp_alloc w (.cells #[.int .i64 a, .int .i64 b, .slice o k c] 45)
  have r1 := (MapKept.heap_alloc w (.cells #[.int .i64 a, .int .i64 b, .slice o k c] 45)).1
  obtain ⟨W, hW⟩ : ∃ W, w.alloc (.cells #[.int .i64 a, .int .i64 b, .slice o k c] 45) = W := ⟨_, rfl⟩
  have HW := Lib.hid hW
  have x0 := cell_row (i := 0) r1 rfl
  have x1 := cell_row (i := 1) r1 rfl
  have x2 := cell_row (i := 2) r1 rfl
  have x3 := x0
  have x4 := x1
  have x5 := x2
  rw [hW] at k1 x3 x4 x5
  have K1 := Lib.hid k1
  have R1 := Lib.hid (H.kp k1)
  have HA := Lib.hid (fun w1 (H1 : Nt w0 q m v ps mb w1) => ntHas_any H1 a)
  have HB := Lib.hid (fun w1 (H1 : Nt w0 q m v ps mb w1) => ntHas_any H1 b)
  rw [h1] at HA
  rw [h2] at HB
  obtain ⟨n, hn⟩ : ∃ n : Int, (k : Int) = n := ⟨_, rfl⟩
  have g1 : decide (n > 1000) = false := decide_eq_false (by omega)
  have rw1 := r1
  rw [hW] at rw1
  have RW := Lib.hid rw1
  have NW := R1
  obtain ⟨DC, hDC⟩ := R1.out.cuts
  have CQ := Lib.hid (fun w1 (hk : Kp W w1) => (hDC.kept (Below.block hk mb hDC.lt)).look hm.n4 h1 h2)
  rw [hc] at CQ
  have HQL := Lib.hid (old_of_row H.row)
  have HBO := Lib.hid (show v.ownBlock ≠ some w.heap.size from fun e => by have := (H.own.lt _ e).2; omega)
  have HS := Lib.hid (hs.kp k1)
  have HF := Lib.hid (show decide (m.f.length < 64) = true from decide_eq_true (by omega))
  have HLL := Lib.hid (show d.length ≤ 1000000 by omega)
  clear hs H hW k1 r1 h1 h2 hl rw1 hm hc hDC hf hk
  go_enter Tryd.func19, Tryd.ntmps19
  go_wp2_with (first | (go_at_call 33; (try rw [HW.out]); (with_reducible refine (HB.out _ R1.out).mono ?_); rintro e' w4 ⟨rfl, rfl⟩) | (go_at_call 33; (try rw [HW.out]); (with_reducible refine (HA.out _ R1.out).mono ?_); rintro e' w3 ⟨rfl, rfl⟩))
  refine wp_region_held_drew (S := fun w' => Kp W w') (by kernel_rfl) ?_ (fun hHeld => ?_)
  · exact kp_drewR (Kp.refl _)
  refine wpAnyH_take (i := 0) (v := ?_) rfl (by kernel_rfl) (by kernel_rfl) (by kernel_rfl) (fun _ _ _ h => h) (Or.inl ⟨by rfl, ?_⟩) (by assumption) ?_
  rotate_left
  · intro w hSw; go_simp; try with_reducible rfl
  go_simp
  refine wpAnyH_take (i := 1) (v := ?_) rfl (by kernel_rfl) (by kernel_rfl) (by kernel_rfl) (fun _ _ _ h => h) (Or.inl ⟨by rfl, ?_⟩) (by assumption) ?_
  rotate_left
  · intro w hSw; go_simp; try with_reducible rfl
  go_simp
  refine wpAnyH_take (i := 2) (v := ?_) rfl (by kernel_rfl) (by kernel_rfl) (by kernel_rfl) (fun _ _ _ h => h) (Or.inl ⟨by rfl, ?_⟩) (by assumption) ?_
  rotate_left
  · intro w hSw; go_simp; try with_reducible rfl
  go_simp
  refine wpAnyH_take (i := 3) (v := ?_) rfl (by kernel_rfl) (by kernel_rfl) (by kernel_rfl) (fun _ _ _ h => h) (Or.inl ⟨by rfl, ?_⟩) (by assumption) ?_
  rotate_left
  · intro w hSw; have q2 := cell_row (i := 2) (kp_row hSw NW.out.row) rfl; go_simp; try with_reducible rfl
  go_simp
  refine wpAnyH_take (i := 4) (v := ?_) rfl (by kernel_rfl) (by kernel_rfl) (by kernel_rfl) (fun _ _ _ h => h) (Or.inl ⟨by rfl, ?_⟩) (by assumption) ?_
  rotate_left
  · intro w hSw; go_simp; try with_reducible rfl
  go_simp
  refine wpAnyH_take (i := 5) (v := ?_) rfl (by kernel_rfl) (by kernel_rfl) (by kernel_rfl) (fun _ _ _ h => h) (Or.inl ⟨by rfl, ?_⟩) (by assumption) ?_
  rotate_left
  · intro w hSw; have q0 := cell_row (i := 0) (kp_row hSw RW.out) rfl; have q1 := cell_row (i := 1) (kp_row hSw RW.out) rfl; go_simp; try with_reducible rfl
  go_simp
  refine wpAnyH_take (i := 6) (v := ?_) rfl (by kernel_rfl) (by kernel_rfl) (by kernel_rfl) (fun _ _ _ h => h) (Or.inl ⟨by rfl, ?_⟩) (by assumption) ?_
  rotate_left
  · intro w hSw; go_simp; try with_reducible rfl
  go_simp
  refine wpAnyH_take (i := 7) (v := ?_) rfl (by kernel_rfl) (by kernel_rfl) (by kernel_rfl) (fun _ _ _ h => h) (Or.inl ⟨by rfl, ?_⟩) (by assumption) ?_
  rotate_left
  · intro w hSw; have q0 := cell_row (i := 0) (kp_row hSw RW.out) rfl; have q1 := cell_row (i := 1) (kp_row hSw RW.out) rfl; go_simp; try with_reducible rfl
  go_simp
  refine wpAnyH_take (i := 8) (v := ?_) rfl (by kernel_rfl) (by kernel_rfl) (by kernel_rfl) (fun _ _ _ h => h) (Or.inl ⟨by rfl, ?_⟩) (by assumption) ?_
  rotate_left
  · intro w hSw; go_simp; try with_reducible rfl
  go_simp
  refine wpAnyH_take (i := 9) (v := ?_) rfl (by kernel_rfl) (by kernel_rfl) (by kernel_rfl) (fun _ _ _ h => h) (Or.inl ⟨by rfl, ?_⟩) (by assumption) ?_
  rotate_left
  · intro w hSw; have q3 := CQ.out w hSw; go_simp; try with_reducible rfl
  go_simp
  refine wpAnyH_take (i := 10) (v := ?_) rfl (by kernel_rfl) (by kernel_rfl) (by kernel_rfl) (fun _ _ _ h => h) (Or.inl ⟨by rfl, ?_⟩) (by assumption) ?_
  rotate_left
  · intro w hSw; go_simp; try with_reducible rfl
  go_simp
  refine wpAnyH_done (by kernel_rfl) ?_ _
  obtain ⟨X, hX⟩ : ∃ X, W.drew = X := ⟨_, rfl⟩
  have kx : Kp W X := by rw [← hX]; exact kp_drewR (Kp.refl _)
  have NX := Lib.hid (R1.out.kp kx)
  have KX := Lib.hid (Kp.trans K1.out kx)
  have HRO := Lib.hid (ntRoom_any NX.out)
  rw [HF.out] at HRO
  try rw [hX]
  have RX := Lib.hid (kp_row kx RW.out)
  have HSX := Lib.hid (HS.out.kp kx)
  obtain ⟨av, cv, hav⟩ := R1.out.form
  subst hav
  go_wp2_with (go_at_call 34; (with_reducible refine HRO.out.mono ?_); rintro e' w5 ⟨rfl, rfl⟩)
  have kd : Kp X X.drew := kp_drewR (Kp.refl _)
  obtain ⟨XD, hXD⟩ : ∃ Y, X.drew = Y := ⟨_, rfl⟩
  rw [hXD] at kd
  have HXD := Lib.hid hXD
  have ND := Lib.hid (NX.out.kp kd)
  have AD := Lib.hid (Asd.of_kp (Ob q (.slice av m.f.length cv) ps mb) (Kp.trans KX.out kd))
  have HBX := Lib.hid (kp_row kd RX.out)
  have HOW := Lib.hid (ownL_base a b o k c d HK.out HLL.out XD (HSX.out.kp kd))
  have y1 := cell_row (i := 1) ND.out.row rfl
  clear kx hX hXD kd
  refine wp_region_held_drew (S := fun w' => w'.heap[w.heap.size]? = some (.cells #[.int .i64 a, .int .i64 b, .slice o k c] 45)) (by kernel_rfl) ?_ (fun hHeld => ?_)
  · exact kp_row (kp_drewR (Kp.refl _)) RX.out
  rw [HXD.out] at hHeld ⊢
  refine wpAnyH_take (i := 0) (v := ?_) rfl (by kernel_rfl) (by kernel_rfl) (by kernel_rfl) (fun _ _ _ h => h) (Or.inl ⟨by rfl, ?_⟩) (by assumption) ?_
  rotate_left
  · intro w hSw; go_simp; try with_reducible rfl
  go_simp
  refine wpAnyH_take (i := 1) (v := ?_) rfl (by kernel_rfl) (by kernel_rfl) (by kernel_rfl) (fun _ _ _ h => h) (Or.inl ⟨by rfl, ?_⟩) (by assumption) ?_
  rotate_left
  · intro w hSw; go_simp; try with_reducible rfl
  go_simp
  refine wpAnyH_take (i := 2) (v := ?_) rfl (by kernel_rfl) (by kernel_rfl) (by kernel_rfl) (fun _ _ _ h => h) (Or.inl ⟨by rfl, ?_⟩) (by assumption) ?_
  rotate_left
  · intro w hSw; go_simp; try with_reducible rfl
  go_simp
  refine wpAnyH_take (i := 3) (v := ?_) rfl (by kernel_rfl) (by kernel_rfl) (by kernel_rfl) (fun _ _ _ h => h) (Or.inl ⟨by rfl, ?_⟩) (by assumption) ?_
  rotate_left
  · intro w hSw; go_simp; try with_reducible rfl
  go_simp
  refine wpAnyH_take (i := 5) (v := ?_) rfl (by kernel_rfl) (by kernel_rfl) (by kernel_rfl) (fun _ _ _ h => h) (Or.inl ⟨by rfl, ?_⟩) (by assumption) ?_
  rotate_left
  · intro w hSw; have q0 := cell_row (i := 0) hSw rfl; have q1 := cell_row (i := 1) hSw rfl; have q2 := cell_row (i := 2) hSw rfl; go_simp; try with_reducible rfl
  go_simp
  refine wpAnyH_ready (rs := [4, 6]) (by kernel_rfl) (by simp) ?_
  refine AllReadyH.cons rfl (fun K hK => ?_) (AllReadyH.cons rfl (fun K hK => ?_) AllReadyH.nil)
  · go_simp
    refine hK.out _ _ hHeld (fun hHeld => ?_)
    clear hK K
    refine wpAnyH_ready (rs := [6]) (by kernel_rfl) (by simp) ?_
    refine AllReadyH.cons rfl (fun K hK => ?_) AllReadyH.nil
    go_simp
    go_wp2_with (go_at_call 35; (with_reducible refine HOW.out.mono ?_); rintro e' Z6 ⟨o6, c6, rfl, ho6, hk6⟩; have D6 := Lib.hid ho6; have K6 := Lib.hid hk6; have N6 := Lib.hid (ND.out.kp hk6); have z1 := cell_row (i := 1) N6.out.row rfl; clear ho6 hk6)
    refine hK.out _ _ (kp_row K6.out HBX.out) (fun hHeld => ?_)
    clear hK K
    refine wpAnyH_ready (rs := [7]) (by kernel_rfl) (by simp) ?_
    refine AllReadyH.cons rfl (fun K hK => ?_) AllReadyH.nil
    go_simp
    refine hK.out _ _ (kp_row (kp_alloc _ _) hHeld) (fun hHeld => ?_)
    clear hK K
    obtain ⟨b7, hb7⟩ : ∃ x, Z6.heap.size = x := ⟨_, rfl⟩
    obtain ⟨Z7, hZ⟩ : ∃ Z, Z6.alloc (.cells #[.int .i64 a, .int .i64 b, .slice o6 k c6] 45) = Z := ⟨_, rfl⟩
    have k7 : Kp Z6 Z7 := by rw [← hZ]; exact kp_alloc _ _
    have P7 := Lib.hid (part_oneL (d := d) HK.out (show Z7.heap[b7]? = some (.cells #[.int .i64 a, .int .i64 b, .slice o6 k c6] 45) by rw [← hZ, ← hb7]; exact (MapKept.heap_alloc Z6 (.cells #[.int .i64 a, .int .i64 b, .slice o6 k c6] 45)).1))
    have K7 := Lib.hid (Kp.trans K6.out k7)
    have D7 := Lib.hid (own_kp3 D6.out k7)
    have N7 := Lib.hid (ND.out.kp K7.out)
    have z2 := cell_row (i := 1) N7.out.row rfl
    rw [hZ] at hHeld ⊢
    try rw [hb7]
    clear hZ k7 hb7
    refine wpAnyH_ready (rs := [8]) (by kernel_rfl) (by simp) ?_
    refine AllReadyH.consLG rfl (fun K hK => ?_) AllReadyH.nil
    go_simp
    refine wpList_append_rwG (E := pE) ty_lt (by decide) _ rfl _ _ rfl w0.heap.size _ m.f.length ps rfl N7.out.own _ [(⟨⟨a, b, d⟩, o6, c6⟩ : LtP)] rfl P7.out ?f1 ?f2 ?_
    case f1 => have := HFL.out; simp; omega
    case f2 => have := N7.out.bq; have := old_of_row N7.out.row; omega
    rintro v8 w8 ho hg hb
    obtain ⟨ad8, c8, rfl⟩ := own_formG ho
    have RF := Lib.hid (ND.out.lettersP K7.out hg (f := m.f ++ [⟨a, b, d⟩]) (ps' := ps ++ [(⟨⟨a, b, d⟩, o6, c6⟩ : LtP)]) (L := m.f.length + 1) (by rw [List.length_append]; rfl) (by rw [List.map_append, ND.out.fs]; rfl) (show w8.ownsRow w0.heap.size 45 3 (.slice ad8 (m.f.length + 1) c8) (m.f.length + 1) (pE.row (ps ++ [(⟨⟨a, b, d⟩, o6, c6⟩ : LtP)])) from ho) hb (fun p hp => by rcases List.mem_append.1 hp with hp | hp; exact .inl hp; rw [List.mem_singleton.1 hp]; exact .inr (show DatP XD.heap.size ⟨⟨a, b, d⟩, o6, c6⟩ Z7 by unfold DatP LtP.v; dsimp only; rw [HK.out]; exact D7.out)))
    have r8 := (hg.block q (old_of_row N7.out.row) (fun e => N7.out.ne.1 e.symm)).trans N7.out.row
    have y8 := cell_row (i := 1) r8 rfl
    have fz := frozR r8
    have B8 := Lib.hid (show w8.heap[w.heap.size]? = some (.cells #[.int .i64 a, .int .i64 b, .slice o k c] 45) from (hg.block _ (old_of_row (kp_row K7.out HBX.out)) (fun e => HBO.out e.symm)).trans (kp_row K7.out HBX.out))
    refine hK.out _ _ B8.out (fun hHeld => ?_)
    clear hK K
    clear ho hg hb r8
    refine wpAnyH_take (i := 9) (v := ?_) rfl (by kernel_rfl) (by kernel_rfl) (by kernel_rfl) (fun _ _ _ h => h) (Or.inl ⟨by rfl, ?_⟩) (by assumption) ?_
    rotate_left
    · intro w hSw; go_simp; try with_reducible rfl
    go_simp
    refine wpAnyH_take (i := 10) (v := ?_) rfl (by kernel_rfl) (by kernel_rfl) (by kernel_rfl) (fun _ _ _ h => h) (Or.inl ⟨by rfl, ?_⟩) (by assumption) ?_
    rotate_left
    · intro w hSw; go_simp; try with_reducible rfl
    go_simp
    refine wpAnyH_ready (rs := [11]) (by kernel_rfl) (by simp) ?_
    refine AllReadyH.cons rfl (fun K hK => ?_) AllReadyH.nil
    go_simp
    refine hK.out _ _ ((Below.heap_setCell _ _ _ _ (by have := HQL.out; show w.heap.size ≠ q; omega)).trans B8.out) (fun hHeld => ?_)
    clear hK K
    refine wpAnyH_done (by kernel_rfl) ?_ _
    go_wp2
    go_ret2
    exact ⟨rfl, _, _, RF.out.1, AD.out.trans RF.out.2.1⟩
  · go_simp
    go_wp2_with (go_at_call 35; (with_reducible refine HOW.out.mono ?_); rintro e' Z6 ⟨o6, c6, rfl, ho6, hk6⟩; have D6 := Lib.hid ho6; have K6 := Lib.hid hk6; have N6 := Lib.hid (ND.out.kp hk6); have z1 := cell_row (i := 1) N6.out.row rfl; clear ho6 hk6)
    refine hK.out _ _ (kp_row K6.out HBX.out) (fun hHeld => ?_)
    clear hK K
    refine wpAnyH_ready (rs := [4, 7]) (by kernel_rfl) (by simp) ?_
    refine AllReadyH.cons rfl (fun K hK => ?_) (AllReadyH.cons rfl (fun K hK => ?_) AllReadyH.nil)
    · go_simp
      refine hK.out _ _ hHeld (fun hHeld => ?_)
      clear hK K
      refine wpAnyH_ready (rs := [7]) (by kernel_rfl) (by simp) ?_
      refine AllReadyH.cons rfl (fun K hK => ?_) AllReadyH.nil
      go_simp
      refine hK.out _ _ (kp_row (kp_alloc _ _) hHeld) (fun hHeld => ?_)
      clear hK K
      obtain ⟨b7, hb7⟩ : ∃ x, Z6.heap.size = x := ⟨_, rfl⟩
      obtain ⟨Z7, hZ⟩ : ∃ Z, Z6.alloc (.cells #[.int .i64 a, .int .i64 b, .slice o6 k c6] 45) = Z := ⟨_, rfl⟩
      have k7 : Kp Z6 Z7 := by rw [← hZ]; exact kp_alloc _ _
      have P7 := Lib.hid (part_oneL (d := d) HK.out (show Z7.heap[b7]? = some (.cells #[.int .i64 a, .int .i64 b, .slice o6 k c6] 45) by rw [← hZ, ← hb7]; exact (MapKept.heap_alloc Z6 (.cells #[.int .i64 a, .int .i64 b, .slice o6 k c6] 45)).1))
      have K7 := Lib.hid (Kp.trans K6.out k7)
      have D7 := Lib.hid (own_kp3 D6.out k7)
      have N7 := Lib.hid (ND.out.kp K7.out)
      have z2 := cell_row (i := 1) N7.out.row rfl
      rw [hZ] at hHeld ⊢
      try rw [hb7]
      clear hZ k7 hb7
      refine wpAnyH_ready (rs := [8]) (by kernel_rfl) (by simp) ?_
      refine AllReadyH.consLG rfl (fun K hK => ?_) AllReadyH.nil
      go_simp
      refine wpList_append_rwG (E := pE) ty_lt (by decide) _ rfl _ _ rfl w0.heap.size _ m.f.length ps rfl N7.out.own _ [(⟨⟨a, b, d⟩, o6, c6⟩ : LtP)] rfl P7.out ?f1 ?f2 ?_
      case f1 => have := HFL.out; simp; omega
      case f2 => have := N7.out.bq; have := old_of_row N7.out.row; omega
      rintro v8 w8 ho hg hb
      obtain ⟨ad8, c8, rfl⟩ := own_formG ho
      have RF := Lib.hid (ND.out.lettersP K7.out hg (f := m.f ++ [⟨a, b, d⟩]) (ps' := ps ++ [(⟨⟨a, b, d⟩, o6, c6⟩ : LtP)]) (L := m.f.length + 1) (by rw [List.length_append]; rfl) (by rw [List.map_append, ND.out.fs]; rfl) (show w8.ownsRow w0.heap.size 45 3 (.slice ad8 (m.f.length + 1) c8) (m.f.length + 1) (pE.row (ps ++ [(⟨⟨a, b, d⟩, o6, c6⟩ : LtP)])) from ho) hb (fun p hp => by rcases List.mem_append.1 hp with hp | hp; exact .inl hp; rw [List.mem_singleton.1 hp]; exact .inr (show DatP XD.heap.size ⟨⟨a, b, d⟩, o6, c6⟩ Z7 by unfold DatP LtP.v; dsimp only; rw [HK.out]; exact D7.out)))
      have r8 := (hg.block q (old_of_row N7.out.row) (fun e => N7.out.ne.1 e.symm)).trans N7.out.row
      have y8 := cell_row (i := 1) r8 rfl
      have fz := frozR r8
      have B8 := Lib.hid (show w8.heap[w.heap.size]? = some (.cells #[.int .i64 a, .int .i64 b, .slice o k c] 45) from (hg.block _ (old_of_row (kp_row K7.out HBX.out)) (fun e => HBO.out e.symm)).trans (kp_row K7.out HBX.out))
      refine hK.out _ _ B8.out (fun hHeld => ?_)
      clear hK K
      clear ho hg hb r8
      refine wpAnyH_take (i := 9) (v := ?_) rfl (by kernel_rfl) (by kernel_rfl) (by kernel_rfl) (fun _ _ _ h => h) (Or.inl ⟨by rfl, ?_⟩) (by assumption) ?_
      rotate_left
      · intro w hSw; go_simp; try with_reducible rfl
      go_simp
      refine wpAnyH_take (i := 10) (v := ?_) rfl (by kernel_rfl) (by kernel_rfl) (by kernel_rfl) (fun _ _ _ h => h) (Or.inl ⟨by rfl, ?_⟩) (by assumption) ?_
      rotate_left
      · intro w hSw; go_simp; try with_reducible rfl
      go_simp
      refine wpAnyH_ready (rs := [11]) (by kernel_rfl) (by simp) ?_
      refine AllReadyH.cons rfl (fun K hK => ?_) AllReadyH.nil
      go_simp
      refine hK.out _ _ ((Below.heap_setCell _ _ _ _ (by have := HQL.out; show w.heap.size ≠ q; omega)).trans B8.out) (fun hHeld => ?_)
      clear hK K
      refine wpAnyH_done (by kernel_rfl) ?_ _
      go_wp2
      go_ret2
      exact ⟨rfl, _, _, RF.out.1, AD.out.trans RF.out.2.1⟩
    · go_simp
      refine hK.out _ _ (kp_row (kp_alloc _ _) hHeld) (fun hHeld => ?_)
      clear hK K
      obtain ⟨b7, hb7⟩ : ∃ x, Z6.heap.size = x := ⟨_, rfl⟩
      obtain ⟨Z7, hZ⟩ : ∃ Z, Z6.alloc (.cells #[.int .i64 a, .int .i64 b, .slice o6 k c6] 45) = Z := ⟨_, rfl⟩
      have k7 : Kp Z6 Z7 := by rw [← hZ]; exact kp_alloc _ _
      have P7 := Lib.hid (part_oneL (d := d) HK.out (show Z7.heap[b7]? = some (.cells #[.int .i64 a, .int .i64 b, .slice o6 k c6] 45) by rw [← hZ, ← hb7]; exact (MapKept.heap_alloc Z6 (.cells #[.int .i64 a, .int .i64 b, .slice o6 k c6] 45)).1))
      have K7 := Lib.hid (Kp.trans K6.out k7)
      have D7 := Lib.hid (own_kp3 D6.out k7)
      have N7 := Lib.hid (ND.out.kp K7.out)
      have z2 := cell_row (i := 1) N7.out.row rfl
      rw [hZ] at hHeld ⊢
      try rw [hb7]
      clear hZ k7 hb7
      refine wpAnyH_ready (rs := [4]) (by kernel_rfl) (by simp) ?_
      refine AllReadyH.cons rfl (fun K hK => ?_) AllReadyH.nil
      go_simp
      refine hK.out _ _ hHeld (fun hHeld => ?_)
      clear hK K
      refine wpAnyH_ready (rs := [8]) (by kernel_rfl) (by simp) ?_
      refine AllReadyH.consLG rfl (fun K hK => ?_) AllReadyH.nil
      go_simp
      refine wpList_append_rwG (E := pE) ty_lt (by decide) _ rfl _ _ rfl w0.heap.size _ m.f.length ps rfl N7.out.own _ [(⟨⟨a, b, d⟩, o6, c6⟩ : LtP)] rfl P7.out ?f1 ?f2 ?_
      case f1 => have := HFL.out; simp; omega
      case f2 => have := N7.out.bq; have := old_of_row N7.out.row; omega
      rintro v8 w8 ho hg hb
      obtain ⟨ad8, c8, rfl⟩ := own_formG ho
      have RF := Lib.hid (ND.out.lettersP K7.out hg (f := m.f ++ [⟨a, b, d⟩]) (ps' := ps ++ [(⟨⟨a, b, d⟩, o6, c6⟩ : LtP)]) (L := m.f.length + 1) (by rw [List.length_append]; rfl) (by rw [List.map_append, ND.out.fs]; rfl) (show w8.ownsRow w0.heap.size 45 3 (.slice ad8 (m.f.length + 1) c8) (m.f.length + 1) (pE.row (ps ++ [(⟨⟨a, b, d⟩, o6, c6⟩ : LtP)])) from ho) hb (fun p hp => by rcases List.mem_append.1 hp with hp | hp; exact .inl hp; rw [List.mem_singleton.1 hp]; exact .inr (show DatP XD.heap.size ⟨⟨a, b, d⟩, o6, c6⟩ Z7 by unfold DatP LtP.v; dsimp only; rw [HK.out]; exact D7.out)))
      have r8 := (hg.block q (old_of_row N7.out.row) (fun e => N7.out.ne.1 e.symm)).trans N7.out.row
      have y8 := cell_row (i := 1) r8 rfl
      have fz := frozR r8
      have B8 := Lib.hid (show w8.heap[w.heap.size]? = some (.cells #[.int .i64 a, .int .i64 b, .slice o k c] 45) from (hg.block _ (old_of_row (kp_row K7.out HBX.out)) (fun e => HBO.out e.symm)).trans (kp_row K7.out HBX.out))
      refine hK.out _ _ B8.out (fun hHeld => ?_)
      clear hK K
      clear ho hg hb r8
      refine wpAnyH_take (i := 9) (v := ?_) rfl (by kernel_rfl) (by kernel_rfl) (by kernel_rfl) (fun _ _ _ h => h) (Or.inl ⟨by rfl, ?_⟩) (by assumption) ?_
      rotate_left
      · intro w hSw; go_simp; try with_reducible rfl
      go_simp
      refine wpAnyH_take (i := 10) (v := ?_) rfl (by kernel_rfl) (by kernel_rfl) (by kernel_rfl) (fun _ _ _ h => h) (Or.inl ⟨by rfl, ?_⟩) (by assumption) ?_
      rotate_left
      · intro w hSw; go_simp; try with_reducible rfl
      go_simp
      refine wpAnyH_ready (rs := [11]) (by kernel_rfl) (by simp) ?_
      refine AllReadyH.cons rfl (fun K hK => ?_) AllReadyH.nil
      go_simp
      refine hK.out _ _ ((Below.heap_setCell _ _ _ _ (by have := HQL.out; show w.heap.size ≠ q; omega)).trans B8.out) (fun hHeld => ?_)
      clear hK K
      refine wpAnyH_done (by kernel_rfl) ?_ _
      go_wp2
      go_ret2
      exact ⟨rfl, _, _, RF.out.1, AD.out.trans RF.out.2.1⟩
theorem ntPut_any (H : Nt w0 q m v ps mb w) (hm : Nok m) (a b : Int) (o : Option Addr) (k c : Nat) (d : List Int) (hk : d.length = k) (hs : SlB (.slice o k c) d w) (E : EP [0, 2, 5] ads w) : Calls Tryd.prog 19 #[.pointer (some ⟨q, 0, none⟩), .agg #[.int .i64 a, .int .i64 b, .slice o k c]] w fun r w' => r = .returned (.tuple #[.bool (m.put ⟨a, b, d⟩).1.1, errI ads (m.put ⟨a, b, d⟩).1.2]) ∧ ∃ v' ps', Nt w0 q (m.put ⟨a, b, d⟩).2 v' ps' mb w' ∧ Asd (Ob q v ps mb) (Ob q v' ps' mb) w w' := by
  unfold NetM.put
  dsimp only
  by_cases h1 : (m.has a && m.has b) = false
  · rw [if_pos h1]
    exact (ntPut_range H a b o k c h1 (E.cell 0 (by simp))).mono fun r w' ⟨q1, q2⟩ => ⟨q1, v, ps, H.kp q2, Asd.of_kp _ q2⟩
  rw [if_neg h1]
  have h1 : (m.has a && m.has b) = true := by simpa using h1
  rw [Bool.and_eq_true] at h1
  by_cases h2 : 1000 < d.length
  · rw [if_pos h2]
    exact (ntPut_long H a b o k c h1.1 h1.2 (by omega) (E.cell 2 (by simp))).mono fun r w' ⟨q1, q2⟩ => ⟨q1, v, ps, H.kp q2, Asd.of_kp _ q2⟩
  rw [if_neg h2]
  by_cases h3 : m.isCut a b = true
  · rw [if_pos h3]
    exact (ntPut_lost H a b o k c hm h1.1 h1.2 (by omega) h3).mono fun r w' ⟨q1, q2, q3⟩ => ⟨by rw [q1, errI_nil], v, ps, q2, q3⟩
  rw [if_neg h3]
  have h3 : m.isCut a b = false := by simpa using h3
  by_cases h4 : 63 < m.f.length
  · rw [if_pos h4]
    exact (ntPut_full H a b o k c hm h1.1 h1.2 (by omega) h3 h4 (E.cell 5 (by simp))).mono fun r w' ⟨q1, q2⟩ => ⟨q1, v, ps, H.kp q2, Asd.of_kp _ q2⟩
  rw [if_neg h4]
  exact (ntPut_ok H a b o k c d hk hs hm h1.1 h1.2 (by omega) h3 h4).mono fun r w' ⟨q1, q2⟩ => ⟨by rw [q1, errI_nil], q2⟩
end Go.Proofs.YtjffkfcokgcenaaDoor
