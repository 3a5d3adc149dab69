/-
  CONTEXTS AS THE DOCUMENT HAS THEM (own work): liaisonref09.Child, New.
-/
import Derived.Test.YtldamfpoemgkpaaDoorRef9
import Derived.Test.YtldamfpoemgkpaaDoorStFl
namespace Go.Proofs.YtldamfpoemgkpaaDoor
open Go.RowKit Go.ChangeShapes Go.WideShapes

theorem results_row_tmp9 {P : Program} {fn : Func} {p u : Tmp} {ty : TypeId} (h : fn.results = #[.cell p ty, .tmp u]) (tmps : Array Value) (w : World) (g : Nat) (t : TypeId) (cs : Array Value) (fr : Nat × Nat) (d : TypeDesc)
    (hp : tmps.getD p undef = .pointer (some ⟨g, 0, none⟩)) (hg : w.heap[g]? = some (.cells cs t fr))
    (hu : P.underlying ty = some d) (hd : (match d with | .struct _ | .array _ _ => true | _ => false) = true) (hi : (P.info? ty).map (·.size) = some cs.size) :
    (results fn tmps).run P w = .ok (.tuple #[.agg cs, tmps.getD u undef]) w := by
  have hp' : tmps[p]?.getD undef = .pointer (some ⟨g, 0, none⟩) := by simpa using hp
  simp [results, h, hp', asAddr, run_loadVar_row w g t ty cs fr d hg hu hd hi]
theorem new1_9 (w : World) (o o' : Obj) : ((w.alloc o).alloc o').heap[w.heap.size + 1]? = some o' := new5_1 w o o'
theorem new2_9 (w : World) (o o' o'' : Obj) : (((w.alloc o).alloc o').alloc o'').heap[w.heap.size + 1 + 1]? = some o'' := by
  have := (MapKept.heap_alloc ((w.alloc o).alloc o') o'').1
  simpa using this
theorem two9_0 {w : World} {b : Nat} {x y : Value} {t : TypeId} {f : Nat × Nat} (h : w.heap[b]? = some (.cells #[x, y] t f)) : w.cell? ⟨b, 0, none⟩ = some x := by
  unfold World.cell?; dsimp only; rw [h]; rfl
theorem two9_1 {w : World} {b : Nat} {x y : Value} {t : TypeId} {f : Nat × Nat} (h : w.heap[b]? = some (.cells #[x, y] t f)) : w.cell? ⟨b, 1, none⟩ = some y := by
  unfold World.cell?; dsimp only; rw [h]; rfl
set_option maxRecDepth 100000 in
set_option maxHeartbeats 4000000 in
theorem refChild9_form (c : CX) (hc : c.wf) (an aw oc : Int) (w : World) (h : rightX c = false) :
    Calls Tryd.prog 14 #[.agg c.cells, .agg #[.int .i64 an, .int .i64 aw], .int .i64 oc] w fun e w' => e = .returned (.tuple #[.agg #[.int .i64 0, .int .i64 0, .int .i64 0, .int .i64 0, .float .f64 0], .int .i64 4]) ∧ Kp w w' := by
  have HRT := fun w1 => refRight9_any c hc w1
  have HA := fun w1 => refRight_any an aw w1
  rw [h] at HRT
  obtain ⟨n, s, o, d, x⟩ := c
  dsimp only [CX.cells] at *
  have HRT := Lib.hid HRT
  have HA := Lib.hid HA
  have kb := Kp.trans (Kp.trans (kp_alloc w (.cells #[.int .i64 n, .int .i64 s, .int .i64 o, .int .i64 d, .float .f64 x] 29)) (kp_alloc (w.alloc (.cells #[.int .i64 n, .int .i64 s, .int .i64 o, .int .i64 d, .float .f64 x] 29)) (.cells #[.int .i64 an, .int .i64 aw] 23))) (kp_alloc ((w.alloc (.cells #[.int .i64 n, .int .i64 s, .int .i64 o, .int .i64 d, .float .f64 x] 29)).alloc (.cells #[.int .i64 an, .int .i64 aw] 23)) (.cells #[.int .i64 0, .int .i64 0, .int .i64 0, .int .i64 0, .float .f64 0] 29))
  have hr := kp_row (Kp.trans (kp_alloc (w.alloc (.cells #[.int .i64 n, .int .i64 s, .int .i64 o, .int .i64 d, .float .f64 x] 29)) (.cells #[.int .i64 an, .int .i64 aw] 23)) (kp_alloc ((w.alloc (.cells #[.int .i64 n, .int .i64 s, .int .i64 o, .int .i64 d, .float .f64 x] 29)).alloc (.cells #[.int .i64 an, .int .i64 aw] 23)) (.cells #[.int .i64 0, .int .i64 0, .int .i64 0, .int .i64 0, .float .f64 0] 29))) (MapKept.heap_alloc w (.cells #[.int .i64 n, .int .i64 s, .int .i64 o, .int .i64 d, .float .f64 x] 29)).1
  have ha := kp_row (kp_alloc ((w.alloc (.cells #[.int .i64 n, .int .i64 s, .int .i64 o, .int .i64 d, .float .f64 x] 29)).alloc (.cells #[.int .i64 an, .int .i64 aw] 23)) (.cells #[.int .i64 0, .int .i64 0, .int .i64 0, .int .i64 0, .float .f64 0] 29)) (new1_9 w (.cells #[.int .i64 n, .int .i64 s, .int .i64 o, .int .i64 d, .float .f64 x] 29) (.cells #[.int .i64 an, .int .i64 aw] 23))
  have hz := new2_9 w (.cells #[.int .i64 n, .int .i64 s, .int .i64 o, .int .i64 d, .float .f64 x] 29) (.cells #[.int .i64 an, .int .i64 aw] 23) (.cells #[.int .i64 0, .int .i64 0, .int .i64 0, .int .i64 0, .float .f64 0] 29)
  have KB := Lib.hid kb
  have HR := Lib.hid hr
  have HAc := Lib.hid ha
  have HZ := Lib.hid hz
  clear kb hr ha hz hc
  have hsf := store_fl
  go_enter Tryd.func14, Tryd.ntmps14
  go_wp2_with (first
    | (go_at_call 15; (with_reducible refine (HRT.out _).mono ?_); rintro e w1 ⟨rfl, hk⟩; have KK := Lib.hid (Kp.trans KB.out hk); have Z1 := Lib.hid (kp_row hk HZ.out); have A1 := Lib.hid (kp_row hk HAc.out); have R1 := Lib.hid (kp_row hk HR.out); obtain ⟨z0, z1, z2, z3, z4⟩ := cells5 (Z1.out); have fz := froz5 Z1.out; have a0 := two9_0 A1.out; have a1 := two9_1 A1.out; obtain ⟨b0, b1, b2, b3, b4⟩ := cells5 (R1.out); clear hk)
    | (go_at_call 27; (with_reducible refine (HA.out _).mono ?_); rintro e w2 ⟨rfl, hk⟩; have KK := Lib.hid (Kp.trans KK.out hk); have Z1 := Lib.hid (kp_row hk Z1.out); have A1 := Lib.hid (kp_row hk A1.out); have R1 := Lib.hid (kp_row hk R1.out); obtain ⟨y0, y1, y2, y3, y4⟩ := cells5 (Z1.out); have fy := froz5 Z1.out; have c0 := two9_0 A1.out; have c1 := two9_1 A1.out; obtain ⟨g0, g1, g2, g3, g4⟩ := cells5 (R1.out); clear hk))
  have hz5 := set5 (.int .i64 0) (.int .i64 0) (.int .i64 0) (.int .i64 0) (.float .f64 0) Z1.out
  refine bodyPost_ret (results_row_tmp9 (p := 6) (u := 7) rfl _ _ (w.heap.size + 1 + 1) 29 _ (0, 0) _ rfl hz5 Tryd.underlying29 rfl (by kernel_rfl)) rfl ?_
  exact ⟨rfl, set5_kp KK.out (by omega) _ _ _ _ _⟩
set_option maxRecDepth 100000 in
set_option maxHeartbeats 4000000 in
theorem refChild9_range (c : CX) (hc : c.wf) (an aw oc : Int) (w : World) (h : rightX c = true) (h2 : rightA an aw = false) :
    Calls Tryd.prog 14 #[.agg c.cells, .agg #[.int .i64 an, .int .i64 aw], .int .i64 oc] w fun e w' => e = .returned (.tuple #[.agg #[.int .i64 0, .int .i64 0, .int .i64 0, .int .i64 0, .float .f64 0], .int .i64 1]) ∧ Kp w w' := by
  have HRT := fun w1 => refRight9_any c hc w1
  have HA := fun w1 => refRight_any an aw w1
  rw [h] at HRT
  rw [h2] at HA
  obtain ⟨n, s, o, d, x⟩ := c
  dsimp only [CX.cells] at *
  have HRT := Lib.hid HRT
  have HA := Lib.hid HA
  have kb := Kp.trans (Kp.trans (kp_alloc w (.cells #[.int .i64 n, .int .i64 s, .int .i64 o, .int .i64 d, .float .f64 x] 29)) (kp_alloc (w.alloc (.cells #[.int .i64 n, .int .i64 s, .int .i64 o, .int .i64 d, .float .f64 x] 29)) (.cells #[.int .i64 an, .int .i64 aw] 23))) (kp_alloc ((w.alloc (.cells #[.int .i64 n, .int .i64 s, .int .i64 o, .int .i64 d, .float .f64 x] 29)).alloc (.cells #[.int .i64 an, .int .i64 aw] 23)) (.cells #[.int .i64 0, .int .i64 0, .int .i64 0, .int .i64 0, .float .f64 0] 29))
  have hr := kp_row (Kp.trans (kp_alloc (w.alloc (.cells #[.int .i64 n, .int .i64 s, .int .i64 o, .int .i64 d, .float .f64 x] 29)) (.cells #[.int .i64 an, .int .i64 aw] 23)) (kp_alloc ((w.alloc (.cells #[.int .i64 n, .int .i64 s, .int .i64 o, .int .i64 d, .float .f64 x] 29)).alloc (.cells #[.int .i64 an, .int .i64 aw] 23)) (.cells #[.int .i64 0, .int .i64 0, .int .i64 0, .int .i64 0, .float .f64 0] 29))) (MapKept.heap_alloc w (.cells #[.int .i64 n, .int .i64 s, .int .i64 o, .int .i64 d, .float .f64 x] 29)).1
  have ha := kp_row (kp_alloc ((w.alloc (.cells #[.int .i64 n, .int .i64 s, .int .i64 o, .int .i64 d, .float .f64 x] 29)).alloc (.cells #[.int .i64 an, .int .i64 aw] 23)) (.cells #[.int .i64 0, .int .i64 0, .int .i64 0, .int .i64 0, .float .f64 0] 29)) (new1_9 w (.cells #[.int .i64 n, .int .i64 s, .int .i64 o, .int .i64 d, .float .f64 x] 29) (.cells #[.int .i64 an, .int .i64 aw] 23))
  have hz := new2_9 w (.cells #[.int .i64 n, .int .i64 s, .int .i64 o, .int .i64 d, .float .f64 x] 29) (.cells #[.int .i64 an, .int .i64 aw] 23) (.cells #[.int .i64 0, .int .i64 0, .int .i64 0, .int .i64 0, .float .f64 0] 29)
  have KB := Lib.hid kb
  have HR := Lib.hid hr
  have HAc := Lib.hid ha
  have HZ := Lib.hid hz
  clear kb hr ha hz hc
  have hsf := store_fl
  go_enter Tryd.func14, Tryd.ntmps14
  go_wp2_with (first
    | (go_at_call 15; (with_reducible refine (HRT.out _).mono ?_); rintro e w1 ⟨rfl, hk⟩; have KK := Lib.hid (Kp.trans KB.out hk); have Z1 := Lib.hid (kp_row hk HZ.out); have A1 := Lib.hid (kp_row hk HAc.out); have R1 := Lib.hid (kp_row hk HR.out); obtain ⟨z0, z1, z2, z3, z4⟩ := cells5 (Z1.out); have fz := froz5 Z1.out; have a0 := two9_0 A1.out; have a1 := two9_1 A1.out; obtain ⟨b0, b1, b2, b3, b4⟩ := cells5 (R1.out); clear hk)
    | (go_at_call 27; (with_reducible refine (HA.out _).mono ?_); rintro e w2 ⟨rfl, hk⟩; have KK := Lib.hid (Kp.trans KK.out hk); have Z1 := Lib.hid (kp_row hk Z1.out); have A1 := Lib.hid (kp_row hk A1.out); have R1 := Lib.hid (kp_row hk R1.out); obtain ⟨y0, y1, y2, y3, y4⟩ := cells5 (Z1.out); have fy := froz5 Z1.out; have c0 := two9_0 A1.out; have c1 := two9_1 A1.out; obtain ⟨g0, g1, g2, g3, g4⟩ := cells5 (R1.out); clear hk))
  have hz5 := set5 (.int .i64 0) (.int .i64 0) (.int .i64 0) (.int .i64 0) (.float .f64 0) Z1.out
  refine bodyPost_ret (results_row_tmp9 (p := 6) (u := 7) rfl _ _ (w.heap.size + 1 + 1) 29 _ (0, 0) _ rfl hz5 Tryd.underlying29 rfl (by kernel_rfl)) rfl ?_
  exact ⟨rfl, set5_kp KK.out (by omega) _ _ _ _ _⟩
set_option maxRecDepth 100000 in
set_option maxHeartbeats 4000000 in
theorem refChild9_out (c : CX) (hc : c.wf) (an aw oc : Int) (w : World) (h : rightX c = true) (h2 : rightA an aw = true) (h3 : ¬ (oc = 1 ∨ oc = 2)) :
    Calls Tryd.prog 14 #[.agg c.cells, .agg #[.int .i64 an, .int .i64 aw], .int .i64 oc] w fun e w' => e = .returned (.tuple #[.agg #[.int .i64 0, .int .i64 0, .int .i64 0, .int .i64 0, .float .f64 0], .int .i64 4]) ∧ Kp w w' := by
  have HRT := fun w1 => refRight9_any c hc w1
  have HA := fun w1 => refRight_any an aw w1
  rw [h] at HRT
  rw [h2] at HA
  have g1 : (oc != 1) = true := by simpa using fun q : oc = 1 => h3 (.inl q)
  have g2 : (oc != 2) = true := by simpa using fun q : oc = 2 => h3 (.inr q)
  obtain ⟨n, s, o, d, x⟩ := c
  dsimp only [CX.cells] at *
  have HRT := Lib.hid HRT
  have HA := Lib.hid HA
  have kb := Kp.trans (Kp.trans (kp_alloc w (.cells #[.int .i64 n, .int .i64 s, .int .i64 o, .int .i64 d, .float .f64 x] 29)) (kp_alloc (w.alloc (.cells #[.int .i64 n, .int .i64 s, .int .i64 o, .int .i64 d, .float .f64 x] 29)) (.cells #[.int .i64 an, .int .i64 aw] 23))) (kp_alloc ((w.alloc (.cells #[.int .i64 n, .int .i64 s, .int .i64 o, .int .i64 d, .float .f64 x] 29)).alloc (.cells #[.int .i64 an, .int .i64 aw] 23)) (.cells #[.int .i64 0, .int .i64 0, .int .i64 0, .int .i64 0, .float .f64 0] 29))
  have hr := kp_row (Kp.trans (kp_alloc (w.alloc (.cells #[.int .i64 n, .int .i64 s, .int .i64 o, .int .i64 d, .float .f64 x] 29)) (.cells #[.int .i64 an, .int .i64 aw] 23)) (kp_alloc ((w.alloc (.cells #[.int .i64 n, .int .i64 s, .int .i64 o, .int .i64 d, .float .f64 x] 29)).alloc (.cells #[.int .i64 an, .int .i64 aw] 23)) (.cells #[.int .i64 0, .int .i64 0, .int .i64 0, .int .i64 0, .float .f64 0] 29))) (MapKept.heap_alloc w (.cells #[.int .i64 n, .int .i64 s, .int .i64 o, .int .i64 d, .float .f64 x] 29)).1
  have ha := kp_row (kp_alloc ((w.alloc (.cells #[.int .i64 n, .int .i64 s, .int .i64 o, .int .i64 d, .float .f64 x] 29)).alloc (.cells #[.int .i64 an, .int .i64 aw] 23)) (.cells #[.int .i64 0, .int .i64 0, .int .i64 0, .int .i64 0, .float .f64 0] 29)) (new1_9 w (.cells #[.int .i64 n, .int .i64 s, .int .i64 o, .int .i64 d, .float .f64 x] 29) (.cells #[.int .i64 an, .int .i64 aw] 23))
  have hz := new2_9 w (.cells #[.int .i64 n, .int .i64 s, .int .i64 o, .int .i64 d, .float .f64 x] 29) (.cells #[.int .i64 an, .int .i64 aw] 23) (.cells #[.int .i64 0, .int .i64 0, .int .i64 0, .int .i64 0, .float .f64 0] 29)
  have KB := Lib.hid kb
  have HR := Lib.hid hr
  have HAc := Lib.hid ha
  have HZ := Lib.hid hz
  clear kb hr ha hz hc
  have hsf := store_fl
  go_enter Tryd.func14, Tryd.ntmps14
  go_wp2_with (first
    | (go_at_call 15; (with_reducible refine (HRT.out _).mono ?_); rintro e w1 ⟨rfl, hk⟩; have KK := Lib.hid (Kp.trans KB.out hk); have Z1 := Lib.hid (kp_row hk HZ.out); have A1 := Lib.hid (kp_row hk HAc.out); have R1 := Lib.hid (kp_row hk HR.out); obtain ⟨z0, z1, z2, z3, z4⟩ := cells5 (Z1.out); have fz := froz5 Z1.out; have a0 := two9_0 A1.out; have a1 := two9_1 A1.out; obtain ⟨b0, b1, b2, b3, b4⟩ := cells5 (R1.out); clear hk)
    | (go_at_call 27; (with_reducible refine (HA.out _).mono ?_); rintro e w2 ⟨rfl, hk⟩; have KK := Lib.hid (Kp.trans KK.out hk); have Z1 := Lib.hid (kp_row hk Z1.out); have A1 := Lib.hid (kp_row hk A1.out); have R1 := Lib.hid (kp_row hk R1.out); obtain ⟨y0, y1, y2, y3, y4⟩ := cells5 (Z1.out); have fy := froz5 Z1.out; have c0 := two9_0 A1.out; have c1 := two9_1 A1.out; obtain ⟨g0, g1, g2, g3, g4⟩ := cells5 (R1.out); clear hk))
  have hz5 := set5 (.int .i64 0) (.int .i64 0) (.int .i64 0) (.int .i64 0) (.float .f64 0) Z1.out
  refine bodyPost_ret (results_row_tmp9 (p := 6) (u := 7) rfl _ _ (w.heap.size + 1 + 1) 29 _ (0, 0) _ rfl hz5 Tryd.underlying29 rfl (by kernel_rfl)) rfl ?_
  exact ⟨rfl, set5_kp KK.out (by omega) _ _ _ _ _⟩
set_option maxRecDepth 100000 in
set_option maxHeartbeats 4000000 in
theorem refChild9_deep1 (c : CX) (hc : c.wf) (an aw oc : Int) (w : World) (h : rightX c = true) (h2 : rightA an aw = true) (h3 : oc = 1) (h4 : 2 < c.d) :
    Calls Tryd.prog 14 #[.agg c.cells, .agg #[.int .i64 an, .int .i64 aw], .int .i64 oc] w fun e w' => e = .returned (.tuple #[.agg #[.int .i64 0, .int .i64 0, .int .i64 0, .int .i64 0, .float .f64 0], .int .i64 11]) ∧ Kp w w' := by
  have HRT := fun w1 => refRight9_any c hc w1
  have HA := fun w1 => refRight_any an aw w1
  rw [h] at HRT
  rw [h2] at HA
  subst h3
  obtain ⟨n, s, o, d, x⟩ := c
  dsimp only [CX.cells] at *
  have HRT := Lib.hid HRT
  have HA := Lib.hid HA
  have kb := Kp.trans (Kp.trans (kp_alloc w (.cells #[.int .i64 n, .int .i64 s, .int .i64 o, .int .i64 d, .float .f64 x] 29)) (kp_alloc (w.alloc (.cells #[.int .i64 n, .int .i64 s, .int .i64 o, .int .i64 d, .float .f64 x] 29)) (.cells #[.int .i64 an, .int .i64 aw] 23))) (kp_alloc ((w.alloc (.cells #[.int .i64 n, .int .i64 s, .int .i64 o, .int .i64 d, .float .f64 x] 29)).alloc (.cells #[.int .i64 an, .int .i64 aw] 23)) (.cells #[.int .i64 0, .int .i64 0, .int .i64 0, .int .i64 0, .float .f64 0] 29))
  have hr := kp_row (Kp.trans (kp_alloc (w.alloc (.cells #[.int .i64 n, .int .i64 s, .int .i64 o, .int .i64 d, .float .f64 x] 29)) (.cells #[.int .i64 an, .int .i64 aw] 23)) (kp_alloc ((w.alloc (.cells #[.int .i64 n, .int .i64 s, .int .i64 o, .int .i64 d, .float .f64 x] 29)).alloc (.cells #[.int .i64 an, .int .i64 aw] 23)) (.cells #[.int .i64 0, .int .i64 0, .int .i64 0, .int .i64 0, .float .f64 0] 29))) (MapKept.heap_alloc w (.cells #[.int .i64 n, .int .i64 s, .int .i64 o, .int .i64 d, .float .f64 x] 29)).1
  have ha := kp_row (kp_alloc ((w.alloc (.cells #[.int .i64 n, .int .i64 s, .int .i64 o, .int .i64 d, .float .f64 x] 29)).alloc (.cells #[.int .i64 an, .int .i64 aw] 23)) (.cells #[.int .i64 0, .int .i64 0, .int .i64 0, .int .i64 0, .float .f64 0] 29)) (new1_9 w (.cells #[.int .i64 n, .int .i64 s, .int .i64 o, .int .i64 d, .float .f64 x] 29) (.cells #[.int .i64 an, .int .i64 aw] 23))
  have hz := new2_9 w (.cells #[.int .i64 n, .int .i64 s, .int .i64 o, .int .i64 d, .float .f64 x] 29) (.cells #[.int .i64 an, .int .i64 aw] 23) (.cells #[.int .i64 0, .int .i64 0, .int .i64 0, .int .i64 0, .float .f64 0] 29)
  have KB := Lib.hid kb
  have HR := Lib.hid hr
  have HAc := Lib.hid ha
  have HZ := Lib.hid hz
  clear kb hr ha hz hc
  have hsf := store_fl
  go_enter Tryd.func14, Tryd.ntmps14
  go_wp2_with (first
    | (go_at_call 15; (with_reducible refine (HRT.out _).mono ?_); rintro e w1 ⟨rfl, hk⟩; have KK := Lib.hid (Kp.trans KB.out hk); have Z1 := Lib.hid (kp_row hk HZ.out); have A1 := Lib.hid (kp_row hk HAc.out); have R1 := Lib.hid (kp_row hk HR.out); obtain ⟨z0, z1, z2, z3, z4⟩ := cells5 (Z1.out); have fz := froz5 Z1.out; have a0 := two9_0 A1.out; have a1 := two9_1 A1.out; obtain ⟨b0, b1, b2, b3, b4⟩ := cells5 (R1.out); clear hk)
    | (go_at_call 27; (with_reducible refine (HA.out _).mono ?_); rintro e w2 ⟨rfl, hk⟩; have KK := Lib.hid (Kp.trans KK.out hk); have Z1 := Lib.hid (kp_row hk Z1.out); have A1 := Lib.hid (kp_row hk A1.out); have R1 := Lib.hid (kp_row hk R1.out); obtain ⟨y0, y1, y2, y3, y4⟩ := cells5 (Z1.out); have fy := froz5 Z1.out; have c0 := two9_0 A1.out; have c1 := two9_1 A1.out; obtain ⟨g0, g1, g2, g3, g4⟩ := cells5 (R1.out); clear hk))
  have hz5 := set5 (.int .i64 0) (.int .i64 0) (.int .i64 0) (.int .i64 0) (.float .f64 0) Z1.out
  refine bodyPost_ret (results_row_tmp9 (p := 6) (u := 7) rfl _ _ (w.heap.size + 1 + 1) 29 _ (0, 0) _ rfl hz5 Tryd.underlying29 rfl (by kernel_rfl)) rfl ?_
  exact ⟨rfl, set5_kp KK.out (by omega) _ _ _ _ _⟩
set_option maxRecDepth 100000 in
set_option maxHeartbeats 4000000 in
theorem refChild9_ok1 (c : CX) (hc : c.wf) (an aw oc : Int) (w : World) (h : rightX c = true) (h2 : rightA an aw = true) (h3 : oc = 1) (h4 : ¬ 2 < c.d) (h5 : 0 ≤ c.d) :
    Calls Tryd.prog 14 #[.agg c.cells, .agg #[.int .i64 an, .int .i64 aw], .int .i64 oc] w fun e w' => e = .returned (.tuple #[.agg #[.int .i64 an, .int .i64 aw, .int .i64 1, .int .i64 (c.d + 1), .float .f64 c.x], .int .i64 0]) ∧ Kp w w' := by
  have HRT := fun w1 => refRight9_any c hc w1
  have HA := fun w1 => refRight_any an aw w1
  rw [h] at HRT
  rw [h2] at HA
  subst h3
  obtain ⟨n, s, o, d, x⟩ := c
  dsimp only [CX.cells] at *
  have HRT := Lib.hid HRT
  have HA := Lib.hid HA
  have kb := Kp.trans (Kp.trans (kp_alloc w (.cells #[.int .i64 n, .int .i64 s, .int .i64 o, .int .i64 d, .float .f64 x] 29)) (kp_alloc (w.alloc (.cells #[.int .i64 n, .int .i64 s, .int .i64 o, .int .i64 d, .float .f64 x] 29)) (.cells #[.int .i64 an, .int .i64 aw] 23))) (kp_alloc ((w.alloc (.cells #[.int .i64 n, .int .i64 s, .int .i64 o, .int .i64 d, .float .f64 x] 29)).alloc (.cells #[.int .i64 an, .int .i64 aw] 23)) (.cells #[.int .i64 0, .int .i64 0, .int .i64 0, .int .i64 0, .float .f64 0] 29))
  have hr := kp_row (Kp.trans (kp_alloc (w.alloc (.cells #[.int .i64 n, .int .i64 s, .int .i64 o, .int .i64 d, .float .f64 x] 29)) (.cells #[.int .i64 an, .int .i64 aw] 23)) (kp_alloc ((w.alloc (.cells #[.int .i64 n, .int .i64 s, .int .i64 o, .int .i64 d, .float .f64 x] 29)).alloc (.cells #[.int .i64 an, .int .i64 aw] 23)) (.cells #[.int .i64 0, .int .i64 0, .int .i64 0, .int .i64 0, .float .f64 0] 29))) (MapKept.heap_alloc w (.cells #[.int .i64 n, .int .i64 s, .int .i64 o, .int .i64 d, .float .f64 x] 29)).1
  have ha := kp_row (kp_alloc ((w.alloc (.cells #[.int .i64 n, .int .i64 s, .int .i64 o, .int .i64 d, .float .f64 x] 29)).alloc (.cells #[.int .i64 an, .int .i64 aw] 23)) (.cells #[.int .i64 0, .int .i64 0, .int .i64 0, .int .i64 0, .float .f64 0] 29)) (new1_9 w (.cells #[.int .i64 n, .int .i64 s, .int .i64 o, .int .i64 d, .float .f64 x] 29) (.cells #[.int .i64 an, .int .i64 aw] 23))
  have hz := new2_9 w (.cells #[.int .i64 n, .int .i64 s, .int .i64 o, .int .i64 d, .float .f64 x] 29) (.cells #[.int .i64 an, .int .i64 aw] 23) (.cells #[.int .i64 0, .int .i64 0, .int .i64 0, .int .i64 0, .float .f64 0] 29)
  have KB := Lib.hid kb
  have HR := Lib.hid hr
  have HAc := Lib.hid ha
  have HZ := Lib.hid hz
  clear kb hr ha hz hc
  have hsf := store_fl
  go_enter Tryd.func14, Tryd.ntmps14
  go_wp2_with (first
    | (go_at_call 15; (with_reducible refine (HRT.out _).mono ?_); rintro e w1 ⟨rfl, hk⟩; have KK := Lib.hid (Kp.trans KB.out hk); have Z1 := Lib.hid (kp_row hk HZ.out); have A1 := Lib.hid (kp_row hk HAc.out); have R1 := Lib.hid (kp_row hk HR.out); obtain ⟨z0, z1, z2, z3, z4⟩ := cells5 (Z1.out); have fz := froz5 Z1.out; have a0 := two9_0 A1.out; have a1 := two9_1 A1.out; obtain ⟨b0, b1, b2, b3, b4⟩ := cells5 (R1.out); clear hk)
    | (go_at_call 27; (with_reducible refine (HA.out _).mono ?_); rintro e w2 ⟨rfl, hk⟩; have KK := Lib.hid (Kp.trans KK.out hk); have Z1 := Lib.hid (kp_row hk Z1.out); have A1 := Lib.hid (kp_row hk A1.out); have R1 := Lib.hid (kp_row hk R1.out); obtain ⟨y0, y1, y2, y3, y4⟩ := cells5 (Z1.out); have fy := froz5 Z1.out; have c0 := two9_0 A1.out; have c1 := two9_1 A1.out; obtain ⟨g0, g1, g2, g3, g4⟩ := cells5 (R1.out); clear hk))
  have hz5 := set5 (.int .i64 an) (.int .i64 aw) (.int .i64 1) (.int .i64 (d + 1)) (.float .f64 x) Z1.out
  refine bodyPost_ret (results_row_tmp9 (p := 6) (u := 7) rfl _ _ (w.heap.size + 1 + 1) 29 _ (0, 0) _ rfl hz5 Tryd.underlying29 rfl (by kernel_rfl)) rfl ?_
  exact ⟨rfl, set5_kp KK.out (by omega) _ _ _ _ _⟩
set_option maxRecDepth 100000 in
set_option maxHeartbeats 4000000 in
theorem refChild9_deep2 (c : CX) (hc : c.wf) (an aw oc : Int) (w : World) (h : rightX c = true) (h2 : rightA an aw = true) (h3 : oc = 2) (h4 : 2 < c.d) :
    Calls Tryd.prog 14 #[.agg c.cells, .agg #[.int .i64 an, .int .i64 aw], .int .i64 oc] w fun e w' => e = .returned (.tuple #[.agg #[.int .i64 0, .int .i64 0, .int .i64 0, .int .i64 0, .float .f64 0], .int .i64 11]) ∧ Kp w w' := by
  have HRT := fun w1 => refRight9_any c hc w1
  have HA := fun w1 => refRight_any an aw w1
  rw [h] at HRT
  rw [h2] at HA
  subst h3
  obtain ⟨n, s, o, d, x⟩ := c
  dsimp only [CX.cells] at *
  have HRT := Lib.hid HRT
  have HA := Lib.hid HA
  have kb := Kp.trans (Kp.trans (kp_alloc w (.cells #[.int .i64 n, .int .i64 s, .int .i64 o, .int .i64 d, .float .f64 x] 29)) (kp_alloc (w.alloc (.cells #[.int .i64 n, .int .i64 s, .int .i64 o, .int .i64 d, .float .f64 x] 29)) (.cells #[.int .i64 an, .int .i64 aw] 23))) (kp_alloc ((w.alloc (.cells #[.int .i64 n, .int .i64 s, .int .i64 o, .int .i64 d, .float .f64 x] 29)).alloc (.cells #[.int .i64 an, .int .i64 aw] 23)) (.cells #[.int .i64 0, .int .i64 0, .int .i64 0, .int .i64 0, .float .f64 0] 29))
  have hr := kp_row (Kp.trans (kp_alloc (w.alloc (.cells #[.int .i64 n, .int .i64 s, .int .i64 o, .int .i64 d, .float .f64 x] 29)) (.cells #[.int .i64 an, .int .i64 aw] 23)) (kp_alloc ((w.alloc (.cells #[.int .i64 n, .int .i64 s, .int .i64 o, .int .i64 d, .float .f64 x] 29)).alloc (.cells #[.int .i64 an, .int .i64 aw] 23)) (.cells #[.int .i64 0, .int .i64 0, .int .i64 0, .int .i64 0, .float .f64 0] 29))) (MapKept.heap_alloc w (.cells #[.int .i64 n, .int .i64 s, .int .i64 o, .int .i64 d, .float .f64 x] 29)).1
  have ha := kp_row (kp_alloc ((w.alloc (.cells #[.int .i64 n, .int .i64 s, .int .i64 o, .int .i64 d, .float .f64 x] 29)).alloc (.cells #[.int .i64 an, .int .i64 aw] 23)) (.cells #[.int .i64 0, .int .i64 0, .int .i64 0, .int .i64 0, .float .f64 0] 29)) (new1_9 w (.cells #[.int .i64 n, .int .i64 s, .int .i64 o, .int .i64 d, .float .f64 x] 29) (.cells #[.int .i64 an, .int .i64 aw] 23))
  have hz := new2_9 w (.cells #[.int .i64 n, .int .i64 s, .int .i64 o, .int .i64 d, .float .f64 x] 29) (.cells #[.int .i64 an, .int .i64 aw] 23) (.cells #[.int .i64 0, .int .i64 0, .int .i64 0, .int .i64 0, .float .f64 0] 29)
  have KB := Lib.hid kb
  have HR := Lib.hid hr
  have HAc := Lib.hid ha
  have HZ := Lib.hid hz
  clear kb hr ha hz hc
  have hsf := store_fl
  go_enter Tryd.func14, Tryd.ntmps14
  go_wp2_with (first
    | (go_at_call 15; (with_reducible refine (HRT.out _).mono ?_); rintro e w1 ⟨rfl, hk⟩; have KK := Lib.hid (Kp.trans KB.out hk); have Z1 := Lib.hid (kp_row hk HZ.out); have A1 := Lib.hid (kp_row hk HAc.out); have R1 := Lib.hid (kp_row hk HR.out); obtain ⟨z0, z1, z2, z3, z4⟩ := cells5 (Z1.out); have fz := froz5 Z1.out; have a0 := two9_0 A1.out; have a1 := two9_1 A1.out; obtain ⟨b0, b1, b2, b3, b4⟩ := cells5 (R1.out); clear hk)
    | (go_at_call 27; (with_reducible refine (HA.out _).mono ?_); rintro e w2 ⟨rfl, hk⟩; have KK := Lib.hid (Kp.trans KK.out hk); have Z1 := Lib.hid (kp_row hk Z1.out); have A1 := Lib.hid (kp_row hk A1.out); have R1 := Lib.hid (kp_row hk R1.out); obtain ⟨y0, y1, y2, y3, y4⟩ := cells5 (Z1.out); have fy := froz5 Z1.out; have c0 := two9_0 A1.out; have c1 := two9_1 A1.out; obtain ⟨g0, g1, g2, g3, g4⟩ := cells5 (R1.out); clear hk))
  have hz5 := set5 (.int .i64 0) (.int .i64 0) (.int .i64 0) (.int .i64 0) (.float .f64 0) Z1.out
  refine bodyPost_ret (results_row_tmp9 (p := 6) (u := 7) rfl _ _ (w.heap.size + 1 + 1) 29 _ (0, 0) _ rfl hz5 Tryd.underlying29 rfl (by kernel_rfl)) rfl ?_
  exact ⟨rfl, set5_kp KK.out (by omega) _ _ _ _ _⟩
set_option maxRecDepth 100000 in
set_option maxHeartbeats 4000000 in
theorem refChild9_ok2 (c : CX) (hc : c.wf) (an aw oc : Int) (w : World) (h : rightX c = true) (h2 : rightA an aw = true) (h3 : oc = 2) (h4 : ¬ 2 < c.d) (h5 : 0 ≤ c.d) :
    Calls Tryd.prog 14 #[.agg c.cells, .agg #[.int .i64 an, .int .i64 aw], .int .i64 oc] w fun e w' => e = .returned (.tuple #[.agg #[.int .i64 an, .int .i64 aw, .int .i64 2, .int .i64 (c.d + 1), .float .f64 c.x], .int .i64 0]) ∧ Kp w w' := by
  have HRT := fun w1 => refRight9_any c hc w1
  have HA := fun w1 => refRight_any an aw w1
  rw [h] at HRT
  rw [h2] at HA
  subst h3
  obtain ⟨n, s, o, d, x⟩ := c
  dsimp only [CX.cells] at *
  have HRT := Lib.hid HRT
  have HA := Lib.hid HA
  have kb := Kp.trans (Kp.trans (kp_alloc w (.cells #[.int .i64 n, .int .i64 s, .int .i64 o, .int .i64 d, .float .f64 x] 29)) (kp_alloc (w.alloc (.cells #[.int .i64 n, .int .i64 s, .int .i64 o, .int .i64 d, .float .f64 x] 29)) (.cells #[.int .i64 an, .int .i64 aw] 23))) (kp_alloc ((w.alloc (.cells #[.int .i64 n, .int .i64 s, .int .i64 o, .int .i64 d, .float .f64 x] 29)).alloc (.cells #[.int .i64 an, .int .i64 aw] 23)) (.cells #[.int .i64 0, .int .i64 0, .int .i64 0, .int .i64 0, .float .f64 0] 29))
  have hr := kp_row (Kp.trans (kp_alloc (w.alloc (.cells #[.int .i64 n, .int .i64 s, .int .i64 o, .int .i64 d, .float .f64 x] 29)) (.cells #[.int .i64 an, .int .i64 aw] 23)) (kp_alloc ((w.alloc (.cells #[.int .i64 n, .int .i64 s, .int .i64 o, .int .i64 d, .float .f64 x] 29)).alloc (.cells #[.int .i64 an, .int .i64 aw] 23)) (.cells #[.int .i64 0, .int .i64 0, .int .i64 0, .int .i64 0, .float .f64 0] 29))) (MapKept.heap_alloc w (.cells #[.int .i64 n, .int .i64 s, .int .i64 o, .int .i64 d, .float .f64 x] 29)).1
  have ha := kp_row (kp_alloc ((w.alloc (.cells #[.int .i64 n, .int .i64 s, .int .i64 o, .int .i64 d, .float .f64 x] 29)).alloc (.cells #[.int .i64 an, .int .i64 aw] 23)) (.cells #[.int .i64 0, .int .i64 0, .int .i64 0, .int .i64 0, .float .f64 0] 29)) (new1_9 w (.cells #[.int .i64 n, .int .i64 s, .int .i64 o, .int .i64 d, .float .f64 x] 29) (.cells #[.int .i64 an, .int .i64 aw] 23))
  have hz := new2_9 w (.cells #[.int .i64 n, .int .i64 s, .int .i64 o, .int .i64 d, .float .f64 x] 29) (.cells #[.int .i64 an, .int .i64 aw] 23) (.cells #[.int .i64 0, .int .i64 0, .int .i64 0, .int .i64 0, .float .f64 0] 29)
  have KB := Lib.hid kb
  have HR := Lib.hid hr
  have HAc := Lib.hid ha
  have HZ := Lib.hid hz
  clear kb hr ha hz hc
  have hsf := store_fl
  go_enter Tryd.func14, Tryd.ntmps14
  go_wp2_with (first
    | (go_at_call 15; (with_reducible refine (HRT.out _).mono ?_); rintro e w1 ⟨rfl, hk⟩; have KK := Lib.hid (Kp.trans KB.out hk); have Z1 := Lib.hid (kp_row hk HZ.out); have A1 := Lib.hid (kp_row hk HAc.out); have R1 := Lib.hid (kp_row hk HR.out); obtain ⟨z0, z1, z2, z3, z4⟩ := cells5 (Z1.out); have fz := froz5 Z1.out; have a0 := two9_0 A1.out; have a1 := two9_1 A1.out; obtain ⟨b0, b1, b2, b3, b4⟩ := cells5 (R1.out); clear hk)
    | (go_at_call 27; (with_reducible refine (HA.out _).mono ?_); rintro e w2 ⟨rfl, hk⟩; have KK := Lib.hid (Kp.trans KK.out hk); have Z1 := Lib.hid (kp_row hk Z1.out); have A1 := Lib.hid (kp_row hk A1.out); have R1 := Lib.hid (kp_row hk R1.out); obtain ⟨y0, y1, y2, y3, y4⟩ := cells5 (Z1.out); have fy := froz5 Z1.out; have c0 := two9_0 A1.out; have c1 := two9_1 A1.out; obtain ⟨g0, g1, g2, g3, g4⟩ := cells5 (R1.out); clear hk))
  have hz5 := set5 (.int .i64 an) (.int .i64 aw) (.int .i64 2) (.int .i64 (d + 1)) (.float .f64 x) Z1.out
  refine bodyPost_ret (results_row_tmp9 (p := 6) (u := 7) rfl _ _ (w.heap.size + 1 + 1) 29 _ (0, 0) _ rfl hz5 Tryd.underlying29 rfl (by kernel_rfl)) rfl ?_
  exact ⟨rfl, set5_kp KK.out (by omega) _ _ _ _ _⟩

theorem refChild9_any (c : CX) (hc : c.wf) (an aw oc : Int) (w : World) :
    Calls Tryd.prog 14 #[.agg c.cells, .agg #[.int .i64 an, .int .i64 aw], .int .i64 oc] w fun e w' => e = .returned (.tuple #[.agg (childX c an aw oc).2.cells, .int .i64 (childX c an aw oc).1]) ∧ Kp w w' := by
  unfold childX
  cases h : rightX c with
  | false => rw [if_pos rfl]; exact refChild9_form c hc an aw oc w h
  | true =>
    rw [if_neg (by decide)]
    cases h2 : rightA an aw with
    | false => rw [if_pos rfl]; exact refChild9_range c hc an aw oc w h h2
    | true =>
      rw [if_neg (by decide)]
      have hd : 0 ≤ c.d := by
        have h' := h
        unfold rightX at h'
        simp only [Bool.and_eq_true, decide_eq_true_eq] at h'
        exact h'.2.2.1.1
      by_cases h1 : oc = 1
      · subst h1
        rw [if_neg (by decide)]
        by_cases h4 : 2 < c.d
        · rw [if_pos h4]; exact refChild9_deep1 c hc an aw 1 w h h2 rfl h4
        · rw [if_neg h4]; exact refChild9_ok1 c hc an aw 1 w h h2 rfl h4 hd
      by_cases h3 : oc = 2
      · subst h3
        rw [if_neg (by decide)]
        by_cases h4 : 2 < c.d
        · rw [if_pos h4]; exact refChild9_deep2 c hc an aw 2 w h h2 rfl h4
        · rw [if_neg h4]; exact refChild9_ok2 c hc an aw 2 w h h2 rfl h4 hd
      have ho : ¬ (oc = 1 ∨ oc = 2) := fun q => q.elim h1 h3
      rw [if_pos (show outX oc = false from decide_eq_false ho)]
      exact refChild9_out c hc an aw oc w h h2 ho
end Go.Proofs.YtldamfpoemgkpaaDoor
