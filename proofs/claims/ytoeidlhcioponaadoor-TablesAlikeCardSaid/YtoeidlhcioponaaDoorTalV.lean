/-
  THE WALK OF TablesAlike (own work).
-/
import Derived.Test.YtoeidlhcioponaaDoorTabC
import Derived.Test.YtoeidlhcioponaaDoorTabE
import Derived.Test.YtoeidlhcioponaaDoorRefL
namespace Go.Proofs.YtoeidlhcioponaaDoor
open Go.RowKit Go.ChangeShapes Go.WideShapes

theorem alike_nums {e k s : Int} (h : (lookT 1 e k s).1 = 0) : (lookT 2 e k s).1 = 0 ∧ e ∈ [1, 2] ∧ k ∈ allT ∧ s ∈ allT ∧ lookT 1 e k s = (0, cellT 1 e k s) ∧ lookT 2 e k s = (0, cellT 2 e k s) := by
  unfold lookT at h ⊢
  split at h
  · cases h
  rename_i h1
  split at h
  · cases h
  rename_i h2
  split at h
  · cases h
  rename_i h3
  have r1 : rightT 1 e = true := by cases q : rightT 1 e with | true => rfl | false => exact absurd q h1
  have he : e = 1 ∨ e = 2 := (rightT_rng r1).2
  have t1 : takesT 1 e k = true := by cases q : takesT 1 e k with | true => rfl | false => exact absurd q h2
  have s1 : hasT 1 e s = true := by cases q : hasT 1 e s with | true => rfl | false => exact absurd q h3
  have r2 : rightT 2 e = true := decide_eq_true ⟨.inr rfl, he⟩
  have t2 : takesT 2 e k = true := by
    unfold takesT at t1 ⊢
    split at t1
    · rename_i q; rw [if_pos q]; exact t1
    · rename_i q
      rw [if_neg q]
      have := of_decide_eq_true t1
      exact decide_eq_true (by omega)
  have s2 : hasT 2 e s = true := by
    have hr := hasT_rng s1
    unfold hasT at s1 ⊢
    split at s1
    · have := of_decide_eq_true s1; omega
    split at s1
    · have := of_decide_eq_true s1; omega
    · rename_i q1 q2
      rw [if_neg q1, if_neg q2]
      exact s1
  have hk : k ∈ allT := by
    unfold allT
    simp only [List.mem_cons, List.not_mem_nil, or_false]
    unfold takesT at t1
    split at t1
    · have := of_decide_eq_true t1; omega
    · have := of_decide_eq_true t1; omega
  have hs : s ∈ allT := by
    have := hasT_rng s1
    unfold allT
    simp only [List.mem_cons, List.not_mem_nil, or_false]
    omega
  rw [r1, r2, t1, t2, s1, s2]
  refine ⟨rfl, ?_, hk, hs, rfl, rfl⟩
  simp only [List.mem_cons, List.not_mem_nil, or_false]
  exact he
theorem alike_cells : ∀ e ∈ [(1 : Int), 2], ∀ k ∈ allT, ∀ s ∈ allT, (e = 1 ∧ k = 3 ∧ (s = 1 ∨ s = 2) → (cellT 1 e k s = (1, 5, 0) ∧ (cellT 2 e k s).1 = 4)) ∧ (¬ (e = 1 ∧ k = 3 ∧ (s = 1 ∨ s = 2)) → cellT 1 e k s = cellT 2 e k s) := by decide +kernel
set_option maxRecDepth 100000 in
theorem talike_err (ads : List Addr) (e k s : Int) (he : i64T e) (hk0 : i64T k) (hs : i64T s) (w : World) (C : TabC ads w) (h : (lookT 1 e k s).1 ≠ 0) :
    Calls Tryd.prog 9 #[.int .i64 e, .int .i64 k, .int .i64 s] w fun e' w' => e' = .returned (.bool true) ∧ Kp w w' := by
  have HA := Lib.hid (fun w1 (hk : Kp w w1) => alive10_any ads w1 (TabC.kp C hk))
  have H1 := fun w1 (hk : Kp w w1) => C.look w1 hk 1 e k s (by decide) he hk0 hs
  have H2 := fun w1 (hk : Kp w w1) => C.look w1 hk 2 e k s (by decide) he hk0 hs
  obtain ⟨q, hq⟩ : ∃ q, errI ads (lookT 1 e k s).1 = .iface 80 (.pointer q) := ⟨_, if_neg h⟩
  rw [hq] at H1
  obtain ⟨ev, hev⟩ : ∃ v, errI ads (lookT 2 e k s).1 = v := ⟨_, rfl⟩
  rw [hev] at H2
  obtain ⟨⟨x0, x1, x2⟩, hx⟩ : ∃ c, (lookT 1 e k s).2 = c := ⟨_, rfl⟩
  obtain ⟨⟨y0, y1, y2⟩, hy⟩ : ∃ c, (lookT 2 e k s).2 = c := ⟨_, rfl⟩
  rw [hx] at H1
  rw [hy] at H2
  dsimp only [cellV] at H1 H2
  have H1 := Lib.hid H1
  have H2 := Lib.hid H2
  clear C he hk0 hs h hq hev hx hy
  go_enter Tryd.func9, Tryd.ntmps9
  go_wp2_with (first
    | (go_at_call 10; (with_reducible refine (HA.out _ (Kp.refl _)).mono ?_); rintro e' w1 ⟨rfl, hk⟩; have K1 := Lib.hid hk; clear hk)
    | (go_at_call 11; (with_reducible refine (H1.out _ K1.out).mono ?_); rintro e' w2 ⟨rfl, hk⟩; have K2 := Lib.hid (Kp.trans K1.out (Kp.trans hk (kp_alloc w2 (.cells #[.int .i64 x0, .int .i64 x1, .int .i64 x2] 26)))); have A2 := Lib.hid (MapKept.heap_alloc w2 (.cells #[.int .i64 x0, .int .i64 x1, .int .i64 x2] 26)).1; clear hk)
    | (go_at_call 11; (with_reducible refine (H2.out _ K2.out).mono ?_); rintro e' w3 ⟨rfl, hk⟩; have K3 := Lib.hid (Kp.trans K2.out (Kp.trans hk (kp_alloc w3 (.cells #[.int .i64 y0, .int .i64 y1, .int .i64 y2] 26)))); have A3 := kp_row (Kp.trans hk (kp_alloc w3 (.cells #[.int .i64 y0, .int .i64 y1, .int .i64 y2] 26))) A2.out; obtain ⟨a0, a1, a2⟩ := cells3 A3; clear hk))
  go_ret
  exact ⟨by first | rfl | simp, K3.out⟩
set_option maxRecDepth 100000 in
theorem talike_odd (ads : List Addr) (e k s : Int) (he : i64T e) (hk0 : i64T k) (hs : i64T s) (w : World) (C : TabC ads w) (h : lookT 1 e k s = (0, cellT 1 e k s)) (g : lookT 2 e k s = (0, cellT 2 e k s)) (h1 : e = 1 ∧ k = 3 ∧ (s = 1 ∨ s = 2)) (h2 : cellT 1 e k s = (1, 5, 0)) (h4 : (cellT 2 e k s).1 = 4) :
    Calls Tryd.prog 9 #[.int .i64 e, .int .i64 k, .int .i64 s] w fun e' w' => e' = .returned (.bool true) ∧ Kp w w' := by
  have HA := Lib.hid (fun w1 (hk : Kp w w1) => alive10_any ads w1 (TabC.kp C hk))
  have H1 := fun w1 (hk : Kp w w1) => C.look w1 hk 1 e k s (by decide) he hk0 hs
  have H2 := fun w1 (hk : Kp w w1) => C.look w1 hk 2 e k s (by decide) he hk0 hs
  rw [h, h2] at H1
  rw [g] at H2
  obtain ⟨⟨y0, y1, y2⟩, hy⟩ : ∃ c, cellT 2 e k s = c := ⟨_, rfl⟩
  rw [hy] at H2 h4
  simp only [errI_nil, cellV] at H1 H2
  dsimp only at h4
  subst h4
  have H1 := Lib.hid H1
  have H2 := Lib.hid H2
  clear C he hk0 hs h g h2 hy
  obtain ⟨rfl, rfl, rfl | rfl⟩ := h1
  · go_enter Tryd.func9, Tryd.ntmps9
    go_wp2_with (first
      | (go_at_call 10; (with_reducible refine (HA.out _ (Kp.refl _)).mono ?_); rintro e' w1 ⟨rfl, hk⟩; have K1 := Lib.hid hk; clear hk)
      | (go_at_call 11; (with_reducible refine (H1.out _ K1.out).mono ?_); rintro e' w2 ⟨rfl, hk⟩; have K2 := Lib.hid (Kp.trans K1.out (Kp.trans hk (kp_alloc w2 (.cells #[.int .i64 1, .int .i64 5, .int .i64 0] 26)))); have A2 := Lib.hid (MapKept.heap_alloc w2 (.cells #[.int .i64 1, .int .i64 5, .int .i64 0] 26)).1; clear hk)
      | (go_at_call 11; (with_reducible refine (H2.out _ K2.out).mono ?_); rintro e' w3 ⟨rfl, hk⟩; have K3 := Lib.hid (Kp.trans K2.out (Kp.trans hk (kp_alloc w3 (.cells #[.int .i64 4, .int .i64 y1, .int .i64 y2] 26)))); have A3 := kp_row (Kp.trans hk (kp_alloc w3 (.cells #[.int .i64 4, .int .i64 y1, .int .i64 y2] 26))) A2.out; obtain ⟨a0, a1, a2⟩ := cells3 A3; clear hk))
    go_ret
    exact ⟨by first | rfl | simp, K3.out⟩
  · go_enter Tryd.func9, Tryd.ntmps9
    go_wp2_with (first
      | (go_at_call 10; (with_reducible refine (HA.out _ (Kp.refl _)).mono ?_); rintro e' w1 ⟨rfl, hk⟩; have K1 := Lib.hid hk; clear hk)
      | (go_at_call 11; (with_reducible refine (H1.out _ K1.out).mono ?_); rintro e' w2 ⟨rfl, hk⟩; have K2 := Lib.hid (Kp.trans K1.out (Kp.trans hk (kp_alloc w2 (.cells #[.int .i64 1, .int .i64 5, .int .i64 0] 26)))); have A2 := Lib.hid (MapKept.heap_alloc w2 (.cells #[.int .i64 1, .int .i64 5, .int .i64 0] 26)).1; clear hk)
      | (go_at_call 11; (with_reducible refine (H2.out _ K2.out).mono ?_); rintro e' w3 ⟨rfl, hk⟩; have K3 := Lib.hid (Kp.trans K2.out (Kp.trans hk (kp_alloc w3 (.cells #[.int .i64 4, .int .i64 y1, .int .i64 y2] 26)))); have A3 := kp_row (Kp.trans hk (kp_alloc w3 (.cells #[.int .i64 4, .int .i64 y1, .int .i64 y2] 26))) A2.out; obtain ⟨a0, a1, a2⟩ := cells3 A3; clear hk))
    go_ret
    exact ⟨by first | rfl | simp, K3.out⟩
set_option maxRecDepth 100000 in
theorem talike_s1 (ads : List Addr) (e k s : Int) (he : i64T e) (hk0 : i64T k) (hs : i64T s) (w : World) (C : TabC ads w) (h : lookT 1 e k s = (0, cellT 1 e k s)) (g : lookT 2 e k s = (0, cellT 2 e k s)) (h2 : cellT 1 e k s = cellT 2 e k s) (h1 : e ≠ 1) :
    Calls Tryd.prog 9 #[.int .i64 e, .int .i64 k, .int .i64 s] w fun e' w' => e' = .returned (.bool true) ∧ Kp w w' := by
  have HA := Lib.hid (fun w1 (hk : Kp w w1) => alive10_any ads w1 (TabC.kp C hk))
  have H1 := fun w1 (hk : Kp w w1) => C.look w1 hk 1 e k s (by decide) he hk0 hs
  have H2 := fun w1 (hk : Kp w w1) => C.look w1 hk 2 e k s (by decide) he hk0 hs
  rw [h, h2] at H1
  rw [g] at H2
  obtain ⟨⟨y0, y1, y2⟩, hy⟩ : ∃ c, cellT 2 e k s = c := ⟨_, rfl⟩
  rw [hy] at H1 H2
  simp only [errI_nil, cellV] at H1 H2
  have hq := tcell_eql y0 y1 y2 y0 y1 y2
  have hg := fun (op : BinOp) (x y : Operand) (w : World) => tcell_guard op x y y0 y1 y2 y0 y1 y2 w
  simp only [and_self, decide_true] at hq
  have H1 := Lib.hid H1
  have H2 := Lib.hid H2
  clear C he hk0 hs h g h2 hy
  have b1 : (e == 1) = false := by simpa using h1
  go_enter Tryd.func9, Tryd.ntmps9
  go_wp2_with (first
    | (go_at_call 10; (with_reducible refine (HA.out _ (Kp.refl _)).mono ?_); rintro e' w1 ⟨rfl, hk⟩; have K1 := Lib.hid hk; clear hk)
    | (go_at_call 11; (with_reducible refine (H1.out _ K1.out).mono ?_); rintro e' w2 ⟨rfl, hk⟩; have K2 := Lib.hid (Kp.trans K1.out (Kp.trans hk (kp_alloc w2 (.cells #[.int .i64 y0, .int .i64 y1, .int .i64 y2] 26)))); have A2 := Lib.hid (MapKept.heap_alloc w2 (.cells #[.int .i64 y0, .int .i64 y1, .int .i64 y2] 26)).1; clear hk)
    | (go_at_call 11; (with_reducible refine (H2.out _ K2.out).mono ?_); rintro e' w3 ⟨rfl, hk⟩; have K3 := Lib.hid (Kp.trans K2.out (Kp.trans hk (kp_alloc w3 (.cells #[.int .i64 y0, .int .i64 y1, .int .i64 y2] 26)))); have A3 := kp_row (Kp.trans hk (kp_alloc w3 (.cells #[.int .i64 y0, .int .i64 y1, .int .i64 y2] 26))) A2.out; obtain ⟨a0, a1, a2⟩ := cells3 A3; clear hk))
  go_ret
  exact ⟨by first | rfl | simp, K3.out⟩
set_option maxRecDepth 100000 in
theorem talike_s2 (ads : List Addr) (e k s : Int) (he : i64T e) (hk0 : i64T k) (hs : i64T s) (w : World) (C : TabC ads w) (h : lookT 1 e k s = (0, cellT 1 e k s)) (g : lookT 2 e k s = (0, cellT 2 e k s)) (h2 : cellT 1 e k s = cellT 2 e k s) (h1 : e = 1) (h3 : k ≠ 3) :
    Calls Tryd.prog 9 #[.int .i64 e, .int .i64 k, .int .i64 s] w fun e' w' => e' = .returned (.bool true) ∧ Kp w w' := by
  have HA := Lib.hid (fun w1 (hk : Kp w w1) => alive10_any ads w1 (TabC.kp C hk))
  have H1 := fun w1 (hk : Kp w w1) => C.look w1 hk 1 e k s (by decide) he hk0 hs
  have H2 := fun w1 (hk : Kp w w1) => C.look w1 hk 2 e k s (by decide) he hk0 hs
  rw [h, h2] at H1
  rw [g] at H2
  obtain ⟨⟨y0, y1, y2⟩, hy⟩ : ∃ c, cellT 2 e k s = c := ⟨_, rfl⟩
  rw [hy] at H1 H2
  simp only [errI_nil, cellV] at H1 H2
  have hq := tcell_eql y0 y1 y2 y0 y1 y2
  have hg := fun (op : BinOp) (x y : Operand) (w : World) => tcell_guard op x y y0 y1 y2 y0 y1 y2 w
  simp only [and_self, decide_true] at hq
  have H1 := Lib.hid H1
  have H2 := Lib.hid H2
  clear C he hk0 hs h g h2 hy
  subst h1
  have b1 : (k == 3) = false := by simpa using h3
  go_enter Tryd.func9, Tryd.ntmps9
  go_wp2_with (first
    | (go_at_call 10; (with_reducible refine (HA.out _ (Kp.refl _)).mono ?_); rintro e' w1 ⟨rfl, hk⟩; have K1 := Lib.hid hk; clear hk)
    | (go_at_call 11; (with_reducible refine (H1.out _ K1.out).mono ?_); rintro e' w2 ⟨rfl, hk⟩; have K2 := Lib.hid (Kp.trans K1.out (Kp.trans hk (kp_alloc w2 (.cells #[.int .i64 y0, .int .i64 y1, .int .i64 y2] 26)))); have A2 := Lib.hid (MapKept.heap_alloc w2 (.cells #[.int .i64 y0, .int .i64 y1, .int .i64 y2] 26)).1; clear hk)
    | (go_at_call 11; (with_reducible refine (H2.out _ K2.out).mono ?_); rintro e' w3 ⟨rfl, hk⟩; have K3 := Lib.hid (Kp.trans K2.out (Kp.trans hk (kp_alloc w3 (.cells #[.int .i64 y0, .int .i64 y1, .int .i64 y2] 26)))); have A3 := kp_row (Kp.trans hk (kp_alloc w3 (.cells #[.int .i64 y0, .int .i64 y1, .int .i64 y2] 26))) A2.out; obtain ⟨a0, a1, a2⟩ := cells3 A3; clear hk))
  go_ret
  exact ⟨by first | rfl | simp, K3.out⟩
set_option maxRecDepth 100000 in
theorem talike_s3 (ads : List Addr) (e k s : Int) (he : i64T e) (hk0 : i64T k) (hs : i64T s) (w : World) (C : TabC ads w) (h : lookT 1 e k s = (0, cellT 1 e k s)) (g : lookT 2 e k s = (0, cellT 2 e k s)) (h2 : cellT 1 e k s = cellT 2 e k s) (h1 : e = 1) (h3 : k = 3) (h5 : s ≠ 1) (h6 : s ≠ 2) :
    Calls Tryd.prog 9 #[.int .i64 e, .int .i64 k, .int .i64 s] w fun e' w' => e' = .returned (.bool true) ∧ Kp w w' := by
  have HA := Lib.hid (fun w1 (hk : Kp w w1) => alive10_any ads w1 (TabC.kp C hk))
  have H1 := fun w1 (hk : Kp w w1) => C.look w1 hk 1 e k s (by decide) he hk0 hs
  have H2 := fun w1 (hk : Kp w w1) => C.look w1 hk 2 e k s (by decide) he hk0 hs
  rw [h, h2] at H1
  rw [g] at H2
  obtain ⟨⟨y0, y1, y2⟩, hy⟩ : ∃ c, cellT 2 e k s = c := ⟨_, rfl⟩
  rw [hy] at H1 H2
  simp only [errI_nil, cellV] at H1 H2
  have hq := tcell_eql y0 y1 y2 y0 y1 y2
  have hg := fun (op : BinOp) (x y : Operand) (w : World) => tcell_guard op x y y0 y1 y2 y0 y1 y2 w
  simp only [and_self, decide_true] at hq
  have H1 := Lib.hid H1
  have H2 := Lib.hid H2
  clear C he hk0 hs h g h2 hy
  subst h1
  subst h3
  have b1 : (s == 1) = false := by simpa using h5
  have b2 : (s == 2) = false := by simpa using h6
  go_enter Tryd.func9, Tryd.ntmps9
  go_wp2_with (first
    | (go_at_call 10; (with_reducible refine (HA.out _ (Kp.refl _)).mono ?_); rintro e' w1 ⟨rfl, hk⟩; have K1 := Lib.hid hk; clear hk)
    | (go_at_call 11; (with_reducible refine (H1.out _ K1.out).mono ?_); rintro e' w2 ⟨rfl, hk⟩; have K2 := Lib.hid (Kp.trans K1.out (Kp.trans hk (kp_alloc w2 (.cells #[.int .i64 y0, .int .i64 y1, .int .i64 y2] 26)))); have A2 := Lib.hid (MapKept.heap_alloc w2 (.cells #[.int .i64 y0, .int .i64 y1, .int .i64 y2] 26)).1; clear hk)
    | (go_at_call 11; (with_reducible refine (H2.out _ K2.out).mono ?_); rintro e' w3 ⟨rfl, hk⟩; have K3 := Lib.hid (Kp.trans K2.out (Kp.trans hk (kp_alloc w3 (.cells #[.int .i64 y0, .int .i64 y1, .int .i64 y2] 26)))); have A3 := kp_row (Kp.trans hk (kp_alloc w3 (.cells #[.int .i64 y0, .int .i64 y1, .int .i64 y2] 26))) A2.out; obtain ⟨a0, a1, a2⟩ := cells3 A3; clear hk))
  go_ret
  exact ⟨by first | rfl | simp, K3.out⟩
theorem talike_any (ads : List Addr) (e k s : Int) (he : i64T e) (hk0 : i64T k) (hs : i64T s) (w : World) (C : TabC ads w) :
    Calls Tryd.prog 9 #[.int .i64 e, .int .i64 k, .int .i64 s] w fun e' w' => e' = .returned (.bool true) ∧ Kp w w' := by
  by_cases h : (lookT 1 e k s).1 = 0
  · obtain ⟨_, m1, m2, m3, l1, l2⟩ := alike_nums h
    obtain ⟨c1, c2⟩ := alike_cells e m1 k m2 s m3
    by_cases h1 : e = 1 ∧ k = 3 ∧ (s = 1 ∨ s = 2)
    · exact talike_odd ads e k s he hk0 hs w C l1 l2 h1 (c1 h1).1 (c1 h1).2
    · by_cases g1 : e = 1
      · by_cases g2 : k = 3
        · exact talike_s3 ads e k s he hk0 hs w C l1 l2 (c2 h1) g1 g2 (fun q => h1 ⟨g1, g2, .inl q⟩) (fun q => h1 ⟨g1, g2, .inr q⟩)
        · exact talike_s2 ads e k s he hk0 hs w C l1 l2 (c2 h1) g1 g2
      · exact talike_s1 ads e k s he hk0 hs w C l1 l2 (c2 h1) g1
  · exact talike_err ads e k s he hk0 hs w C h
end Go.Proofs.YtoeidlhcioponaaDoor
