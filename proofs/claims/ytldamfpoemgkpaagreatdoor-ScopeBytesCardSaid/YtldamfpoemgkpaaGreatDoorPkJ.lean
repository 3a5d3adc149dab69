/-
  PACKAGE scope ANSWERS SO (own work): ScoC out of the landed code.
-/
import Derived.Test.YtldamfpoemgkpaaGreatDoorPkH
import Derived.Test.YtldamfpoemgkpaaGreatDoorPkD

namespace Go.Proofs.YtldamfpoemgkpaaGreatDoor
open Go.RowKit Go.ChangeShapes Go.WideShapes

/-- a sum of two times: its plain form is the sum of their plain forms -/
theorem later9 {t l : Nat} (h4 : Fl.dl t = true) (h5 : Fl.dl l = true) : ∃ r, Ieee.double.add t l = some r ∧ r < 18446744073709551616 ∧ Fl.plain r = (Ieee.double.add (Fl.plain t) (Fl.plain l)).getD 0 := by
  have nz : Ieee.double.read 9223372036854775808 = .number true 0 (-1074) := by kernel_rfl
  have pz : Fl.plain 9223372036854775808 = 0 := by decide +kernel
  have zl : ∀ b : Nat, b < 9218868437227405312 → Ieee.double.add 9223372036854775808 b = Ieee.double.add 0 b ∧ Ieee.double.add b 9223372036854775808 = Ieee.double.add b 0 := by
    intro b hb
    unfold Ieee.Format.add
    rw [nz, Fl.read_pos_fin hb, show Ieee.double.read 0 = .number false 0 (-1074) by kernel_rfl]
    constructor <;> simp [Ieee.Datum.sum, Ieee.signed]
  have fin : ∀ a b : Nat, a ≤ 9218868437227405312 → b ≤ 9218868437227405312 → ∃ r, Ieee.double.add a b = some r ∧ r < 18446744073709551616 ∧ Fl.plain r = (Ieee.double.add a b).getD 0 := by
    intro a b ha hb
    obtain ⟨r, h1, h2⟩ := add_le9 ha hb
    exact ⟨r, h1, by omega, by rw [h1, (Fl.dl_of_le h2).2.2]; rfl⟩
  rcases (Fl.dl_plain h4).2 with ga | rfl <;> rcases (Fl.dl_plain h5).2 with gb | rfl
  · rw [(Fl.dl_of_le ga).2.2, (Fl.dl_of_le gb).2.2]; exact fin t l ga gb
  · rw [(Fl.dl_of_le ga).2.2, pz]
    rcases Nat.lt_or_eq_of_le ga with g | rfl
    · rw [(zl t g).2]; exact fin t 0 ga (by omega)
    · exact ⟨9218868437227405312, by kernel_rfl, by decide, by decide +kernel⟩
  · rw [(Fl.dl_of_le gb).2.2, pz]
    rcases Nat.lt_or_eq_of_le gb with g | rfl
    · rw [(zl l g).1]; exact fin 0 l (by omega) gb
    · exact ⟨9218868437227405312, by kernel_rfl, by decide, by decide +kernel⟩
  · rw [pz]
    exact ⟨9223372036854775808, by kernel_rfl, by decide, by decide +kernel⟩
theorem boxes5 (w : World) (o0 o1 o2 o3 o4 : Obj) : ∃ w', w' = ((((w.alloc o0).alloc o1).alloc o2).alloc o3).alloc o4 ∧ Kp w w' ∧ w'.heap[w.heap.size]? = some o0 ∧ w'.heap[w.heap.size + 1]? = some o1 ∧ w'.heap[w.heap.size + 1 + 1]? = some o2 ∧ w'.heap[w.heap.size + 1 + 1 + 1]? = some o3 ∧ w'.heap[w.heap.size + 1 + 1 + 1 + 1]? = some o4 := by
  have k0 := kp_alloc w o0
  have k1 := kp_alloc (w.alloc o0) o1
  have k2 := kp_alloc ((w.alloc o0).alloc o1) o2
  have k3 := kp_alloc (((w.alloc o0).alloc o1).alloc o2) o3
  have k4 := kp_alloc ((((w.alloc o0).alloc o1).alloc o2).alloc o3) o4
  have r0 := (MapKept.heap_alloc w o0).1
  have r1 := (MapKept.heap_alloc (w.alloc o0) o1).1
  have r2 := (MapKept.heap_alloc ((w.alloc o0).alloc o1) o2).1
  have r3 := (MapKept.heap_alloc (((w.alloc o0).alloc o1).alloc o2) o3).1
  have r4 := (MapKept.heap_alloc ((((w.alloc o0).alloc o1).alloc o2).alloc o3) o4).1
  have s1 : (w.alloc o0).heap.size = w.heap.size + 1 := by simp
  have s2 : ((w.alloc o0).alloc o1).heap.size = w.heap.size + 1 + 1 := by simp
  have s3 : (((w.alloc o0).alloc o1).alloc o2).heap.size = w.heap.size + 1 + 1 + 1 := by simp
  have s4 : ((((w.alloc o0).alloc o1).alloc o2).alloc o3).heap.size = w.heap.size + 1 + 1 + 1 + 1 := by simp
  rw [s1] at r1
  rw [s2] at r2
  rw [s3] at r3
  rw [s4] at r4
  exact ⟨_, rfl, Kp.trans k0 (Kp.trans k1 (Kp.trans k2 (Kp.trans k3 k4))), kp_row (Kp.trans k1 (Kp.trans k2 (Kp.trans k3 k4))) r0, kp_row (Kp.trans k2 (Kp.trans k3 k4)) r1, kp_row (Kp.trans k3 k4) r2, kp_row k4 r3, r4⟩
theorem boxes4 (w : World) (o0 o1 o2 o3 : Obj) : ∃ w', w' = (((w.alloc o0).alloc o1).alloc o2).alloc o3 ∧ Kp w w' ∧ w'.heap[w.heap.size]? = some o0 ∧ w'.heap[w.heap.size + 1]? = some o1 ∧ w'.heap[w.heap.size + 1 + 1]? = some o2 ∧ w'.heap[w.heap.size + 1 + 1 + 1]? = some o3 := by
  have k0 := kp_alloc w o0
  have k1 := kp_alloc (w.alloc o0) o1
  have k2 := kp_alloc ((w.alloc o0).alloc o1) o2
  have k3 := kp_alloc (((w.alloc o0).alloc o1).alloc o2) o3
  have r0 := (MapKept.heap_alloc w o0).1
  have r1 := (MapKept.heap_alloc (w.alloc o0) o1).1
  have r2 := (MapKept.heap_alloc ((w.alloc o0).alloc o1) o2).1
  have r3 := (MapKept.heap_alloc (((w.alloc o0).alloc o1).alloc o2) o3).1
  have s1 : (w.alloc o0).heap.size = w.heap.size + 1 := by simp
  have s2 : ((w.alloc o0).alloc o1).heap.size = w.heap.size + 1 + 1 := by simp
  have s3 : (((w.alloc o0).alloc o1).alloc o2).heap.size = w.heap.size + 1 + 1 + 1 := by simp
  rw [s1] at r1
  rw [s2] at r2
  rw [s3] at r3
  exact ⟨_, rfl, Kp.trans k0 (Kp.trans k1 (Kp.trans k2 k3)), kp_row (Kp.trans k1 (Kp.trans k2 k3)) r0, kp_row (Kp.trans k2 k3) r1, kp_row k3 r2, r3⟩
theorem one_cell {b : Nat} {t : TypeId} {w : World} {x : Value} (h : w.heap[b]? = some (.cells #[x] t (0, 0))) : w.cell? ⟨b, 0, none⟩ = some x := by unfold World.cell?; dsimp only; rw [h]; rfl
set_option maxRecDepth 100000 in
set_option maxHeartbeats 2000000 in
theorem snew1_range (ads : List Addr) (h3 : 3 < ads.length) (A : Nat) (p1 p2 p3 : Addr) (an aw oc : Int) (t l : Nat) (w : World) (V : St ads w) (T : Tab w) (ha : w.heap[A]? = some (.cells #[.int .i64 an, .int .i64 aw] 23 (0, 0))) (h1 : w.cell? p1 = some (.int .i64 oc)) (h2 : w.cell? p2 = some (.float .f64 t)) (h3' : w.cell? p3 = some (.float .f64 l)) (hr : rightA an aw = false) :
    Calls Tryz.prog 44 #[.pointer (some ⟨A, 0, none⟩), .pointer (some p1), .pointer (some p2), .pointer (some p3)] w fun e w' => e = .panicked [{ v := snt (ads[0]'(by omega)), recovered := false }] ∧ Kp w w' := by
  have kb := kp_alloc w (.cells #[.int .i64 0, .int .i64 0, .int .i64 0, .int .i64 0, .float .f64 0] 26)
  have HA := fun w1 (hk : Kp w w1) => sact_range ads h3 an aw oc w1 (V.below hk) (T.kp hk) hr
  obtain ⟨a0, ha0⟩ : ∃ a, ads[0]'(by omega) = a := ⟨_, rfl⟩
  simp only [ha0] at HA
  rw [ha0]
  clear ha0
  have rA := kp_row kb ha
  have q1 := kp_cell kb h1
  have q2 := kp_cell kb h2
  have q3 := kp_cell kb h3'
  have HZ := Lib.hid (MapKept.heap_alloc w (.cells #[.int .i64 0, .int .i64 0, .int .i64 0, .int .i64 0, .float .f64 0] 26)).1
  obtain ⟨d0, d1⟩ := two_cells rA
  have RA := Lib.hid rA
  have Q1 := Lib.hid q1
  have Q2 := Lib.hid q2
  have Q3 := Lib.hid q3
  have HA := Lib.hid HA
  have K0 := Lib.hid kb
  clear V T ha h1 h2 h3' rA kb
  go_enter Tryz.func44, Tryz.ntmps44
  go_wp2_with (first
    | (go_at_call 45; (with_reducible refine (HA.out _ K0.out).mono ?_); rintro e w1 ⟨rfl, hk⟩; have K1 := Lib.hid (Kp.trans K0.out hk); clear hk))
  exact ⟨rfl, rfl, K1.out⟩
set_option maxRecDepth 100000 in
set_option maxHeartbeats 2000000 in
theorem snew1_form (ads : List Addr) (h3 : 3 < ads.length) (A : Nat) (p1 p2 p3 : Addr) (an aw oc : Int) (t l : Nat) (w : World) (V : St ads w) (T : Tab w) (ha : w.heap[A]? = some (.cells #[.int .i64 an, .int .i64 aw] 23 (0, 0))) (h1 : w.cell? p1 = some (.int .i64 oc)) (h2 : w.cell? p2 = some (.float .f64 t)) (h3' : w.cell? p3 = some (.float .f64 l)) (hr : rightA an aw = true) (ho : outX oc = false) :
    Calls Tryz.prog 44 #[.pointer (some ⟨A, 0, none⟩), .pointer (some p1), .pointer (some p2), .pointer (some p3)] w fun e w' => e = .panicked [{ v := snt (ads[3]'h3), recovered := false }] ∧ Kp w w' := by
  have kb := kp_alloc w (.cells #[.int .i64 0, .int .i64 0, .int .i64 0, .int .i64 0, .float .f64 0] 26)
  have HA := fun w1 (hk : Kp w w1) => sact_form ads h3 an aw oc w1 (V.below hk) (T.kp hk) hr ho
  obtain ⟨a3, ha3⟩ : ∃ a, ads[3]'h3 = a := ⟨_, rfl⟩
  simp only [ha3] at HA
  rw [ha3]
  clear ha3
  have rA := kp_row kb ha
  have q1 := kp_cell kb h1
  have q2 := kp_cell kb h2
  have q3 := kp_cell kb h3'
  have HZ := Lib.hid (MapKept.heap_alloc w (.cells #[.int .i64 0, .int .i64 0, .int .i64 0, .int .i64 0, .float .f64 0] 26)).1
  obtain ⟨d0, d1⟩ := two_cells rA
  have RA := Lib.hid rA
  have Q1 := Lib.hid q1
  have Q2 := Lib.hid q2
  have Q3 := Lib.hid q3
  have HA := Lib.hid HA
  have K0 := Lib.hid kb
  clear V T ha h1 h2 h3' rA kb
  go_enter Tryz.func44, Tryz.ntmps44
  go_wp2_with (first
    | (go_at_call 45; (with_reducible refine (HA.out _ K0.out).mono ?_); rintro e w1 ⟨rfl, hk⟩; have K1 := Lib.hid (Kp.trans K0.out hk); clear hk))
  exact ⟨rfl, rfl, K1.out⟩
set_option maxRecDepth 100000 in
set_option maxHeartbeats 2000000 in
theorem snew1_time (ads : List Addr) (h3 : 3 < ads.length) (A : Nat) (p1 p2 p3 : Addr) (an aw oc : Int) (t l : Nat) (w : World) (V : St ads w) (T : Tab w) (ha : w.heap[A]? = some (.cells #[.int .i64 an, .int .i64 aw] 23 (0, 0))) (h1 : w.cell? p1 = some (.int .i64 oc)) (h2 : w.cell? p2 = some (.float .f64 t)) (h3' : w.cell? p3 = some (.float .f64 l)) (ht : t < 18446744073709551616) (hl : l < 18446744073709551616) (hr : rightA an aw = true) (ho : outX oc = true) (hd : Fl.dl t = false ∨ Fl.dl l = false) :
    Calls Tryz.prog 44 #[.pointer (some ⟨A, 0, none⟩), .pointer (some p1), .pointer (some p2), .pointer (some p3)] w fun e w' => e = .panicked [{ v := snt (ads[3]'h3), recovered := false }] ∧ Kp w w' := by
  have kb := kp_alloc w (.cells #[.int .i64 0, .int .i64 0, .int .i64 0, .int .i64 0, .float .f64 0] 26)
  have HA := fun w1 (hk : Kp w w1) => sact_ok ads h3 an aw oc w1 (V.below hk) (T.kp hk) hr ho
  have c3 : w.cell? ⟨0, 0, none⟩ = some (snt (ads[3]'h3)) := V.cell 3 (by decide)
  obtain ⟨a3, ha3⟩ : ∃ a, ads[3]'h3 = a := ⟨_, rfl⟩
  rw [ha3] at c3 ⊢
  have CE := Lib.hid c3
  have HL := Lib.hid (fun (w1 : World) (hc : w1.cell? ⟨0, 0, none⟩ = some (snt a3)) => later_err t l (snt a3) w1 ht hl hd hc)
  clear c3 ha3
  have rA := kp_row kb ha
  have q1 := kp_cell kb h1
  have q2 := kp_cell kb h2
  have q3 := kp_cell kb h3'
  have HZ := Lib.hid (MapKept.heap_alloc w (.cells #[.int .i64 0, .int .i64 0, .int .i64 0, .int .i64 0, .float .f64 0] 26)).1
  obtain ⟨d0, d1⟩ := two_cells rA
  have RA := Lib.hid rA
  have Q1 := Lib.hid q1
  have Q2 := Lib.hid q2
  have Q3 := Lib.hid q3
  have HA := Lib.hid HA
  have K0 := Lib.hid kb
  clear V T ha h1 h2 h3' rA kb
  go_enter Tryz.func44, Tryz.ntmps44
  go_wp2_with (first
    | (go_at_call 45; (with_reducible refine (HA.out _ K0.out).mono ?_); rintro e w1 ⟨rfl, hk⟩; have K1 := Lib.hid (Kp.trans K0.out hk); have r1 := kp_row hk RA.out; have z1 := kp_cell hk Q1.out; have z2 := kp_cell hk Q2.out; have z3 := kp_cell hk Q3.out; obtain ⟨g0, g1⟩ := two_cells r1; have HZ1 := Lib.hid (kp_row hk HZ.out); have y3 := kp_cell K1.out CE.out; clear hk r1)
    | (go_at_call 46; (with_reducible refine (HL.out _ (by assumption)).mono ?_); rintro e w2 ⟨rfl, hk⟩; have K2 := Lib.hid (Kp.trans K1.out hk); clear hk)
    | (go_at_call 35; (with_reducible refine (must_f64_f _ _ _).mono ?_); rintro e w' ⟨rfl, rfl⟩))
  exact ⟨rfl, rfl, K2.out⟩
set_option maxRecDepth 100000 in
set_option maxHeartbeats 2000000 in
theorem snew1_ok (ads : List Addr) (h3 : 3 < ads.length) (A : Nat) (p1 p2 p3 : Addr) (an aw oc : Int) (t l : Nat) (w : World) (V : St ads w) (T : Tab w) (ha : w.heap[A]? = some (.cells #[.int .i64 an, .int .i64 aw] 23 (0, 0))) (h1 : w.cell? p1 = some (.int .i64 oc)) (h2 : w.cell? p2 = some (.float .f64 t)) (h3' : w.cell? p3 = some (.float .f64 l)) (hr : rightA an aw = true) (ho : outX oc = true) (hd : Fl.dl t = true) (hd2 : Fl.dl l = true) (r : Nat) (hr0 : r < 18446744073709551616) (hadd : Ieee.double.add t l = some r) :
    Calls Tryz.prog 44 #[.pointer (some ⟨A, 0, none⟩), .pointer (some p1), .pointer (some p2), .pointer (some p3)] w fun e w' => e = .returned (.agg #[.int .i64 an, .int .i64 aw, .int .i64 oc, .int .i64 0, .float .f64 (Fl.plain r)]) ∧ Kp w w' := by
  have kb := kp_alloc w (.cells #[.int .i64 0, .int .i64 0, .int .i64 0, .int .i64 0, .float .f64 0] 26)
  have HA := fun w1 (hk : Kp w w1) => sact_ok ads h3 an aw oc w1 (V.below hk) (T.kp hk) hr ho
  have c3 : w.cell? ⟨0, 0, none⟩ = some (snt (ads[3]'h3)) := V.cell 3 (by decide)
  have CE := Lib.hid c3
  have HL := Lib.hid (fun w1 => later_ok t l r w1 hd hd2 hadd)
  have HP := Lib.hid (fun w1 => plain_any r w1 hr0)
  have hsf := store_fl
  have D0 := Lib.hid (two_cells ha).1
  have D1 := Lib.hid (two_cells ha).2
  have D2 := Lib.hid h1
  clear c3
  have rA := kp_row kb ha
  have q1 := kp_cell kb h1
  have q2 := kp_cell kb h2
  have q3 := kp_cell kb h3'
  have HZ := Lib.hid (MapKept.heap_alloc w (.cells #[.int .i64 0, .int .i64 0, .int .i64 0, .int .i64 0, .float .f64 0] 26)).1
  obtain ⟨d0, d1⟩ := two_cells rA
  have RA := Lib.hid rA
  have Q1 := Lib.hid q1
  have Q2 := Lib.hid q2
  have Q3 := Lib.hid q3
  have HA := Lib.hid HA
  have K0 := Lib.hid kb
  clear V T ha h1 h2 h3' rA kb
  go_enter Tryz.func44, Tryz.ntmps44
  go_wp2_with (first
    | (go_at_call 45; (with_reducible refine (HA.out _ K0.out).mono ?_); rintro e w1 ⟨rfl, hk⟩; have K1 := Lib.hid (Kp.trans K0.out hk); have r1 := kp_row hk RA.out; have z1 := kp_cell hk Q1.out; have z2 := kp_cell hk Q2.out; have z3 := kp_cell hk Q3.out; obtain ⟨g0, g1⟩ := two_cells r1; have HZ1 := Lib.hid (kp_row hk HZ.out); have y3 := kp_cell K1.out CE.out; clear hk r1)
    | (go_at_call 46; (with_reducible refine (HL.out _).mono ?_); rintro e w' ⟨rfl, rfl⟩)
    | (go_at_call 35; (with_reducible refine (must_f64_t _ _).mono ?_); rintro e w' ⟨rfl, rfl⟩))
  obtain ⟨b0, b1, b2, b3, b4⟩ := cells5 (HZ1.out)
  have fz := froz5 HZ1.out
  refine wp_region_held_drew (S := fun w' => Kp w w') (by kernel_rfl) ?_ (fun hHeld => ?_)
  · exact K1.out.drew
  refine wpAnyH_take (i := 0) (v := ?_) rfl (by kernel_rfl) (by kernel_rfl) (by kernel_rfl) (fun _ _ _ h => h) (Or.inl ⟨by rfl, ?_⟩) (by assumption) ?_
  rotate_left
  · intro w hSw; have u0 := kp_cell hSw D0.out; have u1 := kp_cell hSw D1.out; go_simp; try with_reducible rfl
  go_simp
  refine wpAnyH_take (i := 1) (v := ?_) rfl (by kernel_rfl) (by kernel_rfl) (by kernel_rfl) (fun _ _ _ h => h) (Or.inl ⟨by rfl, ?_⟩) (by assumption) ?_
  rotate_left
  · intro w hSw; have u0 := kp_cell hSw D2.out; go_simp; try with_reducible rfl
  go_simp
  refine wpAnyH_take (i := 2) (v := ?_) rfl (by kernel_rfl) (by kernel_rfl) (by kernel_rfl) (fun _ _ _ h => h) (Or.inl ⟨by rfl, ?_⟩) (by assumption) ?_
  rotate_left
  · intro w hSw; go_simp; try with_reducible rfl
  go_simp
  refine wpAnyH_ready (rs := [3]) (by kernel_rfl) (by simp) ?_
  refine AllReadyH.cons rfl (fun K hK => ?_) AllReadyH.nil
  go_simp
  go_wp2_with (go_at_call 47; (with_reducible refine (HP.out _).mono ?_); rintro e w' ⟨rfl, rfl⟩)
  refine hK.out _ _ ?_ (fun hHeld => ?_)
  · exact hHeld
  clear hK K
  refine wpAnyH_take (i := 4) (v := ?_) rfl (by kernel_rfl) (by kernel_rfl) (by kernel_rfl) (fun _ _ _ h => h) (Or.inl ⟨by rfl, ?_⟩) (by assumption) ?_
  rotate_left
  · intro w hSw; go_simp; try with_reducible rfl
  go_simp
  refine wpAnyH_ready (rs := [5]) (by kernel_rfl) (by simp) ?_
  refine AllReadyH.cons rfl (fun K hK => ?_) AllReadyH.nil
  go_simp
  refine hK.out _ _ ?_ (fun hHeld => ?_)
  · exact set5_kp K1.out.drew (Nat.le_refl _) _ _ _ _ _
  clear hK K
  refine wpAnyH_done (by kernel_rfl) ?_ _
  go_wp2
  have hz5 := set5 (.int .i64 an) (.int .i64 aw) (.int .i64 oc) (.int .i64 0) (.float .f64 (Fl.plain r)) HZ1.out
  refine bodyPost_ret (results_cell_row (p := 4) rfl _ _ w.heap.size 26 _ (0, 0) _ rfl hz5 Tryz.underlying26 rfl (by kernel_rfl)) rfl ?_
  exact ⟨rfl, set5_kp K1.out.drew (Nat.le_refl _) _ _ _ _ _⟩
set_option maxRecDepth 100000 in
set_option maxHeartbeats 2000000 in
theorem snew_val (an aw oc : Int) (t l : Nat) (w : World) (y0 y1 y2 y3 : Int) (y4 : Nat)
    (H : ∀ w1, Kp w w1 → w1.heap[w.heap.size]? = some (.cells #[.int .i64 an, .int .i64 aw] 23) → w1.cell? ⟨w.heap.size + 1, 0, none⟩ = some (.int .i64 oc) → w1.cell? ⟨w.heap.size + 1 + 1, 0, none⟩ = some (.float .f64 t) → w1.cell? ⟨w.heap.size + 1 + 1 + 1, 0, none⟩ = some (.float .f64 l) → Calls Tryz.prog 44 #[.pointer (some ⟨w.heap.size, 0, none⟩), .pointer (some ⟨w.heap.size + 1, 0, none⟩), .pointer (some ⟨w.heap.size + 1 + 1, 0, none⟩), .pointer (some ⟨w.heap.size + 1 + 1 + 1, 0, none⟩)] w1 fun e w' => e = .returned (.agg #[.int .i64 y0, .int .i64 y1, .int .i64 y2, .int .i64 y3, .float .f64 y4]) ∧ Kp w1 w') :
    Calls Tryz.prog 13 #[(.agg #[.int .i64 an, .int .i64 aw]), .int .i64 oc, .float .f64 t, .float .f64 l] w fun e w' => e = .returned (.tuple #[.agg #[.int .i64 y0, .int .i64 y1, .int .i64 y2, .int .i64 y3, .float .f64 y4], .nilIface]) ∧ Kp w w' := by
  have hmf : ∀ (fn : Fn) (first cap : Array Value) (w : World), (Instr.makeFunc fn first cap).run Tryz.prog w = .ok (.func fn first cap) w := fun _ _ _ _ => rfl
  have hsf := store_fl
  obtain ⟨W, hW, kb, r0, r1, r2, r3, r4⟩ := boxes5 w (.cells #[.int .i64 an, .int .i64 aw] 23) (.cells #[.int .i64 oc] 3) (.cells #[.float .f64 t] 24) (.cells #[.float .f64 l] 24) (.cells #[.int .i64 0, .int .i64 0, .int .i64 0, .int .i64 0, .float .f64 0] 26)
  have HT := Lib.hid (try_ctx_val 44 #[.pointer (some ⟨w.heap.size, 0, none⟩), .pointer (some ⟨w.heap.size + 1, 0, none⟩), .pointer (some ⟨w.heap.size + 1 + 1, 0, none⟩), .pointer (some ⟨w.heap.size + 1 + 1 + 1, 0, none⟩)] y0 y1 y2 y3 y4 W (by intro w; simp [go_sem]) fun w1 hk => H w1 (Kp.trans kb hk) (kp_row hk r0) (one_cell (kp_row hk r1)) (one_cell (kp_row hk r2)) (one_cell (kp_row hk r3)))
  have KB := Lib.hid kb
  have HZ := Lib.hid r4
  clear H kb r0 r1 r2 r3 r4
  rw [hW] at HT KB HZ
  clear hW
  go_enter Tryz.func13, Tryz.ntmps13
  go_wp2_with (go_at_call 30; (with_reducible refine HT.out.mono ?_); rintro e w5 ⟨rfl, hk⟩; have HK := Lib.hid hk; have HR := Lib.hid (kp_row hk HZ.out); obtain ⟨b0, b1, b2, b3, b4⟩ := cells5 (HR.out); have fz := froz5 HR.out; clear hk)
  have hz5 := set5 (.int .i64 y0) (.int .i64 y1) (.int .i64 y2) (.int .i64 y3) (.float .f64 y4) HR.out
  refine bodyPost_ret (results_row_tmp9 (p := 8) (u := 9) rfl _ _ (w.heap.size + 1 + 1 + 1 + 1) 26 _ (0, 0) _ rfl hz5 Tryz.underlying26 rfl (by kernel_rfl)) rfl ?_
  exact ⟨rfl, set5_kp (Kp.trans KB.out HK.out) (by omega) _ _ _ _ _⟩
set_option maxRecDepth 100000 in
set_option maxHeartbeats 2000000 in
theorem snew_err (ads : List Addr) (an aw oc : Int) (t l : Nat) (w : World) (V : St ads w) (k : Nat) (hk : k < ads.length)
    (H : ∀ w1, Kp w w1 → w1.heap[w.heap.size]? = some (.cells #[.int .i64 an, .int .i64 aw] 23) → w1.cell? ⟨w.heap.size + 1, 0, none⟩ = some (.int .i64 oc) → w1.cell? ⟨w.heap.size + 1 + 1, 0, none⟩ = some (.float .f64 t) → w1.cell? ⟨w.heap.size + 1 + 1 + 1, 0, none⟩ = some (.float .f64 l) → Calls Tryz.prog 44 #[.pointer (some ⟨w.heap.size, 0, none⟩), .pointer (some ⟨w.heap.size + 1, 0, none⟩), .pointer (some ⟨w.heap.size + 1 + 1, 0, none⟩), .pointer (some ⟨w.heap.size + 1 + 1 + 1, 0, none⟩)] w1 fun e w' => e = .panicked [{ v := snt (ads[k]'hk), recovered := false }] ∧ Kp w1 w') :
    Calls Tryz.prog 13 #[(.agg #[.int .i64 an, .int .i64 aw]), .int .i64 oc, .float .f64 t, .float .f64 l] w fun e w' => e = .returned (.tuple #[.agg #[.int .i64 0, .int .i64 0, .int .i64 0, .int .i64 0, .float .f64 0], snt (ads[k]'hk)]) ∧ Kp w w' := by
  have hmf : ∀ (fn : Fn) (first cap : Array Value) (w : World), (Instr.makeFunc fn first cap).run Tryz.prog w = .ok (.func fn first cap) w := fun _ _ _ _ => rfl
  have hsf := store_fl
  obtain ⟨W, hW, kb, r0, r1, r2, r3, r4⟩ := boxes5 w (.cells #[.int .i64 an, .int .i64 aw] 23) (.cells #[.int .i64 oc] 3) (.cells #[.float .f64 t] 24) (.cells #[.float .f64 l] 24) (.cells #[.int .i64 0, .int .i64 0, .int .i64 0, .int .i64 0, .float .f64 0] 26)
  have HT := Lib.hid (try_ctx_err ads k hk 44 #[.pointer (some ⟨w.heap.size, 0, none⟩), .pointer (some ⟨w.heap.size + 1, 0, none⟩), .pointer (some ⟨w.heap.size + 1 + 1, 0, none⟩), .pointer (some ⟨w.heap.size + 1 + 1 + 1, 0, none⟩)] W (V.below kb) (by intro w; simp [go_sem]) fun w1 hk => H w1 (Kp.trans kb hk) (kp_row hk r0) (one_cell (kp_row hk r1)) (one_cell (kp_row hk r2)) (one_cell (kp_row hk r3)))
  have KB := Lib.hid kb
  have HZ := Lib.hid r4
  clear H kb r0 r1 r2 r3 r4
  rw [hW] at HT KB HZ
  clear hW
  go_enter Tryz.func13, Tryz.ntmps13
  go_wp2_with (go_at_call 30; (with_reducible refine HT.out.mono ?_); rintro e w5 ⟨rfl, hk⟩; have HK := Lib.hid hk; have HR := Lib.hid (kp_row hk HZ.out); obtain ⟨b0, b1, b2, b3, b4⟩ := cells5 (HR.out); have fz := froz5 HR.out; clear hk)
  have hz5 := set5 (.int .i64 0) (.int .i64 0) (.int .i64 0) (.int .i64 0) (.float .f64 0) HR.out
  refine bodyPost_ret (results_row_tmp9 (p := 8) (u := 9) rfl _ _ (w.heap.size + 1 + 1 + 1 + 1) 26 _ (0, 0) _ rfl hz5 Tryz.underlying26 rfl (by kernel_rfl)) rfl ?_
  exact ⟨rfl, set5_kp (Kp.trans KB.out HK.out) (by omega) _ _ _ _ _⟩
/-- WHAT New ANSWERS. -/
theorem scoNew_any (ads : List Addr) (an aw oc : Int) (t l : Nat) (ht : t < 18446744073709551616) (hl : l < 18446744073709551616) (w : World) (V : St ads w) (T : Tab w) :
    Calls Tryz.prog 13 #[.agg #[.int .i64 an, .int .i64 aw], .int .i64 oc, .float .f64 t, .float .f64 l] w fun e w' => e = .returned (.tuple #[.agg (newX an aw oc t l).2.cells, errI ads (newX an aw oc t l).1]) ∧ Kp w w' := by
  have h14 : ads.length = 14 := V.len
  have h3 : 3 < ads.length := by omega
  unfold newX
  cases hr : rightA an aw with
  | false =>
    rw [if_pos rfl]
    have h0 : 0 < ads.length := by omega
    have := snew_err ads an aw oc t l w V 0 h0 fun w1 hk ha h1 h2 h4 => snew1_range ads h3 _ _ _ _ an aw oc t l w1 (V.below hk) (T.kp hk) ha h1 h2 h4 hr
    rw [← errI_at ads 0 h0] at this
    exact this
  | true =>
    rw [if_neg (by decide)]
    cases ho : outX oc with
    | false =>
      rw [if_pos (.inl rfl)]
      have := snew_err ads an aw oc t l w V 3 h3 fun w1 hk ha h1 h2 h4 => snew1_form ads h3 _ _ _ _ an aw oc t l w1 (V.below hk) (T.kp hk) ha h1 h2 h4 hr ho
      rw [← errI_at ads 3 h3] at this
      exact this
    | true =>
      by_cases hd : Fl.dl t = false ∨ Fl.dl l = false
      · rw [if_pos (.inr hd)]
        have := snew_err ads an aw oc t l w V 3 h3 fun w1 hk ha h1 h2 h4 => snew1_time ads h3 _ _ _ _ an aw oc t l w1 (V.below hk) (T.kp hk) ha h1 h2 h4 ht hl hr ho hd
        rw [← errI_at ads 3 h3] at this
        exact this
      · rw [if_neg (by rintro (q | q); exact absurd q (by decide); exact hd q)]
        have d1 : Fl.dl t = true := by cases q : Fl.dl t with | true => rfl | false => exact absurd (.inl q) hd
        have d2 : Fl.dl l = true := by cases q : Fl.dl l with | true => rfl | false => exact absurd (.inr q) hd
        obtain ⟨r, hadd, h64, hp⟩ := later9 d1 d2
        rw [← hp, errI_nil]
        exact snew_val an aw oc t l w an aw oc 0 (Fl.plain r) fun w1 hk ha h1 h2 h4 => snew1_ok ads h3 _ _ _ _ an aw oc t l w1 (V.below hk) (T.kp hk) ha h1 h2 h4 hr ho d1 d2 r h64 hadd
end Go.Proofs.YtldamfpoemgkpaaGreatDoor

namespace Go.Proofs.YtldamfpoemgkpaaGreatDoor
open Go.RowKit Go.ChangeShapes Go.WideShapes

theorem scoC_of (ads : List Addr) (W : World) (V : St ads W) (T : Tab W) : ScoC ads W where
  right := fun w1 hk c hc => scoRight_any ads c hc w1 (V.below hk) (T.kp hk)
  new := fun w1 hk an aw oc t l ht hl => scoNew_any ads an aw oc t l ht hl w1 (V.below hk) (T.kp hk)
  opn := fun w1 hk c t hc ht => scoOpen_any ads c t hc ht w1 (V.below hk) (T.kp hk)
  same := fun w1 _ a b ha hb => scoSame_any a b ha hb w1
end Go.Proofs.YtldamfpoemgkpaaGreatDoor

