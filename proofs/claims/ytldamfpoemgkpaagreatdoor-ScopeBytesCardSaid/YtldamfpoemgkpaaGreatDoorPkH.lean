/-
  PACKAGE scope (own work): demand, isOutcome, isPlainTime, demandActivity, Right, Open, Same; catch.Must at float64.
-/
import Derived.Test.YtldamfpoemgkpaaGreatDoorPkC
import Derived.Test.YtldamfpoemgkpaaGreatDoorPkA
import Derived.Test.YtldamfpoemgkpaaGreatDoorPkB
import Derived.Test.YtldamfpoemgkpaaGreatDoorPkG
import Derived.Deep.RegionHeld3
import Derived.Laws.StructEq

namespace Go.Proofs.YtldamfpoemgkpaaGreatDoor
open Go.RowKit Go.ChangeShapes Go.WideShapes

theorem results_row_tmp9 {P : Program} {fn : Func} {p u : Tmp} {ty : TypeId} (h : fn.results = #[.cell p ty, .tmp u]) (tmps : Array Value) (w : World) (g : Nat) (t : TypeId) (cs : Array Value) (fr : Nat × Nat) (d : TypeDesc)
    (hp : tmps.getD p undef = .pointer (some ⟨g, 0, none⟩)) (hg : w.heap[g]? = some (.cells cs t fr))
    (hu : P.underlying ty = some d) (hd : (match d with | .struct _ | .array _ _ => true | _ => false) = true) (hi : (P.info? ty).map (·.size) = some cs.size) :
    (results fn tmps).run P w = .ok (.tuple #[.agg cs, tmps.getD u undef]) w := by
  have hp' : tmps[p]?.getD undef = .pointer (some ⟨g, 0, none⟩) := by simpa using hp
  simp [results, h, hp', asAddr, run_loadVar_row w g t ty cs fr d hg hu hd hi]
theorem new1_9 (w : World) (o o' : Obj) : ((w.alloc o).alloc o').heap[w.heap.size + 1]? = some o' := new5_1 w o o'
theorem new2_9 (w : World) (o o' o'' : Obj) : (((w.alloc o).alloc o').alloc o'').heap[w.heap.size + 1 + 1]? = some o'' := by
  have := (MapKept.heap_alloc ((w.alloc o).alloc o') o'').1
  simpa using this
theorem two9_0 {w : World} {b : Nat} {x y : Value} {t : TypeId} {f : Nat × Nat} (h : w.heap[b]? = some (.cells #[x, y] t f)) : w.cell? ⟨b, 0, none⟩ = some x := by
  unfold World.cell?; dsimp only; rw [h]; rfl
theorem two9_1 {w : World} {b : Nat} {x y : Value} {t : TypeId} {f : Nat × Nat} (h : w.heap[b]? = some (.cells #[x, y] t f)) : w.cell? ⟨b, 1, none⟩ = some y := by
  unfold World.cell?; dsimp only; rw [h]; rfl
end Go.Proofs.YtldamfpoemgkpaaGreatDoor

namespace Go.Proofs.YtldamfpoemgkpaaGreatDoor
open Go.RowKit Go.ChangeShapes Go.WideShapes

/-- all but block p is as it was -/
def KbX (p : Nat) (w w' : World) : Prop := w.heap.size ≤ w'.heap.size ∧ ∀ b, b ≠ p → b < w.heap.size → w'.heap[b]? = w.heap[b]?
theorem KbX.refl (p : Nat) (w : World) : KbX p w w := ⟨Nat.le_refl _, fun _ _ _ => rfl⟩
theorem KbX.drew {p : Nat} {w w' : World} (h : KbX p w w') : KbX p w w'.drew := h
theorem KbX.set {p : Nat} {w w1 : World} (h : KbX p w w1) (i : Nat) (v : Value) : KbX p w (w1.setCell ⟨p, i, none⟩ v) := ⟨by simp; exact h.1, fun b hb hl => by rw [Below.heap_setCell _ _ _ _ hb]; exact h.2 b hb hl⟩
theorem kbx_cell {p : Nat} {w w' : World} {q : Addr} {v : Value} (h : KbX p w w') (hp : q.block ≠ p) (hc : w.cell? q = some v) : w'.cell? q = some v := by
  have hl := old_of_cell hc
  have e : w'.heap[q.block]? = w.heap[q.block]? := h.2 _ hp hl
  unfold World.cell? at hc ⊢
  rw [e]
  exact hc
theorem add_plain9 {t l : Nat} (h4 : Fl.dl t = true) (h5 : Fl.dl l = true) : ∃ r, Ieee.double.add (Fl.plain t) (Fl.plain l) = some r ∧ Fl.dl r = true := by
  obtain ⟨r, h1, h2, _⟩ := Fl.add_delay (Fl.dl_of_le (Fl.dl_plain h4).1).1 (Fl.dl_of_le (Fl.dl_plain h5).1).1
  exact ⟨r, h1, h2⟩
end Go.Proofs.YtldamfpoemgkpaaGreatDoor

namespace Go.Proofs.YtldamfpoemgkpaaGreatDoor
open Go.RowKit Go.ChangeShapes Go.WideShapes

structure ScoC (ads : List Addr) (w : World) : Prop where
  right : ∀ w1, Kp w w1 → ∀ c : CX, c.wf → Calls Tryz.prog 19 #[.agg c.cells] w1 fun e w' => e = .returned (.bool (rightX c)) ∧ Kp w1 w'
  new : ∀ w1, Kp w w1 → ∀ (an aw oc : Int) (t l : Nat), t < 18446744073709551616 → l < 18446744073709551616 → Calls Tryz.prog 13 #[.agg #[.int .i64 an, .int .i64 aw], .int .i64 oc, .float .f64 t, .float .f64 l] w1 fun e w' => e = .returned (.tuple #[.agg (newX an aw oc t l).2.cells, errI ads (newX an aw oc t l).1]) ∧ Kp w1 w'
  opn : ∀ w1, Kp w w1 → ∀ (c : CX) (t : Nat), c.wf → t < 18446744073709551616 → Calls Tryz.prog 15 #[.agg c.cells, .float .f64 t] w1 fun e w' => e = .returned (.bool (openX c t)) ∧ Kp w1 w'
  same : ∀ w1, Kp w w1 → ∀ a b : CX, a.wf → b.wf → Calls Tryz.prog 10 #[.agg a.cells, .agg b.cells] w1 fun e w' => e = .returned (.bool (sameX a b)) ∧ Kp w1 w'
theorem ScoC.kp {ads : List Addr} {w w' : World} (C : ScoC ads w) (hk : Kp w w') : ScoC ads w' where
  right := fun w1 h => C.right w1 (Kp.trans hk h)
  new := fun w1 h => C.new w1 (Kp.trans hk h)
  opn := fun w1 h => C.opn w1 (Kp.trans hk h)
  same := fun w1 h => C.same w1 (Kp.trans hk h)

theorem errI_some9 (ads : List Addr) (k : Int) (h : k ≠ 0) : ∃ q, errI ads k = .iface 146 (.pointer q) := ⟨_, if_neg h⟩
theorem same_refl9 (c : CX) : sameX c c = true := by unfold sameX; simp
theorem new_wf9 (n s o : Int) (t l : Nat) : (newX n s o t l).2.wf := by
  unfold newX
  split
  · exact noX_wf
  split
  · exact noX_wf
  · rename_i h
    have h4 : Fl.dl t = true := by cases q : Fl.dl t with | true => rfl | false => exact absurd (.inr (.inl q)) h
    have h5 : Fl.dl l = true := by cases q : Fl.dl l with | true => rfl | false => exact absurd (.inr (.inr q)) h
    obtain ⟨rr, hr, hd⟩ := add_plain9 h4 h5
    rw [hr]
    exact Fl.dl_lt hd
theorem child_wf9 {c : CX} (hc : c.wf) (n s o : Int) : (childX c n s o).2.wf := by
  unfold childX
  split
  · exact noX_wf
  split
  · exact noX_wf
  split
  · exact noX_wf
  split
  · exact noX_wf
  · exact hc
theorem new_num9 (n s o : Int) (t l : Nat) : 0 ≤ (newX n s o t l).1 ∧ (newX n s o t l).1 ≤ 14 := by
  unfold newX
  split
  · exact ⟨by decide, by decide⟩
  split
  · exact ⟨by decide, by decide⟩
  · exact ⟨by simp, by simp⟩
theorem child_num9 (c : CX) (n s o : Int) : 0 ≤ (childX c n s o).1 ∧ (childX c n s o).1 ≤ 14 := by
  unfold childX
  split
  · exact ⟨by decide, by decide⟩
  split
  · exact ⟨by decide, by decide⟩
  split
  · exact ⟨by decide, by decide⟩
  split
  · exact ⟨by decide, by decide⟩
  · exact ⟨by simp, by simp⟩
theorem add_le9 {a b : Nat} (ha : a ≤ 9218868437227405312) (hb : b ≤ 9218868437227405312) : ∃ r, Ieee.double.add a b = some r ∧ r ≤ 9218868437227405312 := by
  rcases Nat.lt_or_eq_of_le ha with ga | rfl
  · rcases Nat.lt_or_eq_of_le hb with gb | rfl
    · obtain ⟨N, p, h1, _⟩ := Fl.sum_fin ga gb
      exact ⟨_, h1, Fl.nearest_le_inf _ _⟩
    · refine ⟨9218868437227405312, ?_, Nat.le_refl _⟩
      unfold Ieee.Format.add
      rw [Fl.read_pos_fin ga, Fl.read_inf]; kernel_rfl
  · refine ⟨9218868437227405312, ?_, Nat.le_refl _⟩
    unfold Ieee.Format.add
    rcases Nat.lt_or_eq_of_le hb with gb | rfl
    · rw [Fl.read_pos_fin gb, Fl.read_inf]; kernel_rfl
    · rw [Fl.read_inf]; kernel_rfl
/-- a sum of plain delays is a plain delay -/
theorem add_tm9 {t l : Nat} (h4 : Fl.dl t = true) (h5 : Fl.dl l = true) : ∃ r, Ieee.double.add (Fl.plain t) (Fl.plain l) = some r ∧ tmX r = true := by
  obtain ⟨r, h1, h2⟩ := add_le9 (Fl.dl_plain h4).1 (Fl.dl_plain h5).1
  exact ⟨r, h1, tmX_of h2⟩
theorem new_right9 {n s o : Int} {t l : Nat} (h : (newX n s o t l).1 = 0) : rightX (newX n s o t l).2 = true := by
  unfold newX at h ⊢
  split at h
  · cases h
  split at h
  · cases h
  rename_i g1 g2
  rw [if_neg g1, if_neg g2]
  have ho : outX o = true := by cases q : outX o with | true => rfl | false => exact absurd (.inl q) g2
  have h4 : Fl.dl t = true := by cases q : Fl.dl t with | true => rfl | false => exact absurd (.inr (.inl q)) g2
  have h5 : Fl.dl l = true := by cases q : Fl.dl l with | true => rfl | false => exact absurd (.inr (.inr q)) g2
  have ha : rightA n s = true := by cases q : rightA n s with | true => rfl | false => exact absurd q g1
  obtain ⟨r, hr, ht⟩ := add_tm9 h4 h5
  unfold rightX
  dsimp only
  rw [hr, Option.getD_some, ha, ho, ht]
  rfl
end Go.Proofs.YtldamfpoemgkpaaGreatDoor

namespace Go.Proofs.YtldamfpoemgkpaaGreatDoor
open Go.RowKit Go.ChangeShapes Go.WideShapes

theorem two_cells {b : Nat} {t : TypeId} {w : World} {x0 x1 : Value} (h : w.heap[b]? = some (.cells #[x0, x1] t (0, 0))) : w.cell? ⟨b, 0, none⟩ = some x0 ∧ w.cell? ⟨b, 1, none⟩ = some x1 := by
  refine ⟨?_, ?_⟩ <;> (unfold World.cell?; dsimp only; rw [h]; rfl)
theorem sdemand_t (v : Value) (w : World) : Calls Tryz.prog 18 #[.bool true, v] w fun e w' => e = .returned (.tuple #[]) ∧ w = w' := by
  go_enter Tryz.func18, Tryz.ntmps18
  go_wp2
  go_end0
  exact ⟨rfl, rfl⟩
theorem sdemand_f (a : Addr) (w : World) : Calls Tryz.prog 18 #[.bool false, snt a] w fun e w' => e = .panicked [{ v := snt a, recovered := false }] ∧ w = w' := by
  have hpn := panic_some (P := Tryz.prog) 146 (.pointer (some a)) w
  go_enter Tryz.func18, Tryz.ntmps18
  go_wp2
  exact ⟨rfl, rfl, rfl⟩
theorem must_f64_t (x : Nat) (w : World) : Calls Tryz.prog 35 #[.float .f64 x, .nilIface] w fun e w' => e = .returned (.float .f64 x) ∧ w = w' := by
  go_enter Tryz.func35, Tryz.ntmps35
  go_wp2_with (go_at_call 55; (with_reducible refine (check_t _).mono ?_); rintro e w' ⟨rfl, rfl⟩)
  go_ret
  exact ⟨rfl, rfl⟩
theorem must_f64_f (x : Nat) (a : Addr) (w : World) : Calls Tryz.prog 35 #[.float .f64 x, snt a] w fun e w' => e = .panicked [{ v := snt a, recovered := false }] ∧ w = w' := by
  go_enter Tryz.func35, Tryz.ntmps35
  go_wp2_with (go_at_call 55; (with_reducible refine (check_f _ _).mono ?_); rintro e w' ⟨rfl, rfl⟩)
  exact ⟨rfl, rfl, rfl⟩
theorem sbits_any (b : Nat) (w : World) (hb : b < 18446744073709551616) :
    Calls Tryz.prog 40 #[.float .f64 b] w fun e w' => e = .returned (.int .u64 (Fl.plain b)) ∧ w = w' := by
  have e1 := ext_bits
  go_enter Tryz.func40, Tryz.ntmps40
  go_wp2_with (go_at_call 47; (with_reducible refine (plain_any _ _ hb).mono ?_); rintro e w' ⟨rfl, rfl⟩)
  go_ret
  exact ⟨rfl, rfl⟩
theorem outcome_any (n : Int) (w : World) : Calls Tryz.prog 53 #[.int .i64 n] w fun e w' => e = .returned (.bool (outX n)) ∧ w = w' := by
  unfold outX
  by_cases h : n = 1
  · subst h
    rw [decide_eq_true (.inl rfl)]
    go_enter Tryz.func53, Tryz.ntmps53
    go_wp2
    go_ret
    exact ⟨rfl, rfl⟩
  by_cases g : n = 2
  · subst g
    rw [decide_eq_true (.inr rfl)]
    go_enter Tryz.func53, Tryz.ntmps53
    go_wp2
    go_ret
    exact ⟨rfl, rfl⟩
  · rw [decide_eq_false (by omega)]
    have h1 : (n == 1) = false := by simpa using h
    have h2 : (n == 2) = false := by simpa using g
    go_enter Tryz.func53, Tryz.ntmps53
    go_wp2
    go_ret
    exact ⟨rfl, rfl⟩
theorem plainTime_t (x : Nat) (w : World) (h : Fl.dl x = true) : Calls Tryz.prog 54 #[.float .f64 x] w fun e w' => e = .returned (.bool (tmX x)) ∧ w = w' := by
  have e1 := ext_bits
  have HD := Lib.hid (fun w => delay_ok x w h)
  have et : tmX x = (((Fl.plain x : Nat) : Int) == (x : Int)) := by
    unfold tmX
    rw [h, Bool.eq_iff_iff]
    simp
    omega
  rw [et]
  clear h et
  go_enter Tryz.func54, Tryz.ntmps54
  go_wp2_with (go_at_call 49; (with_reducible refine (HD.out _).mono ?_); rintro e w' ⟨rfl, rfl⟩)
  go_ret
  exact ⟨rfl, rfl⟩
theorem plainTime_f (ads : List Addr) (x : Nat) (hx : x < 18446744073709551616) (w : World) (V : St ads w) (h : Fl.dl x = false) : Calls Tryz.prog 54 #[.float .f64 x] w fun e w' => e = .returned (.bool (tmX x)) ∧ Kp w w' := by
  obtain ⟨a3, c3⟩ : ∃ a3, w.cell? ⟨0, 0, none⟩ = some (snt a3) := ⟨_, V.cell 3 (by decide)⟩
  have HD := Lib.hid (delay_err x _ w hx h c3)
  have et : tmX x = false := by
    unfold tmX
    rw [h]
    rfl
  rw [et]
  clear h et V c3
  go_enter Tryz.func54, Tryz.ntmps54
  go_wp2_with (go_at_call 49; (with_reducible refine HD.out.mono ?_); rintro e w1 ⟨rfl, hk⟩; have K1 := Lib.hid hk; clear hk)
  go_ret
  exact ⟨rfl, K1.out⟩
theorem plainTime_any (ads : List Addr) (x : Nat) (hx : x < 18446744073709551616) (w : World) (V : St ads w) : Calls Tryz.prog 54 #[.float .f64 x] w fun e w' => e = .returned (.bool (tmX x)) ∧ Kp w w' := by
  cases h : Fl.dl x with
  | true => exact (plainTime_t x w h).mono (by rintro e w' ⟨rfl, rfl⟩; exact ⟨rfl, Kp.refl _⟩)
  | false => exact plainTime_f ads x hx w V h
set_option maxRecDepth 100000 in
theorem sact_range (ads : List Addr) (h3 : 3 < ads.length) (an aw oc : Int) (w : World) (V : St ads w) (T : Tab w) (hr : rightA an aw = false) :
    Calls Tryz.prog 45 #[.agg #[.int .i64 an, .int .i64 aw], .int .i64 oc] w fun e w' => e = .panicked [{ v := snt (ads[0]'(by omega)), recovered := false }] ∧ Kp w w' := by
  have c0 : w.cell? ⟨1, 0, none⟩ = some (snt (ads[0]'(by omega))) := V.cell 0 (by decide)
  have c3 : w.cell? ⟨0, 0, none⟩ = some (snt (ads[3]'h3)) := V.cell 3 (by decide)
  have kb := kp_alloc w (.cells #[.int .i64 an, .int .i64 aw] 23)
  have HA := fun w1 (hk : Kp w w1) => right_any ads w1 (V.below hk) (T.kp hk) an aw
  have HO := fun w1 => outcome_any oc w1
  simp only [hr] at HA
  obtain ⟨a0, ha0⟩ : ∃ a, ads[0]'(by omega) = a := ⟨_, rfl⟩
  obtain ⟨a3, ha3⟩ : ∃ a, ads[3]'h3 = a := ⟨_, rfl⟩
  rw [ha0] at c0 ⊢
  rw [ha3] at c3
  have HA := Lib.hid HA
  have HO := Lib.hid HO
  obtain ⟨d0, d1⟩ := two_cells (MapKept.heap_alloc w (.cells #[.int .i64 an, .int .i64 aw] 23)).1
  replace c0 := kp_cell kb c0
  replace c3 := kp_cell kb c3
  replace HA := Lib.hid (fun w1 (hk : Kp (w.alloc (.cells #[.int .i64 an, .int .i64 aw] 23)) w1) => HA.out w1 (Kp.trans kb hk))
  clear V T ha0 ha3 hr
  go_enter Tryz.func45, Tryz.ntmps45
  go_wp2
  obtain ⟨w0, hw0⟩ : ∃ y, w.alloc (.cells #[.int .i64 an, .int .i64 aw] 23) = y := ⟨_, rfl⟩
  rw [hw0] at kb HA d0 d1 c0 c3 ⊢
  obtain ⟨p0, hp0⟩ : ∃ y, w.heap.size = y := ⟨_, rfl⟩
  rw [hp0] at d0 d1 ⊢
  have K0 := Lib.hid kb
  clear hw0 kb hp0
  refine wp_region_held_drew (S := fun w' => Kp w0 w') (by kernel_rfl) ?_ (fun hHeld => ?_)
  · exact (Kp.refl w0).drew
  refine wpAnyH_take (i := 0) (v := ?_) rfl (by kernel_rfl) (by kernel_rfl) (by kernel_rfl) (fun _ _ _ h => h) (Or.inl ⟨by rfl, ?_⟩) (by assumption) ?_
  rotate_left
  · intro w hSw; have q0 := kp_cell hSw d0; have q1 := kp_cell hSw d1; go_simp; try with_reducible rfl
  go_simp
  refine wpAnyH_take (i := 2) (v := ?_) rfl (by kernel_rfl) (by kernel_rfl) (by kernel_rfl) (fun _ _ _ h => h) (Or.inl ⟨by rfl, ?_⟩) (by assumption) ?_
  rotate_left
  · intro w hSw; have q := kp_cell hSw c0; go_simp; try with_reducible rfl
  go_simp
  refine wpAnyH_ready (rs := [1]) (by kernel_rfl) (by simp) ?_
  refine AllReadyH.cons rfl (fun K hK => ?_) AllReadyH.nil
  go_simp
  go_wp2_with (go_at_call 52; (with_reducible refine (HA.out _ hHeld).mono ?_); rintro e w4 ⟨rfl, hk4⟩; have K4 := Lib.hid (Kp.trans hHeld hk4); clear hk4)
  refine hK.out _ _ ?_ (fun hHeld => ?_)
  · exact K4.out
  clear hK K
  refine wpAnyH_ready (rs := [3]) (by kernel_rfl) (by simp) ?_
  refine AllReadyH.cons rfl (fun K hK => ?_) AllReadyH.nil
  go_simp
  go_wp2_with (go_at_call 18; (with_reducible refine (sdemand_f _ _).mono ?_); rintro e w' ⟨rfl, rfl⟩)
  exact ⟨rfl, rfl, Kp.trans K0.out hHeld⟩
set_option maxRecDepth 100000 in
theorem sact_form (ads : List Addr) (h3 : 3 < ads.length) (an aw oc : Int) (w : World) (V : St ads w) (T : Tab w) (hr : rightA an aw = true) (ho : outX oc = false) :
    Calls Tryz.prog 45 #[.agg #[.int .i64 an, .int .i64 aw], .int .i64 oc] w fun e w' => e = .panicked [{ v := snt (ads[3]'h3), recovered := false }] ∧ Kp w w' := by
  have c0 : w.cell? ⟨1, 0, none⟩ = some (snt (ads[0]'(by omega))) := V.cell 0 (by decide)
  have c3 : w.cell? ⟨0, 0, none⟩ = some (snt (ads[3]'h3)) := V.cell 3 (by decide)
  have kb := kp_alloc w (.cells #[.int .i64 an, .int .i64 aw] 23)
  have HA := fun w1 (hk : Kp w w1) => right_any ads w1 (V.below hk) (T.kp hk) an aw
  have HO := fun w1 => outcome_any oc w1
  simp only [hr] at HA
  simp only [ho] at HO
  obtain ⟨a0, ha0⟩ : ∃ a, ads[0]'(by omega) = a := ⟨_, rfl⟩
  obtain ⟨a3, ha3⟩ : ∃ a, ads[3]'h3 = a := ⟨_, rfl⟩
  rw [ha0] at c0
  rw [ha3] at c3 ⊢
  have HA := Lib.hid HA
  have HO := Lib.hid HO
  obtain ⟨d0, d1⟩ := two_cells (MapKept.heap_alloc w (.cells #[.int .i64 an, .int .i64 aw] 23)).1
  replace c0 := kp_cell kb c0
  replace c3 := kp_cell kb c3
  replace HA := Lib.hid (fun w1 (hk : Kp (w.alloc (.cells #[.int .i64 an, .int .i64 aw] 23)) w1) => HA.out w1 (Kp.trans kb hk))
  clear V T ha0 ha3 hr ho
  go_enter Tryz.func45, Tryz.ntmps45
  go_wp2
  obtain ⟨w0, hw0⟩ : ∃ y, w.alloc (.cells #[.int .i64 an, .int .i64 aw] 23) = y := ⟨_, rfl⟩
  rw [hw0] at kb HA d0 d1 c0 c3 ⊢
  obtain ⟨p0, hp0⟩ : ∃ y, w.heap.size = y := ⟨_, rfl⟩
  rw [hp0] at d0 d1 ⊢
  have K0 := Lib.hid kb
  clear hw0 kb hp0
  refine wp_region_held_drew (S := fun w' => Kp w0 w') (by kernel_rfl) ?_ (fun hHeld => ?_)
  · exact (Kp.refl w0).drew
  refine wpAnyH_take (i := 0) (v := ?_) rfl (by kernel_rfl) (by kernel_rfl) (by kernel_rfl) (fun _ _ _ h => h) (Or.inl ⟨by rfl, ?_⟩) (by assumption) ?_
  rotate_left
  · intro w hSw; have q0 := kp_cell hSw d0; have q1 := kp_cell hSw d1; go_simp; try with_reducible rfl
  go_simp
  refine wpAnyH_take (i := 2) (v := ?_) rfl (by kernel_rfl) (by kernel_rfl) (by kernel_rfl) (fun _ _ _ h => h) (Or.inl ⟨by rfl, ?_⟩) (by assumption) ?_
  rotate_left
  · intro w hSw; have q := kp_cell hSw c0; go_simp; try with_reducible rfl
  go_simp
  refine wpAnyH_ready (rs := [1]) (by kernel_rfl) (by simp) ?_
  refine AllReadyH.cons rfl (fun K hK => ?_) AllReadyH.nil
  go_simp
  go_wp2_with (go_at_call 52; (with_reducible refine (HA.out _ hHeld).mono ?_); rintro e w4 ⟨rfl, hk4⟩; have K4 := Lib.hid (Kp.trans hHeld hk4); clear hk4)
  refine hK.out _ _ ?_ (fun hHeld => ?_)
  · exact K4.out
  clear hK K
  refine wpAnyH_ready (rs := [3]) (by kernel_rfl) (by simp) ?_
  refine AllReadyH.cons rfl (fun K hK => ?_) AllReadyH.nil
  go_simp
  go_wp2_with (go_at_call 18; (with_reducible refine (sdemand_t _ _).mono ?_); rintro e w' ⟨rfl, rfl⟩)
  refine hK.out _ _ ?_ (fun hHeld => ?_)
  · exact hHeld
  clear hK K
  refine wpAnyH_done (by kernel_rfl) ?_ _
  clear d0 d1 c0
  go_wp2
  have K5 := Lib.hid (Kp.trans K0.out K4.out)
  replace c3 := kp_cell K4.out c3
  refine wp_region_held_drew (S := fun w' => Kp w4 w') (by kernel_rfl) ?_ (fun hHeld => ?_)
  · exact (Kp.refl w4).drew
  refine wpAnyH_take (i := 0) (v := ?_) rfl (by kernel_rfl) (by kernel_rfl) (by kernel_rfl) (fun _ _ _ h => h) (Or.inl ⟨by rfl, ?_⟩) (by assumption) ?_
  rotate_left
  · intro w hSw; go_simp; try with_reducible rfl
  go_simp
  refine wpAnyH_take (i := 2) (v := ?_) rfl (by kernel_rfl) (by kernel_rfl) (by kernel_rfl) (fun _ _ _ h => h) (Or.inl ⟨by rfl, ?_⟩) (by assumption) ?_
  rotate_left
  · intro w hSw; have q := kp_cell hSw c3; go_simp; try with_reducible rfl
  go_simp
  refine wpAnyH_ready (rs := [1]) (by kernel_rfl) (by simp) ?_
  refine AllReadyH.cons rfl (fun K hK => ?_) AllReadyH.nil
  go_simp
  go_wp2_with (go_at_call 53; (with_reducible refine (HO.out _).mono ?_); rintro e w' ⟨rfl, rfl⟩)
  refine hK.out _ _ ?_ (fun hHeld => ?_)
  · exact hHeld
  clear hK K
  refine wpAnyH_ready (rs := [3]) (by kernel_rfl) (by simp) ?_
  refine AllReadyH.cons rfl (fun K hK => ?_) AllReadyH.nil
  go_simp
  go_wp2_with (go_at_call 18; (with_reducible refine (sdemand_f _ _).mono ?_); rintro e w' ⟨rfl, rfl⟩)
  exact ⟨rfl, rfl, Kp.trans K5.out hHeld⟩
set_option maxRecDepth 100000 in
theorem sact_ok (ads : List Addr) (h3 : 3 < ads.length) (an aw oc : Int) (w : World) (V : St ads w) (T : Tab w) (hr : rightA an aw = true) (ho : outX oc = true) :
    Calls Tryz.prog 45 #[.agg #[.int .i64 an, .int .i64 aw], .int .i64 oc] w fun e w' => e = .returned (.tuple #[]) ∧ Kp w w' := by
  have c0 : w.cell? ⟨1, 0, none⟩ = some (snt (ads[0]'(by omega))) := V.cell 0 (by decide)
  have c3 : w.cell? ⟨0, 0, none⟩ = some (snt (ads[3]'h3)) := V.cell 3 (by decide)
  have kb := kp_alloc w (.cells #[.int .i64 an, .int .i64 aw] 23)
  have HA := fun w1 (hk : Kp w w1) => right_any ads w1 (V.below hk) (T.kp hk) an aw
  have HO := fun w1 => outcome_any oc w1
  simp only [hr] at HA
  simp only [ho] at HO
  obtain ⟨a0, ha0⟩ : ∃ a, ads[0]'(by omega) = a := ⟨_, rfl⟩
  obtain ⟨a3, ha3⟩ : ∃ a, ads[3]'h3 = a := ⟨_, rfl⟩
  rw [ha0] at c0
  rw [ha3] at c3
  have HA := Lib.hid HA
  have HO := Lib.hid HO
  obtain ⟨d0, d1⟩ := two_cells (MapKept.heap_alloc w (.cells #[.int .i64 an, .int .i64 aw] 23)).1
  replace c0 := kp_cell kb c0
  replace c3 := kp_cell kb c3
  replace HA := Lib.hid (fun w1 (hk : Kp (w.alloc (.cells #[.int .i64 an, .int .i64 aw] 23)) w1) => HA.out w1 (Kp.trans kb hk))
  clear V T ha0 ha3 hr ho
  go_enter Tryz.func45, Tryz.ntmps45
  go_wp2
  obtain ⟨w0, hw0⟩ : ∃ y, w.alloc (.cells #[.int .i64 an, .int .i64 aw] 23) = y := ⟨_, rfl⟩
  rw [hw0] at kb HA d0 d1 c0 c3 ⊢
  obtain ⟨p0, hp0⟩ : ∃ y, w.heap.size = y := ⟨_, rfl⟩
  rw [hp0] at d0 d1 ⊢
  have K0 := Lib.hid kb
  clear hw0 kb hp0
  refine wp_region_held_drew (S := fun w' => Kp w0 w') (by kernel_rfl) ?_ (fun hHeld => ?_)
  · exact (Kp.refl w0).drew
  refine wpAnyH_take (i := 0) (v := ?_) rfl (by kernel_rfl) (by kernel_rfl) (by kernel_rfl) (fun _ _ _ h => h) (Or.inl ⟨by rfl, ?_⟩) (by assumption) ?_
  rotate_left
  · intro w hSw; have q0 := kp_cell hSw d0; have q1 := kp_cell hSw d1; go_simp; try with_reducible rfl
  go_simp
  refine wpAnyH_take (i := 2) (v := ?_) rfl (by kernel_rfl) (by kernel_rfl) (by kernel_rfl) (fun _ _ _ h => h) (Or.inl ⟨by rfl, ?_⟩) (by assumption) ?_
  rotate_left
  · intro w hSw; have q := kp_cell hSw c0; go_simp; try with_reducible rfl
  go_simp
  refine wpAnyH_ready (rs := [1]) (by kernel_rfl) (by simp) ?_
  refine AllReadyH.cons rfl (fun K hK => ?_) AllReadyH.nil
  go_simp
  go_wp2_with (go_at_call 52; (with_reducible refine (HA.out _ hHeld).mono ?_); rintro e w4 ⟨rfl, hk4⟩; have K4 := Lib.hid (Kp.trans hHeld hk4); clear hk4)
  refine hK.out _ _ ?_ (fun hHeld => ?_)
  · exact K4.out
  clear hK K
  refine wpAnyH_ready (rs := [3]) (by kernel_rfl) (by simp) ?_
  refine AllReadyH.cons rfl (fun K hK => ?_) AllReadyH.nil
  go_simp
  go_wp2_with (go_at_call 18; (with_reducible refine (sdemand_t _ _).mono ?_); rintro e w' ⟨rfl, rfl⟩)
  refine hK.out _ _ ?_ (fun hHeld => ?_)
  · exact hHeld
  clear hK K
  refine wpAnyH_done (by kernel_rfl) ?_ _
  clear d0 d1 c0
  go_wp2
  have K5 := Lib.hid (Kp.trans K0.out K4.out)
  replace c3 := kp_cell K4.out c3
  refine wp_region_held_drew (S := fun w' => Kp w4 w') (by kernel_rfl) ?_ (fun hHeld => ?_)
  · exact (Kp.refl w4).drew
  refine wpAnyH_take (i := 0) (v := ?_) rfl (by kernel_rfl) (by kernel_rfl) (by kernel_rfl) (fun _ _ _ h => h) (Or.inl ⟨by rfl, ?_⟩) (by assumption) ?_
  rotate_left
  · intro w hSw; go_simp; try with_reducible rfl
  go_simp
  refine wpAnyH_take (i := 2) (v := ?_) rfl (by kernel_rfl) (by kernel_rfl) (by kernel_rfl) (fun _ _ _ h => h) (Or.inl ⟨by rfl, ?_⟩) (by assumption) ?_
  rotate_left
  · intro w hSw; have q := kp_cell hSw c3; go_simp; try with_reducible rfl
  go_simp
  refine wpAnyH_ready (rs := [1]) (by kernel_rfl) (by simp) ?_
  refine AllReadyH.cons rfl (fun K hK => ?_) AllReadyH.nil
  go_simp
  go_wp2_with (go_at_call 53; (with_reducible refine (HO.out _).mono ?_); rintro e w' ⟨rfl, rfl⟩)
  refine hK.out _ _ ?_ (fun hHeld => ?_)
  · exact hHeld
  clear hK K
  refine wpAnyH_ready (rs := [3]) (by kernel_rfl) (by simp) ?_
  refine AllReadyH.cons rfl (fun K hK => ?_) AllReadyH.nil
  go_simp
  go_wp2_with (go_at_call 18; (with_reducible refine (sdemand_t _ _).mono ?_); rintro e w' ⟨rfl, rfl⟩)
  refine hK.out _ _ ?_ (fun hHeld => ?_)
  · exact hHeld
  clear hK K
  refine wpAnyH_done (by kernel_rfl) ?_ _
  go_wp2
  go_end0
  exact ⟨rfl, Kp.trans K5.out hHeld⟩
set_option maxRecDepth 100000 in
set_option maxHeartbeats 2000000 in
theorem sright_a (ads : List Addr) (n s o d : Int) (x : Nat) (hx : x < 18446744073709551616) (w : World) (V : St ads w) (T : Tab w) (hr : rightA n s = false) :
    Calls Tryz.prog 19 #[.agg #[.int .i64 n, .int .i64 s, .int .i64 o, .int .i64 d, .float .f64 x]] w fun e w' => e = .returned (.bool false) ∧ Kp w w' := by
  have HA := fun w1 (hk : Kp w w1) => right_any ads w1 (V.below hk) (T.kp hk) n s
  have HO := fun w1 => outcome_any o w1
  have HP := fun w1 (hk : Kp w w1) => plainTime_any ads x hx w1 (V.below hk)
  simp only [hr] at HA
  have HA := Lib.hid HA
  have HO := Lib.hid HO
  have HP := Lib.hid HP
  have K0 := Lib.hid (kp_alloc w (.cells #[.int .i64 n, .int .i64 s, .int .i64 o, .int .i64 d, .float .f64 x] 26))
  have HR := Lib.hid (MapKept.heap_alloc w (.cells #[.int .i64 n, .int .i64 s, .int .i64 o, .int .i64 d, .float .f64 x] 26)).1
  have hr0 := HR.out
  obtain ⟨e0, e1, e2, e3, e4⟩ := cells5 hr0
  clear V T hx hr hr0
  go_enter Tryz.func19, Tryz.ntmps19
  go_wp2_with (first
    | (go_at_call 52; (with_reducible refine (HA.out _ K0.out).mono ?_); rintro e w1 ⟨rfl, hk⟩; have K1 := Lib.hid (Kp.trans K0.out hk); have R1 := Lib.hid (kp_row hk HR.out); obtain ⟨b0, b1, b2, b3, b4⟩ := cells5 R1.out; clear hk))
  go_ret
  exact ⟨by first | rfl | simp, K1.out⟩
set_option maxRecDepth 100000 in
set_option maxHeartbeats 2000000 in
theorem sright_o (ads : List Addr) (n s o d : Int) (x : Nat) (hx : x < 18446744073709551616) (w : World) (V : St ads w) (T : Tab w) (hr : rightA n s = true) (ho : outX o = false) :
    Calls Tryz.prog 19 #[.agg #[.int .i64 n, .int .i64 s, .int .i64 o, .int .i64 d, .float .f64 x]] w fun e w' => e = .returned (.bool false) ∧ Kp w w' := by
  have HA := fun w1 (hk : Kp w w1) => right_any ads w1 (V.below hk) (T.kp hk) n s
  have HO := fun w1 => outcome_any o w1
  have HP := fun w1 (hk : Kp w w1) => plainTime_any ads x hx w1 (V.below hk)
  simp only [hr] at HA
  simp only [ho] at HO
  have HA := Lib.hid HA
  have HO := Lib.hid HO
  have HP := Lib.hid HP
  have K0 := Lib.hid (kp_alloc w (.cells #[.int .i64 n, .int .i64 s, .int .i64 o, .int .i64 d, .float .f64 x] 26))
  have HR := Lib.hid (MapKept.heap_alloc w (.cells #[.int .i64 n, .int .i64 s, .int .i64 o, .int .i64 d, .float .f64 x] 26)).1
  have hr0 := HR.out
  obtain ⟨e0, e1, e2, e3, e4⟩ := cells5 hr0
  clear V T hx hr hr0 ho
  go_enter Tryz.func19, Tryz.ntmps19
  go_wp2_with (first
    | (go_at_call 52; (with_reducible refine (HA.out _ K0.out).mono ?_); rintro e w1 ⟨rfl, hk⟩; have K1 := Lib.hid (Kp.trans K0.out hk); have R1 := Lib.hid (kp_row hk HR.out); obtain ⟨b0, b1, b2, b3, b4⟩ := cells5 R1.out; clear hk)
    | (go_at_call 53; (with_reducible refine (HO.out _).mono ?_); rintro e w' ⟨rfl, rfl⟩))
  go_ret
  exact ⟨by first | rfl | simp, K1.out⟩
set_option maxRecDepth 100000 in
set_option maxHeartbeats 2000000 in
theorem sright_d (ads : List Addr) (n s o d : Int) (x : Nat) (hx : x < 18446744073709551616) (w : World) (V : St ads w) (T : Tab w) (hr : rightA n s = true) (ho : outX o = true) (hd : d < 0) :
    Calls Tryz.prog 19 #[.agg #[.int .i64 n, .int .i64 s, .int .i64 o, .int .i64 d, .float .f64 x]] w fun e w' => e = .returned (.bool false) ∧ Kp w w' := by
  have HA := fun w1 (hk : Kp w w1) => right_any ads w1 (V.below hk) (T.kp hk) n s
  have HO := fun w1 => outcome_any o w1
  have HP := fun w1 (hk : Kp w w1) => plainTime_any ads x hx w1 (V.below hk)
  simp only [hr] at HA
  simp only [ho] at HO
  have hd1 : decide (0 ≤ d) = false := decide_eq_false (by omega)
  have HA := Lib.hid HA
  have HO := Lib.hid HO
  have HP := Lib.hid HP
  have K0 := Lib.hid (kp_alloc w (.cells #[.int .i64 n, .int .i64 s, .int .i64 o, .int .i64 d, .float .f64 x] 26))
  have HR := Lib.hid (MapKept.heap_alloc w (.cells #[.int .i64 n, .int .i64 s, .int .i64 o, .int .i64 d, .float .f64 x] 26)).1
  have hr0 := HR.out
  obtain ⟨e0, e1, e2, e3, e4⟩ := cells5 hr0
  clear V T hx hr hr0 ho
  go_enter Tryz.func19, Tryz.ntmps19
  go_wp2_with (first
    | (go_at_call 52; (with_reducible refine (HA.out _ K0.out).mono ?_); rintro e w1 ⟨rfl, hk⟩; have K1 := Lib.hid (Kp.trans K0.out hk); have R1 := Lib.hid (kp_row hk HR.out); obtain ⟨b0, b1, b2, b3, b4⟩ := cells5 R1.out; clear hk)
    | (go_at_call 53; (with_reducible refine (HO.out _).mono ?_); rintro e w' ⟨rfl, rfl⟩))
  go_ret
  exact ⟨by first | rfl | simp, K1.out⟩
set_option maxRecDepth 100000 in
set_option maxHeartbeats 2000000 in
theorem sright_e (ads : List Addr) (n s o d : Int) (x : Nat) (hx : x < 18446744073709551616) (w : World) (V : St ads w) (T : Tab w) (hr : rightA n s = true) (ho : outX o = true) (hd : 3 < d) :
    Calls Tryz.prog 19 #[.agg #[.int .i64 n, .int .i64 s, .int .i64 o, .int .i64 d, .float .f64 x]] w fun e w' => e = .returned (.bool false) ∧ Kp w w' := by
  have HA := fun w1 (hk : Kp w w1) => right_any ads w1 (V.below hk) (T.kp hk) n s
  have HO := fun w1 => outcome_any o w1
  have HP := fun w1 (hk : Kp w w1) => plainTime_any ads x hx w1 (V.below hk)
  simp only [hr] at HA
  simp only [ho] at HO
  have hd1 : decide (0 ≤ d) = true := decide_eq_true (by omega)
  have hd2 : decide (d ≤ 3) = false := decide_eq_false (by omega)
  have HA := Lib.hid HA
  have HO := Lib.hid HO
  have HP := Lib.hid HP
  have K0 := Lib.hid (kp_alloc w (.cells #[.int .i64 n, .int .i64 s, .int .i64 o, .int .i64 d, .float .f64 x] 26))
  have HR := Lib.hid (MapKept.heap_alloc w (.cells #[.int .i64 n, .int .i64 s, .int .i64 o, .int .i64 d, .float .f64 x] 26)).1
  have hr0 := HR.out
  obtain ⟨e0, e1, e2, e3, e4⟩ := cells5 hr0
  clear V T hx hr hr0 ho
  go_enter Tryz.func19, Tryz.ntmps19
  go_wp2_with (first
    | (go_at_call 52; (with_reducible refine (HA.out _ K0.out).mono ?_); rintro e w1 ⟨rfl, hk⟩; have K1 := Lib.hid (Kp.trans K0.out hk); have R1 := Lib.hid (kp_row hk HR.out); obtain ⟨b0, b1, b2, b3, b4⟩ := cells5 R1.out; clear hk)
    | (go_at_call 53; (with_reducible refine (HO.out _).mono ?_); rintro e w' ⟨rfl, rfl⟩))
  go_ret
  exact ⟨by first | rfl | simp, K1.out⟩
set_option maxRecDepth 100000 in
set_option maxHeartbeats 2000000 in
theorem sright_p (ads : List Addr) (n s o d : Int) (x : Nat) (hx : x < 18446744073709551616) (w : World) (V : St ads w) (T : Tab w) (hr : rightA n s = true) (ho : outX o = true) (hd : 0 ≤ d ∧ d ≤ 3) :
    Calls Tryz.prog 19 #[.agg #[.int .i64 n, .int .i64 s, .int .i64 o, .int .i64 d, .float .f64 x]] w fun e w' => e = .returned (.bool (tmX x)) ∧ Kp w w' := by
  have HA := fun w1 (hk : Kp w w1) => right_any ads w1 (V.below hk) (T.kp hk) n s
  have HO := fun w1 => outcome_any o w1
  have HP := fun w1 (hk : Kp w w1) => plainTime_any ads x hx w1 (V.below hk)
  simp only [hr] at HA
  simp only [ho] at HO
  have hd1 : decide (0 ≤ d) = true := decide_eq_true (by omega)
  have hd2 : decide (d ≤ 3) = true := decide_eq_true (by omega)
  have HA := Lib.hid HA
  have HO := Lib.hid HO
  have HP := Lib.hid HP
  have K0 := Lib.hid (kp_alloc w (.cells #[.int .i64 n, .int .i64 s, .int .i64 o, .int .i64 d, .float .f64 x] 26))
  have HR := Lib.hid (MapKept.heap_alloc w (.cells #[.int .i64 n, .int .i64 s, .int .i64 o, .int .i64 d, .float .f64 x] 26)).1
  have hr0 := HR.out
  obtain ⟨e0, e1, e2, e3, e4⟩ := cells5 hr0
  clear V T hx hr hr0 ho
  go_enter Tryz.func19, Tryz.ntmps19
  go_wp2_with (first
    | (go_at_call 52; (with_reducible refine (HA.out _ K0.out).mono ?_); rintro e w1 ⟨rfl, hk⟩; have K1 := Lib.hid (Kp.trans K0.out hk); have R1 := Lib.hid (kp_row hk HR.out); obtain ⟨b0, b1, b2, b3, b4⟩ := cells5 R1.out; clear hk)
    | (go_at_call 53; (with_reducible refine (HO.out _).mono ?_); rintro e w' ⟨rfl, rfl⟩)
    | (go_at_call 54; (with_reducible refine (HP.out _ K1.out).mono ?_); rintro e w2 ⟨rfl, hk⟩; have K2 := Lib.hid (Kp.trans K1.out hk); clear hk))
  go_ret
  exact ⟨by first | rfl | simp, K2.out⟩
/-- WHICH CONTEXTS ARE RIGHT. -/
theorem scoRight_any (ads : List Addr) (c : CX) (hc : c.wf) (w : World) (V : St ads w) (T : Tab w) : Calls Tryz.prog 19 #[.agg c.cells] w fun e w' => e = .returned (.bool (rightX c)) ∧ Kp w w' := by
  obtain ⟨n, s, o, d, x⟩ := c
  unfold rightX
  dsimp only [CX.cells]
  cases hr : rightA n s with
  | false => exact sright_a ads n s o d x hc w V T hr
  | true =>
    cases ho : outX o with
    | false => exact sright_o ads n s o d x hc w V T hr ho
    | true =>
      by_cases h0 : d < 0
      · rw [decide_eq_false (show ¬ (0 ≤ d ∧ d ≤ 3) by omega)]
        exact sright_d ads n s o d x hc w V T hr ho h0
      by_cases h3 : 3 < d
      · rw [decide_eq_false (show ¬ (0 ≤ d ∧ d ≤ 3) by omega)]
        exact sright_e ads n s o d x hc w V T hr ho h3
      · rw [decide_eq_true (show 0 ≤ d ∧ d ≤ 3 by omega)]
        exact sright_p ads n s o d x hc w V T hr ho (by omega)
set_option maxRecDepth 100000 in
set_option maxHeartbeats 2000000 in
theorem sopen_d (ads : List Addr) (n s o d : Int) (x t : Nat) (hx : x < 18446744073709551616) (ht : t < 18446744073709551616) (w : World) (V : St ads w) (T : Tab w) (hd : Fl.dl t = false) :
    Calls Tryz.prog 15 #[.agg #[.int .i64 n, .int .i64 s, .int .i64 o, .int .i64 d, .float .f64 x], .float .f64 t] w fun e w' => e = .returned (.bool false) ∧ Kp w w' := by
  have HT := fun w1 (hk : Kp w w1) => scoRight_any ads ⟨n, s, o, d, x⟩ hx w1 (V.below hk) (T.kp hk)
  have kb := kp_alloc w (.cells #[.int .i64 n, .int .i64 s, .int .i64 o, .int .i64 d, .float .f64 x] 26)
  obtain ⟨a3, c3⟩ : ∃ a3, w.cell? ⟨0, 0, none⟩ = some (snt a3) := ⟨_, V.cell 3 (by decide)⟩
  have HD := Lib.hid (delay_err t _ _ ht hd (kp_cell kb c3))
  clear c3
  have HT := Lib.hid HT
  have K0 := Lib.hid kb
  have HR := Lib.hid (MapKept.heap_alloc w (.cells #[.int .i64 n, .int .i64 s, .int .i64 o, .int .i64 d, .float .f64 x] 26)).1
  have hr0 := HR.out
  obtain ⟨e0, e1, e2, e3, e4⟩ := cells5 hr0
  clear V T kb hr0
  dsimp only [CX.cells] at HT
  go_enter Tryz.func15, Tryz.ntmps15
  go_wp2_with (first
    | (go_at_call 49; (with_reducible refine HD.out.mono ?_); rintro e w1 ⟨rfl, hk⟩; have K1 := Lib.hid (Kp.trans K0.out hk); clear hk))
  go_ret
  exact ⟨by first | rfl | simp [*], K1.out⟩
set_option maxRecDepth 100000 in
set_option maxHeartbeats 2000000 in
theorem sopen_r (ads : List Addr) (n s o d : Int) (x t : Nat) (hx : x < 18446744073709551616) (ht : t < 18446744073709551616) (w : World) (V : St ads w) (T : Tab w) (hd : Fl.dl t = true) (hr : rightX ⟨n, s, o, d, x⟩ = false) :
    Calls Tryz.prog 15 #[.agg #[.int .i64 n, .int .i64 s, .int .i64 o, .int .i64 d, .float .f64 x], .float .f64 t] w fun e w' => e = .returned (.bool false) ∧ Kp w w' := by
  have HT := fun w1 (hk : Kp w w1) => scoRight_any ads ⟨n, s, o, d, x⟩ hx w1 (V.below hk) (T.kp hk)
  have kb := kp_alloc w (.cells #[.int .i64 n, .int .i64 s, .int .i64 o, .int .i64 d, .float .f64 x] 26)
  have _u := ht
  clear _u
  have HD := Lib.hid (fun w => delay_ok t w hd)
  simp only [hr] at HT
  have HT := Lib.hid HT
  have K0 := Lib.hid kb
  have HR := Lib.hid (MapKept.heap_alloc w (.cells #[.int .i64 n, .int .i64 s, .int .i64 o, .int .i64 d, .float .f64 x] 26)).1
  have hr0 := HR.out
  obtain ⟨e0, e1, e2, e3, e4⟩ := cells5 hr0
  clear V T kb hr0
  dsimp only [CX.cells] at HT
  go_enter Tryz.func15, Tryz.ntmps15
  go_wp2_with (first
    | (go_at_call 49; (with_reducible refine (HD.out _).mono ?_); rintro e w' ⟨rfl, rfl⟩)
    | (go_at_call 19; (with_reducible refine (HT.out _ K0.out).mono ?_); rintro e w2 ⟨rfl, hk⟩; have K1 := Lib.hid (Kp.trans K0.out hk); have R2 := Lib.hid (kp_row hk HR.out); obtain ⟨b0, b1, b2, b3, b4⟩ := cells5 R2.out; clear hk))
  go_ret
  exact ⟨by first | rfl | simp [*], K1.out⟩
set_option maxRecDepth 100000 in
set_option maxHeartbeats 2000000 in
theorem sopen_t (ads : List Addr) (n s o d : Int) (x t : Nat) (hx : x < 18446744073709551616) (ht : t < 18446744073709551616) (w : World) (V : St ads w) (T : Tab w) (hd : Fl.dl t = true) (hr : rightX ⟨n, s, o, d, x⟩ = true) (b : Bool) (hb : (FloatKind.f64.format.order (Fl.plain t) x == some .lt) = b) :
    Calls Tryz.prog 15 #[.agg #[.int .i64 n, .int .i64 s, .int .i64 o, .int .i64 d, .float .f64 x], .float .f64 t] w fun e w' => e = .returned (.bool b) ∧ Kp w w' := by
  have HT := fun w1 (hk : Kp w w1) => scoRight_any ads ⟨n, s, o, d, x⟩ hx w1 (V.below hk) (T.kp hk)
  have kb := kp_alloc w (.cells #[.int .i64 n, .int .i64 s, .int .i64 o, .int .i64 d, .float .f64 x] 26)
  have _u := ht
  clear _u
  have HD := Lib.hid (fun w => delay_ok t w hd)
  simp only [hr] at HT
  have HT := Lib.hid HT
  have K0 := Lib.hid kb
  have HR := Lib.hid (MapKept.heap_alloc w (.cells #[.int .i64 n, .int .i64 s, .int .i64 o, .int .i64 d, .float .f64 x] 26)).1
  have hr0 := HR.out
  obtain ⟨e0, e1, e2, e3, e4⟩ := cells5 hr0
  clear V T kb hr0
  dsimp only [CX.cells] at HT
  go_enter Tryz.func15, Tryz.ntmps15
  go_wp2_with (first
    | (go_at_call 49; (with_reducible refine (HD.out _).mono ?_); rintro e w' ⟨rfl, rfl⟩)
    | (go_at_call 19; (with_reducible refine (HT.out _ K0.out).mono ?_); rintro e w2 ⟨rfl, hk⟩; have K1 := Lib.hid (Kp.trans K0.out hk); have R2 := Lib.hid (kp_row hk HR.out); obtain ⟨b0, b1, b2, b3, b4⟩ := cells5 R2.out; clear hk))
  go_ret
  exact ⟨by first | rfl | simp [*], K1.out⟩
theorem flt9 {a b : Nat} (ha : a < 18446744073709551616) (hb : b < 18446744073709551616) : (FloatKind.f64.format.order a b == some .lt) = Fl.isLt a b := Fl.test_lt ha hb
/-- WHICH CONTEXTS ARE OPEN. -/
theorem scoOpen_any (ads : List Addr) (c : CX) (t : Nat) (hc : c.wf) (ht : t < 18446744073709551616) (w : World) (V : St ads w) (T : Tab w) : Calls Tryz.prog 15 #[.agg c.cells, .float .f64 t] w fun e w' => e = .returned (.bool (openX c t)) ∧ Kp w w' := by
  obtain ⟨n, s, o, d, x⟩ := c
  unfold openX
  cases hd : Fl.dl t with
  | false =>
    rw [Bool.false_and, Bool.and_false]
    exact sopen_d ads n s o d x t hc ht w V T hd
  | true =>
    cases hr : rightX ⟨n, s, o, d, x⟩ with
    | false => exact sopen_r ads n s o d x t hc ht w V T hd hr
    | true =>
      refine sopen_t ads n s o d x t hc ht w V T hd hr _ ?_
      have hp := Fl.dl_plain hd
      have hx := tmX_le (rightX_tm hr)
      dsimp only at hx ⊢
      rw [flt9 (by omega) (by omega), Fl.dl_isLt (Fl.dl_of_le hp.1).1 (Fl.dl_of_le hx).1, (Fl.dl_of_le hp.1).2.2, (Fl.dl_of_le hx).2.2]
      rfl
theorem act_fields9 : Tryz.prog.underlying 23 = some (.struct (Tryz.prog.fieldsOf 23)) := by
  unfold Program.fieldsOf
  rw [Tryz.underlying23]
theorem act_eql9 (n s n2 s2 : Int) (w : World) : (binOp .eql 23 (.agg #[.int .i64 n, .int .i64 s]) (.agg #[.int .i64 n2, .int .i64 s2])).run Tryz.prog w = .ok (.bool (decide (n = n2 ∧ s = s2))) w := by
  have ha : Tryz.prog.stoodInHeld 23 = false := by kernel_rfl
  rw [run_eql_struct, show (10000 : Nat) = 9999 + 1 from rfl, run_equalIn_agg w 9999 23 _ _ act_fields9 ha]
  simp [Program.fieldsOf, Tryz.underlying23, Op.eqFields, part, go_sem]
  by_cases h0 : n = n2
  rotate_left
  · simp [h0]
  subst h0
  by_cases h1 : s = s2
  rotate_left
  · simp [h1]
  subst h1
  simp [*]
theorem act_guard9 (op : BinOp) (x y : Operand) (n s n2 s2 : Int) (w : World) : (eqGuard op 23 x y (.agg #[.int .i64 n, .int .i64 s]) (.agg #[.int .i64 n2, .int .i64 s2])).run Tryz.prog w = .ok () w := run_eqGuard_agg w op 23 x y _ _ (by kernel_rfl)
theorem same_parts9b (a b : CX) : sameX a b = (decide (a.n = b.n ∧ a.s = b.s) && ((a.o == b.o) && ((a.d == b.d) && (((Fl.plain a.x : Nat) : Int) == ((Fl.plain b.x : Nat) : Int))))) := by
  unfold sameX
  rw [Bool.eq_iff_iff]
  simp only [Bool.and_eq_true, decide_eq_true_eq, beq_iff_eq]
  constructor
  · rintro ⟨⟨h1, h2, h3, h4⟩, h5⟩; exact ⟨⟨h1, h2⟩, h3, h4, by omega⟩
  · rintro ⟨⟨h1, h2⟩, h3, h4, h5⟩; exact ⟨⟨h1, h2, h3, h4⟩, by omega⟩
set_option maxRecDepth 100000 in
set_option maxHeartbeats 8000000 in
/-- WHICH CONTEXTS ARE THE SAME. -/
theorem scoSame_any (a c : CX) (ha : a.wf) (hc : c.wf) (w : World) :
    Calls Tryz.prog 10 #[.agg a.cells, .agg c.cells] w fun e w' => e = .returned (.bool (sameX a c)) ∧ Kp w w' := by
  rw [same_parts9b]
  obtain ⟨n, s, o, d, x⟩ := a
  obtain ⟨n2, s2, o2, d2, x2⟩ := c
  replace ha : x < 18446744073709551616 := ha
  replace hc : x2 < 18446744073709551616 := hc
  dsimp only [CX.cells]
  have HB1 := fun w1 => sbits_any x w1 ha
  have HB2 := fun w1 => sbits_any x2 w1 hc
  have HE := act_eql9 n s n2 s2
  have HG := fun w => act_guard9 .eql (.tmp 6) (.tmp 8) n s n2 s2 w
  obtain ⟨e0, h0⟩ : ∃ b, decide (n = n2 ∧ s = s2) = b := ⟨_, rfl⟩
  obtain ⟨e2, h2⟩ : ∃ b, (o == o2) = b := ⟨_, rfl⟩
  obtain ⟨e3, h3⟩ : ∃ b, (d == d2) = b := ⟨_, rfl⟩
  obtain ⟨xi, hxi⟩ : ∃ y : Int, ((Fl.plain x : Nat) : Int) = y := ⟨_, rfl⟩
  obtain ⟨yi, hyi⟩ : ∃ y : Int, ((Fl.plain x2 : Nat) : Int) = y := ⟨_, rfl⟩
  rw [hxi] at HB1
  rw [hyi] at HB2
  rw [h0] at HE
  rw [h0, h2, h3, hxi, hyi]
  obtain ⟨pe, hpe⟩ : ∃ b, (xi == yi) = b := ⟨_, rfl⟩
  rw [hpe]
  have HB1 := Lib.hid HB1
  have HB2 := Lib.hid HB2
  have HE := Lib.hid HE
  have HG := Lib.hid HG
  have kb := Kp.trans (kp_alloc w (.cells #[.int .i64 n, .int .i64 s, .int .i64 o, .int .i64 d, .float .f64 x] 26)) (kp_alloc (w.alloc (.cells #[.int .i64 n, .int .i64 s, .int .i64 o, .int .i64 d, .float .f64 x] 26)) (.cells #[.int .i64 n2, .int .i64 s2, .int .i64 o2, .int .i64 d2, .float .f64 x2] 26))
  have hr := new5_0 w (.cells #[.int .i64 n, .int .i64 s, .int .i64 o, .int .i64 d, .float .f64 x] 26) (.cells #[.int .i64 n2, .int .i64 s2, .int .i64 o2, .int .i64 d2, .float .f64 x2] 26)
  have ht := new5_1 w (.cells #[.int .i64 n, .int .i64 s, .int .i64 o, .int .i64 d, .float .f64 x] 26) (.cells #[.int .i64 n2, .int .i64 s2, .int .i64 o2, .int .i64 d2, .float .f64 x2] 26)
  clear hxi hyi ha hc
  go_enter Tryz.func10, Tryz.ntmps10
  go_wp2
  obtain ⟨w0, hw0⟩ : ∃ y, (w.alloc (.cells #[.int .i64 n, .int .i64 s, .int .i64 o, .int .i64 d, .float .f64 x] 26)).alloc (.cells #[.int .i64 n2, .int .i64 s2, .int .i64 o2, .int .i64 d2, .float .f64 x2] 26) = y := ⟨_, rfl⟩
  obtain ⟨p1, hp1⟩ : ∃ y, w.heap.size + 1 = y := ⟨_, rfl⟩
  rw [hw0] at kb hr ht ⊢
  rw [hp1] at ht ⊢
  obtain ⟨p0, hp0⟩ : ∃ y, w.heap.size = y := ⟨_, rfl⟩
  rw [hp0] at hr ⊢
  obtain ⟨b0, b1, b2, b3, b4⟩ := cells5 (hr)
  obtain ⟨c0, c1, c2, c3, c4⟩ := cells5 (ht)
  have K0 := Lib.hid kb
  clear hr ht hw0 kb hp0 hp1
  refine wp_region_held_drew (S := fun w' => Kp w0 w') (by kernel_rfl) ?_ (fun hHeld => ?_)
  · exact (Kp.refl w0).drew
  refine wpAnyH_take (i := 0) (v := ?_) rfl (by kernel_rfl) (by kernel_rfl) (by kernel_rfl) (fun _ _ _ h => h) (Or.inl ⟨by rfl, ?_⟩) (by assumption) ?_
  rotate_left
  · intro w hSw; go_simp; try with_reducible rfl
  go_simp
  refine wpAnyH_take (i := 1) (v := ?_) rfl (by kernel_rfl) (by kernel_rfl) (by kernel_rfl) (fun _ _ _ h => h) (Or.inl ⟨by rfl, ?_⟩) (by assumption) ?_
  rotate_left
  · intro w hSw; have qb0 := kp_cell hSw b0; have qb1 := kp_cell hSw b1; have qb2 := kp_cell hSw b2; have qb3 := kp_cell hSw b3; have qb4 := kp_cell hSw b4; go_simp; try with_reducible rfl
  go_simp
  refine wpAnyH_take (i := 2) (v := ?_) rfl (by kernel_rfl) (by kernel_rfl) (by kernel_rfl) (fun _ _ _ h => h) (Or.inl ⟨by rfl, ?_⟩) (by assumption) ?_
  rotate_left
  · intro w hSw; go_simp; try with_reducible rfl
  go_simp
  refine wpAnyH_take (i := 3) (v := ?_) rfl (by kernel_rfl) (by kernel_rfl) (by kernel_rfl) (fun _ _ _ h => h) (Or.inl ⟨by rfl, ?_⟩) (by assumption) ?_
  rotate_left
  · intro w hSw; have qc0 := kp_cell hSw c0; have qc1 := kp_cell hSw c1; have qc2 := kp_cell hSw c2; have qc3 := kp_cell hSw c3; have qc4 := kp_cell hSw c4; go_simp; try with_reducible rfl
  go_simp
  refine wpAnyH_take (i := 4) (v := ?_) rfl (by kernel_rfl) (by kernel_rfl) (by kernel_rfl) (fun _ _ _ h => h) (Or.inl ⟨by rfl, ?_⟩) (by assumption) ?_
  rotate_left
  · intro w hSw; have qe := HE.out w; have qg := HG.out w; go_simp; try with_reducible rfl
  go_simp
  refine wpAnyH_take (i := 5) (v := ?_) rfl (by kernel_rfl) (by kernel_rfl) (by kernel_rfl) (fun _ _ _ h => h) (Or.inl ⟨by rfl, ?_⟩) (by assumption) ?_
  rotate_left
  · intro w hSw; go_simp; try with_reducible rfl
  go_simp
  cases e0 with
  | false =>
    refine wpAnyH_take (i := 6) (v := undef) rfl (by kernel_rfl) (by kernel_rfl) (by kernel_rfl) (fun _ _ _ h => h) (Or.inr ⟨by rfl, rfl⟩) (by assumption) ?_
    go_simp
    refine wpAnyH_take (i := 7) (v := undef) rfl (by kernel_rfl) (by kernel_rfl) (by kernel_rfl) (fun _ _ _ h => h) (Or.inr ⟨by rfl, rfl⟩) (by assumption) ?_
    go_simp
    refine wpAnyH_take (i := 8) (v := undef) rfl (by kernel_rfl) (by kernel_rfl) (by kernel_rfl) (fun _ _ _ h => h) (Or.inr ⟨by rfl, rfl⟩) (by assumption) ?_
    go_simp
    refine wpAnyH_take (i := 9) (v := undef) rfl (by kernel_rfl) (by kernel_rfl) (by kernel_rfl) (fun _ _ _ h => h) (Or.inr ⟨by rfl, rfl⟩) (by assumption) ?_
    go_simp
    refine wpAnyH_take (i := 10) (v := undef) rfl (by kernel_rfl) (by kernel_rfl) (by kernel_rfl) (fun _ _ _ h => h) (Or.inr ⟨by rfl, rfl⟩) (by assumption) ?_
    go_simp
    refine wpAnyH_take (i := 11) (v := ?_) rfl (by kernel_rfl) (by kernel_rfl) (by kernel_rfl) (fun _ _ _ h => h) (Or.inl ⟨by rfl, ?_⟩) (by assumption) ?_
    rotate_left
    · intro w hSw; go_simp; try with_reducible rfl
    go_simp
    refine wpAnyH_take (i := 12) (v := ?_) rfl (by kernel_rfl) (by kernel_rfl) (by kernel_rfl) (fun _ _ _ h => h) (Or.inl ⟨by rfl, ?_⟩) (by assumption) ?_
    rotate_left
    · intro w hSw; go_simp; try with_reducible rfl
    go_simp
    refine wpAnyH_take (i := 13) (v := undef) rfl (by kernel_rfl) (by kernel_rfl) (by kernel_rfl) (fun _ _ _ h => h) (Or.inr ⟨by rfl, rfl⟩) (by assumption) ?_
    go_simp
    refine wpAnyH_take (i := 14) (v := undef) rfl (by kernel_rfl) (by kernel_rfl) (by kernel_rfl) (fun _ _ _ h => h) (Or.inr ⟨by rfl, rfl⟩) (by assumption) ?_
    go_simp
    refine wpAnyH_take (i := 15) (v := undef) rfl (by kernel_rfl) (by kernel_rfl) (by kernel_rfl) (fun _ _ _ h => h) (Or.inr ⟨by rfl, rfl⟩) (by assumption) ?_
    go_simp
    refine wpAnyH_take (i := 16) (v := undef) rfl (by kernel_rfl) (by kernel_rfl) (by kernel_rfl) (fun _ _ _ h => h) (Or.inr ⟨by rfl, rfl⟩) (by assumption) ?_
    go_simp
    refine wpAnyH_take (i := 17) (v := undef) rfl (by kernel_rfl) (by kernel_rfl) (by kernel_rfl) (fun _ _ _ h => h) (Or.inr ⟨by rfl, rfl⟩) (by assumption) ?_
    go_simp
    refine wpAnyH_take (i := 18) (v := ?_) rfl (by kernel_rfl) (by kernel_rfl) (by kernel_rfl) (fun _ _ _ h => h) (Or.inl ⟨by rfl, ?_⟩) (by assumption) ?_
    rotate_left
    · intro w hSw; go_simp; try with_reducible rfl
    go_simp
    refine wpAnyH_take (i := 19) (v := ?_) rfl (by kernel_rfl) (by kernel_rfl) (by kernel_rfl) (fun _ _ _ h => h) (Or.inl ⟨by rfl, ?_⟩) (by assumption) ?_
    rotate_left
    · intro w hSw; go_simp; try with_reducible rfl
    go_simp
    refine wpAnyH_take (i := 20) (v := undef) rfl (by kernel_rfl) (by kernel_rfl) (by kernel_rfl) (fun _ _ _ h => h) (Or.inr ⟨by rfl, rfl⟩) (by assumption) ?_
    go_simp
    refine wpAnyH_take (i := 21) (v := undef) rfl (by kernel_rfl) (by kernel_rfl) (by kernel_rfl) (fun _ _ _ h => h) (Or.inr ⟨by rfl, rfl⟩) (by assumption) ?_
    go_simp
    refine wpAnyH_take (i := 22) (v := undef) rfl (by kernel_rfl) (by kernel_rfl) (by kernel_rfl) (fun _ _ _ h => h) (Or.inr ⟨by rfl, rfl⟩) (by assumption) ?_
    go_simp
    refine wpAnyH_take (i := 23) (v := undef) rfl (by kernel_rfl) (by kernel_rfl) (by kernel_rfl) (fun _ _ _ h => h) (Or.inr ⟨by rfl, rfl⟩) (by assumption) ?_
    go_simp
    refine wpAnyH_take (i := 24) (v := undef) rfl (by kernel_rfl) (by kernel_rfl) (by kernel_rfl) (fun _ _ _ h => h) (Or.inr ⟨by rfl, rfl⟩) (by assumption) ?_
    go_simp
    refine wpAnyH_take (i := 25) (v := undef) rfl (by kernel_rfl) (by kernel_rfl) (by kernel_rfl) (fun _ _ _ h => h) (Or.inr ⟨by rfl, rfl⟩) (by assumption) ?_
    go_simp
    refine wpAnyH_take (i := 26) (v := undef) rfl (by kernel_rfl) (by kernel_rfl) (by kernel_rfl) (fun _ _ _ h => h) (Or.inr ⟨by rfl, rfl⟩) (by assumption) ?_
    go_simp
    refine wpAnyH_take (i := 27) (v := ?_) rfl (by kernel_rfl) (by kernel_rfl) (by kernel_rfl) (fun _ _ _ h => h) (Or.inl ⟨by rfl, ?_⟩) (by assumption) ?_
    rotate_left
    · intro w hSw; go_simp; try with_reducible rfl
    go_simp
    refine wpAnyH_take (i := 28) (v := ?_) rfl (by kernel_rfl) (by kernel_rfl) (by kernel_rfl) (fun _ _ _ h => h) (Or.inl ⟨by rfl, ?_⟩) (by assumption) ?_
    rotate_left
    · intro w hSw; go_simp; try with_reducible rfl
    go_simp
    refine wpAnyH_done (by kernel_rfl) ?_ _
    go_wp2
    go_ret
    exact ⟨by first | rfl | simp, Kp.trans K0.out hHeld⟩
  | true =>
    refine wpAnyH_take (i := 6) (v := ?_) rfl (by kernel_rfl) (by kernel_rfl) (by kernel_rfl) (fun _ _ _ h => h) (Or.inl ⟨by rfl, ?_⟩) (by assumption) ?_
    rotate_left
    · intro w hSw; go_simp; try with_reducible rfl
    go_simp
    refine wpAnyH_take (i := 7) (v := ?_) rfl (by kernel_rfl) (by kernel_rfl) (by kernel_rfl) (fun _ _ _ h => h) (Or.inl ⟨by rfl, ?_⟩) (by assumption) ?_
    rotate_left
    · intro w hSw; have qb0 := kp_cell hSw b0; have qb1 := kp_cell hSw b1; have qb2 := kp_cell hSw b2; have qb3 := kp_cell hSw b3; have qb4 := kp_cell hSw b4; go_simp; try with_reducible rfl
    go_simp
    refine wpAnyH_take (i := 8) (v := ?_) rfl (by kernel_rfl) (by kernel_rfl) (by kernel_rfl) (fun _ _ _ h => h) (Or.inl ⟨by rfl, ?_⟩) (by assumption) ?_
    rotate_left
    · intro w hSw; go_simp; try with_reducible rfl
    go_simp
    refine wpAnyH_take (i := 9) (v := ?_) rfl (by kernel_rfl) (by kernel_rfl) (by kernel_rfl) (fun _ _ _ h => h) (Or.inl ⟨by rfl, ?_⟩) (by assumption) ?_
    rotate_left
    · intro w hSw; have qc0 := kp_cell hSw c0; have qc1 := kp_cell hSw c1; have qc2 := kp_cell hSw c2; have qc3 := kp_cell hSw c3; have qc4 := kp_cell hSw c4; go_simp; try with_reducible rfl
    go_simp
    refine wpAnyH_take (i := 10) (v := ?_) rfl (by kernel_rfl) (by kernel_rfl) (by kernel_rfl) (fun _ _ _ h => h) (Or.inl ⟨by rfl, ?_⟩) (by assumption) ?_
    rotate_left
    · intro w hSw; go_simp; try with_reducible rfl
    go_simp
    refine wpAnyH_take (i := 11) (v := ?_) rfl (by kernel_rfl) (by kernel_rfl) (by kernel_rfl) (fun _ _ _ h => h) (Or.inl ⟨by rfl, ?_⟩) (by assumption) ?_
    rotate_left
    · intro w hSw; go_simp; try with_reducible rfl
    go_simp
    refine wpAnyH_take (i := 12) (v := ?_) rfl (by kernel_rfl) (by kernel_rfl) (by kernel_rfl) (fun _ _ _ h => h) (Or.inl ⟨by rfl, ?_⟩) (by assumption) ?_
    rotate_left
    · intro w hSw; go_simp; try with_reducible rfl
    go_simp
    cases e2 with
    | false =>
      refine wpAnyH_take (i := 13) (v := undef) rfl (by kernel_rfl) (by kernel_rfl) (by kernel_rfl) (fun _ _ _ h => h) (Or.inr ⟨by rfl, rfl⟩) (by assumption) ?_
      go_simp
      refine wpAnyH_take (i := 14) (v := undef) rfl (by kernel_rfl) (by kernel_rfl) (by kernel_rfl) (fun _ _ _ h => h) (Or.inr ⟨by rfl, rfl⟩) (by assumption) ?_
      go_simp
      refine wpAnyH_take (i := 15) (v := undef) rfl (by kernel_rfl) (by kernel_rfl) (by kernel_rfl) (fun _ _ _ h => h) (Or.inr ⟨by rfl, rfl⟩) (by assumption) ?_
      go_simp
      refine wpAnyH_take (i := 16) (v := undef) rfl (by kernel_rfl) (by kernel_rfl) (by kernel_rfl) (fun _ _ _ h => h) (Or.inr ⟨by rfl, rfl⟩) (by assumption) ?_
      go_simp
      refine wpAnyH_take (i := 17) (v := undef) rfl (by kernel_rfl) (by kernel_rfl) (by kernel_rfl) (fun _ _ _ h => h) (Or.inr ⟨by rfl, rfl⟩) (by assumption) ?_
      go_simp
      refine wpAnyH_take (i := 18) (v := ?_) rfl (by kernel_rfl) (by kernel_rfl) (by kernel_rfl) (fun _ _ _ h => h) (Or.inl ⟨by rfl, ?_⟩) (by assumption) ?_
      rotate_left
      · intro w hSw; go_simp; try with_reducible rfl
      go_simp
      refine wpAnyH_take (i := 19) (v := ?_) rfl (by kernel_rfl) (by kernel_rfl) (by kernel_rfl) (fun _ _ _ h => h) (Or.inl ⟨by rfl, ?_⟩) (by assumption) ?_
      rotate_left
      · intro w hSw; go_simp; try with_reducible rfl
      go_simp
      refine wpAnyH_take (i := 20) (v := undef) rfl (by kernel_rfl) (by kernel_rfl) (by kernel_rfl) (fun _ _ _ h => h) (Or.inr ⟨by rfl, rfl⟩) (by assumption) ?_
      go_simp
      refine wpAnyH_take (i := 21) (v := undef) rfl (by kernel_rfl) (by kernel_rfl) (by kernel_rfl) (fun _ _ _ h => h) (Or.inr ⟨by rfl, rfl⟩) (by assumption) ?_
      go_simp
      refine wpAnyH_take (i := 22) (v := undef) rfl (by kernel_rfl) (by kernel_rfl) (by kernel_rfl) (fun _ _ _ h => h) (Or.inr ⟨by rfl, rfl⟩) (by assumption) ?_
      go_simp
      refine wpAnyH_take (i := 23) (v := undef) rfl (by kernel_rfl) (by kernel_rfl) (by kernel_rfl) (fun _ _ _ h => h) (Or.inr ⟨by rfl, rfl⟩) (by assumption) ?_
      go_simp
      refine wpAnyH_take (i := 24) (v := undef) rfl (by kernel_rfl) (by kernel_rfl) (by kernel_rfl) (fun _ _ _ h => h) (Or.inr ⟨by rfl, rfl⟩) (by assumption) ?_
      go_simp
      refine wpAnyH_take (i := 25) (v := undef) rfl (by kernel_rfl) (by kernel_rfl) (by kernel_rfl) (fun _ _ _ h => h) (Or.inr ⟨by rfl, rfl⟩) (by assumption) ?_
      go_simp
      refine wpAnyH_take (i := 26) (v := undef) rfl (by kernel_rfl) (by kernel_rfl) (by kernel_rfl) (fun _ _ _ h => h) (Or.inr ⟨by rfl, rfl⟩) (by assumption) ?_
      go_simp
      refine wpAnyH_take (i := 27) (v := ?_) rfl (by kernel_rfl) (by kernel_rfl) (by kernel_rfl) (fun _ _ _ h => h) (Or.inl ⟨by rfl, ?_⟩) (by assumption) ?_
      rotate_left
      · intro w hSw; go_simp; try with_reducible rfl
      go_simp
      refine wpAnyH_take (i := 28) (v := ?_) rfl (by kernel_rfl) (by kernel_rfl) (by kernel_rfl) (fun _ _ _ h => h) (Or.inl ⟨by rfl, ?_⟩) (by assumption) ?_
      rotate_left
      · intro w hSw; go_simp; try with_reducible rfl
      go_simp
      refine wpAnyH_done (by kernel_rfl) ?_ _
      go_wp2
      go_ret
      exact ⟨by first | rfl | simp, Kp.trans K0.out hHeld⟩
    | true =>
      refine wpAnyH_take (i := 13) (v := ?_) rfl (by kernel_rfl) (by kernel_rfl) (by kernel_rfl) (fun _ _ _ h => h) (Or.inl ⟨by rfl, ?_⟩) (by assumption) ?_
      rotate_left
      · intro w hSw; go_simp; try with_reducible rfl
      go_simp
      refine wpAnyH_take (i := 14) (v := ?_) rfl (by kernel_rfl) (by kernel_rfl) (by kernel_rfl) (fun _ _ _ h => h) (Or.inl ⟨by rfl, ?_⟩) (by assumption) ?_
      rotate_left
      · intro w hSw; have qb0 := kp_cell hSw b0; have qb1 := kp_cell hSw b1; have qb2 := kp_cell hSw b2; have qb3 := kp_cell hSw b3; have qb4 := kp_cell hSw b4; go_simp; try with_reducible rfl
      go_simp
      refine wpAnyH_take (i := 15) (v := ?_) rfl (by kernel_rfl) (by kernel_rfl) (by kernel_rfl) (fun _ _ _ h => h) (Or.inl ⟨by rfl, ?_⟩) (by assumption) ?_
      rotate_left
      · intro w hSw; go_simp; try with_reducible rfl
      go_simp
      refine wpAnyH_take (i := 16) (v := ?_) rfl (by kernel_rfl) (by kernel_rfl) (by kernel_rfl) (fun _ _ _ h => h) (Or.inl ⟨by rfl, ?_⟩) (by assumption) ?_
      rotate_left
      · intro w hSw; have qc0 := kp_cell hSw c0; have qc1 := kp_cell hSw c1; have qc2 := kp_cell hSw c2; have qc3 := kp_cell hSw c3; have qc4 := kp_cell hSw c4; go_simp; try with_reducible rfl
      go_simp
      refine wpAnyH_take (i := 17) (v := ?_) rfl (by kernel_rfl) (by kernel_rfl) (by kernel_rfl) (fun _ _ _ h => h) (Or.inl ⟨by rfl, ?_⟩) (by assumption) ?_
      rotate_left
      · intro w hSw; go_simp; try with_reducible rfl
      go_simp
      refine wpAnyH_take (i := 18) (v := ?_) rfl (by kernel_rfl) (by kernel_rfl) (by kernel_rfl) (fun _ _ _ h => h) (Or.inl ⟨by rfl, ?_⟩) (by assumption) ?_
      rotate_left
      · intro w hSw; go_simp; try with_reducible rfl
      go_simp
      refine wpAnyH_take (i := 19) (v := ?_) rfl (by kernel_rfl) (by kernel_rfl) (by kernel_rfl) (fun _ _ _ h => h) (Or.inl ⟨by rfl, ?_⟩) (by assumption) ?_
      rotate_left
      · intro w hSw; go_simp; try with_reducible rfl
      go_simp
      cases e3 with
      | false =>
        refine wpAnyH_take (i := 20) (v := undef) rfl (by kernel_rfl) (by kernel_rfl) (by kernel_rfl) (fun _ _ _ h => h) (Or.inr ⟨by rfl, rfl⟩) (by assumption) ?_
        go_simp
        refine wpAnyH_take (i := 21) (v := undef) rfl (by kernel_rfl) (by kernel_rfl) (by kernel_rfl) (fun _ _ _ h => h) (Or.inr ⟨by rfl, rfl⟩) (by assumption) ?_
        go_simp
        refine wpAnyH_take (i := 22) (v := undef) rfl (by kernel_rfl) (by kernel_rfl) (by kernel_rfl) (fun _ _ _ h => h) (Or.inr ⟨by rfl, rfl⟩) (by assumption) ?_
        go_simp
        refine wpAnyH_take (i := 23) (v := undef) rfl (by kernel_rfl) (by kernel_rfl) (by kernel_rfl) (fun _ _ _ h => h) (Or.inr ⟨by rfl, rfl⟩) (by assumption) ?_
        go_simp
        refine wpAnyH_take (i := 24) (v := undef) rfl (by kernel_rfl) (by kernel_rfl) (by kernel_rfl) (fun _ _ _ h => h) (Or.inr ⟨by rfl, rfl⟩) (by assumption) ?_
        go_simp
        refine wpAnyH_take (i := 25) (v := undef) rfl (by kernel_rfl) (by kernel_rfl) (by kernel_rfl) (fun _ _ _ h => h) (Or.inr ⟨by rfl, rfl⟩) (by assumption) ?_
        go_simp
        refine wpAnyH_take (i := 26) (v := undef) rfl (by kernel_rfl) (by kernel_rfl) (by kernel_rfl) (fun _ _ _ h => h) (Or.inr ⟨by rfl, rfl⟩) (by assumption) ?_
        go_simp
        refine wpAnyH_take (i := 27) (v := ?_) rfl (by kernel_rfl) (by kernel_rfl) (by kernel_rfl) (fun _ _ _ h => h) (Or.inl ⟨by rfl, ?_⟩) (by assumption) ?_
        rotate_left
        · intro w hSw; go_simp; try with_reducible rfl
        go_simp
        refine wpAnyH_take (i := 28) (v := ?_) rfl (by kernel_rfl) (by kernel_rfl) (by kernel_rfl) (fun _ _ _ h => h) (Or.inl ⟨by rfl, ?_⟩) (by assumption) ?_
        rotate_left
        · intro w hSw; go_simp; try with_reducible rfl
        go_simp
        refine wpAnyH_done (by kernel_rfl) ?_ _
        go_wp2
        go_ret
        exact ⟨by first | rfl | simp, Kp.trans K0.out hHeld⟩
      | true =>
        refine wpAnyH_take (i := 20) (v := ?_) rfl (by kernel_rfl) (by kernel_rfl) (by kernel_rfl) (fun _ _ _ h => h) (Or.inl ⟨by rfl, ?_⟩) (by assumption) ?_
        rotate_left
        · intro w hSw; go_simp; try with_reducible rfl
        go_simp
        refine wpAnyH_take (i := 21) (v := ?_) rfl (by kernel_rfl) (by kernel_rfl) (by kernel_rfl) (fun _ _ _ h => h) (Or.inl ⟨by rfl, ?_⟩) (by assumption) ?_
        rotate_left
        · intro w hSw; have qb0 := kp_cell hSw b0; have qb1 := kp_cell hSw b1; have qb2 := kp_cell hSw b2; have qb3 := kp_cell hSw b3; have qb4 := kp_cell hSw b4; go_simp; try with_reducible rfl
        go_simp
        refine wpAnyH_take (i := 23) (v := ?_) rfl (by kernel_rfl) (by kernel_rfl) (by kernel_rfl) (fun _ _ _ h => h) (Or.inl ⟨by rfl, ?_⟩) (by assumption) ?_
        rotate_left
        · intro w hSw; go_simp; try with_reducible rfl
        go_simp
        refine wpAnyH_take (i := 24) (v := ?_) rfl (by kernel_rfl) (by kernel_rfl) (by kernel_rfl) (fun _ _ _ h => h) (Or.inl ⟨by rfl, ?_⟩) (by assumption) ?_
        rotate_left
        · intro w hSw; have qc0 := kp_cell hSw c0; have qc1 := kp_cell hSw c1; have qc2 := kp_cell hSw c2; have qc3 := kp_cell hSw c3; have qc4 := kp_cell hSw c4; go_simp; try with_reducible rfl
        go_simp
        refine wpAnyH_ready (rs := [22]) (by kernel_rfl) (by simp) ?_
        refine AllReadyH.cons rfl (fun K hK => ?_) AllReadyH.nil
        go_simp
        go_wp2_with (go_at_call 40; (with_reducible refine (HB1.out _).mono ?_); rintro e w' ⟨rfl, rfl⟩)
        refine hK.out _ _ ?_ (fun hHeld => ?_)
        · exact hHeld
        clear hK K
        refine wpAnyH_ready (rs := [25]) (by kernel_rfl) (by simp) ?_
        refine AllReadyH.cons rfl (fun K hK => ?_) AllReadyH.nil
        go_simp
        go_wp2_with (go_at_call 40; (with_reducible refine (HB2.out _).mono ?_); rintro e w' ⟨rfl, rfl⟩)
        refine hK.out _ _ ?_ (fun hHeld => ?_)
        · exact hHeld
        clear hK K
        refine wpAnyH_take (i := 26) (v := ?_) rfl (by kernel_rfl) (by kernel_rfl) (by kernel_rfl) (fun _ _ _ h => h) (Or.inl ⟨by rfl, ?_⟩) (by assumption) ?_
        rotate_left
        · intro w hSw; go_simp; try with_reducible rfl
        go_simp
        refine wpAnyH_take (i := 27) (v := ?_) rfl (by kernel_rfl) (by kernel_rfl) (by kernel_rfl) (fun _ _ _ h => h) (Or.inl ⟨by rfl, ?_⟩) (by assumption) ?_
        rotate_left
        · intro w hSw; go_simp; try with_reducible rfl
        go_simp
        refine wpAnyH_take (i := 28) (v := ?_) rfl (by kernel_rfl) (by kernel_rfl) (by kernel_rfl) (fun _ _ _ h => h) (Or.inl ⟨by rfl, ?_⟩) (by assumption) ?_
        rotate_left
        · intro w hSw; go_simp; try with_reducible rfl
        go_simp
        refine wpAnyH_done (by kernel_rfl) ?_ _
        go_wp2
        go_ret
        exact ⟨by first | rfl | simp, Kp.trans K0.out hHeld⟩
end Go.Proofs.YtldamfpoemgkpaaGreatDoor

