/-
  catch.Try (own work), at []byte, []Field, int, float64, bool: what is done answers; it panics with one of package api's errors.
-/
import Derived.Test.YtfealdllicicnaaDoorPvE
import Derived.Defers
namespace Go.Proofs.YtfealdllicicnaaDoor
open Go.RowKit Go.Extern.Stop Go.Stop Go.Extern

/-- BLOCKS FROM B ON ARE AS THEY WERE. -/
def Past (B : Nat) (w w' : World) : Prop := w.heap.size ≤ w'.heap.size ∧ ∀ b, B ≤ b → b < w.heap.size → w'.heap[b]? = w.heap[b]?
/-- ALL BUT THE BLOCKS B, B + 1 IS AS IT WAS. -/
def Aside (B : Nat) (w w' : World) : Prop := w.heap.size ≤ w'.heap.size ∧ ∀ b, b ≠ B → b ≠ B + 1 → w'.heap[b]? = w.heap[b]?
theorem Aside.below {B : Nat} {w w' : World} (h : Below B w w') (hs : ∀ b, b ≠ B → b ≠ B + 1 → w'.heap[b]? = w.heap[b]?) : Aside B w w' := ⟨h.size, hs⟩
theorem past_of {w0 w w' : World} (h : Kp w w') : Past w0.heap.size w w' := ⟨Below.size h, fun b _ hb => Below.block h b hb⟩
/-- WHAT IS DONE WITHIN, between two stretches that turn no old memory. -/
def Mid (w : World) (G : World → World → Prop) (w' : World) : Prop := ∃ w1 w2, Below w.heap.size w w1 ∧ w1.heap.size = w.heap.size + 2 ∧ G w1 w2 ∧ Below w.heap.size w2 w'

theorem own_aside {w w' : World} {B base : Nat} {e : TypeId} {size n : Nat} {v : Value} {xs : List Value} (h : w.ownsRow base e size v n xs) (ha : Aside B w w') (hb : B + 2 ≤ base) : w'.ownsRow base e size v n xs := by
  obtain ⟨h1, h2⟩ := h
  refine ⟨h1, ?_⟩
  rcases h2 with h2 | ⟨g, cap, cur, hv, hg, hh, r⟩
  · exact Or.inl h2
  · exact Or.inr ⟨g, cap, cur, hv, hg, by rw [ha.2 g (by omega) (by omega)]; exact hh, r⟩

theorem try_new0 (w : World) (o o' : Obj) : ((w.alloc o).alloc o').heap[w.heap.size]? = some o := by
  rw [Below.heap_alloc _ _ _ (by simp)]
  exact (MapKept.heap_alloc w o).1
theorem try_new1 (w : World) (o o' : Obj) : ((w.alloc o).alloc o').heap[w.heap.size + 1]? = some o' := by
  have := (MapKept.heap_alloc (w.alloc o) o').1
  simpa using this
theorem heap_setCell_other (w : World) (q : Addr) (v : Value) (b : Nat) (h : b ≠ q.block) : (w.setCell q v).heap[b]? = w.heap[b]? := Below.heap_setCell w q v b h


theorem door_bytes_panic (ads : List Addr) (p q : Addr) (old : Value) (k : Nat) (hk : k < ads.length) (older : List PanicEntry) (w : World) (V : St ads w)
    (hp : w.cell? p = some (.bool true)) (hq : w.cell? q = some old) (hz : w.frozen? q = false) :
    CallsD Tryd.prog 58 #[.pointer (some p), .pointer (some q)] (.panicking ({ v := snt ads[k], recovered := false } :: older)) w fun e u' w' =>
      e = .returned (.tuple #[]) ∧ u' = .panicking ({ v := snt ads[k], recovered := true } :: older) ∧ ∃ w1, Kp w w1 ∧ w' = w1.setCell q (snt ads[k]) := by
  have hqb := old_of_cell hq
  have hn := errorOf_any ads w V k hk
  obtain ⟨a, ha⟩ : ∃ a, ads[k] = a := ⟨_, rfl⟩
  rw [ha] at hn ⊢
  clear ha V
  refine callsD_of_wpS Tryd.func58 rfl fun c₀ cs hu => ?_
  apply wpS_seq
  apply wpS_region
  simp [wpOpsS, go_sem, recoverD, hu, Tryd.ntmps58, Exit.thenS]
  refine wpS_of_wp ?_
  change Code.wp _ _ _ { tmps := #[.pointer (some p), .pointer (some q), snt a, snt a, undef, undef, undef], defers := [] } _
  have HN := Lib.hid hn
  have HU := Lib.hid hu
  clear hn hu
  go_wp2_with (go_at_call 59; (with_reducible refine HN.out.mono ?_); rintro e w1 ⟨rfl, hw⟩; have hq1 : w1.cell? q = some old := (by rw [Below.cell hw hqb]; exact hq); have hz1 : w1.frozen? q = false := (by rw [Below.frozen hw hqb]; exact hz))
  exact ⟨rfl, _, rfl, _, results_none rfl _ _ _, rfl, rfl, w1, hw, rfl⟩

theorem door_bytes_idle (p q : Addr) (w : World) (hp : w.cell? p = some (.bool false)) :
    CallsD Tryd.prog 58 #[.pointer (some p), .pointer (some q)] .returning w fun e u' w' => e = .returned (.tuple #[]) ∧ u' = .returning ∧ w' = w := by
  refine callsD_of_wpS Tryd.func58 rfl fun c₀ cs hu => ?_
  apply wpS_seq
  apply wpS_region
  simp [wpOpsS, go_sem, recoverD, hu, Tryd.ntmps58, Exit.thenS]
  refine wpS_of_wp ?_
  change Code.wp _ _ _ { tmps := #[.pointer (some p), .pointer (some q), .nilIface, .nilIface, undef, undef, undef], defers := [] } _
  go_wp2
  cases c₀
  simp only at hu
  subst hu
  exact ⟨rfl, _, rfl, _, results_none rfl _ _ _, rfl, rfl, rfl⟩


theorem door_fields_panic (ads : List Addr) (p q : Addr) (old : Value) (k : Nat) (hk : k < ads.length) (older : List PanicEntry) (w : World) (V : St ads w)
    (hp : w.cell? p = some (.bool true)) (hq : w.cell? q = some old) (hz : w.frozen? q = false) :
    CallsD Tryd.prog 63 #[.pointer (some p), .pointer (some q)] (.panicking ({ v := snt ads[k], recovered := false } :: older)) w fun e u' w' =>
      e = .returned (.tuple #[]) ∧ u' = .panicking ({ v := snt ads[k], recovered := true } :: older) ∧ ∃ w1, Kp w w1 ∧ w' = w1.setCell q (snt ads[k]) := by
  have hqb := old_of_cell hq
  have hn := errorOf_any ads w V k hk
  obtain ⟨a, ha⟩ : ∃ a, ads[k] = a := ⟨_, rfl⟩
  rw [ha] at hn ⊢
  clear ha V
  refine callsD_of_wpS Tryd.func63 rfl fun c₀ cs hu => ?_
  apply wpS_seq
  apply wpS_region
  simp [wpOpsS, go_sem, recoverD, hu, Tryd.ntmps63, Exit.thenS]
  refine wpS_of_wp ?_
  change Code.wp _ _ _ { tmps := #[.pointer (some p), .pointer (some q), snt a, snt a, undef, undef, undef], defers := [] } _
  have HN := Lib.hid hn
  have HU := Lib.hid hu
  clear hn hu
  go_wp2_with (go_at_call 59; (with_reducible refine HN.out.mono ?_); rintro e w1 ⟨rfl, hw⟩; have hq1 : w1.cell? q = some old := (by rw [Below.cell hw hqb]; exact hq); have hz1 : w1.frozen? q = false := (by rw [Below.frozen hw hqb]; exact hz))
  exact ⟨rfl, _, rfl, _, results_none rfl _ _ _, rfl, rfl, w1, hw, rfl⟩

theorem door_fields_idle (p q : Addr) (w : World) (hp : w.cell? p = some (.bool false)) :
    CallsD Tryd.prog 63 #[.pointer (some p), .pointer (some q)] .returning w fun e u' w' => e = .returned (.tuple #[]) ∧ u' = .returning ∧ w' = w := by
  refine callsD_of_wpS Tryd.func63 rfl fun c₀ cs hu => ?_
  apply wpS_seq
  apply wpS_region
  simp [wpOpsS, go_sem, recoverD, hu, Tryd.ntmps63, Exit.thenS]
  refine wpS_of_wp ?_
  change Code.wp _ _ _ { tmps := #[.pointer (some p), .pointer (some q), .nilIface, .nilIface, undef, undef, undef], defers := [] } _
  go_wp2
  cases c₀
  simp only at hu
  subst hu
  exact ⟨rfl, _, rfl, _, results_none rfl _ _ _, rfl, rfl, rfl⟩


theorem door_int_panic (ads : List Addr) (p q : Addr) (old : Value) (k : Nat) (hk : k < ads.length) (older : List PanicEntry) (w : World) (V : St ads w)
    (hp : w.cell? p = some (.bool true)) (hq : w.cell? q = some old) (hz : w.frozen? q = false) :
    CallsD Tryd.prog 64 #[.pointer (some p), .pointer (some q)] (.panicking ({ v := snt ads[k], recovered := false } :: older)) w fun e u' w' =>
      e = .returned (.tuple #[]) ∧ u' = .panicking ({ v := snt ads[k], recovered := true } :: older) ∧ ∃ w1, Kp w w1 ∧ w' = w1.setCell q (snt ads[k]) := by
  have hqb := old_of_cell hq
  have hn := errorOf_any ads w V k hk
  obtain ⟨a, ha⟩ : ∃ a, ads[k] = a := ⟨_, rfl⟩
  rw [ha] at hn ⊢
  clear ha V
  refine callsD_of_wpS Tryd.func64 rfl fun c₀ cs hu => ?_
  apply wpS_seq
  apply wpS_region
  simp [wpOpsS, go_sem, recoverD, hu, Tryd.ntmps64, Exit.thenS]
  refine wpS_of_wp ?_
  change Code.wp _ _ _ { tmps := #[.pointer (some p), .pointer (some q), snt a, snt a, undef, undef, undef], defers := [] } _
  have HN := Lib.hid hn
  have HU := Lib.hid hu
  clear hn hu
  go_wp2_with (go_at_call 59; (with_reducible refine HN.out.mono ?_); rintro e w1 ⟨rfl, hw⟩; have hq1 : w1.cell? q = some old := (by rw [Below.cell hw hqb]; exact hq); have hz1 : w1.frozen? q = false := (by rw [Below.frozen hw hqb]; exact hz))
  exact ⟨rfl, _, rfl, _, results_none rfl _ _ _, rfl, rfl, w1, hw, rfl⟩

theorem door_int_idle (p q : Addr) (w : World) (hp : w.cell? p = some (.bool false)) :
    CallsD Tryd.prog 64 #[.pointer (some p), .pointer (some q)] .returning w fun e u' w' => e = .returned (.tuple #[]) ∧ u' = .returning ∧ w' = w := by
  refine callsD_of_wpS Tryd.func64 rfl fun c₀ cs hu => ?_
  apply wpS_seq
  apply wpS_region
  simp [wpOpsS, go_sem, recoverD, hu, Tryd.ntmps64, Exit.thenS]
  refine wpS_of_wp ?_
  change Code.wp _ _ _ { tmps := #[.pointer (some p), .pointer (some q), .nilIface, .nilIface, undef, undef, undef], defers := [] } _
  go_wp2
  cases c₀
  simp only at hu
  subst hu
  exact ⟨rfl, _, rfl, _, results_none rfl _ _ _, rfl, rfl, rfl⟩


theorem door_f64_panic (ads : List Addr) (p q : Addr) (old : Value) (k : Nat) (hk : k < ads.length) (older : List PanicEntry) (w : World) (V : St ads w)
    (hp : w.cell? p = some (.bool true)) (hq : w.cell? q = some old) (hz : w.frozen? q = false) :
    CallsD Tryd.prog 66 #[.pointer (some p), .pointer (some q)] (.panicking ({ v := snt ads[k], recovered := false } :: older)) w fun e u' w' =>
      e = .returned (.tuple #[]) ∧ u' = .panicking ({ v := snt ads[k], recovered := true } :: older) ∧ ∃ w1, Kp w w1 ∧ w' = w1.setCell q (snt ads[k]) := by
  have hqb := old_of_cell hq
  have hn := errorOf_any ads w V k hk
  obtain ⟨a, ha⟩ : ∃ a, ads[k] = a := ⟨_, rfl⟩
  rw [ha] at hn ⊢
  clear ha V
  refine callsD_of_wpS Tryd.func66 rfl fun c₀ cs hu => ?_
  apply wpS_seq
  apply wpS_region
  simp [wpOpsS, go_sem, recoverD, hu, Tryd.ntmps66, Exit.thenS]
  refine wpS_of_wp ?_
  change Code.wp _ _ _ { tmps := #[.pointer (some p), .pointer (some q), snt a, snt a, undef, undef, undef], defers := [] } _
  have HN := Lib.hid hn
  have HU := Lib.hid hu
  clear hn hu
  go_wp2_with (go_at_call 59; (with_reducible refine HN.out.mono ?_); rintro e w1 ⟨rfl, hw⟩; have hq1 : w1.cell? q = some old := (by rw [Below.cell hw hqb]; exact hq); have hz1 : w1.frozen? q = false := (by rw [Below.frozen hw hqb]; exact hz))
  exact ⟨rfl, _, rfl, _, results_none rfl _ _ _, rfl, rfl, w1, hw, rfl⟩

theorem door_f64_idle (p q : Addr) (w : World) (hp : w.cell? p = some (.bool false)) :
    CallsD Tryd.prog 66 #[.pointer (some p), .pointer (some q)] .returning w fun e u' w' => e = .returned (.tuple #[]) ∧ u' = .returning ∧ w' = w := by
  refine callsD_of_wpS Tryd.func66 rfl fun c₀ cs hu => ?_
  apply wpS_seq
  apply wpS_region
  simp [wpOpsS, go_sem, recoverD, hu, Tryd.ntmps66, Exit.thenS]
  refine wpS_of_wp ?_
  change Code.wp _ _ _ { tmps := #[.pointer (some p), .pointer (some q), .nilIface, .nilIface, undef, undef, undef], defers := [] } _
  go_wp2
  cases c₀
  simp only at hu
  subst hu
  exact ⟨rfl, _, rfl, _, results_none rfl _ _ _, rfl, rfl, rfl⟩


theorem door_bool_panic (ads : List Addr) (p q : Addr) (old : Value) (k : Nat) (hk : k < ads.length) (older : List PanicEntry) (w : World) (V : St ads w)
    (hp : w.cell? p = some (.bool true)) (hq : w.cell? q = some old) (hz : w.frozen? q = false) :
    CallsD Tryd.prog 67 #[.pointer (some p), .pointer (some q)] (.panicking ({ v := snt ads[k], recovered := false } :: older)) w fun e u' w' =>
      e = .returned (.tuple #[]) ∧ u' = .panicking ({ v := snt ads[k], recovered := true } :: older) ∧ ∃ w1, Kp w w1 ∧ w' = w1.setCell q (snt ads[k]) := by
  have hqb := old_of_cell hq
  have hn := errorOf_any ads w V k hk
  obtain ⟨a, ha⟩ : ∃ a, ads[k] = a := ⟨_, rfl⟩
  rw [ha] at hn ⊢
  clear ha V
  refine callsD_of_wpS Tryd.func67 rfl fun c₀ cs hu => ?_
  apply wpS_seq
  apply wpS_region
  simp [wpOpsS, go_sem, recoverD, hu, Tryd.ntmps67, Exit.thenS]
  refine wpS_of_wp ?_
  change Code.wp _ _ _ { tmps := #[.pointer (some p), .pointer (some q), snt a, snt a, undef, undef, undef], defers := [] } _
  have HN := Lib.hid hn
  have HU := Lib.hid hu
  clear hn hu
  go_wp2_with (go_at_call 59; (with_reducible refine HN.out.mono ?_); rintro e w1 ⟨rfl, hw⟩; have hq1 : w1.cell? q = some old := (by rw [Below.cell hw hqb]; exact hq); have hz1 : w1.frozen? q = false := (by rw [Below.frozen hw hqb]; exact hz))
  exact ⟨rfl, _, rfl, _, results_none rfl _ _ _, rfl, rfl, w1, hw, rfl⟩

theorem door_bool_idle (p q : Addr) (w : World) (hp : w.cell? p = some (.bool false)) :
    CallsD Tryd.prog 67 #[.pointer (some p), .pointer (some q)] .returning w fun e u' w' => e = .returned (.tuple #[]) ∧ u' = .returning ∧ w' = w := by
  refine callsD_of_wpS Tryd.func67 rfl fun c₀ cs hu => ?_
  apply wpS_seq
  apply wpS_region
  simp [wpOpsS, go_sem, recoverD, hu, Tryd.ntmps67, Exit.thenS]
  refine wpS_of_wp ?_
  change Code.wp _ _ _ { tmps := #[.pointer (some p), .pointer (some q), .nilIface, .nilIface, undef, undef, undef], defers := [] } _
  go_wp2
  cases c₀
  simp only at hu
  subst hu
  exact ⟨rfl, _, rfl, _, results_none rfl _ _ _, rfl, rfl, rfl⟩


set_option maxRecDepth 20000 in
theorem try_bytes_ret (f : FuncId) (caps : Array Value) (w : World) (G : Value → World → World → Prop) (hf : ∀ w, (callFunc f caps).run Tryd.prog w = .ok (.enter f caps) w)
    (H : ∀ w1, Below w.heap.size w w1 → w1.heap.size = w.heap.size + 2 → Calls Tryd.prog f caps w1 fun e w2 => ∃ v, e = .returned v ∧ Past w.heap.size w1 w2 ∧ G v w1 w2) :
    Calls Tryd.prog 35 #[.func (.func f) #[] caps] w fun e w' => ∃ v, e = .returned (.tuple #[v, .nilIface]) ∧ ∃ w1 w2, Below w.heap.size w w1 ∧ w1.heap.size = w.heap.size + 2 ∧ G v w1 w2 ∧ Below w.heap.size w2 w' ∧ Aside w.heap.size w2 w' := by
  have hmf : ∀ (fn : Fn) (first cap : Array Value) (w : World), (Instr.makeFunc fn first cap).run Tryd.prog w = .ok (.func fn first cap) w := fun _ _ _ _ => rfl
  have hN : ((w.alloc (.cells #[.nilIface] 29)).alloc (.cells #[.bool true] 4)).heap[w.heap.size]? = some (.cells #[.nilIface] 29) := try_new0 _ _ _
  have hM : ((w.alloc (.cells #[.nilIface] 29)).alloc (.cells #[.bool true] 4)).heap[w.heap.size + 1]? = some (.cells #[.bool true] 4) := try_new1 _ _ _
  have hB : Below w.heap.size w ((w.alloc (.cells #[.nilIface] 29)).alloc (.cells #[.bool true] 4)) := ((Below.refl _ _).alloc (Nat.le_refl _) _).alloc (by simp) _
  have hS : ((w.alloc (.cells #[.nilIface] 29)).alloc (.cells #[.bool true] 4)).heap.size = w.heap.size + 2 := by simp
  have HH := Lib.hid H
  have HN := Lib.hid hN
  have HM := Lib.hid hM
  have HB := Lib.hid hB
  have HS := Lib.hid hS
  clear H hN hM hB hS
  go_enter_defers Tryd.func35, Tryd.ntmps35
  go_wp2
  with_reducible refine (HH.out _ HB.out HS.out).mono ?_
  rintro e w2 ⟨v, rfl, hP, hG⟩
  have e0 : w2.heap[w.heap.size]? = some (.cells #[.nilIface] 29) := (hP.2 _ (by omega) (by rw [HS.out]; omega)).trans HN.out
  have e1 : w2.heap[w.heap.size + 1]? = some (.cells #[.bool true] 4) := (hP.2 _ (by omega) (by rw [HS.out]; omega)).trans HM.out
  have c0 : w2.cell? ⟨w.heap.size, 0, none⟩ = some .nilIface := by simp [World.cell?, e0]
  have c1 : w2.cell? ⟨w.heap.size + 1, 0, none⟩ = some (.bool true) := by simp [World.cell?, e1]
  have z0 : w2.frozen? ⟨w.heap.size, 0, none⟩ = false := by simp [World.frozen?, e0]
  have z1 : w2.frozen? ⟨w.heap.size + 1, 0, none⟩ = false := by simp [World.frozen?, e1]
  clear e0 e1
  go_wp2
  refine leaves_cons (f := 58) (args := #[.pointer (some ⟨w.heap.size + 1, 0, none⟩), .pointer (some ⟨w.heap.size, 0, none⟩)]) (by simp) (by simp [go_sem]) ?_
  refine (door_bytes_idle _ _ _ (by simp [go_sem, c1])).mono ?_
  rintro e u' w3 ⟨rfl, rfl, rfl⟩
  simp [Leaves, settle, results, Tryd.results35, go_sem, c0]
  have hb := ((Below.refl w.heap.size w2).setCell (show w.heap.size ≤ w.heap.size + 1 by omega) (.bool false) (p := ⟨w.heap.size + 1, 0, none⟩)).setCell (show w.heap.size ≤ w.heap.size by omega) (.nilIface) (p := ⟨w.heap.size, 0, none⟩)
  exact ⟨_, HB.out, HS.out, _, hG, hb, Aside.below hb fun b h0 h1 => by rw [heap_setCell_other _ _ _ _ h0, heap_setCell_other _ _ _ _ h1]⟩

set_option maxRecDepth 20000 in
theorem try_bytes_panic (ads : List Addr) (k : Nat) (hk : k < ads.length) (f : FuncId) (caps : Array Value) (w : World) (G : World → World → Prop) (hf : ∀ w, (callFunc f caps).run Tryd.prog w = .ok (.enter f caps) w)
    (H : ∀ w1, Below w.heap.size w w1 → w1.heap.size = w.heap.size + 2 → Calls Tryd.prog f caps w1 fun e w2 => e = .panicked [{ v := snt ads[k], recovered := false }] ∧ St ads w2 ∧ Past w.heap.size w1 w2 ∧ G w1 w2) :
    Calls Tryd.prog 35 #[.func (.func f) #[] caps] w fun e w' => e = .returned (.tuple #[.slice none 0 0, snt ads[k]]) ∧ Mid w G w' := by
  have hmf : ∀ (fn : Fn) (first cap : Array Value) (w : World), (Instr.makeFunc fn first cap).run Tryd.prog w = .ok (.func fn first cap) w := fun _ _ _ _ => rfl
  have hN : ((w.alloc (.cells #[.nilIface] 29)).alloc (.cells #[.bool true] 4)).heap[w.heap.size]? = some (.cells #[.nilIface] 29) := try_new0 _ _ _
  have hM : ((w.alloc (.cells #[.nilIface] 29)).alloc (.cells #[.bool true] 4)).heap[w.heap.size + 1]? = some (.cells #[.bool true] 4) := try_new1 _ _ _
  have hB : Below w.heap.size w ((w.alloc (.cells #[.nilIface] 29)).alloc (.cells #[.bool true] 4)) := ((Below.refl _ _).alloc (Nat.le_refl _) _).alloc (by simp) _
  have hS : ((w.alloc (.cells #[.nilIface] 29)).alloc (.cells #[.bool true] 4)).heap.size = w.heap.size + 2 := by simp
  have HH := Lib.hid H
  have HN := Lib.hid hN
  have HM := Lib.hid hM
  have HB := Lib.hid hB
  have HS := Lib.hid hS
  clear H hN hM hB hS
  go_enter_defers Tryd.func35, Tryd.ntmps35
  go_wp2
  with_reducible refine (HH.out _ HB.out HS.out).mono ?_
  rintro e w2 ⟨rfl, hV, hP, hG⟩
  have e0 : w2.heap[w.heap.size]? = some (.cells #[.nilIface] 29) := (hP.2 _ (by omega) (by rw [HS.out]; omega)).trans HN.out
  have e1 : w2.heap[w.heap.size + 1]? = some (.cells #[.bool true] 4) := (hP.2 _ (by omega) (by rw [HS.out]; omega)).trans HM.out
  have c0 : w2.cell? ⟨w.heap.size, 0, none⟩ = some .nilIface := by simp [World.cell?, e0]
  have c1 : w2.cell? ⟨w.heap.size + 1, 0, none⟩ = some (.bool true) := by simp [World.cell?, e1]
  have z0 : w2.frozen? ⟨w.heap.size, 0, none⟩ = false := by simp [World.frozen?, e0]
  have hd := door_bytes_panic ads ⟨w.heap.size + 1, 0, none⟩ ⟨w.heap.size, 0, none⟩ .nilIface k hk [] w2 hV c1 c0 z0
  have hlt : w.heap.size < w2.heap.size := old_of_cell c0
  clear e0 e1
  refine leaves_cons (f := 58) (args := #[.pointer (some ⟨w.heap.size + 1, 0, none⟩), .pointer (some ⟨w.heap.size, 0, none⟩)]) (by simp) (by simp [go_sem]) ?_
  refine hd.mono ?_
  rintro e u' w3 ⟨rfl, rfl, w4, hw4, rfl⟩
  have c4 : w4.cell? ⟨w.heap.size, 0, none⟩ = some .nilIface := by rw [Below.cell hw4 hlt]; exact c0
  simp [Leaves, settle, results, Tryd.results35, go_sem, c4]
  exact ⟨_, _, HB.out, HS.out, hG, (Below.mono hw4 (by omega)).setCell (show w.heap.size ≤ w.heap.size by omega) _⟩


set_option maxRecDepth 20000 in
theorem try_fields_ret (f : FuncId) (caps : Array Value) (w : World) (G : Value → World → World → Prop) (hf : ∀ w, (callFunc f caps).run Tryd.prog w = .ok (.enter f caps) w)
    (H : ∀ w1, Below w.heap.size w w1 → w1.heap.size = w.heap.size + 2 → Calls Tryd.prog f caps w1 fun e w2 => ∃ v, e = .returned v ∧ Past w.heap.size w1 w2 ∧ G v w1 w2) :
    Calls Tryd.prog 40 #[.func (.func f) #[] caps] w fun e w' => ∃ v, e = .returned (.tuple #[v, .nilIface]) ∧ ∃ w1 w2, Below w.heap.size w w1 ∧ w1.heap.size = w.heap.size + 2 ∧ G v w1 w2 ∧ Below w.heap.size w2 w' ∧ Aside w.heap.size w2 w' := by
  have hmf : ∀ (fn : Fn) (first cap : Array Value) (w : World), (Instr.makeFunc fn first cap).run Tryd.prog w = .ok (.func fn first cap) w := fun _ _ _ _ => rfl
  have hN : ((w.alloc (.cells #[.nilIface] 29)).alloc (.cells #[.bool true] 4)).heap[w.heap.size]? = some (.cells #[.nilIface] 29) := try_new0 _ _ _
  have hM : ((w.alloc (.cells #[.nilIface] 29)).alloc (.cells #[.bool true] 4)).heap[w.heap.size + 1]? = some (.cells #[.bool true] 4) := try_new1 _ _ _
  have hB : Below w.heap.size w ((w.alloc (.cells #[.nilIface] 29)).alloc (.cells #[.bool true] 4)) := ((Below.refl _ _).alloc (Nat.le_refl _) _).alloc (by simp) _
  have hS : ((w.alloc (.cells #[.nilIface] 29)).alloc (.cells #[.bool true] 4)).heap.size = w.heap.size + 2 := by simp
  have HH := Lib.hid H
  have HN := Lib.hid hN
  have HM := Lib.hid hM
  have HB := Lib.hid hB
  have HS := Lib.hid hS
  clear H hN hM hB hS
  go_enter_defers Tryd.func40, Tryd.ntmps40
  go_wp2
  with_reducible refine (HH.out _ HB.out HS.out).mono ?_
  rintro e w2 ⟨v, rfl, hP, hG⟩
  have e0 : w2.heap[w.heap.size]? = some (.cells #[.nilIface] 29) := (hP.2 _ (by omega) (by rw [HS.out]; omega)).trans HN.out
  have e1 : w2.heap[w.heap.size + 1]? = some (.cells #[.bool true] 4) := (hP.2 _ (by omega) (by rw [HS.out]; omega)).trans HM.out
  have c0 : w2.cell? ⟨w.heap.size, 0, none⟩ = some .nilIface := by simp [World.cell?, e0]
  have c1 : w2.cell? ⟨w.heap.size + 1, 0, none⟩ = some (.bool true) := by simp [World.cell?, e1]
  have z0 : w2.frozen? ⟨w.heap.size, 0, none⟩ = false := by simp [World.frozen?, e0]
  have z1 : w2.frozen? ⟨w.heap.size + 1, 0, none⟩ = false := by simp [World.frozen?, e1]
  clear e0 e1
  go_wp2
  refine leaves_cons (f := 63) (args := #[.pointer (some ⟨w.heap.size + 1, 0, none⟩), .pointer (some ⟨w.heap.size, 0, none⟩)]) (by simp) (by simp [go_sem]) ?_
  refine (door_fields_idle _ _ _ (by simp [go_sem, c1])).mono ?_
  rintro e u' w3 ⟨rfl, rfl, rfl⟩
  simp [Leaves, settle, results, Tryd.results40, go_sem, c0]
  have hb := ((Below.refl w.heap.size w2).setCell (show w.heap.size ≤ w.heap.size + 1 by omega) (.bool false) (p := ⟨w.heap.size + 1, 0, none⟩)).setCell (show w.heap.size ≤ w.heap.size by omega) (.nilIface) (p := ⟨w.heap.size, 0, none⟩)
  exact ⟨_, HB.out, HS.out, _, hG, hb, Aside.below hb fun b h0 h1 => by rw [heap_setCell_other _ _ _ _ h0, heap_setCell_other _ _ _ _ h1]⟩

set_option maxRecDepth 20000 in
theorem try_fields_panic (ads : List Addr) (k : Nat) (hk : k < ads.length) (f : FuncId) (caps : Array Value) (w : World) (G : World → World → Prop) (hf : ∀ w, (callFunc f caps).run Tryd.prog w = .ok (.enter f caps) w)
    (H : ∀ w1, Below w.heap.size w w1 → w1.heap.size = w.heap.size + 2 → Calls Tryd.prog f caps w1 fun e w2 => e = .panicked [{ v := snt ads[k], recovered := false }] ∧ St ads w2 ∧ Past w.heap.size w1 w2 ∧ G w1 w2) :
    Calls Tryd.prog 40 #[.func (.func f) #[] caps] w fun e w' => e = .returned (.tuple #[.slice none 0 0, snt ads[k]]) ∧ Mid w G w' := by
  have hmf : ∀ (fn : Fn) (first cap : Array Value) (w : World), (Instr.makeFunc fn first cap).run Tryd.prog w = .ok (.func fn first cap) w := fun _ _ _ _ => rfl
  have hN : ((w.alloc (.cells #[.nilIface] 29)).alloc (.cells #[.bool true] 4)).heap[w.heap.size]? = some (.cells #[.nilIface] 29) := try_new0 _ _ _
  have hM : ((w.alloc (.cells #[.nilIface] 29)).alloc (.cells #[.bool true] 4)).heap[w.heap.size + 1]? = some (.cells #[.bool true] 4) := try_new1 _ _ _
  have hB : Below w.heap.size w ((w.alloc (.cells #[.nilIface] 29)).alloc (.cells #[.bool true] 4)) := ((Below.refl _ _).alloc (Nat.le_refl _) _).alloc (by simp) _
  have hS : ((w.alloc (.cells #[.nilIface] 29)).alloc (.cells #[.bool true] 4)).heap.size = w.heap.size + 2 := by simp
  have HH := Lib.hid H
  have HN := Lib.hid hN
  have HM := Lib.hid hM
  have HB := Lib.hid hB
  have HS := Lib.hid hS
  clear H hN hM hB hS
  go_enter_defers Tryd.func40, Tryd.ntmps40
  go_wp2
  with_reducible refine (HH.out _ HB.out HS.out).mono ?_
  rintro e w2 ⟨rfl, hV, hP, hG⟩
  have e0 : w2.heap[w.heap.size]? = some (.cells #[.nilIface] 29) := (hP.2 _ (by omega) (by rw [HS.out]; omega)).trans HN.out
  have e1 : w2.heap[w.heap.size + 1]? = some (.cells #[.bool true] 4) := (hP.2 _ (by omega) (by rw [HS.out]; omega)).trans HM.out
  have c0 : w2.cell? ⟨w.heap.size, 0, none⟩ = some .nilIface := by simp [World.cell?, e0]
  have c1 : w2.cell? ⟨w.heap.size + 1, 0, none⟩ = some (.bool true) := by simp [World.cell?, e1]
  have z0 : w2.frozen? ⟨w.heap.size, 0, none⟩ = false := by simp [World.frozen?, e0]
  have hd := door_fields_panic ads ⟨w.heap.size + 1, 0, none⟩ ⟨w.heap.size, 0, none⟩ .nilIface k hk [] w2 hV c1 c0 z0
  have hlt : w.heap.size < w2.heap.size := old_of_cell c0
  clear e0 e1
  refine leaves_cons (f := 63) (args := #[.pointer (some ⟨w.heap.size + 1, 0, none⟩), .pointer (some ⟨w.heap.size, 0, none⟩)]) (by simp) (by simp [go_sem]) ?_
  refine hd.mono ?_
  rintro e u' w3 ⟨rfl, rfl, w4, hw4, rfl⟩
  have c4 : w4.cell? ⟨w.heap.size, 0, none⟩ = some .nilIface := by rw [Below.cell hw4 hlt]; exact c0
  simp [Leaves, settle, results, Tryd.results40, go_sem, c4]
  exact ⟨_, _, HB.out, HS.out, hG, (Below.mono hw4 (by omega)).setCell (show w.heap.size ≤ w.heap.size by omega) _⟩


set_option maxRecDepth 20000 in
theorem try_int_ret (f : FuncId) (caps : Array Value) (w : World) (G : Value → World → World → Prop) (hf : ∀ w, (callFunc f caps).run Tryd.prog w = .ok (.enter f caps) w)
    (H : ∀ w1, Below w.heap.size w w1 → w1.heap.size = w.heap.size + 2 → Calls Tryd.prog f caps w1 fun e w2 => ∃ v, e = .returned v ∧ Past w.heap.size w1 w2 ∧ G v w1 w2) :
    Calls Tryd.prog 47 #[.func (.func f) #[] caps] w fun e w' => ∃ v, e = .returned (.tuple #[v, .nilIface]) ∧ ∃ w1 w2, Below w.heap.size w w1 ∧ w1.heap.size = w.heap.size + 2 ∧ G v w1 w2 ∧ Below w.heap.size w2 w' ∧ Aside w.heap.size w2 w' := by
  have hmf : ∀ (fn : Fn) (first cap : Array Value) (w : World), (Instr.makeFunc fn first cap).run Tryd.prog w = .ok (.func fn first cap) w := fun _ _ _ _ => rfl
  have hN : ((w.alloc (.cells #[.nilIface] 29)).alloc (.cells #[.bool true] 4)).heap[w.heap.size]? = some (.cells #[.nilIface] 29) := try_new0 _ _ _
  have hM : ((w.alloc (.cells #[.nilIface] 29)).alloc (.cells #[.bool true] 4)).heap[w.heap.size + 1]? = some (.cells #[.bool true] 4) := try_new1 _ _ _
  have hB : Below w.heap.size w ((w.alloc (.cells #[.nilIface] 29)).alloc (.cells #[.bool true] 4)) := ((Below.refl _ _).alloc (Nat.le_refl _) _).alloc (by simp) _
  have hS : ((w.alloc (.cells #[.nilIface] 29)).alloc (.cells #[.bool true] 4)).heap.size = w.heap.size + 2 := by simp
  have HH := Lib.hid H
  have HN := Lib.hid hN
  have HM := Lib.hid hM
  have HB := Lib.hid hB
  have HS := Lib.hid hS
  clear H hN hM hB hS
  go_enter_defers Tryd.func47, Tryd.ntmps47
  go_wp2
  with_reducible refine (HH.out _ HB.out HS.out).mono ?_
  rintro e w2 ⟨v, rfl, hP, hG⟩
  have e0 : w2.heap[w.heap.size]? = some (.cells #[.nilIface] 29) := (hP.2 _ (by omega) (by rw [HS.out]; omega)).trans HN.out
  have e1 : w2.heap[w.heap.size + 1]? = some (.cells #[.bool true] 4) := (hP.2 _ (by omega) (by rw [HS.out]; omega)).trans HM.out
  have c0 : w2.cell? ⟨w.heap.size, 0, none⟩ = some .nilIface := by simp [World.cell?, e0]
  have c1 : w2.cell? ⟨w.heap.size + 1, 0, none⟩ = some (.bool true) := by simp [World.cell?, e1]
  have z0 : w2.frozen? ⟨w.heap.size, 0, none⟩ = false := by simp [World.frozen?, e0]
  have z1 : w2.frozen? ⟨w.heap.size + 1, 0, none⟩ = false := by simp [World.frozen?, e1]
  clear e0 e1
  go_wp2
  refine leaves_cons (f := 64) (args := #[.pointer (some ⟨w.heap.size + 1, 0, none⟩), .pointer (some ⟨w.heap.size, 0, none⟩)]) (by simp) (by simp [go_sem]) ?_
  refine (door_int_idle _ _ _ (by simp [go_sem, c1])).mono ?_
  rintro e u' w3 ⟨rfl, rfl, rfl⟩
  simp [Leaves, settle, results, Tryd.results47, go_sem, c0]
  have hb := ((Below.refl w.heap.size w2).setCell (show w.heap.size ≤ w.heap.size + 1 by omega) (.bool false) (p := ⟨w.heap.size + 1, 0, none⟩)).setCell (show w.heap.size ≤ w.heap.size by omega) (.nilIface) (p := ⟨w.heap.size, 0, none⟩)
  exact ⟨_, HB.out, HS.out, _, hG, hb, Aside.below hb fun b h0 h1 => by rw [heap_setCell_other _ _ _ _ h0, heap_setCell_other _ _ _ _ h1]⟩

set_option maxRecDepth 20000 in
theorem try_int_panic (ads : List Addr) (k : Nat) (hk : k < ads.length) (f : FuncId) (caps : Array Value) (w : World) (G : World → World → Prop) (hf : ∀ w, (callFunc f caps).run Tryd.prog w = .ok (.enter f caps) w)
    (H : ∀ w1, Below w.heap.size w w1 → w1.heap.size = w.heap.size + 2 → Calls Tryd.prog f caps w1 fun e w2 => e = .panicked [{ v := snt ads[k], recovered := false }] ∧ St ads w2 ∧ Past w.heap.size w1 w2 ∧ G w1 w2) :
    Calls Tryd.prog 47 #[.func (.func f) #[] caps] w fun e w' => e = .returned (.tuple #[.int .i64 0, snt ads[k]]) ∧ Mid w G w' := by
  have hmf : ∀ (fn : Fn) (first cap : Array Value) (w : World), (Instr.makeFunc fn first cap).run Tryd.prog w = .ok (.func fn first cap) w := fun _ _ _ _ => rfl
  have hN : ((w.alloc (.cells #[.nilIface] 29)).alloc (.cells #[.bool true] 4)).heap[w.heap.size]? = some (.cells #[.nilIface] 29) := try_new0 _ _ _
  have hM : ((w.alloc (.cells #[.nilIface] 29)).alloc (.cells #[.bool true] 4)).heap[w.heap.size + 1]? = some (.cells #[.bool true] 4) := try_new1 _ _ _
  have hB : Below w.heap.size w ((w.alloc (.cells #[.nilIface] 29)).alloc (.cells #[.bool true] 4)) := ((Below.refl _ _).alloc (Nat.le_refl _) _).alloc (by simp) _
  have hS : ((w.alloc (.cells #[.nilIface] 29)).alloc (.cells #[.bool true] 4)).heap.size = w.heap.size + 2 := by simp
  have HH := Lib.hid H
  have HN := Lib.hid hN
  have HM := Lib.hid hM
  have HB := Lib.hid hB
  have HS := Lib.hid hS
  clear H hN hM hB hS
  go_enter_defers Tryd.func47, Tryd.ntmps47
  go_wp2
  with_reducible refine (HH.out _ HB.out HS.out).mono ?_
  rintro e w2 ⟨rfl, hV, hP, hG⟩
  have e0 : w2.heap[w.heap.size]? = some (.cells #[.nilIface] 29) := (hP.2 _ (by omega) (by rw [HS.out]; omega)).trans HN.out
  have e1 : w2.heap[w.heap.size + 1]? = some (.cells #[.bool true] 4) := (hP.2 _ (by omega) (by rw [HS.out]; omega)).trans HM.out
  have c0 : w2.cell? ⟨w.heap.size, 0, none⟩ = some .nilIface := by simp [World.cell?, e0]
  have c1 : w2.cell? ⟨w.heap.size + 1, 0, none⟩ = some (.bool true) := by simp [World.cell?, e1]
  have z0 : w2.frozen? ⟨w.heap.size, 0, none⟩ = false := by simp [World.frozen?, e0]
  have hd := door_int_panic ads ⟨w.heap.size + 1, 0, none⟩ ⟨w.heap.size, 0, none⟩ .nilIface k hk [] w2 hV c1 c0 z0
  have hlt : w.heap.size < w2.heap.size := old_of_cell c0
  clear e0 e1
  refine leaves_cons (f := 64) (args := #[.pointer (some ⟨w.heap.size + 1, 0, none⟩), .pointer (some ⟨w.heap.size, 0, none⟩)]) (by simp) (by simp [go_sem]) ?_
  refine hd.mono ?_
  rintro e u' w3 ⟨rfl, rfl, w4, hw4, rfl⟩
  have c4 : w4.cell? ⟨w.heap.size, 0, none⟩ = some .nilIface := by rw [Below.cell hw4 hlt]; exact c0
  simp [Leaves, settle, results, Tryd.results47, go_sem, c4]
  exact ⟨_, _, HB.out, HS.out, hG, (Below.mono hw4 (by omega)).setCell (show w.heap.size ≤ w.heap.size by omega) _⟩


set_option maxRecDepth 20000 in
theorem try_f64_ret (f : FuncId) (caps : Array Value) (w : World) (G : Value → World → World → Prop) (hf : ∀ w, (callFunc f caps).run Tryd.prog w = .ok (.enter f caps) w)
    (H : ∀ w1, Below w.heap.size w w1 → w1.heap.size = w.heap.size + 2 → Calls Tryd.prog f caps w1 fun e w2 => ∃ v, e = .returned v ∧ Past w.heap.size w1 w2 ∧ G v w1 w2) :
    Calls Tryd.prog 50 #[.func (.func f) #[] caps] w fun e w' => ∃ v, e = .returned (.tuple #[v, .nilIface]) ∧ ∃ w1 w2, Below w.heap.size w w1 ∧ w1.heap.size = w.heap.size + 2 ∧ G v w1 w2 ∧ Below w.heap.size w2 w' ∧ Aside w.heap.size w2 w' := by
  have hmf : ∀ (fn : Fn) (first cap : Array Value) (w : World), (Instr.makeFunc fn first cap).run Tryd.prog w = .ok (.func fn first cap) w := fun _ _ _ _ => rfl
  have hN : ((w.alloc (.cells #[.nilIface] 29)).alloc (.cells #[.bool true] 4)).heap[w.heap.size]? = some (.cells #[.nilIface] 29) := try_new0 _ _ _
  have hM : ((w.alloc (.cells #[.nilIface] 29)).alloc (.cells #[.bool true] 4)).heap[w.heap.size + 1]? = some (.cells #[.bool true] 4) := try_new1 _ _ _
  have hB : Below w.heap.size w ((w.alloc (.cells #[.nilIface] 29)).alloc (.cells #[.bool true] 4)) := ((Below.refl _ _).alloc (Nat.le_refl _) _).alloc (by simp) _
  have hS : ((w.alloc (.cells #[.nilIface] 29)).alloc (.cells #[.bool true] 4)).heap.size = w.heap.size + 2 := by simp
  have HH := Lib.hid H
  have HN := Lib.hid hN
  have HM := Lib.hid hM
  have HB := Lib.hid hB
  have HS := Lib.hid hS
  clear H hN hM hB hS
  go_enter_defers Tryd.func50, Tryd.ntmps50
  go_wp2
  with_reducible refine (HH.out _ HB.out HS.out).mono ?_
  rintro e w2 ⟨v, rfl, hP, hG⟩
  have e0 : w2.heap[w.heap.size]? = some (.cells #[.nilIface] 29) := (hP.2 _ (by omega) (by rw [HS.out]; omega)).trans HN.out
  have e1 : w2.heap[w.heap.size + 1]? = some (.cells #[.bool true] 4) := (hP.2 _ (by omega) (by rw [HS.out]; omega)).trans HM.out
  have c0 : w2.cell? ⟨w.heap.size, 0, none⟩ = some .nilIface := by simp [World.cell?, e0]
  have c1 : w2.cell? ⟨w.heap.size + 1, 0, none⟩ = some (.bool true) := by simp [World.cell?, e1]
  have z0 : w2.frozen? ⟨w.heap.size, 0, none⟩ = false := by simp [World.frozen?, e0]
  have z1 : w2.frozen? ⟨w.heap.size + 1, 0, none⟩ = false := by simp [World.frozen?, e1]
  clear e0 e1
  go_wp2
  refine leaves_cons (f := 66) (args := #[.pointer (some ⟨w.heap.size + 1, 0, none⟩), .pointer (some ⟨w.heap.size, 0, none⟩)]) (by simp) (by simp [go_sem]) ?_
  refine (door_f64_idle _ _ _ (by simp [go_sem, c1])).mono ?_
  rintro e u' w3 ⟨rfl, rfl, rfl⟩
  simp [Leaves, settle, results, Tryd.results50, go_sem, c0]
  have hb := ((Below.refl w.heap.size w2).setCell (show w.heap.size ≤ w.heap.size + 1 by omega) (.bool false) (p := ⟨w.heap.size + 1, 0, none⟩)).setCell (show w.heap.size ≤ w.heap.size by omega) (.nilIface) (p := ⟨w.heap.size, 0, none⟩)
  exact ⟨_, HB.out, HS.out, _, hG, hb, Aside.below hb fun b h0 h1 => by rw [heap_setCell_other _ _ _ _ h0, heap_setCell_other _ _ _ _ h1]⟩

set_option maxRecDepth 20000 in
theorem try_f64_panic (ads : List Addr) (k : Nat) (hk : k < ads.length) (f : FuncId) (caps : Array Value) (w : World) (G : World → World → Prop) (hf : ∀ w, (callFunc f caps).run Tryd.prog w = .ok (.enter f caps) w)
    (H : ∀ w1, Below w.heap.size w w1 → w1.heap.size = w.heap.size + 2 → Calls Tryd.prog f caps w1 fun e w2 => e = .panicked [{ v := snt ads[k], recovered := false }] ∧ St ads w2 ∧ Past w.heap.size w1 w2 ∧ G w1 w2) :
    Calls Tryd.prog 50 #[.func (.func f) #[] caps] w fun e w' => e = .returned (.tuple #[.float .f64 0, snt ads[k]]) ∧ Mid w G w' := by
  have hmf : ∀ (fn : Fn) (first cap : Array Value) (w : World), (Instr.makeFunc fn first cap).run Tryd.prog w = .ok (.func fn first cap) w := fun _ _ _ _ => rfl
  have hN : ((w.alloc (.cells #[.nilIface] 29)).alloc (.cells #[.bool true] 4)).heap[w.heap.size]? = some (.cells #[.nilIface] 29) := try_new0 _ _ _
  have hM : ((w.alloc (.cells #[.nilIface] 29)).alloc (.cells #[.bool true] 4)).heap[w.heap.size + 1]? = some (.cells #[.bool true] 4) := try_new1 _ _ _
  have hB : Below w.heap.size w ((w.alloc (.cells #[.nilIface] 29)).alloc (.cells #[.bool true] 4)) := ((Below.refl _ _).alloc (Nat.le_refl _) _).alloc (by simp) _
  have hS : ((w.alloc (.cells #[.nilIface] 29)).alloc (.cells #[.bool true] 4)).heap.size = w.heap.size + 2 := by simp
  have HH := Lib.hid H
  have HN := Lib.hid hN
  have HM := Lib.hid hM
  have HB := Lib.hid hB
  have HS := Lib.hid hS
  clear H hN hM hB hS
  go_enter_defers Tryd.func50, Tryd.ntmps50
  go_wp2
  with_reducible refine (HH.out _ HB.out HS.out).mono ?_
  rintro e w2 ⟨rfl, hV, hP, hG⟩
  have e0 : w2.heap[w.heap.size]? = some (.cells #[.nilIface] 29) := (hP.2 _ (by omega) (by rw [HS.out]; omega)).trans HN.out
  have e1 : w2.heap[w.heap.size + 1]? = some (.cells #[.bool true] 4) := (hP.2 _ (by omega) (by rw [HS.out]; omega)).trans HM.out
  have c0 : w2.cell? ⟨w.heap.size, 0, none⟩ = some .nilIface := by simp [World.cell?, e0]
  have c1 : w2.cell? ⟨w.heap.size + 1, 0, none⟩ = some (.bool true) := by simp [World.cell?, e1]
  have z0 : w2.frozen? ⟨w.heap.size, 0, none⟩ = false := by simp [World.frozen?, e0]
  have hd := door_f64_panic ads ⟨w.heap.size + 1, 0, none⟩ ⟨w.heap.size, 0, none⟩ .nilIface k hk [] w2 hV c1 c0 z0
  have hlt : w.heap.size < w2.heap.size := old_of_cell c0
  clear e0 e1
  refine leaves_cons (f := 66) (args := #[.pointer (some ⟨w.heap.size + 1, 0, none⟩), .pointer (some ⟨w.heap.size, 0, none⟩)]) (by simp) (by simp [go_sem]) ?_
  refine hd.mono ?_
  rintro e u' w3 ⟨rfl, rfl, w4, hw4, rfl⟩
  have c4 : w4.cell? ⟨w.heap.size, 0, none⟩ = some .nilIface := by rw [Below.cell hw4 hlt]; exact c0
  simp [Leaves, settle, results, Tryd.results50, go_sem, c4]
  exact ⟨_, _, HB.out, HS.out, hG, (Below.mono hw4 (by omega)).setCell (show w.heap.size ≤ w.heap.size by omega) _⟩


set_option maxRecDepth 20000 in
theorem try_bool_ret (f : FuncId) (caps : Array Value) (w : World) (G : Value → World → World → Prop) (hf : ∀ w, (callFunc f caps).run Tryd.prog w = .ok (.enter f caps) w)
    (H : ∀ w1, Below w.heap.size w w1 → w1.heap.size = w.heap.size + 2 → Calls Tryd.prog f caps w1 fun e w2 => ∃ v, e = .returned v ∧ Past w.heap.size w1 w2 ∧ G v w1 w2) :
    Calls Tryd.prog 56 #[.func (.func f) #[] caps] w fun e w' => ∃ v, e = .returned (.tuple #[v, .nilIface]) ∧ ∃ w1 w2, Below w.heap.size w w1 ∧ w1.heap.size = w.heap.size + 2 ∧ G v w1 w2 ∧ Below w.heap.size w2 w' ∧ Aside w.heap.size w2 w' := by
  have hmf : ∀ (fn : Fn) (first cap : Array Value) (w : World), (Instr.makeFunc fn first cap).run Tryd.prog w = .ok (.func fn first cap) w := fun _ _ _ _ => rfl
  have hN : ((w.alloc (.cells #[.nilIface] 29)).alloc (.cells #[.bool true] 4)).heap[w.heap.size]? = some (.cells #[.nilIface] 29) := try_new0 _ _ _
  have hM : ((w.alloc (.cells #[.nilIface] 29)).alloc (.cells #[.bool true] 4)).heap[w.heap.size + 1]? = some (.cells #[.bool true] 4) := try_new1 _ _ _
  have hB : Below w.heap.size w ((w.alloc (.cells #[.nilIface] 29)).alloc (.cells #[.bool true] 4)) := ((Below.refl _ _).alloc (Nat.le_refl _) _).alloc (by simp) _
  have hS : ((w.alloc (.cells #[.nilIface] 29)).alloc (.cells #[.bool true] 4)).heap.size = w.heap.size + 2 := by simp
  have HH := Lib.hid H
  have HN := Lib.hid hN
  have HM := Lib.hid hM
  have HB := Lib.hid hB
  have HS := Lib.hid hS
  clear H hN hM hB hS
  go_enter_defers Tryd.func56, Tryd.ntmps56
  go_wp2
  with_reducible refine (HH.out _ HB.out HS.out).mono ?_
  rintro e w2 ⟨v, rfl, hP, hG⟩
  have e0 : w2.heap[w.heap.size]? = some (.cells #[.nilIface] 29) := (hP.2 _ (by omega) (by rw [HS.out]; omega)).trans HN.out
  have e1 : w2.heap[w.heap.size + 1]? = some (.cells #[.bool true] 4) := (hP.2 _ (by omega) (by rw [HS.out]; omega)).trans HM.out
  have c0 : w2.cell? ⟨w.heap.size, 0, none⟩ = some .nilIface := by simp [World.cell?, e0]
  have c1 : w2.cell? ⟨w.heap.size + 1, 0, none⟩ = some (.bool true) := by simp [World.cell?, e1]
  have z0 : w2.frozen? ⟨w.heap.size, 0, none⟩ = false := by simp [World.frozen?, e0]
  have z1 : w2.frozen? ⟨w.heap.size + 1, 0, none⟩ = false := by simp [World.frozen?, e1]
  clear e0 e1
  go_wp2
  refine leaves_cons (f := 67) (args := #[.pointer (some ⟨w.heap.size + 1, 0, none⟩), .pointer (some ⟨w.heap.size, 0, none⟩)]) (by simp) (by simp [go_sem]) ?_
  refine (door_bool_idle _ _ _ (by simp [go_sem, c1])).mono ?_
  rintro e u' w3 ⟨rfl, rfl, rfl⟩
  simp [Leaves, settle, results, Tryd.results56, go_sem, c0]
  have hb := ((Below.refl w.heap.size w2).setCell (show w.heap.size ≤ w.heap.size + 1 by omega) (.bool false) (p := ⟨w.heap.size + 1, 0, none⟩)).setCell (show w.heap.size ≤ w.heap.size by omega) (.nilIface) (p := ⟨w.heap.size, 0, none⟩)
  exact ⟨_, HB.out, HS.out, _, hG, hb, Aside.below hb fun b h0 h1 => by rw [heap_setCell_other _ _ _ _ h0, heap_setCell_other _ _ _ _ h1]⟩

set_option maxRecDepth 20000 in
theorem try_bool_panic (ads : List Addr) (k : Nat) (hk : k < ads.length) (f : FuncId) (caps : Array Value) (w : World) (G : World → World → Prop) (hf : ∀ w, (callFunc f caps).run Tryd.prog w = .ok (.enter f caps) w)
    (H : ∀ w1, Below w.heap.size w w1 → w1.heap.size = w.heap.size + 2 → Calls Tryd.prog f caps w1 fun e w2 => e = .panicked [{ v := snt ads[k], recovered := false }] ∧ St ads w2 ∧ Past w.heap.size w1 w2 ∧ G w1 w2) :
    Calls Tryd.prog 56 #[.func (.func f) #[] caps] w fun e w' => e = .returned (.tuple #[.bool false, snt ads[k]]) ∧ Mid w G w' := by
  have hmf : ∀ (fn : Fn) (first cap : Array Value) (w : World), (Instr.makeFunc fn first cap).run Tryd.prog w = .ok (.func fn first cap) w := fun _ _ _ _ => rfl
  have hN : ((w.alloc (.cells #[.nilIface] 29)).alloc (.cells #[.bool true] 4)).heap[w.heap.size]? = some (.cells #[.nilIface] 29) := try_new0 _ _ _
  have hM : ((w.alloc (.cells #[.nilIface] 29)).alloc (.cells #[.bool true] 4)).heap[w.heap.size + 1]? = some (.cells #[.bool true] 4) := try_new1 _ _ _
  have hB : Below w.heap.size w ((w.alloc (.cells #[.nilIface] 29)).alloc (.cells #[.bool true] 4)) := ((Below.refl _ _).alloc (Nat.le_refl _) _).alloc (by simp) _
  have hS : ((w.alloc (.cells #[.nilIface] 29)).alloc (.cells #[.bool true] 4)).heap.size = w.heap.size + 2 := by simp
  have HH := Lib.hid H
  have HN := Lib.hid hN
  have HM := Lib.hid hM
  have HB := Lib.hid hB
  have HS := Lib.hid hS
  clear H hN hM hB hS
  go_enter_defers Tryd.func56, Tryd.ntmps56
  go_wp2
  with_reducible refine (HH.out _ HB.out HS.out).mono ?_
  rintro e w2 ⟨rfl, hV, hP, hG⟩
  have e0 : w2.heap[w.heap.size]? = some (.cells #[.nilIface] 29) := (hP.2 _ (by omega) (by rw [HS.out]; omega)).trans HN.out
  have e1 : w2.heap[w.heap.size + 1]? = some (.cells #[.bool true] 4) := (hP.2 _ (by omega) (by rw [HS.out]; omega)).trans HM.out
  have c0 : w2.cell? ⟨w.heap.size, 0, none⟩ = some .nilIface := by simp [World.cell?, e0]
  have c1 : w2.cell? ⟨w.heap.size + 1, 0, none⟩ = some (.bool true) := by simp [World.cell?, e1]
  have z0 : w2.frozen? ⟨w.heap.size, 0, none⟩ = false := by simp [World.frozen?, e0]
  have hd := door_bool_panic ads ⟨w.heap.size + 1, 0, none⟩ ⟨w.heap.size, 0, none⟩ .nilIface k hk [] w2 hV c1 c0 z0
  have hlt : w.heap.size < w2.heap.size := old_of_cell c0
  clear e0 e1
  refine leaves_cons (f := 67) (args := #[.pointer (some ⟨w.heap.size + 1, 0, none⟩), .pointer (some ⟨w.heap.size, 0, none⟩)]) (by simp) (by simp [go_sem]) ?_
  refine hd.mono ?_
  rintro e u' w3 ⟨rfl, rfl, w4, hw4, rfl⟩
  have c4 : w4.cell? ⟨w.heap.size, 0, none⟩ = some .nilIface := by rw [Below.cell hw4 hlt]; exact c0
  simp [Leaves, settle, results, Tryd.results56, go_sem, c4]
  exact ⟨_, _, HB.out, HS.out, hG, (Below.mono hw4 (by omega)).setCell (show w.heap.size ≤ w.heap.size by omega) _⟩

end Go.Proofs.YtfealdllicicnaaDoor
