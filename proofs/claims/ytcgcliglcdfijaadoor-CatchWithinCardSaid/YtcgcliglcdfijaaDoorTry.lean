/-
  catch.Try (own work), at int, bool, struct{}: what is done answers; it panics with an error; it is nil.
-/
import Derived.Test.YtcgcliglcdfijaaDoorPv
import Derived.Defers
namespace Go.Proofs.YtcgcliglcdfijaaDoor
open Go.RowKit Go.Extern.Stop Go.Stop Go.Extern

theorem old_of_cell {w : World} {q : Addr} {v : Value} (hq : w.cell? q = some v) : q.block < w.heap.size := by
  rcases Nat.lt_or_ge q.block w.heap.size with g | g
  · exact g
  · simp [World.cell?, Array.getElem?_eq_none g] at hq

/-- BLOCKS FROM B ON ARE AS THEY WERE. -/
def Past (B : Nat) (w w' : World) : Prop := w.heap.size ≤ w'.heap.size ∧ ∀ b, B ≤ b → b < w.heap.size → w'.heap[b]? = w.heap[b]?
/-- WHAT IS DONE WITHIN, between two stretches that turn no old memory. -/
def Mid (w : World) (G : World → World → Prop) (w' : World) : Prop := ∃ w1 w2, Below w.heap.size w w1 ∧ G w1 w2 ∧ Below w.heap.size w2 w'

theorem try_new0 (w : World) (o o' : Obj) : ((w.alloc o).alloc o').heap[w.heap.size]? = some o := by
  rw [Below.heap_alloc _ _ _ (by simp)]
  exact (MapKept.heap_alloc w o).1
theorem try_new1 (w : World) (o o' : Obj) : ((w.alloc o).alloc o').heap[w.heap.size + 1]? = some o' := by
  have := (MapKept.heap_alloc (w.alloc o) o').1
  simpa using this


theorem door_int_panic (ads : List Addr) (so : Option Addr) (p q : Addr) (v old : Value) (k : Nat) (older : List PanicEntry) (w : World) (V : St ads so w) (h : Pv ads so w v k)
    (hp : w.cell? p = some (.bool true)) (hq : w.cell? q = some old) (hz : w.frozen? q = false) :
    ∃ hk : k < ads.length, CallsD Tryd.prog 31 #[.pointer (some p), .pointer (some q)] (.panicking ({ v, recovered := false } :: older)) w fun e u' w' =>
      e = .returned (.tuple #[]) ∧ u' = .panicking ({ v, recovered := true } :: older) ∧ ∃ w1, Kp w w1 ∧ w' = w1.setCell q (snt ads[k]) := by
  have hqb := old_of_cell hq
  obtain ⟨hk, hn⟩ := errorOf_any ads so w V v k h
  refine ⟨hk, ?_⟩
  obtain ⟨a, ha⟩ : ∃ a, ads[k] = a := ⟨_, rfl⟩
  rw [ha] at hn ⊢
  clear ha h V
  refine callsD_of_wpS Tryd.func31 rfl fun c₀ cs hu => ?_
  apply wpS_seq
  apply wpS_region
  simp [wpOpsS, go_sem, recoverD, hu, Tryd.ntmps31, Exit.thenS]
  refine wpS_of_wp ?_
  change Code.wp _ _ _ { tmps := #[.pointer (some p), .pointer (some q), v, v, undef, undef, undef], defers := [] } _
  have HN := Lib.hid hn
  have HU := Lib.hid hu
  clear hn hu
  go_wp2_with (go_at_call 32; (with_reducible refine HN.out.mono ?_); rintro e w1 ⟨rfl, hw⟩; have hq1 : w1.cell? q = some old := (by rw [Below.cell hw hqb]; exact hq); have hz1 : w1.frozen? q = false := (by rw [Below.frozen hw hqb]; exact hz))
  exact ⟨rfl, _, rfl, _, results_none rfl _ _ _, rfl, rfl, w1, hw, rfl⟩

theorem door_int_idle (p q : Addr) (w : World) (hp : w.cell? p = some (.bool false)) :
    CallsD Tryd.prog 31 #[.pointer (some p), .pointer (some q)] .returning w fun e u' w' => e = .returned (.tuple #[]) ∧ u' = .returning ∧ w' = w := by
  refine callsD_of_wpS Tryd.func31 rfl fun c₀ cs hu => ?_
  apply wpS_seq
  apply wpS_region
  simp [wpOpsS, go_sem, recoverD, hu, Tryd.ntmps31, Exit.thenS]
  refine wpS_of_wp ?_
  change Code.wp _ _ _ { tmps := #[.pointer (some p), .pointer (some q), .nilIface, .nilIface, undef, undef, undef], defers := [] } _
  go_wp2
  cases c₀
  simp only at hu
  subst hu
  exact ⟨rfl, _, rfl, _, results_none rfl _ _ _, rfl, rfl, rfl⟩


theorem door_bool_panic (ads : List Addr) (so : Option Addr) (p q : Addr) (v old : Value) (k : Nat) (older : List PanicEntry) (w : World) (V : St ads so w) (h : Pv ads so w v k)
    (hp : w.cell? p = some (.bool true)) (hq : w.cell? q = some old) (hz : w.frozen? q = false) :
    ∃ hk : k < ads.length, CallsD Tryd.prog 37 #[.pointer (some p), .pointer (some q)] (.panicking ({ v, recovered := false } :: older)) w fun e u' w' =>
      e = .returned (.tuple #[]) ∧ u' = .panicking ({ v, recovered := true } :: older) ∧ ∃ w1, Kp w w1 ∧ w' = w1.setCell q (snt ads[k]) := by
  have hqb := old_of_cell hq
  obtain ⟨hk, hn⟩ := errorOf_any ads so w V v k h
  refine ⟨hk, ?_⟩
  obtain ⟨a, ha⟩ : ∃ a, ads[k] = a := ⟨_, rfl⟩
  rw [ha] at hn ⊢
  clear ha h V
  refine callsD_of_wpS Tryd.func37 rfl fun c₀ cs hu => ?_
  apply wpS_seq
  apply wpS_region
  simp [wpOpsS, go_sem, recoverD, hu, Tryd.ntmps37, Exit.thenS]
  refine wpS_of_wp ?_
  change Code.wp _ _ _ { tmps := #[.pointer (some p), .pointer (some q), v, v, undef, undef, undef], defers := [] } _
  have HN := Lib.hid hn
  have HU := Lib.hid hu
  clear hn hu
  go_wp2_with (go_at_call 32; (with_reducible refine HN.out.mono ?_); rintro e w1 ⟨rfl, hw⟩; have hq1 : w1.cell? q = some old := (by rw [Below.cell hw hqb]; exact hq); have hz1 : w1.frozen? q = false := (by rw [Below.frozen hw hqb]; exact hz))
  exact ⟨rfl, _, rfl, _, results_none rfl _ _ _, rfl, rfl, w1, hw, rfl⟩

theorem door_bool_idle (p q : Addr) (w : World) (hp : w.cell? p = some (.bool false)) :
    CallsD Tryd.prog 37 #[.pointer (some p), .pointer (some q)] .returning w fun e u' w' => e = .returned (.tuple #[]) ∧ u' = .returning ∧ w' = w := by
  refine callsD_of_wpS Tryd.func37 rfl fun c₀ cs hu => ?_
  apply wpS_seq
  apply wpS_region
  simp [wpOpsS, go_sem, recoverD, hu, Tryd.ntmps37, Exit.thenS]
  refine wpS_of_wp ?_
  change Code.wp _ _ _ { tmps := #[.pointer (some p), .pointer (some q), .nilIface, .nilIface, undef, undef, undef], defers := [] } _
  go_wp2
  cases c₀
  simp only at hu
  subst hu
  exact ⟨rfl, _, rfl, _, results_none rfl _ _ _, rfl, rfl, rfl⟩


theorem door_unit_panic (ads : List Addr) (so : Option Addr) (p q : Addr) (v old : Value) (k : Nat) (older : List PanicEntry) (w : World) (V : St ads so w) (h : Pv ads so w v k)
    (hp : w.cell? p = some (.bool true)) (hq : w.cell? q = some old) (hz : w.frozen? q = false) :
    ∃ hk : k < ads.length, CallsD Tryd.prog 51 #[.pointer (some p), .pointer (some q)] (.panicking ({ v, recovered := false } :: older)) w fun e u' w' =>
      e = .returned (.tuple #[]) ∧ u' = .panicking ({ v, recovered := true } :: older) ∧ ∃ w1, Kp w w1 ∧ w' = w1.setCell q (snt ads[k]) := by
  have hqb := old_of_cell hq
  obtain ⟨hk, hn⟩ := errorOf_any ads so w V v k h
  refine ⟨hk, ?_⟩
  obtain ⟨a, ha⟩ : ∃ a, ads[k] = a := ⟨_, rfl⟩
  rw [ha] at hn ⊢
  clear ha h V
  refine callsD_of_wpS Tryd.func51 rfl fun c₀ cs hu => ?_
  apply wpS_seq
  apply wpS_region
  simp [wpOpsS, go_sem, recoverD, hu, Tryd.ntmps51, Exit.thenS]
  refine wpS_of_wp ?_
  change Code.wp _ _ _ { tmps := #[.pointer (some p), .pointer (some q), v, v, undef, undef, undef], defers := [] } _
  have HN := Lib.hid hn
  have HU := Lib.hid hu
  clear hn hu
  go_wp2_with (go_at_call 32; (with_reducible refine HN.out.mono ?_); rintro e w1 ⟨rfl, hw⟩; have hq1 : w1.cell? q = some old := (by rw [Below.cell hw hqb]; exact hq); have hz1 : w1.frozen? q = false := (by rw [Below.frozen hw hqb]; exact hz))
  exact ⟨rfl, _, rfl, _, results_none rfl _ _ _, rfl, rfl, w1, hw, rfl⟩

theorem door_unit_idle (p q : Addr) (w : World) (hp : w.cell? p = some (.bool false)) :
    CallsD Tryd.prog 51 #[.pointer (some p), .pointer (some q)] .returning w fun e u' w' => e = .returned (.tuple #[]) ∧ u' = .returning ∧ w' = w := by
  refine callsD_of_wpS Tryd.func51 rfl fun c₀ cs hu => ?_
  apply wpS_seq
  apply wpS_region
  simp [wpOpsS, go_sem, recoverD, hu, Tryd.ntmps51, Exit.thenS]
  refine wpS_of_wp ?_
  change Code.wp _ _ _ { tmps := #[.pointer (some p), .pointer (some q), .nilIface, .nilIface, undef, undef, undef], defers := [] } _
  go_wp2
  cases c₀
  simp only at hu
  subst hu
  exact ⟨rfl, _, rfl, _, results_none rfl _ _ _, rfl, rfl, rfl⟩


set_option maxRecDepth 20000 in
theorem try_int_ret (f : FuncId) (caps : Array Value) (x : Int) (w : World) (G : World → World → Prop) (hf : ∀ w, (callFunc f caps).run Tryd.prog w = .ok (.enter f caps) w)
    (H : ∀ w1, Below w.heap.size w w1 → Calls Tryd.prog f caps w1 fun e w2 => e = .returned (.int .i64 x) ∧ Past w.heap.size w1 w2 ∧ G w1 w2) :
    Calls Tryd.prog 11 #[.func (.func f) #[] caps] w fun e w' => e = .returned (.tuple #[(.int .i64 x), .nilIface]) ∧ Mid w G w' := by
  have hmf : ∀ (fn : Fn) (first cap : Array Value) (w : World), (Instr.makeFunc fn first cap).run Tryd.prog w = .ok (.func fn first cap) w := fun _ _ _ _ => rfl
  have hN : ((w.alloc (.cells #[.nilIface] 28)).alloc (.cells #[.bool true] 4)).heap[w.heap.size]? = some (.cells #[.nilIface] 28) := try_new0 _ _ _
  have hM : ((w.alloc (.cells #[.nilIface] 28)).alloc (.cells #[.bool true] 4)).heap[w.heap.size + 1]? = some (.cells #[.bool true] 4) := try_new1 _ _ _
  have hB : Below w.heap.size w ((w.alloc (.cells #[.nilIface] 28)).alloc (.cells #[.bool true] 4)) := ((Below.refl _ _).alloc (Nat.le_refl _) _).alloc (by simp) _
  have hS : ((w.alloc (.cells #[.nilIface] 28)).alloc (.cells #[.bool true] 4)).heap.size = w.heap.size + 2 := by simp
  have HH := Lib.hid H
  have HN := Lib.hid hN
  have HM := Lib.hid hM
  have HB := Lib.hid hB
  have HS := Lib.hid hS
  clear H hN hM hB hS
  go_enter_defers Tryd.func11, Tryd.ntmps11
  go_wp2
  with_reducible refine (HH.out _ HB.out).mono ?_
  rintro e w2 ⟨rfl, hP, hG⟩
  have e0 : w2.heap[w.heap.size]? = some (.cells #[.nilIface] 28) := (hP.2 _ (by omega) (by rw [HS.out]; omega)).trans HN.out
  have e1 : w2.heap[w.heap.size + 1]? = some (.cells #[.bool true] 4) := (hP.2 _ (by omega) (by rw [HS.out]; omega)).trans HM.out
  have c0 : w2.cell? ⟨w.heap.size, 0, none⟩ = some .nilIface := by simp [World.cell?, e0]
  have c1 : w2.cell? ⟨w.heap.size + 1, 0, none⟩ = some (.bool true) := by simp [World.cell?, e1]
  have z0 : w2.frozen? ⟨w.heap.size, 0, none⟩ = false := by simp [World.frozen?, e0]
  have z1 : w2.frozen? ⟨w.heap.size + 1, 0, none⟩ = false := by simp [World.frozen?, e1]
  clear e0 e1
  go_wp2
  refine leaves_cons (f := 31) (args := #[.pointer (some ⟨w.heap.size + 1, 0, none⟩), .pointer (some ⟨w.heap.size, 0, none⟩)]) (by simp) (by simp [go_sem]) ?_
  refine (door_int_idle _ _ _ (by simp [go_sem, c1])).mono ?_
  rintro e u' w3 ⟨rfl, rfl, rfl⟩
  simp [Leaves, settle, results, Tryd.results11, go_sem, c0]
  exact ⟨_, _, HB.out, hG, ((Below.refl _ _).setCell (show w.heap.size ≤ w.heap.size + 1 by omega) _).setCell (show w.heap.size ≤ w.heap.size by omega) _⟩

set_option maxRecDepth 20000 in
theorem try_int_panic (ads : List Addr) (so : Option Addr) (k : Nat) (hk : k < ads.length) (f : FuncId) (caps : Array Value) (w : World) (G : World → World → Prop) (hf : ∀ w, (callFunc f caps).run Tryd.prog w = .ok (.enter f caps) w)
    (H : ∀ w1, Below w.heap.size w w1 → Calls Tryd.prog f caps w1 fun e w2 => (∃ v, e = .panicked [{ v, recovered := false }] ∧ Pv ads so w2 v k ∧ St ads so w2) ∧ Past w.heap.size w1 w2 ∧ G w1 w2) :
    Calls Tryd.prog 11 #[.func (.func f) #[] caps] w fun e w' => e = .returned (.tuple #[.int .i64 0, snt ads[k]]) ∧ Mid w G w' := by
  have hmf : ∀ (fn : Fn) (first cap : Array Value) (w : World), (Instr.makeFunc fn first cap).run Tryd.prog w = .ok (.func fn first cap) w := fun _ _ _ _ => rfl
  have hN : ((w.alloc (.cells #[.nilIface] 28)).alloc (.cells #[.bool true] 4)).heap[w.heap.size]? = some (.cells #[.nilIface] 28) := try_new0 _ _ _
  have hM : ((w.alloc (.cells #[.nilIface] 28)).alloc (.cells #[.bool true] 4)).heap[w.heap.size + 1]? = some (.cells #[.bool true] 4) := try_new1 _ _ _
  have hB : Below w.heap.size w ((w.alloc (.cells #[.nilIface] 28)).alloc (.cells #[.bool true] 4)) := ((Below.refl _ _).alloc (Nat.le_refl _) _).alloc (by simp) _
  have hS : ((w.alloc (.cells #[.nilIface] 28)).alloc (.cells #[.bool true] 4)).heap.size = w.heap.size + 2 := by simp
  have HH := Lib.hid H
  have HN := Lib.hid hN
  have HM := Lib.hid hM
  have HB := Lib.hid hB
  have HS := Lib.hid hS
  clear H hN hM hB hS
  go_enter_defers Tryd.func11, Tryd.ntmps11
  go_wp2
  with_reducible refine (HH.out _ HB.out).mono ?_
  rintro e w2 ⟨⟨v, rfl, hv, hV⟩, hP, hG⟩
  have e0 : w2.heap[w.heap.size]? = some (.cells #[.nilIface] 28) := (hP.2 _ (by omega) (by rw [HS.out]; omega)).trans HN.out
  have e1 : w2.heap[w.heap.size + 1]? = some (.cells #[.bool true] 4) := (hP.2 _ (by omega) (by rw [HS.out]; omega)).trans HM.out
  have c0 : w2.cell? ⟨w.heap.size, 0, none⟩ = some .nilIface := by simp [World.cell?, e0]
  have c1 : w2.cell? ⟨w.heap.size + 1, 0, none⟩ = some (.bool true) := by simp [World.cell?, e1]
  have z0 : w2.frozen? ⟨w.heap.size, 0, none⟩ = false := by simp [World.frozen?, e0]
  obtain ⟨hk', hd⟩ := door_int_panic ads so ⟨w.heap.size + 1, 0, none⟩ ⟨w.heap.size, 0, none⟩ v .nilIface k [] w2 hV hv c1 c0 z0
  have hlt : w.heap.size < w2.heap.size := old_of_cell c0
  clear e0 e1
  refine leaves_cons (f := 31) (args := #[.pointer (some ⟨w.heap.size + 1, 0, none⟩), .pointer (some ⟨w.heap.size, 0, none⟩)]) (by simp) (by simp [go_sem]) ?_
  refine hd.mono ?_
  rintro e u' w3 ⟨rfl, rfl, w4, hw4, rfl⟩
  have c4 : w4.cell? ⟨w.heap.size, 0, none⟩ = some .nilIface := by rw [Below.cell hw4 hlt]; exact c0
  simp [Leaves, settle, results, Tryd.results11, go_sem, c4]
  exact ⟨_, _, HB.out, hG, (Below.mono hw4 (by omega)).setCell (show w.heap.size ≤ w.heap.size by omega) _⟩

set_option maxRecDepth 20000 in
theorem try_int_nil (ads : List Addr) (so : Option Addr) (w : World) (V : St ads so w) (hk : 12 < ads.length) :
    Calls Tryd.prog 11 #[.nilFunc] w fun e w' => e = .returned (.tuple #[.int .i64 0, snt ads[12]]) ∧ Kp w w' := by
  have hmf : ∀ (fn : Fn) (first cap : Array Value) (w : World), (Instr.makeFunc fn first cap).run Tryd.prog w = .ok (.func fn first cap) w := fun _ _ _ _ => rfl
  have hN : ((w.alloc (.cells #[.nilIface] 28)).alloc (.cells #[.bool true] 4)).heap[w.heap.size]? = some (.cells #[.nilIface] 28) := try_new0 _ _ _
  have hM : ((w.alloc (.cells #[.nilIface] 28)).alloc (.cells #[.bool true] 4)).heap[w.heap.size + 1]? = some (.cells #[.bool true] 4) := try_new1 _ _ _
  have hB : Below w.heap.size w ((w.alloc (.cells #[.nilIface] 28)).alloc (.cells #[.bool true] 4)) := ((Below.refl _ _).alloc (Nat.le_refl _) _).alloc (by simp) _
  have hS : ((w.alloc (.cells #[.nilIface] 28)).alloc (.cells #[.bool true] 4)).heap.size = w.heap.size + 2 := by simp
  have HN := Lib.hid hN
  have HM := Lib.hid hM
  have HB := Lib.hid hB
  have HS := Lib.hid hS
  have HV := Lib.hid V
  clear hN hM hB hS V
  go_enter_defers Tryd.func11, Tryd.ntmps11
  go_wp2
  refine leaves_cons (f := 31) (args := #[.pointer (some ⟨w.heap.size + 1, 0, none⟩), .pointer (some ⟨w.heap.size, 0, none⟩)]) (by simp) (by simp [go_sem]) ?_
  generalize hw2 : ((w.alloc (.cells #[.nilIface] 28)).alloc (.cells #[.bool true] 4)) = w2 at *
  have c0 : w2.cell? ⟨w.heap.size, 0, none⟩ = some .nilIface := by simp [World.cell?, HN.out]
  have c1 : w2.cell? ⟨w.heap.size + 1, 0, none⟩ = some (.bool true) := by simp [World.cell?, HM.out]
  have z0 : w2.frozen? ⟨w.heap.size, 0, none⟩ = false := by simp [World.frozen?, HN.out]
  have hlt : w.heap.size < w2.heap.size := old_of_cell c0
  obtain ⟨hk', hd⟩ := door_int_panic ads so ⟨w.heap.size + 1, 0, none⟩ ⟨w.heap.size, 0, none⟩ _ .nilIface 12 [] w2 (HV.out.below HB.out) (.inr (.inr ⟨rfl, _, .inr (.inl rfl)⟩)) c1 c0 z0
  refine hd.mono ?_
  rintro e u' w3 ⟨rfl, rfl, w4, hw4, rfl⟩
  have c4 : w4.cell? ⟨w.heap.size, 0, none⟩ = some .nilIface := by rw [Below.cell hw4 hlt]; exact c0
  simp [Leaves, settle, results, Tryd.results11, go_sem, c4]
  exact Below.trans HB.out ((Below.mono hw4 (by omega)).setCell (show w.heap.size ≤ w.heap.size by omega) _)


set_option maxRecDepth 20000 in
theorem try_bool_ret (f : FuncId) (caps : Array Value) (x : Bool) (w : World) (G : World → World → Prop) (hf : ∀ w, (callFunc f caps).run Tryd.prog w = .ok (.enter f caps) w)
    (H : ∀ w1, Below w.heap.size w w1 → Calls Tryd.prog f caps w1 fun e w2 => e = .returned (.bool x) ∧ Past w.heap.size w1 w2 ∧ G w1 w2) :
    Calls Tryd.prog 24 #[.func (.func f) #[] caps] w fun e w' => e = .returned (.tuple #[(.bool x), .nilIface]) ∧ Mid w G w' := by
  have hmf : ∀ (fn : Fn) (first cap : Array Value) (w : World), (Instr.makeFunc fn first cap).run Tryd.prog w = .ok (.func fn first cap) w := fun _ _ _ _ => rfl
  have hN : ((w.alloc (.cells #[.nilIface] 28)).alloc (.cells #[.bool true] 4)).heap[w.heap.size]? = some (.cells #[.nilIface] 28) := try_new0 _ _ _
  have hM : ((w.alloc (.cells #[.nilIface] 28)).alloc (.cells #[.bool true] 4)).heap[w.heap.size + 1]? = some (.cells #[.bool true] 4) := try_new1 _ _ _
  have hB : Below w.heap.size w ((w.alloc (.cells #[.nilIface] 28)).alloc (.cells #[.bool true] 4)) := ((Below.refl _ _).alloc (Nat.le_refl _) _).alloc (by simp) _
  have hS : ((w.alloc (.cells #[.nilIface] 28)).alloc (.cells #[.bool true] 4)).heap.size = w.heap.size + 2 := by simp
  have HH := Lib.hid H
  have HN := Lib.hid hN
  have HM := Lib.hid hM
  have HB := Lib.hid hB
  have HS := Lib.hid hS
  clear H hN hM hB hS
  go_enter_defers Tryd.func24, Tryd.ntmps24
  go_wp2
  with_reducible refine (HH.out _ HB.out).mono ?_
  rintro e w2 ⟨rfl, hP, hG⟩
  have e0 : w2.heap[w.heap.size]? = some (.cells #[.nilIface] 28) := (hP.2 _ (by omega) (by rw [HS.out]; omega)).trans HN.out
  have e1 : w2.heap[w.heap.size + 1]? = some (.cells #[.bool true] 4) := (hP.2 _ (by omega) (by rw [HS.out]; omega)).trans HM.out
  have c0 : w2.cell? ⟨w.heap.size, 0, none⟩ = some .nilIface := by simp [World.cell?, e0]
  have c1 : w2.cell? ⟨w.heap.size + 1, 0, none⟩ = some (.bool true) := by simp [World.cell?, e1]
  have z0 : w2.frozen? ⟨w.heap.size, 0, none⟩ = false := by simp [World.frozen?, e0]
  have z1 : w2.frozen? ⟨w.heap.size + 1, 0, none⟩ = false := by simp [World.frozen?, e1]
  clear e0 e1
  go_wp2
  refine leaves_cons (f := 37) (args := #[.pointer (some ⟨w.heap.size + 1, 0, none⟩), .pointer (some ⟨w.heap.size, 0, none⟩)]) (by simp) (by simp [go_sem]) ?_
  refine (door_bool_idle _ _ _ (by simp [go_sem, c1])).mono ?_
  rintro e u' w3 ⟨rfl, rfl, rfl⟩
  simp [Leaves, settle, results, Tryd.results24, go_sem, c0]
  exact ⟨_, _, HB.out, hG, ((Below.refl _ _).setCell (show w.heap.size ≤ w.heap.size + 1 by omega) _).setCell (show w.heap.size ≤ w.heap.size by omega) _⟩

set_option maxRecDepth 20000 in
theorem try_bool_panic (ads : List Addr) (so : Option Addr) (k : Nat) (hk : k < ads.length) (f : FuncId) (caps : Array Value) (w : World) (G : World → World → Prop) (hf : ∀ w, (callFunc f caps).run Tryd.prog w = .ok (.enter f caps) w)
    (H : ∀ w1, Below w.heap.size w w1 → Calls Tryd.prog f caps w1 fun e w2 => (∃ v, e = .panicked [{ v, recovered := false }] ∧ Pv ads so w2 v k ∧ St ads so w2) ∧ Past w.heap.size w1 w2 ∧ G w1 w2) :
    Calls Tryd.prog 24 #[.func (.func f) #[] caps] w fun e w' => e = .returned (.tuple #[.bool false, snt ads[k]]) ∧ Mid w G w' := by
  have hmf : ∀ (fn : Fn) (first cap : Array Value) (w : World), (Instr.makeFunc fn first cap).run Tryd.prog w = .ok (.func fn first cap) w := fun _ _ _ _ => rfl
  have hN : ((w.alloc (.cells #[.nilIface] 28)).alloc (.cells #[.bool true] 4)).heap[w.heap.size]? = some (.cells #[.nilIface] 28) := try_new0 _ _ _
  have hM : ((w.alloc (.cells #[.nilIface] 28)).alloc (.cells #[.bool true] 4)).heap[w.heap.size + 1]? = some (.cells #[.bool true] 4) := try_new1 _ _ _
  have hB : Below w.heap.size w ((w.alloc (.cells #[.nilIface] 28)).alloc (.cells #[.bool true] 4)) := ((Below.refl _ _).alloc (Nat.le_refl _) _).alloc (by simp) _
  have hS : ((w.alloc (.cells #[.nilIface] 28)).alloc (.cells #[.bool true] 4)).heap.size = w.heap.size + 2 := by simp
  have HH := Lib.hid H
  have HN := Lib.hid hN
  have HM := Lib.hid hM
  have HB := Lib.hid hB
  have HS := Lib.hid hS
  clear H hN hM hB hS
  go_enter_defers Tryd.func24, Tryd.ntmps24
  go_wp2
  with_reducible refine (HH.out _ HB.out).mono ?_
  rintro e w2 ⟨⟨v, rfl, hv, hV⟩, hP, hG⟩
  have e0 : w2.heap[w.heap.size]? = some (.cells #[.nilIface] 28) := (hP.2 _ (by omega) (by rw [HS.out]; omega)).trans HN.out
  have e1 : w2.heap[w.heap.size + 1]? = some (.cells #[.bool true] 4) := (hP.2 _ (by omega) (by rw [HS.out]; omega)).trans HM.out
  have c0 : w2.cell? ⟨w.heap.size, 0, none⟩ = some .nilIface := by simp [World.cell?, e0]
  have c1 : w2.cell? ⟨w.heap.size + 1, 0, none⟩ = some (.bool true) := by simp [World.cell?, e1]
  have z0 : w2.frozen? ⟨w.heap.size, 0, none⟩ = false := by simp [World.frozen?, e0]
  obtain ⟨hk', hd⟩ := door_bool_panic ads so ⟨w.heap.size + 1, 0, none⟩ ⟨w.heap.size, 0, none⟩ v .nilIface k [] w2 hV hv c1 c0 z0
  have hlt : w.heap.size < w2.heap.size := old_of_cell c0
  clear e0 e1
  refine leaves_cons (f := 37) (args := #[.pointer (some ⟨w.heap.size + 1, 0, none⟩), .pointer (some ⟨w.heap.size, 0, none⟩)]) (by simp) (by simp [go_sem]) ?_
  refine hd.mono ?_
  rintro e u' w3 ⟨rfl, rfl, w4, hw4, rfl⟩
  have c4 : w4.cell? ⟨w.heap.size, 0, none⟩ = some .nilIface := by rw [Below.cell hw4 hlt]; exact c0
  simp [Leaves, settle, results, Tryd.results24, go_sem, c4]
  exact ⟨_, _, HB.out, hG, (Below.mono hw4 (by omega)).setCell (show w.heap.size ≤ w.heap.size by omega) _⟩

set_option maxRecDepth 20000 in
theorem try_bool_nil (ads : List Addr) (so : Option Addr) (w : World) (V : St ads so w) (hk : 12 < ads.length) :
    Calls Tryd.prog 24 #[.nilFunc] w fun e w' => e = .returned (.tuple #[.bool false, snt ads[12]]) ∧ Kp w w' := by
  have hmf : ∀ (fn : Fn) (first cap : Array Value) (w : World), (Instr.makeFunc fn first cap).run Tryd.prog w = .ok (.func fn first cap) w := fun _ _ _ _ => rfl
  have hN : ((w.alloc (.cells #[.nilIface] 28)).alloc (.cells #[.bool true] 4)).heap[w.heap.size]? = some (.cells #[.nilIface] 28) := try_new0 _ _ _
  have hM : ((w.alloc (.cells #[.nilIface] 28)).alloc (.cells #[.bool true] 4)).heap[w.heap.size + 1]? = some (.cells #[.bool true] 4) := try_new1 _ _ _
  have hB : Below w.heap.size w ((w.alloc (.cells #[.nilIface] 28)).alloc (.cells #[.bool true] 4)) := ((Below.refl _ _).alloc (Nat.le_refl _) _).alloc (by simp) _
  have hS : ((w.alloc (.cells #[.nilIface] 28)).alloc (.cells #[.bool true] 4)).heap.size = w.heap.size + 2 := by simp
  have HN := Lib.hid hN
  have HM := Lib.hid hM
  have HB := Lib.hid hB
  have HS := Lib.hid hS
  have HV := Lib.hid V
  clear hN hM hB hS V
  go_enter_defers Tryd.func24, Tryd.ntmps24
  go_wp2
  refine leaves_cons (f := 37) (args := #[.pointer (some ⟨w.heap.size + 1, 0, none⟩), .pointer (some ⟨w.heap.size, 0, none⟩)]) (by simp) (by simp [go_sem]) ?_
  generalize hw2 : ((w.alloc (.cells #[.nilIface] 28)).alloc (.cells #[.bool true] 4)) = w2 at *
  have c0 : w2.cell? ⟨w.heap.size, 0, none⟩ = some .nilIface := by simp [World.cell?, HN.out]
  have c1 : w2.cell? ⟨w.heap.size + 1, 0, none⟩ = some (.bool true) := by simp [World.cell?, HM.out]
  have z0 : w2.frozen? ⟨w.heap.size, 0, none⟩ = false := by simp [World.frozen?, HN.out]
  have hlt : w.heap.size < w2.heap.size := old_of_cell c0
  obtain ⟨hk', hd⟩ := door_bool_panic ads so ⟨w.heap.size + 1, 0, none⟩ ⟨w.heap.size, 0, none⟩ _ .nilIface 12 [] w2 (HV.out.below HB.out) (.inr (.inr ⟨rfl, _, .inr (.inl rfl)⟩)) c1 c0 z0
  refine hd.mono ?_
  rintro e u' w3 ⟨rfl, rfl, w4, hw4, rfl⟩
  have c4 : w4.cell? ⟨w.heap.size, 0, none⟩ = some .nilIface := by rw [Below.cell hw4 hlt]; exact c0
  simp [Leaves, settle, results, Tryd.results24, go_sem, c4]
  exact Below.trans HB.out ((Below.mono hw4 (by omega)).setCell (show w.heap.size ≤ w.heap.size by omega) _)


set_option maxRecDepth 20000 in
theorem try_unit_ret (f : FuncId) (caps : Array Value)  (w : World) (G : World → World → Prop) (hf : ∀ w, (callFunc f caps).run Tryd.prog w = .ok (.enter f caps) w)
    (H : ∀ w1, Below w.heap.size w w1 → Calls Tryd.prog f caps w1 fun e w2 => e = .returned (.agg #[]) ∧ Past w.heap.size w1 w2 ∧ G w1 w2) :
    Calls Tryd.prog 43 #[.func (.func f) #[] caps] w fun e w' => e = .returned (.tuple #[(.agg #[]), .nilIface]) ∧ Mid w G w' := by
  have hmf : ∀ (fn : Fn) (first cap : Array Value) (w : World), (Instr.makeFunc fn first cap).run Tryd.prog w = .ok (.func fn first cap) w := fun _ _ _ _ => rfl
  have hN : (((w.alloc (.cells #[] 63)).alloc (.cells #[.nilIface] 28)).alloc (.cells #[.bool true] 4)).heap[w.heap.size + 1]? = some (.cells #[.nilIface] 28) := by simpa using try_new0 (w.alloc (.cells #[] 63)) (.cells #[.nilIface] 28) (.cells #[.bool true] 4)
  have hM : (((w.alloc (.cells #[] 63)).alloc (.cells #[.nilIface] 28)).alloc (.cells #[.bool true] 4)).heap[w.heap.size + 1 + 1]? = some (.cells #[.bool true] 4) := by simpa using try_new1 (w.alloc (.cells #[] 63)) (.cells #[.nilIface] 28) (.cells #[.bool true] 4)
  have hB : Below w.heap.size w (((w.alloc (.cells #[] 63)).alloc (.cells #[.nilIface] 28)).alloc (.cells #[.bool true] 4)) := (((Below.refl _ _).alloc (Nat.le_refl _) _).alloc (by simp) _).alloc (by simp; omega) _
  have hS : (((w.alloc (.cells #[] 63)).alloc (.cells #[.nilIface] 28)).alloc (.cells #[.bool true] 4)).heap.size = w.heap.size + 3 := by simp
  have HH := Lib.hid H
  have HN := Lib.hid hN
  have HM := Lib.hid hM
  have HB := Lib.hid hB
  have HS := Lib.hid hS
  clear H hN hM hB hS
  go_enter_defers Tryd.func43, Tryd.ntmps43
  go_wp2
  with_reducible refine (HH.out _ HB.out).mono ?_
  rintro e w2 ⟨rfl, hP, hG⟩
  have e0 : w2.heap[w.heap.size + 1]? = some (.cells #[.nilIface] 28) := (hP.2 _ (by omega) (by rw [HS.out]; omega)).trans HN.out
  have e1 : w2.heap[w.heap.size + 1 + 1]? = some (.cells #[.bool true] 4) := (hP.2 _ (by omega) (by rw [HS.out]; omega)).trans HM.out
  have c0 : w2.cell? ⟨w.heap.size + 1, 0, none⟩ = some .nilIface := by simp [World.cell?, e0]
  have c1 : w2.cell? ⟨w.heap.size + 1 + 1, 0, none⟩ = some (.bool true) := by simp [World.cell?, e1]
  have z0 : w2.frozen? ⟨w.heap.size + 1, 0, none⟩ = false := by simp [World.frozen?, e0]
  have z1 : w2.frozen? ⟨w.heap.size + 1 + 1, 0, none⟩ = false := by simp [World.frozen?, e1]
  clear e0 e1
  go_wp2
  refine leaves_cons (f := 51) (args := #[.pointer (some ⟨w.heap.size + 1 + 1, 0, none⟩), .pointer (some ⟨w.heap.size + 1, 0, none⟩)]) (by simp) (by simp [go_sem]) ?_
  refine (door_unit_idle _ _ _ (by simp [go_sem, c1])).mono ?_
  rintro e u' w3 ⟨rfl, rfl, rfl⟩
  simp [Leaves, settle, results, Tryd.results43, go_sem, c0]
  exact ⟨_, _, HB.out, hG, ((Below.refl _ _).setCell (show w.heap.size ≤ w.heap.size + 1 + 1 by omega) _).setCell (show w.heap.size ≤ w.heap.size + 1 by omega) _⟩

set_option maxRecDepth 20000 in
theorem try_unit_panic (ads : List Addr) (so : Option Addr) (k : Nat) (hk : k < ads.length) (f : FuncId) (caps : Array Value) (w : World) (G : World → World → Prop) (hf : ∀ w, (callFunc f caps).run Tryd.prog w = .ok (.enter f caps) w)
    (H : ∀ w1, Below w.heap.size w w1 → Calls Tryd.prog f caps w1 fun e w2 => (∃ v, e = .panicked [{ v, recovered := false }] ∧ Pv ads so w2 v k ∧ St ads so w2) ∧ Past w.heap.size w1 w2 ∧ G w1 w2) :
    Calls Tryd.prog 43 #[.func (.func f) #[] caps] w fun e w' => e = .returned (.tuple #[.agg #[], snt ads[k]]) ∧ Mid w G w' := by
  have hmf : ∀ (fn : Fn) (first cap : Array Value) (w : World), (Instr.makeFunc fn first cap).run Tryd.prog w = .ok (.func fn first cap) w := fun _ _ _ _ => rfl
  have hN : (((w.alloc (.cells #[] 63)).alloc (.cells #[.nilIface] 28)).alloc (.cells #[.bool true] 4)).heap[w.heap.size + 1]? = some (.cells #[.nilIface] 28) := by simpa using try_new0 (w.alloc (.cells #[] 63)) (.cells #[.nilIface] 28) (.cells #[.bool true] 4)
  have hM : (((w.alloc (.cells #[] 63)).alloc (.cells #[.nilIface] 28)).alloc (.cells #[.bool true] 4)).heap[w.heap.size + 1 + 1]? = some (.cells #[.bool true] 4) := by simpa using try_new1 (w.alloc (.cells #[] 63)) (.cells #[.nilIface] 28) (.cells #[.bool true] 4)
  have hB : Below w.heap.size w (((w.alloc (.cells #[] 63)).alloc (.cells #[.nilIface] 28)).alloc (.cells #[.bool true] 4)) := (((Below.refl _ _).alloc (Nat.le_refl _) _).alloc (by simp) _).alloc (by simp; omega) _
  have hS : (((w.alloc (.cells #[] 63)).alloc (.cells #[.nilIface] 28)).alloc (.cells #[.bool true] 4)).heap.size = w.heap.size + 3 := by simp
  have HH := Lib.hid H
  have HN := Lib.hid hN
  have HM := Lib.hid hM
  have HB := Lib.hid hB
  have HS := Lib.hid hS
  clear H hN hM hB hS
  go_enter_defers Tryd.func43, Tryd.ntmps43
  go_wp2
  with_reducible refine (HH.out _ HB.out).mono ?_
  rintro e w2 ⟨⟨v, rfl, hv, hV⟩, hP, hG⟩
  have e0 : w2.heap[w.heap.size + 1]? = some (.cells #[.nilIface] 28) := (hP.2 _ (by omega) (by rw [HS.out]; omega)).trans HN.out
  have e1 : w2.heap[w.heap.size + 1 + 1]? = some (.cells #[.bool true] 4) := (hP.2 _ (by omega) (by rw [HS.out]; omega)).trans HM.out
  have c0 : w2.cell? ⟨w.heap.size + 1, 0, none⟩ = some .nilIface := by simp [World.cell?, e0]
  have c1 : w2.cell? ⟨w.heap.size + 1 + 1, 0, none⟩ = some (.bool true) := by simp [World.cell?, e1]
  have z0 : w2.frozen? ⟨w.heap.size + 1, 0, none⟩ = false := by simp [World.frozen?, e0]
  obtain ⟨hk', hd⟩ := door_unit_panic ads so ⟨w.heap.size + 1 + 1, 0, none⟩ ⟨w.heap.size + 1, 0, none⟩ v .nilIface k [] w2 hV hv c1 c0 z0
  have hlt : w.heap.size + 1 < w2.heap.size := old_of_cell c0
  clear e0 e1
  refine leaves_cons (f := 51) (args := #[.pointer (some ⟨w.heap.size + 1 + 1, 0, none⟩), .pointer (some ⟨w.heap.size + 1, 0, none⟩)]) (by simp) (by simp [go_sem]) ?_
  refine hd.mono ?_
  rintro e u' w3 ⟨rfl, rfl, w4, hw4, rfl⟩
  have c4 : w4.cell? ⟨w.heap.size + 1, 0, none⟩ = some .nilIface := by rw [Below.cell hw4 hlt]; exact c0
  simp [Leaves, settle, results, Tryd.results43, go_sem, c4]
  exact ⟨_, _, HB.out, hG, (Below.mono hw4 (by omega)).setCell (show w.heap.size ≤ w.heap.size + 1 by omega) _⟩

set_option maxRecDepth 20000 in
theorem try_unit_nil (ads : List Addr) (so : Option Addr) (w : World) (V : St ads so w) (hk : 12 < ads.length) :
    Calls Tryd.prog 43 #[.nilFunc] w fun e w' => e = .returned (.tuple #[.agg #[], snt ads[12]]) ∧ Kp w w' := by
  have hmf : ∀ (fn : Fn) (first cap : Array Value) (w : World), (Instr.makeFunc fn first cap).run Tryd.prog w = .ok (.func fn first cap) w := fun _ _ _ _ => rfl
  have hN : (((w.alloc (.cells #[] 63)).alloc (.cells #[.nilIface] 28)).alloc (.cells #[.bool true] 4)).heap[w.heap.size + 1]? = some (.cells #[.nilIface] 28) := by simpa using try_new0 (w.alloc (.cells #[] 63)) (.cells #[.nilIface] 28) (.cells #[.bool true] 4)
  have hM : (((w.alloc (.cells #[] 63)).alloc (.cells #[.nilIface] 28)).alloc (.cells #[.bool true] 4)).heap[w.heap.size + 1 + 1]? = some (.cells #[.bool true] 4) := by simpa using try_new1 (w.alloc (.cells #[] 63)) (.cells #[.nilIface] 28) (.cells #[.bool true] 4)
  have hB : Below w.heap.size w (((w.alloc (.cells #[] 63)).alloc (.cells #[.nilIface] 28)).alloc (.cells #[.bool true] 4)) := (((Below.refl _ _).alloc (Nat.le_refl _) _).alloc (by simp) _).alloc (by simp; omega) _
  have hS : (((w.alloc (.cells #[] 63)).alloc (.cells #[.nilIface] 28)).alloc (.cells #[.bool true] 4)).heap.size = w.heap.size + 3 := by simp
  have HN := Lib.hid hN
  have HM := Lib.hid hM
  have HB := Lib.hid hB
  have HS := Lib.hid hS
  have HV := Lib.hid V
  clear hN hM hB hS V
  go_enter_defers Tryd.func43, Tryd.ntmps43
  go_wp2
  refine leaves_cons (f := 51) (args := #[.pointer (some ⟨w.heap.size + 1 + 1, 0, none⟩), .pointer (some ⟨w.heap.size + 1, 0, none⟩)]) (by simp) (by simp [go_sem]) ?_
  generalize hw2 : (((w.alloc (.cells #[] 63)).alloc (.cells #[.nilIface] 28)).alloc (.cells #[.bool true] 4)) = w2 at *
  have c0 : w2.cell? ⟨w.heap.size + 1, 0, none⟩ = some .nilIface := by simp [World.cell?, HN.out]
  have c1 : w2.cell? ⟨w.heap.size + 1 + 1, 0, none⟩ = some (.bool true) := by simp [World.cell?, HM.out]
  have z0 : w2.frozen? ⟨w.heap.size + 1, 0, none⟩ = false := by simp [World.frozen?, HN.out]
  have hlt : w.heap.size + 1 < w2.heap.size := old_of_cell c0
  obtain ⟨hk', hd⟩ := door_unit_panic ads so ⟨w.heap.size + 1 + 1, 0, none⟩ ⟨w.heap.size + 1, 0, none⟩ _ .nilIface 12 [] w2 (HV.out.below HB.out) (.inr (.inr ⟨rfl, _, .inr (.inl rfl)⟩)) c1 c0 z0
  refine hd.mono ?_
  rintro e u' w3 ⟨rfl, rfl, w4, hw4, rfl⟩
  have c4 : w4.cell? ⟨w.heap.size + 1, 0, none⟩ = some .nilIface := by rw [Below.cell hw4 hlt]; exact c0
  simp [Leaves, settle, results, Tryd.results43, go_sem, c4]
  exact Below.trans HB.out ((Below.mono hw4 (by omega)).setCell (show w.heap.size ≤ w.heap.size + 1 by omega) _)

end Go.Proofs.YtcgcliglcdfijaaDoor
