/-
  catch.run (own work): Try of what answers nothing.
-/
import Derived.Test.YtcgcliglcdfijaaDoorTriesV
import Derived.Laws.EntriesVeiled
namespace Go.Proofs.YtcgcliglcdfijaaDoor
open Go.RowKit Go.Extern.Stop Go.Stop Go.Extern


set_option maxRecDepth 20000 in
theorem run1_ret (f : FuncId) (caps : Array Value) (q : Addr) (w : World) (G : World → World → Prop) (hf : ∀ w, (callFunc f caps).run Tryd.prog w = .ok (.enter f caps) w) (hq : w.cell? q = some (.func (.func f) #[] caps))
    (H : ∀ w1, Kp w w1 → Calls Tryd.prog f caps w1 fun e w2 => (e = .returned (.tuple #[])) ∧ G w1 w2) :
    Calls Tryd.prog 44 #[.pointer (some q)] w fun e w2 => (e = .returned (.agg #[])) ∧ ∃ w1, Kp w w1 ∧ G w1 w2 := by
  have hq1 := kp_cell (kp_alloc w (.cells #[] 63)) hq
  have HH := Lib.hid (H _ (kp_alloc w (.cells #[] 63)))
  clear H hq
  go_enter Tryd.func44, Tryd.ntmps44
  go_wp2
  with_reducible refine HH.out.mono ?_
  rintro e w2 ⟨rfl, hg⟩
  go_wp2
  simp [bodyPost, results, Tryd.results44, go_sem]
  exact ⟨_, kp_alloc w _, hg⟩


set_option maxRecDepth 20000 in
theorem run1_panic (f : FuncId) (caps : Array Value) (q : Addr) (w : World) (G : World → World → Prop) (Q : Value → World → Prop) (hf : ∀ w, (callFunc f caps).run Tryd.prog w = .ok (.enter f caps) w) (hq : w.cell? q = some (.func (.func f) #[] caps))
    (H : ∀ w1, Kp w w1 → Calls Tryd.prog f caps w1 fun e w2 => (∃ v, e = .panicked [{ v, recovered := false }] ∧ Q v w2) ∧ G w1 w2) :
    Calls Tryd.prog 44 #[.pointer (some q)] w fun e w2 => (∃ v, e = .panicked [{ v, recovered := false }] ∧ Q v w2) ∧ ∃ w1, Kp w w1 ∧ G w1 w2 := by
  have hq1 := kp_cell (kp_alloc w (.cells #[] 63)) hq
  have HH := Lib.hid (H _ (kp_alloc w (.cells #[] 63)))
  clear H hq
  go_enter Tryd.func44, Tryd.ntmps44
  go_wp2
  with_reducible refine HH.out.mono ?_
  rintro e w2 ⟨⟨v, rfl, hv⟩, hg⟩
  go_wp2
  exact ⟨rfl, ⟨v, rfl, hv⟩, _, kp_alloc w _, hg⟩


set_option maxRecDepth 20000 in
theorem run_ret (f : FuncId) (caps : Array Value) (w : World) (G : World → World → Prop) (hf : ∀ w, (callFunc f caps).run Tryd.prog w = .ok (.enter f caps) w)
    (H : ∀ w1, Kp w w1 → Calls Tryd.prog f caps w1 fun e w2 => (e = .returned (.tuple #[])) ∧ Past w.heap.size w1 w2 ∧ G w1 w2) :
    Calls Tryd.prog 35 #[.func (.func f) #[] caps] w fun e w' => e = .returned (.nilIface) ∧ Mid w G w' := by
  have hmf : ∀ (fn : Fn) (first cap : Array Value) (w : World), (Instr.makeFunc fn first cap).run Tryd.prog w = .ok (.func fn first cap) w := fun _ _ _ _ => rfl
  have HT : Calls Tryd.prog 43 #[.func (.func 44) #[] #[.pointer (some ⟨w.heap.size, 0, none⟩)]] (w.alloc (.cells #[.func (.func f) #[] caps] 1)) fun e w' => e = .returned (.tuple #[.agg #[], .nilIface]) ∧ w.heap.size ≤ w'.heap.size ∧ Mid w G w' := by
    have hs : (w.alloc (.cells #[.func (.func f) #[] caps] 1)).heap.size = w.heap.size + 1 := by simp
    refine (try_unit_ret 44 #[.pointer (some ⟨w.heap.size, 0, none⟩)] _ (fun w1 w2 => ∃ w1p, Kp w1 w1p ∧ Past w.heap.size w1p w2 ∧ G w1p w2) (fun w => by simp [go_sem]) fun w1 h1 => ?_).mono ?_
    · have hq := kp_cell h1 (box_cell w (.func (.func f) #[] caps) 1)
      refine (run1_ret f caps _ w1 (fun w1 w2 => Past w.heap.size w1 w2 ∧ G w1 w2) hf hq fun w2 h2 => H w2 (Kp.trans (kp_alloc _ _) (Kp.trans h1 h2))).mono ?_
      rintro e w2 ⟨he, w1p, k1, hp, hg⟩
      refine ⟨he, ⟨Nat.le_trans k1.size hp.1, fun b hb hl => ?_⟩, w1p, k1, hp, hg⟩
      rw [hp.2 b (by omega) (Nat.lt_of_lt_of_le hl k1.size), k1.block b hl]
    · rintro e w' ⟨rfl, w1, w2, h1, ⟨w1p, k1, hp, hg⟩, h3⟩
      have e1 : Below w.heap.size w w1p := Kp.trans (kp_alloc _ _) (Kp.trans h1 k1)
      have e3 : Below w.heap.size w2 w' := Below.mono h3 (by omega)
      exact ⟨rfl, Nat.le_trans e1.size (Nat.le_trans hp.1 e3.size), w1p, w2, e1, hg, e3⟩
  have HTT := Lib.hid HT
  clear HT H
  go_enter Tryd.func35, Tryd.ntmps35
  go_wp2_with (go_at_call 43; (with_reducible refine HTT.out.mono ?_); rintro e w' ⟨rfl, hsz, hm⟩)
  go_ret
  obtain ⟨w1, w2, h1, h2, h3⟩ := hm
  exact ⟨rfl, w1, w2, h1, h2, h3.alloc hsz _⟩


set_option maxRecDepth 20000 in
theorem run_panic (ads : List Addr) (so : Option Addr) (k : Nat) (hk : k < ads.length) (f : FuncId) (caps : Array Value) (w : World) (G : World → World → Prop) (hf : ∀ w, (callFunc f caps).run Tryd.prog w = .ok (.enter f caps) w)
    (H : ∀ w1, Kp w w1 → Calls Tryd.prog f caps w1 fun e w2 => (∃ v, e = .panicked [{ v, recovered := false }] ∧ (Pv ads so w2 v k ∧ St ads so w2)) ∧ Past w.heap.size w1 w2 ∧ G w1 w2) :
    Calls Tryd.prog 35 #[.func (.func f) #[] caps] w fun e w' => e = .returned (snt ads[k]) ∧ Mid w G w' := by
  have hmf : ∀ (fn : Fn) (first cap : Array Value) (w : World), (Instr.makeFunc fn first cap).run Tryd.prog w = .ok (.func fn first cap) w := fun _ _ _ _ => rfl
  have HT : Calls Tryd.prog 43 #[.func (.func 44) #[] #[.pointer (some ⟨w.heap.size, 0, none⟩)]] (w.alloc (.cells #[.func (.func f) #[] caps] 1)) fun e w' => e = .returned (.tuple #[.agg #[], snt ads[k]]) ∧ w.heap.size ≤ w'.heap.size ∧ Mid w G w' := by
    have hs : (w.alloc (.cells #[.func (.func f) #[] caps] 1)).heap.size = w.heap.size + 1 := by simp
    refine (try_unit_panic ads so k hk 44 #[.pointer (some ⟨w.heap.size, 0, none⟩)] _ (fun w1 w2 => ∃ w1p, Kp w1 w1p ∧ Past w.heap.size w1p w2 ∧ G w1p w2) (fun w => by simp [go_sem]) fun w1 h1 => ?_).mono ?_
    · have hq := kp_cell h1 (box_cell w (.func (.func f) #[] caps) 1)
      refine (run1_panic f caps _ w1 (fun w1 w2 => Past w.heap.size w1 w2 ∧ G w1 w2) (fun v w2 => Pv ads so w2 v k ∧ St ads so w2) hf hq fun w2 h2 => H w2 (Kp.trans (kp_alloc _ _) (Kp.trans h1 h2))).mono ?_
      rintro e w2 ⟨he, w1p, k1, hp, hg⟩
      refine ⟨by obtain ⟨v, h5, h6, h7⟩ := he; exact ⟨v, h5, h6, h7⟩, ⟨Nat.le_trans k1.size hp.1, fun b hb hl => ?_⟩, w1p, k1, hp, hg⟩
      rw [hp.2 b (by omega) (Nat.lt_of_lt_of_le hl k1.size), k1.block b hl]
    · rintro e w' ⟨rfl, w1, w2, h1, ⟨w1p, k1, hp, hg⟩, h3⟩
      have e1 : Below w.heap.size w w1p := Kp.trans (kp_alloc _ _) (Kp.trans h1 k1)
      have e3 : Below w.heap.size w2 w' := Below.mono h3 (by omega)
      exact ⟨rfl, Nat.le_trans e1.size (Nat.le_trans hp.1 e3.size), w1p, w2, e1, hg, e3⟩
  obtain ⟨a, ha⟩ : ∃ a, ads[k] = a := ⟨_, rfl⟩
  rw [ha] at HT ⊢
  have HTT := Lib.hid HT
  clear HT H
  go_enter Tryd.func35, Tryd.ntmps35
  go_wp2_with (go_at_call 43; (with_reducible refine HTT.out.mono ?_); rintro e w' ⟨rfl, hsz, hm⟩)
  go_ret
  obtain ⟨w1, w2, h1, h2, h3⟩ := hm
  exact ⟨rfl, w1, w2, h1, h2, h3.alloc hsz _⟩


set_option maxRecDepth 20000 in
theorem run1_nil (q : Addr) (w : World) (hq : w.cell? q = some .nilFunc) :
    Calls Tryd.prog 44 #[.pointer (some q)] w fun e w2 => (∃ v, e = .panicked [{ v, recovered := false }] ∧ RtV v) ∧ Kp w w2 := by
  have hq1 := kp_cell (kp_alloc w (.cells #[] 63)) hq
  clear hq
  go_enter Tryd.func44, Tryd.ntmps44
  go_wp2
  exact ⟨rfl, ⟨_, rfl, _, .inr (.inl rfl)⟩, kp_alloc w _⟩

set_option maxRecDepth 20000 in
theorem run_nil (ads : List Addr) (so : Option Addr) (w : World) (V : St ads so w) (hk : 12 < ads.length) :
    Calls Tryd.prog 35 #[.nilFunc] w fun e w' => e = .returned (snt ads[12]) ∧ Kp w w' := by
  have hmf : ∀ (fn : Fn) (first cap : Array Value) (w : World), (Instr.makeFunc fn first cap).run Tryd.prog w = .ok (.func fn first cap) w := fun _ _ _ _ => rfl
  have HT : Calls Tryd.prog 43 #[.func (.func 44) #[] #[.pointer (some ⟨w.heap.size, 0, none⟩)]] (w.alloc (.cells #[.nilFunc] 1)) fun e w' => e = .returned (.tuple #[.agg #[], snt ads[12]]) ∧ Kp w w' := by
    refine (try_unit_panic ads so 12 hk 44 #[.pointer (some ⟨w.heap.size, 0, none⟩)] _ Kp (fun w => by simp [go_sem]) fun w1 h1 => ?_).mono ?_
    · have hq := kp_cell h1 (box_cell w .nilFunc 1)
      refine (run1_nil _ w1 hq).mono ?_
      rintro e w2 ⟨⟨v, rfl, hv⟩, h2⟩
      exact ⟨⟨v, rfl, .inr (.inr ⟨rfl, hv⟩), V.kp (Kp.trans (kp_alloc _ _) (Kp.trans h1 h2))⟩, Past.of_kp h2, h2⟩
    · rintro e w' ⟨rfl, hm⟩
      exact ⟨rfl, Kp.trans (kp_alloc _ _) hm.kp⟩
  obtain ⟨a, ha⟩ : ∃ a, ads[12] = a := ⟨_, rfl⟩
  rw [ha] at HT ⊢
  have HTT := Lib.hid HT
  clear HT V
  go_enter Tryd.func35, Tryd.ntmps35
  go_wp2_with (go_at_call 43; (with_reducible refine HTT.out.mono ?_); rintro e w' ⟨rfl, hm⟩)
  go_ret
  exact ⟨rfl, Kp.trans hm (kp_alloc _ _)⟩

end Go.Proofs.YtcgcliglcdfijaaDoor
