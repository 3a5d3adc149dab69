/-
  THE CHAPTER's EXAMPLES (own work): 'alive' answers true; Try where what is done turns no old memory.
-/
import Derived.Test.YtcgcliglcdfijaaDoorDoes
namespace Go.Proofs.YtcgcliglcdfijaaDoor
open Go.RowKit Go.Extern.Stop Go.Stop Go.Extern

theorem St.kp {ads : List Addr} {so : Option Addr} {w w' : World} (h : St ads so w) (hb : Kp w w') : St ads so w' := h.below hb
theorem Past.of_kp {B : Nat} {w w' : World} (h : Kp w w') : Past B w w' := ⟨h.size, fun b _ hb => h.block b hb⟩
theorem Mid.kp {w w' : World} (h : Mid w Kp w') : Kp w w' := by
  obtain ⟨w1, w2, h1, h2, h3⟩ := h
  exact (h1.trans (Below.mono h2 h1.size)).trans h3
theorem Kp.of_drew (w : World) : Kp w w.drew := (Below.refl _ _).drew

theorem alive_1 (ads : List Addr) (w : World) (E : Errs gs14 ads w) (hk : 5 < ads.length) :
    Calls Tryd.prog 28 #[] w fun e w' => e = .panicked [{ v := snt ads[5], recovered := false }] ∧ w = w' := by
  have c := E.cell 5 (by decide)
  obtain ⟨a, ha⟩ : ∃ a, ads[5] = a := ⟨_, rfl⟩
  rw [ha] at c ⊢
  have c' : w.cell? ⟨0, 0, none⟩ = some (.iface 95 (.pointer (some a))) := c
  clear c ha
  go_enter Tryd.func28, Tryd.ntmps28
  go_wp2_with (go_at_call 21; (with_reducible refine (must_some _ _ _ _).mono ?_); rintro e w' ⟨rfl, rfl⟩)
  exact ⟨rfl, rfl, rfl⟩

set_option maxRecDepth 20000 in
theorem alive_2 (q : Addr) (w : World) (hq : w.cell? q = some (.slice none 0 0)) :
    Calls Tryd.prog 29 #[.pointer (some q)] w fun e w' => (∃ v, e = .panicked [{ v, recovered := false }] ∧ RtV v) ∧ Kp w w' := by
  obtain ⟨v, hb⟩ := bounds_ex .index 0 0 (by decide) (by decide) w
  go_enter Tryd.func29, Tryd.ntmps29
  go_wp2
  exact ⟨rfl, ⟨_, rfl, _, .inl rfl⟩, Kp.of_drew _⟩

theorem alive_t1 (ads : List Addr) (so : Option Addr) (w : World) (V : St ads so w) (hk : 5 < ads.length) :
    Calls Tryd.prog 11 #[.func (.func 28) #[] #[]] w fun e w' => e = .returned (.tuple #[.int .i64 0, snt ads[5]]) ∧ Kp w w' := by
  refine (try_int_panic ads so 5 hk _ #[] w Kp (fun w => by simp [go_sem]) fun w1 h1 => ?_).mono ?_
  · refine (alive_1 ads w1 (V.below h1).E hk).mono ?_
    rintro e w2 ⟨rfl, rfl⟩
    exact ⟨⟨_, rfl, .inl ⟨hk, rfl⟩, V.below h1⟩, Past.of_kp (Kp.refl _), Kp.refl _⟩
  · rintro e w' ⟨rfl, hm⟩
    exact ⟨rfl, hm.kp⟩

theorem alive_t2 (ads : List Addr) (so : Option Addr) (w : World) (V : St ads so w) (hk : 12 < ads.length) (q : Addr) (hq : w.cell? q = some (.slice none 0 0)) :
    Calls Tryd.prog 11 #[.func (.func 29) #[] #[.pointer (some q)]] w fun e w' => e = .returned (.tuple #[.int .i64 0, snt ads[12]]) ∧ Kp w w' := by
  refine (try_int_panic ads so 12 hk _ #[.pointer (some q)] w Kp (fun w => by simp [go_sem]) fun w1 h1 => ?_).mono ?_
  · refine (alive_2 q w1 (by rw [Below.cell h1 (old_of_cell hq)]; exact hq)).mono ?_
    rintro e w2 ⟨⟨v, rfl, hv⟩, hw⟩
    exact ⟨⟨_, rfl, .inr (.inr ⟨rfl, hv⟩), (V.below h1).below hw⟩, Past.of_kp hw, hw⟩
  · rintro e w' ⟨rfl, hm⟩
    exact ⟨rfl, hm.kp⟩

theorem num_int (ads : List Addr) (w : World) (E : Errs gs14 ads w) (k : Nat) (hk : k < 14) (hka : k < ads.length) (n : Int) (hn : n = k + 1) :
    Calls Tryd.prog 13 #[snt ads[k]] w fun e w' => e = .returned (.int .i64 n) ∧ Kp w w' := by
  subst hn
  exact num_err ads w E k hk hka

set_option maxRecDepth 20000 in
theorem alive_any (ads : List Addr) (so : Option Addr) (w : World) (V : St ads so w) :
    Calls Tryd.prog 8 #[] w fun e w' => e = .returned (.bool true) ∧ Kp w w' := by
  have hmf : ∀ (fn : Fn) (first cap : Array Value) (w : World), (Instr.makeFunc fn first cap).run Tryd.prog w = .ok (.func fn first cap) w := fun _ _ _ _ => rfl
  have hl := V.len
  have h5 : 5 < ads.length := by omega
  have h12 : 12 < ads.length := by omega
  obtain ⟨a5, ha5⟩ : ∃ a, ads[5] = a := ⟨_, rfl⟩
  obtain ⟨a12, ha12⟩ : ∃ a, ads[12] = a := ⟨_, rfl⟩
  have T1 : ∀ w, St ads so w → Calls Tryd.prog 11 #[.func (.func 28) #[] #[]] w fun e w' => e = .returned (.tuple #[.int .i64 0, snt a5]) ∧ Kp w w' := by
    intro w V; rw [← ha5]; exact alive_t1 ads so w V h5
  have T2 : ∀ w, St ads so w → ∀ q, w.cell? q = some (.slice none 0 0) → Calls Tryd.prog 11 #[.func (.func 29) #[] #[.pointer (some q)]] w fun e w' => e = .returned (.tuple #[.int .i64 0, snt a12]) ∧ Kp w w' := by
    intro w V q hq; rw [← ha12]; exact alive_t2 ads so w V h12 q hq
  have N1 : ∀ w, St ads so w → Calls Tryd.prog 13 #[snt a5] w fun e w' => e = .returned (.int .i64 6) ∧ Kp w w' := by
    intro w V; rw [← ha5]; exact num_int ads w V.E 5 (by omega) h5 6 (by omega)
  have N2 : ∀ w, St ads so w → Calls Tryd.prog 13 #[snt a12] w fun e w' => e = .returned (.int .i64 13) ∧ Kp w w' := by
    intro w V; rw [← ha12]; exact num_int ads w V.E 12 (by omega) h12 13 (by omega)
  have H1 := Lib.hid T1
  have H2 := Lib.hid T2
  have M1 := Lib.hid N1
  have M2 := Lib.hid N2
  have HV := Lib.hid V
  clear T1 T2 N1 N2 V ha5 ha12 h5 h12 hl
  go_enter Tryd.func8, Tryd.ntmps8
  go_wp2_with (go_at_call 11; (with_reducible refine (H1.out _ HV.out).mono ?_); rintro e w1 ⟨rfl, hw1⟩)
  have hq : (w1.alloc (.cells #[.slice none 0 0] 34)).cell? ⟨w1.heap.size, 0, none⟩ = some (.slice none 0 0) := by simp [go_sem]
  have HK := Lib.hid (Kp.trans hw1 ((Below.refl _ _).alloc (Nat.le_refl _) (.cells #[.slice none 0 0] 34)))
  have HQ := Lib.hid hq
  clear hw1 hq
  with_reducible refine (H2.out _ (HV.out.kp HK.out) _ HQ.out).mono ?_
  rintro e w2 ⟨rfl, hw2⟩
  have HK2 := Lib.hid (Kp.trans HK.out hw2)
  clear hw2
  go_wp2_with (go_at_call 13; (with_reducible refine (M1.out _ (HV.out.kp HK2.out)).mono ?_); rintro e w3 ⟨rfl, hw3⟩)
  have HK3 := Lib.hid (Kp.trans HK2.out hw3)
  clear hw3
  with_reducible refine (M2.out _ (HV.out.kp HK3.out)).mono ?_
  rintro e w4 ⟨rfl, hw4⟩
  have HK4 := Lib.hid (Kp.trans HK3.out hw4)
  clear hw4
  go_wp2
  go_ret
  exact ⟨rfl, HK4.out⟩
end Go.Proofs.YtcgcliglcdfijaaDoor
