/-
  fields.Flag, fields.ToFlag (own work).
-/
import Derived.Test.YtfealdllicicnaaDoorTryG
import Derived.Test.YtfealdllicicnaaDoorVal
import Derived.BigQuiet
namespace Go.Proofs.YtfealdllicicnaaDoor
open Go.RowKit Go.ChangeShapes Go.WideShapes

/-- a flag's bytes -/
def flB (b : Bool) : List Int := if b then [1] else []
theorem flag_any (b : Bool) (w : World) : Calls Tryd.prog 33 #[.bool b] w fun e w' => ∃ v, e = .returned v ∧ w'.ownsRow w.heap.size 5 1 v (flB b).length ((flB b).map (Value.int .u8)) ∧ Kp w w' := by
  cases b with
  | false =>
    go_enter Tryd.func33, Tryd.ntmps33
    go_wp2
    go_ret
    exact ⟨_, rfl, ⟨by simp [flB], .inl ⟨rfl, rfl⟩⟩, Kp.refl _⟩
  | true =>
    go_enter Tryd.func33, Tryd.ntmps33
    go_wp2
    go_ret
    refine ⟨_, rfl, ⟨by simp [flB], .inr ⟨w.heap.size, 1, _, rfl, Nat.le_refl _, (MapKept.heap_alloc w _).1, Nat.le_refl _, by decide, rfl, rfl⟩⟩, kp_alloc _ _⟩

/-- WHAT ToFlag ANSWERS. -/
def isFlag (bs : List Int) : Bool := decide (bs.length = 0 ∨ (bs.length = 1 ∧ bs.getD 0 0 = 1))

set_option maxRecDepth 20000 in
theorem toFlag1_any (ads : List Addr) (p : Addr) (a : Option Addr) (cap : Nat) (bs : List Int) (len : Nat) (hlen : bs.length = len) (h3 : 3 < ads.length) (w : World) (V : St ads w) (hp : w.cell? p = some (.slice a len cap)) (hs : SlB (.slice a len cap) bs w) :
    Calls Tryd.prog 57 #[.pointer (some p)] w fun e w' => ((isFlag bs = true ∧ e = .returned (.bool (decide (bs.length = 1)))) ∨ (isFlag bs = false ∧ e = .panicked [{ v := snt ads[3], recovered := false }])) ∧ Kp w w' := by
  have c0 : w.cell? ⟨3, 0, none⟩ = some (snt ads[3]) := V.cell 3 (by decide)
  obtain ⟨ea, hea⟩ : ∃ a, ads[3] = a := ⟨_, rfl⟩
  rw [hea] at c0 ⊢
  obtain ⟨ll, hll⟩ : ∃ ll : Int, (len : Int) = ll := ⟨_, rfl⟩
  have hat : len = 1 → ∃ b off, a = some ⟨b, off, none⟩ ∧ w.cell? ⟨b, off, none⟩ = some (.int .u8 (bs.getD 0 0)) := by
    intro h
    obtain ⟨b, off, h1, h2⟩ := hs.at 0 (by omega)
    exact ⟨b, off, h1, h2⟩
  clear V hs hea
  by_cases h0 : len = 0
  · have e1 : isFlag bs = true := decide_eq_true (.inl (by omega))
    have e2 : decide (bs.length = 1) = false := by simp; omega
    simp only [e1, e2, true_and, Bool.true_eq_false, false_and, or_false]
    have q1 : ¬ ll = 1 := by omega
    have q2 : ll = 0 := by omega
    clear hat
    subst h0
    go_enter Tryd.func57, Tryd.ntmps57
    go_wp2_with (go_at_call 43; (with_reducible refine (demand_t _ _).mono ?_); rintro e w' ⟨rfl, rfl⟩)
    go_ret
    exact ⟨rfl, Kp.refl _⟩
  · by_cases h1 : len = 1
    · obtain ⟨b, off, rfl, hc⟩ := hat h1
      clear hat
      obtain ⟨x, hx⟩ : ∃ x, bs.getD 0 0 = x := ⟨_, rfl⟩
      rw [hx] at hc
      by_cases hx1 : x = 1
      · have e1 : isFlag bs = true := decide_eq_true (.inr ⟨by omega, by omega⟩)
        have e2 : decide (bs.length = 1) = true := by simp; omega
        simp only [e1, e2, true_and, Bool.true_eq_false, false_and, or_false]
        subst h1 hx1
        go_enter Tryd.func57, Tryd.ntmps57
        go_wp2_with (go_at_call 43; (with_reducible refine (demand_t _ _).mono ?_); rintro e w' ⟨rfl, rfl⟩)
        go_ret
        exact ⟨rfl, Kp.refl _⟩
      · have e1 : isFlag bs = false := decide_eq_false (by omega)
        simp only [e1, Bool.false_eq_true, false_and, true_and, false_or]
        have hx' : (x == 1) = false := by simp; exact hx1
        subst h1
        go_enter Tryd.func57, Tryd.ntmps57
        go_wp2_with (go_at_call 43; (with_reducible refine (demand_f _ _).mono ?_); rintro e w' ⟨rfl, rfl⟩)
        exact ⟨rfl, rfl, Kp.refl _⟩
    · have e1 : isFlag bs = false := decide_eq_false (by omega)
      simp only [e1, Bool.false_eq_true, false_and, true_and, false_or]
      have q1 : (ll == 1) = false := by simp; omega
      have q2 : (ll == 0) = false := by simp; omega
      clear hat
      go_enter Tryd.func57, Tryd.ntmps57
      go_wp2_with (go_at_call 43; (with_reducible refine (demand_f _ _).mono ?_); rintro e w' ⟨rfl, rfl⟩)
      exact ⟨rfl, rfl, Kp.refl _⟩

theorem toFlag_any (ads : List Addr) (a : Option Addr) (cap : Nat) (bs : List Int) (len : Nat) (hlen : bs.length = len) (h3 : 3 < ads.length) (w : World) (V : St ads w) (hs : SlB (.slice a len cap) bs w) :
    Calls Tryd.prog 32 #[.slice a len cap] w fun e w' => e = .returned (if isFlag bs then .tuple #[.bool (decide (bs.length = 1)), .nilIface] else .tuple #[.bool false, snt ads[3]]) ∧ Kp w w' := by
  have hmf : ∀ (fn : Fn) (first cap : Array Value) (w : World), (Instr.makeFunc fn first cap).run Tryd.prog w = .ok (.func fn first cap) w := fun _ _ _ _ => rfl
  have kb := kp_alloc w (.cells #[.slice a len cap] 25)
  have hc := box_cell w (.slice a len cap) 25
  have HB := fun w1 (h1 : Kp (w.alloc (.cells #[.slice a len cap] 25)) w1) => toFlag1_any ads ⟨w.heap.size, 0, none⟩ a cap bs len hlen h3 w1 (V.below (Kp.trans kb h1)) (kp_cell h1 hc) (hs.kp (Kp.trans kb h1))
  have KB := Lib.hid kb
  have VB := V.below kb
  cases hf : isFlag bs with
  | true =>
    rw [if_pos rfl]
    simp only [hf, true_and, Bool.true_eq_false, false_and, or_false] at HB
    obtain ⟨r, hr⟩ : ∃ r, decide (bs.length = 1) = r := ⟨_, rfl⟩
    rw [hr] at HB ⊢
    have HT := Lib.hid (try_bool_val 57 #[.pointer (some ⟨w.heap.size, 0, none⟩)] r (w.alloc (.cells #[.slice a len cap] 25)) (by intro w; simp [go_sem]) fun w1 h1 => HB w1 h1)
    clear kb hc V hf hs hr HB VB
    go_enter Tryd.func32, Tryd.ntmps32
    go_wp2_with (go_at_call 56; (with_reducible refine HT.out.mono ?_); rintro e w' ⟨rfl, hk⟩; have HK := Lib.hid hk; clear hk)
    go_ret2
    exact ⟨rfl, Kp.trans KB.out HK.out⟩
  | false =>
    rw [if_neg (by decide)]
    simp only [hf, Bool.false_eq_true, false_and, true_and, false_or] at HB
    have HT := Lib.hid (try_bool_err ads 3 h3 57 #[.pointer (some ⟨w.heap.size, 0, none⟩)] (w.alloc (.cells #[.slice a len cap] 25)) VB (by intro w; simp [go_sem]) fun w1 h1 => HB w1 h1)
    clear kb hc V hf hs HB VB
    go_enter Tryd.func32, Tryd.ntmps32
    go_wp2_with (go_at_call 56; (with_reducible refine HT.out.mono ?_); rintro e w' ⟨rfl, hk⟩; have HK := Lib.hid hk; clear hk)
    go_ret2
    exact ⟨rfl, Kp.trans KB.out HK.out⟩
end Go.Proofs.YtfealdllicicnaaDoor
