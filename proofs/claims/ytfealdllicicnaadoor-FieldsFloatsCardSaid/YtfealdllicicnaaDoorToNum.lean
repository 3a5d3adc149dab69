/-
  fields.ToNumber (own work).
-/
import Derived.Test.YtfealdllicicnaaDoorTryG
import Derived.Test.YtfealdllicicnaaDoorVal
import Derived.BigQuiet
import Derived.StillTailTactics
import Derived.Deep.RegionWith
namespace Go.Proofs.YtfealdllicicnaaDoor
open Go.RowKit Go.ChangeShapes Go.WideShapes

set_option maxRecDepth 20000 in
theorem toNumber1_form (ads : List Addr) (p : Addr) (a : Option Addr) (cap : Nat) (bs : List Int) (len : Nat) (hlen : bs.length = len) (h3 : 3 < ads.length) (hz : 0 < bs.length ∧ bs.getD 0 0 = 0) (w : World) (V : St ads w) (hp : w.cell? p = some (.slice a len cap)) (hs : SlB (.slice a len cap) bs w) :
    Calls Tryd.prog 48 #[.pointer (some p)] w fun e w' => e = .panicked [{ v := snt ads[3], recovered := false }] ∧ Kp w w' := by
  have c3 : w.cell? ⟨3, 0, none⟩ = some (snt ads[3]) := V.cell 3 (by decide)
  obtain ⟨e3, he3⟩ : ∃ a, ads[3] = a := ⟨_, rfl⟩
  rw [he3] at c3 ⊢
  obtain ⟨ll, hll⟩ : ∃ ll : Int, (len : Int) = ll := ⟨_, rfl⟩
  obtain ⟨b, off, rfl, hc⟩ := hs.at 0 hz.1
  rw [hz.2, Nat.add_zero] at hc
  have hd : (ll == 0) = false := by simp; omega
  have hpos : 0 < len := by omega
  have hposI : 0 < ll := by omega
  have KD := Lib.hid (Kp.refl w).drew
  clear hs hz hlen V he3
  go_enter Tryd.func48, Tryd.ntmps48
  go_wp2
  go_still_tail 10, (by kernel_rfl)
  change wpList _ _ _ _ _ w.drew
  go_wp2_with (go_at_call 43; (with_reducible refine (demand_f _ _).mono ?_); rintro e w' ⟨rfl, rfl⟩)
  exact ⟨rfl, rfl, KD.out⟩

/-- the first byte isn't 0 -/
def Lead (a : Option Addr) (len : Nat) (w : World) : Prop := len = 0 ∨ ∃ b off x, a = some ⟨b, off, none⟩ ∧ w.cell? ⟨b, off, none⟩ = some (.int .u8 x) ∧ (x != 0) = true ∧ 0 < len
theorem lead_of {a : Option Addr} {cap : Nat} {bs : List Int} {len : Nat} {w : World} (hlen : bs.length = len) (hs : SlB (.slice a len cap) bs w) (hz : ¬(0 < bs.length ∧ bs.getD 0 0 = 0)) : Lead a len w := by
  rcases Nat.eq_zero_or_pos len with q | q
  · exact .inl q
  · obtain ⟨b, off, h1, h2⟩ := hs.at 0 (by omega)
    rw [Nat.add_zero] at h2
    refine .inr ⟨b, off, _, h1, h2, ?_, q⟩
    simp only [bne_iff_ne, ne_eq]
    exact fun h => hz ⟨by omega, h⟩

set_option maxRecDepth 20000 in
theorem toNumber1_long (ads : List Addr) (p : Addr) (a : Option Addr) (cap len : Nat) (h8 : 8 < len) (h0 : 0 < ads.length) (w : World) (V : St ads w) (hp : w.cell? p = some (.slice a len cap)) (hz : Lead a len w) :
    Calls Tryd.prog 48 #[.pointer (some p)] w fun e w' => e = .panicked [{ v := snt (ads[0]'h0), recovered := false }] ∧ Kp w w' := by
  have h14 : ads.length = 14 := V.len
  obtain ⟨e3, c3⟩ : ∃ e3, w.cell? ⟨3, 0, none⟩ = some (snt e3) := ⟨ads[3]'(by omega), V.cell 3 (by decide)⟩
  have c0 : w.cell? ⟨0, 0, none⟩ = some (snt (ads[0]'h0)) := V.cell 0 (by decide)
  obtain ⟨e0, he0⟩ : ∃ a, ads[0]'h0 = a := ⟨_, rfl⟩
  rw [he0] at c0 ⊢
  obtain ⟨ll, hll⟩ : ∃ ll : Int, (len : Int) = ll := ⟨_, rfl⟩
  rcases hz with q | ⟨b, off, x, rfl, hc, hx, hpos⟩
  · omega
  have hd : (ll == 0) = false := by simp; omega
  have hle : decide (ll ≤ 8) = false := decide_eq_false (by omega)
  have hposI : 0 < ll := by omega
  have c0' : w.drew.cell? ⟨0, 0, none⟩ = some (snt e0) := c0
  have hp' : w.drew.cell? p = some (.slice (some ⟨b, off, none⟩) len cap) := hp
  have KD := Lib.hid (Kp.refl w).drew
  clear V he0 h14
  go_enter Tryd.func48, Tryd.ntmps48
  go_wp2
  go_still_tail 10, (by kernel_rfl)
  change wpList _ _ _ _ _ w.drew
  go_wp2_with (first | (go_at_call 43; (with_reducible refine (demand_t _ _).mono ?_); rintro e w' ⟨rfl, rfl⟩) | (go_at_call 43; (with_reducible refine (demand_f _ _).mono ?_); rintro e w' ⟨rfl, rfl⟩))
  exact ⟨rfl, rfl, KD.out⟩

set_option maxRecDepth 20000 in
theorem toNumber1_big (ads : List Addr) (p : Addr) (a : Option Addr) (cap : Nat) (bs : List Int) (len : Nat) (hlen : bs.length = len) (h8 : len ≤ 8) (hb : InB bs) (hbig : 9223372036854775807 < beNum bs) (h0 : 0 < ads.length) (w : World) (V : St ads w) (hp : w.cell? p = some (.slice a len cap)) (hs : SlB (.slice a len cap) bs w) (hz : Lead a len w) :
    Calls Tryd.prog 48 #[.pointer (some p)] w fun e w' => e = .panicked [{ v := snt (ads[0]'h0), recovered := false }] ∧ Kp w w' := by
  have h14 : ads.length = 14 := V.len
  obtain ⟨e3, c3⟩ : ∃ e3, w.cell? ⟨3, 0, none⟩ = some (snt e3) := ⟨ads[3]'(by omega), V.cell 3 (by decide)⟩
  have c0 : w.cell? ⟨0, 0, none⟩ = some (snt (ads[0]'h0)) := V.cell 0 (by decide)
  obtain ⟨e0, he0⟩ : ∃ a, ads[0]'h0 = a := ⟨_, rfl⟩
  rw [he0] at c0 ⊢
  have hv := fun w1 (hk : Kp w w1) => value_any a cap bs len hlen h8 hb w1 (hs.kp hk)
  obtain ⟨F, hF⟩ : ∃ F, beNum bs = F := ⟨_, rfl⟩
  simp only [hF] at hv
  rw [hF] at hbig
  have HV := Lib.hid hv
  have hle : decide (F ≤ 9223372036854775807) = false := decide_eq_false (by omega)
  obtain ⟨ll, hll⟩ : ∃ ll : Int, (len : Int) = ll := ⟨_, rfl⟩
  rcases hz with q | ⟨b, off, x, rfl, hc, hx, hpos⟩
  · subst q
    have hb0 : bs = [] := List.length_eq_zero_iff.1 hlen
    subst hb0
    have : F = 0 := by rw [← hF]; rfl
    omega
  have hd : (ll == 0) = false := by simp; omega
  have hle8 : ll ≤ 8 := by omega
  have hposI : 0 < ll := by omega
  have c0' : w.drew.cell? ⟨0, 0, none⟩ = some (snt e0) := c0
  have hp' : w.drew.cell? p = some (.slice (some ⟨b, off, none⟩) len cap) := hp
  have KD := Lib.hid (Kp.refl w).drew
  clear V he0 h14 hv hF hs hb hbig
  go_enter Tryd.func48, Tryd.ntmps48
  go_wp2
  go_still_tail 10, (by kernel_rfl)
  change wpList _ _ _ _ _ w.drew
  go_wp2_with (first | (go_at_call 43; (with_reducible refine (demand_t _ _).mono ?_); rintro e w' ⟨rfl, rfl⟩) | (go_at_call 43; (with_reducible refine (demand_f _ _).mono ?_); rintro e w' ⟨rfl, rfl⟩) | (go_at_call 44; (with_reducible refine (HV.out _ KD.out).mono ?_); rintro e w' ⟨rfl, rfl⟩))
  exact ⟨rfl, rfl, KD.out⟩

set_option maxRecDepth 20000 in
theorem toNumber1_ok (ads : List Addr) (p : Addr) (a : Option Addr) (cap : Nat) (bs : List Int) (len : Nat) (hlen : bs.length = len) (h8 : len ≤ 8) (hb : InB bs) (hsm : beNum bs ≤ 9223372036854775807) (w : World) (V : St ads w) (hp : w.cell? p = some (.slice a len cap)) (hs : SlB (.slice a len cap) bs w) (hz : Lead a len w) :
    Calls Tryd.prog 48 #[.pointer (some p)] w fun e w' => e = .returned (.int .i64 (beNum bs)) ∧ Kp w w' := by
  have h14 : ads.length = 14 := V.len
  obtain ⟨e3, c3⟩ : ∃ e3, w.cell? ⟨3, 0, none⟩ = some (snt e3) := ⟨ads[3]'(by omega), V.cell 3 (by decide)⟩
  obtain ⟨e0, c0⟩ : ∃ e0, w.cell? ⟨0, 0, none⟩ = some (snt e0) := ⟨ads[0]'(by omega), V.cell 0 (by decide)⟩
  have hv := fun w1 (hk : Kp w w1) => value_any a cap bs len hlen h8 hb w1 (hs.kp hk)
  have hr := beNum_range hb bs.length (Nat.le_refl _)
  rw [List.take_length] at hr
  obtain ⟨F, hF⟩ : ∃ F, beNum bs = F := ⟨_, rfl⟩
  simp only [hF] at hv hr ⊢
  rw [hF] at hsm
  have hF0 : 0 ≤ F := hr.1
  have HV := Lib.hid hv
  obtain ⟨ll, hll⟩ : ∃ ll : Int, (len : Int) = ll := ⟨_, rfl⟩
  have hle8 : ll ≤ 8 := by omega
  have c0' : w.drew.cell? ⟨0, 0, none⟩ = some (snt e0) := c0
  have KD := Lib.hid (Kp.refl w).drew
  have hp' : w.drew.cell? p = some (.slice a len cap) := hp
  clear V h14 hv hF hs hb hr
  rcases hz with q | ⟨b, off, x, rfl, hc, hx, hpos⟩
  · subst q
    have hd : ll = 0 := by omega
    subst hd
    go_enter Tryd.func48, Tryd.ntmps48
    go_wp2
    go_still_tail 10, (by kernel_rfl)
    change wpList _ _ _ _ _ w.drew
    go_wp2_with (first | (go_at_call 43; (with_reducible refine (demand_t _ _).mono ?_); rintro e w' ⟨rfl, rfl⟩) | (go_at_call 44; (with_reducible refine (HV.out _ KD.out).mono ?_); rintro e w' ⟨rfl, rfl⟩))
    go_ret
    exact ⟨rfl, KD.out⟩
  · have hd : (ll == 0) = false := by simp; omega
    have hposI : 0 < ll := by omega
    go_enter Tryd.func48, Tryd.ntmps48
    go_wp2
    go_still_tail 10, (by kernel_rfl)
    change wpList _ _ _ _ _ w.drew
    go_wp2_with (first | (go_at_call 43; (with_reducible refine (demand_t _ _).mono ?_); rintro e w' ⟨rfl, rfl⟩) | (go_at_call 44; (with_reducible refine (HV.out _ KD.out).mono ?_); rintro e w' ⟨rfl, rfl⟩))
    go_ret
    exact ⟨rfl, KD.out⟩

/-! ### ToNumber -/
/-- THE ERROR of a number: 0 none. -/
def errN (ads : List Addr) (k : Int) : Value := if k = 0 then .nilIface else (ads[k.toNat - 1]?.map snt).getD .nilIface

theorem toNumber_err (ads : List Addr) (k : Nat) (hk : k < ads.length) (a : Option Addr) (cap len : Nat) (w : World) (V : St ads w)
    (H : ∀ w1, Kp w w1 → w1.cell? ⟨w.heap.size, 0, none⟩ = some (.slice a len cap) → Calls Tryd.prog 48 #[.pointer (some ⟨w.heap.size, 0, none⟩)] w1 fun e w' => e = .panicked [{ v := snt (ads[k]'hk), recovered := false }] ∧ Kp w1 w') :
    Calls Tryd.prog 23 #[.slice a len cap] w fun e w' => e = .returned (.tuple #[.int .i64 0, snt (ads[k]'hk)]) ∧ Kp w w' := by
  have hmf : ∀ (fn : Fn) (first cap : Array Value) (w : World), (Instr.makeFunc fn first cap).run Tryd.prog w = .ok (.func fn first cap) w := fun _ _ _ _ => rfl
  have kb := kp_alloc w (.cells #[.slice a len cap] 25)
  have hc := box_cell w (.slice a len cap) 25
  have HT := Lib.hid (try_int_err ads k hk 48 #[.pointer (some ⟨w.heap.size, 0, none⟩)] (w.alloc (.cells #[.slice a len cap] 25)) (V.below kb) (by intro w; simp [go_sem]) fun w1 h1 => H w1 (Kp.trans kb h1) (kp_cell h1 hc))
  have KB := Lib.hid kb
  clear kb hc V H
  go_enter Tryd.func23, Tryd.ntmps23
  go_wp2_with (go_at_call 47; (with_reducible refine HT.out.mono ?_); rintro e w' ⟨rfl, hk⟩; have HK := Lib.hid hk; clear hk)
  go_ret2
  exact ⟨rfl, Kp.trans KB.out HK.out⟩

theorem toNumber_val (x : Int) (a : Option Addr) (cap len : Nat) (w : World)
    (H : ∀ w1, Kp w w1 → w1.cell? ⟨w.heap.size, 0, none⟩ = some (.slice a len cap) → Calls Tryd.prog 48 #[.pointer (some ⟨w.heap.size, 0, none⟩)] w1 fun e w' => e = .returned (.int .i64 x) ∧ Kp w1 w') :
    Calls Tryd.prog 23 #[.slice a len cap] w fun e w' => e = .returned (.tuple #[.int .i64 x, .nilIface]) ∧ Kp w w' := by
  have hmf : ∀ (fn : Fn) (first cap : Array Value) (w : World), (Instr.makeFunc fn first cap).run Tryd.prog w = .ok (.func fn first cap) w := fun _ _ _ _ => rfl
  have kb := kp_alloc w (.cells #[.slice a len cap] 25)
  have hc := box_cell w (.slice a len cap) 25
  have HT := Lib.hid (try_int_val 48 #[.pointer (some ⟨w.heap.size, 0, none⟩)] x (w.alloc (.cells #[.slice a len cap] 25)) (by intro w; simp [go_sem]) fun w1 h1 => H w1 (Kp.trans kb h1) (kp_cell h1 hc))
  have KB := Lib.hid kb
  clear kb hc H
  go_enter Tryd.func23, Tryd.ntmps23
  go_wp2_with (go_at_call 47; (with_reducible refine HT.out.mono ?_); rintro e w' ⟨rfl, hk⟩; have HK := Lib.hid hk; clear hk)
  go_ret2
  exact ⟨rfl, Kp.trans KB.out HK.out⟩

theorem toNumber_any (ads : List Addr) (a : Option Addr) (cap : Nat) (bs : List Int) (len : Nat) (hlen : bs.length = len) (hb : InB bs) (w : World) (V : St ads w) (hs : SlB (.slice a len cap) bs w) :
    Calls Tryd.prog 23 #[.slice a len cap] w fun e w' => e = .returned (.tuple #[.int .i64 (toNum bs).1, errN ads (toNum bs).2]) ∧ Kp w w' := by
  have h14 : ads.length = 14 := V.len
  have h0 : 0 < ads.length := by omega
  have h3 : 3 < ads.length := by omega
  have e1 : errN ads 1 = snt (ads[0]'h0) := by unfold errN; simp [List.getElem?_eq_getElem h0]
  have e4 : errN ads 4 = snt (ads[3]'h3) := by unfold errN; simp [List.getElem?_eq_getElem h3]
  unfold toNum
  split
  · rename_i hz
    simp only [e4]
    exact toNumber_err ads 3 h3 a cap len w V fun w1 hk hc => toNumber1_form ads _ a cap bs len hlen h3 hz w1 (V.below hk) hc (hs.kp hk)
  · rename_i hz
    split
    · simp only [e1]
      exact toNumber_err ads 0 h0 a cap len w V fun w1 hk hc => toNumber1_long ads _ a cap len (by omega) h0 w1 (V.below hk) hc (lead_of hlen (hs.kp hk) hz)
    · rename_i h8
      split
      · rename_i hbig
        simp only [e1]
        exact toNumber_err ads 0 h0 a cap len w V fun w1 hk hc => toNumber1_big ads _ a cap bs len hlen (by omega) hb hbig h0 w1 (V.below hk) hc (hs.kp hk) (lead_of hlen (hs.kp hk) hz)
      · rename_i hbig
        exact toNumber_val (beNum bs) a cap len w fun w1 hk hc => toNumber1_ok ads _ a cap bs len hlen (by omega) hb (by omega) w1 (V.below hk) hc (hs.kp hk) (lead_of hlen (hs.kp hk) hz)
end Go.Proofs.YtfealdllicicnaaDoor
