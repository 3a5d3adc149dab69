/-
  fields.Float, fields.ToFloat (own work).
-/
import Derived.Test.YtfealdllicicnaaDoorTryG
import Derived.Test.YtfealdllicicnaaDoorVal
import Derived.Test.YtfealdllicicnaaDoorDig
import Derived.StillTailTactics
namespace Go.Proofs.YtfealdllicicnaaDoor
open Go.RowKit Go.ChangeShapes Go.WideShapes

theorem dig8 (n : Nat) : digB n 8 = f8 n := by
  unfold digB f8
  simp [List.range_succ]

theorem float_any (b : Nat) (hb : b < 18446744073709551616) (w : World) :
    Calls Tryd.prog 26 #[.float .f64 b] w fun e w' => ∃ v, e = .returned v ∧ w'.ownsRow w.heap.size 5 1 v 8 ((f8 (Fl.plain b)).map (Value.int .u8)) ∧ Kp w w' := by
  have hp := Fl.plain_lt hb
  have HB := Lib.hid (fun w => bits_any b w hb)
  have HD := Lib.hid (fun w => digits_any (Fl.plain b) 8 hp (by omega) (Fl.plain b) 8 rfl rfl w)
  have HE := Lib.hid (dig8 (Fl.plain b))
  clear hb hp
  go_enter Tryd.func26, Tryd.ntmps26
  go_wp2_with (first | (go_at_call 49; (with_reducible refine (HB.out _).mono ?_); rintro e w' ⟨rfl, rfl⟩) | (go_at_call 38; (with_reducible refine (HD.out _).mono ?_); rintro e w' ⟨rfl, ho, hk⟩; rw [HE.out] at ho; have HO := Lib.hid ho; have HK := Lib.hid hk; clear ho hk))
  go_ret
  exact ⟨_, rfl, HO.out, HK.out⟩

theorem from_any (F : Int) (N : Nat) (hN : F.toNat = N) (h64 : N < 18446744073709551616) (w : World) :
    Calls Tryd.prog 52 #[.int .u64 F] w fun e w' => e = .returned (.float .f64 (Fl.plain N)) ∧ w = w' := by
  have e1 : ∀ w, (callFunc 55 #[.int .u64 F]).run Tryd.prog w = .ok (.value (.float .f64 N)) w := by
    intro w; rw [← hN]; exact ext_fromI F w
  have HP := Lib.hid (fun w => plain_any N w h64)
  clear h64 hN
  go_enter Tryd.func52, Tryd.ntmps52
  go_wp2_with (go_at_call 65; (with_reducible refine (HP.out _).mono ?_); rintro e w' ⟨rfl, rfl⟩)
  go_ret
  exact ⟨rfl, rfl⟩

theorem plain_nan : Fl.isNan 9221120237041090561 = true := by decide +kernel
theorem plain_zero : Fl.isNan 0 = false := by decide +kernel
theorem plain_idem (b : Nat) : Fl.plain (Fl.plain b) = Fl.plain b := by
  unfold Fl.plain
  by_cases h : Fl.isNan b = true
  · rw [if_pos h, if_pos plain_nan]
  · rw [if_neg h]
    by_cases h2 : b = 9223372036854775808
    · rw [if_pos h2, if_neg (by rw [plain_zero]; decide), if_neg (by decide)]
    · rw [if_neg h2, if_neg h, if_neg h2]

theorem toFloat1_len (ads : List Addr) (h3' : 3 < ads.length) (p : Addr) (a : Option Addr) (cap len : Nat) (h8 : len ≠ 8) (w : World) (V : St ads w) (hp : w.cell? p = some (.slice a len cap)) :
    Calls Tryd.prog 51 #[.pointer (some p)] w fun e w' => e = .panicked [{ v := snt (ads[3]'h3'), recovered := false }] ∧ Kp w w' := by
  have c3 : w.cell? ⟨3, 0, none⟩ = some (snt (ads[3]'h3')) := V.cell 3 (by decide)
  obtain ⟨e3, he3⟩ : ∃ a, ads[3]'h3' = a := ⟨_, rfl⟩
  rw [he3] at c3 ⊢
  obtain ⟨ll, hll⟩ : ∃ ll : Int, (len : Int) = ll := ⟨_, rfl⟩
  have hd : (ll == 8) = false := by simp; omega
  clear V he3 h8
  go_enter Tryd.func51, Tryd.ntmps51
  go_wp2_with (go_at_call 43; (with_reducible refine (demand_f _ _).mono ?_); rintro e w' ⟨rfl, rfl⟩)
  exact ⟨rfl, rfl, Kp.refl _⟩

theorem calls_flip {P : Program} {f : FuncId} {args : Array Value} {w : World} {v : Value} (h : Calls P f args w fun e w' => e = .returned v ∧ w = w') : Calls P f args w fun e w' => e = .returned v ∧ w' = w :=
  h.mono fun _ _ h => ⟨h.1, h.2.symm⟩

set_option maxRecDepth 20000 in
theorem toFloat1_any (ads : List Addr) (h3' : 3 < ads.length) (p : Addr) (a : Option Addr) (cap : Nat) (bs : List Int) (hlen : bs.length = 8) (hb : InB bs) (w : World) (V : St ads w) (hp : w.cell? p = some (.slice a 8 cap)) (hs : SlB (.slice a 8 cap) bs w) :
    Calls Tryd.prog 51 #[.pointer (some p)] w fun e w' => ((Fl.plain (beNum bs).toNat = (beNum bs).toNat ∧ e = .returned (.float .f64 (beNum bs).toNat)) ∨ (Fl.plain (beNum bs).toNat ≠ (beNum bs).toNat ∧ e = .panicked [{ v := snt (ads[3]'h3'), recovered := false }])) ∧ Kp w w' := by
  have c3 : w.cell? ⟨3, 0, none⟩ = some (snt (ads[3]'h3')) := V.cell 3 (by decide)
  obtain ⟨e3, he3⟩ : ∃ a, ads[3]'h3' = a := ⟨_, rfl⟩
  rw [he3] at c3 ⊢
  have hr := beNum_range hb 8 (by omega)
  rw [show bs.take 8 = bs from List.take_of_length_le (by omega), show (256 : Int) ^ 8 = 18446744073709551616 from by decide] at hr
  have hv := fun w1 (hk : Kp w w1) => value_any a cap bs 8 hlen (by omega) hb w1 (hs.kp hk)
  obtain ⟨F, hF⟩ : ∃ F, beNum bs = F := ⟨_, rfl⟩
  simp only [hF] at hv hr ⊢
  obtain ⟨N, hN⟩ : ∃ N, F.toNat = N := ⟨_, rfl⟩
  rw [hN]
  have h64 : N < 18446744073709551616 := by omega
  have HV := Lib.hid hv
  have HF := Lib.hid (fun w => from_any F N hN h64 w)
  have hpl := Fl.plain_lt h64
  have hbt : ∀ w, Calls Tryd.prog 49 #[.float .f64 (Fl.plain N)] w fun e w' => e = .returned (.int .u64 (Fl.plain N)) ∧ w = w' := by
    intro w
    have := bits_any (Fl.plain N) w hpl
    rw [plain_idem] at this
    exact this
  obtain ⟨PP, hPP⟩ : ∃ PP : Int, ((Fl.plain N : Nat) : Int) = PP := ⟨_, rfl⟩
  simp only [hPP] at hbt
  have HB := Lib.hid hbt
  have KD := Lib.hid (Kp.refl w).drew
  have hp' : w.drew.cell? p = some (.slice a 8 cap) := hp
  have hc' : w.drew.cell? ⟨3, 0, none⟩ = some (snt e3) := c3
  by_cases hq : Fl.plain N = N
  · have hbq : (PP == F) = true := by simp; omega
    have HQ := Lib.hid hq
    clear V he3 hr hv hF hN hpl hbt hPP hs hb hlen hq h64
    go_enter Tryd.func51, Tryd.ntmps51
    go_wp2_with (first | (go_at_call 43; (with_reducible refine (demand_t _ _).mono ?_); rintro e w' ⟨rfl, rfl⟩) | (go_at_call 44; (with_reducible refine (HV.out _ (Kp.refl _)).mono ?_); rintro e w' ⟨rfl, rfl⟩) | (go_at_call 52; (with_reducible refine (HF.out _).mono ?_); rintro e w' ⟨rfl, rfl⟩))
    refine wp_region_still_tail 6 (by kernel_rfl) (by kernel_rfl) ?_
    simp only [List.take_succ_cons, List.take_zero, List.drop_succ_cons, List.drop_zero]
    still_step
    still_call (calls_flip (HB.out _))
    still_step
    still_call (calls_flip (HV.out _ KD.out))
    still_step
    still_step
    refine wpStill_nil ?_
    change wpList _ _ _ _ _ w.drew
    go_wp2_with (go_at_call 43; (with_reducible refine (demand_t _ _).mono ?_); rintro e w' ⟨rfl, rfl⟩)
    go_ret
    exact ⟨.inl ⟨HQ.out, by rw [HQ.out]; rfl⟩, KD.out⟩
  · have hbq : (PP == F) = false := by simp; omega
    have HQ := Lib.hid hq
    clear V he3 hr hv hF hN hpl hbt hPP hs hb hlen hq h64
    go_enter Tryd.func51, Tryd.ntmps51
    go_wp2_with (first | (go_at_call 43; (with_reducible refine (demand_t _ _).mono ?_); rintro e w' ⟨rfl, rfl⟩) | (go_at_call 44; (with_reducible refine (HV.out _ (Kp.refl _)).mono ?_); rintro e w' ⟨rfl, rfl⟩) | (go_at_call 52; (with_reducible refine (HF.out _).mono ?_); rintro e w' ⟨rfl, rfl⟩))
    refine wp_region_still_tail 6 (by kernel_rfl) (by kernel_rfl) ?_
    simp only [List.take_succ_cons, List.take_zero, List.drop_succ_cons, List.drop_zero]
    still_step
    still_call (calls_flip (HB.out _))
    still_step
    still_call (calls_flip (HV.out _ KD.out))
    still_step
    still_step
    refine wpStill_nil ?_
    change wpList _ _ _ _ _ w.drew
    go_wp2_with (go_at_call 43; (with_reducible refine (demand_f _ _).mono ?_); rintro e w' ⟨rfl, rfl⟩)
    exact ⟨rfl, .inr ⟨HQ.out, rfl⟩, KD.out⟩

theorem toFloat_err (ads : List Addr) (k : Nat) (hk : k < ads.length) (a : Option Addr) (cap len : Nat) (w : World) (V : St ads w)
    (H : ∀ w1, Kp w w1 → w1.cell? ⟨w.heap.size, 0, none⟩ = some (.slice a len cap) → Calls Tryd.prog 51 #[.pointer (some ⟨w.heap.size, 0, none⟩)] w1 fun e w' => e = .panicked [{ v := snt (ads[k]'hk), recovered := false }] ∧ Kp w1 w') :
    Calls Tryd.prog 27 #[.slice a len cap] w fun e w' => e = .returned (.tuple #[.float .f64 0, snt (ads[k]'hk)]) ∧ Kp w w' := by
  have hmf : ∀ (fn : Fn) (first cap : Array Value) (w : World), (Instr.makeFunc fn first cap).run Tryd.prog w = .ok (.func fn first cap) w := fun _ _ _ _ => rfl
  have kb := kp_alloc w (.cells #[.slice a len cap] 25)
  have hc := box_cell w (.slice a len cap) 25
  have HT := Lib.hid (try_f64_err ads k hk 51 #[.pointer (some ⟨w.heap.size, 0, none⟩)] (w.alloc (.cells #[.slice a len cap] 25)) (V.below kb) (by intro w; simp [go_sem]) fun w1 h1 => H w1 (Kp.trans kb h1) (kp_cell h1 hc))
  have KB := Lib.hid kb
  clear kb hc V H
  go_enter Tryd.func27, Tryd.ntmps27
  go_wp2_with (go_at_call 50; (with_reducible refine HT.out.mono ?_); rintro e w' ⟨rfl, hk⟩; have HK := Lib.hid hk; clear hk)
  go_ret2
  exact ⟨rfl, Kp.trans KB.out HK.out⟩

theorem toFloat_val (x : Nat) (a : Option Addr) (cap len : Nat) (w : World)
    (H : ∀ w1, Kp w w1 → w1.cell? ⟨w.heap.size, 0, none⟩ = some (.slice a len cap) → Calls Tryd.prog 51 #[.pointer (some ⟨w.heap.size, 0, none⟩)] w1 fun e w' => e = .returned (.float .f64 x) ∧ Kp w1 w') :
    Calls Tryd.prog 27 #[.slice a len cap] w fun e w' => e = .returned (.tuple #[.float .f64 x, .nilIface]) ∧ Kp w w' := by
  have hmf : ∀ (fn : Fn) (first cap : Array Value) (w : World), (Instr.makeFunc fn first cap).run Tryd.prog w = .ok (.func fn first cap) w := fun _ _ _ _ => rfl
  have kb := kp_alloc w (.cells #[.slice a len cap] 25)
  have hc := box_cell w (.slice a len cap) 25
  have HT := Lib.hid (try_f64_val 51 #[.pointer (some ⟨w.heap.size, 0, none⟩)] x (w.alloc (.cells #[.slice a len cap] 25)) (by intro w; simp [go_sem]) fun w1 h1 => H w1 (Kp.trans kb h1) (kp_cell h1 hc))
  have KB := Lib.hid kb
  clear kb hc H
  go_enter Tryd.func27, Tryd.ntmps27
  go_wp2_with (go_at_call 50; (with_reducible refine HT.out.mono ?_); rintro e w' ⟨rfl, hk⟩; have HK := Lib.hid hk; clear hk)
  go_ret2
  exact ⟨rfl, Kp.trans KB.out HK.out⟩

theorem toFloat_any (ads : List Addr) (h3 : 3 < ads.length) (a : Option Addr) (cap : Nat) (bs : List Int) (len : Nat) (hlen : bs.length = len) (hb : InB bs) (w : World) (V : St ads w) (hs : SlB (.slice a len cap) bs w) :
    Calls Tryd.prog 27 #[.slice a len cap] w fun e w' => ((toFl bs).2 = 0 ∧ e = .returned (.tuple #[.float .f64 (toFl bs).1, .nilIface]) ∨ (toFl bs).2 = 4 ∧ (toFl bs).1 = 0 ∧ e = .returned (.tuple #[.float .f64 0, snt (ads[3]'h3)])) ∧ Kp w w' := by
  by_cases h8 : len = 8
  · subst h8
    have H := fun w1 (hk : Kp w w1) (hc : w1.cell? ⟨w.heap.size, 0, none⟩ = some (.slice a 8 cap)) => toFloat1_any ads h3 _ a cap bs hlen hb w1 (V.below hk) hc (hs.kp hk)
    by_cases hq : Fl.plain (beNum bs).toNat = (beNum bs).toNat
    · have e : toFl bs = ((beNum bs).toNat, 0) := by unfold toFl; rw [if_pos ⟨hlen, hq⟩]
      rw [e]
      refine (toFloat_val (beNum bs).toNat a cap 8 w fun w1 hk hc => (H w1 hk hc).mono ?_).mono ?_
      · rintro e w2 ⟨⟨_, rfl⟩ | ⟨h, _⟩, hk2⟩
        · exact ⟨rfl, hk2⟩
        · exact absurd hq h
      · rintro e w2 ⟨rfl, hk2⟩
        exact ⟨.inl ⟨rfl, rfl⟩, hk2⟩
    · have e : toFl bs = (0, 4) := by unfold toFl; rw [if_neg (fun h => hq h.2)]
      rw [e]
      refine (toFloat_err ads 3 h3 a cap 8 w V fun w1 hk hc => (H w1 hk hc).mono ?_).mono ?_
      · rintro e w2 ⟨⟨h, _⟩ | ⟨_, rfl⟩, hk2⟩
        · exact absurd h hq
        · exact ⟨rfl, hk2⟩
      · rintro e w2 ⟨rfl, hk2⟩
        exact ⟨.inr ⟨rfl, rfl, rfl⟩, hk2⟩
  · have e : toFl bs = (0, 4) := by unfold toFl; rw [if_neg (fun h => h8 (by omega))]
    rw [e]
    refine (toFloat_err ads 3 h3 a cap len w V fun w1 hk hc => toFloat1_len ads h3 _ a cap len h8 w1 (V.below hk) hc).mono ?_
    rintro e w2 ⟨rfl, hk2⟩
    exact ⟨.inr ⟨rfl, rfl, rfl⟩, hk2⟩
end Go.Proofs.YtfealdllicicnaaDoor
