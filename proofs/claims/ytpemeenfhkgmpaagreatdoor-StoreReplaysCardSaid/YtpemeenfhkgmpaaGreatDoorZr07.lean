/- Parts of this proof (own work). -/
import Derived.Deep.RegionWith
import Derived.Lib.SlBytesConst
import Derived.Test.YtpemeenfhkgmpaaGreatDoorZr06
import Derived.Laws.Strings
set_option maxRecDepth 100000
set_option maxHeartbeats 40000000
namespace Go.Proofs.YtpemeenfhkgmpaaGreatDoor
open Go.RowKit Go.ChangeShapes Go.WideShapes
theorem toNumber1_form (ads : List Addr) (p : Addr) (a : Option Addr) (cap : Nat) (bs : List Int) (len : Nat) (hlen : bs.length = len) (h3 : 3 < ads.length) (hz : 0 < bs.length ∧ bs.getD 0 0 = 0) (w : World) (V : St ads w) (hp : w.cell? p = some (.slice a len cap)) (hs : SlB (.slice a len cap) bs w) :
  Calls Tryz.prog 155 #[.pointer (some p)] w fun e w' => e = .panicked [{ v := snt ads[3], recovered := false }] ∧ Kp w w' := by
 have c3 : w.cell? ⟨3, 0, none⟩ = some (snt ads[3]) := V.cell 3 (by decide); obtain ⟨e3, he3⟩ : ∃ a, ads[3] = a := ⟨_, rfl⟩
 rw [he3] at c3 ⊢; obtain ⟨ll, hll⟩ : ∃ ll : Int, (len : Int) = ll := ⟨_, rfl⟩
 obtain ⟨b, off, rfl, hc⟩ := hs.at 0 hz.1; rw [hz.2, Nat.add_zero] at hc; have hd : (ll == 0) = false := by simp; omega
 have hpos : 0 < len := by omega
 have hposI : 0 < ll := by omega
 have KD := hD (Kp.refl w).drew; clear hs hz hlen V he3; go_enter Tryz.func155, Tryz.ntmps155; go_wp2; go_still_tail 10, (by kernel_rfl)
 change wpList _ _ _ _ _ w.drew
 go_wp2_with (go_at_call 126; (with_reducible refine (demand_f _ _).mono ?_); rintro e w' ⟨rfl, rfl⟩)
 exact ⟨rfl, rfl, KD.out⟩
def Lead (a : Option Addr) (len : Nat) (w : World) : Prop := len = 0 ∨ ∃ b off x, a = some ⟨b, off, none⟩ ∧ w.cell? ⟨b, off, none⟩ = some (.int .u8 x) ∧ (x != 0) = true ∧ 0 < len
theorem lead_of {a : Option Addr} {cap : Nat} {bs : List Int} {len : Nat} {w : World} (hlen : bs.length = len) (hs : SlB (.slice a len cap) bs w) (hz : ¬(0 < bs.length ∧ bs.getD 0 0 = 0)) : Lead a len w := by
 rcases Nat.eq_zero_or_pos len with q | q
 ·exact .inl q
 ·obtain ⟨b, off, h1, h2⟩ := hs.at 0 (by omega); rw [Nat.add_zero] at h2; refine .inr ⟨b, off, _, h1, h2, ?_, q⟩
  simp only [bne_iff_ne, ne_eq]
  exact fun h => hz ⟨by omega, h⟩
theorem toNumber1_long (ads : List Addr) (p : Addr) (a : Option Addr) (cap len : Nat) (h8 : 8 < len) (h0 : 0 < ads.length) (w : World) (V : St ads w) (hp : w.cell? p = some (.slice a len cap)) (hz : Lead a len w) :
  Calls Tryz.prog 155 #[.pointer (some p)] w fun e w' => e = .panicked [{ v := snt (ads[0]'h0), recovered := false }] ∧ Kp w w' := by
 have h14 : ads.length = 14 := V.len; obtain ⟨e3, c3⟩ : ∃ e3, w.cell? ⟨3, 0, none⟩ = some (snt e3) := ⟨ads[3]'(by omega), V.cell 3 (by decide)⟩
 have c0 : w.cell? ⟨0, 0, none⟩ = some (snt (ads[0]'h0)) := V.cell 0 (by decide); obtain ⟨e0, he0⟩ : ∃ a, ads[0]'h0 = a := ⟨_, rfl⟩
 rw [he0] at c0 ⊢; obtain ⟨ll, hll⟩ : ∃ ll : Int, (len : Int) = ll := ⟨_, rfl⟩
 rcases hz with q | ⟨b, off, x, rfl, hc, hx, hpos⟩
 ·omega
 have hd : (ll == 0) = false := by simp; omega
 have hle : decide (ll ≤ 8) = false := dF (by omega); have hposI : 0 < ll := by omega
 have c0' : w.drew.cell? ⟨0, 0, none⟩ = some (snt e0) := c0; have hp' : w.drew.cell? p = some (.slice (some ⟨b, off, none⟩) len cap) := hp; have KD := hD (Kp.refl w).drew; clear V he0 h14; go_enter Tryz.func155, Tryz.ntmps155; go_wp2; go_still_tail 10, (by kernel_rfl)
 change wpList _ _ _ _ _ w.drew
 go_wp2_with (first | (go_at_call 126; (with_reducible refine (demand_t _ _).mono ?_); rintro e w' ⟨rfl, rfl⟩) | (go_at_call 126; (with_reducible refine (demand_f _ _).mono ?_); rintro e w' ⟨rfl, rfl⟩))
 exact ⟨rfl, rfl, KD.out⟩
theorem toNumber1_big (ads : List Addr) (p : Addr) (a : Option Addr) (cap : Nat) (bs : List Int) (len : Nat) (hlen : bs.length = len) (h8 : len ≤ 8) (hb : InB bs) (hbig : 9223372036854775807 < beNum bs) (h0 : 0 < ads.length) (w : World) (V : St ads w) (hp : w.cell? p = some (.slice a len cap)) (hs : SlB (.slice a len cap) bs w) (hz : Lead a len w) :
  Calls Tryz.prog 155 #[.pointer (some p)] w fun e w' => e = .panicked [{ v := snt (ads[0]'h0), recovered := false }] ∧ Kp w w' := by
 have h14 : ads.length = 14 := V.len; obtain ⟨e3, c3⟩ : ∃ e3, w.cell? ⟨3, 0, none⟩ = some (snt e3) := ⟨ads[3]'(by omega), V.cell 3 (by decide)⟩
 have c0 : w.cell? ⟨0, 0, none⟩ = some (snt (ads[0]'h0)) := V.cell 0 (by decide); obtain ⟨e0, he0⟩ : ∃ a, ads[0]'h0 = a := ⟨_, rfl⟩
 rw [he0] at c0 ⊢; have hv := fun w1 (hk : Kp w w1) => value_any a cap bs len hlen h8 hb w1 (hs.kp hk)
 obtain ⟨F, hF⟩ : ∃ F, beNum bs = F := ⟨_, rfl⟩
 simp only [hF] at hv
 rw [hF] at hbig; have HV := hD hv; have hle : decide (F ≤ 9223372036854775807) = false := dF (by omega); obtain ⟨ll, hll⟩ : ∃ ll : Int, (len : Int) = ll := ⟨_, rfl⟩
 rcases hz with q | ⟨b, off, x, rfl, hc, hx, hpos⟩
 ·subst q; have hb0 : bs = [] := List.length_eq_zero_iff.1 hlen; subst hb0; have : F = 0 := by rw [← hF]; rfl
  omega
 have hd : (ll == 0) = false := by simp; omega
 have hle8 : ll ≤ 8 := by omega
 have hposI : 0 < ll := by omega
 have c0' : w.drew.cell? ⟨0, 0, none⟩ = some (snt e0) := c0; have hp' : w.drew.cell? p = some (.slice (some ⟨b, off, none⟩) len cap) := hp; have KD := hD (Kp.refl w).drew; clear V he0 h14 hv hF hs hb hbig; go_enter Tryz.func155, Tryz.ntmps155; go_wp2; go_still_tail 10, (by kernel_rfl)
 change wpList _ _ _ _ _ w.drew
 go_wp2_with (first | (go_at_call 126; (with_reducible refine (demand_t _ _).mono ?_); rintro e w' ⟨rfl, rfl⟩) | (go_at_call 126; (with_reducible refine (demand_f _ _).mono ?_); rintro e w' ⟨rfl, rfl⟩) | (go_at_call 135; (with_reducible refine (HV.out _ KD.out).mono ?_); rintro e w' ⟨rfl, rfl⟩))
 exact ⟨rfl, rfl, KD.out⟩
theorem toNumber1_ok (ads : List Addr) (p : Addr) (a : Option Addr) (cap : Nat) (bs : List Int) (len : Nat) (hlen : bs.length = len) (h8 : len ≤ 8) (hb : InB bs) (hsm : beNum bs ≤ 9223372036854775807) (w : World) (V : St ads w) (hp : w.cell? p = some (.slice a len cap)) (hs : SlB (.slice a len cap) bs w) (hz : Lead a len w) :
  Calls Tryz.prog 155 #[.pointer (some p)] w fun e w' => e = .returned (.int .i64 (beNum bs)) ∧ Kp w w' := by
 have h14 : ads.length = 14 := V.len; obtain ⟨e3, c3⟩ : ∃ e3, w.cell? ⟨3, 0, none⟩ = some (snt e3) := ⟨ads[3]'(by omega), V.cell 3 (by decide)⟩
 obtain ⟨e0, c0⟩ : ∃ e0, w.cell? ⟨0, 0, none⟩ = some (snt e0) := ⟨ads[0]'(by omega), V.cell 0 (by decide)⟩
 have hv := fun w1 (hk : Kp w w1) => value_any a cap bs len hlen h8 hb w1 (hs.kp hk)
 have hr := beNum_range hb bs.length (Nat.le_refl _); rw [List.take_length] at hr; obtain ⟨F, hF⟩ : ∃ F, beNum bs = F := ⟨_, rfl⟩
 simp only [hF] at hv hr ⊢
 rw [hF] at hsm; have hF0 : 0 ≤ F := hr.1; have HV := hD hv; obtain ⟨ll, hll⟩ : ∃ ll : Int, (len : Int) = ll := ⟨_, rfl⟩
 have hle8 : ll ≤ 8 := by omega
 have c0' : w.drew.cell? ⟨0, 0, none⟩ = some (snt e0) := c0; have KD := hD (Kp.refl w).drew; have hp' : w.drew.cell? p = some (.slice a len cap) := hp; clear V h14 hv hF hs hb hr
 rcases hz with q | ⟨b, off, x, rfl, hc, hx, hpos⟩
 ·subst q; have hd : ll = 0 := by omega
  subst hd; go_enter Tryz.func155, Tryz.ntmps155; go_wp2; go_still_tail 10, (by kernel_rfl)
  change wpList _ _ _ _ _ w.drew
  go_wp2_with (first | (go_at_call 126; (with_reducible refine (demand_t _ _).mono ?_); rintro e w' ⟨rfl, rfl⟩) | (go_at_call 135; (with_reducible refine (HV.out _ KD.out).mono ?_); rintro e w' ⟨rfl, rfl⟩))
  go_ret; exact ⟨rfl, KD.out⟩
 ·have hd : (ll == 0) = false := by simp; omega
  have hposI : 0 < ll := by omega
  go_enter Tryz.func155, Tryz.ntmps155; go_wp2; go_still_tail 10, (by kernel_rfl)
  change wpList _ _ _ _ _ w.drew
  go_wp2_with (first | (go_at_call 126; (with_reducible refine (demand_t _ _).mono ?_); rintro e w' ⟨rfl, rfl⟩) | (go_at_call 135; (with_reducible refine (HV.out _ KD.out).mono ?_); rintro e w' ⟨rfl, rfl⟩))
  go_ret; exact ⟨rfl, KD.out⟩
def errN (ads : List Addr) (k : Int) : Value := if k = 0 then .nilIface else (ads[k.toNat - 1]?.map snt).getD .nilIface
theorem toNumber_err (ads : List Addr) (k : Nat) (hk : k < ads.length) (a : Option Addr) (cap len : Nat) (w : World) (V : St ads w)
  (H : ∀ w1, Kp w w1 → w1.cell? ⟨w.heap.size, 0, none⟩ = some (.slice a len cap) → Calls Tryz.prog 155 #[.pointer (some ⟨w.heap.size, 0, none⟩)] w1 fun e w' => e = .panicked [{ v := snt (ads[k]'hk), recovered := false }] ∧ Kp w1 w') :
  Calls Tryz.prog 140 #[.slice a len cap] w fun e w' => e = .returned (.tuple #[.int .i64 0, snt (ads[k]'hk)]) ∧ Kp w w' := by
 have hmf : ∀ (fn : Fn) (first cap : Array Value) (w : World), (Instr.makeFunc fn first cap).run Tryz.prog w = .ok (.func fn first cap) w := fun _ _ _ _ => rfl
 have kb := kA w (.cells #[.slice a len cap] 55); have hc := box_cell w (.slice a len cap) 55; have HT := hD (try_int_err ads k hk 155 #[.pointer (some ⟨w.heap.size, 0, none⟩)] (w.alloc (.cells #[.slice a len cap] 55)) (V.below kb) (by intro w; simp [go_sem]) fun w1 h1 => H w1 (kT kb h1) (kZ h1 hc)); have KB := hD kb; clear kb hc V H; go_enter Tryz.func140, Tryz.ntmps140; go_wp2_with (go_at_call 154; (with_reducible refine HT.out.mono ?_); rintro e w' ⟨rfl, hk⟩; have HK := hD hk; clear hk)
 go_ret2
 exact ⟨rfl, kT KB.out HK.out⟩
theorem toNumber_val (x : Int) (a : Option Addr) (cap len : Nat) (w : World)
  (H : ∀ w1, Kp w w1 → w1.cell? ⟨w.heap.size, 0, none⟩ = some (.slice a len cap) → Calls Tryz.prog 155 #[.pointer (some ⟨w.heap.size, 0, none⟩)] w1 fun e w' => e = .returned (.int .i64 x) ∧ Kp w1 w') :
  Calls Tryz.prog 140 #[.slice a len cap] w fun e w' => e = .returned (.tuple #[x, .nilIface]) ∧ Kp w w' := by
 have hmf : ∀ (fn : Fn) (first cap : Array Value) (w : World), (Instr.makeFunc fn first cap).run Tryz.prog w = .ok (.func fn first cap) w := fun _ _ _ _ => rfl
 have kb := kA w (.cells #[.slice a len cap] 55); have hc := box_cell w (.slice a len cap) 55; have HT := hD (try_int_val 155 #[.pointer (some ⟨w.heap.size, 0, none⟩)] x (w.alloc (.cells #[.slice a len cap] 55)) (by intro w; simp [go_sem]) fun w1 h1 => H w1 (kT kb h1) (kZ h1 hc)); have KB := hD kb; clear kb hc H; go_enter Tryz.func140, Tryz.ntmps140; go_wp2_with (go_at_call 154; (with_reducible refine HT.out.mono ?_); rintro e w' ⟨rfl, hk⟩; have HK := hD hk; clear hk)
 go_ret2
 exact ⟨rfl, kT KB.out HK.out⟩
theorem toNumber_any (ads : List Addr) (a : Option Addr) (cap : Nat) (bs : List Int) (len : Nat) (hlen : bs.length = len) (hb : InB bs) (w : World) (V : St ads w) (hs : SlB (.slice a len cap) bs w) :
  Calls Tryz.prog 140 #[.slice a len cap] w fun e w' => e = .returned (.tuple #[.int .i64 (toNum bs).1, errN ads (toNum bs).2]) ∧ Kp w w' := by
 have h14 : ads.length = 14 := V.len; have h0 : 0 < ads.length := by omega
 have h3 : 3 < ads.length := by omega
 have e1 : errN ads 1 = snt (ads[0]'h0) := by unfold errN; simp [List.getElem?_eq_getElem h0]
 have e4 : errN ads 4 = snt (ads[3]'h3) := by unfold errN; simp [List.getElem?_eq_getElem h3]
 unfold toNum
 split
 ·rename_i hz
  simp only [e4]
  exact toNumber_err ads 3 h3 a cap len w V fun w1 hk hc => toNumber1_form ads _ a cap bs len hlen h3 hz w1 (V.below hk) hc (hs.kp hk)
 ·rename_i hz
  split
  ·simp only [e1]
   exact toNumber_err ads 0 h0 a cap len w V fun w1 hk hc => toNumber1_long ads _ a cap len (by omega) h0 w1 (V.below hk) hc (lead_of hlen (hs.kp hk) hz)
  ·rename_i h8
   split
   ·rename_i hbig
    simp only [e1]
    exact toNumber_err ads 0 h0 a cap len w V fun w1 hk hc => toNumber1_big ads _ a cap bs len hlen (by omega) hb hbig h0 w1 (V.below hk) hc (hs.kp hk) (lead_of hlen (hs.kp hk) hz)
   ·rename_i hbig
    exact toNumber_val (beNum bs) a cap len w fun w1 hk hc => toNumber1_ok ads _ a cap bs len hlen (by omega) hb (by omega) w1 (V.below hk) hc (hs.kp hk) (lead_of hlen (hs.kp hk) hz)
theorem beNum_push (xs : List Int) (c : Int) : beNum (xs ++ [c]) = 256 * beNum xs + c := by
 unfold beNum; rw [List.foldl_append]
 rfl
theorem beF_back : ∀ (k : Nat) (bs : List Int), InB bs → bs.length ≤ k → ¬ (0 < bs.length ∧ bs.getD 0 0 = 0) → beF k (beNum bs).toNat = bs
 | 0, bs, _, hl, _ => by
  have : bs = [] := List.length_eq_zero_iff.1 (by omega); subst this; rfl
 | k + 1, bs, hb, hl, hz => by
  rcases List.eq_nil_or_concat bs with rfl | ⟨xs, c, rfl⟩
  ·rfl
  ·have hx : InB xs := fun x hx => hb x (by simp [hx])
   have hc := hb c (by simp); have hlx : xs.length ≤ k := by simp at hl; omega
   have hzx : ¬ (0 < xs.length ∧ xs.getD 0 0 = 0) := by
    rintro ⟨h1, h2⟩; refine hz ⟨by simp, ?_⟩
    rw [List.getD_eq_getElem?_getD, List.concat_eq_append, List.getElem?_append_left h1, ← List.getD_eq_getElem?_getD]; exact h2
   have ih := beF_back k xs hx hlx hzx; have hn := beNum_range hx xs.length (Nat.le_refl _); rw [List.take_length] at hn; rw [List.concat_eq_append, beNum_push]; have hnz : (256 * beNum xs + c).toNat ≠ 0 := by
    intro q; have c0 : c = 0 := by omega
    have x0 : beNum xs = 0 := by omega
    rw [x0] at ih; have hk : beF k (0 : Int).toNat = [] := by cases k <;> rfl
    rw [hk] at ih; subst ih; subst c0; exact hz ⟨by simp, by simp⟩
   unfold beF; rw [if_neg hnz, show (256 * beNum xs + c).toNat / 256 = (beNum xs).toNat by omega, ih, show (((256 * beNum xs + c).toNat % 256 : Nat) : Int) = c by omega]
theorem toNum_lead {bs : List Int} (h : (toNum bs).2 = 0) : ¬ (0 < bs.length ∧ bs.getD 0 0 = 0) ∧ bs.length ≤ 8 ∧ (toNum bs).1 = beNum bs := by
 unfold toNum at h ⊢
 split at h
 ·cases h
 rename_i g0
 split at h
 ·cases h
 rename_i g1
 split at h
 ·cases h
 rename_i g2
 rw [if_neg g0, if_neg g1, if_neg g2]; exact ⟨g0, by omega, rfl⟩
theorem toNum_back {bs : List Int} (hb : InB bs) (h : (toNum bs).2 = 0) : beF 8 (toNum bs).1.toNat = bs := by
 obtain ⟨h1, h2, h3⟩ := toNum_lead h; rw [h3]; exact beF_back 8 bs hb h2 h1
theorem toNum_pos {bs : List Int} (hb : InB bs) (h : (toNum bs).2 = 0) (h0 : bs.length ≠ 0) : (toNum bs).1 ≠ 0 := by
 intro q; have := toNum_back hb h; rw [q] at this; have e : beF 8 (0 : Int).toNat = [] := rfl; rw [e] at this; rw [← this] at h0; exact h0 rfl
open Go.RowKit
structure CX where
 n : Int
 s : Int
 o : Int
 d : Int
 x : Nat
deriving DecidableEq
def CX.cells (c : CX) : Array Value := #[.int .i64 c.n, .int .i64 c.s, .int .i64 c.o, .int .i64 c.d, .float .f64 c.x]
def CX.wf (c : CX) : Prop := c.x < 18446744073709551616
def tmX (x : Nat) : Bool := Fl.dl x && decide (Fl.plain x = x)
def outX (o : Int) : Bool := decide (o = 1 ∨ o = 2)
def rightX (c : CX) : Bool := rightA c.n c.s && (outX c.o && (decide (0 ≤ c.d ∧ c.d ≤ 3) && tmX c.x))
def sameX (a b : CX) : Bool := decide (a.n = b.n ∧ a.s = b.s ∧ a.o = b.o ∧ a.d = b.d) && decide (Fl.plain a.x = Fl.plain b.x)
theorem tmX_le {x : Nat} (h : tmX x = true) : x ≤ 9218868437227405312 := by
 unfold tmX at h; rw [Bool.and_eq_true] at h; have h1 := (Fl.dl_plain h.1).1; rw [of_decide_eq_true h.2] at h1; exact h1
theorem f8_back {d : List Int} (hb : InB d) (h : (toFl d).2 = 0) : f8 (toFl d).1 = d ∧ Fl.plain (toFl d).1 = (toFl d).1 ∧ (toFl d).1 < 18446744073709551616 := by
 unfold toFl at h ⊢
 split at h
 ·rename_i g
  rw [if_pos g]; dsimp only; have hr := beNum_range hb 8 (by omega); rw [show d.take 8 = d from List.take_of_length_le (by omega), show (256 : Int) ^ 8 = 18446744073709551616 from by decide] at hr; refine ⟨?_, g.2, by omega⟩
  obtain ⟨g1, -⟩ := g
  match d, hb, g1 with
  | [a, b, c, e, f, g, i, j], hb, _ =>
   have ha := hb a (by simp); have hb' := hb b (by simp); have hc := hb c (by simp); have he := hb e (by simp); have hf := hb f (by simp); have hg := hb g (by simp); have hi := hb i (by simp); have hj := hb j (by simp); have hn : beNum [a, b, c, e, f, g, i, j] = 256 * (256 * (256 * (256 * (256 * (256 * (256 * (256 * 0 + a) + b) + c) + e) + f) + g) + i) + j := rfl; rw [hn]; unfold f8 fb; simp only [List.cons.injEq, and_true]
   refine ⟨?_, ?_, ?_, ?_, ?_, ?_, ?_, ?_⟩ <;> simp only [Nat.reducePow] <;> omega
 ·cases h
theorem rightX_plain {c : CX} (h : rightX c = true) : Fl.plain c.x = c.x ∧ c.x < 18446744073709551616 := by
 have ht : tmX c.x = true := by
  unfold rightX at h; simp only [Bool.and_eq_true] at h
  exact h.2.2.2
 have hl := tmX_le ht; unfold tmX at ht; rw [Bool.and_eq_true] at ht; exact ⟨of_decide_eq_true ht.2, by omega⟩
structure FX where
 k : Int
 n : Int
 s : Int
 r : Int
 e : Int
 p : Int
 q : Int
 o : Int
 d : Int
 a : Int
 t : Int
 h : Int
 c : Int
 x : Nat
deriving DecidableEq
def FX.nums (f : FX) : List Int := [f.k, f.n, f.s, f.r, f.e, f.p, f.q, f.o, f.d, f.a, f.t, f.h, f.c]
def FX.cells (f : FX) : Array Value := #[.int .i64 f.k, .int .i64 f.n, .int .i64 f.s, .int .i64 f.r, .int .i64 f.e, .int .i64 f.p, .int .i64 f.q, .int .i64 f.o, .int .i64 f.d, .int .i64 f.a, .int .i64 f.t, .int .i64 f.h, .int .i64 f.c, .float .f64 f.x]
def FX.wf (f : FX) : Prop := f.x < 18446744073709551616
def noF : FX := ⟨0, 0, 0, 0, 0, 0, 0, 0, 0, 0, 0, 0, 0, 0⟩
theorem noF_wf : noF.wf := by unfold FX.wf noF; decide
def ofF (l : List Int) (x : Nat) : FX := ⟨l.getD 0 0, l.getD 1 0, l.getD 2 0, l.getD 3 0, l.getD 4 0, l.getD 5 0, l.getD 6 0, l.getD 7 0, l.getD 8 0, l.getD 9 0, l.getD 10 0, l.getD 11 0, l.getD 12 0, x⟩
theorem nums_ofF {l : List Int} (x : Nat) (h : l.length = 13) : (ofF l x).nums = l := by
 match l, h with
 | [k, n, s, r, e, p, q, o, d, a, t, hh, c], _ => rfl
theorem thirteen {l : List Int} (h : l.length = 13) : ∃ k n s r e p q o d a t hh c, l = [k, n, s, r, e, p, q, o, d, a, t, hh, c] := by
 match l, h with
 | [k, n, s, r, e, p, q, o, d, a, t, hh, c], _ => exact ⟨k, n, s, r, e, p, q, o, d, a, t, hh, c, rfl⟩
def seatX (t h : Int) : Bool := if t = 14 then decide (h = 1 ∨ 4 ≤ h ∧ h ≤ 8) else decide (1 ≤ t ∧ t ≤ 13 ∧ h = 0)
def ctxF (f : FX) : CX := ⟨f.n, f.s, f.o, f.d, f.x⟩
def namedF (k : Int) : List Int :=
 if k = 1 then [1, 2, 7, 8, 9] else if k = 2 then [1, 2, 3, 4, 5, 6] else if k = 3 then [1, 2, 3, 10, 11] else if k = 4 then [1, 2, 12] else
 if k = 5 then [1, 2] else if k = 6 then [1, 2, 5, 6] else if k = 7 then [3, 5] else if k = 8 then [5, 10, 11] else []
def okF (f : FX) : Bool :=
 if f.k = 1 then rightX (ctxF f) && decide (0 ≤ f.a ∧ f.a ≤ 8)
 else if f.k = 2 then rightA f.n f.s && decide (0 ≤ f.r ∧ f.r ≤ 5 ∧ 0 ≤ f.e ∧ f.e ≤ 3 ∧ 0 ≤ f.p ∧ f.p ≤ 7 ∧ (f.q = 1 ∨ f.q = 2))
 else if f.k = 3 then rightA f.n f.s && (decide (0 ≤ f.r ∧ f.r ≤ 5) && seatX f.t f.h)
 else if f.k = 4 then rightA f.n f.s && decide (f.c = 1 ∨ f.c = 2)
 else if f.k = 5 then rightA f.n f.s
 else if f.k = 6 then rightA f.n f.s && decide (0 ≤ f.p ∧ f.p ≤ 7 ∧ (f.q = 1 ∨ f.q = 2))
 else if f.k = 7 then decide (0 ≤ f.p ∧ f.p ≤ 7 ∧ 0 ≤ f.r ∧ f.r ≤ 5)
 else if f.k = 8 then decide (0 ≤ f.p ∧ f.p ≤ 7) && seatX f.t f.h
 else false
def restF (nm : List Int) : Int → List Int → Bool
 | _, [] => true
 | i, n :: l => decide (i = 0 ∨ n = 0 ∨ i ∈ nm) && restF nm (i + 1) l
def rightF (f : FX) : Bool := restF (namedF f.k) 0 f.nums && (okF f && decide (f.k = 1 ∨ f.x = 0))
def sameF (a b : FX) : Bool := decide (a.nums = b.nums) && decide (Fl.plain a.x = Fl.plain b.x)
inductive RuM where
 | rg (tag : Nat) (lo hi : Int)
 | act
 | ctx
 | seat
def RuM.ok : RuM → List Int → Nat → Bool
 | .rg tag lo hi, l, _ => decide (lo ≤ l.getD (tag - 1) 0 ∧ l.getD (tag - 1) 0 ≤ hi)
 | .act, l, _ => rightA (l.getD 1 0) (l.getD 2 0)
 | .ctx, l, x => rightX ⟨l.getD 1 0, l.getD 2 0, l.getD 7 0, l.getD 8 0, x⟩
 | .seat, l, _ => seatX (l.getD 10 0) (l.getD 11 0)
def RuM.tkL : RuM → List Int → List Int
 | .rg tag _ _, l => l.set (tag - 1) 0
 | .act, l => (l.set 1 0).set 2 0
 | .ctx, l => (((l.set 1 0).set 2 0).set 7 0).set 8 0
 | .seat, l => (l.set 10 0).set 11 0
def RuM.tkX : RuM → Nat → Nat
 | .ctx, _ => 0
 | _, x => x
theorem RuM.tkL_len (r : RuM) (l : List Int) : (r.tkL l).length = l.length := by cases r <;> simp [RuM.tkL]
theorem RuM.tkX_wf (r : RuM) {x : Nat} (h : x < 18446744073709551616) : r.tkX x < 18446744073709551616 := by
 cases r
 all_goals first | exact h | (show 0 < 18446744073709551616; decide)
def runR : List RuM → List Int → Nat → Option (List Int × Nat)
 | [], l, x => some (l, x)
 | r :: rs, l, x => if r.ok l x = true then runR rs (r.tkL l) (r.tkX x) else none
def rulesM (k : Int) : List RuM :=
 if k = 1 then [.ctx, .rg 10 0 8] else if k = 2 then [.act, .rg 4 0 5, .rg 5 0 3, .rg 6 0 7, .rg 7 1 2] else if k = 3 then [.act, .rg 4 0 5, .seat] else if k = 4 then [.act, .rg 13 1 2] else
 if k = 5 then [.act] else if k = 6 then [.rg 6 0 7, .act, .rg 7 1 2] else if k = 7 then [.rg 6 0 7, .rg 4 0 5] else if k = 8 then [.rg 6 0 7, .seat] else []
def leftF (k : Int) (o : Option (List Int × Nat)) : Bool :=
 match o with
 | none => false
 | some (l, x) => decide (l = [k, 0, 0, 0, 0, 0, 0, 0, 0, 0, 0, 0, 0]) && decide (x = 0)
theorem rest_cons (nm : List Int) (i n : Int) (l : List Int) : restF nm i (n :: l) = (decide (i = 0 ∨ n = 0 ∨ i ∈ nm) && restF nm (i + 1) l) := rfl
theorem right_rules {f : FX} (h : 1 ≤ f.k ∧ f.k ≤ 8) : rightF f = leftF f.k (runR (rulesM f.k) f.nums f.x) := by
 obtain ⟨k, n, s, r, e, p, q, o, d, a, t, hh, c, x⟩ := f; dsimp only at h ⊢; have hk : k = 1 ∨ k = 2 ∨ k = 3 ∨ k = 4 ∨ k = 5 ∨ k = 6 ∨ k = 7 ∨ k = 8 := by omega
 rcases hk with rfl | rfl | rfl | rfl | rfl | rfl | rfl | rfl
 ·cases hc : rightX ⟨n, s, o, d, x⟩ <;> by_cases ha : 0 ≤ a ∧ a ≤ 8 <;> simp [rightF, okF, ctxF, namedF, restF, FX.nums, rulesM, runR, RuM.ok, RuM.tkL, RuM.tkX, leftF, hc, ha]
 ·by_cases h1 : 0 ≤ r ∧ r ≤ 5 <;> by_cases h2 : 0 ≤ e ∧ e ≤ 3 <;> by_cases h3 : 0 ≤ p ∧ p ≤ 7 <;> by_cases h4 : q = 1 ∨ q = 2
  all_goals have h5 : (1 ≤ q ∧ q ≤ 2) = (q = 1 ∨ q = 2) := propext (by omega)
  all_goals cases hc : rightA n s <;> simp [rightF, okF, namedF, restF, FX.nums, rulesM, runR, RuM.ok, RuM.tkL, RuM.tkX, leftF, hc, h1, h2, h3, h4, h5, and_comm]
 ·by_cases h1 : 0 ≤ r ∧ r ≤ 5 <;> cases h2 : seatX t hh <;> cases hc : rightA n s <;> simp [rightF, okF, namedF, restF, FX.nums, rulesM, runR, RuM.ok, RuM.tkL, RuM.tkX, leftF, hc, h1, h2]
 ·by_cases h4 : c = 1 ∨ c = 2
  all_goals have h5 : (1 ≤ c ∧ c ≤ 2) = (c = 1 ∨ c = 2) := propext (by omega)
  all_goals cases hc : rightA n s <;> simp [rightF, okF, namedF, restF, FX.nums, rulesM, runR, RuM.ok, RuM.tkL, RuM.tkX, leftF, hc, h4, h5]
 ·cases hc : rightA n s <;> simp [rightF, okF, namedF, restF, FX.nums, rulesM, runR, RuM.ok, RuM.tkL, RuM.tkX, leftF, hc]
 ·by_cases h3 : 0 ≤ p ∧ p ≤ 7 <;> by_cases h4 : q = 1 ∨ q = 2
  all_goals have h5 : (1 ≤ q ∧ q ≤ 2) = (q = 1 ∨ q = 2) := propext (by omega)
  all_goals cases hc : rightA n s <;> simp [rightF, okF, namedF, restF, FX.nums, rulesM, runR, RuM.ok, RuM.tkL, RuM.tkX, leftF, hc, h3, h4, h5]
 ·by_cases h3 : 0 ≤ p ∧ p ≤ 7 <;> by_cases h1 : 0 ≤ r ∧ r ≤ 5
  all_goals simp [rightF, okF, namedF, restF, FX.nums, rulesM, runR, RuM.ok, RuM.tkL, RuM.tkX, leftF, h1, h3]
 ·by_cases h3 : 0 ≤ p ∧ p ≤ 7 <;> cases h2 : seatX t hh <;> simp [rightF, okF, namedF, restF, FX.nums, rulesM, runR, RuM.ok, RuM.tkL, RuM.tkX, leftF, h2, h3]
theorem right_far {f : FX} (h : ¬ (1 ≤ f.k ∧ f.k ≤ 8)) : rightF f = false := by
 unfold rightF okF; rw [if_neg (by omega), if_neg (by omega), if_neg (by omega), if_neg (by omega), if_neg (by omega), if_neg (by omega), if_neg (by omega), if_neg (by omega)]
 simp
def putG : List Int → Option Nat → List (Int × List Int) → Option (List Int × Option Nat)
 | l, o, [] => some (l, o)
 | l, o, x :: fs =>
  if x.1 = 14 then (if (toFl x.2).2 = 0 then putG l (some (toFl x.2).1) fs else none)
  else if 14 < x.1 ∨ x.2.length = 0 ∨ (toNum x.2).2 ≠ 0 then none else putG (l.set (x.1 - 1).toNat (toNum x.2).1) o fs
def finG : Option (List Int × Option Nat) → Int × FX
 | some (l, o) => if (o.isSome = decide ((ofF l (o.getD 0)).k = 1)) ∧ rightF (ofF l (o.getD 0)) = true then (0, ofF l (o.getD 0)) else (4, noF)
 | none => (4, noF)
def decG (bs : List Int) : Int × FX :=
 if (splitQ 17 bs 0 0).1 ≠ 0 then ((splitQ 17 bs 0 0).1, noF) else finG (putG (List.replicate 13 0) none (splitQ 17 bs 0 0).2)
def tailF (f : FX) : List (Int × List Int) := if f.k = 1 then [(14, f8 (Fl.plain f.x))] else []
def rowG (f : FX) : List (Int × List Int) := rowF 1 f.nums ++ tailF f
def encF (f : FX) : List Int := joinB (rowG f)
theorem rightF_plain {f : FX} (h : rightF f = true) : Fl.plain f.x = f.x ∧ f.x < 18446744073709551616 := by
 unfold rightF at h; rw [Bool.and_eq_true, Bool.and_eq_true] at h; obtain ⟨-, h2, h3⟩ := h
 rcases of_decide_eq_true h3 with g | g
 ·unfold okF at h2; rw [if_pos g, Bool.and_eq_true] at h2; exact rightX_plain h2.1
 ·rw [g]; exact ⟨by decide, by decide⟩
theorem decG_wf {bs : List Int} : (decG bs).2.wf := by
 unfold decG
 split
 ·exact noF_wf
 ·unfold finG
  split
  ·split
   ·rename_i h
    exact (rightF_plain h.2).2
   ·exact noF_wf
  ·exact noF_wf
theorem finG_bad : ∀ o : Option (List Int × Option Nat), (finG o).1 ≠ 0 → (finG o).2 = noF
 | none, _ => rfl
 | some (l, o), h => by
  by_cases q : o.isSome = decide ((ofF l (o.getD 0)).k = 1) ∧ rightF (ofF l (o.getD 0)) = true
  ·have e : finG (some (l, o)) = (0, ofF l (o.getD 0)) := if_pos q; rw [e] at h; exact absurd rfl h
  ·have e : finG (some (l, o)) = (4, noF) := if_neg q; rw [e]
theorem decG_bad {bs : List Int} (h : (decG bs).1 ≠ 0) : (decG bs).2 = noF := by
 unfold decG at h ⊢
 split
 ·rfl
 ·rename_i g
  rw [if_neg g] at h; exact finG_bad _ h
structure FacC (ads : List Addr) (w : World) : Prop where
 right : ∀ w1, Kp w w1 → ∀ f : FX, f.wf → Calls Tryz.prog 27 #[.agg f.cells] w1 fun e w' => e = .returned (.bool (rightF f)) ∧ Kp w1 w'
 dec : ∀ w1, Kp w w1 → ∀ (a : Option Addr) (p : Nat) (bs : List Int) (n : Nat), bs.length = n → n ≤ 1000 → InB bs → n ≤ p → SlB (.slice a n p) bs w1 → Calls Tryz.prog 49 #[.slice a n p] w1 fun e w' => e = .returned (.tuple #[.agg (decG bs).2.cells, errI ads (decG bs).1]) ∧ Kp w1 w'
theorem FacC.kp {ads : List Addr} {w w' : World} (C : FacC ads w) (hk : Kp w w') : FacC ads w' where
 right := fun w1 h => C.right w1 (kT hk h)
 dec := fun w1 h => C.dec w1 (kT hk h)
theorem errI_some14 (ads : List Addr) (k : Int) (h : k ≠ 0) : ∃ q, errI ads k = .iface 240 (.pointer q) := ⟨_, if_neg h⟩
end Go.Proofs.YtpemeenfhkgmpaaGreatDoor
