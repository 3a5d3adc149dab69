/- Parts of this proof (own work). -/
import Derived.Deep.RegionWith
import Derived.Test.YtpemeenfhkgmpaaGreatDoorZf06
import Derived.Laws.Strings
set_option maxRecDepth 100000
set_option maxHeartbeats 40000000
namespace Go.Proofs.YtpemeenfhkgmpaaGreatDoor
open Go.RowKit Go.ChangeShapes Go.WideShapes
theorem toNumber1_form (ads : List Addr) (p : Addr) (a : Option Addr) (cap : Nat) (bs : List Int) (len : Nat) (hlen : bs.length = len) (h3 : 3 < ads.length) (hz : 0 < bs.length ∧ bs.getD 0 0 = 0) (w : World) (V : St ads w) (hp : w.cell? p = some (.slice a len cap)) (hs : SlB (.slice a len cap) bs w) :
  Calls Tryz.prog 155 #[.pointer (some p)] w fun e w' => e = .panicked [{ v := snt ads[3], recovered := false }] ∧ Kp w w' := by
 have c3 : w.cell? ⟨3, 0, none⟩ = some (snt ads[3]) := V.cell 3 (by decide); obtain ⟨e3, he3⟩ : ∃ a, ads[3] = a := ⟨_, rfl⟩
 rw [he3] at c3 ⊢; obtain ⟨ll, hll⟩ : ∃ ll : Int, (len : Int) = ll := ⟨_, rfl⟩
 obtain ⟨b, off, rfl, hc⟩ := hs.at 0 hz.1; rw [hz.2, Nat.add_zero] at hc; have hd : (ll == 0) = false := by simp; omega
 have hpos : 0 < len := by omega
 have hposI : 0 < ll := by omega
 have KD := hD (Kp.refl w).drew; clear hs hz hlen V he3; go_enter Tryz.func155, Tryz.ntmps155; go_wp2; go_still_tail 10, (by kernel_rfl)
 change wpList _ _ _ _ _ w.drew
 go_wp2_with (go_at_call 126; (with_reducible refine (demand_f _ _).mono ?_); rintro e w' ⟨rfl, rfl⟩)
 exact ⟨rfl, rfl, KD.out⟩
def Lead (a : Option Addr) (len : Nat) (w : World) : Prop := len = 0 ∨ ∃ b off x, a = some ⟨b, off, none⟩ ∧ w.cell? ⟨b, off, none⟩ = some (.int .u8 x) ∧ (x != 0) = true ∧ 0 < len
theorem lead_of {a : Option Addr} {cap : Nat} {bs : List Int} {len : Nat} {w : World} (hlen : bs.length = len) (hs : SlB (.slice a len cap) bs w) (hz : ¬(0 < bs.length ∧ bs.getD 0 0 = 0)) : Lead a len w := by
 rcases Nat.eq_zero_or_pos len with q | q
 ·exact .inl q
 ·obtain ⟨b, off, h1, h2⟩ := hs.at 0 (by omega); rw [Nat.add_zero] at h2; refine .inr ⟨b, off, _, h1, h2, ?_, q⟩
  simp only [bne_iff_ne, ne_eq]
  exact fun h => hz ⟨by omega, h⟩
theorem toNumber1_long (ads : List Addr) (p : Addr) (a : Option Addr) (cap len : Nat) (h8 : 8 < len) (h0 : 0 < ads.length) (w : World) (V : St ads w) (hp : w.cell? p = some (.slice a len cap)) (hz : Lead a len w) :
  Calls Tryz.prog 155 #[.pointer (some p)] w fun e w' => e = .panicked [{ v := snt (ads[0]'h0), recovered := false }] ∧ Kp w w' := by
 have h14 : ads.length = 14 := V.len; obtain ⟨e3, c3⟩ : ∃ e3, w.cell? ⟨3, 0, none⟩ = some (snt e3) := ⟨ads[3]'(by omega), V.cell 3 (by decide)⟩
 have c0 : w.cell? ⟨0, 0, none⟩ = some (snt (ads[0]'h0)) := V.cell 0 (by decide); obtain ⟨e0, he0⟩ : ∃ a, ads[0]'h0 = a := ⟨_, rfl⟩
 rw [he0] at c0 ⊢; obtain ⟨ll, hll⟩ : ∃ ll : Int, (len : Int) = ll := ⟨_, rfl⟩
 rcases hz with q | ⟨b, off, x, rfl, hc, hx, hpos⟩
 ·omega
 have hd : (ll == 0) = false := by simp; omega
 have hle : decide (ll ≤ 8) = false := dF (by omega); have hposI : 0 < ll := by omega
 have c0' : w.drew.cell? ⟨0, 0, none⟩ = some (snt e0) := c0; have hp' : w.drew.cell? p = some (.slice (some ⟨b, off, none⟩) len cap) := hp; have KD := hD (Kp.refl w).drew; clear V he0 h14; go_enter Tryz.func155, Tryz.ntmps155; go_wp2; go_still_tail 10, (by kernel_rfl)
 change wpList _ _ _ _ _ w.drew
 go_wp2_with (first | (go_at_call 126; (with_reducible refine (demand_t _ _).mono ?_); rintro e w' ⟨rfl, rfl⟩) | (go_at_call 126; (with_reducible refine (demand_f _ _).mono ?_); rintro e w' ⟨rfl, rfl⟩))
 exact ⟨rfl, rfl, KD.out⟩
theorem toNumber1_big (ads : List Addr) (p : Addr) (a : Option Addr) (cap : Nat) (bs : List Int) (len : Nat) (hlen : bs.length = len) (h8 : len ≤ 8) (hb : InB bs) (hbig : 9223372036854775807 < beNum bs) (h0 : 0 < ads.length) (w : World) (V : St ads w) (hp : w.cell? p = some (.slice a len cap)) (hs : SlB (.slice a len cap) bs w) (hz : Lead a len w) :
  Calls Tryz.prog 155 #[.pointer (some p)] w fun e w' => e = .panicked [{ v := snt (ads[0]'h0), recovered := false }] ∧ Kp w w' := by
 have h14 : ads.length = 14 := V.len; obtain ⟨e3, c3⟩ : ∃ e3, w.cell? ⟨3, 0, none⟩ = some (snt e3) := ⟨ads[3]'(by omega), V.cell 3 (by decide)⟩
 have c0 : w.cell? ⟨0, 0, none⟩ = some (snt (ads[0]'h0)) := V.cell 0 (by decide); obtain ⟨e0, he0⟩ : ∃ a, ads[0]'h0 = a := ⟨_, rfl⟩
 rw [he0] at c0 ⊢; have hv := fun w1 (hk : Kp w w1) => value_any a cap bs len hlen h8 hb w1 (hs.kp hk)
 obtain ⟨F, hF⟩ : ∃ F, beNum bs = F := ⟨_, rfl⟩
 simp only [hF] at hv
 rw [hF] at hbig; have HV := hD hv; have hle : decide (F ≤ 9223372036854775807) = false := dF (by omega); obtain ⟨ll, hll⟩ : ∃ ll : Int, (len : Int) = ll := ⟨_, rfl⟩
 rcases hz with q | ⟨b, off, x, rfl, hc, hx, hpos⟩
 ·subst q; have hb0 : bs = [] := List.length_eq_zero_iff.1 hlen; subst hb0; have : F = 0 := by rw [← hF]; rfl
  omega
 have hd : (ll == 0) = false := by simp; omega
 have hle8 : ll ≤ 8 := by omega
 have hposI : 0 < ll := by omega
 have c0' : w.drew.cell? ⟨0, 0, none⟩ = some (snt e0) := c0; have hp' : w.drew.cell? p = some (.slice (some ⟨b, off, none⟩) len cap) := hp; have KD := hD (Kp.refl w).drew; clear V he0 h14 hv hF hs hb hbig; go_enter Tryz.func155, Tryz.ntmps155; go_wp2; go_still_tail 10, (by kernel_rfl)
 change wpList _ _ _ _ _ w.drew
 go_wp2_with (first | (go_at_call 126; (with_reducible refine (demand_t _ _).mono ?_); rintro e w' ⟨rfl, rfl⟩) | (go_at_call 126; (with_reducible refine (demand_f _ _).mono ?_); rintro e w' ⟨rfl, rfl⟩) | (go_at_call 135; (with_reducible refine (HV.out _ KD.out).mono ?_); rintro e w' ⟨rfl, rfl⟩))
 exact ⟨rfl, rfl, KD.out⟩
theorem toNumber1_ok (ads : List Addr) (p : Addr) (a : Option Addr) (cap : Nat) (bs : List Int) (len : Nat) (hlen : bs.length = len) (h8 : len ≤ 8) (hb : InB bs) (hsm : beNum bs ≤ 9223372036854775807) (w : World) (V : St ads w) (hp : w.cell? p = some (.slice a len cap)) (hs : SlB (.slice a len cap) bs w) (hz : Lead a len w) :
  Calls Tryz.prog 155 #[.pointer (some p)] w fun e w' => e = .returned (.int .i64 (beNum bs)) ∧ Kp w w' := by
 have h14 : ads.length = 14 := V.len; obtain ⟨e3, c3⟩ : ∃ e3, w.cell? ⟨3, 0, none⟩ = some (snt e3) := ⟨ads[3]'(by omega), V.cell 3 (by decide)⟩
 obtain ⟨e0, c0⟩ : ∃ e0, w.cell? ⟨0, 0, none⟩ = some (snt e0) := ⟨ads[0]'(by omega), V.cell 0 (by decide)⟩
 have hv := fun w1 (hk : Kp w w1) => value_any a cap bs len hlen h8 hb w1 (hs.kp hk)
 have hr := beNum_range hb bs.length (Nat.le_refl _); rw [List.take_length] at hr; obtain ⟨F, hF⟩ : ∃ F, beNum bs = F := ⟨_, rfl⟩
 simp only [hF] at hv hr ⊢
 rw [hF] at hsm; have hF0 : 0 ≤ F := hr.1; have HV := hD hv; obtain ⟨ll, hll⟩ : ∃ ll : Int, (len : Int) = ll := ⟨_, rfl⟩
 have hle8 : ll ≤ 8 := by omega
 have c0' : w.drew.cell? ⟨0, 0, none⟩ = some (snt e0) := c0; have KD := hD (Kp.refl w).drew; have hp' : w.drew.cell? p = some (.slice a len cap) := hp; clear V h14 hv hF hs hb hr
 rcases hz with q | ⟨b, off, x, rfl, hc, hx, hpos⟩
 ·subst q; have hd : ll = 0 := by omega
  subst hd; go_enter Tryz.func155, Tryz.ntmps155; go_wp2; go_still_tail 10, (by kernel_rfl)
  change wpList _ _ _ _ _ w.drew
  go_wp2_with (first | (go_at_call 126; (with_reducible refine (demand_t _ _).mono ?_); rintro e w' ⟨rfl, rfl⟩) | (go_at_call 135; (with_reducible refine (HV.out _ KD.out).mono ?_); rintro e w' ⟨rfl, rfl⟩))
  go_ret; exact ⟨rfl, KD.out⟩
 ·have hd : (ll == 0) = false := by simp; omega
  have hposI : 0 < ll := by omega
  go_enter Tryz.func155, Tryz.ntmps155; go_wp2; go_still_tail 10, (by kernel_rfl)
  change wpList _ _ _ _ _ w.drew
  go_wp2_with (first | (go_at_call 126; (with_reducible refine (demand_t _ _).mono ?_); rintro e w' ⟨rfl, rfl⟩) | (go_at_call 135; (with_reducible refine (HV.out _ KD.out).mono ?_); rintro e w' ⟨rfl, rfl⟩))
  go_ret; exact ⟨rfl, KD.out⟩
def errN (ads : List Addr) (k : Int) : Value := if k = 0 then .nilIface else (ads[k.toNat - 1]?.map snt).getD .nilIface
theorem toNumber_err (ads : List Addr) (k : Nat) (hk : k < ads.length) (a : Option Addr) (cap len : Nat) (w : World) (V : St ads w)
  (H : ∀ w1, Kp w w1 → w1.cell? ⟨w.heap.size, 0, none⟩ = some (.slice a len cap) → Calls Tryz.prog 155 #[.pointer (some ⟨w.heap.size, 0, none⟩)] w1 fun e w' => e = .panicked [{ v := snt (ads[k]'hk), recovered := false }] ∧ Kp w1 w') :
  Calls Tryz.prog 140 #[.slice a len cap] w fun e w' => e = .returned (.tuple #[.int .i64 0, snt (ads[k]'hk)]) ∧ Kp w w' := by
 have hmf : ∀ (fn : Fn) (first cap : Array Value) (w : World), (Instr.makeFunc fn first cap).run Tryz.prog w = .ok (.func fn first cap) w := fun _ _ _ _ => rfl
 have kb := kA w (.cells #[.slice a len cap] 55); have hc := box_cell w (.slice a len cap) 55; have HT := hD (try_int_err ads k hk 155 #[.pointer (some ⟨w.heap.size, 0, none⟩)] (w.alloc (.cells #[.slice a len cap] 55)) (V.below kb) (by intro w; simp [go_sem]) fun w1 h1 => H w1 (kT kb h1) (kZ h1 hc)); have KB := hD kb; clear kb hc V H; go_enter Tryz.func140, Tryz.ntmps140; go_wp2_with (go_at_call 154; (with_reducible refine HT.out.mono ?_); rintro e w' ⟨rfl, hk⟩; have HK := hD hk; clear hk)
 go_ret2
 exact ⟨rfl, kT KB.out HK.out⟩
theorem toNumber_val (x : Int) (a : Option Addr) (cap len : Nat) (w : World)
  (H : ∀ w1, Kp w w1 → w1.cell? ⟨w.heap.size, 0, none⟩ = some (.slice a len cap) → Calls Tryz.prog 155 #[.pointer (some ⟨w.heap.size, 0, none⟩)] w1 fun e w' => e = .returned (.int .i64 x) ∧ Kp w1 w') :
  Calls Tryz.prog 140 #[.slice a len cap] w fun e w' => e = .returned (.tuple #[x, .nilIface]) ∧ Kp w w' := by
 have hmf : ∀ (fn : Fn) (first cap : Array Value) (w : World), (Instr.makeFunc fn first cap).run Tryz.prog w = .ok (.func fn first cap) w := fun _ _ _ _ => rfl
 have kb := kA w (.cells #[.slice a len cap] 55); have hc := box_cell w (.slice a len cap) 55; have HT := hD (try_int_val 155 #[.pointer (some ⟨w.heap.size, 0, none⟩)] x (w.alloc (.cells #[.slice a len cap] 55)) (by intro w; simp [go_sem]) fun w1 h1 => H w1 (kT kb h1) (kZ h1 hc)); have KB := hD kb; clear kb hc H; go_enter Tryz.func140, Tryz.ntmps140; go_wp2_with (go_at_call 154; (with_reducible refine HT.out.mono ?_); rintro e w' ⟨rfl, hk⟩; have HK := hD hk; clear hk)
 go_ret2
 exact ⟨rfl, kT KB.out HK.out⟩
theorem toNumber_any (ads : List Addr) (a : Option Addr) (cap : Nat) (bs : List Int) (len : Nat) (hlen : bs.length = len) (hb : InB bs) (w : World) (V : St ads w) (hs : SlB (.slice a len cap) bs w) :
  Calls Tryz.prog 140 #[.slice a len cap] w fun e w' => e = .returned (.tuple #[.int .i64 (toNum bs).1, errN ads (toNum bs).2]) ∧ Kp w w' := by
 have h14 : ads.length = 14 := V.len; have h0 : 0 < ads.length := by omega
 have h3 : 3 < ads.length := by omega
 have e1 : errN ads 1 = snt (ads[0]'h0) := by unfold errN; simp [List.getElem?_eq_getElem h0]
 have e4 : errN ads 4 = snt (ads[3]'h3) := by unfold errN; simp [List.getElem?_eq_getElem h3]
 unfold toNum
 split
 ·rename_i hz
  simp only [e4]
  exact toNumber_err ads 3 h3 a cap len w V fun w1 hk hc => toNumber1_form ads _ a cap bs len hlen h3 hz w1 (V.below hk) hc (hs.kp hk)
 ·rename_i hz
  split
  ·simp only [e1]
   exact toNumber_err ads 0 h0 a cap len w V fun w1 hk hc => toNumber1_long ads _ a cap len (by omega) h0 w1 (V.below hk) hc (lead_of hlen (hs.kp hk) hz)
  ·rename_i h8
   split
   ·rename_i hbig
    simp only [e1]
    exact toNumber_err ads 0 h0 a cap len w V fun w1 hk hc => toNumber1_big ads _ a cap bs len hlen (by omega) hb hbig h0 w1 (V.below hk) hc (hs.kp hk) (lead_of hlen (hs.kp hk) hz)
   ·rename_i hbig
    exact toNumber_val (beNum bs) a cap len w fun w1 hk hc => toNumber1_ok ads _ a cap bs len hlen (by omega) hb (by omega) w1 (V.below hk) hc (hs.kp hk) (lead_of hlen (hs.kp hk) hz)
theorem beNum_push (xs : List Int) (c : Int) : beNum (xs ++ [c]) = 256 * beNum xs + c := by
 unfold beNum; rw [List.foldl_append]
 rfl
theorem beNum_beF : ∀ k n, n < 256 ^ k → beNum (beF k n) = n
 | 0, n, h => by
  obtain rfl : n = 0 := by simpa using h
  rfl
 | k + 1, n, h => by
  unfold beF
  split
  ·rename_i h0; subst h0; rfl
  ·rw [beNum_push, beNum_beF k (n / 256) (by rw [Nat.pow_succ] at h; omega)]; omega
theorem beF_lead : ∀ k n, n < 256 ^ k → ¬ (0 < (beF k n).length ∧ (beF k n).getD 0 0 = 0)
 | 0, n, _ => by simp [beF]
 | k + 1, n, h => by
  unfold beF
  split
  ·simp
  ·rename_i h0
   have ih := beF_lead k (n / 256) (by rw [Nat.pow_succ] at h; omega)
   by_cases hl : 0 < (beF k (n / 256)).length
   ·rintro ⟨_, h2⟩; have e : (beF k (n / 256) ++ [((n % 256 : Nat) : Int)]).getD 0 0 = (beF k (n / 256)).getD 0 0 := by simp only [List.getD, List.getElem?_append_left hl]
    rw [e] at h2; exact ih ⟨hl, h2⟩
   ·have hz : beF k (n / 256) = [] := List.length_eq_zero_iff.1 (by omega); have hq : n / 256 = 0 := by
     have := beNum_beF k (n / 256) (by rw [Nat.pow_succ] at h; omega); rw [hz] at this; have h3 : beNum [] = 0 := rfl; omega
    rw [hz]
    simp
    omega
theorem toNum_beF (n : Nat) (h : n < 9223372036854775808) : toNum (beF 8 n) = ((n : Int), 0) := by
 have h8 : n < 256 ^ 8 := Nat.lt_trans h (by decide); unfold toNum; rw [if_neg (beF_lead 8 n h8), if_neg (by have := beF_len 8 n; omega), beNum_beF 8 n h8, if_neg (by omega)]
theorem rep_get (n j : Nat) : (List.replicate n (0 : Int)).getD j 0 = 0 := by
 rw [List.getD_eq_getElem?_getD, List.getElem?_replicate]
 split <;> rfl
theorem beF_back : ∀ (k : Nat) (bs : List Int), InB bs → bs.length ≤ k → ¬ (0 < bs.length ∧ bs.getD 0 0 = 0) → beF k (beNum bs).toNat = bs
 | 0, bs, _, hl, _ => by
  have : bs = [] := List.length_eq_zero_iff.1 (by omega); subst this; rfl
 | k + 1, bs, hb, hl, hz => by
  rcases List.eq_nil_or_concat bs with rfl | ⟨xs, c, rfl⟩
  ·rfl
  ·have hx : InB xs := fun x hx => hb x (by simp [hx])
   have hc := hb c (by simp); have hlx : xs.length ≤ k := by simp at hl; omega
   have hzx : ¬ (0 < xs.length ∧ xs.getD 0 0 = 0) := by
    rintro ⟨h1, h2⟩; refine hz ⟨by simp, ?_⟩
    rw [List.getD_eq_getElem?_getD, List.concat_eq_append, List.getElem?_append_left h1, ← List.getD_eq_getElem?_getD]; exact h2
   have ih := beF_back k xs hx hlx hzx; have hn := beNum_range hx xs.length (Nat.le_refl _); rw [List.take_length] at hn; rw [List.concat_eq_append, beNum_push]; have hnz : (256 * beNum xs + c).toNat ≠ 0 := by
    intro q; have c0 : c = 0 := by omega
    have x0 : beNum xs = 0 := by omega
    rw [x0] at ih; have hk : beF k (0 : Int).toNat = [] := by cases k <;> rfl
    rw [hk] at ih; subst ih; subst c0; exact hz ⟨by simp, by simp⟩
   unfold beF; rw [if_neg hnz, show (256 * beNum xs + c).toNat / 256 = (beNum xs).toNat by omega, ih, show (((256 * beNum xs + c).toNat % 256 : Nat) : Int) = c by omega]
theorem toNum_lead {bs : List Int} (h : (toNum bs).2 = 0) : ¬ (0 < bs.length ∧ bs.getD 0 0 = 0) ∧ bs.length ≤ 8 ∧ (toNum bs).1 = beNum bs := by
 unfold toNum at h ⊢
 split at h
 ·cases h
 rename_i g0
 split at h
 ·cases h
 rename_i g1
 split at h
 ·cases h
 rename_i g2
 rw [if_neg g0, if_neg g1, if_neg g2]; exact ⟨g0, by omega, rfl⟩
theorem toNum_back {bs : List Int} (hb : InB bs) (h : (toNum bs).2 = 0) : beF 8 (toNum bs).1.toNat = bs := by
 obtain ⟨h1, h2, h3⟩ := toNum_lead h; rw [h3]; exact beF_back 8 bs hb h2 h1
theorem toNum_pos {bs : List Int} (hb : InB bs) (h : (toNum bs).2 = 0) (h0 : bs.length ≠ 0) : (toNum bs).1 ≠ 0 := by
 intro q; have := toNum_back hb h; rw [q] at this; have e : beF 8 (0 : Int).toNat = [] := rfl; rw [e] at this; rw [← this] at h0; exact h0 rfl
theorem runQ_rowF : ∀ (ns : List Int) (i last : Int) (k : Nat), last < i → i + ns.length ≤ 256 → k + ns.length ≤ 16 → runQ k last (rowF i ns) = true
 | [], _, _, _, _, _, _ => rfl
 | n :: ns, i, last, k, h1, h2, h3 => by
  rw [List.length_cons] at h2 h3; simp only [rowF]
  split
  ·exact runQ_rowF ns (i + 1) last k (by omega) (by omega) (by omega)
  ·unfold runQ; rw [runQ_rowF ns (i + 1) i (k + 1) (by omega) (by omega) (by omega), Bool.and_true]; have := beF_len 8 n.toNat; exact dT ⟨by omega, h1, by omega, by dsimp only; omega⟩
theorem rowF_in (ns : List Int) (i : Int) : ∀ g ∈ rowF i ns, InB g.2 := fun g hg => (rowF_mem ns i g hg).2.2.2
theorem beNum_dig : ∀ (m x : Nat), beNum (digB x m) = ((x % 256 ^ m : Nat) : Int)
 | 0, x => by simp [digB, beNum, Nat.mod_one]
 | m + 1, x => by
  rw [digB_next, beNum_push, beNum_dig m (x / 256)]; have e : x % 256 ^ (m + 1) = 256 * (x / 256 % 256 ^ m) + x % 256 := by
   rw [Nat.pow_succ, Nat.mul_comm (256 ^ m) 256, Nat.mod_mul]; omega
  rw [e]; omega
theorem beNum_f8 (p : Nat) (h : p < 18446744073709551616) : beNum (f8 p) = p := by
 rw [← dig8, beNum_dig, Nat.mod_eq_of_lt (Nat.lt_of_lt_of_eq h (by decide))]
theorem f8_in (p : Nat) : InB (f8 p) := by
 intro x hx; rw [← dig8] at hx; unfold digB at hx; obtain ⟨i, _, rfl⟩ := List.mem_map.1 hx; unfold fb; omega
theorem toFl_f8 (p : Nat) (h : p < 18446744073709551616) (hp : Fl.plain p = p) : toFl (f8 p) = (p, 0) := by
 unfold toFl; rw [beNum_f8 p h]; rw [if_pos ⟨rfl, by simpa using hp⟩]
 simp
open Go.RowKit
structure CX where
 n : Int
 s : Int
 o : Int
 d : Int
 x : Nat
deriving DecidableEq
def CX.cells (c : CX) : Array Value := #[.int .i64 c.n, .int .i64 c.s, .int .i64 c.o, .int .i64 c.d, .float .f64 c.x]
def CX.wf (c : CX) : Prop := c.x < 18446744073709551616
def tmX (x : Nat) : Bool := Fl.dl x && decide (Fl.plain x = x)
def outX (o : Int) : Bool := decide (o = 1 ∨ o = 2)
def rightX (c : CX) : Bool := rightA c.n c.s && (outX c.o && (decide (0 ≤ c.d ∧ c.d ≤ 3) && tmX c.x))
def sameX (a b : CX) : Bool := decide (a.n = b.n ∧ a.s = b.s ∧ a.o = b.o ∧ a.d = b.d) && decide (Fl.plain a.x = Fl.plain b.x)
theorem tmX_le {x : Nat} (h : tmX x = true) : x ≤ 9218868437227405312 := by
 unfold tmX at h; rw [Bool.and_eq_true] at h; have h1 := (Fl.dl_plain h.1).1; rw [of_decide_eq_true h.2] at h1; exact h1
def putN (N : Nat) : List Int → List (Int × List Int) → Option (List Int)
 | l, [] => some l
 | l, x :: fs => if (N : Int) < x.1 ∨ x.2.length = 0 ∨ (toNum x.2).2 ≠ 0 then none else putN N (l.set (x.1 - 1).toNat (toNum x.2).1) fs
theorem put_backN (N : Nat) : ∀ (d i : Nat) (l0 l : List Int), i + d = N → l.length = N → l0.length = N → (∀ x ∈ l, 0 ≤ x ∧ x ≤ 999999) → (∀ j, i ≤ j → l0.getD j 0 = 0) → l0.take i = l.take i → putN N l0 (rowF ((i : Int) + 1) (l.drop i)) = some l
 | 0, i, l0, l, hd, hl, hl0, _, _, ht => by
  obtain rfl : i = N := by omega
  rw [List.drop_of_length_le (by omega)]; rw [List.take_of_length_le (by omega), List.take_of_length_le (by omega)] at ht; rw [ht]; rfl
 | d + 1, i, l0, l, hd, hl, hl0, hn, hz, ht => by
  have hi : i < l.length := by omega
  have hi0 : i < l0.length := by omega
  rw [List.drop_eq_getElem_cons hi, rowF]; obtain ⟨x0, x1⟩ := hn l[i] (List.getElem_mem hi); have e2 : ((i : Int) + 1 + 1) = (((i + 1 : Nat) : Int) + 1) := by omega
  have h0i : l0[i] = 0 := by have := hz i (Nat.le_refl _); simpa [List.getD, hi0] using this
  split
  ·rename_i h0
   rw [e2]; refine put_backN N d (i + 1) l0 l (by omega) hl hl0 hn (fun j hj => hz j (by omega)) ?_
   rw [List.take_succ_eq_append_getElem hi0, List.take_succ_eq_append_getElem hi, ht, h0, h0i]
  ·rename_i h0
   rw [putN]; dsimp only; have hb := toNum_beF l[i].toNat (by omega); have hlen : (beF 8 l[i].toNat).length ≠ 0 := by
    intro q; have e := beNum_beF 8 l[i].toNat (Nat.lt_trans (by omega : l[i].toNat < 9223372036854775808) (by decide)); rw [List.length_eq_zero_iff.1 q] at e; have h3 : beNum [] = 0 := rfl; omega
   rw [hb, if_neg (by simp only []; omega), show ((i : Int) + 1 - 1).toNat = i by omega, e2]; refine put_backN N d (i + 1) _ l (by omega) hl (by rw [List.length_set]; exact hl0) hn (fun j hj => ?_) ?_
   ·have := hz j (by omega); simp only [List.getD] at this ⊢
    rw [List.getElem?_set_ne (by omega)]; exact this
   ·rw [List.take_succ_eq_append_getElem (by rw [List.length_set]; exact hi0), List.take_succ_eq_append_getElem hi, List.take_set_of_le (Nat.le_refl _), ht, List.getElem_set_self]
    congr 2
    omega
theorem f8_back {d : List Int} (hb : InB d) (h : (toFl d).2 = 0) : f8 (toFl d).1 = d ∧ Fl.plain (toFl d).1 = (toFl d).1 ∧ (toFl d).1 < 18446744073709551616 := by
 unfold toFl at h ⊢
 split at h
 ·rename_i g
  rw [if_pos g]; dsimp only; have hr := beNum_range hb 8 (by omega); rw [show d.take 8 = d from List.take_of_length_le (by omega), show (256 : Int) ^ 8 = 18446744073709551616 from by decide] at hr; refine ⟨?_, g.2, by omega⟩
  obtain ⟨g1, -⟩ := g
  match d, hb, g1 with
  | [a, b, c, e, f, g, i, j], hb, _ =>
   have ha := hb a (by simp); have hb' := hb b (by simp); have hc := hb c (by simp); have he := hb e (by simp); have hf := hb f (by simp); have hg := hb g (by simp); have hi := hb i (by simp); have hj := hb j (by simp); have hn : beNum [a, b, c, e, f, g, i, j] = 256 * (256 * (256 * (256 * (256 * (256 * (256 * (256 * 0 + a) + b) + c) + e) + f) + g) + i) + j := rfl; rw [hn]; unfold f8 fb; simp only [List.cons.injEq, and_true]
   refine ⟨?_, ?_, ?_, ?_, ?_, ?_, ?_, ?_⟩ <;> simp only [Nat.reducePow] <;> omega
 ·cases h
theorem rightX_plain {c : CX} (h : rightX c = true) : Fl.plain c.x = c.x ∧ c.x < 18446744073709551616 := by
 have ht : tmX c.x = true := by
  unfold rightX at h; simp only [Bool.and_eq_true] at h
  exact h.2.2.2
 have hl := tmX_le ht; unfold tmX at ht; rw [Bool.and_eq_true] at ht; exact ⟨of_decide_eq_true ht.2, by omega⟩
structure FX where
 k : Int
 n : Int
 s : Int
 r : Int
 e : Int
 p : Int
 q : Int
 o : Int
 d : Int
 a : Int
 t : Int
 h : Int
 c : Int
 x : Nat
deriving DecidableEq
def FX.nums (f : FX) : List Int := [f.k, f.n, f.s, f.r, f.e, f.p, f.q, f.o, f.d, f.a, f.t, f.h, f.c]
def FX.cells (f : FX) : Array Value := #[.int .i64 f.k, .int .i64 f.n, .int .i64 f.s, .int .i64 f.r, .int .i64 f.e, .int .i64 f.p, .int .i64 f.q, .int .i64 f.o, .int .i64 f.d, .int .i64 f.a, .int .i64 f.t, .int .i64 f.h, .int .i64 f.c, .float .f64 f.x]
def FX.wf (f : FX) : Prop := f.x < 18446744073709551616
def noF : FX := ⟨0, 0, 0, 0, 0, 0, 0, 0, 0, 0, 0, 0, 0, 0⟩
theorem noF_wf : noF.wf := by unfold FX.wf noF; decide
def ofF (l : List Int) (x : Nat) : FX := ⟨l.getD 0 0, l.getD 1 0, l.getD 2 0, l.getD 3 0, l.getD 4 0, l.getD 5 0, l.getD 6 0, l.getD 7 0, l.getD 8 0, l.getD 9 0, l.getD 10 0, l.getD 11 0, l.getD 12 0, x⟩
theorem ofF_nums (f : FX) : ofF f.nums f.x = f := rfl
theorem nums_ofF {l : List Int} (x : Nat) (h : l.length = 13) : (ofF l x).nums = l := by
 match l, h with
 | [k, n, s, r, e, p, q, o, d, a, t, hh, c], _ => rfl
theorem thirteen {l : List Int} (h : l.length = 13) : ∃ k n s r e p q o d a t hh c, l = [k, n, s, r, e, p, q, o, d, a, t, hh, c] := by
 match l, h with
 | [k, n, s, r, e, p, q, o, d, a, t, hh, c], _ => exact ⟨k, n, s, r, e, p, q, o, d, a, t, hh, c, rfl⟩
def seatX (t h : Int) : Bool := if t = 14 then decide (h = 1 ∨ 4 ≤ h ∧ h ≤ 8) else decide (1 ≤ t ∧ t ≤ 13 ∧ h = 0)
def ctxF (f : FX) : CX := ⟨f.n, f.s, f.o, f.d, f.x⟩
def namedF (k : Int) : List Int :=
 if k = 1 then [1, 2, 7, 8, 9] else if k = 2 then [1, 2, 3, 4, 5, 6] else if k = 3 then [1, 2, 3, 10, 11] else if k = 4 then [1, 2, 12] else
 if k = 5 then [1, 2] else if k = 6 then [1, 2, 5, 6] else if k = 7 then [3, 5] else if k = 8 then [5, 10, 11] else []
def okF (f : FX) : Bool :=
 if f.k = 1 then rightX (ctxF f) && decide (0 ≤ f.a ∧ f.a ≤ 8)
 else if f.k = 2 then rightA f.n f.s && decide (0 ≤ f.r ∧ f.r ≤ 5 ∧ 0 ≤ f.e ∧ f.e ≤ 3 ∧ 0 ≤ f.p ∧ f.p ≤ 7 ∧ (f.q = 1 ∨ f.q = 2))
 else if f.k = 3 then rightA f.n f.s && (decide (0 ≤ f.r ∧ f.r ≤ 5) && seatX f.t f.h)
 else if f.k = 4 then rightA f.n f.s && decide (f.c = 1 ∨ f.c = 2)
 else if f.k = 5 then rightA f.n f.s
 else if f.k = 6 then rightA f.n f.s && decide (0 ≤ f.p ∧ f.p ≤ 7 ∧ (f.q = 1 ∨ f.q = 2))
 else if f.k = 7 then decide (0 ≤ f.p ∧ f.p ≤ 7 ∧ 0 ≤ f.r ∧ f.r ≤ 5)
 else if f.k = 8 then decide (0 ≤ f.p ∧ f.p ≤ 7) && seatX f.t f.h
 else false
def restF (nm : List Int) : Int → List Int → Bool
 | _, [] => true
 | i, n :: l => decide (i = 0 ∨ n = 0 ∨ i ∈ nm) && restF nm (i + 1) l
def rightF (f : FX) : Bool := restF (namedF f.k) 0 f.nums && (okF f && decide (f.k = 1 ∨ f.x = 0))
def sameF (a b : FX) : Bool := decide (a.nums = b.nums) && decide (Fl.plain a.x = Fl.plain b.x)
inductive RuM where
 | rg (tag : Nat) (lo hi : Int)
 | act
 | ctx
 | seat
def RuM.ok : RuM → List Int → Nat → Bool
 | .rg tag lo hi, l, _ => decide (lo ≤ l.getD (tag - 1) 0 ∧ l.getD (tag - 1) 0 ≤ hi)
 | .act, l, _ => rightA (l.getD 1 0) (l.getD 2 0)
 | .ctx, l, x => rightX ⟨l.getD 1 0, l.getD 2 0, l.getD 7 0, l.getD 8 0, x⟩
 | .seat, l, _ => seatX (l.getD 10 0) (l.getD 11 0)
def RuM.tkL : RuM → List Int → List Int
 | .rg tag _ _, l => l.set (tag - 1) 0
 | .act, l => (l.set 1 0).set 2 0
 | .ctx, l => (((l.set 1 0).set 2 0).set 7 0).set 8 0
 | .seat, l => (l.set 10 0).set 11 0
def RuM.tkX : RuM → Nat → Nat
 | .ctx, _ => 0
 | _, x => x
theorem RuM.tkL_len (r : RuM) (l : List Int) : (r.tkL l).length = l.length := by cases r <;> simp [RuM.tkL]
theorem RuM.tkX_wf (r : RuM) {x : Nat} (h : x < 18446744073709551616) : r.tkX x < 18446744073709551616 := by
 cases r
 all_goals first | exact h | (show 0 < 18446744073709551616; decide)
def runR : List RuM → List Int → Nat → Option (List Int × Nat)
 | [], l, x => some (l, x)
 | r :: rs, l, x => if r.ok l x = true then runR rs (r.tkL l) (r.tkX x) else none
def rulesM (k : Int) : List RuM :=
 if k = 1 then [.ctx, .rg 10 0 8] else if k = 2 then [.act, .rg 4 0 5, .rg 5 0 3, .rg 6 0 7, .rg 7 1 2] else if k = 3 then [.act, .rg 4 0 5, .seat] else if k = 4 then [.act, .rg 13 1 2] else
 if k = 5 then [.act] else if k = 6 then [.rg 6 0 7, .act, .rg 7 1 2] else if k = 7 then [.rg 6 0 7, .rg 4 0 5] else if k = 8 then [.rg 6 0 7, .seat] else []
def leftF (k : Int) (o : Option (List Int × Nat)) : Bool :=
 match o with
 | none => false
 | some (l, x) => decide (l = [k, 0, 0, 0, 0, 0, 0, 0, 0, 0, 0, 0, 0]) && decide (x = 0)
theorem rest_cons (nm : List Int) (i n : Int) (l : List Int) : restF nm i (n :: l) = (decide (i = 0 ∨ n = 0 ∨ i ∈ nm) && restF nm (i + 1) l) := rfl
theorem right_rules {f : FX} (h : 1 ≤ f.k ∧ f.k ≤ 8) : rightF f = leftF f.k (runR (rulesM f.k) f.nums f.x) := by
 obtain ⟨k, n, s, r, e, p, q, o, d, a, t, hh, c, x⟩ := f; dsimp only at h ⊢; have hk : k = 1 ∨ k = 2 ∨ k = 3 ∨ k = 4 ∨ k = 5 ∨ k = 6 ∨ k = 7 ∨ k = 8 := by omega
 rcases hk with rfl | rfl | rfl | rfl | rfl | rfl | rfl | rfl
 ·cases hc : rightX ⟨n, s, o, d, x⟩ <;> by_cases ha : 0 ≤ a ∧ a ≤ 8 <;> simp [rightF, okF, ctxF, namedF, restF, FX.nums, rulesM, runR, RuM.ok, RuM.tkL, RuM.tkX, leftF, hc, ha]
 ·by_cases h1 : 0 ≤ r ∧ r ≤ 5 <;> by_cases h2 : 0 ≤ e ∧ e ≤ 3 <;> by_cases h3 : 0 ≤ p ∧ p ≤ 7 <;> by_cases h4 : q = 1 ∨ q = 2
  all_goals have h5 : (1 ≤ q ∧ q ≤ 2) = (q = 1 ∨ q = 2) := propext (by omega)
  all_goals cases hc : rightA n s <;> simp [rightF, okF, namedF, restF, FX.nums, rulesM, runR, RuM.ok, RuM.tkL, RuM.tkX, leftF, hc, h1, h2, h3, h4, h5, and_comm]
 ·by_cases h1 : 0 ≤ r ∧ r ≤ 5 <;> cases h2 : seatX t hh <;> cases hc : rightA n s <;> simp [rightF, okF, namedF, restF, FX.nums, rulesM, runR, RuM.ok, RuM.tkL, RuM.tkX, leftF, hc, h1, h2]
 ·by_cases h4 : c = 1 ∨ c = 2
  all_goals have h5 : (1 ≤ c ∧ c ≤ 2) = (c = 1 ∨ c = 2) := propext (by omega)
  all_goals cases hc : rightA n s <;> simp [rightF, okF, namedF, restF, FX.nums, rulesM, runR, RuM.ok, RuM.tkL, RuM.tkX, leftF, hc, h4, h5]
 ·cases hc : rightA n s <;> simp [rightF, okF, namedF, restF, FX.nums, rulesM, runR, RuM.ok, RuM.tkL, RuM.tkX, leftF, hc]
 ·by_cases h3 : 0 ≤ p ∧ p ≤ 7 <;> by_cases h4 : q = 1 ∨ q = 2
  all_goals have h5 : (1 ≤ q ∧ q ≤ 2) = (q = 1 ∨ q = 2) := propext (by omega)
  all_goals cases hc : rightA n s <;> simp [rightF, okF, namedF, restF, FX.nums, rulesM, runR, RuM.ok, RuM.tkL, RuM.tkX, leftF, hc, h3, h4, h5]
 ·by_cases h3 : 0 ≤ p ∧ p ≤ 7 <;> by_cases h1 : 0 ≤ r ∧ r ≤ 5
  all_goals simp [rightF, okF, namedF, restF, FX.nums, rulesM, runR, RuM.ok, RuM.tkL, RuM.tkX, leftF, h1, h3]
 ·by_cases h3 : 0 ≤ p ∧ p ≤ 7 <;> cases h2 : seatX t hh <;> simp [rightF, okF, namedF, restF, FX.nums, rulesM, runR, RuM.ok, RuM.tkL, RuM.tkX, leftF, h2, h3]
theorem right_far {f : FX} (h : ¬ (1 ≤ f.k ∧ f.k ≤ 8)) : rightF f = false := by
 unfold rightF okF; rw [if_neg (by omega), if_neg (by omega), if_neg (by omega), if_neg (by omega), if_neg (by omega), if_neg (by omega), if_neg (by omega), if_neg (by omega)]
 simp
def putG : List Int → Option Nat → List (Int × List Int) → Option (List Int × Option Nat)
 | l, o, [] => some (l, o)
 | l, o, x :: fs =>
  if x.1 = 14 then (if (toFl x.2).2 = 0 then putG l (some (toFl x.2).1) fs else none)
  else if 14 < x.1 ∨ x.2.length = 0 ∨ (toNum x.2).2 ≠ 0 then none else putG (l.set (x.1 - 1).toNat (toNum x.2).1) o fs
def finG : Option (List Int × Option Nat) → Int × FX
 | some (l, o) => if (o.isSome = decide ((ofF l (o.getD 0)).k = 1)) ∧ rightF (ofF l (o.getD 0)) = true then (0, ofF l (o.getD 0)) else (4, noF)
 | none => (4, noF)
def decG (bs : List Int) : Int × FX :=
 if (splitQ 17 bs 0 0).1 ≠ 0 then ((splitQ 17 bs 0 0).1, noF) else finG (putG (List.replicate 13 0) none (splitQ 17 bs 0 0).2)
def tailF (f : FX) : List (Int × List Int) := if f.k = 1 then [(14, f8 (Fl.plain f.x))] else []
def rowG (f : FX) : List (Int × List Int) := rowF 1 f.nums ++ tailF f
def encF (f : FX) : List Int := joinB (rowG f)
theorem putG_init : ∀ (a : List (Int × List Int)) (l : List Int) (o : Option Nat) (b : List (Int × List Int)), (∀ x ∈ a, x.1 < 14) →
  putG l o (a ++ b) = match putN 13 l a with | none => none | some l' => putG l' o b
 | [], l, o, b, _ => rfl
 | x :: a, l, o, b, h => by
  have hx := h x (by simp); rw [List.cons_append, putG, putN, if_neg (by omega)]
  by_cases q : x.2.length = 0 ∨ (toNum x.2).2 ≠ 0
  ·rw [if_pos (.inr q), if_pos (.inr q)]
  ·rw [if_neg (by rintro (g | g); omega; exact q g), if_neg (by rintro (g | g); omega; exact q g)]; exact putG_init a _ o b (fun y hy => h y (by simp [hy]))
theorem nums_len (f : FX) : f.nums.length = 13 := rfl
theorem run_push : ∀ (a : List (Int × List Int)) (y : Int × List Int) (k : Nat) (last : Int), runQ k last a = true → k + a.length < 16 → last < y.1 → (∀ x ∈ a, x.1 < y.1) → y.1 ≤ 255 → y.2.length ≤ 200 → runQ k last (a ++ [y]) = true := by
 intro a
 induction a with
 | nil => intro y k last _ hk hl _ h5 h6; rw [List.nil_append, runQ, Bool.and_eq_true]; exact ⟨dT ⟨by simpa using hk, hl, h5, h6⟩, rfl⟩
 | cons f a ih =>
  intro y k last h hk hl hx h5 h6; rw [runQ, Bool.and_eq_true] at h; rw [List.cons_append, runQ, Bool.and_eq_true]; exact ⟨h.1, ih y (k + 1) f.1 h.2 (by rw [List.length_cons] at hk; omega) (hx f (by simp)) (fun x q => hx x (by simp [q])) h5 h6⟩
theorem rowG_run (f : FX) : runQ 0 0 (rowG f) = true := by
 unfold rowG tailF; have hl := nums_len f; have h0 := runQ_rowF f.nums 1 0 0 (by decide) (by rw [hl]; decide) (by rw [hl]; decide)
 split
 ·refine run_push _ _ 0 0 h0 ?_ (show (0 : Int) < 14 by decide) ?_ (show (14 : Int) ≤ 255 by decide) (by show 8 ≤ 200; decide)
  ·have := rowF_len f.nums 1; omega
  ·intro x hx; have := rowF_mem f.nums 1 x hx; rw [hl] at this; dsimp only; omega
 ·rw [List.append_nil]; exact h0
theorem tailF_in (f : FX) : ∀ g ∈ tailF f, g = (14, f8 (Fl.plain f.x)) := by
 intro g hg; unfold tailF at hg
 split at hg
 ·simpa using hg
 ·cases hg
theorem rowG_in (f : FX) : ∀ g ∈ rowG f, InB g.2 := by
 intro g hg
 rcases List.mem_append.1 hg with h | h
 ·exact rowF_in _ _ g h
 ·rw [tailF_in f g h]; exact f8_in _
theorem rowG_small (f : FX) : Small (rowG f) := by
 intro g hg; have hl := nums_len f
 rcases List.mem_append.1 hg with h | h
 ·have := rowF_mem f.nums 1 g h; rw [hl] at this; exact ⟨by omega, by omega, by omega⟩
 ·rw [tailF_in f g h]; exact ⟨show (0 : Int) ≤ 14 by decide, show (14 : Int) ≤ 255 by decide, by show 8 ≤ 200; decide⟩
theorem rowG_len (f : FX) : (rowG f).length ≤ 14 := by
 have := rowF_len f.nums 1; have hl := nums_len f; unfold rowG tailF; rw [List.length_append]
 split
 ·rw [List.length_singleton]; omega
 ·rw [List.length_nil]; omega
theorem encF_len (f : FX) : (encF f).length ≤ 154 := by
 have : ∀ (ns : List Int) (i : Int), (joinB (rowF i ns)).length ≤ 11 * ns.length := by
  intro ns
  induction ns with
  | nil => intro i; simp [rowF, joinB]
  | cons n ns ih =>
   intro i; have := ih (i + 1); simp only [rowF]
   split
   ·rw [List.length_cons]; omega
   ·have hb := beF_len 8 n.toNat; rw [joinB_cons]; simp only [List.length_cons, List.length_append]
    omega
 have h := this f.nums 1; have hl := nums_len f; have e : (encF f).length = (joinB (rowF 1 f.nums)).length + (joinB (tailF f)).length := by
  unfold encF rowG joinB; rw [List.flatMap_append, List.length_append]
 have h2 : (joinB (tailF f)).length ≤ 11 := by
  unfold tailF
  split
  ·exact Nat.le_of_eq rfl
  ·exact Nat.zero_le _
 omega
theorem encF_in (f : FX) : InB (encF f) := joinB_in (rowG_small f) (rowG_in f)
theorem rest_in : ∀ (l : List Int) (nm : List Int) (i : Int), restF nm i l = true → ∀ (j : Nat) (hj : j < l.length), i + j = 0 ∨ l[j] = 0 ∨ (i + j) ∈ nm
 | [], _, _, _, j, hj => by simp at hj
 | n :: l, nm, i, h, j, hj => by
  rw [rest_cons, Bool.and_eq_true] at h
  match j, hj with
  | 0, _ => simpa using of_decide_eq_true h.1
  | j + 1, hj =>
   have := rest_in l nm (i + 1) h.2 j (by simpa using hj); rw [show i + ((j + 1 : Nat) : Int) = i + 1 + (j : Int) by omega]
   simpa using this
theorem okF_kind {f : FX} (h : rightF f = true) : 1 ≤ f.k ∧ f.k ≤ 8 := by
 refine Classical.byContradiction fun g => ?_
 rw [right_far g] at h
 cases h
theorem seat_in {t h : Int} (g : seatX t h = true) : 0 ≤ t ∧ t ≤ 14 ∧ 0 ≤ h ∧ h ≤ 8 := by
 unfold seatX at g
 split at g
 ·have := of_decide_eq_true g; omega
 ·have := of_decide_eq_true g; omega
theorem rightA_in {n s : Int} (h : rightA n s = true) : 0 ≤ n ∧ n ≤ 3 ∧ 0 ≤ s ∧ s ≤ 999999 := by
 have := of_decide_eq_true h; omega
theorem rightF_okn {f : FX} (h : rightF f = true) : ∀ x ∈ f.nums, 0 ≤ x ∧ x ≤ 999999 := by
 have hk := okF_kind h; unfold rightF at h; rw [Bool.and_eq_true, Bool.and_eq_true] at h; obtain ⟨h1, h2, -⟩ := h; have hr := rest_in _ _ _ h1; obtain ⟨k, n, s, r, e, p, q, o, d, a, t, hh, c, x⟩ := f; dsimp only at hk h2; have g : ∀ (j : Nat) (hj : j < 13), (0 : Int) + j = 0 ∨ (FX.nums ⟨k, n, s, r, e, p, q, o, d, a, t, hh, c, x⟩)[j]'hj = 0 ∨ ((0 : Int) + j) ∈ namedF k := fun j hj => hr j hj
 have g1 := g 1 (by decide); have g2 := g 2 (by decide); have g3 := g 3 (by decide); have g4 := g 4 (by decide); have g5 := g 5 (by decide); have g6 := g 6 (by decide); have g7 := g 7 (by decide); have g8 := g 8 (by decide); have g9 := g 9 (by decide); have g10 := g 10 (by decide); have g11 := g 11 (by decide); have g12 := g 12 (by decide); clear g hr h1; have hk2 : k = 1 ∨ k = 2 ∨ k = 3 ∨ k = 4 ∨ k = 5 ∨ k = 6 ∨ k = 7 ∨ k = 8 := by omega
 clear hk; have A := @rightA_in n s; have S := @seat_in t hh; have X : rightX ⟨n, s, o, d, x⟩ = true → (0 ≤ n ∧ n ≤ 3 ∧ 0 ≤ s ∧ s ≤ 999999) ∧ 0 ≤ o ∧ o ≤ 2 ∧ 0 ≤ d ∧ d ≤ 3 := fun q => by
  unfold rightX outX at q; simp only [Bool.and_eq_true, decide_eq_true_eq] at q
  exact ⟨rightA_in q.1, by omega⟩
 intro y hy; simp only [FX.nums, List.mem_cons, List.not_mem_nil, or_false] at hy
 rcases hk2 with rfl | rfl | rfl | rfl | rfl | rfl | rfl | rfl <;> simp [namedF, FX.nums] at g1 g2 g3 g4 g5 g6 g7 g8 g9 g10 g11 g12 <;> simp only [okF, ctxF, Bool.and_eq_true, decide_eq_true_eq, if_pos, reduceIte, Int.reduceEq] at h2
 ·have := X h2.1; rcases hy with rfl | rfl | rfl | rfl | rfl | rfl | rfl | rfl | rfl | rfl | rfl | rfl | rfl <;> omega
 ·have := A h2.1; rcases hy with rfl | rfl | rfl | rfl | rfl | rfl | rfl | rfl | rfl | rfl | rfl | rfl | rfl <;> omega
 ·have := A h2.1; have := S h2.2.2; rcases hy with rfl | rfl | rfl | rfl | rfl | rfl | rfl | rfl | rfl | rfl | rfl | rfl | rfl <;> omega
 ·have := A h2.1; rcases hy with rfl | rfl | rfl | rfl | rfl | rfl | rfl | rfl | rfl | rfl | rfl | rfl | rfl <;> omega
 ·have := A h2; rcases hy with rfl | rfl | rfl | rfl | rfl | rfl | rfl | rfl | rfl | rfl | rfl | rfl | rfl <;> omega
 ·have := A h2.1; rcases hy with rfl | rfl | rfl | rfl | rfl | rfl | rfl | rfl | rfl | rfl | rfl | rfl | rfl <;> omega
 ·rcases hy with rfl | rfl | rfl | rfl | rfl | rfl | rfl | rfl | rfl | rfl | rfl | rfl | rfl <;> omega
 ·have := S h2.2; rcases hy with rfl | rfl | rfl | rfl | rfl | rfl | rfl | rfl | rfl | rfl | rfl | rfl | rfl <;> omega
theorem rightF_plain {f : FX} (h : rightF f = true) : Fl.plain f.x = f.x ∧ f.x < 18446744073709551616 := by
 unfold rightF at h; rw [Bool.and_eq_true, Bool.and_eq_true] at h; obtain ⟨-, h2, h3⟩ := h
 rcases of_decide_eq_true h3 with g | g
 ·unfold okF at h2; rw [if_pos g, Bool.and_eq_true] at h2; exact rightX_plain h2.1
 ·rw [g]; exact ⟨by decide, by decide⟩
theorem rightF_zero {f : FX} (h : rightF f = true) (hk : f.k ≠ 1) : f.x = 0 := by
 unfold rightF at h; rw [Bool.and_eq_true, Bool.and_eq_true] at h; exact (of_decide_eq_true h.2.2).resolve_left hk
theorem dec_encF {f : FX} (h : rightF f = true) : decG (encF f) = (0, f) := by
 have hs := split_join (rowG f) 0 16 0 (rowG_run f) (fun _ _ => Int.le_refl _) (by have := rowG_len f; omega) (rowG_in f); obtain ⟨p1, p2⟩ := rightF_plain h; unfold decG encF; rw [hs, if_neg (fun q => q rfl)]; dsimp only; unfold rowG; have hl := nums_len f; rw [putG_init _ _ _ _ (fun x hx => by
  have := rowF_mem f.nums 1 x hx; rw [hl] at this; omega)]
 have hp := put_backN 13 13 0 (List.replicate 13 0) f.nums rfl rfl rfl (rightF_okn h) (fun j _ => rep_get 13 j) rfl; rw [List.drop_zero] at hp; rw [show rowF (((0 : Nat) : Int) + 1) f.nums = rowF 1 f.nums from rfl] at hp; rw [hp]; dsimp only; unfold tailF
 by_cases hk : f.k = 1
 ·rw [if_pos hk, putG, if_pos rfl, p1, toFl_f8 f.x p2 p1]; dsimp only; rw [if_pos rfl, putG, finG, Option.getD_some, ofF_nums, if_pos ⟨by rw [dT hk]; rfl, h⟩]
 ·rw [if_neg hk, putG, finG, Option.getD_none]; have e : ofF f.nums 0 = f := by rw [← rightF_zero h hk]; exact ofF_nums f
  rw [e, if_pos ⟨by rw [dF hk]; rfl, h⟩]
theorem decG_wf {bs : List Int} : (decG bs).2.wf := by
 unfold decG
 split
 ·exact noF_wf
 ·unfold finG
  split
  ·split
   ·rename_i h
    exact (rightF_plain h.2).2
   ·exact noF_wf
  ·exact noF_wf
theorem finG_bad : ∀ o : Option (List Int × Option Nat), (finG o).1 ≠ 0 → (finG o).2 = noF
 | none, _ => rfl
 | some (l, o), h => by
  by_cases q : o.isSome = decide ((ofF l (o.getD 0)).k = 1) ∧ rightF (ofF l (o.getD 0)) = true
  ·have e : finG (some (l, o)) = (0, ofF l (o.getD 0)) := if_pos q; rw [e] at h; exact absurd rfl h
  ·have e : finG (some (l, o)) = (4, noF) := if_neg q; rw [e]
theorem decG_bad {bs : List Int} (h : (decG bs).1 ≠ 0) : (decG bs).2 = noF := by
 unfold decG at h ⊢
 split
 ·rfl
 ·rename_i g
  rw [if_neg g] at h; exact finG_bad _ h
end Go.Proofs.YtpemeenfhkgmpaaGreatDoor
