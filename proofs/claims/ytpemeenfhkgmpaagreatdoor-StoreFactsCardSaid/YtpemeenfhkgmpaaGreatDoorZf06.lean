/- Parts of this proof (own work). -/
import Derived.Test.YtpemeenfhkgmpaaGreatDoorZf05
import Derived.StillTailTactics
import Derived.Lib.SlBytesConst
set_option maxRecDepth 100000
set_option maxHeartbeats 40000000
namespace Go.Proofs.YtpemeenfhkgmpaaGreatDoor
open Go.RowKit Go.ChangeShapes Go.WideShapes
theorem dig8 (n : Nat) : digB n 8 = f8 n := by
 unfold digB f8
 simp [List.range_succ]
theorem float_any (b : Nat) (hb : b < 18446744073709551616) (w : World) :
  Calls Tryz.prog 89 #[.float .f64 b] w fun e w' => ∃ v, e = .returned v ∧ w'.ownsRow w.heap.size 5 1 v 8 ((f8 (Fl.plain b)).map (Value.int .u8)) ∧ Kp w w' := by
 have hp := Fl.plain_lt hb; have HB := hD (fun w => bits_any b w hb); have HD := hD (fun w => digits_any (Fl.plain b) 8 hp (by omega) (Fl.plain b) 8 rfl rfl w); have HE := hD (dig8 (Fl.plain b)); clear hb hp; go_enter Tryz.func89, Tryz.ntmps89; go_wp2_with (first | (go_at_call 98; (with_reducible refine (HB.out _).mono ?_); rintro e w' ⟨rfl, rfl⟩) | (go_at_call 127; (with_reducible refine (HD.out _).mono ?_); rintro e w' ⟨rfl, ho, hk⟩; rw [HE.out] at ho; obtain ⟨HO, HK⟩ := hD2 ho hk; clear ho hk))
 go_ret; exact ⟨_, rfl, HO.out, HK.out⟩
theorem from_any (F : Int) (N : Nat) (hN : F.toNat = N) (h64 : N < 18446744073709551616) (w : World) :
  Calls Tryz.prog 139 #[.int .u64 F] w fun e w' => e = .returned (.float .f64 (Fl.plain N)) ∧ w = w' := by
 have e1 : ∀ w, (callFunc 99 #[.int .u64 F]).run Tryz.prog w = .ok (.value (.float .f64 N)) w := by
  intro w; rw [← hN]; exact ext_fromI F w
 have HP := hD (fun w => plain_any N w h64); clear h64 hN; go_enter Tryz.func139, Tryz.ntmps139; go_wp2_with (go_at_call 141; (with_reducible refine (HP.out _).mono ?_); rintro e w' ⟨rfl, rfl⟩)
 go_ret; exact ⟨rfl, rfl⟩
theorem plain_nan : Fl.isNan 9221120237041090561 = true := by decide +kernel
theorem plain_zero : Fl.isNan 0 = false := by decide +kernel
theorem plain_idem (b : Nat) : Fl.plain (Fl.plain b) = Fl.plain b := by
 unfold Fl.plain
 by_cases h : Fl.isNan b = true
 ·rw [if_pos h, if_pos plain_nan]
 ·rw [if_neg h]
  by_cases h2 : b = 9223372036854775808
  ·rw [if_pos h2, if_neg (by rw [plain_zero]; decide), if_neg (by decide)]
  ·rw [if_neg h2, if_neg h, if_neg h2]
theorem toFloat1_len (ads : List Addr) (h3' : 3 < ads.length) (p : Addr) (a : Option Addr) (cap len : Nat) (h8 : len ≠ 8) (w : World) (V : St ads w) (hp : w.cell? p = some (.slice a len cap)) :
  Calls Tryz.prog 138 #[.pointer (some p)] w fun e w' => e = .panicked [{ v := snt (ads[3]'h3'), recovered := false }] ∧ Kp w w' := by
 have c3 : w.cell? ⟨3, 0, none⟩ = some (snt (ads[3]'h3')) := V.cell 3 (by decide); obtain ⟨e3, he3⟩ : ∃ a, ads[3]'h3' = a := ⟨_, rfl⟩
 rw [he3] at c3 ⊢; obtain ⟨ll, hll⟩ : ∃ ll : Int, (len : Int) = ll := ⟨_, rfl⟩
 have hd : (ll == 8) = false := by simp; omega
 clear V he3 h8; go_enter Tryz.func138, Tryz.ntmps138; go_wp2_with (go_at_call 126; (with_reducible refine (demand_f _ _).mono ?_); rintro e w' ⟨rfl, rfl⟩)
 exact ⟨rfl, rfl, Kp.refl _⟩
theorem calls_flip {P : Program} {f : FuncId} {args : Array Value} {w : World} {v : Value} (h : Calls P f args w fun e w' => e = .returned v ∧ w = w') : Calls P f args w fun e w' => e = .returned v ∧ w' = w :=
 h.mono fun _ _ h => ⟨h.1, h.2.symm⟩
theorem toFloat1_any (ads : List Addr) (h3' : 3 < ads.length) (p : Addr) (a : Option Addr) (cap : Nat) (bs : List Int) (hlen : bs.length = 8) (hb : InB bs) (w : World) (V : St ads w) (hp : w.cell? p = some (.slice a 8 cap)) (hs : SlB (.slice a 8 cap) bs w) :
  Calls Tryz.prog 138 #[.pointer (some p)] w fun e w' => ((Fl.plain (beNum bs).toNat = (beNum bs).toNat ∧ e = .returned (.float .f64 (beNum bs).toNat)) ∨ (Fl.plain (beNum bs).toNat ≠ (beNum bs).toNat ∧ e = .panicked [{ v := snt (ads[3]'h3'), recovered := false }])) ∧ Kp w w' := by
 have c3 : w.cell? ⟨3, 0, none⟩ = some (snt (ads[3]'h3')) := V.cell 3 (by decide); obtain ⟨e3, he3⟩ : ∃ a, ads[3]'h3' = a := ⟨_, rfl⟩
 rw [he3] at c3 ⊢; have hr := beNum_range hb 8 (by omega); rw [show bs.take 8 = bs from List.take_of_length_le (by omega), show (256 : Int) ^ 8 = 18446744073709551616 from by decide] at hr; have hv := fun w1 (hk : Kp w w1) => value_any a cap bs 8 hlen (by omega) hb w1 (hs.kp hk)
 obtain ⟨F, hF⟩ : ∃ F, beNum bs = F := ⟨_, rfl⟩
 simp only [hF] at hv hr ⊢
 obtain ⟨N, hN⟩ : ∃ N, F.toNat = N := ⟨_, rfl⟩
 rw [hN]; have h64 : N < 18446744073709551616 := by omega
 have HV := hD hv; have HF := hD (fun w => from_any F N hN h64 w); have hpl := Fl.plain_lt h64; have hbt : ∀ w, Calls Tryz.prog 98 #[.float .f64 (Fl.plain N)] w fun e w' => e = .returned (.int .u64 (Fl.plain N)) ∧ w = w' := by
  intro w; have := bits_any (Fl.plain N) w hpl; rw [plain_idem] at this; exact this
 obtain ⟨PP, hPP⟩ : ∃ PP : Int, ((Fl.plain N : Nat) : Int) = PP := ⟨_, rfl⟩
 simp only [hPP] at hbt
 have HB := hD hbt; have KD := hD (Kp.refl w).drew; have hp' : w.drew.cell? p = some (.slice a 8 cap) := hp; have hc' : w.drew.cell? ⟨3, 0, none⟩ = some (snt e3) := c3
 by_cases hq : Fl.plain N = N
 ·have hbq : (PP == F) = true := by simp; omega
  have HQ := hD hq; clear V he3 hr hv hF hN hpl hbt hPP hs hb hlen hq h64; go_enter Tryz.func138, Tryz.ntmps138; go_wp2_with (first | (go_at_call 126; (with_reducible refine (demand_t _ _).mono ?_); rintro e w' ⟨rfl, rfl⟩) | (go_at_call 135; (with_reducible refine (HV.out _ (Kp.refl _)).mono ?_); rintro e w' ⟨rfl, rfl⟩) | (go_at_call 139; (with_reducible refine (HF.out _).mono ?_); rintro e w' ⟨rfl, rfl⟩))
  refine wp_region_still_tail 6 (by kernel_rfl) (by kernel_rfl) ?_
  simp only [List.take_succ_cons, List.take_zero, List.drop_succ_cons, List.drop_zero]
  still_step
  still_call (calls_flip (HB.out _))
  still_step
  still_call (calls_flip (HV.out _ KD.out))
  still_step
  still_step
  refine wpStill_nil ?_
  change wpList _ _ _ _ _ w.drew
  go_wp2_with (go_at_call 126; (with_reducible refine (demand_t _ _).mono ?_); rintro e w' ⟨rfl, rfl⟩)
  go_ret; exact ⟨.inl ⟨HQ.out, by rw [HQ.out]; rfl⟩, KD.out⟩
 ·have hbq : (PP == F) = false := by simp; omega
  have HQ := hD hq; clear V he3 hr hv hF hN hpl hbt hPP hs hb hlen hq h64; go_enter Tryz.func138, Tryz.ntmps138; go_wp2_with (first | (go_at_call 126; (with_reducible refine (demand_t _ _).mono ?_); rintro e w' ⟨rfl, rfl⟩) | (go_at_call 135; (with_reducible refine (HV.out _ (Kp.refl _)).mono ?_); rintro e w' ⟨rfl, rfl⟩) | (go_at_call 139; (with_reducible refine (HF.out _).mono ?_); rintro e w' ⟨rfl, rfl⟩))
  refine wp_region_still_tail 6 (by kernel_rfl) (by kernel_rfl) ?_
  simp only [List.take_succ_cons, List.take_zero, List.drop_succ_cons, List.drop_zero]
  still_step
  still_call (calls_flip (HB.out _))
  still_step
  still_call (calls_flip (HV.out _ KD.out))
  still_step
  still_step
  refine wpStill_nil ?_
  change wpList _ _ _ _ _ w.drew
  go_wp2_with (go_at_call 126; (with_reducible refine (demand_f _ _).mono ?_); rintro e w' ⟨rfl, rfl⟩)
  exact ⟨rfl, .inr ⟨HQ.out, rfl⟩, KD.out⟩
theorem toFloat_err (ads : List Addr) (k : Nat) (hk : k < ads.length) (a : Option Addr) (cap len : Nat) (w : World) (V : St ads w)
  (H : ∀ w1, Kp w w1 → w1.cell? ⟨w.heap.size, 0, none⟩ = some (.slice a len cap) → Calls Tryz.prog 138 #[.pointer (some ⟨w.heap.size, 0, none⟩)] w1 fun e w' => e = .panicked [{ v := snt (ads[k]'hk), recovered := false }] ∧ Kp w1 w') :
  Calls Tryz.prog 96 #[.slice a len cap] w fun e w' => e = .returned (.tuple #[.float .f64 0, snt (ads[k]'hk)]) ∧ Kp w w' := by
 have hmf : ∀ (fn : Fn) (first cap : Array Value) (w : World), (Instr.makeFunc fn first cap).run Tryz.prog w = .ok (.func fn first cap) w := fun _ _ _ _ => rfl
 have kb := kA w (.cells #[.slice a len cap] 55); have hc := box_cell w (.slice a len cap) 55; have HT := hD (try_f64_err ads k hk 138 #[.pointer (some ⟨w.heap.size, 0, none⟩)] (w.alloc (.cells #[.slice a len cap] 55)) (V.below kb) (by intro w; simp [go_sem]) fun w1 h1 => H w1 (kT kb h1) (kZ h1 hc)); have KB := hD kb; clear kb hc V H; go_enter Tryz.func96, Tryz.ntmps96; go_wp2_with (go_at_call 137; (with_reducible refine HT.out.mono ?_); rintro e w' ⟨rfl, hk⟩; have HK := hD hk; clear hk)
 go_ret2
 exact ⟨rfl, kT KB.out HK.out⟩
theorem toFloat_val (x : Nat) (a : Option Addr) (cap len : Nat) (w : World)
  (H : ∀ w1, Kp w w1 → w1.cell? ⟨w.heap.size, 0, none⟩ = some (.slice a len cap) → Calls Tryz.prog 138 #[.pointer (some ⟨w.heap.size, 0, none⟩)] w1 fun e w' => e = .returned (.float .f64 x) ∧ Kp w1 w') :
  Calls Tryz.prog 96 #[.slice a len cap] w fun e w' => e = .returned (.tuple #[x, .nilIface]) ∧ Kp w w' := by
 have hmf : ∀ (fn : Fn) (first cap : Array Value) (w : World), (Instr.makeFunc fn first cap).run Tryz.prog w = .ok (.func fn first cap) w := fun _ _ _ _ => rfl
 have kb := kA w (.cells #[.slice a len cap] 55); have hc := box_cell w (.slice a len cap) 55; have HT := hD (try_f64_val 138 #[.pointer (some ⟨w.heap.size, 0, none⟩)] x (w.alloc (.cells #[.slice a len cap] 55)) (by intro w; simp [go_sem]) fun w1 h1 => H w1 (kT kb h1) (kZ h1 hc)); have KB := hD kb; clear kb hc H; go_enter Tryz.func96, Tryz.ntmps96; go_wp2_with (go_at_call 137; (with_reducible refine HT.out.mono ?_); rintro e w' ⟨rfl, hk⟩; have HK := hD hk; clear hk)
 go_ret2
 exact ⟨rfl, kT KB.out HK.out⟩
theorem toFloat_any (ads : List Addr) (h3 : 3 < ads.length) (a : Option Addr) (cap : Nat) (bs : List Int) (len : Nat) (hlen : bs.length = len) (hb : InB bs) (w : World) (V : St ads w) (hs : SlB (.slice a len cap) bs w) :
  Calls Tryz.prog 96 #[.slice a len cap] w fun e w' => ((toFl bs).2 = 0 ∧ e = .returned (.tuple #[.float .f64 (toFl bs).1, .nilIface]) ∨ (toFl bs).2 = 4 ∧ (toFl bs).1 = 0 ∧ e = .returned (.tuple #[.float .f64 0, snt (ads[3]'h3)])) ∧ Kp w w' := by
 by_cases h8 : len = 8
 ·subst h8; have H := fun w1 (hk : Kp w w1) (hc : w1.cell? ⟨w.heap.size, 0, none⟩ = some (.slice a 8 cap)) => toFloat1_any ads h3 _ a cap bs hlen hb w1 (V.below hk) hc (hs.kp hk)
  by_cases hq : Fl.plain (beNum bs).toNat = (beNum bs).toNat
  ·have e : toFl bs = ((beNum bs).toNat, 0) := by unfold toFl; rw [if_pos ⟨hlen, hq⟩]
   rw [e]; refine (toFloat_val (beNum bs).toNat a cap 8 w fun w1 hk hc => (H w1 hk hc).mono ?_).mono ?_
   ·rintro e w2 ⟨⟨_, rfl⟩ | ⟨h, _⟩, hk2⟩
    ·exact ⟨rfl, hk2⟩
    ·exact absurd hq h
   ·rintro e w2 ⟨rfl, hk2⟩; exact ⟨.inl ⟨rfl, rfl⟩, hk2⟩
  ·have e : toFl bs = (0, 4) := by unfold toFl; rw [if_neg (fun h => hq h.2)]
   rw [e]; refine (toFloat_err ads 3 h3 a cap 8 w V fun w1 hk hc => (H w1 hk hc).mono ?_).mono ?_
   ·rintro e w2 ⟨⟨h, _⟩ | ⟨_, rfl⟩, hk2⟩
    ·exact absurd h hq
    ·exact ⟨rfl, hk2⟩
   ·rintro e w2 ⟨rfl, hk2⟩; exact ⟨.inr ⟨rfl, rfl, rfl⟩, hk2⟩
 ·have e : toFl bs = (0, 4) := by unfold toFl; rw [if_neg (fun h => h8 (by omega))]
  rw [e]; refine (toFloat_err ads 3 h3 a cap len w V fun w1 hk hc => toFloat1_len ads h3 _ a cap len h8 w1 (V.below hk) hc).mono ?_
  rintro e w2 ⟨rfl, hk2⟩; exact ⟨.inr ⟨rfl, rfl, rfl⟩, hk2⟩
def boxLen (p : Nat) (w : World) : Nat := match w.cell? ⟨p, 0, none⟩ with | some (.slice _ n _) => n | _ => 0
theorem boxLen_of {p : Nat} {w : World} {a : Option Addr} {n c : Nat} (h : w.heap[p]? = some (boxS (.slice a n c))) : boxLen p w = n := by
 unfold boxLen; rw [cell_of_one h]
theorem three {cs : List Int} (h : ¬ cs.length < 3) : ∃ x0 x1 x2 rest, cs = x0 :: x1 :: x2 :: rest := by
 match cs, h with
 | x0 :: x1 :: x2 :: rest, _ => exact ⟨x0, x1, x2, rest, rfl⟩
 | [], h => exact absurd (by simp) h
 | [_], h => exact absurd (by simp) h
 | [_, _], h => exact absurd (by simp) h
structure SpSt (W w w1 : World) (p : Nat) (k last : Int) (gs : List (Int × List Int × Value)) (v bx : Value) (wr : World) : Prop where
 kW : Kp W wr
 kb : Kb p w wr
 sz : w1.heap.size ≤ wr.heap.size
 bp : wr.heap[p]? = some (boxS bx)
 bB : wr.heap[w.heap.size]? = some (boxI k)
 bL : wr.heap[w.heap.size + 1]? = some (boxI last)
 own : wr.ownsRow w1.heap.size 122 2 v gs.length (gs.flatMap cellQ)
 od : OwnD w1.heap.size gs wr
theorem SpSt.kp {W w w1 wr wr' : World} {p : Nat} {k last : Int} {gs : List (Int × List Int × Value)} {v bx : Value} (h : SpSt W w w1 p k last gs v bx wr) (hk : Kp wr wr') : SpSt W w w1 p k last gs v bx wr' :=
 ⟨kT h.kW hk, h.kb.kp hk, Nat.le_trans h.sz (Below.size hk), rZ hk h.bp, rZ hk h.bB, rZ hk h.bL, oK h.own hk, h.od.kp hk⟩
theorem SpSt.setP {W w w1 wr : World} {p : Nat} {k last : Int} {gs : List (Int × List Int × Value)} {v bx : Value} (h : SpSt W w w1 p k last gs v bx wr) (hp : W.heap.size = p) (hpw : p < w.heap.size) (hs : w1.heap.size = w.heap.size + 2) (u : Value) : SpSt W w w1 p k last gs v u (wr.setCell ⟨p, 0, none⟩ u) :=
 ⟨Below.setCell h.kW (show W.heap.size ≤ p by omega) _, h.kb.set _, by simp; exact h.sz, one_setCell h.bp,
  by rw [bS _ _ _ _ (by simp; omega)]; exact h.bB, by rw [bS _ _ _ _ (by simp; omega)]; exact h.bL,
  ownsRow_setCell_below h.own (show p < w1.heap.size by omega) _, fun g hg => ⟨ownsRow_setCell_below (h.od g hg).1 (show p < w1.heap.size by omega) _, (h.od g hg).2⟩⟩
theorem SpSt.enter {W w w1 wr : World} {p : Nat} {k last : Int} {gs : List (Int × List Int × Value)} {v bx : Value} (h : SpSt W w w1 p k last gs v bx wr) (hW : W.heap.size ≤ w.heap.size) (hpw : p < w.heap.size) (hs : w1.heap.size = w.heap.size + 2) (k' last' : Int) :
  SpSt W w w1 p k' last' gs v bx ((wr.setCell ⟨w.heap.size, 0, none⟩ (.int .i64 k')).setCell ⟨w.heap.size + 1, 0, none⟩ (.int .i64 last')) :=
 ⟨Below.setCell (Below.setCell h.kW (show W.heap.size ≤ w.heap.size by omega) _) (show W.heap.size ≤ w.heap.size + 1 by omega) _, (h.kb.setNew (Nat.le_refl _) _).setNew (by omega) _, by simp; exact h.sz,
  by rw [bS _ _ _ _ (by simp; omega), bS _ _ _ _ (by simp; omega)]; exact h.bp,
  by rw [bS _ _ _ _ (by simp)]; exact one_setCell h.bB,
  one_setCell (by rw [bS _ _ _ _ (by simp)]; exact h.bL),
  ownsRow_setCell_below (ownsRow_setCell_below h.own (show w.heap.size < w1.heap.size by omega) _) (show w.heap.size + 1 < w1.heap.size by omega) _,
  fun g hg => ⟨ownsRow_setCell_below (ownsRow_setCell_below (h.od g hg).1 (show w.heap.size < w1.heap.size by omega) _) (show w.heap.size + 1 < w1.heap.size by omega) _, (h.od g hg).2⟩⟩
theorem split1_any (ads : List Addr) (h1' : 1 < ads.length) (h3' : 3 < ads.length) (W : World) (a : Option Addr) (cap : Nat) (bs : List Int) (len : Nat) (hlen : bs.length = len) (hl : len ≤ 1000000) (hlc : len ≤ cap) (hb : InB bs) (hs : SlB (.slice a len cap) bs W) (V : St ads W)
  (w : World) (hW : Kp W w) (hp : w.heap[W.heap.size]? = some (boxS (.slice a len cap))) :
  Calls Tryz.prog 133 #[.pointer (some ⟨W.heap.size, 0, none⟩)] w fun e w' =>
   (((splitQ 17 bs 0 0).1 = 0 ∧ ∃ v gs, e = .returned v ∧ (splitQ 17 bs 0 0).2 = gs.map fldQ ∧ w'.ownsRow w.heap.size 122 2 v gs.length (gs.flatMap cellQ) ∧ OwnD w.heap.size gs w') ∨
    ((splitQ 17 bs 0 0).1 = 2 ∧ e = .panicked [{ v := snt (ads[1]'h1'), recovered := false }]) ∨ ((splitQ 17 bs 0 0).1 = 4 ∧ e = .panicked [{ v := snt (ads[3]'h3'), recovered := false }])) ∧ Kp W w' ∧ Kb W.heap.size w w' := by
 have hmf : ∀ (fn : Fn) (first cap : Array Value) (w : World), (Instr.makeFunc fn first cap).run Tryz.prog w = .ok (.func fn first cap) w := fun _ _ _ _ => rfl
 obtain ⟨RES, hres⟩ : ∃ RES, splitQ 17 bs 0 0 = RES := ⟨_, rfl⟩
 rw [hres]; obtain ⟨HRES, HL, HB, HS, HV, HW⟩ := hD6 hres hlen hb hs V hW; have HP := hD hp; have HIB := hD (info_parts info_byte); have HIF := hD (info_parts info_fieldT); obtain ⟨p, hpp⟩ : ∃ p, W.heap.size = p := ⟨_, rfl⟩
 have HPP := hD hpp; have hpw : p < w.heap.size := by rw [← hpp]; exact oZ hp
 have HPW := hD hpw; rw [hpp] at HP ⊢; obtain ⟨a1, ha1⟩ : ∃ a, ads[1]'h1' = a := ⟨_, rfl⟩
 obtain ⟨a3, ha3⟩ : ∃ a, ads[3]'h3' = a := ⟨_, rfl⟩
 rw [ha1, ha3]; obtain ⟨HA1, HA3⟩ := hD2 ha1 ha3; clear hs hlen hb hres V hW hp hpp hpw ha1 ha3; go_enter Tryz.func133, Tryz.ntmps133; go_wp2_with (go_at_call 130; (with_reducible refine (newRow_any _).mono ?_); rintro e w1 ⟨rfl, hp1, hq1, hsz1, hk1⟩; obtain ⟨HP1, HQ1, HS1, HK1⟩ := hD4 hp1 hq1 hsz1 hk1; clear hp1 hq1 hsz1 hk1)
 go_loopw [3] (fun v wr => ∃ (gs : List (Int × List Int × Value)) (at' : Nat) (last : Int) (a : Option Addr) (n c : Nat), at' + n = len ∧ n ≤ c ∧ gs.length ≤ 16 ∧ 0 ≤ last ∧ SpSt W w w1 p gs.length last gs v (.slice a n c) wr ∧ SlB (.slice a n c) (bs.drop at') W ∧ RES = ((splitQ (17 - gs.length) (bs.drop at') last gs.length).1, gs.map fldQ ++ (splitQ (17 - gs.length) (bs.drop at') last gs.length).2)) (fun _ wr => boxLen p wr)
 case atStart => exact ⟨[], 0, 0, a, len, cap, by omega, hlc, by simp, Int.le_refl _, ⟨kT HW.out HK1.out, (Kb.refl _ _).kp HK1.out, Nat.le_refl _, rZ HK1.out HP.out, HP1.out, HQ1.out, ⟨by simp, .inl ⟨rfl, rfl⟩⟩, (fun g hg => by cases hg)⟩, HS.out, by rw [← HRES.out]; rfl⟩
 case round =>
  obtain ⟨gs, at', last, a, n, c, hat, hnc, hg16, hlast, hst, hsl, hR⟩ := hrel; obtain ⟨HST, HSL⟩ := hD2 hst hsl; have cbp := cell_of_one hst.bp; obtain ⟨k, hk⟩ : ∃ k, gs.length = k := ⟨_, rfl⟩
  obtain ⟨cs, hcs⟩ : ∃ cs, bs.drop at' = cs := ⟨_, rfl⟩
  have hcl : cs.length = n := by have := HL.out; rw [← hcs, List.length_drop]; omega
  have hf : 17 - gs.length = (16 - k) + 1 := by omega
  rw [hf, hk, hcs, splitQ] at hR; rw [hcs] at HSL; rw [hk] at HST hg16; have HK := hD hk; obtain ⟨nn, hnn⟩ : ∃ nn : Int, (n : Int) = nn := ⟨_, rfl⟩
  clear hf hst hsl hk
  by_cases h0 : cs.length = 0
  ·rw [if_pos h0] at hR; have hex : ¬ nn > 0 := by omega
   have HR := hD hR; clear hcl h0 hR hat hnc hcs; go_wp2; go_ret; have hb1 : w.heap.size ≤ w1.heap.size := by have := HS1.out; omega
   have g1 : RES.1 = 0 := by rw [HR.out]
   have g2 : RES.2 = gs.map fldQ := by rw [HR.out]; simp
   have g3 : OwnD w.heap.size gs wr := fun g hg => ⟨own_mono (HST.out.od g hg).1 hb1, (HST.out.od g hg).2⟩
   exact ⟨.inl ⟨g1, _, rfl, gs, g2, own_mono HST.out.own hb1, g3⟩, HST.out.kW, HST.out.kb⟩
  ·rw [if_neg h0] at hR; have hgt : nn > 0 := by omega
   obtain ⟨b, off, rfl, hcx⟩ := HSL.out.at 0 (by omega)
   by_cases h3 : cs.length < 3
   ·rw [if_pos h3] at hR; have ht := take_short ads h1' p (some ⟨b, off, none⟩) n c 3 3 rfl (by omega) wr (HV.out.below HST.out.kW) HST.out.bp; rw [HA1.out] at ht; obtain ⟨HT, HR⟩ := hD2 ht hR; clear hcl h0 hR hat hnc hcs ht h3 hcx; go_wp2_with (go_at_call 134; (with_reducible refine HT.out.mono ?_); rintro e w' ⟨rfl, rfl⟩)
    exact ⟨rfl, .inr (.inl ⟨by rw [HR.out], rfl⟩), HST.out.kW, HST.out.kb⟩
   ·rw [if_neg h3] at hR; obtain ⟨x0, x1, x2, rest, rfl⟩ := three h3; have hgd : (x0 :: x1 :: x2 :: rest).getD 0 0 = x0 ∧ (x0 :: x1 :: x2 :: rest).getD 1 0 = x1 ∧ (x0 :: x1 :: x2 :: rest).getD 2 0 = x2 := ⟨rfl, rfl, rfl⟩
    rw [hgd.1, hgd.2.1, hgd.2.2] at hR; have hbb : ∀ x ∈ x0 :: x1 :: x2 :: rest, 0 ≤ x ∧ x < 256 := fun x hx => HB.out x (List.mem_of_mem_drop (by rw [hcs]; exact hx))
    have r0 := hbb x0 (by simp); have r1 := hbb x1 (by simp); have r2 := hbb x2 (by simp); obtain ⟨m, hm⟩ : ∃ m : Int, x1 * 256 + x2 = m := ⟨_, rfl⟩
    have rm : 0 ≤ m ∧ m < 65536 := by omega
    rw [hm] at hR; rw [Nat.add_zero, hgd.1] at hcx; have h3n : 3 ≤ n := by omega
    have ht := take_ok ads p b off n c 3 3 rfl h3n hnc wr (HV.out.below HST.out.kW) HST.out.bp; have hsl3 := slb_drop HSL.out h3n hnc; have hsl2 := slb_drop (slb_take HSL.out h3n) (show 1 ≤ 3 by omega) (show 3 ≤ c by omega); have s1 := fun w => run_tail (b := b) (off := off) (n := 3) (c := c) (m := 1) (mm := 1) rfl (by omega) w
    obtain ⟨o1, ho1⟩ : ∃ o1, (if c = 1 then off else off + 1) = o1 := ⟨_, rfl⟩
    obtain ⟨o3, ho3⟩ : ∃ o3, (if c = 3 then off else off + 3) = o3 := ⟨_, rfl⟩
    obtain ⟨c1, hc1⟩ : ∃ c1, c - 1 = c1 := ⟨_, rfl⟩
    obtain ⟨c3, hc3⟩ : ∃ c3, c - 3 = c3 := ⟨_, rfl⟩
    obtain ⟨n3, hn3⟩ : ∃ n3, n - 3 = n3 := ⟨_, rfl⟩
    rw [ho3, hc3, hn3] at hsl3 ht; rw [ho1, hc1] at hsl2 s1
    replace s1 : ∀ w, (Instr.slice 55 (.slice (some ⟨b, off, none⟩) 3 c) (some (.int .i64 1)) none none).run Tryz.prog w = .ok (.slice (some ⟨b, o1, none⟩) 2 c1) w := s1
    have hval := fun w1 (hk : Kp W w1) => value_any (some ⟨b, o1, none⟩) c1 [x1, x2] 2 rfl (by omega) (fun x hx => hbb x (by simp at hx ⊢; rcases hx with rfl | rfl <;> simp)) w1 (SlB.kp (show SlB _ [x1, x2] W from hsl2) hk)
    have hbe : beNum [x1, x2] = m := by rw [← hm]; unfold beNum; simp; omega
    simp only [hbe] at hval
    have HVAL := hD hval; have hent : Calls Tryz.prog 134 #[.int .i64 3, .pointer (some ⟨p, 0, none⟩)] wr fun e w' => e = .returned (.slice (some ⟨b, off, none⟩) 3 c) ∧ SpSt W w w1 p k last gs u3 (.slice (some ⟨b, o3, none⟩) n3 c3) w' := by
     refine ht.mono ?_
     rintro e w' ⟨rfl, rfl⟩; exact ⟨rfl, HST.out.setP HPP.out HPW.out HS1.out _⟩
    obtain ⟨HT, HSL3, HR, HCX, HCS⟩ := hD5 hent hsl3 hR hcx hcs; clear ht hent hval hbe hsl3 hsl2 hcx hR ho1 ho3 hc1 hm hbb hgd h0 h3 hcl hcs; go_wp2_with (go_at_call 134; (with_reducible refine HT.out.mono ?_); rintro e w2 ⟨rfl, hS2⟩; have S2 := hD hS2; have cx2 := kZ hS2.kW HCX.out; clear hS2)
    go_quiet ((go_at_call 135; exact Calls.quiet_of_same (calls_flip (HVAL.out _ (kT S2.out.kW (drewN_kp _ _))))))
    obtain ⟨wd, hwd⟩ : ∃ wd, w2.drewN nq = wd := ⟨_, rfl⟩
    rw [hwd]; have hSD : SpSt W w w1 p k last gs u3 (.slice (some ⟨b, o3, none⟩) n3 c3) wd := by rw [← hwd]; exact S2.out.kp (drewN_kp _ _)
    have SD := hD hSD; have hWw : W.heap.size ≤ w.heap.size := Below.size HW.out; have HWw := hD hWw; obtain ⟨M, hM⟩ : ∃ M : Nat, m.toNat = M := ⟨_, rfl⟩
    have hMm : (M : Int) = m := by omega
    obtain ⟨kk, hkk⟩ : ∃ kk : Int, (k : Int) = kk := ⟨_, rfl⟩
    rw [hkk] at SD; obtain ⟨HKK, HMM⟩ := hD2 hkk hMm; have hlenr : (x0 :: x1 :: x2 :: rest).length = n := HSL.out.len; have HLR := hD hlenr
    by_cases hmay : mayQ k last x0 M
    ·have het := enter_t ads w.heap.size (w.heap.size + 1) k kk last x0 M m hkk hMm wd (HV.out.below SD.out.kW) SD.out.bB SD.out.bL (by omega) hmay; obtain ⟨g1, g2, g3, g4⟩ := hmay; have hR := HR.out; rw [if_neg (by omega)] at hR; have hent : Calls Tryz.prog 151 #[.int .i64 x0, .int .i64 m, .pointer (some ⟨w.heap.size, 0, none⟩), .pointer (some ⟨w.heap.size + 1, 0, none⟩)] wd fun e w' => e = .returned (.tuple #[]) ∧ SpSt W w w1 p (kk + 1) x0 gs u3 (.slice (some ⟨b, o3, none⟩) n3 c3) w' := by
      refine het.mono ?_
      rintro e w' ⟨rfl, rfl⟩; exact ⟨rfl, SD.out.enter HWw.out HPW.out HS1.out _ _⟩
     have HEN := hD hent; have hnc3 : n3 ≤ c3 := by omega
     by_cases hsh : n3 < M
     ·rw [if_pos (by omega)] at hR; have HT3 := hD (fun wE (hE : SpSt W w w1 p (kk + 1) x0 gs u3 (.slice (some ⟨b, o3, none⟩) n3 c3) wE) => take_short ads h1' p (some ⟨b, o3, none⟩) n3 c3 M m hMm hsh wE (HV.out.below hE.kW) hE.bp); have HR2 := hD hR; have HA := HA1.out; clear hent het hR hSD hwd hM hMm hkk hlenr hsh cx2 s1 hWw g1 g2 g3 g4; go_wp2_with (first | (go_at_call 151; (with_reducible refine HEN.out.mono ?_); rintro e wE ⟨rfl, hE⟩; have SE := hD hE; have ht3 := HT3.out _ hE; rw [HA] at ht3; have HTT := hD ht3; clear hE ht3) | (go_at_call 134; (with_reducible refine HTT.out.mono ?_); rintro e w' ⟨rfl, rfl⟩))
      exact ⟨rfl, .inr (.inl ⟨by rw [HR2.out], rfl⟩), SE.out.kW, SE.out.kb⟩
     ·rw [if_neg (by omega)] at hR; have hMn : M ≤ n3 := by omega
      have htk := fun wE (hE : SpSt W w w1 p (kk + 1) x0 gs u3 (.slice (some ⟨b, o3, none⟩) n3 c3) wE) => take_ok ads p b o3 n3 c3 M m hMm hMn hnc3 wE (HV.out.below hE.kW) hE.bp
      have hws := slb_take HSL3.out hMn; have hrs := slb_drop HSL3.out hMn hnc3; obtain ⟨o4, ho4⟩ : ∃ o4, (if c3 = M then o3 else o3 + M) = o4 := ⟨_, rfl⟩
      obtain ⟨c4, hc4⟩ : ∃ c4, c3 - M = c4 := ⟨_, rfl⟩
      obtain ⟨n4, hn4⟩ : ∃ n4, n3 - M = n4 := ⟨_, rfl⟩
      rw [ho4, hc4, hn4] at hrs; simp only [ho4, hc4, hn4] at htk
      obtain ⟨ws, hwse⟩ : ∃ ws, ((x0 :: x1 :: x2 :: rest).drop 3).take M = ws := ⟨_, rfl⟩
      rw [hwse] at hws; have hwl : ws.length = M := hws.len; have hwb : InB ws := by
       intro x hx; rw [← hwse] at hx; refine HB.out x (List.mem_of_mem_drop (i := at') ?_)
       rw [HCS.out]; exact List.mem_of_mem_drop (List.mem_of_mem_take hx)
      rw [hM, hwse] at hR; obtain ⟨HR2, HWS, HRS, HWL, HWB, HTK⟩ := hD6 hR hws hrs hwl hwb htk; have hidx : 3 + M + n4 = n := by omega
      have hnc4 : n4 ≤ c4 := by omega
      have g5 : 0 ≤ x0 := by omega
      obtain ⟨i0, hi, hz0, hz1, hz2⟩ := HIF.out; have HI := hD (And.intro hz1 hz2); obtain ⟨HI2, HI3⟩ := hD2 hi hz0; have hM200 : M ≤ 200 := g4; clear hent het hR hSD hwd hMm hkk hlenr hsh cx2 s1 hWw ho4 hc4 hn4 hwse hwl hwb hws hrs htk hi hz0 hz1 hz2 g2 g3 g4 hM; go_wp2_with (first | (go_at_call 151; (with_reducible refine HEN.out.mono ?_); rintro e wE ⟨rfl, hE⟩; have SE := hD hE; have HTT := hD (HTK.out _ hE); clear hE) | (go_at_call 134; (with_reducible refine HTT.out.mono ?_); rintro e wT ⟨rfl, hwT⟩; have hST := SE.out.setP HPP.out HPW.out HS1.out (.slice (some ⟨b, o4, none⟩) n4 c4); rw [← hwT] at hST; have ST := hD hST; have HCL := hD (clone_any (.slice (some ⟨b, o3, none⟩) M c3) ws (by rw [HWL.out]; omega) wT (HWS.out.kp hST.kW)); clear hwT hST) | (go_at_call 136; (with_reducible refine HCL.out.mono ?_); rintro e wC ⟨v5, rfl, ho5, hk5⟩; obtain ⟨HO5, K5⟩ := hD2 ho5 hk5; have hfm := (own_slb ho5).form; obtain ⟨a5, c5, rfl⟩ := hfm; rw [HWL.out] at HO5; rw [HWL.out]; have SC := hD (ST.out.kp (kT hk5 (kA wC (.cells #[x0, .slice a5 M c5] 122)))); have KC := hD (kA wC (.cells #[x0, .slice a5 M c5] 122)); clear ho5 hk5) | (at_builtin; refine wpList_append_own _ rfl (.tmp 27) (.tmp 34) 118 rfl w1.heap.size 122 i0 (.agg #[(0:Int), .slice none 0 0]) 2 32 Tryz.underlying118 HI2.out HI3.out HI.out.1 HI.out.2 rfl (by decide) _ _ _ rfl SC.out.own ⟨wC.heap.size, 0, none⟩ 1 1 [.int .i64 x0, .slice a5 M c5] rfl ?c1 ?c2 ?c3 ?c4 ?c5 ?c6 ?_))
      case c1 => rfl
      case c2 =>
       intro i u hi; rw [add_plain]; have hb6 : (wC.alloc (.cells #[x0, .slice a5 M c5] 122)).heap[wC.heap.size]? = some (.cells #[x0, .slice a5 M c5] 122 (0, 0)) := (mH _ _)
       unfold World.cell?; dsimp only; rw [hb6]; have hi3 : i < 2 := by
        rcases Nat.lt_or_ge i 2 with q | q
        ·exact q
        ·rw [List.getElem?_eq_none (by simpa using q)] at hi; cases hi
       match i, hi3, hi with
       | 0, _, hi | 1, _, hi => simpa using hi
      case c3 => intro u hu; simp at hu; rcases hu with rfl | rfl <;> rfl
      case c4 => have := HK.out; unfold maxLen; omega
      case c5 => have := HK.out; omega
      case c6 => exact SC.out.sz
      rintro v6 w6 hown6 hgr6 -; have hbW : W.heap.size ≤ w1.heap.size := by have := HS1.out; have := HWw.out; omega
      have hb1 : w.heap.size ≤ w1.heap.size := by have := HS1.out; omega
      have hpw := HPW.out; have hs1 := HS1.out; have kw6 : Kp W w6 := rows_kp (own_mono SC.out.own hbW) hgr6 SC.out.kW; have kb6 : Kb p w w6 := SC.out.kb.grow SC.out.own hb1 hgr6; have sz6 : w1.heap.size ≤ w6.heap.size := Nat.le_trans SC.out.sz hgr6.size; have bp6 := box_grow SC.out.own hgr6 SC.out.bp (by omega); have bB6 := box_grow SC.out.own hgr6 SC.out.bB (by omega); have bL6 := box_grow SC.out.own hgr6 SC.out.bL (by omega); have hgl : (gs ++ [(x0, ws, Value.slice a5 M c5)]).length = k + 1 := by simp [HK.out]
      have od6 : OwnD w1.heap.size (gs ++ [(x0, ws, Value.slice a5 M c5)]) w6 := by
       intro g hg
       rcases List.mem_append.1 hg with hg | hg
       ·exact (SC.out.od.grows SC.out.own hgr6) g hg
       ·have : g = (x0, ws, Value.slice a5 M c5) := by simpa using hg
        subst this; refine ⟨?_, HWB.out⟩
        rw [HWL.out]; exact own_grows SC.out.own hgr6 (oK (own_mono HO5.out ST.out.sz) KC.out) (by decide)
      have own6 : w6.ownsRow w1.heap.size 122 2 v6 (gs ++ [(x0, ws, Value.slice a5 M c5)]).length ((gs ++ [(x0, ws, Value.slice a5 M c5)]).flatMap cellQ) := by
       rw [hgl, List.flatMap_append]; rw [HK.out] at hown6; exact hown6
      have hst6 : SpSt W w w1 p (kk + 1) x0 (gs ++ [(x0, ws, Value.slice a5 M c5)]) v6 (.slice (some ⟨b, o4, none⟩) n4 c4) w6 := ⟨kw6, kb6, sz6, bp6, bB6, bL6, own6, od6⟩
      obtain ⟨S6, HGL⟩ := hD2 hst6 hgl; clear hst6 kw6 kb6 sz6 bp6 bB6 bL6 own6 od6 hown6 hgr6 hgl; go_wp2; go_roundw
      case rel =>
       have e1 : (((gs ++ [(x0, ws, Value.slice a5 M c5)]).length : Nat) : Int) = kk + 1 := by have := HGL.out; have := HKK.out; omega
       refine ⟨gs ++ [(x0, ws, Value.slice a5 M c5)], at' + (3 + M), x0, some ⟨b, o4, none⟩, n4, c4, by omega, hnc4, by rw [HGL.out]; omega, g5, by rw [e1]; exact S6.out, ?_, ?_⟩
       ·have := HRS.out; rw [List.drop_drop, ← HCS.out, List.drop_drop] at this; exact this
       ·have e2 : bs.drop (at' + (3 + M)) = (x0 :: x1 :: x2 :: rest).drop (3 + M) := by rw [← HCS.out, List.drop_drop]
        rw [HGL.out, HR2.out, e2, show 17 - (k + 1) = 16 - k by omega]
        simp [fldQ]
      case measure =>
       rw [boxLen_of S6.out.bp, boxLen_of HST.out.bp]; omega
    ·have hef := enter_f ads h3' w.heap.size (w.heap.size + 1) k kk last x0 M m hkk hMm wd (HV.out.below SD.out.kW) SD.out.bB SD.out.bL hmay; rw [HA3.out] at hef; have HEF := hD hef; have hR := HR.out; rw [if_pos (by
      rcases Nat.lt_or_ge k 16 with q | q
      ·by_cases q2 : x0 ≤ last
       ·exact .inl q2
       ·by_cases q3 : 200 < m
        ·exact .inr (.inl q3)
        ·exact absurd ⟨q, by omega, by omega, by omega⟩ hmay
      ·exact .inr (.inr (by omega)))] at hR
     have HR2 := hD hR; clear hef hR hSD hwd hM hMm hkk hlenr hmay cx2 s1 hWw; go_wp2_with (go_at_call 151; (with_reducible refine HEF.out.mono ?_); rintro e wE ⟨rfl, rfl⟩)
     exact ⟨rfl, .inr (.inr ⟨by rw [HR2.out], rfl⟩), SD.out.kW, SD.out.kb⟩
theorem ownD_aside {w w' : World} {B base : Nat} {gs : List (Int × List Int × Value)} (h : OwnD base gs w) (ha : Aside B w w') (hb : B + 2 ≤ base) : OwnD base gs w' :=
 fun g hg => ⟨own_aside (h g hg).1 ha hb, (h g hg).2⟩
theorem split_any (ads : List Addr) (h1 : 1 < ads.length) (h3 : 3 < ads.length) (a : Option Addr) (cap : Nat) (bs : List Int) (len : Nat) (hlen : bs.length = len) (hl : len ≤ 1000000) (hlc : len ≤ cap) (hb : InB bs) (w : World) (V : St ads w) (hs : SlB (.slice a len cap) bs w) :
  Calls Tryz.prog 94 #[.slice a len cap] w fun e w' =>
   (((splitQ 17 bs 0 0).1 = 0 ∧ ∃ v, e = .returned (.tuple #[v, .nilIface]) ∧ SlQ v (splitQ 17 bs 0 0).2 w') ∨
    ((splitQ 17 bs 0 0).1 = 2 ∧ e = .returned (.tuple #[.slice none 0 0, snt (ads[1]'h1)])) ∨ ((splitQ 17 bs 0 0).1 = 4 ∧ e = .returned (.tuple #[.slice none 0 0, snt (ads[3]'h3)]))) ∧ Kp w w' := by
 have hmf : ∀ (fn : Fn) (first cap : Array Value) (w : World), (Instr.makeFunc fn first cap).run Tryz.prog w = .ok (.func fn first cap) w := fun _ _ _ _ => rfl
 have kb := kA w (.cells #[.slice a len cap] 55); have hbx : (w.alloc (boxS (.slice a len cap))).heap[w.heap.size]? = some (boxS (.slice a len cap)) := (mH w _)
 have hsz : (w.alloc (.cells #[.slice a len cap] 55)).heap.size = w.heap.size + 1 := by simp
 obtain ⟨RES, hres⟩ : ∃ RES, splitQ 17 bs 0 0 = RES := ⟨_, rfl⟩
 have HB := fun w1 (hk : Kp (w.alloc (.cells #[.slice a len cap] 55)) w1) => split1_any ads h1 h3 w a cap bs len hlen hl hlc hb hs V w1 (kT kb hk) (rZ hk hbx)
 rw [hres] at HB ⊢; have hf : ∀ w, (callFunc 133 #[.pointer (some ⟨w.heap.size, 0, none⟩)]).run Tryz.prog w = .ok (.enter 133 #[.pointer (some ⟨w.heap.size, 0, none⟩)]) w := by intro w; simp [go_sem]
 obtain ⟨KB, HSZ⟩ := hD2 kb hsz; have cases3 : RES.1 = 0 ∨ RES.1 = 2 ∨ RES.1 = 4 := by
  have := (HB _ (Kp.refl _)) []
  obtain ⟨e, w', fr, ⟨h, -⟩, -⟩ := this
  rcases h with ⟨h, -⟩ | ⟨h, -⟩ | ⟨h, -⟩
  ·exact .inl h
  ·exact .inr (.inl h)
  ·exact .inr (.inr h)
 rcases cases3 with h0 | h0 | h0
 ·have HT : Calls Tryz.prog 132 #[.func (.func 133) #[] #[.pointer (some ⟨w.heap.size, 0, none⟩)]] (w.alloc (.cells #[.slice a len cap] 55)) fun e w' => ∃ v, e = .returned (.tuple #[v, .nilIface]) ∧ SlQ v RES.2 w' ∧ Below w.heap.size w w' := by
   refine (try_fields_ret 133 _ _ (fun v w1 w2 => ∃ gs, RES.2 = gs.map fldQ ∧ w2.ownsRow w1.heap.size 122 2 v gs.length (gs.flatMap cellQ) ∧ OwnD w1.heap.size gs w2 ∧ Kp w w2) (by intro w; simp [go_sem]) fun w1 hb1 hs1 => ?_).mono ?_
   ·refine (HB w1 hb1).mono ?_
    rintro e w2 ⟨h, hk, hkb⟩
    rcases h with ⟨_, v, gs, rfl, h2, ho, hd⟩ | ⟨h, _⟩ | ⟨h, _⟩
    ·exact ⟨v, rfl, hkb.past (by rw [HSZ.out]; omega), gs, h2, ho, hd, hk⟩
    ·rw [h0] at h; cases h
    ·rw [h0] at h; cases h
   ·rintro e w' ⟨v, rfl, w1, w2, hb1, hs1, ⟨gs, h2, ho, hd, hk⟩, hb2, ha⟩; refine ⟨v, rfl, ?_, ?_⟩
    ·rw [h2]; exact own_slq rfl (own_aside ho ha (by omega)) (ownD_aside hd ha (by omega))
    ·exact Below.trans hk (Below.mono hb2 (by rw [HSZ.out]; omega))
  have HTT := hD HT; clear HT HB kb hbx hsz hs V; go_enter Tryz.func94, Tryz.ntmps94; go_wp2_with (go_at_call 132; (with_reducible refine HTT.out.mono ?_); rintro e w' ⟨v, rfl, ho, hk⟩; obtain ⟨HK, HO⟩ := hD2 hk ho; clear hk ho)
  go_ret2
  exact ⟨.inl ⟨h0, _, rfl, HO.out⟩, HK.out⟩
 ·have HT : Calls Tryz.prog 132 #[.func (.func 133) #[] #[.pointer (some ⟨w.heap.size, 0, none⟩)]] (w.alloc (.cells #[.slice a len cap] 55)) fun e w' => e = .returned (.tuple #[.slice none 0 0, snt (ads[1]'h1)]) ∧ Below w.heap.size w w' := by
   refine (try_fields_panic ads 1 h1 133 _ _ (fun w1 w2 => Kp w w2) (by intro w; simp [go_sem]) fun w1 hb1 hs1 => ?_).mono ?_
   ·refine (HB w1 hb1).mono ?_
    rintro e w2 ⟨h, hk, hkb⟩
    rcases h with ⟨h, _⟩ | ⟨_, rfl⟩ | ⟨h, _⟩
    ·rw [h0] at h; cases h
    ·exact ⟨rfl, V.below hk, hkb.past (by rw [HSZ.out]; omega), hk⟩
    ·rw [h0] at h; cases h
   ·rintro e w' ⟨rfl, w1, w2, hb1, hs1, hk, hb2⟩; exact ⟨rfl, Below.trans hk (Below.mono hb2 (by rw [HSZ.out]; omega))⟩
  have HTT := hD HT; clear HT HB kb hbx hsz hs V; go_enter Tryz.func94, Tryz.ntmps94; go_wp2_with (go_at_call 132; (with_reducible refine HTT.out.mono ?_); rintro e w' ⟨rfl, hk⟩; have HK := hD hk; clear hk)
  go_ret2
  exact ⟨.inr (.inl ⟨h0, rfl⟩), HK.out⟩
 ·have HT : Calls Tryz.prog 132 #[.func (.func 133) #[] #[.pointer (some ⟨w.heap.size, 0, none⟩)]] (w.alloc (.cells #[.slice a len cap] 55)) fun e w' => e = .returned (.tuple #[.slice none 0 0, snt (ads[3]'h3)]) ∧ Below w.heap.size w w' := by
   refine (try_fields_panic ads 3 h3 133 _ _ (fun w1 w2 => Kp w w2) (by intro w; simp [go_sem]) fun w1 hb1 hs1 => ?_).mono ?_
   ·refine (HB w1 hb1).mono ?_
    rintro e w2 ⟨h, hk, hkb⟩
    rcases h with ⟨h, _⟩ | ⟨h, _⟩ | ⟨_, rfl⟩
    ·rw [h0] at h; cases h
    ·rw [h0] at h; cases h
    ·exact ⟨rfl, V.below hk, hkb.past (by rw [HSZ.out]; omega), hk⟩
   ·rintro e w' ⟨rfl, w1, w2, hb1, hs1, hk, hb2⟩; exact ⟨rfl, Below.trans hk (Below.mono hb2 (by rw [HSZ.out]; omega))⟩
  have HTT := hD HT; clear HT HB kb hbx hsz hs V; go_enter Tryz.func94, Tryz.ntmps94; go_wp2_with (go_at_call 132; (with_reducible refine HTT.out.mono ?_); rintro e w' ⟨rfl, hk⟩; have HK := hD hk; clear hk)
  go_ret2
  exact ⟨.inr (.inr ⟨h0, rfl⟩), HK.out⟩
theorem split_join : ∀ (fs : List (Int × List Int)) (k f : Nat) (last : Int), runQ k last fs = true → (∀ g ∈ fs, 0 ≤ last) → fs.length ≤ f → (∀ g ∈ fs, InB g.2) → splitQ (f + 1) (joinB fs) last k = (0, fs)
 | [], k, f, last, _, _, _, _ => by
  rw [splitQ, if_pos (show (joinB []).length = 0 from rfl)]
 | g :: t, k, f, last, hr, hl, hf, hb => by
  rw [runQ, Bool.and_eq_true, decide_eq_true_eq] at hr; obtain ⟨⟨h1, h2, h3, h4⟩, hr⟩ := hr; have hl0 := hl g (by simp); obtain ⟨tag, d⟩ := g; simp only at h2 h3 h4 hr
  have hj : joinB ((tag, d) :: t) = tag :: 0 :: (d.length : Int) :: (d ++ joinB t) := by
   show fieldB (tag, d) ++ joinB t = _
   simp [fieldB]
  rw [hj, splitQ]; have hgd : (tag :: 0 :: (d.length : Int) :: (d ++ joinB t)).getD 0 0 = tag ∧ (tag :: 0 :: (d.length : Int) :: (d ++ joinB t)).getD 1 0 = 0 ∧ (tag :: 0 :: (d.length : Int) :: (d ++ joinB t)).getD 2 0 = (d.length : Int) := ⟨rfl, rfl, rfl⟩
  rw [hgd.1, hgd.2.1, hgd.2.2]; have hm : (0 * 256 + (d.length : Int)).toNat = d.length := by omega
  have hd : (tag :: 0 :: (d.length : Int) :: (d ++ joinB t)).drop (3 + d.length) = joinB t := by
   rw [← List.drop_drop]
   show (d ++ joinB t).drop d.length = _
   simp
  have ht : ((tag :: 0 :: (d.length : Int) :: (d ++ joinB t)).drop 3).take d.length = d := by
   show (d ++ joinB t).take d.length = _
   simp
  rw [if_neg (by simp), if_neg (by simp), if_neg (by omega), if_neg (by simp; omega), hm, hd, ht]
  match f, hf with
  | f + 1, hf =>
   rw [split_join t (k + 1) f tag hr (fun _ _ => by omega) (by simpa using hf) (fun g hg => hb g (by simp [hg]))]
theorem joinB_in {fs : List (Int × List Int)} (hs : Small fs) (hb : ∀ g ∈ fs, InB g.2) : InB (joinB fs) := by
 intro x hx; obtain ⟨g, hg, hx⟩ := List.mem_flatMap.1 hx; obtain ⟨h1, h2, h3⟩ := hs g hg; unfold fieldB at hx; simp only [List.mem_append, List.mem_cons, List.not_mem_nil, or_false] at hx
 rcases hx with (rfl | rfl | rfl) | hx
 ·omega
 ·omega
 ·omega
 ·exact hb g hg x hx
theorem joinB_cons (g : Int × List Int) (t : List (Int × List Int)) : joinB (g :: t) = g.1 :: 0 :: (g.2.length : Int) :: (g.2 ++ joinB t) := by
 show fieldB g ++ joinB t = _
 simp [fieldB]
end Go.Proofs.YtpemeenfhkgmpaaGreatDoor
