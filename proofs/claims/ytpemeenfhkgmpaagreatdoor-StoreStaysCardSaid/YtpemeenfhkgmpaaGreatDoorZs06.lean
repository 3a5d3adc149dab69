/-
  PARTS OF THIS PROOF (own work): SplG, SplH, JoinV, JoinX, CutL.
-/
import Derived.Test.YtpemeenfhkgmpaaGreatDoorZs05
import Derived.Test.YtpemeenfhkgmpaaGreatDoorZs02
import Derived.Lib.SlBytesConst
import Derived.Test.YtpemeenfhkgmpaaGreatDoorZs01
import Derived.Laws.AppendOwnNone
namespace Go.Proofs.YtpemeenfhkgmpaaGreatDoor
open Go.RowKit Go.ChangeShapes Go.WideShapes

/-- how many bytes are left in the box p -/
def boxLen (p : Nat) (w : World) : Nat := match w.cell? ⟨p, 0, none⟩ with | some (.slice _ n _) => n | _ => 0
theorem boxLen_of {p : Nat} {w : World} {a : Option Addr} {n c : Nat} (h : w.heap[p]? = some (boxS (.slice a n c))) : boxLen p w = n := by
  unfold boxLen
  rw [cell_of_one h]
theorem three {cs : List Int} (h : ¬ cs.length < 3) : ∃ x0 x1 x2 rest, cs = x0 :: x1 :: x2 :: rest := by
  match cs, h with
  | x0 :: x1 :: x2 :: rest, _ => exact ⟨x0, x1, x2, rest, rfl⟩
  | [], h => exact absurd (by simp) h
  | [_], h => exact absurd (by simp) h
  | [_, _], h => exact absurd (by simp) h

/-- WHERE A ROUND STANDS: what is left (the box p), how many fields there are and the last one's tag, the row. -/
structure SpSt (W w w1 : World) (p : Nat) (k last : Int) (gs : List (Int × List Int × Value)) (v bx : Value) (wr : World) : Prop where
  kW : Kp W wr
  kb : Kb p w wr
  sz : w1.heap.size ≤ wr.heap.size
  bp : wr.heap[p]? = some (boxS bx)
  bB : wr.heap[w.heap.size]? = some (boxI k)
  bL : wr.heap[w.heap.size + 1]? = some (boxI last)
  own : wr.ownsRow w1.heap.size 122 2 v gs.length (gs.flatMap cellQ)
  od : OwnD w1.heap.size gs wr
theorem SpSt.kp {W w w1 wr wr' : World} {p : Nat} {k last : Int} {gs : List (Int × List Int × Value)} {v bx : Value} (h : SpSt W w w1 p k last gs v bx wr) (hk : Kp wr wr') : SpSt W w w1 p k last gs v bx wr' :=
  ⟨Kp.trans h.kW hk, h.kb.kp hk, Nat.le_trans h.sz (Below.size hk), kp_row hk h.bp, kp_row hk h.bB, kp_row hk h.bL, own_kp h.own hk, h.od.kp hk⟩
theorem SpSt.setP {W w w1 wr : World} {p : Nat} {k last : Int} {gs : List (Int × List Int × Value)} {v bx : Value} (h : SpSt W w w1 p k last gs v bx wr) (hp : W.heap.size = p) (hpw : p < w.heap.size) (hs : w1.heap.size = w.heap.size + 2) (u : Value) : SpSt W w w1 p k last gs v u (wr.setCell ⟨p, 0, none⟩ u) :=
  ⟨Below.setCell h.kW (show W.heap.size ≤ p by omega) _, h.kb.set _, by simp; exact h.sz, one_setCell h.bp,
   by rw [Below.heap_setCell _ _ _ _ (by simp; omega)]; exact h.bB, by rw [Below.heap_setCell _ _ _ _ (by simp; omega)]; exact h.bL,
   ownsRow_setCell_below h.own (show p < w1.heap.size by omega) _, fun g hg => ⟨ownsRow_setCell_below (h.od g hg).1 (show p < w1.heap.size by omega) _, (h.od g hg).2⟩⟩
theorem SpSt.enter {W w w1 wr : World} {p : Nat} {k last : Int} {gs : List (Int × List Int × Value)} {v bx : Value} (h : SpSt W w w1 p k last gs v bx wr) (hW : W.heap.size ≤ w.heap.size) (hpw : p < w.heap.size) (hs : w1.heap.size = w.heap.size + 2) (k' last' : Int) :
    SpSt W w w1 p k' last' gs v bx ((wr.setCell ⟨w.heap.size, 0, none⟩ (.int .i64 k')).setCell ⟨w.heap.size + 1, 0, none⟩ (.int .i64 last')) :=
  ⟨Below.setCell (Below.setCell h.kW (show W.heap.size ≤ w.heap.size by omega) _) (show W.heap.size ≤ w.heap.size + 1 by omega) _, (h.kb.setNew (Nat.le_refl _) _).setNew (by omega) _, by simp; exact h.sz,
   by rw [Below.heap_setCell _ _ _ _ (by simp; omega), Below.heap_setCell _ _ _ _ (by simp; omega)]; exact h.bp,
   by rw [Below.heap_setCell _ _ _ _ (by simp)]; exact one_setCell h.bB,
   one_setCell (by rw [Below.heap_setCell _ _ _ _ (by simp)]; exact h.bL),
   ownsRow_setCell_below (ownsRow_setCell_below h.own (show w.heap.size < w1.heap.size by omega) _) (show w.heap.size + 1 < w1.heap.size by omega) _,
   fun g hg => ⟨ownsRow_setCell_below (ownsRow_setCell_below (h.od g hg).1 (show w.heap.size < w1.heap.size by omega) _) (show w.heap.size + 1 < w1.heap.size by omega) _, (h.od g hg).2⟩⟩

set_option maxRecDepth 20000 in
set_option maxHeartbeats 2000000 in
theorem split1_any (ads : List Addr) (h1' : 1 < ads.length) (h3' : 3 < ads.length) (W : World) (a : Option Addr) (cap : Nat) (bs : List Int) (len : Nat) (hlen : bs.length = len) (hl : len ≤ 1000000) (hlc : len ≤ cap) (hb : InB bs) (hs : SlB (.slice a len cap) bs W) (V : St ads W)
    (w : World) (hW : Kp W w) (hp : w.heap[W.heap.size]? = some (boxS (.slice a len cap))) :
    Calls Tryz.prog 133 #[.pointer (some ⟨W.heap.size, 0, none⟩)] w fun e w' =>
      (((splitQ 17 bs 0 0).1 = 0 ∧ ∃ v gs, e = .returned v ∧ (splitQ 17 bs 0 0).2 = gs.map fldQ ∧ w'.ownsRow w.heap.size 122 2 v gs.length (gs.flatMap cellQ) ∧ OwnD w.heap.size gs w') ∨
       ((splitQ 17 bs 0 0).1 = 2 ∧ e = .panicked [{ v := snt (ads[1]'h1'), recovered := false }]) ∨ ((splitQ 17 bs 0 0).1 = 4 ∧ e = .panicked [{ v := snt (ads[3]'h3'), recovered := false }])) ∧ Kp W w' ∧ Kb W.heap.size w w' := by
  have hmf : ∀ (fn : Fn) (first cap : Array Value) (w : World), (Instr.makeFunc fn first cap).run Tryz.prog w = .ok (.func fn first cap) w := fun _ _ _ _ => rfl
  obtain ⟨RES, hres⟩ : ∃ RES, splitQ 17 bs 0 0 = RES := ⟨_, rfl⟩
  rw [hres]
  have HRES := Lib.hid hres
  have HL := Lib.hid hlen
  have HB := Lib.hid hb
  have HS := Lib.hid hs
  have HV := Lib.hid V
  have HW := Lib.hid hW
  have HP := Lib.hid hp
  have HIB := Lib.hid (info_parts info_byte)
  have HIF := Lib.hid (info_parts info_fieldT)
  obtain ⟨p, hpp⟩ : ∃ p, W.heap.size = p := ⟨_, rfl⟩
  have HPP := Lib.hid hpp
  have hpw : p < w.heap.size := by rw [← hpp]; exact old_of_row hp
  have HPW := Lib.hid hpw
  rw [hpp] at HP ⊢
  obtain ⟨a1, ha1⟩ : ∃ a, ads[1]'h1' = a := ⟨_, rfl⟩
  obtain ⟨a3, ha3⟩ : ∃ a, ads[3]'h3' = a := ⟨_, rfl⟩
  rw [ha1, ha3]
  have HA1 := Lib.hid ha1
  have HA3 := Lib.hid ha3
  clear hs hlen hb hres V hW hp hpp hpw ha1 ha3
  go_enter Tryz.func133, Tryz.ntmps133
  go_wp2_with (go_at_call 130; (with_reducible refine (newRow_any _).mono ?_); rintro e w1 ⟨rfl, hp1, hq1, hsz1, hk1⟩; have HP1 := Lib.hid hp1; have HQ1 := Lib.hid hq1; have HS1 := Lib.hid hsz1; have HK1 := Lib.hid hk1; clear hp1 hq1 hsz1 hk1)
  go_loopw [3] (fun v wr => ∃ (gs : List (Int × List Int × Value)) (at' : Nat) (last : Int) (a : Option Addr) (n c : Nat), at' + n = len ∧ n ≤ c ∧ gs.length ≤ 16 ∧ 0 ≤ last ∧ SpSt W w w1 p gs.length last gs v (.slice a n c) wr ∧ SlB (.slice a n c) (bs.drop at') W ∧ RES = ((splitQ (17 - gs.length) (bs.drop at') last gs.length).1, gs.map fldQ ++ (splitQ (17 - gs.length) (bs.drop at') last gs.length).2)) (fun _ wr => boxLen p wr)
  case atStart => exact ⟨[], 0, 0, a, len, cap, by omega, hlc, by simp, Int.le_refl _, ⟨Kp.trans HW.out HK1.out, (Kb.refl _ _).kp HK1.out, Nat.le_refl _, kp_row HK1.out HP.out, HP1.out, HQ1.out, ⟨by simp, .inl ⟨rfl, rfl⟩⟩, (fun g hg => by cases hg)⟩, HS.out, by rw [← HRES.out]; rfl⟩
  case round =>
    obtain ⟨gs, at', last, a, n, c, hat, hnc, hg16, hlast, hst, hsl, hR⟩ := hrel
    have HST := Lib.hid hst
    have HSL := Lib.hid hsl
    have cbp := cell_of_one hst.bp
    obtain ⟨k, hk⟩ : ∃ k, gs.length = k := ⟨_, rfl⟩
    obtain ⟨cs, hcs⟩ : ∃ cs, bs.drop at' = cs := ⟨_, rfl⟩
    have hcl : cs.length = n := by have := HL.out; rw [← hcs, List.length_drop]; omega
    have hf : 17 - gs.length = (16 - k) + 1 := by omega
    rw [hf, hk, hcs, splitQ] at hR
    rw [hcs] at HSL
    rw [hk] at HST hg16
    have HK := Lib.hid hk
    obtain ⟨nn, hnn⟩ : ∃ nn : Int, (n : Int) = nn := ⟨_, rfl⟩
    clear hf hst hsl hk
    by_cases h0 : cs.length = 0
    · rw [if_pos h0] at hR
      have hex : ¬ nn > 0 := by omega
      have HR := Lib.hid hR
      clear hcl h0 hR hat hnc hcs
      go_wp2
      go_ret
      have hb1 : w.heap.size ≤ w1.heap.size := by have := HS1.out; omega
      have g1 : RES.1 = 0 := by rw [HR.out]
      have g2 : RES.2 = gs.map fldQ := by rw [HR.out]; simp
      have g3 : OwnD w.heap.size gs wr := fun g hg => ⟨own_mono (HST.out.od g hg).1 hb1, (HST.out.od g hg).2⟩
      exact ⟨.inl ⟨g1, _, rfl, gs, g2, own_mono HST.out.own hb1, g3⟩, HST.out.kW, HST.out.kb⟩
    · rw [if_neg h0] at hR
      have hgt : nn > 0 := by omega
      obtain ⟨b, off, rfl, hcx⟩ := HSL.out.at 0 (by omega)
      by_cases h3 : cs.length < 3
      · rw [if_pos h3] at hR
        have ht := take_short ads h1' p (some ⟨b, off, none⟩) n c 3 3 rfl (by omega) wr (HV.out.below HST.out.kW) HST.out.bp
        rw [HA1.out] at ht
        have HT := Lib.hid ht
        have HR := Lib.hid hR
        clear hcl h0 hR hat hnc hcs ht h3 hcx
        go_wp2_with (go_at_call 134; (with_reducible refine HT.out.mono ?_); rintro e w' ⟨rfl, rfl⟩)
        exact ⟨rfl, .inr (.inl ⟨by rw [HR.out], rfl⟩), HST.out.kW, HST.out.kb⟩
      · rw [if_neg h3] at hR
        obtain ⟨x0, x1, x2, rest, rfl⟩ := three h3
        have hgd : (x0 :: x1 :: x2 :: rest).getD 0 0 = x0 ∧ (x0 :: x1 :: x2 :: rest).getD 1 0 = x1 ∧ (x0 :: x1 :: x2 :: rest).getD 2 0 = x2 := ⟨rfl, rfl, rfl⟩
        rw [hgd.1, hgd.2.1, hgd.2.2] at hR
        have hbb : ∀ x ∈ x0 :: x1 :: x2 :: rest, 0 ≤ x ∧ x < 256 := fun x hx => HB.out x (List.mem_of_mem_drop (by rw [hcs]; exact hx))
        have r0 := hbb x0 (by simp)
        have r1 := hbb x1 (by simp)
        have r2 := hbb x2 (by simp)
        obtain ⟨m, hm⟩ : ∃ m : Int, x1 * 256 + x2 = m := ⟨_, rfl⟩
        have rm : 0 ≤ m ∧ m < 65536 := by omega
        rw [hm] at hR
        rw [Nat.add_zero, hgd.1] at hcx
        have h3n : 3 ≤ n := by omega
        have ht := take_ok ads p b off n c 3 3 rfl h3n hnc wr (HV.out.below HST.out.kW) HST.out.bp
        have hsl3 := slb_drop HSL.out h3n hnc
        have hsl2 := slb_drop (slb_take HSL.out h3n) (show 1 ≤ 3 by omega) (show 3 ≤ c by omega)
        have s1 := fun w => run_tail (b := b) (off := off) (n := 3) (c := c) (m := 1) (mm := 1) rfl (by omega) w
        obtain ⟨o1, ho1⟩ : ∃ o1, (if c = 1 then off else off + 1) = o1 := ⟨_, rfl⟩
        obtain ⟨o3, ho3⟩ : ∃ o3, (if c = 3 then off else off + 3) = o3 := ⟨_, rfl⟩
        obtain ⟨c1, hc1⟩ : ∃ c1, c - 1 = c1 := ⟨_, rfl⟩
        obtain ⟨c3, hc3⟩ : ∃ c3, c - 3 = c3 := ⟨_, rfl⟩
        obtain ⟨n3, hn3⟩ : ∃ n3, n - 3 = n3 := ⟨_, rfl⟩
        rw [ho3, hc3, hn3] at hsl3 ht
        rw [ho1, hc1] at hsl2 s1
        replace s1 : ∀ w, (Instr.slice 55 (.slice (some ⟨b, off, none⟩) 3 c) (some (.int .i64 1)) none none).run Tryz.prog w = .ok (.slice (some ⟨b, o1, none⟩) 2 c1) w := s1
        have hval := fun w1 (hk : Kp W w1) => value_any (some ⟨b, o1, none⟩) c1 [x1, x2] 2 rfl (by omega) (fun x hx => hbb x (by simp at hx ⊢; rcases hx with rfl | rfl <;> simp)) w1 (SlB.kp (show SlB _ [x1, x2] W from hsl2) hk)
        have hbe : beNum [x1, x2] = m := by rw [← hm]; unfold beNum; simp; omega
        simp only [hbe] at hval
        have HVAL := Lib.hid hval
        have hent : Calls Tryz.prog 134 #[.int .i64 3, .pointer (some ⟨p, 0, none⟩)] wr fun e w' => e = .returned (.slice (some ⟨b, off, none⟩) 3 c) ∧ SpSt W w w1 p k last gs u3 (.slice (some ⟨b, o3, none⟩) n3 c3) w' := by
          refine ht.mono ?_
          rintro e w' ⟨rfl, rfl⟩
          exact ⟨rfl, HST.out.setP HPP.out HPW.out HS1.out _⟩
        have HT := Lib.hid hent
        have HSL3 := Lib.hid hsl3
        have HR := Lib.hid hR
        have HCX := Lib.hid hcx
        have HCS := Lib.hid hcs
        clear ht hent hval hbe hsl3 hsl2 hcx hR ho1 ho3 hc1 hm hbb hgd h0 h3 hcl hcs
        go_wp2_with (go_at_call 134; (with_reducible refine HT.out.mono ?_); rintro e w2 ⟨rfl, hS2⟩; have S2 := Lib.hid hS2; have cx2 := kp_cell hS2.kW HCX.out; clear hS2)
        go_quiet ((go_at_call 135; exact Calls.quiet_of_same (calls_flip (HVAL.out _ (Kp.trans S2.out.kW (drewN_kp _ _))))))
        obtain ⟨wd, hwd⟩ : ∃ wd, w2.drewN nq = wd := ⟨_, rfl⟩
        rw [hwd]
        have hSD : SpSt W w w1 p k last gs u3 (.slice (some ⟨b, o3, none⟩) n3 c3) wd := by rw [← hwd]; exact S2.out.kp (drewN_kp _ _)
        have SD := Lib.hid hSD
        have hWw : W.heap.size ≤ w.heap.size := Below.size HW.out
        have HWw := Lib.hid hWw
        obtain ⟨M, hM⟩ : ∃ M : Nat, m.toNat = M := ⟨_, rfl⟩
        have hMm : (M : Int) = m := by omega
        obtain ⟨kk, hkk⟩ : ∃ kk : Int, (k : Int) = kk := ⟨_, rfl⟩
        rw [hkk] at SD
        have HKK := Lib.hid hkk
        have HMM := Lib.hid hMm
        have hlenr : (x0 :: x1 :: x2 :: rest).length = n := HSL.out.len
        have HLR := Lib.hid hlenr
        by_cases hmay : mayQ k last x0 M
        · have het := enter_t ads w.heap.size (w.heap.size + 1) k kk last x0 M m hkk hMm wd (HV.out.below SD.out.kW) SD.out.bB SD.out.bL (by omega) hmay
          obtain ⟨g1, g2, g3, g4⟩ := hmay
          have hR := HR.out
          rw [if_neg (by omega)] at hR
          have hent : Calls Tryz.prog 151 #[.int .i64 x0, .int .i64 m, .pointer (some ⟨w.heap.size, 0, none⟩), .pointer (some ⟨w.heap.size + 1, 0, none⟩)] wd fun e w' => e = .returned (.tuple #[]) ∧ SpSt W w w1 p (kk + 1) x0 gs u3 (.slice (some ⟨b, o3, none⟩) n3 c3) w' := by
            refine het.mono ?_
            rintro e w' ⟨rfl, rfl⟩
            exact ⟨rfl, SD.out.enter HWw.out HPW.out HS1.out _ _⟩
          have HEN := Lib.hid hent
          have hnc3 : n3 ≤ c3 := by omega
          by_cases hsh : n3 < M
          · rw [if_pos (by omega)] at hR
            have HT3 := Lib.hid (fun wE (hE : SpSt W w w1 p (kk + 1) x0 gs u3 (.slice (some ⟨b, o3, none⟩) n3 c3) wE) => take_short ads h1' p (some ⟨b, o3, none⟩) n3 c3 M m hMm hsh wE (HV.out.below hE.kW) hE.bp)
            have HR2 := Lib.hid hR
            have HA := HA1.out
            clear hent het hR hSD hwd hM hMm hkk hlenr hsh cx2 s1 hWw g1 g2 g3 g4
            go_wp2_with (first | (go_at_call 151; (with_reducible refine HEN.out.mono ?_); rintro e wE ⟨rfl, hE⟩; have SE := Lib.hid hE; have ht3 := HT3.out _ hE; rw [HA] at ht3; have HTT := Lib.hid ht3; clear hE ht3) | (go_at_call 134; (with_reducible refine HTT.out.mono ?_); rintro e w' ⟨rfl, rfl⟩))
            exact ⟨rfl, .inr (.inl ⟨by rw [HR2.out], rfl⟩), SE.out.kW, SE.out.kb⟩
          · rw [if_neg (by omega)] at hR
            have hMn : M ≤ n3 := by omega
            have htk := fun wE (hE : SpSt W w w1 p (kk + 1) x0 gs u3 (.slice (some ⟨b, o3, none⟩) n3 c3) wE) => take_ok ads p b o3 n3 c3 M m hMm hMn hnc3 wE (HV.out.below hE.kW) hE.bp
            have hws := slb_take HSL3.out hMn
            have hrs := slb_drop HSL3.out hMn hnc3
            obtain ⟨o4, ho4⟩ : ∃ o4, (if c3 = M then o3 else o3 + M) = o4 := ⟨_, rfl⟩
            obtain ⟨c4, hc4⟩ : ∃ c4, c3 - M = c4 := ⟨_, rfl⟩
            obtain ⟨n4, hn4⟩ : ∃ n4, n3 - M = n4 := ⟨_, rfl⟩
            rw [ho4, hc4, hn4] at hrs
            simp only [ho4, hc4, hn4] at htk
            obtain ⟨ws, hwse⟩ : ∃ ws, ((x0 :: x1 :: x2 :: rest).drop 3).take M = ws := ⟨_, rfl⟩
            rw [hwse] at hws
            have hwl : ws.length = M := hws.len
            have hwb : InB ws := by
              intro x hx
              rw [← hwse] at hx
              refine HB.out x (List.mem_of_mem_drop (i := at') ?_)
              rw [HCS.out]
              exact List.mem_of_mem_drop (List.mem_of_mem_take hx)
            rw [hM, hwse] at hR
            have HR2 := Lib.hid hR
            have HWS := Lib.hid hws
            have HRS := Lib.hid hrs
            have HWL := Lib.hid hwl
            have HWB := Lib.hid hwb
            have HTK := Lib.hid htk
            have hidx : 3 + M + n4 = n := by omega
            have hnc4 : n4 ≤ c4 := by omega
            have g5 : 0 ≤ x0 := by omega
            obtain ⟨i0, hi, hz0, hz1, hz2⟩ := HIF.out
            have HI := Lib.hid (And.intro hz1 hz2)
            have HI2 := Lib.hid hi
            have HI3 := Lib.hid hz0
            have hM200 : M ≤ 200 := g4
            clear hent het hR hSD hwd hMm hkk hlenr hsh cx2 s1 hWw ho4 hc4 hn4 hwse hwl hwb hws hrs htk hi hz0 hz1 hz2 g2 g3 g4 hM
            go_wp2_with (first | (go_at_call 151; (with_reducible refine HEN.out.mono ?_); rintro e wE ⟨rfl, hE⟩; have SE := Lib.hid hE; have HTT := Lib.hid (HTK.out _ hE); clear hE) | (go_at_call 134; (with_reducible refine HTT.out.mono ?_); rintro e wT ⟨rfl, hwT⟩; have hST := SE.out.setP HPP.out HPW.out HS1.out (.slice (some ⟨b, o4, none⟩) n4 c4); rw [← hwT] at hST; have ST := Lib.hid hST; have HCL := Lib.hid (clone_any (.slice (some ⟨b, o3, none⟩) M c3) ws (by rw [HWL.out]; omega) wT (HWS.out.kp hST.kW)); clear hwT hST) | (go_at_call 136; (with_reducible refine HCL.out.mono ?_); rintro e wC ⟨v5, rfl, ho5, hk5⟩; have HO5 := Lib.hid ho5; have K5 := Lib.hid hk5; have hfm := (own_slb ho5).form; obtain ⟨a5, c5, rfl⟩ := hfm; rw [HWL.out] at HO5; rw [HWL.out]; have SC := Lib.hid (ST.out.kp (Kp.trans hk5 (kp_alloc wC (.cells #[.int .i64 x0, .slice a5 M c5] 122)))); have KC := Lib.hid (kp_alloc wC (.cells #[.int .i64 x0, .slice a5 M c5] 122)); clear ho5 hk5) | (at_builtin; refine wpList_append_own _ rfl (.tmp 27) (.tmp 34) 118 rfl w1.heap.size 122 i0 (.agg #[.int .i64 0, .slice none 0 0]) 2 32 Tryz.underlying118 HI2.out HI3.out HI.out.1 HI.out.2 rfl (by decide) _ _ _ rfl SC.out.own ⟨wC.heap.size, 0, none⟩ 1 1 [.int .i64 x0, .slice a5 M c5] rfl ?c1 ?c2 ?c3 ?c4 ?c5 ?c6 ?_))
            case c1 => rfl
            case c2 =>
              intro i u hi
              rw [add_plain]
              have hb6 : (wC.alloc (.cells #[.int .i64 x0, .slice a5 M c5] 122)).heap[wC.heap.size]? = some (.cells #[.int .i64 x0, .slice a5 M c5] 122 (0, 0)) := (MapKept.heap_alloc _ _).1
              unfold World.cell?
              dsimp only
              rw [hb6]
              have hi3 : i < 2 := by
                rcases Nat.lt_or_ge i 2 with q | q
                · exact q
                · rw [List.getElem?_eq_none (by simpa using q)] at hi; cases hi
              match i, hi3, hi with
              | 0, _, hi | 1, _, hi => simpa using hi
            case c3 => intro u hu; simp at hu; rcases hu with rfl | rfl <;> rfl
            case c4 => have := HK.out; unfold maxLen; omega
            case c5 => have := HK.out; omega
            case c6 => exact SC.out.sz
            rintro v6 w6 hown6 hgr6 -
            have hbW : W.heap.size ≤ w1.heap.size := by have := HS1.out; have := HWw.out; omega
            have hb1 : w.heap.size ≤ w1.heap.size := by have := HS1.out; omega
            have hpw := HPW.out
            have hs1 := HS1.out
            have kw6 : Kp W w6 := rows_kp (own_mono SC.out.own hbW) hgr6 SC.out.kW
            have kb6 : Kb p w w6 := SC.out.kb.grow SC.out.own hb1 hgr6
            have sz6 : w1.heap.size ≤ w6.heap.size := Nat.le_trans SC.out.sz hgr6.size
            have bp6 := box_grow SC.out.own hgr6 SC.out.bp (by omega)
            have bB6 := box_grow SC.out.own hgr6 SC.out.bB (by omega)
            have bL6 := box_grow SC.out.own hgr6 SC.out.bL (by omega)
            have hgl : (gs ++ [(x0, ws, Value.slice a5 M c5)]).length = k + 1 := by simp [HK.out]
            have od6 : OwnD w1.heap.size (gs ++ [(x0, ws, Value.slice a5 M c5)]) w6 := by
              intro g hg
              rcases List.mem_append.1 hg with hg | hg
              · exact (SC.out.od.grows SC.out.own hgr6) g hg
              · have : g = (x0, ws, Value.slice a5 M c5) := by simpa using hg
                subst this
                refine ⟨?_, HWB.out⟩
                rw [HWL.out]
                exact own_grows SC.out.own hgr6 (own_kp (own_mono HO5.out ST.out.sz) KC.out) (by decide)
            have own6 : w6.ownsRow w1.heap.size 122 2 v6 (gs ++ [(x0, ws, Value.slice a5 M c5)]).length ((gs ++ [(x0, ws, Value.slice a5 M c5)]).flatMap cellQ) := by
              rw [hgl, List.flatMap_append]
              rw [HK.out] at hown6
              exact hown6
            have hst6 : SpSt W w w1 p (kk + 1) x0 (gs ++ [(x0, ws, Value.slice a5 M c5)]) v6 (.slice (some ⟨b, o4, none⟩) n4 c4) w6 := ⟨kw6, kb6, sz6, bp6, bB6, bL6, own6, od6⟩
            have S6 := Lib.hid hst6
            have HGL := Lib.hid hgl
            clear hst6 kw6 kb6 sz6 bp6 bB6 bL6 own6 od6 hown6 hgr6 hgl
            go_wp2
            go_roundw
            case rel =>
              have e1 : (((gs ++ [(x0, ws, Value.slice a5 M c5)]).length : Nat) : Int) = kk + 1 := by have := HGL.out; have := HKK.out; omega
              refine ⟨gs ++ [(x0, ws, Value.slice a5 M c5)], at' + (3 + M), x0, some ⟨b, o4, none⟩, n4, c4, by omega, hnc4, by rw [HGL.out]; omega, g5, by rw [e1]; exact S6.out, ?_, ?_⟩
              · have := HRS.out
                rw [List.drop_drop, ← HCS.out, List.drop_drop] at this
                exact this
              · have e2 : bs.drop (at' + (3 + M)) = (x0 :: x1 :: x2 :: rest).drop (3 + M) := by rw [← HCS.out, List.drop_drop]
                rw [HGL.out, HR2.out, e2, show 17 - (k + 1) = 16 - k by omega]
                simp [fldQ]
            case measure =>
              rw [boxLen_of S6.out.bp, boxLen_of HST.out.bp]
              omega
        · have hef := enter_f ads h3' w.heap.size (w.heap.size + 1) k kk last x0 M m hkk hMm wd (HV.out.below SD.out.kW) SD.out.bB SD.out.bL hmay
          rw [HA3.out] at hef
          have HEF := Lib.hid hef
          have hR := HR.out
          rw [if_pos (by
            rcases Nat.lt_or_ge k 16 with q | q
            · by_cases q2 : x0 ≤ last
              · exact .inl q2
              · by_cases q3 : 200 < m
                · exact .inr (.inl q3)
                · exact absurd ⟨q, by omega, by omega, by omega⟩ hmay
            · exact .inr (.inr (by omega)))] at hR
          have HR2 := Lib.hid hR
          clear hef hR hSD hwd hM hMm hkk hlenr hmay cx2 s1 hWw
          go_wp2_with (go_at_call 151; (with_reducible refine HEF.out.mono ?_); rintro e wE ⟨rfl, rfl⟩)
          exact ⟨rfl, .inr (.inr ⟨by rw [HR2.out], rfl⟩), SD.out.kW, SD.out.kb⟩
open Go.RowKit Go.ChangeShapes Go.WideShapes

theorem ownD_aside {w w' : World} {B base : Nat} {gs : List (Int × List Int × Value)} (h : OwnD base gs w) (ha : Aside B w w') (hb : B + 2 ≤ base) : OwnD base gs w' :=
  fun g hg => ⟨own_aside (h g hg).1 ha hb, (h g hg).2⟩

theorem split_any (ads : List Addr) (h1 : 1 < ads.length) (h3 : 3 < ads.length) (a : Option Addr) (cap : Nat) (bs : List Int) (len : Nat) (hlen : bs.length = len) (hl : len ≤ 1000000) (hlc : len ≤ cap) (hb : InB bs) (w : World) (V : St ads w) (hs : SlB (.slice a len cap) bs w) :
    Calls Tryz.prog 94 #[.slice a len cap] w fun e w' =>
      (((splitQ 17 bs 0 0).1 = 0 ∧ ∃ v, e = .returned (.tuple #[v, .nilIface]) ∧ SlQ v (splitQ 17 bs 0 0).2 w') ∨
       ((splitQ 17 bs 0 0).1 = 2 ∧ e = .returned (.tuple #[.slice none 0 0, snt (ads[1]'h1)])) ∨ ((splitQ 17 bs 0 0).1 = 4 ∧ e = .returned (.tuple #[.slice none 0 0, snt (ads[3]'h3)]))) ∧ Kp w w' := by
  have hmf : ∀ (fn : Fn) (first cap : Array Value) (w : World), (Instr.makeFunc fn first cap).run Tryz.prog w = .ok (.func fn first cap) w := fun _ _ _ _ => rfl
  have kb := kp_alloc w (.cells #[.slice a len cap] 55)
  have hbx : (w.alloc (boxS (.slice a len cap))).heap[w.heap.size]? = some (boxS (.slice a len cap)) := (MapKept.heap_alloc w _).1
  have hsz : (w.alloc (.cells #[.slice a len cap] 55)).heap.size = w.heap.size + 1 := by simp
  obtain ⟨RES, hres⟩ : ∃ RES, splitQ 17 bs 0 0 = RES := ⟨_, rfl⟩
  have HB := fun w1 (hk : Kp (w.alloc (.cells #[.slice a len cap] 55)) w1) => split1_any ads h1 h3 w a cap bs len hlen hl hlc hb hs V w1 (Kp.trans kb hk) (kp_row hk hbx)
  rw [hres] at HB ⊢
  have hf : ∀ w, (callFunc 133 #[.pointer (some ⟨w.heap.size, 0, none⟩)]).run Tryz.prog w = .ok (.enter 133 #[.pointer (some ⟨w.heap.size, 0, none⟩)]) w := by intro w; simp [go_sem]
  have KB := Lib.hid kb
  have HSZ := Lib.hid hsz
  have cases3 : RES.1 = 0 ∨ RES.1 = 2 ∨ RES.1 = 4 := by
    have := (HB _ (Kp.refl _)) []
    obtain ⟨e, w', fr, ⟨h, -⟩, -⟩ := this
    rcases h with ⟨h, -⟩ | ⟨h, -⟩ | ⟨h, -⟩
    · exact .inl h
    · exact .inr (.inl h)
    · exact .inr (.inr h)
  rcases cases3 with h0 | h0 | h0
  · have HT : Calls Tryz.prog 132 #[.func (.func 133) #[] #[.pointer (some ⟨w.heap.size, 0, none⟩)]] (w.alloc (.cells #[.slice a len cap] 55)) fun e w' => ∃ v, e = .returned (.tuple #[v, .nilIface]) ∧ SlQ v RES.2 w' ∧ Below w.heap.size w w' := by
      refine (try_fields_ret 133 _ _ (fun v w1 w2 => ∃ gs, RES.2 = gs.map fldQ ∧ w2.ownsRow w1.heap.size 122 2 v gs.length (gs.flatMap cellQ) ∧ OwnD w1.heap.size gs w2 ∧ Kp w w2) (by intro w; simp [go_sem]) fun w1 hb1 hs1 => ?_).mono ?_
      · refine (HB w1 hb1).mono ?_
        rintro e w2 ⟨h, hk, hkb⟩
        rcases h with ⟨_, v, gs, rfl, h2, ho, hd⟩ | ⟨h, _⟩ | ⟨h, _⟩
        · exact ⟨v, rfl, hkb.past (by rw [HSZ.out]; omega), gs, h2, ho, hd, hk⟩
        · rw [h0] at h; cases h
        · rw [h0] at h; cases h
      · rintro e w' ⟨v, rfl, w1, w2, hb1, hs1, ⟨gs, h2, ho, hd, hk⟩, hb2, ha⟩
        refine ⟨v, rfl, ?_, ?_⟩
        · rw [h2]
          exact own_slq rfl (own_aside ho ha (by omega)) (ownD_aside hd ha (by omega))
        · exact Below.trans hk (Below.mono hb2 (by rw [HSZ.out]; omega))
    have HTT := Lib.hid HT
    clear HT HB kb hbx hsz hs V
    go_enter Tryz.func94, Tryz.ntmps94
    go_wp2_with (go_at_call 132; (with_reducible refine HTT.out.mono ?_); rintro e w' ⟨v, rfl, ho, hk⟩; have HK := Lib.hid hk; have HO := Lib.hid ho; clear hk ho)
    go_ret2
    exact ⟨.inl ⟨h0, _, rfl, HO.out⟩, HK.out⟩
  · have HT : Calls Tryz.prog 132 #[.func (.func 133) #[] #[.pointer (some ⟨w.heap.size, 0, none⟩)]] (w.alloc (.cells #[.slice a len cap] 55)) fun e w' => e = .returned (.tuple #[.slice none 0 0, snt (ads[1]'h1)]) ∧ Below w.heap.size w w' := by
      refine (try_fields_panic ads 1 h1 133 _ _ (fun w1 w2 => Kp w w2) (by intro w; simp [go_sem]) fun w1 hb1 hs1 => ?_).mono ?_
      · refine (HB w1 hb1).mono ?_
        rintro e w2 ⟨h, hk, hkb⟩
        rcases h with ⟨h, _⟩ | ⟨_, rfl⟩ | ⟨h, _⟩
        · rw [h0] at h; cases h
        · exact ⟨rfl, V.below hk, hkb.past (by rw [HSZ.out]; omega), hk⟩
        · rw [h0] at h; cases h
      · rintro e w' ⟨rfl, w1, w2, hb1, hs1, hk, hb2⟩
        exact ⟨rfl, Below.trans hk (Below.mono hb2 (by rw [HSZ.out]; omega))⟩
    have HTT := Lib.hid HT
    clear HT HB kb hbx hsz hs V
    go_enter Tryz.func94, Tryz.ntmps94
    go_wp2_with (go_at_call 132; (with_reducible refine HTT.out.mono ?_); rintro e w' ⟨rfl, hk⟩; have HK := Lib.hid hk; clear hk)
    go_ret2
    exact ⟨.inr (.inl ⟨h0, rfl⟩), HK.out⟩
  · have HT : Calls Tryz.prog 132 #[.func (.func 133) #[] #[.pointer (some ⟨w.heap.size, 0, none⟩)]] (w.alloc (.cells #[.slice a len cap] 55)) fun e w' => e = .returned (.tuple #[.slice none 0 0, snt (ads[3]'h3)]) ∧ Below w.heap.size w w' := by
      refine (try_fields_panic ads 3 h3 133 _ _ (fun w1 w2 => Kp w w2) (by intro w; simp [go_sem]) fun w1 hb1 hs1 => ?_).mono ?_
      · refine (HB w1 hb1).mono ?_
        rintro e w2 ⟨h, hk, hkb⟩
        rcases h with ⟨h, _⟩ | ⟨h, _⟩ | ⟨_, rfl⟩
        · rw [h0] at h; cases h
        · rw [h0] at h; cases h
        · exact ⟨rfl, V.below hk, hkb.past (by rw [HSZ.out]; omega), hk⟩
      · rintro e w' ⟨rfl, w1, w2, hb1, hs1, hk, hb2⟩
        exact ⟨rfl, Below.trans hk (Below.mono hb2 (by rw [HSZ.out]; omega))⟩
    have HTT := Lib.hid HT
    clear HT HB kb hbx hsz hs V
    go_enter Tryz.func94, Tryz.ntmps94
    go_wp2_with (go_at_call 132; (with_reducible refine HTT.out.mono ?_); rintro e w' ⟨rfl, hk⟩; have HK := Lib.hid hk; clear hk)
    go_ret2
    exact ⟨.inr (.inr ⟨h0, rfl⟩), HK.out⟩
open Go.RowKit Go.ChangeShapes Go.WideShapes

/-- A RIGHT ROW is split to itself. -/
theorem split_join : ∀ (fs : List (Int × List Int)) (k f : Nat) (last : Int), runQ k last fs = true → (∀ g ∈ fs, 0 ≤ last) → fs.length ≤ f → (∀ g ∈ fs, InB g.2) → splitQ (f + 1) (joinB fs) last k = (0, fs)
  | [], k, f, last, _, _, _, _ => by
    rw [splitQ, if_pos (show (joinB []).length = 0 from rfl)]
  | g :: t, k, f, last, hr, hl, hf, hb => by
    rw [runQ, Bool.and_eq_true, decide_eq_true_eq] at hr
    obtain ⟨⟨h1, h2, h3, h4⟩, hr⟩ := hr
    have hl0 := hl g (by simp)
    obtain ⟨tag, d⟩ := g
    simp only at h2 h3 h4 hr
    have hj : joinB ((tag, d) :: t) = tag :: 0 :: (d.length : Int) :: (d ++ joinB t) := by
      show fieldB (tag, d) ++ joinB t = _
      simp [fieldB]
    rw [hj, splitQ]
    have hgd : (tag :: 0 :: (d.length : Int) :: (d ++ joinB t)).getD 0 0 = tag ∧ (tag :: 0 :: (d.length : Int) :: (d ++ joinB t)).getD 1 0 = 0 ∧ (tag :: 0 :: (d.length : Int) :: (d ++ joinB t)).getD 2 0 = (d.length : Int) := ⟨rfl, rfl, rfl⟩
    rw [hgd.1, hgd.2.1, hgd.2.2]
    have hm : (0 * 256 + (d.length : Int)).toNat = d.length := by omega
    have hd : (tag :: 0 :: (d.length : Int) :: (d ++ joinB t)).drop (3 + d.length) = joinB t := by
      rw [← List.drop_drop]
      show (d ++ joinB t).drop d.length = _
      simp
    have ht : ((tag :: 0 :: (d.length : Int) :: (d ++ joinB t)).drop 3).take d.length = d := by
      show (d ++ joinB t).take d.length = _
      simp
    rw [if_neg (by simp), if_neg (by simp), if_neg (by omega), if_neg (by simp; omega), hm, hd, ht]
    match f, hf with
    | f + 1, hf =>
      rw [split_join t (k + 1) f tag hr (fun _ _ => by omega) (by simpa using hf) (fun g hg => hb g (by simp [hg]))]
open Go.RowKit Go.ChangeShapes Go.WideShapes

theorem joinB_in {fs : List (Int × List Int)} (hs : Small fs) (hb : ∀ g ∈ fs, InB g.2) : InB (joinB fs) := by
  intro x hx
  obtain ⟨g, hg, hx⟩ := List.mem_flatMap.1 hx
  obtain ⟨h1, h2, h3⟩ := hs g hg
  unfold fieldB at hx
  simp only [List.mem_append, List.mem_cons, List.not_mem_nil, or_false] at hx
  rcases hx with (rfl | rfl | rfl) | hx
  · omega
  · omega
  · omega
  · exact hb g hg x hx

open Go.RowKit Go.ChangeShapes Go.WideShapes

theorem joinB_cons (g : Int × List Int) (t : List (Int × List Int)) : joinB (g :: t) = g.1 :: 0 :: (g.2.length : Int) :: (g.2 ++ joinB t) := by
  show fieldB g ++ joinB t = _
  simp [fieldB]

end Go.Proofs.YtpemeenfhkgmpaaGreatDoor
