/-
  PARTS OF THIS PROOF (own work): SplF, SplG, SplH, SplO, AliveF, SplV, JoinV, JoinX, NumL, CutL, CutV, FlagF, UnlV, FltV, LetB, ByN.
-/
import Derived.Test.YtahdoniggipmmaaGreatDoorPkE
import Derived.BigQuiet
import Derived.Test.YtahdoniggipmmaaGreatDoorPkA
import Derived.Lib.SlBytesConst
import Derived.Laws.AppendOwnNone
import Derived.Test.YtahdoniggipmmaaGreatDoorPkD
import Derived.Laws.Strings
import Derived.Test.YtahdoniggipmmaaGreatDoorPkB

namespace Go.Proofs.YtahdoniggipmmaaGreatDoor
open Go.RowKit Go.ChangeShapes Go.WideShapes

/-- ALL BUT THE BLOCK p IS AS IT WAS. -/
def Kb (p : Nat) (w w' : World) : Prop := w.heap.size ≤ w'.heap.size ∧ ∀ b, b ≠ p → b < w.heap.size → w'.heap[b]? = w.heap[b]?
theorem Kb.refl (p : Nat) (w : World) : Kb p w w := ⟨Nat.le_refl _, fun _ _ _ => rfl⟩
theorem Kb.kp {p : Nat} {w w1 w2 : World} (h : Kb p w w1) (hk : Kp w1 w2) : Kb p w w2 := ⟨Nat.le_trans h.1 (Below.size hk), fun b hb hl => by rw [Below.block hk b (Nat.lt_of_lt_of_le hl h.1)]; exact h.2 b hb hl⟩
theorem Kb.set {p : Nat} {w w1 : World} (h : Kb p w w1) (v : Value) : Kb p w (w1.setCell ⟨p, 0, none⟩ v) := ⟨by simp; exact h.1, fun b hb hl => by rw [Below.heap_setCell _ _ _ _ hb]; exact h.2 b hb hl⟩
theorem Kb.setNew {p q : Nat} {w w1 : World} (h : Kb p w w1) (hq : w.heap.size ≤ q) (v : Value) : Kb p w (w1.setCell ⟨q, 0, none⟩ v) := ⟨by simp; exact h.1, fun b hb hl => by rw [Below.heap_setCell _ _ _ _ (by simp; omega)]; exact h.2 b hb hl⟩
theorem Kb.grow {p : Nat} {w w1 w2 : World} {base n size : Nat} {e : TypeId} {v : Value} {xs : List Value} (h : Kb p w w1) (hown : w1.ownsRow base e size v n xs) (hb : w.heap.size ≤ base) (hgr : w1.grownBy w2 v.ownBlock) : Kb p w w2 :=
  ⟨Nat.le_trans h.1 hgr.size, fun b hne hl => by
    have hl1 : b < w1.heap.size := Nat.lt_of_lt_of_le hl h.1
    have hr : w1.heap[b]? = some w1.heap[b] := by simp [hl1]
    rw [box_grow hown hgr hr (by omega), ← hr]
    exact h.2 b hne hl⟩
theorem Kb.past {p B : Nat} {w w' : World} (h : Kb p w w') (hp : p < B) : Past B w w' := ⟨h.1, fun b hb hl => h.2 b (by omega) hl⟩

theorem drewN_kp (w : World) (n : Nat) : Kp w (w.drewN n) := by
  induction n with
  | zero => exact Kp.refl _
  | succ n ih => exact ih.drew

end Go.Proofs.YtahdoniggipmmaaGreatDoor

namespace Go.Proofs.YtahdoniggipmmaaGreatDoor
open Go.RowKit Go.ChangeShapes Go.WideShapes

/-- how many bytes are left in the box p -/
def boxLen (p : Nat) (w : World) : Nat := match w.cell? ⟨p, 0, none⟩ with | some (.slice _ n _) => n | _ => 0
theorem boxLen_of {p : Nat} {w : World} {a : Option Addr} {n c : Nat} (h : w.heap[p]? = some (boxS (.slice a n c))) : boxLen p w = n := by
  unfold boxLen
  rw [cell_of_one h]
theorem three {cs : List Int} (h : ¬ cs.length < 3) : ∃ x0 x1 x2 rest, cs = x0 :: x1 :: x2 :: rest := by
  match cs, h with
  | x0 :: x1 :: x2 :: rest, _ => exact ⟨x0, x1, x2, rest, rfl⟩
  | [], h => exact absurd (by simp) h
  | [_], h => exact absurd (by simp) h
  | [_, _], h => exact absurd (by simp) h

/-- WHERE A ROUND STANDS: what is left (the box p), how many fields there are and the last one's tag, the row. -/
structure SpSt (W w w1 : World) (p : Nat) (k last : Int) (gs : List (Int × List Int × Value)) (v bx : Value) (wr : World) : Prop where
  kW : Kp W wr
  kb : Kb p w wr
  sz : w1.heap.size ≤ wr.heap.size
  bp : wr.heap[p]? = some (boxS bx)
  bB : wr.heap[w.heap.size]? = some (boxI k)
  bL : wr.heap[w.heap.size + 1]? = some (boxI last)
  own : wr.ownsRow w1.heap.size 64 2 v gs.length (gs.flatMap cellQ)
  od : OwnD w1.heap.size gs wr
theorem SpSt.kp {W w w1 wr wr' : World} {p : Nat} {k last : Int} {gs : List (Int × List Int × Value)} {v bx : Value} (h : SpSt W w w1 p k last gs v bx wr) (hk : Kp wr wr') : SpSt W w w1 p k last gs v bx wr' :=
  ⟨Kp.trans h.kW hk, h.kb.kp hk, Nat.le_trans h.sz (Below.size hk), kp_row hk h.bp, kp_row hk h.bB, kp_row hk h.bL, own_kp h.own hk, h.od.kp hk⟩
theorem SpSt.setP {W w w1 wr : World} {p : Nat} {k last : Int} {gs : List (Int × List Int × Value)} {v bx : Value} (h : SpSt W w w1 p k last gs v bx wr) (hp : W.heap.size = p) (hpw : p < w.heap.size) (hs : w1.heap.size = w.heap.size + 2) (u : Value) : SpSt W w w1 p k last gs v u (wr.setCell ⟨p, 0, none⟩ u) :=
  ⟨Below.setCell h.kW (show W.heap.size ≤ p by omega) _, h.kb.set _, by simp; exact h.sz, one_setCell h.bp,
   by rw [Below.heap_setCell _ _ _ _ (by simp; omega)]; exact h.bB, by rw [Below.heap_setCell _ _ _ _ (by simp; omega)]; exact h.bL,
   ownsRow_setCell_below h.own (show p < w1.heap.size by omega) _, fun g hg => ⟨ownsRow_setCell_below (h.od g hg).1 (show p < w1.heap.size by omega) _, (h.od g hg).2⟩⟩
theorem SpSt.enter {W w w1 wr : World} {p : Nat} {k last : Int} {gs : List (Int × List Int × Value)} {v bx : Value} (h : SpSt W w w1 p k last gs v bx wr) (hW : W.heap.size ≤ w.heap.size) (hpw : p < w.heap.size) (hs : w1.heap.size = w.heap.size + 2) (k' last' : Int) :
    SpSt W w w1 p k' last' gs v bx ((wr.setCell ⟨w.heap.size, 0, none⟩ (.int .i64 k')).setCell ⟨w.heap.size + 1, 0, none⟩ (.int .i64 last')) :=
  ⟨Below.setCell (Below.setCell h.kW (show W.heap.size ≤ w.heap.size by omega) _) (show W.heap.size ≤ w.heap.size + 1 by omega) _, (h.kb.setNew (Nat.le_refl _) _).setNew (by omega) _, by simp; exact h.sz,
   by rw [Below.heap_setCell _ _ _ _ (by simp; omega), Below.heap_setCell _ _ _ _ (by simp; omega)]; exact h.bp,
   by rw [Below.heap_setCell _ _ _ _ (by simp)]; exact one_setCell h.bB,
   one_setCell (by rw [Below.heap_setCell _ _ _ _ (by simp)]; exact h.bL),
   ownsRow_setCell_below (ownsRow_setCell_below h.own (show w.heap.size < w1.heap.size by omega) _) (show w.heap.size + 1 < w1.heap.size by omega) _,
   fun g hg => ⟨ownsRow_setCell_below (ownsRow_setCell_below (h.od g hg).1 (show w.heap.size < w1.heap.size by omega) _) (show w.heap.size + 1 < w1.heap.size by omega) _, (h.od g hg).2⟩⟩

set_option maxRecDepth 20000 in
set_option maxHeartbeats 2000000 in
theorem split1_any (ads : List Addr) (h1' : 1 < ads.length) (h3' : 3 < ads.length) (W : World) (a : Option Addr) (cap : Nat) (bs : List Int) (len : Nat) (hlen : bs.length = len) (hl : len ≤ 1000000) (hlc : len ≤ cap) (hb : InB bs) (hs : SlB (.slice a len cap) bs W) (V : St ads W)
    (w : World) (hW : Kp W w) (hp : w.heap[W.heap.size]? = some (boxS (.slice a len cap))) :
    Calls Tryz.prog 74 #[.pointer (some ⟨W.heap.size, 0, none⟩)] w fun e w' =>
      (((splitQ 17 bs 0 0).1 = 0 ∧ ∃ v gs, e = .returned v ∧ (splitQ 17 bs 0 0).2 = gs.map fldQ ∧ w'.ownsRow w.heap.size 64 2 v gs.length (gs.flatMap cellQ) ∧ OwnD w.heap.size gs w') ∨
       ((splitQ 17 bs 0 0).1 = 2 ∧ e = .panicked [{ v := snt (ads[1]'h1'), recovered := false }]) ∨ ((splitQ 17 bs 0 0).1 = 4 ∧ e = .panicked [{ v := snt (ads[3]'h3'), recovered := false }])) ∧ Kp W w' ∧ Kb W.heap.size w w' := by
  have hmf : ∀ (fn : Fn) (first cap : Array Value) (w : World), (Instr.makeFunc fn first cap).run Tryz.prog w = .ok (.func fn first cap) w := fun _ _ _ _ => rfl
  obtain ⟨RES, hres⟩ : ∃ RES, splitQ 17 bs 0 0 = RES := ⟨_, rfl⟩
  rw [hres]
  have HRES := Lib.hid hres
  have HL := Lib.hid hlen
  have HB := Lib.hid hb
  have HS := Lib.hid hs
  have HV := Lib.hid V
  have HW := Lib.hid hW
  have HP := Lib.hid hp
  have HIB := Lib.hid (info_parts info_byte)
  have HIF := Lib.hid (info_parts info_fieldT)
  obtain ⟨p, hpp⟩ : ∃ p, W.heap.size = p := ⟨_, rfl⟩
  have HPP := Lib.hid hpp
  have hpw : p < w.heap.size := by rw [← hpp]; exact old_of_row hp
  have HPW := Lib.hid hpw
  rw [hpp] at HP ⊢
  obtain ⟨a1, ha1⟩ : ∃ a, ads[1]'h1' = a := ⟨_, rfl⟩
  obtain ⟨a3, ha3⟩ : ∃ a, ads[3]'h3' = a := ⟨_, rfl⟩
  rw [ha1, ha3]
  have HA1 := Lib.hid ha1
  have HA3 := Lib.hid ha3
  clear hs hlen hb hres V hW hp hpp hpw ha1 ha3
  go_enter Tryz.func74, Tryz.ntmps74
  go_wp2_with (go_at_call 64; (with_reducible refine (newRow_any _).mono ?_); rintro e w1 ⟨rfl, hp1, hq1, hsz1, hk1⟩; have HP1 := Lib.hid hp1; have HQ1 := Lib.hid hq1; have HS1 := Lib.hid hsz1; have HK1 := Lib.hid hk1; clear hp1 hq1 hsz1 hk1)
  go_loopw [3] (fun v wr => ∃ (gs : List (Int × List Int × Value)) (at' : Nat) (last : Int) (a : Option Addr) (n c : Nat), at' + n = len ∧ n ≤ c ∧ gs.length ≤ 16 ∧ 0 ≤ last ∧ SpSt W w w1 p gs.length last gs v (.slice a n c) wr ∧ SlB (.slice a n c) (bs.drop at') W ∧ RES = ((splitQ (17 - gs.length) (bs.drop at') last gs.length).1, gs.map fldQ ++ (splitQ (17 - gs.length) (bs.drop at') last gs.length).2)) (fun _ wr => boxLen p wr)
  case atStart => exact ⟨[], 0, 0, a, len, cap, by omega, hlc, by simp, Int.le_refl _, ⟨Kp.trans HW.out HK1.out, (Kb.refl _ _).kp HK1.out, Nat.le_refl _, kp_row HK1.out HP.out, HP1.out, HQ1.out, ⟨by simp, .inl ⟨rfl, rfl⟩⟩, (fun g hg => by cases hg)⟩, HS.out, by rw [← HRES.out]; rfl⟩
  case round =>
    obtain ⟨gs, at', last, a, n, c, hat, hnc, hg16, hlast, hst, hsl, hR⟩ := hrel
    have HST := Lib.hid hst
    have HSL := Lib.hid hsl
    have cbp := cell_of_one hst.bp
    obtain ⟨k, hk⟩ : ∃ k, gs.length = k := ⟨_, rfl⟩
    obtain ⟨cs, hcs⟩ : ∃ cs, bs.drop at' = cs := ⟨_, rfl⟩
    have hcl : cs.length = n := by have := HL.out; rw [← hcs, List.length_drop]; omega
    have hf : 17 - gs.length = (16 - k) + 1 := by omega
    rw [hf, hk, hcs, splitQ] at hR
    rw [hcs] at HSL
    rw [hk] at HST hg16
    have HK := Lib.hid hk
    obtain ⟨nn, hnn⟩ : ∃ nn : Int, (n : Int) = nn := ⟨_, rfl⟩
    clear hf hst hsl hk
    by_cases h0 : cs.length = 0
    · rw [if_pos h0] at hR
      have hex : ¬ nn > 0 := by omega
      have HR := Lib.hid hR
      clear hcl h0 hR hat hnc hcs
      go_wp2
      go_ret
      have hb1 : w.heap.size ≤ w1.heap.size := by have := HS1.out; omega
      have g1 : RES.1 = 0 := by rw [HR.out]
      have g2 : RES.2 = gs.map fldQ := by rw [HR.out]; simp
      have g3 : OwnD w.heap.size gs wr := fun g hg => ⟨own_mono (HST.out.od g hg).1 hb1, (HST.out.od g hg).2⟩
      exact ⟨.inl ⟨g1, _, rfl, gs, g2, own_mono HST.out.own hb1, g3⟩, HST.out.kW, HST.out.kb⟩
    · rw [if_neg h0] at hR
      have hgt : nn > 0 := by omega
      obtain ⟨b, off, rfl, hcx⟩ := HSL.out.at 0 (by omega)
      by_cases h3 : cs.length < 3
      · rw [if_pos h3] at hR
        have ht := take_short ads h1' p (some ⟨b, off, none⟩) n c 3 3 rfl (by omega) wr (HV.out.below HST.out.kW) HST.out.bp
        rw [HA1.out] at ht
        have HT := Lib.hid ht
        have HR := Lib.hid hR
        clear hcl h0 hR hat hnc hcs ht h3 hcx
        go_wp2_with (go_at_call 75; (with_reducible refine HT.out.mono ?_); rintro e w' ⟨rfl, rfl⟩)
        exact ⟨rfl, .inr (.inl ⟨by rw [HR.out], rfl⟩), HST.out.kW, HST.out.kb⟩
      · rw [if_neg h3] at hR
        obtain ⟨x0, x1, x2, rest, rfl⟩ := three h3
        have hgd : (x0 :: x1 :: x2 :: rest).getD 0 0 = x0 ∧ (x0 :: x1 :: x2 :: rest).getD 1 0 = x1 ∧ (x0 :: x1 :: x2 :: rest).getD 2 0 = x2 := ⟨rfl, rfl, rfl⟩
        rw [hgd.1, hgd.2.1, hgd.2.2] at hR
        have hbb : ∀ x ∈ x0 :: x1 :: x2 :: rest, 0 ≤ x ∧ x < 256 := fun x hx => HB.out x (List.mem_of_mem_drop (by rw [hcs]; exact hx))
        have r0 := hbb x0 (by simp)
        have r1 := hbb x1 (by simp)
        have r2 := hbb x2 (by simp)
        obtain ⟨m, hm⟩ : ∃ m : Int, x1 * 256 + x2 = m := ⟨_, rfl⟩
        have rm : 0 ≤ m ∧ m < 65536 := by omega
        rw [hm] at hR
        rw [Nat.add_zero, hgd.1] at hcx
        have h3n : 3 ≤ n := by omega
        have ht := take_ok ads p b off n c 3 3 rfl h3n hnc wr (HV.out.below HST.out.kW) HST.out.bp
        have hsl3 := slb_drop HSL.out h3n hnc
        have hsl2 := slb_drop (slb_take HSL.out h3n) (show 1 ≤ 3 by omega) (show 3 ≤ c by omega)
        have s1 := fun w => run_tail (b := b) (off := off) (n := 3) (c := c) (m := 1) (mm := 1) rfl (by omega) w
        obtain ⟨o1, ho1⟩ : ∃ o1, (if c = 1 then off else off + 1) = o1 := ⟨_, rfl⟩
        obtain ⟨o3, ho3⟩ : ∃ o3, (if c = 3 then off else off + 3) = o3 := ⟨_, rfl⟩
        obtain ⟨c1, hc1⟩ : ∃ c1, c - 1 = c1 := ⟨_, rfl⟩
        obtain ⟨c3, hc3⟩ : ∃ c3, c - 3 = c3 := ⟨_, rfl⟩
        obtain ⟨n3, hn3⟩ : ∃ n3, n - 3 = n3 := ⟨_, rfl⟩
        rw [ho3, hc3, hn3] at hsl3 ht
        rw [ho1, hc1] at hsl2 s1
        replace s1 : ∀ w, (Instr.slice 29 (.slice (some ⟨b, off, none⟩) 3 c) (some (.int .i64 1)) none none).run Tryz.prog w = .ok (.slice (some ⟨b, o1, none⟩) 2 c1) w := s1
        have hval := fun w1 (hk : Kp W w1) => value_any (some ⟨b, o1, none⟩) c1 [x1, x2] 2 rfl (by omega) (fun x hx => hbb x (by simp at hx ⊢; rcases hx with rfl | rfl <;> simp)) w1 (SlB.kp (show SlB _ [x1, x2] W from hsl2) hk)
        have hbe : beNum [x1, x2] = m := by rw [← hm]; unfold beNum; simp; omega
        simp only [hbe] at hval
        have HVAL := Lib.hid hval
        have hent : Calls Tryz.prog 75 #[.int .i64 3, .pointer (some ⟨p, 0, none⟩)] wr fun e w' => e = .returned (.slice (some ⟨b, off, none⟩) 3 c) ∧ SpSt W w w1 p k last gs u3 (.slice (some ⟨b, o3, none⟩) n3 c3) w' := by
          refine ht.mono ?_
          rintro e w' ⟨rfl, rfl⟩
          exact ⟨rfl, HST.out.setP HPP.out HPW.out HS1.out _⟩
        have HT := Lib.hid hent
        have HSL3 := Lib.hid hsl3
        have HR := Lib.hid hR
        have HCX := Lib.hid hcx
        have HCS := Lib.hid hcs
        clear ht hent hval hbe hsl3 hsl2 hcx hR ho1 ho3 hc1 hm hbb hgd h0 h3 hcl hcs
        go_wp2_with (go_at_call 75; (with_reducible refine HT.out.mono ?_); rintro e w2 ⟨rfl, hS2⟩; have S2 := Lib.hid hS2; have cx2 := kp_cell hS2.kW HCX.out; clear hS2)
        go_quiet ((go_at_call 76; exact Calls.quiet_of_same (calls_flip (HVAL.out _ (Kp.trans S2.out.kW (drewN_kp _ _))))))
        obtain ⟨wd, hwd⟩ : ∃ wd, w2.drewN nq = wd := ⟨_, rfl⟩
        rw [hwd]
        have hSD : SpSt W w w1 p k last gs u3 (.slice (some ⟨b, o3, none⟩) n3 c3) wd := by rw [← hwd]; exact S2.out.kp (drewN_kp _ _)
        have SD := Lib.hid hSD
        have hWw : W.heap.size ≤ w.heap.size := Below.size HW.out
        have HWw := Lib.hid hWw
        obtain ⟨M, hM⟩ : ∃ M : Nat, m.toNat = M := ⟨_, rfl⟩
        have hMm : (M : Int) = m := by omega
        obtain ⟨kk, hkk⟩ : ∃ kk : Int, (k : Int) = kk := ⟨_, rfl⟩
        rw [hkk] at SD
        have HKK := Lib.hid hkk
        have HMM := Lib.hid hMm
        have hlenr : (x0 :: x1 :: x2 :: rest).length = n := HSL.out.len
        have HLR := Lib.hid hlenr
        by_cases hmay : mayQ k last x0 M
        · have het := enter_t ads w.heap.size (w.heap.size + 1) k kk last x0 M m hkk hMm wd (HV.out.below SD.out.kW) SD.out.bB SD.out.bL (by omega) hmay
          obtain ⟨g1, g2, g3, g4⟩ := hmay
          have hR := HR.out
          rw [if_neg (by omega)] at hR
          have hent : Calls Tryz.prog 87 #[.int .i64 x0, .int .i64 m, .pointer (some ⟨w.heap.size, 0, none⟩), .pointer (some ⟨w.heap.size + 1, 0, none⟩)] wd fun e w' => e = .returned (.tuple #[]) ∧ SpSt W w w1 p (kk + 1) x0 gs u3 (.slice (some ⟨b, o3, none⟩) n3 c3) w' := by
            refine het.mono ?_
            rintro e w' ⟨rfl, rfl⟩
            exact ⟨rfl, SD.out.enter HWw.out HPW.out HS1.out _ _⟩
          have HEN := Lib.hid hent
          have hnc3 : n3 ≤ c3 := by omega
          by_cases hsh : n3 < M
          · rw [if_pos (by omega)] at hR
            have HT3 := Lib.hid (fun wE (hE : SpSt W w w1 p (kk + 1) x0 gs u3 (.slice (some ⟨b, o3, none⟩) n3 c3) wE) => take_short ads h1' p (some ⟨b, o3, none⟩) n3 c3 M m hMm hsh wE (HV.out.below hE.kW) hE.bp)
            have HR2 := Lib.hid hR
            have HA := HA1.out
            clear hent het hR hSD hwd hM hMm hkk hlenr hsh cx2 s1 hWw g1 g2 g3 g4
            go_wp2_with (first | (go_at_call 87; (with_reducible refine HEN.out.mono ?_); rintro e wE ⟨rfl, hE⟩; have SE := Lib.hid hE; have ht3 := HT3.out _ hE; rw [HA] at ht3; have HTT := Lib.hid ht3; clear hE ht3) | (go_at_call 75; (with_reducible refine HTT.out.mono ?_); rintro e w' ⟨rfl, rfl⟩))
            exact ⟨rfl, .inr (.inl ⟨by rw [HR2.out], rfl⟩), SE.out.kW, SE.out.kb⟩
          · rw [if_neg (by omega)] at hR
            have hMn : M ≤ n3 := by omega
            have htk := fun wE (hE : SpSt W w w1 p (kk + 1) x0 gs u3 (.slice (some ⟨b, o3, none⟩) n3 c3) wE) => take_ok ads p b o3 n3 c3 M m hMm hMn hnc3 wE (HV.out.below hE.kW) hE.bp
            have hws := slb_take HSL3.out hMn
            have hrs := slb_drop HSL3.out hMn hnc3
            obtain ⟨o4, ho4⟩ : ∃ o4, (if c3 = M then o3 else o3 + M) = o4 := ⟨_, rfl⟩
            obtain ⟨c4, hc4⟩ : ∃ c4, c3 - M = c4 := ⟨_, rfl⟩
            obtain ⟨n4, hn4⟩ : ∃ n4, n3 - M = n4 := ⟨_, rfl⟩
            rw [ho4, hc4, hn4] at hrs
            simp only [ho4, hc4, hn4] at htk
            obtain ⟨ws, hwse⟩ : ∃ ws, ((x0 :: x1 :: x2 :: rest).drop 3).take M = ws := ⟨_, rfl⟩
            rw [hwse] at hws
            have hwl : ws.length = M := hws.len
            have hwb : InB ws := by
              intro x hx
              rw [← hwse] at hx
              refine HB.out x (List.mem_of_mem_drop (i := at') ?_)
              rw [HCS.out]
              exact List.mem_of_mem_drop (List.mem_of_mem_take hx)
            rw [hM, hwse] at hR
            have HR2 := Lib.hid hR
            have HWS := Lib.hid hws
            have HRS := Lib.hid hrs
            have HWL := Lib.hid hwl
            have HWB := Lib.hid hwb
            have HTK := Lib.hid htk
            have hidx : 3 + M + n4 = n := by omega
            have hnc4 : n4 ≤ c4 := by omega
            have g5 : 0 ≤ x0 := by omega
            obtain ⟨i0, hi, hz0, hz1, hz2⟩ := HIF.out
            have HI := Lib.hid (And.intro hz1 hz2)
            have HI2 := Lib.hid hi
            have HI3 := Lib.hid hz0
            have hM200 : M ≤ 200 := g4
            clear hent het hR hSD hwd hMm hkk hlenr hsh cx2 s1 hWw ho4 hc4 hn4 hwse hwl hwb hws hrs htk hi hz0 hz1 hz2 g2 g3 g4 hM
            go_wp2_with (first | (go_at_call 87; (with_reducible refine HEN.out.mono ?_); rintro e wE ⟨rfl, hE⟩; have SE := Lib.hid hE; have HTT := Lib.hid (HTK.out _ hE); clear hE) | (go_at_call 75; (with_reducible refine HTT.out.mono ?_); rintro e wT ⟨rfl, hwT⟩; have hST := SE.out.setP HPP.out HPW.out HS1.out (.slice (some ⟨b, o4, none⟩) n4 c4); rw [← hwT] at hST; have ST := Lib.hid hST; have HCL := Lib.hid (clone_any (.slice (some ⟨b, o3, none⟩) M c3) ws (by rw [HWL.out]; omega) wT (HWS.out.kp hST.kW)); clear hwT hST) | (go_at_call 77; (with_reducible refine HCL.out.mono ?_); rintro e wC ⟨v5, rfl, ho5, hk5⟩; have HO5 := Lib.hid ho5; have K5 := Lib.hid hk5; have hfm := (own_slb ho5).form; obtain ⟨a5, c5, rfl⟩ := hfm; rw [HWL.out] at HO5; rw [HWL.out]; have SC := Lib.hid (ST.out.kp (Kp.trans hk5 (kp_alloc wC (.cells #[.int .i64 x0, .slice a5 M c5] 64)))); have KC := Lib.hid (kp_alloc wC (.cells #[.int .i64 x0, .slice a5 M c5] 64)); clear ho5 hk5) | (at_builtin; refine wpList_append_own _ rfl (.tmp 27) (.tmp 34) 56 rfl w1.heap.size 64 i0 (.agg #[.int .i64 0, .slice none 0 0]) 2 32 Tryz.underlying56 HI2.out HI3.out HI.out.1 HI.out.2 rfl (by decide) _ _ _ rfl SC.out.own ⟨wC.heap.size, 0, none⟩ 1 1 [.int .i64 x0, .slice a5 M c5] rfl ?c1 ?c2 ?c3 ?c4 ?c5 ?c6 ?_))
            case c1 => rfl
            case c2 =>
              intro i u hi
              rw [add_plain]
              have hb6 : (wC.alloc (.cells #[.int .i64 x0, .slice a5 M c5] 64)).heap[wC.heap.size]? = some (.cells #[.int .i64 x0, .slice a5 M c5] 64 (0, 0)) := (MapKept.heap_alloc _ _).1
              unfold World.cell?
              dsimp only
              rw [hb6]
              have hi3 : i < 2 := by
                rcases Nat.lt_or_ge i 2 with q | q
                · exact q
                · rw [List.getElem?_eq_none (by simpa using q)] at hi; cases hi
              match i, hi3, hi with
              | 0, _, hi | 1, _, hi => simpa using hi
            case c3 => intro u hu; simp at hu; rcases hu with rfl | rfl <;> rfl
            case c4 => have := HK.out; unfold maxLen; omega
            case c5 => have := HK.out; omega
            case c6 => exact SC.out.sz
            rintro v6 w6 hown6 hgr6 -
            have hbW : W.heap.size ≤ w1.heap.size := by have := HS1.out; have := HWw.out; omega
            have hb1 : w.heap.size ≤ w1.heap.size := by have := HS1.out; omega
            have hpw := HPW.out
            have hs1 := HS1.out
            have kw6 : Kp W w6 := rows_kp (own_mono SC.out.own hbW) hgr6 SC.out.kW
            have kb6 : Kb p w w6 := SC.out.kb.grow SC.out.own hb1 hgr6
            have sz6 : w1.heap.size ≤ w6.heap.size := Nat.le_trans SC.out.sz hgr6.size
            have bp6 := box_grow SC.out.own hgr6 SC.out.bp (by omega)
            have bB6 := box_grow SC.out.own hgr6 SC.out.bB (by omega)
            have bL6 := box_grow SC.out.own hgr6 SC.out.bL (by omega)
            have hgl : (gs ++ [(x0, ws, Value.slice a5 M c5)]).length = k + 1 := by simp [HK.out]
            have od6 : OwnD w1.heap.size (gs ++ [(x0, ws, Value.slice a5 M c5)]) w6 := by
              intro g hg
              rcases List.mem_append.1 hg with hg | hg
              · exact (SC.out.od.grows SC.out.own hgr6) g hg
              · have : g = (x0, ws, Value.slice a5 M c5) := by simpa using hg
                subst this
                refine ⟨?_, HWB.out⟩
                rw [HWL.out]
                exact own_grows SC.out.own hgr6 (own_kp (own_mono HO5.out ST.out.sz) KC.out) (by decide)
            have own6 : w6.ownsRow w1.heap.size 64 2 v6 (gs ++ [(x0, ws, Value.slice a5 M c5)]).length ((gs ++ [(x0, ws, Value.slice a5 M c5)]).flatMap cellQ) := by
              rw [hgl, List.flatMap_append]
              rw [HK.out] at hown6
              exact hown6
            have hst6 : SpSt W w w1 p (kk + 1) x0 (gs ++ [(x0, ws, Value.slice a5 M c5)]) v6 (.slice (some ⟨b, o4, none⟩) n4 c4) w6 := ⟨kw6, kb6, sz6, bp6, bB6, bL6, own6, od6⟩
            have S6 := Lib.hid hst6
            have HGL := Lib.hid hgl
            clear hst6 kw6 kb6 sz6 bp6 bB6 bL6 own6 od6 hown6 hgr6 hgl
            go_wp2
            go_roundw
            case rel =>
              have e1 : (((gs ++ [(x0, ws, Value.slice a5 M c5)]).length : Nat) : Int) = kk + 1 := by have := HGL.out; have := HKK.out; omega
              refine ⟨gs ++ [(x0, ws, Value.slice a5 M c5)], at' + (3 + M), x0, some ⟨b, o4, none⟩, n4, c4, by omega, hnc4, by rw [HGL.out]; omega, g5, by rw [e1]; exact S6.out, ?_, ?_⟩
              · have := HRS.out
                rw [List.drop_drop, ← HCS.out, List.drop_drop] at this
                exact this
              · have e2 : bs.drop (at' + (3 + M)) = (x0 :: x1 :: x2 :: rest).drop (3 + M) := by rw [← HCS.out, List.drop_drop]
                rw [HGL.out, HR2.out, e2, show 17 - (k + 1) = 16 - k by omega]
                simp [fldQ]
            case measure =>
              rw [boxLen_of S6.out.bp, boxLen_of HST.out.bp]
              omega
        · have hef := enter_f ads h3' w.heap.size (w.heap.size + 1) k kk last x0 M m hkk hMm wd (HV.out.below SD.out.kW) SD.out.bB SD.out.bL hmay
          rw [HA3.out] at hef
          have HEF := Lib.hid hef
          have hR := HR.out
          rw [if_pos (by
            rcases Nat.lt_or_ge k 16 with q | q
            · by_cases q2 : x0 ≤ last
              · exact .inl q2
              · by_cases q3 : 200 < m
                · exact .inr (.inl q3)
                · exact absurd ⟨q, by omega, by omega, by omega⟩ hmay
            · exact .inr (.inr (by omega)))] at hR
          have HR2 := Lib.hid hR
          clear hef hR hSD hwd hM hMm hkk hlenr hmay cx2 s1 hWw
          go_wp2_with (go_at_call 87; (with_reducible refine HEF.out.mono ?_); rintro e wE ⟨rfl, rfl⟩)
          exact ⟨rfl, .inr (.inr ⟨by rw [HR2.out], rfl⟩), SD.out.kW, SD.out.kb⟩
end Go.Proofs.YtahdoniggipmmaaGreatDoor

namespace Go.Proofs.YtahdoniggipmmaaGreatDoor
open Go.RowKit Go.ChangeShapes Go.WideShapes

theorem ownD_aside {w w' : World} {B base : Nat} {gs : List (Int × List Int × Value)} (h : OwnD base gs w) (ha : Aside B w w') (hb : B + 2 ≤ base) : OwnD base gs w' :=
  fun g hg => ⟨own_aside (h g hg).1 ha hb, (h g hg).2⟩

theorem split_any (ads : List Addr) (h1 : 1 < ads.length) (h3 : 3 < ads.length) (a : Option Addr) (cap : Nat) (bs : List Int) (len : Nat) (hlen : bs.length = len) (hl : len ≤ 1000000) (hlc : len ≤ cap) (hb : InB bs) (w : World) (V : St ads w) (hs : SlB (.slice a len cap) bs w) :
    Calls Tryz.prog 41 #[.slice a len cap] w fun e w' =>
      (((splitQ 17 bs 0 0).1 = 0 ∧ ∃ v, e = .returned (.tuple #[v, .nilIface]) ∧ SlQ v (splitQ 17 bs 0 0).2 w') ∨
       ((splitQ 17 bs 0 0).1 = 2 ∧ e = .returned (.tuple #[.slice none 0 0, snt (ads[1]'h1)])) ∨ ((splitQ 17 bs 0 0).1 = 4 ∧ e = .returned (.tuple #[.slice none 0 0, snt (ads[3]'h3)]))) ∧ Kp w w' := by
  have hmf : ∀ (fn : Fn) (first cap : Array Value) (w : World), (Instr.makeFunc fn first cap).run Tryz.prog w = .ok (.func fn first cap) w := fun _ _ _ _ => rfl
  have kb := kp_alloc w (.cells #[.slice a len cap] 29)
  have hbx : (w.alloc (boxS (.slice a len cap))).heap[w.heap.size]? = some (boxS (.slice a len cap)) := (MapKept.heap_alloc w _).1
  have hsz : (w.alloc (.cells #[.slice a len cap] 29)).heap.size = w.heap.size + 1 := by simp
  obtain ⟨RES, hres⟩ : ∃ RES, splitQ 17 bs 0 0 = RES := ⟨_, rfl⟩
  have HB := fun w1 (hk : Kp (w.alloc (.cells #[.slice a len cap] 29)) w1) => split1_any ads h1 h3 w a cap bs len hlen hl hlc hb hs V w1 (Kp.trans kb hk) (kp_row hk hbx)
  rw [hres] at HB ⊢
  have hf : ∀ w, (callFunc 74 #[.pointer (some ⟨w.heap.size, 0, none⟩)]).run Tryz.prog w = .ok (.enter 74 #[.pointer (some ⟨w.heap.size, 0, none⟩)]) w := by intro w; simp [go_sem]
  have KB := Lib.hid kb
  have HSZ := Lib.hid hsz
  have cases3 : RES.1 = 0 ∨ RES.1 = 2 ∨ RES.1 = 4 := by
    have := (HB _ (Kp.refl _)) []
    obtain ⟨e, w', fr, ⟨h, -⟩, -⟩ := this
    rcases h with ⟨h, -⟩ | ⟨h, -⟩ | ⟨h, -⟩
    · exact .inl h
    · exact .inr (.inl h)
    · exact .inr (.inr h)
  rcases cases3 with h0 | h0 | h0
  · have HT : Calls Tryz.prog 73 #[.func (.func 74) #[] #[.pointer (some ⟨w.heap.size, 0, none⟩)]] (w.alloc (.cells #[.slice a len cap] 29)) fun e w' => ∃ v, e = .returned (.tuple #[v, .nilIface]) ∧ SlQ v RES.2 w' ∧ Below w.heap.size w w' := by
      refine (try_fields_ret 74 _ _ (fun v w1 w2 => ∃ gs, RES.2 = gs.map fldQ ∧ w2.ownsRow w1.heap.size 64 2 v gs.length (gs.flatMap cellQ) ∧ OwnD w1.heap.size gs w2 ∧ Kp w w2) (by intro w; simp [go_sem]) fun w1 hb1 hs1 => ?_).mono ?_
      · refine (HB w1 hb1).mono ?_
        rintro e w2 ⟨h, hk, hkb⟩
        rcases h with ⟨_, v, gs, rfl, h2, ho, hd⟩ | ⟨h, _⟩ | ⟨h, _⟩
        · exact ⟨v, rfl, hkb.past (by rw [HSZ.out]; omega), gs, h2, ho, hd, hk⟩
        · rw [h0] at h; cases h
        · rw [h0] at h; cases h
      · rintro e w' ⟨v, rfl, w1, w2, hb1, hs1, ⟨gs, h2, ho, hd, hk⟩, hb2, ha⟩
        refine ⟨v, rfl, ?_, ?_⟩
        · rw [h2]
          exact own_slq rfl (own_aside ho ha (by omega)) (ownD_aside hd ha (by omega))
        · exact Below.trans hk (Below.mono hb2 (by rw [HSZ.out]; omega))
    have HTT := Lib.hid HT
    clear HT HB kb hbx hsz hs V
    go_enter Tryz.func41, Tryz.ntmps41
    go_wp2_with (go_at_call 73; (with_reducible refine HTT.out.mono ?_); rintro e w' ⟨v, rfl, ho, hk⟩; have HK := Lib.hid hk; have HO := Lib.hid ho; clear hk ho)
    go_ret2
    exact ⟨.inl ⟨h0, _, rfl, HO.out⟩, HK.out⟩
  · have HT : Calls Tryz.prog 73 #[.func (.func 74) #[] #[.pointer (some ⟨w.heap.size, 0, none⟩)]] (w.alloc (.cells #[.slice a len cap] 29)) fun e w' => e = .returned (.tuple #[.slice none 0 0, snt (ads[1]'h1)]) ∧ Below w.heap.size w w' := by
      refine (try_fields_panic ads 1 h1 74 _ _ (fun w1 w2 => Kp w w2) (by intro w; simp [go_sem]) fun w1 hb1 hs1 => ?_).mono ?_
      · refine (HB w1 hb1).mono ?_
        rintro e w2 ⟨h, hk, hkb⟩
        rcases h with ⟨h, _⟩ | ⟨_, rfl⟩ | ⟨h, _⟩
        · rw [h0] at h; cases h
        · exact ⟨rfl, V.below hk, hkb.past (by rw [HSZ.out]; omega), hk⟩
        · rw [h0] at h; cases h
      · rintro e w' ⟨rfl, w1, w2, hb1, hs1, hk, hb2⟩
        exact ⟨rfl, Below.trans hk (Below.mono hb2 (by rw [HSZ.out]; omega))⟩
    have HTT := Lib.hid HT
    clear HT HB kb hbx hsz hs V
    go_enter Tryz.func41, Tryz.ntmps41
    go_wp2_with (go_at_call 73; (with_reducible refine HTT.out.mono ?_); rintro e w' ⟨rfl, hk⟩; have HK := Lib.hid hk; clear hk)
    go_ret2
    exact ⟨.inr (.inl ⟨h0, rfl⟩), HK.out⟩
  · have HT : Calls Tryz.prog 73 #[.func (.func 74) #[] #[.pointer (some ⟨w.heap.size, 0, none⟩)]] (w.alloc (.cells #[.slice a len cap] 29)) fun e w' => e = .returned (.tuple #[.slice none 0 0, snt (ads[3]'h3)]) ∧ Below w.heap.size w w' := by
      refine (try_fields_panic ads 3 h3 74 _ _ (fun w1 w2 => Kp w w2) (by intro w; simp [go_sem]) fun w1 hb1 hs1 => ?_).mono ?_
      · refine (HB w1 hb1).mono ?_
        rintro e w2 ⟨h, hk, hkb⟩
        rcases h with ⟨h, _⟩ | ⟨h, _⟩ | ⟨_, rfl⟩
        · rw [h0] at h; cases h
        · rw [h0] at h; cases h
        · exact ⟨rfl, V.below hk, hkb.past (by rw [HSZ.out]; omega), hk⟩
      · rintro e w' ⟨rfl, w1, w2, hb1, hs1, hk, hb2⟩
        exact ⟨rfl, Below.trans hk (Below.mono hb2 (by rw [HSZ.out]; omega))⟩
    have HTT := Lib.hid HT
    clear HT HB kb hbx hsz hs V
    go_enter Tryz.func41, Tryz.ntmps41
    go_wp2_with (go_at_call 73; (with_reducible refine HTT.out.mono ?_); rintro e w' ⟨rfl, hk⟩; have HK := Lib.hid hk; clear hk)
    go_ret2
    exact ⟨.inr (.inr ⟨h0, rfl⟩), HK.out⟩
end Go.Proofs.YtahdoniggipmmaaGreatDoor

namespace Go.Proofs.YtahdoniggipmmaaGreatDoor
open Go.RowKit Go.ChangeShapes Go.WideShapes

theorem split_own (ads : List Addr) (h1 : 1 < ads.length) (h3 : 3 < ads.length) (a : Option Addr) (cap : Nat) (bs : List Int) (len : Nat) (hlen : bs.length = len) (hl : len ≤ 1000000) (hlc : len ≤ cap) (hb : InB bs) (w : World) (V : St ads w) (hs : SlB (.slice a len cap) bs w) (h0 : (splitQ 17 bs 0 0).1 = 0) :
    Calls Tryz.prog 41 #[.slice a len cap] w fun e w' => ∃ v gs, e = .returned (.tuple #[v, .nilIface]) ∧ (splitQ 17 bs 0 0).2 = gs.map fldQ ∧ w'.ownsRow w.heap.size 64 2 v gs.length (gs.flatMap cellQ) ∧ OwnD w.heap.size gs w' ∧ Kp w w' := by
  have hmf : ∀ (fn : Fn) (first cap : Array Value) (w : World), (Instr.makeFunc fn first cap).run Tryz.prog w = .ok (.func fn first cap) w := fun _ _ _ _ => rfl
  have kb := kp_alloc w (.cells #[.slice a len cap] 29)
  have hbx : (w.alloc (boxS (.slice a len cap))).heap[w.heap.size]? = some (boxS (.slice a len cap)) := (MapKept.heap_alloc w _).1
  have hsz : (w.alloc (.cells #[.slice a len cap] 29)).heap.size = w.heap.size + 1 := by simp
  obtain ⟨RES, hres⟩ : ∃ RES, splitQ 17 bs 0 0 = RES := ⟨_, rfl⟩
  have HB := fun w1 (hk : Kp (w.alloc (.cells #[.slice a len cap] 29)) w1) => split1_any ads h1 h3 w a cap bs len hlen hl hlc hb hs V w1 (Kp.trans kb hk) (kp_row hk hbx)
  rw [hres] at HB h0 ⊢
  have hf : ∀ w, (callFunc 74 #[.pointer (some ⟨w.heap.size, 0, none⟩)]).run Tryz.prog w = .ok (.enter 74 #[.pointer (some ⟨w.heap.size, 0, none⟩)]) w := by intro w; simp [go_sem]
  have KB := Lib.hid kb
  have HSZ := Lib.hid hsz
  have HT : Calls Tryz.prog 73 #[.func (.func 74) #[] #[.pointer (some ⟨w.heap.size, 0, none⟩)]] (w.alloc (.cells #[.slice a len cap] 29)) fun e w' => ∃ v gs, e = .returned (.tuple #[v, .nilIface]) ∧ RES.2 = gs.map fldQ ∧ w'.ownsRow w.heap.size 64 2 v gs.length (gs.flatMap cellQ) ∧ OwnD w.heap.size gs w' ∧ Below w.heap.size w w' := by
    refine (try_fields_ret 74 _ _ (fun v w1 w2 => ∃ gs, RES.2 = gs.map fldQ ∧ w2.ownsRow w1.heap.size 64 2 v gs.length (gs.flatMap cellQ) ∧ OwnD w1.heap.size gs w2 ∧ Kp w w2) (by intro w; simp [go_sem]) fun w1 hb1 hs1 => ?_).mono ?_
    · refine (HB w1 hb1).mono ?_
      rintro e w2 ⟨h, hk, hkb⟩
      rcases h with ⟨_, v, gs, rfl, h2, ho, hd⟩ | ⟨h, _⟩ | ⟨h, _⟩
      · exact ⟨v, rfl, hkb.past (by rw [HSZ.out]; omega), gs, h2, ho, hd, hk⟩
      · rw [h0] at h; cases h
      · rw [h0] at h; cases h
    · rintro e w' ⟨v, rfl, w1, w2, hb1, hs1, ⟨gs, h2, ho, hd, hk⟩, hb2, ha⟩
      have hle : w.heap.size ≤ w1.heap.size := by have := HSZ.out; omega
      refine ⟨v, gs, rfl, h2, own_mono (own_aside ho ha (by omega)) hle, fun g hg => ⟨own_mono ((ownD_aside hd ha (by omega)) g hg).1 hle, (hd g hg).2⟩, ?_⟩
      exact Below.trans hk (Below.mono hb2 (by rw [HSZ.out]; omega))
  have HTT := Lib.hid HT
  clear HT HB kb hbx hsz hs V
  go_enter Tryz.func41, Tryz.ntmps41
  go_wp2_with (go_at_call 73; (with_reducible refine HTT.out.mono ?_); rintro e w' ⟨v, gs, rfl, h2, ho, hd, hk⟩; have HK := Lib.hid hk; have HO := Lib.hid ho; have HD := Lib.hid hd; have H2 := Lib.hid h2; clear hk ho hd h2)
  go_ret2
  exact ⟨_, gs, rfl, H2.out, HO.out, HD.out, HK.out⟩
end Go.Proofs.YtahdoniggipmmaaGreatDoor

namespace Go.Proofs.YtahdoniggipmmaaGreatDoor
open Go.RowKit Go.ChangeShapes Go.WideShapes

def wideQ (fs : List (Int × List Int)) : Bool := fs.any fun f => decide (400 < f.2.length)

end Go.Proofs.YtahdoniggipmmaaGreatDoor

namespace Go.Proofs.YtahdoniggipmmaaGreatDoor
open Go.RowKit Go.ChangeShapes Go.WideShapes

/-- WHAT IS SPLIT is right, and is joined to the same bytes. -/
theorem splitQ_back : ∀ (f : Nat) (bs : List Int) (last : Int) (k : Nat), InB bs → k ≤ 16 → (splitQ f bs last k).1 = 0 → runQ k last (splitQ f bs last k).2 = true ∧ joinB (splitQ f bs last k).2 = bs
  | 0, _, _, _, _, _, h => by simp [splitQ] at h
  | f + 1, bs, last, k, hb, hk, h => by
    rw [splitQ] at h ⊢
    by_cases h0 : bs.length = 0
    · rw [if_pos h0]
      exact ⟨rfl, (List.length_eq_zero_iff.1 h0).symm⟩
    · rw [if_neg h0] at h ⊢
      by_cases h3 : bs.length < 3
      · rw [if_pos h3] at h; simp at h
      · rw [if_neg h3] at h ⊢
        obtain ⟨x0, x1, x2, rest, rfl⟩ := three h3
        have hgd : (x0 :: x1 :: x2 :: rest).getD 0 0 = x0 ∧ (x0 :: x1 :: x2 :: rest).getD 1 0 = x1 ∧ (x0 :: x1 :: x2 :: rest).getD 2 0 = x2 := ⟨rfl, rfl, rfl⟩
        rw [hgd.1, hgd.2.1, hgd.2.2] at h ⊢
        have r0 := hb x0 (by simp)
        have r1 := hb x1 (by simp)
        have r2 := hb x2 (by simp)
        by_cases hc : x0 ≤ last ∨ 200 < x1 * 256 + x2 ∨ k = 16
        · rw [if_pos hc] at h; simp at h
        · rw [if_neg hc] at h ⊢
          by_cases hl : ((x0 :: x1 :: x2 :: rest).length : Int) - 3 < x1 * 256 + x2
          · rw [if_pos hl] at h; simp at h
          · rw [if_neg hl] at h ⊢
            have hx1 : x1 = 0 := by omega
            subst hx1
            have hm : (0 * 256 + x2).toNat = x2.toNat := by omega
            rw [hm] at h ⊢
            have hd : (x0 :: 0 :: x2 :: rest).drop (3 + x2.toNat) = rest.drop x2.toNat := by rw [← List.drop_drop]; rfl
            have hd3 : (x0 :: 0 :: x2 :: rest).drop 3 = rest := rfl
            rw [hd] at h
            rw [hd, hd3]
            have hlr : x2.toNat ≤ rest.length := by simp at hl; omega
            have ih := splitQ_back f (rest.drop x2.toNat) x0 (k + 1) (fun x hx => hb x (by simp [List.mem_of_mem_drop hx])) (by omega) h
            refine ⟨?_, ?_⟩
            · rw [runQ, ih.1, Bool.and_true, decide_eq_true_eq]
              refine ⟨by omega, by show last < x0; omega, by show x0 ≤ 255; omega, ?_⟩
              show (rest.take x2.toNat).length ≤ 200
              simp
              omega
            · show joinB ((x0, rest.take x2.toNat) :: _) = _
              have hj : ∀ (f : Int × List Int) (t : List (Int × List Int)), joinB (f :: t) = fieldB f ++ joinB t := fun _ _ => rfl
              rw [hj, ih.2]
              have hlt : ((rest.take x2.toNat).length : Int) = x2 := by simp; omega
              simp only [fieldB, hlt]
              simp [List.take_append_drop]

theorem splitQ_three : ∀ (f : Nat) (bs : List Int) (last : Int) (k : Nat), (splitQ f bs last k).1 = 0 ∨ (splitQ f bs last k).1 = 2 ∨ (splitQ f bs last k).1 = 4
  | 0, _, _, _ => .inr (.inr rfl)
  | f + 1, bs, last, k => by
    rw [splitQ]
    split
    · exact .inl rfl
    · split
      · exact .inr (.inl rfl)
      · split
        · exact .inr (.inr rfl)
        · split
          · exact .inr (.inl rfl)
          · exact splitQ_three f _ _ _

/-- liaisonnum.Bytes, where it lies told aside. -/
theorem numBytes_at (a : Option Addr) (cap : Nat) (bs : List Int) (len : Nat) (hlen : bs.length = len) (hl : len ≤ 100000) (w : World) (hs : SlB (.slice a len cap) bs w) :
    Calls Tryz.prog 15 #[.slice a len cap] w fun e w' => ∃ g, e = .returned (.slice (some ⟨g, 0, none⟩) len (len + 6)) ∧ Marked g (len + 6) bs w' ∧ Kp w w' :=
  (numBytes_any a cap bs len hlen hl w hs).mono fun _ _ ⟨h1, h2, h3⟩ => ⟨_, h1, h2, h3⟩

end Go.Proofs.YtahdoniggipmmaaGreatDoor

namespace Go.Proofs.YtahdoniggipmmaaGreatDoor
open Go.RowKit Go.ChangeShapes Go.WideShapes

/-- WHAT BOTH Finds ANSWER, told apart. -/
def FindV (fs : List (Int × List Int)) (tag : Int) (ds : List Int) (ok : Bool) : Prop := ∀ e w, FindP fs tag e w → ∃ a c, e = .returned (.tuple #[.slice a ds.length c, .bool ok]) ∧ SlB (.slice a ds.length c) ds w
theorem findV (fs : List (Int × List Int)) (tag : Int) : ∃ ds ok, FindV fs tag ds ok := by
  cases h : (fs.find? fun f => f.1 == tag) with
  | none =>
    refine ⟨[], false, fun e w hp => ?_⟩
    unfold FindP at hp
    rw [h] at hp
    exact ⟨none, 0, hp, .inl ⟨rfl, none, 0, rfl, fun _ => rfl⟩⟩
  | some f =>
    refine ⟨f.2, true, fun e w hp => ?_⟩
    unfold FindP at hp
    rw [h] at hp
    obtain ⟨d, he, a, c, rfl, hs, _⟩ := hp
    exact ⟨a, c, he, hs⟩

theorem wide_le {fs : List (Int × List Int)} (h : ¬ wideQ fs = true) : ∀ f ∈ fs, f.2.length ≤ 400 := by
  intro f hf
  unfold wideQ at h
  rw [List.any_eq_true] at h
  rcases Nat.lt_or_ge 400 f.2.length with g | g
  · exact absurd ⟨f, hf, decide_eq_true g⟩ h
  · exact g

/-- A RIGHT ROW is split to itself. -/
theorem split_join : ∀ (fs : List (Int × List Int)) (k f : Nat) (last : Int), runQ k last fs = true → (∀ g ∈ fs, 0 ≤ last) → fs.length ≤ f → (∀ g ∈ fs, InB g.2) → splitQ (f + 1) (joinB fs) last k = (0, fs)
  | [], k, f, last, _, _, _, _ => by
    rw [splitQ, if_pos (show (joinB []).length = 0 from rfl)]
  | g :: t, k, f, last, hr, hl, hf, hb => by
    rw [runQ, Bool.and_eq_true, decide_eq_true_eq] at hr
    obtain ⟨⟨h1, h2, h3, h4⟩, hr⟩ := hr
    have hl0 := hl g (by simp)
    obtain ⟨tag, d⟩ := g
    simp only at h2 h3 h4 hr
    have hj : joinB ((tag, d) :: t) = tag :: 0 :: (d.length : Int) :: (d ++ joinB t) := by
      show fieldB (tag, d) ++ joinB t = _
      simp [fieldB]
    rw [hj, splitQ]
    have hgd : (tag :: 0 :: (d.length : Int) :: (d ++ joinB t)).getD 0 0 = tag ∧ (tag :: 0 :: (d.length : Int) :: (d ++ joinB t)).getD 1 0 = 0 ∧ (tag :: 0 :: (d.length : Int) :: (d ++ joinB t)).getD 2 0 = (d.length : Int) := ⟨rfl, rfl, rfl⟩
    rw [hgd.1, hgd.2.1, hgd.2.2]
    have hm : (0 * 256 + (d.length : Int)).toNat = d.length := by omega
    have hd : (tag :: 0 :: (d.length : Int) :: (d ++ joinB t)).drop (3 + d.length) = joinB t := by
      rw [← List.drop_drop]
      show (d ++ joinB t).drop d.length = _
      simp
    have ht : ((tag :: 0 :: (d.length : Int) :: (d ++ joinB t)).drop 3).take d.length = d := by
      show (d ++ joinB t).take d.length = _
      simp
    rw [if_neg (by simp), if_neg (by simp), if_neg (by omega), if_neg (by simp; omega), hm, hd, ht]
    match f, hf with
    | f + 1, hf =>
      rw [split_join t (k + 1) f tag hr (fun _ _ => by omega) (by simpa using hf) (fun g hg => hb g (by simp [hg]))]
end Go.Proofs.YtahdoniggipmmaaGreatDoor

namespace Go.Proofs.YtahdoniggipmmaaGreatDoor
open Go.RowKit Go.ChangeShapes Go.WideShapes

theorem own_le {w : World} {base : Nat} {e : TypeId} {n : Nat} {v : Value} {xs : List Value} (h : w.ownsRow base e 1 v n xs) : ∃ a c, v = .slice a n c ∧ n ≤ c := by
  obtain ⟨h1, h2⟩ := h
  rcases h2 with ⟨rfl, hx⟩ | ⟨g, cap, cur, rfl, _, _, hc, _⟩
  · subst hx
    exact ⟨none, 0, by simp, by simp⟩
  · exact ⟨_, cap, rfl, hc⟩

theorem run_small : ∀ (fs : List (Int × List Int)) (k : Nat) (last : Int), 0 ≤ last → runQ k last fs = true → Small fs
  | [], _, _, _, _ => fun f hf => by cases hf
  | g :: t, k, last, hl, hr => by
    rw [runQ, Bool.and_eq_true, decide_eq_true_eq] at hr
    obtain ⟨⟨h1, h2, h3, h4⟩, hr⟩ := hr
    intro f hf
    rcases List.mem_cons.1 hf with rfl | hf
    · exact ⟨by omega, h3, h4⟩
    · exact run_small t (k + 1) g.1 (by omega) hr f hf

theorem slq_in {a : Option Addr} {n c : Nat} {fs : List (Int × List Int)} {w : World} (h : SlQ (.slice a n c) fs w) : ∀ g ∈ fs, InB g.2 := by
  intro g hg
  obtain ⟨i, hi, rfl⟩ := List.getElem_of_mem hg
  obtain ⟨b, off, -, -, a', c', -, -, hb⟩ := h.at i hi
  exact hb

theorem joinB_in {fs : List (Int × List Int)} (hs : Small fs) (hb : ∀ g ∈ fs, InB g.2) : InB (joinB fs) := by
  intro x hx
  obtain ⟨g, hg, hx⟩ := List.mem_flatMap.1 hx
  obtain ⟨h1, h2, h3⟩ := hs g hg
  unfold fieldB at hx
  simp only [List.mem_append, List.mem_cons, List.not_mem_nil, or_false] at hx
  rcases hx with (rfl | rfl | rfl) | hx
  · omega
  · omega
  · omega
  · exact hb g hg x hx

/-- A RIGHT ROW, told once: its bytes are bytes, and are split to itself. -/
theorem row_facts {a : Option Addr} {n c : Nat} {fs : List (Int × List Int)} {w : World} (hs : SlQ (.slice a n c) fs w) (hr : runQ 0 0 fs = true) :
    fs.length ≤ 16 ∧ rightQ 0 fs = true ∧ Small fs ∧ InB (joinB fs) ∧ (joinB fs).length ≤ 3248 ∧ splitQ 17 (joinB fs) 0 0 = (0, fs) := by
  have h := hr
  rw [runQ_right _ 0 0 (by omega) (by omega), Bool.and_eq_true, decide_eq_true_eq] at h
  have h16 : fs.length ≤ 16 := by omega
  have hsm := run_small fs 0 0 (by omega) hr
  have hin := slq_in hs
  have hjl := joinB_len hsm fs.length (Nat.le_refl _)
  rw [List.take_length] at hjl
  exact ⟨h16, h.2, hsm, joinB_in hsm hin, by omega, split_join fs 0 16 0 hr (fun _ _ => by omega) h16 hin⟩

end Go.Proofs.YtahdoniggipmmaaGreatDoor

namespace Go.Proofs.YtahdoniggipmmaaGreatDoor
open Go.RowKit Go.ChangeShapes Go.WideShapes

theorem beNum_push (xs : List Int) (c : Int) : beNum (xs ++ [c]) = 256 * beNum xs + c := by
  unfold beNum
  rw [List.foldl_append]
  rfl
theorem beNum_beF : ∀ k n, n < 256 ^ k → beNum (beF k n) = n
  | 0, n, h => by
    obtain rfl : n = 0 := by simpa using h
    rfl
  | k + 1, n, h => by
    unfold beF
    split
    · rename_i h0; subst h0; rfl
    · rw [beNum_push, beNum_beF k (n / 256) (by rw [Nat.pow_succ] at h; omega)]
      omega
theorem beF_lead : ∀ k n, n < 256 ^ k → ¬ (0 < (beF k n).length ∧ (beF k n).getD 0 0 = 0)
  | 0, n, _ => by simp [beF]
  | k + 1, n, h => by
    unfold beF
    split
    · simp
    · rename_i h0
      have ih := beF_lead k (n / 256) (by rw [Nat.pow_succ] at h; omega)
      by_cases hl : 0 < (beF k (n / 256)).length
      · rintro ⟨_, h2⟩
        have e : (beF k (n / 256) ++ [((n % 256 : Nat) : Int)]).getD 0 0 = (beF k (n / 256)).getD 0 0 := by simp only [List.getD, List.getElem?_append_left hl]
        rw [e] at h2
        exact ih ⟨hl, h2⟩
      · have hz : beF k (n / 256) = [] := List.length_eq_zero_iff.1 (by omega)
        have hq : n / 256 = 0 := by
          have := beNum_beF k (n / 256) (by rw [Nat.pow_succ] at h; omega)
          rw [hz] at this
          have h3 : beNum [] = 0 := rfl
          omega
        rw [hz]
        simp
        omega
theorem toNum_beF (n : Nat) (h : n < 9223372036854775808) : toNum (beF 8 n) = ((n : Int), 0) := by
  have h8 : n < 256 ^ 8 := Nat.lt_trans h (by decide)
  unfold toNum
  rw [if_neg (beF_lead 8 n h8), if_neg (by have := beF_len 8 n; omega), beNum_beF 8 n h8, if_neg (by omega)]
theorem toNum_two (bs : List Int) : (toNum bs).2 = 0 ∨ (toNum bs).2 = 1 ∨ (toNum bs).2 = 4 := by
  unfold toNum
  split
  · exact .inr (.inr rfl)
  · split
    · exact .inr (.inl rfl)
    · split
      · exact .inr (.inl rfl)
      · exact .inl rfl

end Go.Proofs.YtahdoniggipmmaaGreatDoor

namespace Go.Proofs.YtahdoniggipmmaaGreatDoor
open Go.RowKit Go.ChangeShapes Go.WideShapes

theorem joinB_append (a b : List (Int × List Int)) : joinB (a ++ b) = joinB a ++ joinB b := by unfold joinB; rw [List.flatMap_append]
theorem joinB_cons (g : Int × List Int) (t : List (Int × List Int)) : joinB (g :: t) = g.1 :: 0 :: (g.2.length : Int) :: (g.2 ++ joinB t) := by
  show fieldB g ++ joinB t = _
  simp [fieldB]

/-- A WRONG ROW's bytes are no row. -/
theorem splitQ_wrong : ∀ (f : Nat) (fs : List (Int × List Int)) (k : Nat) (last : Int), Small fs → k ≤ 16 → runQ k last fs = false → (splitQ f (joinB fs) last k).1 = 4
  | 0, _, _, _, _, _, _ => rfl
  | f + 1, [], _, _, _, _, h => by simp [runQ] at h
  | f + 1, (tag, d) :: t, k, last, hs, hk, h => by
    have hg := hs (tag, d) (by simp)
    simp only at hg
    rw [joinB_cons, splitQ]
    simp only
    have hgd : (tag :: 0 :: (d.length : Int) :: (d ++ joinB t)).getD 0 0 = tag ∧ (tag :: 0 :: (d.length : Int) :: (d ++ joinB t)).getD 1 0 = 0 ∧ (tag :: 0 :: (d.length : Int) :: (d ++ joinB t)).getD 2 0 = (d.length : Int) := ⟨rfl, rfl, rfl⟩
    rw [hgd.1, hgd.2.1, hgd.2.2, if_neg (by simp), if_neg (by simp)]
    by_cases hm : mayQ k last tag d.length
    · obtain ⟨h1, h2, h3, h4⟩ := hm
      have hm' : (0 * 256 + (d.length : Int)).toNat = d.length := by omega
      have hd : (tag :: 0 :: (d.length : Int) :: (d ++ joinB t)).drop (3 + d.length) = joinB t := by
        rw [← List.drop_drop]
        show (d ++ joinB t).drop d.length = _
        simp
      rw [runQ, decide_eq_true ⟨h1, h2, h3, h4⟩, Bool.true_and] at h
      rw [if_neg (by omega), if_neg (by simp; omega), hm', hd]
      exact splitQ_wrong f t (k + 1) tag (fun g hg => hs g (by simp [hg])) (by omega) h
    · rw [if_pos]
      rcases Nat.lt_or_ge k 16 with q | q
      · refine .inl ?_
        rcases Int.lt_or_le last tag with q2 | q2
        · exact absurd ⟨q, q2, hg.2.1, hg.2.2⟩ hm
        · exact q2
      · exact .inr (.inr (by omega))

def lastT : Int → List (Int × List Int) → Int
  | l, [] => l
  | _, g :: t => lastT g.1 t
theorem rightQ_append : ∀ (a b : List (Int × List Int)) (l : Int), rightQ l (a ++ b) = (rightQ l a && rightQ (lastT l a) b)
  | [], b, l => by simp [rightQ, lastT]
  | g :: t, b, l => by
    show (decide _ && rightQ g.1 (t ++ b)) = ((decide _ && rightQ g.1 t) && rightQ (lastT g.1 t) b)
    rw [rightQ_append t b g.1, Bool.and_assoc]
theorem lastT_at : ∀ (a : List (Int × List Int)) (l : Int) (h : 0 < a.length), lastT l a = (a[a.length - 1]'(by omega)).1
  | [g], _, _ => rfl
  | g :: g2 :: t, l, _ => by
    show lastT g.1 (g2 :: t) = _
    rw [lastT_at (g2 :: t) g.1 (by simp)]
    simp
/-- TWO RIGHT ROWS, one behind the other. -/
theorem run_two {a b : List (Int × List Int)} (ha : runQ 0 0 a = true) (hb : runQ 0 0 b = true) :
    runQ 0 0 (a ++ b) = decide ((a.length = 0 ∨ b.length = 0 ∨ lastT 0 a < (b.map Prod.fst).headD 0) ∧ a.length + b.length ≤ 16) := by
  rw [runQ_right _ 0 0 (by omega) (by omega)] at ha hb ⊢
  simp only [Bool.and_eq_true, decide_eq_true_eq, Nat.zero_add] at ha hb ⊢
  rw [rightQ_append, ha.2, Bool.true_and, List.length_append, Bool.decide_and, Bool.and_comm]
  congr 1
  match b, hb with
  | [], _ => simp [rightQ]
  | g :: t, hb =>
    have h2 := hb.2
    rw [rightQ, Bool.and_eq_true, decide_eq_true_eq] at h2
    rw [rightQ, h2.2, Bool.and_true]
    match a, ha with
    | [], _ =>
      rw [decide_eq_true (show 1 ≤ g.1 ∧ g.1 ≤ 255 ∧ g.2.length ≤ 200 ∧ lastT 0 [] < g.1 from ⟨h2.1.1, h2.1.2.1, h2.1.2.2.1, by show (0 : Int) < g.1; omega⟩), decide_eq_true (.inl rfl)]
    | g2 :: t2, _ =>
      rw [Bool.eq_iff_iff]
      simp only [decide_eq_true_eq]
      constructor
      · rintro ⟨_, _, _, h⟩
        exact .inr (.inr h)
      · rintro (h | h | h)
        · simp at h
        · simp at h
        · exact ⟨h2.1.1, h2.1.2.1, h2.1.2.2.1, h⟩

/-- A BEGINNING of a row's bytes that is a row is a beginning of the row. -/
theorem join_prefix : ∀ (gs fs : List (Int × List Int)) (r : List Int), joinB gs ++ r = joinB fs → ∃ t, fs = gs ++ t
  | [], fs, _, _ => ⟨fs, rfl⟩
  | g :: gs, [], r, h => by
    rw [joinB_cons] at h
    simp [joinB] at h
  | g :: gs, f :: fs, r, h => by
    obtain ⟨g1, g2⟩ := g
    obtain ⟨f1, f2⟩ := f
    rw [joinB_cons, joinB_cons] at h
    simp only [List.cons_append, List.cons.injEq, true_and] at h
    obtain ⟨h1, h2, h3⟩ := h
    have hl : g2.length = f2.length := by omega
    rw [List.append_assoc] at h3
    obtain ⟨h4, h5⟩ := List.append_inj h3 hl
    obtain ⟨t, ht⟩ := join_prefix gs fs r h5
    exact ⟨t, by rw [h1, h4, ht]; rfl⟩

/-- A ROW's BYTES CUT SHORT aren't the row's. -/
theorem cut_short {fs : List (Int × List Int)} (hb : InB (joinB fs)) (m : Nat) (hm : m < (joinB fs).length) (h0 : (splitQ 17 ((joinB fs).take m) 0 0).1 = 0) : (splitQ 17 ((joinB fs).take m) 0 0).2.length < fs.length := by
  have hk := (splitQ_back 17 ((joinB fs).take m) 0 0 (fun x hx => hb x (List.mem_of_mem_take hx)) (by omega) h0).2
  obtain ⟨t, ht⟩ := join_prefix _ fs ((joinB fs).drop m) (by rw [hk, List.take_append_drop])
  have hl := congrArg List.length ht
  rw [List.length_append] at hl
  rcases Nat.eq_zero_or_pos t.length with h | h
  · have : t = [] := List.length_eq_zero_iff.1 h
    subst this
    rw [List.append_nil] at ht
    rw [← ht] at hk
    have := congrArg List.length hk
    rw [List.length_take] at this
    omega
  · omega

/-- THE CELLS of a slice of fields. -/
theorem slq_cells {a : Option Addr} {n c : Nat} {fs : List (Int × List Int)} {w : World} (h : SlQ (.slice a n c) fs w) :
    ∃ gs : List (Int × List Int × Value), gs.map fldQ = fs ∧ (∀ g ∈ gs, DatB g.2.2 g.2.1 w) ∧ (a = none → n = 0 ∧ c = 0) ∧ ∀ ad, a = some ad → ∀ j u, (gs.flatMap cellQ)[j]? = some u → w.cell? (ad.add j) = some u := by
  rcases h with ⟨rfl, a', c', hv, hn⟩ | ⟨b, off, c', h0, hv, hc⟩
  · injection hv with h1 h2 h3
    subst h1 h2 h3
    exact ⟨[], rfl, (fun g hg => by cases hg), (fun h => ⟨rfl, hn h⟩), fun ad _ j u hj => by simp at hj⟩
  · injection hv with h1 h2 h3
    subst h1
    have hd : ∀ j, ∃ d, (hj : j < fs.length) → w.cell? ⟨b, off + j * 2 + 1, none⟩ = some d ∧ DatB d fs[j].2 w := by
      intro j
      by_cases hj : j < fs.length
      · obtain ⟨_, d, h2, h3⟩ := hc j hj
        exact ⟨d, fun _ => ⟨h2, h3⟩⟩
      · exact ⟨.nilIface, fun h => absurd h hj⟩
    let D : Nat → Value := fun j => (hd j).choose
    have hD : ∀ j (hj : j < fs.length), w.cell? ⟨b, off + j * 2 + 1, none⟩ = some (D j) ∧ DatB (D j) fs[j].2 w := fun j hj => (hd j).choose_spec hj
    let gs : List (Int × List Int × Value) := (List.range fs.length).pmap (fun j (hj : j < fs.length) => (fs[j].1, fs[j].2, D j)) (fun j hj => List.mem_range.1 hj)
    have hgl : gs.length = fs.length := by simp [gs]
    have hgi : ∀ j (hj : j < gs.length), gs[j] = ((fs[j]'(by omega)).1, (fs[j]'(by omega)).2, D j) := by
      intro j hj
      simp [gs]
    refine ⟨gs, ?_, ?_, (fun h => by cases h), ?_⟩
    · refine List.ext_getElem (by simp [hgl]) fun j h1 h2 => ?_
      have hj : j < gs.length := by simpa using h1
      rw [List.getElem_map, hgi j hj]
      rfl
    · intro g hg
      obtain ⟨j, hj, rfl⟩ := List.getElem_of_mem hg
      rw [hgi j hj]
      exact (hD j (by omega)).2
    · intro ad had j u hj
      injection had with had
      subst had
      rw [add_plain]
      have hjl : j < gs.length * 2 := by
        rcases Nat.lt_or_ge j (gs.length * 2) with q | q
        · exact q
        · rw [List.getElem?_eq_none (by rw [cellQ_len]; exact q)] at hj; cases hj
      have hi : j / 2 < gs.length := by omega
      obtain ⟨q0, q1⟩ := cellQ_at gs (j / 2) hi
      rcases Nat.mod_two_eq_zero_or_one j with e | e
      · have ej : 2 * (j / 2) = j := by omega
        rw [ej, hj, hgi _ hi] at q0
        rw [Option.some.inj q0]
        have := (hc (j / 2) (by omega)).1
        rw [show off + j / 2 * 2 = off + j by omega] at this
        exact this
      · have ej : 2 * (j / 2) + 1 = j := by omega
        rw [ej, hj, hgi _ hi] at q1
        rw [Option.some.inj q1]
        have := (hD (j / 2) (by omega)).1
        rw [show off + j / 2 * 2 + 1 = off + j by omega] at this
        exact this

theorem own_slqD {base n : Nat} {gs : List (Int × List Int × Value)} {w : World} {v : Value} (hn : gs.length = n) (h : w.ownsRow base 64 2 v n (gs.flatMap cellQ)) (hd : ∀ g ∈ gs, DatB g.2.2 g.2.1 w) : SlQ v (gs.map fldQ) w := by
  subst hn
  obtain ⟨h1, h2⟩ := h
  rcases h2 with ⟨rfl, hn⟩ | ⟨g, cap, cur, rfl, hg, hh, hc, hm, hs, ht⟩
  · left
    have : gs = [] := List.length_eq_zero_iff.1 (by omega)
    subst this
    exact ⟨rfl, none, 0, rfl, fun _ => rfl⟩
  · by_cases h0 : gs.length = 0
    · left
      have : gs = [] := List.length_eq_zero_iff.1 h0
      subst this
      exact ⟨rfl, _, cap, rfl, fun h => by cases h⟩
    · right
      refine ⟨g, 0, cap, by simp; omega, by simp, fun j hj => ?_⟩
      have hj' : j < gs.length := by simpa using hj
      obtain ⟨q0, q1⟩ := cellQ_at gs j hj'
      rw [← ht] at q0 q1
      rw [List.getElem?_take, if_pos (by omega)] at q0 q1
      refine ⟨?_, gs[j].2.2, ?_, ?_⟩
      · unfold World.cell?
        dsimp only
        rw [hh]
        simp only [Option.isSome_none, Bool.false_eq_true, if_false, Nat.zero_add, Nat.mul_comm j 2]
        simpa [fldQ] using q0
      · unfold World.cell?
        dsimp only
        rw [hh]
        simp only [Option.isSome_none, Bool.false_eq_true, if_false, Nat.zero_add, Nat.mul_comm j 2]
        simpa using q1
      · simpa [fldQ] using hd gs[j] (List.getElem_mem _)

set_option maxRecDepth 20000 in
theorem wpList_append_slq (w : World) {ops : Array Oper} {rest : List Oper} {o : Oper} {a : Act} {Q : Exit → Act → World → Prop} (hgd : Region.wanted o (yielded ops a.tmps) = true) (s x : Operand)
    (ho : o.op = .call { callee := .builtin .append, args := #[s, x], argTypes := #[56, 56] })
    (base : Nat) (v : Value) (n : Nat) (xs : List Value) (hs : a.eval s = v) (hown : w.ownsRow base 64 2 v n xs)
    (ao : Option Addr) (m c : Nat) (gs : List (Int × List Int × Value)) (hx : a.eval x = .slice ao m c) (hgl : gs.length = m) (hgd2 : ∀ g ∈ gs, ∃ a' n' c', g.2.2 = .slice a' n' c') (hno : ao = none → m = 0 ∧ c = 0) (hc : ∀ ad, ao = some ad → ∀ j u, (gs.flatMap cellQ)[j]? = some u → w.cell? (ad.add j) = some u)
    (h63 : n + m ≤ 100000) (hbase : base ≤ w.heap.size)
    (h : ∀ v' w', w'.ownsRow base 64 2 v' (n + m) (xs ++ gs.flatMap cellQ) → w.grownBy w' v.ownBlock → wpList Tryz.prog ops Q rest (a.put o.dst v') w') : wpList Tryz.prog ops Q (o :: rest) a w := by
  obtain ⟨i0, hi, hz0, hz1, hz2⟩ := info_parts info_fieldT
  refine wpList_step fun K hK => ?_
  rw [if_pos hgd]
  cases ao with
  | none =>
    obtain ⟨rfl, rfl⟩ := hno rfl
    have hgs : gs = [] := List.length_eq_zero_iff.1 hgl
    subst hgs
    have hrun := run_append_owned_none (P := Tryz.prog) (w := w) base 56 o.type 64 i0 2 Tryz.underlying56 hi v n xs hown
    unfold Oper.wp
    simp [execOp, ho, resolve, invoke, builtin, hs, hx, hrun, Result.andThen]
    exact hK _ _ (h v w (by simpa using hown) ⟨rfl, rfl, rfl, Nat.le_refl _, fun _ _ _ => rfl⟩)
  | some ad =>
    refine wp_append_own w s x 56 ho base 64 i0 (.agg #[.int .i64 0, .slice none 0 0]) 2 32 Tryz.underlying56 hi hz0 hz1 hz2 rfl (by decide) v n xs hs hown ad m c (gs.flatMap cellQ) hx (by rw [cellQ_len, hgl]) (hc ad rfl) ?_ (by unfold maxLen; omega) (by omega) hbase fun v' w' h2 h3 _ => hK _ _ (h v' w' h2 h3)
    intro u hu
    obtain ⟨g, hg, hu⟩ := List.mem_flatMap.1 hu
    obtain ⟨a', n', c', e⟩ := hgd2 g hg
    unfold cellQ at hu
    simp only [List.mem_cons, List.not_mem_nil, or_false] at hu
    rcases hu with rfl | rfl
    · rfl
    · rw [e]; rfl
end Go.Proofs.YtahdoniggipmmaaGreatDoor

namespace Go.Proofs.YtahdoniggipmmaaGreatDoor
open Go.RowKit Go.ChangeShapes Go.WideShapes

def bigV (fs : List (Int × List Int)) : Bool := decide (40 < fs.length) || wideQ fs
theorem own_pos {w : World} {base : Nat} {e : TypeId} {n : Nat} {v : Value} {xs : List Value} (h : w.ownsRow base e 1 v n xs) (hn : 0 < n) : ∃ g c, v = .slice (some ⟨g, 0, none⟩) n c ∧ n ≤ c := by
  obtain ⟨h1, h2⟩ := h
  rcases h2 with ⟨rfl, hx⟩ | ⟨g, cap, cur, rfl, _, _, hc, _⟩
  · omega
  · exact ⟨_, cap, rfl, hc⟩
theorem joinB_zero {fs : List (Int × List Int)} : (joinB fs).length = 0 ↔ fs.length = 0 := by
  cases fs with
  | nil => simp [joinB]
  | cons g t => rw [joinB_cons]; simp
theorem cut_key (n : Int) (m : Nat) (hm : 0 < m) (h5 : m ≤ 5000) : ∃ D : Nat, D < m ∧ wrap64 ((IntKind.u64.wrap n).tmod m) = (D : Int) := by
  have h1 : 0 ≤ IntKind.u64.wrap n := by unfold IntKind.wrap; simp [IntKind.bits, IntKind.signed]; omega
  have h2 : (IntKind.u64.wrap n).tmod m = IntKind.u64.wrap n % m := Int.tmod_eq_emod_of_nonneg h1
  rw [h2]
  have h3 := Int.emod_nonneg (IntKind.u64.wrap n) (show (m : Int) ≠ 0 by omega)
  have h4 := Int.emod_lt_of_pos (IntKind.u64.wrap n) (show (0 : Int) < m by omega)
  refine ⟨(IntKind.u64.wrap n % m).toNat, by omega, ?_⟩
  unfold wrap64
  omega
end Go.Proofs.YtahdoniggipmmaaGreatDoor

namespace Go.Proofs.YtahdoniggipmmaaGreatDoor
open Go.RowKit Go.ChangeShapes Go.WideShapes

/-- a flag's bytes -/
def flB (b : Bool) : List Int := if b then [1] else []
/-- WHAT ToFlag ANSWERS. -/
def isFlag (bs : List Int) : Bool := decide (bs.length = 0 ∨ (bs.length = 1 ∧ bs.getD 0 0 = 1))

end Go.Proofs.YtahdoniggipmmaaGreatDoor

namespace Go.Proofs.YtahdoniggipmmaaGreatDoor
open Go.RowKit Go.ChangeShapes Go.WideShapes

theorem beNum_from (xs : List Int) : ∀ u, xs.foldl (fun u c => 256 * u + c) u = u * 256 ^ xs.length + beNum xs := by
  induction xs with
  | nil => intro u; simp [beNum]
  | cons x xs ih =>
    intro u
    have h1 := ih (256 * u + x)
    have h2 := ih (256 * 0 + x)
    simp only [List.foldl_cons, beNum, List.length_cons] at h1 h2 ⊢
    rw [h1, h2, Int.pow_succ]
    generalize (256 : Int) ^ xs.length = p
    simp only [Int.add_mul, Int.mul_assoc, Int.mul_zero, Int.zero_add]
    rw [show u * (p * 256) = 256 * (u * p) by rw [← Int.mul_assoc, Int.mul_comm]]
    omega
theorem beNum_cons (x : Int) (xs : List Int) : beNum (x :: xs) = x * 256 ^ xs.length + beNum xs := by
  have := beNum_from xs (256 * 0 + x)
  unfold beNum at *
  simpa using this

theorem less_bytes : ∀ (xs ys : List Int), InB xs → InB ys → xs.length = ys.length → Op.bytesLess (strOfNums xs).toList (strOfNums ys).toList = decide (beNum xs < beNum ys) := by
  intro xs ys
  rw [ByteArray.toList_eq, ByteArray.toList_eq, strOfNums_data, strOfNums_data]
  induction xs generalizing ys with
  | nil =>
    intro _ _ hl
    obtain rfl : ys = [] := by cases ys; rfl; cases hl
    simp [Op.bytesLess, beNum]
  | cons x xs ih =>
    intro hx hy hl
    match ys, hy, hl with
    | y :: ys, hy, hl =>
      have hl' : xs.length = ys.length := by simpa using hl
      have hx0 := hx x (by simp)
      have hy0 := hy y (by simp)
      have hx' : InB xs := fun z hz => hx z (by simp [hz])
      have hy' : InB ys := fun z hz => hy z (by simp [hz])
      have ih' := ih ys hx' hy' hl'
      have bx := beNum_range hx' xs.length (Nat.le_refl _)
      have by' := beNum_range hy' ys.length (Nat.le_refl _)
      rw [List.take_length] at bx by'
      simp only [List.map_cons, Op.bytesLess, ih', beNum_cons]
      have e1 : (UInt8.ofNat x.toNat < UInt8.ofNat y.toNat) ↔ x < y := by
        rw [UInt8.lt_iff_toNat_lt]
        simp
        omega
      have e2 : (UInt8.ofNat x.toNat == UInt8.ofNat y.toNat) = decide (x = y) := by
        rw [Bool.eq_iff_iff]
        simp only [beq_iff_eq, decide_eq_true_eq]
        constructor
        · intro h
          have := congrArg UInt8.toNat h
          simp at this
          omega
        · intro h; rw [h]
      rw [e2, hl']
      rw [hl'] at bx
      simp only [e1]
      generalize (256 : Int) ^ ys.length = p at *
      have q : ∀ d : Int, 1 ≤ d → p ≤ d * p := by
        intro d hd
        have := Int.mul_le_mul_of_nonneg_right hd (show 0 ≤ p by omega)
        simpa using this
      by_cases hxy : x < y
      · have := q (y - x) (by omega)
        rw [Int.sub_mul] at this
        rw [decide_eq_true hxy, Bool.true_or, decide_eq_true]
        omega
      · rw [decide_eq_false hxy, Bool.false_or]
        by_cases hxe : x = y
        · subst hxe
          rw [decide_eq_true rfl, Bool.true_and]
          congr 1
          simp
        · have := q (x - y) (by omega)
          rw [Int.sub_mul] at this
          rw [decide_eq_false hxe, Bool.false_and, decide_eq_false]
          omega

theorem beF_lt {k : Nat} : ∀ {a b : Nat}, a < 256 ^ k → b < 256 ^ k → (beF k a).length < (beF k b).length → a < b := by
  induction k with
  | zero => intro a b _ _ h; simp [beF] at h
  | succ k ih =>
    intro a b ha hb h
    rw [Nat.pow_succ] at ha hb
    unfold beF at h
    by_cases h0 : a = 0
    · subst h0
      by_cases h1 : b = 0
      · subst h1; simp at h
      · omega
    · by_cases h1 : b = 0
      · subst h1; simp [h0] at h
      · rw [if_neg h0, if_neg h1] at h
        simp at h
        have := ih (a := a / 256) (b := b / 256) (by omega) (by omega) h
        omega

theorem isFlag_fl (b : Bool) : isFlag (flB b) = true ∧ decide ((flB b).length = 1) = b := by cases b <;> decide
theorem flB_in (b : Bool) : InB (flB b) := by
  intro x hx
  cases b <;> simp [flB] at hx
  omega

end Go.Proofs.YtahdoniggipmmaaGreatDoor

namespace Go.Proofs.YtahdoniggipmmaaGreatDoor
open Go.RowKit Go.ChangeShapes Go.WideShapes

theorem beNum_dig : ∀ (m x : Nat), beNum (digB x m) = ((x % 256 ^ m : Nat) : Int)
  | 0, x => by simp [digB, beNum, Nat.mod_one]
  | m + 1, x => by
    rw [digB_next, beNum_push, beNum_dig m (x / 256)]
    have e : x % 256 ^ (m + 1) = 256 * (x / 256 % 256 ^ m) + x % 256 := by
      rw [Nat.pow_succ, Nat.mul_comm (256 ^ m) 256, Nat.mod_mul]
      omega
    rw [e]
    omega
theorem beNum_f8 (p : Nat) (h : p < 18446744073709551616) : beNum (f8 p) = p := by
  rw [← dig8, beNum_dig, Nat.mod_eq_of_lt (Nat.lt_of_lt_of_eq h (by decide))]
theorem f8_in (p : Nat) : InB (f8 p) := by
  intro x hx
  rw [← dig8] at hx
  unfold digB at hx
  obtain ⟨i, _, rfl⟩ := List.mem_map.1 hx
  unfold fb
  omega
theorem toFl_f8 (p : Nat) (h : p < 18446744073709551616) (hp : Fl.plain p = p) : toFl (f8 p) = (p, 0) := by
  unfold toFl
  rw [beNum_f8 p h]
  rw [if_pos ⟨rfl, by simpa using hp⟩]
  simp
theorem toFl_two (bs : List Int) : (toFl bs).2 = 0 ∨ (toFl bs).2 = 1 ∨ (toFl bs).2 = 4 := by
  unfold toFl
  split
  · exact .inl rfl
  · exact .inr (.inr rfl)
theorem toFloat_e (ads : List Addr) (a : Option Addr) (cap : Nat) (bs : List Int) (len : Nat) (hlen : bs.length = len) (hb : InB bs) (w : World) (V : St ads w) (hs : SlB (.slice a len cap) bs w) :
    Calls Tryz.prog 43 #[.slice a len cap] w fun e w' => e = .returned (.tuple #[.float .f64 (toFl bs).1, errN ads (toFl bs).2]) ∧ Kp w w' := by
  have h14 : ads.length = 14 := V.len
  have h3 : 3 < ads.length := by omega
  refine (toFloat_any ads h3 a cap bs len hlen hb w V hs).mono ?_
  rintro e w' ⟨h, hk⟩
  refine ⟨?_, hk⟩
  rcases h with ⟨h, rfl⟩ | ⟨h, h1, rfl⟩
  · rw [h]; rfl
  · have e4 : errN ads 4 = snt (ads[3]'h3) := by unfold errN; simp [List.getElem?_eq_getElem h3]
    rw [h, h1, e4]

end Go.Proofs.YtahdoniggipmmaaGreatDoor

namespace Go.Proofs.YtahdoniggipmmaaGreatDoor
open Go.RowKit Go.ChangeShapes Go.WideShapes

theorem rep_get (n j : Nat) : (List.replicate n (0 : Int)).getD j 0 = 0 := by
  rw [List.getD_eq_getElem?_getD, List.getElem?_replicate]
  split <;> rfl
theorem beF_back : ∀ (k : Nat) (bs : List Int), InB bs → bs.length ≤ k → ¬ (0 < bs.length ∧ bs.getD 0 0 = 0) → beF k (beNum bs).toNat = bs
  | 0, bs, _, hl, _ => by
    have : bs = [] := List.length_eq_zero_iff.1 (by omega)
    subst this; rfl
  | k + 1, bs, hb, hl, hz => by
    rcases List.eq_nil_or_concat bs with rfl | ⟨xs, c, rfl⟩
    · rfl
    · have hx : InB xs := fun x hx => hb x (by simp [hx])
      have hc := hb c (by simp)
      have hlx : xs.length ≤ k := by simp at hl; omega
      have hzx : ¬ (0 < xs.length ∧ xs.getD 0 0 = 0) := by
        rintro ⟨h1, h2⟩
        refine hz ⟨by simp, ?_⟩
        rw [List.getD_eq_getElem?_getD, List.concat_eq_append, List.getElem?_append_left h1, ← List.getD_eq_getElem?_getD]
        exact h2
      have ih := beF_back k xs hx hlx hzx
      have hn := beNum_range hx xs.length (Nat.le_refl _)
      rw [List.take_length] at hn
      rw [List.concat_eq_append, beNum_push]
      have hnz : (256 * beNum xs + c).toNat ≠ 0 := by
        intro q
        have c0 : c = 0 := by omega
        have x0 : beNum xs = 0 := by omega
        rw [x0] at ih
        have hk : beF k (0 : Int).toNat = [] := by cases k <;> rfl
        rw [hk] at ih
        subst ih
        subst c0
        exact hz ⟨by simp, by simp⟩
      unfold beF
      rw [if_neg hnz, show (256 * beNum xs + c).toNat / 256 = (beNum xs).toNat by omega, ih, show (((256 * beNum xs + c).toNat % 256 : Nat) : Int) = c by omega]
theorem toNum_lead {bs : List Int} (h : (toNum bs).2 = 0) : ¬ (0 < bs.length ∧ bs.getD 0 0 = 0) ∧ bs.length ≤ 8 ∧ (toNum bs).1 = beNum bs := by
  unfold toNum at h ⊢
  split at h
  · cases h
  rename_i g0
  split at h
  · cases h
  rename_i g1
  split at h
  · cases h
  rename_i g2
  rw [if_neg g0, if_neg g1, if_neg g2]
  exact ⟨g0, by omega, rfl⟩
theorem toNum_back {bs : List Int} (hb : InB bs) (h : (toNum bs).2 = 0) : beF 8 (toNum bs).1.toNat = bs := by
  obtain ⟨h1, h2, h3⟩ := toNum_lead h
  rw [h3]
  exact beF_back 8 bs hb h2 h1
theorem toNum_pos {bs : List Int} (hb : InB bs) (h : (toNum bs).2 = 0) (h0 : bs.length ≠ 0) : (toNum bs).1 ≠ 0 := by
  intro q
  have := toNum_back hb h
  rw [q] at this
  have e : beF 8 (0 : Int).toNat = [] := rfl
  rw [e] at this
  rw [← this] at h0
  exact h0 rfl

/-- fields put in order fill the places: read back they are those fields -/
theorem put_row : ∀ (d i : Nat) (fs : List (Int × List Int)) (k : Nat) (l0 l : List Int), i + d = 9 → l0.length = 9 → (∀ j, i ≤ j → l0.getD j 0 = 0) → (∀ x ∈ fs, InB x.2) → runQ k (i : Int) fs = true →
    putF l0 fs = some l → l.length = 9 ∧ l.take i = l0.take i ∧ rowF ((i : Int) + 1) (l.drop i) = fs
  | 0, i, fs, k, l0, l, hd, hl, hz, hb, hr, hp => by
    obtain rfl : i = 9 := by omega
    match fs, hr, hp with
    | [], _, hp =>
      have : l0 = l := by simpa [putF] using hp
      subst this
      exact ⟨hl, rfl, by rw [List.drop_of_length_le (by omega)]; rfl⟩
    | x :: t, hr, hp =>
      unfold runQ at hr
      rw [Bool.and_eq_true] at hr
      have hm := of_decide_eq_true hr.1
      rw [putF, if_pos (.inl (by have := hm.2.1; omega))] at hp
      cases hp
  | d + 1, i, fs, k, l0, l, hd, hl, hz, hb, hr, hp => by
    have hi9 : i < 9 := by omega
    have tk : ∀ (m : List Int), m.length = 9 → m.drop i = m.getD i 0 :: m.drop (i + 1) := fun m hm => by
      rw [List.drop_eq_getElem_cons (by omega)]
      simp [List.getD, hm, hi9]
    match fs, hb, hr, hp with
    | [], _, hr, hp =>
      have : l0 = l := by simpa [putF] using hp
      subst this
      obtain ⟨h1, h2, h3⟩ := put_row d (i + 1) [] k l0 l0 (by omega) hl (fun j hj => hz j (by omega)) (fun x hx => by cases hx) rfl rfl
      refine ⟨hl, rfl, ?_⟩
      rw [tk l0 hl, rowF, if_pos (hz i (Nat.le_refl _))]
      rw [show ((i : Int) + 1 + 1) = (((i + 1 : Nat) : Int) + 1) by omega]
      exact h3
    | x :: t, hb, hr, hp =>
      have hr0 := hr
      unfold runQ at hr
      rw [Bool.and_eq_true] at hr
      have hm := of_decide_eq_true hr.1
      have hx := hb x (by simp)
      have hp0 := hp
      rw [putF] at hp
      split at hp
      · cases hp
      rename_i hg
      have hg2 : (toNum x.2).2 = 0 := Classical.byContradiction fun q => hg (.inr (.inr q))
      have hg1 : x.2.length ≠ 0 := fun q => hg (.inr (.inl q))
      by_cases he : x.1 = (i : Int) + 1
      · have hti : (x.1 - 1).toNat = i := by omega
        rw [hti] at hp
        obtain ⟨h1, h2, h3⟩ := put_row d (i + 1) t (k + 1) (l0.set i (toNum x.2).1) l (by omega) (by rw [List.length_set]; exact hl)
          (fun j hj => by
            have := hz j (by omega)
            simp only [List.getD] at this ⊢
            rw [List.getElem?_set_ne (by omega)]
            exact this)
          (fun y hy => hb y (by simp [hy])) (by rw [← he.trans (by omega : (i : Int) + 1 = ((i + 1 : Nat) : Int))]; exact hr.2) hp
        have hli : l.getD i 0 = (toNum x.2).1 := by
          have h4 := congrArg (fun m => m.getD i 0) h2
          simp only [List.getD] at h4 ⊢
          rw [List.getElem?_take, List.getElem?_take, if_pos (by omega), if_pos (by omega), List.getElem?_set_self (by omega)] at h4
          simpa using h4
        refine ⟨h1, ?_, ?_⟩
        · have h4 := congrArg (fun m => m.take i) h2
          simp only [List.take_take] at h4
          rw [Nat.min_eq_left (by omega)] at h4
          rw [h4, List.take_set_of_le (by omega)]
        · rw [tk l h1, rowF, hli, if_neg (toNum_pos hx hg2 hg1), toNum_back hx hg2, show ((i : Int) + 1 + 1) = (((i + 1 : Nat) : Int) + 1) by omega, h3, ← he]
      · have hlt : ((i + 1 : Nat) : Int) < x.1 := by have := hm.2.1; omega
        obtain ⟨h1, h2, h3⟩ := put_row d (i + 1) (x :: t) k l0 l (by omega) hl (fun j hj => hz j (by omega)) hb (by
          unfold runQ
          rw [Bool.and_eq_true]
          exact ⟨decide_eq_true ⟨hm.1, hlt, hm.2.2⟩, hr.2⟩) hp0
        have hli : l.getD i 0 = 0 := by
          have h4 := congrArg (fun m => m.getD i 0) h2
          have h5 := hz i (Nat.le_refl _)
          simp only [List.getD] at h4 h5 ⊢
          rw [List.getElem?_take, List.getElem?_take, if_pos (by omega), if_pos (by omega)] at h4
          rw [h4]; exact h5
        refine ⟨h1, ?_, ?_⟩
        · have h4 := congrArg (fun m => m.take i) h2
          simp only [List.take_take] at h4
          rw [Nat.min_eq_left (by omega)] at h4
          exact h4
        · rw [tk l h1, rowF, if_pos hli, show ((i : Int) + 1 + 1) = (((i + 1 : Nat) : Int) + 1) by omega]
          exact h3
theorem runQ_rowF : ∀ (ns : List Int) (i last : Int) (k : Nat), last < i → i + ns.length ≤ 256 → k + ns.length ≤ 16 → runQ k last (rowF i ns) = true
  | [], _, _, _, _, _, _ => rfl
  | n :: ns, i, last, k, h1, h2, h3 => by
    rw [List.length_cons] at h2 h3
    simp only [rowF]
    split
    · exact runQ_rowF ns (i + 1) last k (by omega) (by omega) (by omega)
    · unfold runQ
      rw [runQ_rowF ns (i + 1) i (k + 1) (by omega) (by omega) (by omega), Bool.and_true]
      have := beF_len 8 n.toNat
      exact decide_eq_true ⟨by omega, h1, by omega, by dsimp only; omega⟩
theorem encM_len (m : MM) : (encM m).length ≤ 99 * 9 := by
  have h := joinB_len (small_m m) (rowF 1 m.nums).length (Nat.le_refl _)
  rw [List.take_length] at h
  have h2 := rowF_len m.nums 1
  have h3 : m.nums.length = 9 := rfl
  have : ∀ (ns : List Int) (i : Int), (joinB (rowF i ns)).length ≤ 11 * ns.length := by
    intro ns
    induction ns with
    | nil => intro i; simp [rowF, joinB]
    | cons n ns ih =>
      intro i
      have := ih (i + 1)
      simp only [rowF]
      split
      · rw [List.length_cons]; omega
      · have hb := beF_len 8 n.toNat
        rw [joinB_cons]
        simp only [List.length_cons, List.length_append]
        omega
  have h4 := this m.nums 1
  unfold encM
  omega
theorem nums_ofL {l : List Int} (h : l.length = 9) : (ofL l).nums = l := by
  match l, h with
  | [k, f, t, n, s, r, p, o, c], _ => rfl
theorem ofL_nums (m : MM) : ofL m.nums = m := rfl
/-- what is decoded is right, and encoded to the same -/
theorem enc_dec {bs : List Int} {m : MM} (hb : InB bs) (h : decM bs = (0, m)) : rightM m = true ∧ encM m = bs := by
  unfold decM at h
  split at h
  · cases h
  split at h
  · rename_i g; injection h with h1 _; exact absurd h1 g
  rename_i h0
  have h0 : (splitQ 17 bs 0 0).1 = 0 := Classical.byContradiction h0
  split at h
  · cases h
  · rename_i l hl
    split at h
    · rename_i hr
      injection h with _ h2
      subst h2
      refine ⟨hr, ?_⟩
      obtain ⟨q1, q2⟩ := splitQ_back 17 bs 0 0 hb (by decide) h0
      have hin : ∀ x ∈ (splitQ 17 bs 0 0).2, InB x.2 := by
        intro x hx y hy
        refine hb y ?_
        rw [← q2]
        unfold joinB
        exact List.mem_flatMap.2 ⟨x, hx, by simp [fieldB, hy]⟩
      obtain ⟨h1, _, h3⟩ := put_row 9 0 (splitQ 17 bs 0 0).2 0 (List.replicate 9 0) l rfl rfl (fun j _ => rep_get 9 j) hin q1 hl
      unfold encM
      rw [nums_ofL h1]
      rw [List.drop_zero] at h3
      rw [show (1 : Int) = ((0 : Nat) : Int) + 1 from rfl, h3]
      exact q2
    · cases h
theorem rowF_in (ns : List Int) (i : Int) : ∀ g ∈ rowF i ns, InB g.2 := fun g hg => (rowF_mem ns i g hg).2.2.2
theorem put_back : ∀ (d i : Nat) (l0 l : List Int), i + d = 9 → l.length = 9 → l0.length = 9 → (∀ x ∈ l, 0 ≤ x ∧ x ≤ 999999) → (∀ j, i ≤ j → l0.getD j 0 = 0) → l0.take i = l.take i → putF l0 (rowF ((i : Int) + 1) (l.drop i)) = some l
  | 0, i, l0, l, hd, hl, hl0, _, _, ht => by
    obtain rfl : i = 9 := by omega
    rw [List.drop_of_length_le (by omega)]
    rw [List.take_of_length_le (by omega), List.take_of_length_le (by omega)] at ht
    rw [ht]; rfl
  | d + 1, i, l0, l, hd, hl, hl0, hn, hz, ht => by
    have hi : i < l.length := by omega
    have hi0 : i < l0.length := by omega
    rw [List.drop_eq_getElem_cons hi, rowF]
    obtain ⟨x0, x1⟩ := hn l[i] (List.getElem_mem hi)
    have e2 : ((i : Int) + 1 + 1) = (((i + 1 : Nat) : Int) + 1) := by omega
    have h0i : l0[i] = 0 := by have := hz i (Nat.le_refl _); simpa [List.getD, hi0] using this
    split
    · rename_i h0
      rw [e2]
      refine put_back d (i + 1) l0 l (by omega) hl hl0 hn (fun j hj => hz j (by omega)) ?_
      rw [List.take_succ_eq_append_getElem hi0, List.take_succ_eq_append_getElem hi, ht, h0, h0i]
    · rename_i h0
      rw [putF]
      dsimp only
      have hb := toNum_beF l[i].toNat (by omega)
      have hlen : (beF 8 l[i].toNat).length ≠ 0 := by
        intro q
        have e := beNum_beF 8 l[i].toNat (Nat.lt_trans (by omega : l[i].toNat < 9223372036854775808) (by decide))
        rw [List.length_eq_zero_iff.1 q] at e
        have h3 : beNum [] = 0 := rfl
        omega
      rw [hb, if_neg (by simp only []; omega), show ((i : Int) + 1 - 1).toNat = i by omega, e2]
      refine put_back d (i + 1) _ l (by omega) hl (by rw [List.length_set]; exact hl0) hn (fun j hj => ?_) ?_
      · have := hz j (by omega)
        simp only [List.getD] at this ⊢
        rw [List.getElem?_set_ne (by omega)]
        exact this
      · rw [List.take_succ_eq_append_getElem (by rw [List.length_set]; exact hi0), List.take_succ_eq_append_getElem hi, List.take_set_of_le (Nat.le_refl _), ht, List.getElem_set_self]
        congr 2
        omega
/-- what is encoded is decoded to the same -/
theorem dec_enc {m : MM} (h : rightM m = true) : decM (encM m) = (0, m) := by
  have hok := rightM_okn h
  have hml : m.nums.length = 9 := rfl
  have hr := runQ_rowF m.nums 1 0 0 (by decide) (by rw [hml]; decide) (by rw [hml]; decide)
  have hs := split_join (rowF 1 m.nums) 0 16 0 hr (fun _ _ => Int.le_refl _) (by have := rowF_len m.nums 1; omega) (rowF_in _ _)
  have hl := encM_len m
  unfold decM encM at *
  rw [if_neg (by omega), hs, if_neg (fun q => q rfl)]
  have hp := put_back 9 0 (List.replicate 9 0) m.nums rfl hml rfl hok (fun j _ => rep_get 9 j) rfl
  rw [List.drop_zero] at hp
  have e : rowF 1 m.nums = rowF (((0 : Nat) : Int) + 1) m.nums := rfl
  rw [e, hp]
  dsimp only
  rw [ofL_nums, if_pos h]
theorem enc_inj {a b : MM} (ha : rightM a = true) (hb : rightM b = true) (h : encM a = encM b) : a = b := by
  have h1 := dec_enc ha
  rw [h, dec_enc hb] at h1
  injection h1 with _ h2
  exact h2.symm
theorem enc_in (m : MM) : InB (encM m) := joinB_in (small_m m) (rowF_in _ _)
theorem enc_pos {m : MM} (h : rightM m = true) : 0 < (encM m).length := by
  rcases Nat.eq_zero_or_pos (encM m).length with g | g
  · have h1 := dec_enc h
    rw [List.length_eq_zero_iff.1 g] at h1
    have : decM [] = (4, noM) := by decide
    rw [this] at h1
    cases h1
  · exact g
/-- cut short it isn't decoded to the message -/
theorem dec_cut {m : MM} (k : Nat) (hk : k < (encM m).length) : decM ((encM m).take k) ≠ (0, m) := by
  intro h
  have h1 := (enc_dec (fun x hx => enc_in m x (List.mem_of_mem_take hx)) h).2
  have h2 := congrArg List.length h1
  rw [List.length_take] at h2
  omega
end Go.Proofs.YtahdoniggipmmaaGreatDoor

namespace Go.Proofs.YtahdoniggipmmaaGreatDoor
open Go.RowKit Go.ChangeShapes Go.WideShapes

/-- the fields' numbers, each at its place of N -/
def putN (N : Nat) : List Int → List (Int × List Int) → Option (List Int)
  | l, [] => some l
  | l, x :: fs => if (N : Int) < x.1 ∨ x.2.length = 0 ∨ (toNum x.2).2 ≠ 0 then none else putN N (l.set (x.1 - 1).toNat (toNum x.2).1) fs
/-- fields put in order fill the places: read back they are those fields -/
theorem put_rowN (N : Nat) : ∀ (d i : Nat) (fs : List (Int × List Int)) (k : Nat) (l0 l : List Int), i + d = N → l0.length = N → (∀ j, i ≤ j → l0.getD j 0 = 0) → (∀ x ∈ fs, InB x.2) → runQ k (i : Int) fs = true →
    putN N l0 fs = some l → l.length = N ∧ l.take i = l0.take i ∧ rowF ((i : Int) + 1) (l.drop i) = fs
  | 0, i, fs, k, l0, l, hd, hl, hz, hb, hr, hp => by
    obtain rfl : i = N := by omega
    match fs, hr, hp with
    | [], _, hp =>
      have : l0 = l := by simpa [putN] using hp
      subst this
      exact ⟨hl, rfl, by rw [List.drop_of_length_le (by omega)]; rfl⟩
    | x :: t, hr, hp =>
      unfold runQ at hr
      rw [Bool.and_eq_true] at hr
      have hm := of_decide_eq_true hr.1
      rw [putN, if_pos (.inl (by have := hm.2.1; omega))] at hp
      cases hp
  | d + 1, i, fs, k, l0, l, hd, hl, hz, hb, hr, hp => by
    have hiN : i < N := by omega
    have tk : ∀ (m : List Int), m.length = N → m.drop i = m.getD i 0 :: m.drop (i + 1) := fun m hm => by
      rw [List.drop_eq_getElem_cons (by omega)]
      simp [List.getD, hm, hiN]
    match fs, hb, hr, hp with
    | [], _, hr, hp =>
      have : l0 = l := by simpa [putN] using hp
      subst this
      obtain ⟨h1, h2, h3⟩ := put_rowN N d (i + 1) [] k l0 l0 (by omega) hl (fun j hj => hz j (by omega)) (fun x hx => by cases hx) rfl rfl
      refine ⟨hl, rfl, ?_⟩
      rw [tk l0 hl, rowF, if_pos (hz i (Nat.le_refl _))]
      rw [show ((i : Int) + 1 + 1) = (((i + 1 : Nat) : Int) + 1) by omega]
      exact h3
    | x :: t, hb, hr, hp =>
      have hr0 := hr
      unfold runQ at hr
      rw [Bool.and_eq_true] at hr
      have hm := of_decide_eq_true hr.1
      have hx := hb x (by simp)
      have hp0 := hp
      rw [putN] at hp
      split at hp
      · cases hp
      rename_i hg
      have hg2 : (toNum x.2).2 = 0 := Classical.byContradiction fun q => hg (.inr (.inr q))
      have hg1 : x.2.length ≠ 0 := fun q => hg (.inr (.inl q))
      by_cases he : x.1 = (i : Int) + 1
      · have hti : (x.1 - 1).toNat = i := by omega
        rw [hti] at hp
        obtain ⟨h1, h2, h3⟩ := put_rowN N d (i + 1) t (k + 1) (l0.set i (toNum x.2).1) l (by omega) (by rw [List.length_set]; exact hl)
          (fun j hj => by
            have := hz j (by omega)
            simp only [List.getD] at this ⊢
            rw [List.getElem?_set_ne (by omega)]
            exact this)
          (fun y hy => hb y (by simp [hy])) (by rw [← he.trans (by omega : (i : Int) + 1 = ((i + 1 : Nat) : Int))]; exact hr.2) hp
        have hli : l.getD i 0 = (toNum x.2).1 := by
          have h4 := congrArg (fun m => m.getD i 0) h2
          simp only [List.getD] at h4 ⊢
          rw [List.getElem?_take, List.getElem?_take, if_pos (by omega), if_pos (by omega), List.getElem?_set_self (by omega)] at h4
          simpa using h4
        refine ⟨h1, ?_, ?_⟩
        · have h4 := congrArg (fun m => m.take i) h2
          simp only [List.take_take] at h4
          rw [Nat.min_eq_left (by omega)] at h4
          rw [h4, List.take_set_of_le (by omega)]
        · rw [tk l h1, rowF, hli, if_neg (toNum_pos hx hg2 hg1), toNum_back hx hg2, show ((i : Int) + 1 + 1) = (((i + 1 : Nat) : Int) + 1) by omega, h3, ← he]
      · have hlt : ((i + 1 : Nat) : Int) < x.1 := by have := hm.2.1; omega
        obtain ⟨h1, h2, h3⟩ := put_rowN N d (i + 1) (x :: t) k l0 l (by omega) hl (fun j hj => hz j (by omega)) hb (by
          unfold runQ
          rw [Bool.and_eq_true]
          exact ⟨decide_eq_true ⟨hm.1, hlt, hm.2.2⟩, hr.2⟩) hp0
        have hli : l.getD i 0 = 0 := by
          have h4 := congrArg (fun m => m.getD i 0) h2
          have h5 := hz i (Nat.le_refl _)
          simp only [List.getD] at h4 h5 ⊢
          rw [List.getElem?_take, List.getElem?_take, if_pos (by omega), if_pos (by omega)] at h4
          rw [h4]; exact h5
        refine ⟨h1, ?_, ?_⟩
        · have h4 := congrArg (fun m => m.take i) h2
          simp only [List.take_take] at h4
          rw [Nat.min_eq_left (by omega)] at h4
          exact h4
        · rw [tk l h1, rowF, if_pos hli, show ((i : Int) + 1 + 1) = (((i + 1 : Nat) : Int) + 1) by omega]
          exact h3
theorem put_backN (N : Nat) : ∀ (d i : Nat) (l0 l : List Int), i + d = N → l.length = N → l0.length = N → (∀ x ∈ l, 0 ≤ x ∧ x ≤ 999999) → (∀ j, i ≤ j → l0.getD j 0 = 0) → l0.take i = l.take i → putN N l0 (rowF ((i : Int) + 1) (l.drop i)) = some l
  | 0, i, l0, l, hd, hl, hl0, _, _, ht => by
    obtain rfl : i = N := by omega
    rw [List.drop_of_length_le (by omega)]
    rw [List.take_of_length_le (by omega), List.take_of_length_le (by omega)] at ht
    rw [ht]; rfl
  | d + 1, i, l0, l, hd, hl, hl0, hn, hz, ht => by
    have hi : i < l.length := by omega
    have hi0 : i < l0.length := by omega
    rw [List.drop_eq_getElem_cons hi, rowF]
    obtain ⟨x0, x1⟩ := hn l[i] (List.getElem_mem hi)
    have e2 : ((i : Int) + 1 + 1) = (((i + 1 : Nat) : Int) + 1) := by omega
    have h0i : l0[i] = 0 := by have := hz i (Nat.le_refl _); simpa [List.getD, hi0] using this
    split
    · rename_i h0
      rw [e2]
      refine put_backN N d (i + 1) l0 l (by omega) hl hl0 hn (fun j hj => hz j (by omega)) ?_
      rw [List.take_succ_eq_append_getElem hi0, List.take_succ_eq_append_getElem hi, ht, h0, h0i]
    · rename_i h0
      rw [putN]
      dsimp only
      have hb := toNum_beF l[i].toNat (by omega)
      have hlen : (beF 8 l[i].toNat).length ≠ 0 := by
        intro q
        have e := beNum_beF 8 l[i].toNat (Nat.lt_trans (by omega : l[i].toNat < 9223372036854775808) (by decide))
        rw [List.length_eq_zero_iff.1 q] at e
        have h3 : beNum [] = 0 := rfl
        omega
      rw [hb, if_neg (by simp only []; omega), show ((i : Int) + 1 - 1).toNat = i by omega, e2]
      refine put_backN N d (i + 1) _ l (by omega) hl (by rw [List.length_set]; exact hl0) hn (fun j hj => ?_) ?_
      · have := hz j (by omega)
        simp only [List.getD] at this ⊢
        rw [List.getElem?_set_ne (by omega)]
        exact this
      · rw [List.take_succ_eq_append_getElem (by rw [List.length_set]; exact hi0), List.take_succ_eq_append_getElem hi, List.take_set_of_le (Nat.le_refl _), ht, List.getElem_set_self]
        congr 2
        omega
theorem putN_len (N : Nat) : ∀ (fs : List (Int × List Int)) (l l' : List Int), putN N l fs = some l' → l'.length = l.length
  | [], l, l', h => by rw [putN] at h; injection h with h; rw [h]
  | x :: fs, l, l', h => by
    rw [putN] at h
    split at h
    · cases h
    · rw [putN_len N fs _ l' h, List.length_set]
/-- the fields' numbers and the float, as the document puts them: a place a tag, from 0 on -/
def putX : List Int → Option Nat → List (Int × List Int) → Option (List Int × Option Nat)
  | l, o, [] => some (l, o)
  | l, o, x :: fs =>
    if x.1 = 5 then (if (toFl x.2).2 = 0 then putX l (some (toFl x.2).1) fs else none)
    else if 5 < x.1 ∨ x.2.length = 0 ∨ (toNum x.2).2 ≠ 0 then none else putX (l.set x.1.toNat (toNum x.2).1) o fs
def of4 (l : List Int) (x : Nat) : CX := ⟨l.getD 0 0, l.getD 1 0, l.getD 2 0, l.getD 3 0, x⟩
def finX : Option (List Int × Option Nat) → Int × CX
  | some (_ :: l, some x) => if rightX (of4 l x) = true then (0, of4 l x) else (4, noX)
  | _ => (4, noX)
/-- WHAT Decode ANSWERS: the error's number, the context -/
def decX (bs : List Int) : Int × CX :=
  if (splitQ 17 bs 0 0).1 ≠ 0 then ((splitQ 17 bs 0 0).1, noX) else finX (putX (List.replicate 5 0) none (splitQ 17 bs 0 0).2)
/-- a context's fields -/
def rowX (c : CX) : List (Int × List Int) := rowF 1 c.nums ++ [(5, f8 (Fl.plain c.x))]
/-- a context's bytes -/
def encX (c : CX) : List Int := joinB (rowX c)

theorem putX_init : ∀ (a : List (Int × List Int)) (l : List Int) (o : Option Nat) (b : List (Int × List Int)), (∀ x ∈ a, 0 < x.1 ∧ x.1 < 5) →
    putX (0 :: l) o (a ++ b) = match putN 4 l a with | none => none | some l' => putX (0 :: l') o b
  | [], l, o, b, _ => rfl
  | x :: a, l, o, b, h => by
    have hx := h x (by simp)
    rw [List.cons_append, putX, putN, if_neg (by omega)]
    by_cases q : x.2.length = 0 ∨ (toNum x.2).2 ≠ 0
    · rw [if_pos (.inr q), if_pos (.inr q)]
    · rw [if_neg (by rintro (g | g); omega; exact q g), if_neg (by rintro (g | g); omega; exact q g)]
      obtain ⟨k, hk⟩ : ∃ k : Nat, x.1 = (k : Int) + 1 := ⟨(x.1 - 1).toNat, by omega⟩
      rw [show x.1.toNat = k + 1 by omega, show (x.1 - 1).toNat = k by omega, List.set_cons_succ]
      exact putX_init a _ o b (fun y hy => h y (by simp [hy]))
theorem putX_far : ∀ (a : List (Int × List Int)) (l : List Int) (o : Option Nat), (∃ x ∈ a, 5 < x.1) → putX l o a = none
  | [], _, _, h => by obtain ⟨x, hx, _⟩ := h; cases hx
  | y :: a, l, o, h => by
    rw [putX]
    by_cases q : 5 < y.1
    · rw [if_neg (by omega), if_pos (.inl q)]
    · have ha : ∃ x ∈ a, 5 < x.1 := by
        obtain ⟨x, hx, h5⟩ := h
        rcases List.mem_cons.1 hx with rfl | hx
        · exact absurd h5 q
        · exact ⟨x, hx, h5⟩
      split
      · split
        · exact putX_far a _ _ ha
        · rfl
      · split
        · rfl
        · exact putX_far a _ _ ha
/-- tags rise: all are above the one ahead, the last one is the greatest -/
theorem runQ_mem : ∀ (fs : List (Int × List Int)) (k : Nat) (last : Int), runQ k last fs = true → ∀ x ∈ fs, last < x.1 ∧ x.1 ≤ 255
  | [], _, _, _, _, hx => by cases hx
  | f :: t, k, last, h, x, hx => by
    rw [runQ, Bool.and_eq_true] at h
    have hm := of_decide_eq_true h.1
    rcases List.mem_cons.1 hx with rfl | hx
    · exact ⟨hm.2.1, hm.2.2.1⟩
    · have := runQ_mem t _ _ h.2 x hx
      exact ⟨Int.lt_trans hm.2.1 this.1, this.2⟩
theorem runQ_last : ∀ (a : List (Int × List Int)) (y : Int × List Int) (k : Nat) (last : Int), runQ k last (a ++ [y]) = true → runQ k last a = true ∧ ∀ x ∈ a, x.1 < y.1
  | [], _, _, _, _ => ⟨rfl, fun x hx => by cases hx⟩
  | f :: a, y, k, last, h => by
    rw [List.cons_append, runQ, Bool.and_eq_true] at h
    have ih := runQ_last a y _ _ h.2
    refine ⟨by rw [runQ, h.1, ih.1]; rfl, fun x hx => ?_⟩
    rcases List.mem_cons.1 hx with rfl | hx
    · exact (runQ_mem _ _ _ h.2 y (by simp)).1
    · exact ih.2 x hx
/-- the row's end decides: without tag 5 at its end it is none -/
theorem fin_far {a : List (Int × List Int)} {y : Int × List Int} (h : runQ 0 0 (a ++ [y]) = true) (h5 : y.1 ≠ 5) : finX (putX (List.replicate 5 0) none (a ++ [y])) = (4, noX) := by
  rcases Int.lt_or_le 5 y.1 with g | g
  · rw [putX_far _ _ _ ⟨y, by simp, g⟩]; rfl
  · have hl := runQ_last a y 0 0 h
    have hm := runQ_mem _ _ _ h
    have := putX_init (a ++ [y]) (List.replicate 4 0) none [] (fun x hx => by
      refine ⟨(hm x hx).1, ?_⟩
      rcases List.mem_append.1 hx with q | q
      · have := hl.2 x q; omega
      · obtain rfl : x = y := by simpa using q
        omega)
    rw [List.append_nil] at this
    rw [show List.replicate 5 (0 : Int) = 0 :: List.replicate 4 0 from rfl, this]
    split <;> rfl
theorem fin_nil : finX (putX (List.replicate 5 0) none []) = (4, noX) := rfl
theorem fin_five {a : List (Int × List Int)} {d : List Int} (h : runQ 0 0 (a ++ [(5, d)]) = true) : finX (putX (List.replicate 5 0) none (a ++ [(5, d)])) =
    match putN 4 (List.replicate 4 0) a with
    | none => (4, noX)
    | some l => if (toFl d).2 = 0 then (if rightX (of4 l (toFl d).1) = true then (0, of4 l (toFl d).1) else (4, noX)) else (4, noX) := by
  have hl := runQ_last a (5, d) 0 0 h
  have hm := runQ_mem _ _ _ hl.1
  rw [show List.replicate 5 (0 : Int) = 0 :: List.replicate 4 0 from rfl, putX_init a _ _ _ (fun x hx => ⟨(hm x hx).1, hl.2 x hx⟩)]
  cases putN 4 (List.replicate 4 0) a with
  | none => rfl
  | some l =>
    dsimp only
    rw [putX, if_pos rfl]
    dsimp only
    by_cases g : (toFl d).2 = 0
    · rw [if_pos g, if_pos g]; rfl
    · rw [if_neg g, if_neg g]; rfl
theorem f8_back {d : List Int} (hb : InB d) (h : (toFl d).2 = 0) : f8 (toFl d).1 = d ∧ Fl.plain (toFl d).1 = (toFl d).1 ∧ (toFl d).1 < 18446744073709551616 := by
  unfold toFl at h ⊢
  split at h
  · rename_i g
    rw [if_pos g]
    dsimp only
    have hr := beNum_range hb 8 (by omega)
    rw [show d.take 8 = d from List.take_of_length_le (by omega), show (256 : Int) ^ 8 = 18446744073709551616 from by decide] at hr
    refine ⟨?_, g.2, by omega⟩
    obtain ⟨g1, -⟩ := g
    match d, hb, g1 with
    | [a, b, c, e, f, g, i, j], hb, _ =>
      have ha := hb a (by simp)
      have hb' := hb b (by simp)
      have hc := hb c (by simp)
      have he := hb e (by simp)
      have hf := hb f (by simp)
      have hg := hb g (by simp)
      have hi := hb i (by simp)
      have hj := hb j (by simp)
      have hn : beNum [a, b, c, e, f, g, i, j] = 256 * (256 * (256 * (256 * (256 * (256 * (256 * (256 * 0 + a) + b) + c) + e) + f) + g) + i) + j := rfl
      rw [hn]
      unfold f8 fb
      simp only [List.cons.injEq, and_true]
      refine ⟨?_, ?_, ?_, ?_, ?_, ?_, ?_, ?_⟩ <;> simp only [Nat.reducePow] <;> omega
  · cases h
theorem rowX_run (c : CX) : runQ 0 0 (rowX c) = true := by
  unfold rowX
  have hl : c.nums.length = 4 := rfl
  have hap : ∀ (a : List (Int × List Int)) (y : Int × List Int) (k : Nat) (last : Int), runQ k last a = true → k + a.length < 16 → last < y.1 → (∀ x ∈ a, x.1 < y.1) → y.1 ≤ 255 → y.2.length ≤ 200 → runQ k last (a ++ [y]) = true := by
    intro a
    induction a with
    | nil => intro y k last _ hk hl _ h5 h6; rw [List.nil_append, runQ, Bool.and_eq_true]; exact ⟨decide_eq_true ⟨by simpa using hk, hl, h5, h6⟩, rfl⟩
    | cons f a ih =>
      intro y k last h hk hl hx h5 h6
      rw [runQ, Bool.and_eq_true] at h
      rw [List.cons_append, runQ, Bool.and_eq_true]
      exact ⟨h.1, ih y (k + 1) f.1 h.2 (by rw [List.length_cons] at hk; omega) (hx f (by simp)) (fun x q => hx x (by simp [q])) h5 h6⟩
  refine hap _ _ 0 0 (runQ_rowF c.nums 1 0 0 (by decide) (by rw [hl]; decide) (by rw [hl]; decide)) ?_ (show (0 : Int) < 5 by decide) ?_ (show (5 : Int) ≤ 255 by decide) (by show 8 ≤ 200; decide)
  · have := rowF_len c.nums 1; omega
  · intro x hx
    have := rowF_mem c.nums 1 x hx
    rw [hl] at this
    dsimp only
    omega
theorem rowX_in (c : CX) : ∀ g ∈ rowX c, InB g.2 := by
  intro g hg
  rcases List.mem_append.1 hg with h | h
  · exact rowF_in _ _ g h
  · obtain rfl : g = (5, f8 (Fl.plain c.x)) := by simpa using h
    exact f8_in _
theorem rowX_small (c : CX) : Small (rowX c) := by
  intro g hg
  have hl : c.nums.length = 4 := rfl
  rcases List.mem_append.1 hg with h | h
  · have := rowF_mem c.nums 1 g h
    rw [hl] at this
    exact ⟨by omega, by omega, by omega⟩
  · obtain rfl : g = (5, f8 (Fl.plain c.x)) := by simpa using h
    exact ⟨show (0 : Int) ≤ 5 by decide, show (5 : Int) ≤ 255 by decide, by show 8 ≤ 200; decide⟩
theorem rowX_len (c : CX) : (rowX c).length ≤ 5 := by
  have := rowF_len c.nums 1
  have hl : c.nums.length = 4 := rfl
  unfold rowX
  rw [List.length_append, List.length_singleton]
  omega
theorem encX_len (c : CX) : (encX c).length ≤ 1000 := by
  have : ∀ (ns : List Int) (i : Int), (joinB (rowF i ns)).length ≤ 11 * ns.length := by
    intro ns
    induction ns with
    | nil => intro i; simp [rowF, joinB]
    | cons n ns ih =>
      intro i
      have := ih (i + 1)
      simp only [rowF]
      split
      · rw [List.length_cons]; omega
      · have hb := beF_len 8 n.toNat
        rw [joinB_cons]
        simp only [List.length_cons, List.length_append]
        omega
  have h := this c.nums 1
  have hl : c.nums.length = 4 := rfl
  have e : (encX c).length = (joinB (rowF 1 c.nums)).length + 11 := by
    unfold encX rowX joinB
    rw [List.flatMap_append, List.length_append]
    rfl
  omega
theorem encX_in (c : CX) : InB (encX c) := joinB_in (rowX_small c) (rowX_in c)
theorem rightX_okn {c : CX} (h : rightX c = true) : ∀ x ∈ c.nums, 0 ≤ x ∧ x ≤ 999999 := by
  unfold rightX rightA outX at h
  simp only [Bool.and_eq_true, decide_eq_true_eq] at h
  intro x hx
  simp only [CX.nums, List.mem_cons, List.not_mem_nil, or_false] at hx
  rcases hx with rfl | rfl | rfl | rfl <;> omega
theorem rightX_plain {c : CX} (h : rightX c = true) : Fl.plain c.x = c.x ∧ c.x < 18446744073709551616 := by
  have ht : tmX c.x = true := by
    unfold rightX at h
    simp only [Bool.and_eq_true] at h
    exact h.2.2.2
  have hl := tmX_le ht
  unfold tmX at ht
  rw [Bool.and_eq_true] at ht
  exact ⟨of_decide_eq_true ht.2, by omega⟩
/-- what is encoded is decoded to the same -/
theorem dec_encX {c : CX} (h : rightX c = true) : decX (encX c) = (0, c) := by
  have hs := split_join (rowX c) 0 16 0 (rowX_run c) (fun _ _ => Int.le_refl _) (by have := rowX_len c; omega) (rowX_in c)
  have hr := rowX_run c
  obtain ⟨p1, p2⟩ := rightX_plain h
  unfold decX encX
  rw [hs, if_neg (fun q => q rfl)]
  dsimp only
  unfold rowX at hr ⊢
  rw [fin_five hr]
  have hp := put_backN 4 4 0 (List.replicate 4 0) c.nums rfl rfl rfl (rightX_okn h) (fun j _ => rep_get 4 j) rfl
  rw [List.drop_zero] at hp
  rw [show rowF (((0 : Nat) : Int) + 1) c.nums = rowF 1 c.nums from rfl] at hp
  have e : of4 c.nums c.x = c := rfl
  rw [hp, p1, toFl_f8 c.x p2 p1]
  dsimp only
  rw [if_pos rfl, e, if_pos h]
theorem splitQ_in {bs : List Int} (hb : InB bs) (q2 : joinB (splitQ 17 bs 0 0).2 = bs) : ∀ x ∈ (splitQ 17 bs 0 0).2, InB x.2 := by
  intro x hx y hy
  refine hb y ?_
  rw [← q2]
  unfold joinB
  exact List.mem_flatMap.2 ⟨x, hx, by simp [fieldB, hy]⟩
/-- what is decoded is right, and encoded to the same -/
theorem enc_decX {bs : List Int} {c : CX} (hb : InB bs) (h : decX bs = (0, c)) : rightX c = true ∧ encX c = bs := by
  unfold decX at h
  split at h
  · rename_i g; injection h with h1 _; exact absurd h1 g
  rename_i h0
  have h0 : (splitQ 17 bs 0 0).1 = 0 := Classical.byContradiction h0
  obtain ⟨q1, q2⟩ := splitQ_back 17 bs 0 0 hb (by decide) h0
  have hin := splitQ_in hb q2
  obtain ⟨fs, hfs⟩ : ∃ x, (splitQ 17 bs 0 0).2 = x := ⟨_, rfl⟩
  rw [hfs] at h q1 q2 hin
  rcases List.eq_nil_or_concat fs with rfl | ⟨a, y, rfl⟩
  · rw [fin_nil] at h; cases h
  rw [List.concat_eq_append] at *
  by_cases h5 : y.1 = 5
  · obtain ⟨t, d⟩ := y
    obtain rfl : t = 5 := h5
    rw [fin_five q1] at h
    have ha := (runQ_last a (5, d) 0 0 q1).1
    split at h
    · cases h
    rename_i l hl
    split at h
    · rename_i hd
      split at h
      · rename_i hr
        injection h with _ h2
        subst h2
        refine ⟨hr, ?_⟩
        obtain ⟨h1, _, h3⟩ := put_rowN 4 4 0 a 0 (List.replicate 4 0) l rfl rfl (fun j _ => rep_get 4 j) (fun x hx => hin x (by simp [hx])) ha hl
        obtain ⟨g1, g2, _⟩ := f8_back (hin (5, d) (by simp)) hd
        rw [List.drop_zero] at h3
        have hn : (of4 l (toFl d).1).nums = l := by
          match l, h1 with
          | [n, s, o, p], _ => rfl
        have hx : (of4 l (toFl d).1).x = (toFl d).1 := rfl
        unfold encX rowX
        rw [hn, hx, g2, g1, show (1 : Int) = ((0 : Nat) : Int) + 1 from rfl, h3]
        exact q2
      · cases h
    · cases h
  · rw [fin_far q1 h5] at h; cases h
theorem decX_num (bs : List Int) : (decX bs).1 = 0 ∨ (decX bs).1 = 2 ∨ (decX bs).1 = 4 := by
  unfold decX
  split
  · exact splitQ_num 17 bs 0 0
  · unfold finX
    split
    · split
      · exact .inl rfl
      · exact .inr (.inr rfl)
    · exact .inr (.inr rfl)
theorem decX_wf {bs : List Int} : (decX bs).2.wf := by
  unfold decX
  split
  · exact noX_wf
  · unfold finX
    split
    · split
      · rename_i h
        exact (rightX_plain h).2
      · exact noX_wf
    · exact noX_wf
end Go.Proofs.YtahdoniggipmmaaGreatDoor

