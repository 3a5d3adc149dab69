/-
  PARTS OF THIS PROOF (own work): FltF, SplF, SplG, SplH, SplO, AliveF, SplV, JoinV, JoinX, CutL, CutV, NumL.
-/
import Derived.Test.YtfginhckeogafaaDoorPkC
import Derived.StillTailTactics
import Derived.BigQuiet
import Derived.Test.YtfginhckeogafaaDoorPkA
import Derived.Lib.SlBytesConst
import Derived.Laws.AppendOwnNone

namespace Go.Proofs.YtfginhckeogafaaDoor
open Go.RowKit Go.ChangeShapes Go.WideShapes

theorem dig8 (n : Nat) : digB n 8 = f8 n := by
  unfold digB f8
  simp [List.range_succ]

theorem plain_nan : Fl.isNan 9221120237041090561 = true := by decide +kernel
theorem plain_zero : Fl.isNan 0 = false := by decide +kernel
theorem plain_idem (b : Nat) : Fl.plain (Fl.plain b) = Fl.plain b := by
  unfold Fl.plain
  by_cases h : Fl.isNan b = true
  · rw [if_pos h, if_pos plain_nan]
  · rw [if_neg h]
    by_cases h2 : b = 9223372036854775808
    · rw [if_pos h2, if_neg (by rw [plain_zero]; decide), if_neg (by decide)]
    · rw [if_neg h2, if_neg h, if_neg h2]

theorem calls_flip {P : Program} {f : FuncId} {args : Array Value} {w : World} {v : Value} (h : Calls P f args w fun e w' => e = .returned v ∧ w = w') : Calls P f args w fun e w' => e = .returned v ∧ w' = w :=
  h.mono fun _ _ h => ⟨h.1, h.2.symm⟩

end Go.Proofs.YtfginhckeogafaaDoor

namespace Go.Proofs.YtfginhckeogafaaDoor
open Go.RowKit Go.ChangeShapes Go.WideShapes

/-- ALL BUT THE BLOCK p IS AS IT WAS. -/
def Kb (p : Nat) (w w' : World) : Prop := w.heap.size ≤ w'.heap.size ∧ ∀ b, b ≠ p → b < w.heap.size → w'.heap[b]? = w.heap[b]?
theorem Kb.refl (p : Nat) (w : World) : Kb p w w := ⟨Nat.le_refl _, fun _ _ _ => rfl⟩
theorem Kb.kp {p : Nat} {w w1 w2 : World} (h : Kb p w w1) (hk : Kp w1 w2) : Kb p w w2 := ⟨Nat.le_trans h.1 (Below.size hk), fun b hb hl => by rw [Below.block hk b (Nat.lt_of_lt_of_le hl h.1)]; exact h.2 b hb hl⟩
theorem Kb.set {p : Nat} {w w1 : World} (h : Kb p w w1) (v : Value) : Kb p w (w1.setCell ⟨p, 0, none⟩ v) := ⟨by simp; exact h.1, fun b hb hl => by rw [Below.heap_setCell _ _ _ _ hb]; exact h.2 b hb hl⟩
theorem Kb.setNew {p q : Nat} {w w1 : World} (h : Kb p w w1) (hq : w.heap.size ≤ q) (v : Value) : Kb p w (w1.setCell ⟨q, 0, none⟩ v) := ⟨by simp; exact h.1, fun b hb hl => by rw [Below.heap_setCell _ _ _ _ (by simp; omega)]; exact h.2 b hb hl⟩
theorem Kb.grow {p : Nat} {w w1 w2 : World} {base n size : Nat} {e : TypeId} {v : Value} {xs : List Value} (h : Kb p w w1) (hown : w1.ownsRow base e size v n xs) (hb : w.heap.size ≤ base) (hgr : w1.grownBy w2 v.ownBlock) : Kb p w w2 :=
  ⟨Nat.le_trans h.1 hgr.size, fun b hne hl => by
    have hl1 : b < w1.heap.size := Nat.lt_of_lt_of_le hl h.1
    have hr : w1.heap[b]? = some w1.heap[b] := by simp [hl1]
    rw [box_grow hown hgr hr (by omega), ← hr]
    exact h.2 b hne hl⟩
theorem Kb.past {p B : Nat} {w w' : World} (h : Kb p w w') (hp : p < B) : Past B w w' := ⟨h.1, fun b hb hl => h.2 b (by omega) hl⟩

theorem drewN_kp (w : World) (n : Nat) : Kp w (w.drewN n) := by
  induction n with
  | zero => exact Kp.refl _
  | succ n ih => exact ih.drew

end Go.Proofs.YtfginhckeogafaaDoor

namespace Go.Proofs.YtfginhckeogafaaDoor
open Go.RowKit Go.ChangeShapes Go.WideShapes

/-- how many bytes are left in the box p -/
def boxLen (p : Nat) (w : World) : Nat := match w.cell? ⟨p, 0, none⟩ with | some (.slice _ n _) => n | _ => 0
theorem boxLen_of {p : Nat} {w : World} {a : Option Addr} {n c : Nat} (h : w.heap[p]? = some (boxS (.slice a n c))) : boxLen p w = n := by
  unfold boxLen
  rw [cell_of_one h]
theorem three {cs : List Int} (h : ¬ cs.length < 3) : ∃ x0 x1 x2 rest, cs = x0 :: x1 :: x2 :: rest := by
  match cs, h with
  | x0 :: x1 :: x2 :: rest, _ => exact ⟨x0, x1, x2, rest, rfl⟩
  | [], h => exact absurd (by simp) h
  | [_], h => exact absurd (by simp) h
  | [_, _], h => exact absurd (by simp) h

/-- WHERE A ROUND STANDS: what is left (the box p), how many fields there are and the last one's tag, the row. -/
structure SpSt (W w w1 : World) (p : Nat) (k last : Int) (gs : List (Int × List Int × Value)) (v bx : Value) (wr : World) : Prop where
  kW : Kp W wr
  kb : Kb p w wr
  sz : w1.heap.size ≤ wr.heap.size
  bp : wr.heap[p]? = some (boxS bx)
  bB : wr.heap[w.heap.size]? = some (boxI k)
  bL : wr.heap[w.heap.size + 1]? = some (boxI last)
  own : wr.ownsRow w1.heap.size 58 2 v gs.length (gs.flatMap cellQ)
  od : OwnD w1.heap.size gs wr
theorem SpSt.kp {W w w1 wr wr' : World} {p : Nat} {k last : Int} {gs : List (Int × List Int × Value)} {v bx : Value} (h : SpSt W w w1 p k last gs v bx wr) (hk : Kp wr wr') : SpSt W w w1 p k last gs v bx wr' :=
  ⟨Kp.trans h.kW hk, h.kb.kp hk, Nat.le_trans h.sz (Below.size hk), kp_row hk h.bp, kp_row hk h.bB, kp_row hk h.bL, own_kp h.own hk, h.od.kp hk⟩
theorem SpSt.setP {W w w1 wr : World} {p : Nat} {k last : Int} {gs : List (Int × List Int × Value)} {v bx : Value} (h : SpSt W w w1 p k last gs v bx wr) (hp : W.heap.size = p) (hpw : p < w.heap.size) (hs : w1.heap.size = w.heap.size + 2) (u : Value) : SpSt W w w1 p k last gs v u (wr.setCell ⟨p, 0, none⟩ u) :=
  ⟨Below.setCell h.kW (show W.heap.size ≤ p by omega) _, h.kb.set _, by simp; exact h.sz, one_setCell h.bp,
   by rw [Below.heap_setCell _ _ _ _ (by simp; omega)]; exact h.bB, by rw [Below.heap_setCell _ _ _ _ (by simp; omega)]; exact h.bL,
   ownsRow_setCell_below h.own (show p < w1.heap.size by omega) _, fun g hg => ⟨ownsRow_setCell_below (h.od g hg).1 (show p < w1.heap.size by omega) _, (h.od g hg).2⟩⟩
theorem SpSt.enter {W w w1 wr : World} {p : Nat} {k last : Int} {gs : List (Int × List Int × Value)} {v bx : Value} (h : SpSt W w w1 p k last gs v bx wr) (hW : W.heap.size ≤ w.heap.size) (hpw : p < w.heap.size) (hs : w1.heap.size = w.heap.size + 2) (k' last' : Int) :
    SpSt W w w1 p k' last' gs v bx ((wr.setCell ⟨w.heap.size, 0, none⟩ (.int .i64 k')).setCell ⟨w.heap.size + 1, 0, none⟩ (.int .i64 last')) :=
  ⟨Below.setCell (Below.setCell h.kW (show W.heap.size ≤ w.heap.size by omega) _) (show W.heap.size ≤ w.heap.size + 1 by omega) _, (h.kb.setNew (Nat.le_refl _) _).setNew (by omega) _, by simp; exact h.sz,
   by rw [Below.heap_setCell _ _ _ _ (by simp; omega), Below.heap_setCell _ _ _ _ (by simp; omega)]; exact h.bp,
   by rw [Below.heap_setCell _ _ _ _ (by simp)]; exact one_setCell h.bB,
   one_setCell (by rw [Below.heap_setCell _ _ _ _ (by simp)]; exact h.bL),
   ownsRow_setCell_below (ownsRow_setCell_below h.own (show w.heap.size < w1.heap.size by omega) _) (show w.heap.size + 1 < w1.heap.size by omega) _,
   fun g hg => ⟨ownsRow_setCell_below (ownsRow_setCell_below (h.od g hg).1 (show w.heap.size < w1.heap.size by omega) _) (show w.heap.size + 1 < w1.heap.size by omega) _, (h.od g hg).2⟩⟩

set_option maxRecDepth 20000 in
set_option maxHeartbeats 2000000 in
theorem split1_any (ads : List Addr) (h1' : 1 < ads.length) (h3' : 3 < ads.length) (W : World) (a : Option Addr) (cap : Nat) (bs : List Int) (len : Nat) (hlen : bs.length = len) (hl : len ≤ 1000000) (hlc : len ≤ cap) (hb : InB bs) (hs : SlB (.slice a len cap) bs W) (V : St ads W)
    (w : World) (hW : Kp W w) (hp : w.heap[W.heap.size]? = some (boxS (.slice a len cap))) :
    Calls Tryd.prog 61 #[.pointer (some ⟨W.heap.size, 0, none⟩)] w fun e w' =>
      (((splitQ 17 bs 0 0).1 = 0 ∧ ∃ v gs, e = .returned v ∧ (splitQ 17 bs 0 0).2 = gs.map fldQ ∧ w'.ownsRow w.heap.size 58 2 v gs.length (gs.flatMap cellQ) ∧ OwnD w.heap.size gs w') ∨
       ((splitQ 17 bs 0 0).1 = 2 ∧ e = .panicked [{ v := snt (ads[1]'h1'), recovered := false }]) ∨ ((splitQ 17 bs 0 0).1 = 4 ∧ e = .panicked [{ v := snt (ads[3]'h3'), recovered := false }])) ∧ Kp W w' ∧ Kb W.heap.size w w' := by
  have hmf : ∀ (fn : Fn) (first cap : Array Value) (w : World), (Instr.makeFunc fn first cap).run Tryd.prog w = .ok (.func fn first cap) w := fun _ _ _ _ => rfl
  obtain ⟨RES, hres⟩ : ∃ RES, splitQ 17 bs 0 0 = RES := ⟨_, rfl⟩
  rw [hres]
  have HRES := Lib.hid hres
  have HL := Lib.hid hlen
  have HB := Lib.hid hb
  have HS := Lib.hid hs
  have HV := Lib.hid V
  have HW := Lib.hid hW
  have HP := Lib.hid hp
  have HIB := Lib.hid (info_parts info_byte)
  have HIF := Lib.hid (info_parts info_fieldT)
  obtain ⟨p, hpp⟩ : ∃ p, W.heap.size = p := ⟨_, rfl⟩
  have HPP := Lib.hid hpp
  have hpw : p < w.heap.size := by rw [← hpp]; exact old_of_row hp
  have HPW := Lib.hid hpw
  rw [hpp] at HP ⊢
  obtain ⟨a1, ha1⟩ : ∃ a, ads[1]'h1' = a := ⟨_, rfl⟩
  obtain ⟨a3, ha3⟩ : ∃ a, ads[3]'h3' = a := ⟨_, rfl⟩
  rw [ha1, ha3]
  have HA1 := Lib.hid ha1
  have HA3 := Lib.hid ha3
  clear hs hlen hb hres V hW hp hpp hpw ha1 ha3
  go_enter Tryd.func61, Tryd.ntmps61
  go_wp2_with (go_at_call 55; (with_reducible refine (newRow_any _).mono ?_); rintro e w1 ⟨rfl, hp1, hq1, hsz1, hk1⟩; have HP1 := Lib.hid hp1; have HQ1 := Lib.hid hq1; have HS1 := Lib.hid hsz1; have HK1 := Lib.hid hk1; clear hp1 hq1 hsz1 hk1)
  go_loopw [3] (fun v wr => ∃ (gs : List (Int × List Int × Value)) (at' : Nat) (last : Int) (a : Option Addr) (n c : Nat), at' + n = len ∧ n ≤ c ∧ gs.length ≤ 16 ∧ 0 ≤ last ∧ SpSt W w w1 p gs.length last gs v (.slice a n c) wr ∧ SlB (.slice a n c) (bs.drop at') W ∧ RES = ((splitQ (17 - gs.length) (bs.drop at') last gs.length).1, gs.map fldQ ++ (splitQ (17 - gs.length) (bs.drop at') last gs.length).2)) (fun _ wr => boxLen p wr)
  case atStart => exact ⟨[], 0, 0, a, len, cap, by omega, hlc, by simp, Int.le_refl _, ⟨Kp.trans HW.out HK1.out, (Kb.refl _ _).kp HK1.out, Nat.le_refl _, kp_row HK1.out HP.out, HP1.out, HQ1.out, ⟨by simp, .inl ⟨rfl, rfl⟩⟩, (fun g hg => by cases hg)⟩, HS.out, by rw [← HRES.out]; rfl⟩
  case round =>
    obtain ⟨gs, at', last, a, n, c, hat, hnc, hg16, hlast, hst, hsl, hR⟩ := hrel
    have HST := Lib.hid hst
    have HSL := Lib.hid hsl
    have cbp := cell_of_one hst.bp
    obtain ⟨k, hk⟩ : ∃ k, gs.length = k := ⟨_, rfl⟩
    obtain ⟨cs, hcs⟩ : ∃ cs, bs.drop at' = cs := ⟨_, rfl⟩
    have hcl : cs.length = n := by have := HL.out; rw [← hcs, List.length_drop]; omega
    have hf : 17 - gs.length = (16 - k) + 1 := by omega
    rw [hf, hk, hcs, splitQ] at hR
    rw [hcs] at HSL
    rw [hk] at HST hg16
    have HK := Lib.hid hk
    obtain ⟨nn, hnn⟩ : ∃ nn : Int, (n : Int) = nn := ⟨_, rfl⟩
    clear hf hst hsl hk
    by_cases h0 : cs.length = 0
    · rw [if_pos h0] at hR
      have hex : ¬ nn > 0 := by omega
      have HR := Lib.hid hR
      clear hcl h0 hR hat hnc hcs
      go_wp2
      go_ret
      have hb1 : w.heap.size ≤ w1.heap.size := by have := HS1.out; omega
      have g1 : RES.1 = 0 := by rw [HR.out]
      have g2 : RES.2 = gs.map fldQ := by rw [HR.out]; simp
      have g3 : OwnD w.heap.size gs wr := fun g hg => ⟨own_mono (HST.out.od g hg).1 hb1, (HST.out.od g hg).2⟩
      exact ⟨.inl ⟨g1, _, rfl, gs, g2, own_mono HST.out.own hb1, g3⟩, HST.out.kW, HST.out.kb⟩
    · rw [if_neg h0] at hR
      have hgt : nn > 0 := by omega
      obtain ⟨b, off, rfl, hcx⟩ := HSL.out.at 0 (by omega)
      by_cases h3 : cs.length < 3
      · rw [if_pos h3] at hR
        have ht := take_short ads h1' p (some ⟨b, off, none⟩) n c 3 3 rfl (by omega) wr (HV.out.below HST.out.kW) HST.out.bp
        rw [HA1.out] at ht
        have HT := Lib.hid ht
        have HR := Lib.hid hR
        clear hcl h0 hR hat hnc hcs ht h3 hcx
        go_wp2_with (go_at_call 62; (with_reducible refine HT.out.mono ?_); rintro e w' ⟨rfl, rfl⟩)
        exact ⟨rfl, .inr (.inl ⟨by rw [HR.out], rfl⟩), HST.out.kW, HST.out.kb⟩
      · rw [if_neg h3] at hR
        obtain ⟨x0, x1, x2, rest, rfl⟩ := three h3
        have hgd : (x0 :: x1 :: x2 :: rest).getD 0 0 = x0 ∧ (x0 :: x1 :: x2 :: rest).getD 1 0 = x1 ∧ (x0 :: x1 :: x2 :: rest).getD 2 0 = x2 := ⟨rfl, rfl, rfl⟩
        rw [hgd.1, hgd.2.1, hgd.2.2] at hR
        have hbb : ∀ x ∈ x0 :: x1 :: x2 :: rest, 0 ≤ x ∧ x < 256 := fun x hx => HB.out x (List.mem_of_mem_drop (by rw [hcs]; exact hx))
        have r0 := hbb x0 (by simp)
        have r1 := hbb x1 (by simp)
        have r2 := hbb x2 (by simp)
        obtain ⟨m, hm⟩ : ∃ m : Int, x1 * 256 + x2 = m := ⟨_, rfl⟩
        have rm : 0 ≤ m ∧ m < 65536 := by omega
        rw [hm] at hR
        rw [Nat.add_zero, hgd.1] at hcx
        have h3n : 3 ≤ n := by omega
        have ht := take_ok ads p b off n c 3 3 rfl h3n hnc wr (HV.out.below HST.out.kW) HST.out.bp
        have hsl3 := slb_drop HSL.out h3n hnc
        have hsl2 := slb_drop (slb_take HSL.out h3n) (show 1 ≤ 3 by omega) (show 3 ≤ c by omega)
        have s1 := fun w => run_tail (b := b) (off := off) (n := 3) (c := c) (m := 1) (mm := 1) rfl (by omega) w
        obtain ⟨o1, ho1⟩ : ∃ o1, (if c = 1 then off else off + 1) = o1 := ⟨_, rfl⟩
        obtain ⟨o3, ho3⟩ : ∃ o3, (if c = 3 then off else off + 3) = o3 := ⟨_, rfl⟩
        obtain ⟨c1, hc1⟩ : ∃ c1, c - 1 = c1 := ⟨_, rfl⟩
        obtain ⟨c3, hc3⟩ : ∃ c3, c - 3 = c3 := ⟨_, rfl⟩
        obtain ⟨n3, hn3⟩ : ∃ n3, n - 3 = n3 := ⟨_, rfl⟩
        rw [ho3, hc3, hn3] at hsl3 ht
        rw [ho1, hc1] at hsl2 s1
        replace s1 : ∀ w, (Instr.slice 27 (.slice (some ⟨b, off, none⟩) 3 c) (some (.int .i64 1)) none none).run Tryd.prog w = .ok (.slice (some ⟨b, o1, none⟩) 2 c1) w := s1
        have hval := fun w1 (hk : Kp W w1) => value_any (some ⟨b, o1, none⟩) c1 [x1, x2] 2 rfl (by omega) (fun x hx => hbb x (by simp at hx ⊢; rcases hx with rfl | rfl <;> simp)) w1 (SlB.kp (show SlB _ [x1, x2] W from hsl2) hk)
        have hbe : beNum [x1, x2] = m := by rw [← hm]; unfold beNum; simp; omega
        simp only [hbe] at hval
        have HVAL := Lib.hid hval
        have hent : Calls Tryd.prog 62 #[.int .i64 3, .pointer (some ⟨p, 0, none⟩)] wr fun e w' => e = .returned (.slice (some ⟨b, off, none⟩) 3 c) ∧ SpSt W w w1 p k last gs u3 (.slice (some ⟨b, o3, none⟩) n3 c3) w' := by
          refine ht.mono ?_
          rintro e w' ⟨rfl, rfl⟩
          exact ⟨rfl, HST.out.setP HPP.out HPW.out HS1.out _⟩
        have HT := Lib.hid hent
        have HSL3 := Lib.hid hsl3
        have HR := Lib.hid hR
        have HCX := Lib.hid hcx
        have HCS := Lib.hid hcs
        clear ht hent hval hbe hsl3 hsl2 hcx hR ho1 ho3 hc1 hm hbb hgd h0 h3 hcl hcs
        go_wp2_with (go_at_call 62; (with_reducible refine HT.out.mono ?_); rintro e w2 ⟨rfl, hS2⟩; have S2 := Lib.hid hS2; have cx2 := kp_cell hS2.kW HCX.out; clear hS2)
        go_quiet ((go_at_call 63; exact Calls.quiet_of_same (calls_flip (HVAL.out _ (Kp.trans S2.out.kW (drewN_kp _ _))))))
        obtain ⟨wd, hwd⟩ : ∃ wd, w2.drewN nq = wd := ⟨_, rfl⟩
        rw [hwd]
        have hSD : SpSt W w w1 p k last gs u3 (.slice (some ⟨b, o3, none⟩) n3 c3) wd := by rw [← hwd]; exact S2.out.kp (drewN_kp _ _)
        have SD := Lib.hid hSD
        have hWw : W.heap.size ≤ w.heap.size := Below.size HW.out
        have HWw := Lib.hid hWw
        obtain ⟨M, hM⟩ : ∃ M : Nat, m.toNat = M := ⟨_, rfl⟩
        have hMm : (M : Int) = m := by omega
        obtain ⟨kk, hkk⟩ : ∃ kk : Int, (k : Int) = kk := ⟨_, rfl⟩
        rw [hkk] at SD
        have HKK := Lib.hid hkk
        have HMM := Lib.hid hMm
        have hlenr : (x0 :: x1 :: x2 :: rest).length = n := HSL.out.len
        have HLR := Lib.hid hlenr
        by_cases hmay : mayQ k last x0 M
        · have het := enter_t ads w.heap.size (w.heap.size + 1) k kk last x0 M m hkk hMm wd (HV.out.below SD.out.kW) SD.out.bB SD.out.bL (by omega) hmay
          obtain ⟨g1, g2, g3, g4⟩ := hmay
          have hR := HR.out
          rw [if_neg (by omega)] at hR
          have hent : Calls Tryd.prog 67 #[.int .i64 x0, .int .i64 m, .pointer (some ⟨w.heap.size, 0, none⟩), .pointer (some ⟨w.heap.size + 1, 0, none⟩)] wd fun e w' => e = .returned (.tuple #[]) ∧ SpSt W w w1 p (kk + 1) x0 gs u3 (.slice (some ⟨b, o3, none⟩) n3 c3) w' := by
            refine het.mono ?_
            rintro e w' ⟨rfl, rfl⟩
            exact ⟨rfl, SD.out.enter HWw.out HPW.out HS1.out _ _⟩
          have HEN := Lib.hid hent
          have hnc3 : n3 ≤ c3 := by omega
          by_cases hsh : n3 < M
          · rw [if_pos (by omega)] at hR
            have HT3 := Lib.hid (fun wE (hE : SpSt W w w1 p (kk + 1) x0 gs u3 (.slice (some ⟨b, o3, none⟩) n3 c3) wE) => take_short ads h1' p (some ⟨b, o3, none⟩) n3 c3 M m hMm hsh wE (HV.out.below hE.kW) hE.bp)
            have HR2 := Lib.hid hR
            have HA := HA1.out
            clear hent het hR hSD hwd hM hMm hkk hlenr hsh cx2 s1 hWw g1 g2 g3 g4
            go_wp2_with (first | (go_at_call 67; (with_reducible refine HEN.out.mono ?_); rintro e wE ⟨rfl, hE⟩; have SE := Lib.hid hE; have ht3 := HT3.out _ hE; rw [HA] at ht3; have HTT := Lib.hid ht3; clear hE ht3) | (go_at_call 62; (with_reducible refine HTT.out.mono ?_); rintro e w' ⟨rfl, rfl⟩))
            exact ⟨rfl, .inr (.inl ⟨by rw [HR2.out], rfl⟩), SE.out.kW, SE.out.kb⟩
          · rw [if_neg (by omega)] at hR
            have hMn : M ≤ n3 := by omega
            have htk := fun wE (hE : SpSt W w w1 p (kk + 1) x0 gs u3 (.slice (some ⟨b, o3, none⟩) n3 c3) wE) => take_ok ads p b o3 n3 c3 M m hMm hMn hnc3 wE (HV.out.below hE.kW) hE.bp
            have hws := slb_take HSL3.out hMn
            have hrs := slb_drop HSL3.out hMn hnc3
            obtain ⟨o4, ho4⟩ : ∃ o4, (if c3 = M then o3 else o3 + M) = o4 := ⟨_, rfl⟩
            obtain ⟨c4, hc4⟩ : ∃ c4, c3 - M = c4 := ⟨_, rfl⟩
            obtain ⟨n4, hn4⟩ : ∃ n4, n3 - M = n4 := ⟨_, rfl⟩
            rw [ho4, hc4, hn4] at hrs
            simp only [ho4, hc4, hn4] at htk
            obtain ⟨ws, hwse⟩ : ∃ ws, ((x0 :: x1 :: x2 :: rest).drop 3).take M = ws := ⟨_, rfl⟩
            rw [hwse] at hws
            have hwl : ws.length = M := hws.len
            have hwb : InB ws := by
              intro x hx
              rw [← hwse] at hx
              refine HB.out x (List.mem_of_mem_drop (i := at') ?_)
              rw [HCS.out]
              exact List.mem_of_mem_drop (List.mem_of_mem_take hx)
            rw [hM, hwse] at hR
            have HR2 := Lib.hid hR
            have HWS := Lib.hid hws
            have HRS := Lib.hid hrs
            have HWL := Lib.hid hwl
            have HWB := Lib.hid hwb
            have HTK := Lib.hid htk
            have hidx : 3 + M + n4 = n := by omega
            have hnc4 : n4 ≤ c4 := by omega
            have g5 : 0 ≤ x0 := by omega
            obtain ⟨i0, hi, hz0, hz1, hz2⟩ := HIF.out
            have HI := Lib.hid (And.intro hz1 hz2)
            have HI2 := Lib.hid hi
            have HI3 := Lib.hid hz0
            have hM200 : M ≤ 200 := g4
            clear hent het hR hSD hwd hMm hkk hlenr hsh cx2 s1 hWw ho4 hc4 hn4 hwse hwl hwb hws hrs htk hi hz0 hz1 hz2 g2 g3 g4 hM
            go_wp2_with (first | (go_at_call 67; (with_reducible refine HEN.out.mono ?_); rintro e wE ⟨rfl, hE⟩; have SE := Lib.hid hE; have HTT := Lib.hid (HTK.out _ hE); clear hE) | (go_at_call 62; (with_reducible refine HTT.out.mono ?_); rintro e wT ⟨rfl, hwT⟩; have hST := SE.out.setP HPP.out HPW.out HS1.out (.slice (some ⟨b, o4, none⟩) n4 c4); rw [← hwT] at hST; have ST := Lib.hid hST; have HCL := Lib.hid (clone_any (.slice (some ⟨b, o3, none⟩) M c3) ws (by rw [HWL.out]; omega) wT (HWS.out.kp hST.kW)); clear hwT hST) | (go_at_call 64; (with_reducible refine HCL.out.mono ?_); rintro e wC ⟨v5, rfl, ho5, hk5⟩; have HO5 := Lib.hid ho5; have K5 := Lib.hid hk5; have hfm := (own_slb ho5).form; obtain ⟨a5, c5, rfl⟩ := hfm; rw [HWL.out] at HO5; rw [HWL.out]; have SC := Lib.hid (ST.out.kp (Kp.trans hk5 (kp_alloc wC (.cells #[.int .i64 x0, .slice a5 M c5] 58)))); have KC := Lib.hid (kp_alloc wC (.cells #[.int .i64 x0, .slice a5 M c5] 58)); clear ho5 hk5) | (at_builtin; refine wpList_append_own _ rfl (.tmp 27) (.tmp 34) 50 rfl w1.heap.size 58 i0 (.agg #[.int .i64 0, .slice none 0 0]) 2 32 Tryd.underlying50 HI2.out HI3.out HI.out.1 HI.out.2 rfl (by decide) _ _ _ rfl SC.out.own ⟨wC.heap.size, 0, none⟩ 1 1 [.int .i64 x0, .slice a5 M c5] rfl ?c1 ?c2 ?c3 ?c4 ?c5 ?c6 ?_))
            case c1 => rfl
            case c2 =>
              intro i u hi
              rw [add_plain]
              have hb6 : (wC.alloc (.cells #[.int .i64 x0, .slice a5 M c5] 58)).heap[wC.heap.size]? = some (.cells #[.int .i64 x0, .slice a5 M c5] 58 (0, 0)) := (MapKept.heap_alloc _ _).1
              unfold World.cell?
              dsimp only
              rw [hb6]
              have hi3 : i < 2 := by
                rcases Nat.lt_or_ge i 2 with q | q
                · exact q
                · rw [List.getElem?_eq_none (by simpa using q)] at hi; cases hi
              match i, hi3, hi with
              | 0, _, hi | 1, _, hi => simpa using hi
            case c3 => intro u hu; simp at hu; rcases hu with rfl | rfl <;> rfl
            case c4 => have := HK.out; unfold maxLen; omega
            case c5 => have := HK.out; omega
            case c6 => exact SC.out.sz
            rintro v6 w6 hown6 hgr6 -
            have hbW : W.heap.size ≤ w1.heap.size := by have := HS1.out; have := HWw.out; omega
            have hb1 : w.heap.size ≤ w1.heap.size := by have := HS1.out; omega
            have hpw := HPW.out
            have hs1 := HS1.out
            have kw6 : Kp W w6 := rows_kp (own_mono SC.out.own hbW) hgr6 SC.out.kW
            have kb6 : Kb p w w6 := SC.out.kb.grow SC.out.own hb1 hgr6
            have sz6 : w1.heap.size ≤ w6.heap.size := Nat.le_trans SC.out.sz hgr6.size
            have bp6 := box_grow SC.out.own hgr6 SC.out.bp (by omega)
            have bB6 := box_grow SC.out.own hgr6 SC.out.bB (by omega)
            have bL6 := box_grow SC.out.own hgr6 SC.out.bL (by omega)
            have hgl : (gs ++ [(x0, ws, Value.slice a5 M c5)]).length = k + 1 := by simp [HK.out]
            have od6 : OwnD w1.heap.size (gs ++ [(x0, ws, Value.slice a5 M c5)]) w6 := by
              intro g hg
              rcases List.mem_append.1 hg with hg | hg
              · exact (SC.out.od.grows SC.out.own hgr6) g hg
              · have : g = (x0, ws, Value.slice a5 M c5) := by simpa using hg
                subst this
                refine ⟨?_, HWB.out⟩
                rw [HWL.out]
                exact own_grows SC.out.own hgr6 (own_kp (own_mono HO5.out ST.out.sz) KC.out) (by decide)
            have own6 : w6.ownsRow w1.heap.size 58 2 v6 (gs ++ [(x0, ws, Value.slice a5 M c5)]).length ((gs ++ [(x0, ws, Value.slice a5 M c5)]).flatMap cellQ) := by
              rw [hgl, List.flatMap_append]
              rw [HK.out] at hown6
              exact hown6
            have hst6 : SpSt W w w1 p (kk + 1) x0 (gs ++ [(x0, ws, Value.slice a5 M c5)]) v6 (.slice (some ⟨b, o4, none⟩) n4 c4) w6 := ⟨kw6, kb6, sz6, bp6, bB6, bL6, own6, od6⟩
            have S6 := Lib.hid hst6
            have HGL := Lib.hid hgl
            clear hst6 kw6 kb6 sz6 bp6 bB6 bL6 own6 od6 hown6 hgr6 hgl
            go_wp2
            go_roundw
            case rel =>
              have e1 : (((gs ++ [(x0, ws, Value.slice a5 M c5)]).length : Nat) : Int) = kk + 1 := by have := HGL.out; have := HKK.out; omega
              refine ⟨gs ++ [(x0, ws, Value.slice a5 M c5)], at' + (3 + M), x0, some ⟨b, o4, none⟩, n4, c4, by omega, hnc4, by rw [HGL.out]; omega, g5, by rw [e1]; exact S6.out, ?_, ?_⟩
              · have := HRS.out
                rw [List.drop_drop, ← HCS.out, List.drop_drop] at this
                exact this
              · have e2 : bs.drop (at' + (3 + M)) = (x0 :: x1 :: x2 :: rest).drop (3 + M) := by rw [← HCS.out, List.drop_drop]
                rw [HGL.out, HR2.out, e2, show 17 - (k + 1) = 16 - k by omega]
                simp [fldQ]
            case measure =>
              rw [boxLen_of S6.out.bp, boxLen_of HST.out.bp]
              omega
        · have hef := enter_f ads h3' w.heap.size (w.heap.size + 1) k kk last x0 M m hkk hMm wd (HV.out.below SD.out.kW) SD.out.bB SD.out.bL hmay
          rw [HA3.out] at hef
          have HEF := Lib.hid hef
          have hR := HR.out
          rw [if_pos (by
            rcases Nat.lt_or_ge k 16 with q | q
            · by_cases q2 : x0 ≤ last
              · exact .inl q2
              · by_cases q3 : 200 < m
                · exact .inr (.inl q3)
                · exact absurd ⟨q, by omega, by omega, by omega⟩ hmay
            · exact .inr (.inr (by omega)))] at hR
          have HR2 := Lib.hid hR
          clear hef hR hSD hwd hM hMm hkk hlenr hmay cx2 s1 hWw
          go_wp2_with (go_at_call 67; (with_reducible refine HEF.out.mono ?_); rintro e wE ⟨rfl, rfl⟩)
          exact ⟨rfl, .inr (.inr ⟨by rw [HR2.out], rfl⟩), SD.out.kW, SD.out.kb⟩
end Go.Proofs.YtfginhckeogafaaDoor

namespace Go.Proofs.YtfginhckeogafaaDoor
open Go.RowKit Go.ChangeShapes Go.WideShapes

theorem ownD_aside {w w' : World} {B base : Nat} {gs : List (Int × List Int × Value)} (h : OwnD base gs w) (ha : Aside B w w') (hb : B + 2 ≤ base) : OwnD base gs w' :=
  fun g hg => ⟨own_aside (h g hg).1 ha hb, (h g hg).2⟩

theorem split_any (ads : List Addr) (h1 : 1 < ads.length) (h3 : 3 < ads.length) (a : Option Addr) (cap : Nat) (bs : List Int) (len : Nat) (hlen : bs.length = len) (hl : len ≤ 1000000) (hlc : len ≤ cap) (hb : InB bs) (w : World) (V : St ads w) (hs : SlB (.slice a len cap) bs w) :
    Calls Tryd.prog 40 #[.slice a len cap] w fun e w' =>
      (((splitQ 17 bs 0 0).1 = 0 ∧ ∃ v, e = .returned (.tuple #[v, .nilIface]) ∧ SlQ v (splitQ 17 bs 0 0).2 w') ∨
       ((splitQ 17 bs 0 0).1 = 2 ∧ e = .returned (.tuple #[.slice none 0 0, snt (ads[1]'h1)])) ∨ ((splitQ 17 bs 0 0).1 = 4 ∧ e = .returned (.tuple #[.slice none 0 0, snt (ads[3]'h3)]))) ∧ Kp w w' := by
  have hmf : ∀ (fn : Fn) (first cap : Array Value) (w : World), (Instr.makeFunc fn first cap).run Tryd.prog w = .ok (.func fn first cap) w := fun _ _ _ _ => rfl
  have kb := kp_alloc w (.cells #[.slice a len cap] 27)
  have hbx : (w.alloc (boxS (.slice a len cap))).heap[w.heap.size]? = some (boxS (.slice a len cap)) := (MapKept.heap_alloc w _).1
  have hsz : (w.alloc (.cells #[.slice a len cap] 27)).heap.size = w.heap.size + 1 := by simp
  obtain ⟨RES, hres⟩ : ∃ RES, splitQ 17 bs 0 0 = RES := ⟨_, rfl⟩
  have HB := fun w1 (hk : Kp (w.alloc (.cells #[.slice a len cap] 27)) w1) => split1_any ads h1 h3 w a cap bs len hlen hl hlc hb hs V w1 (Kp.trans kb hk) (kp_row hk hbx)
  rw [hres] at HB ⊢
  have hf : ∀ w, (callFunc 61 #[.pointer (some ⟨w.heap.size, 0, none⟩)]).run Tryd.prog w = .ok (.enter 61 #[.pointer (some ⟨w.heap.size, 0, none⟩)]) w := by intro w; simp [go_sem]
  have KB := Lib.hid kb
  have HSZ := Lib.hid hsz
  have cases3 : RES.1 = 0 ∨ RES.1 = 2 ∨ RES.1 = 4 := by
    have := (HB _ (Kp.refl _)) []
    obtain ⟨e, w', fr, ⟨h, -⟩, -⟩ := this
    rcases h with ⟨h, -⟩ | ⟨h, -⟩ | ⟨h, -⟩
    · exact .inl h
    · exact .inr (.inl h)
    · exact .inr (.inr h)
  rcases cases3 with h0 | h0 | h0
  · have HT : Calls Tryd.prog 60 #[.func (.func 61) #[] #[.pointer (some ⟨w.heap.size, 0, none⟩)]] (w.alloc (.cells #[.slice a len cap] 27)) fun e w' => ∃ v, e = .returned (.tuple #[v, .nilIface]) ∧ SlQ v RES.2 w' ∧ Below w.heap.size w w' := by
      refine (try_fields_ret 61 _ _ (fun v w1 w2 => ∃ gs, RES.2 = gs.map fldQ ∧ w2.ownsRow w1.heap.size 58 2 v gs.length (gs.flatMap cellQ) ∧ OwnD w1.heap.size gs w2 ∧ Kp w w2) (by intro w; simp [go_sem]) fun w1 hb1 hs1 => ?_).mono ?_
      · refine (HB w1 hb1).mono ?_
        rintro e w2 ⟨h, hk, hkb⟩
        rcases h with ⟨_, v, gs, rfl, h2, ho, hd⟩ | ⟨h, _⟩ | ⟨h, _⟩
        · exact ⟨v, rfl, hkb.past (by rw [HSZ.out]; omega), gs, h2, ho, hd, hk⟩
        · rw [h0] at h; cases h
        · rw [h0] at h; cases h
      · rintro e w' ⟨v, rfl, w1, w2, hb1, hs1, ⟨gs, h2, ho, hd, hk⟩, hb2, ha⟩
        refine ⟨v, rfl, ?_, ?_⟩
        · rw [h2]
          exact own_slq rfl (own_aside ho ha (by omega)) (ownD_aside hd ha (by omega))
        · exact Below.trans hk (Below.mono hb2 (by rw [HSZ.out]; omega))
    have HTT := Lib.hid HT
    clear HT HB kb hbx hsz hs V
    go_enter Tryd.func40, Tryd.ntmps40
    go_wp2_with (go_at_call 60; (with_reducible refine HTT.out.mono ?_); rintro e w' ⟨v, rfl, ho, hk⟩; have HK := Lib.hid hk; have HO := Lib.hid ho; clear hk ho)
    go_ret2
    exact ⟨.inl ⟨h0, _, rfl, HO.out⟩, HK.out⟩
  · have HT : Calls Tryd.prog 60 #[.func (.func 61) #[] #[.pointer (some ⟨w.heap.size, 0, none⟩)]] (w.alloc (.cells #[.slice a len cap] 27)) fun e w' => e = .returned (.tuple #[.slice none 0 0, snt (ads[1]'h1)]) ∧ Below w.heap.size w w' := by
      refine (try_fields_panic ads 1 h1 61 _ _ (fun w1 w2 => Kp w w2) (by intro w; simp [go_sem]) fun w1 hb1 hs1 => ?_).mono ?_
      · refine (HB w1 hb1).mono ?_
        rintro e w2 ⟨h, hk, hkb⟩
        rcases h with ⟨h, _⟩ | ⟨_, rfl⟩ | ⟨h, _⟩
        · rw [h0] at h; cases h
        · exact ⟨rfl, V.below hk, hkb.past (by rw [HSZ.out]; omega), hk⟩
        · rw [h0] at h; cases h
      · rintro e w' ⟨rfl, w1, w2, hb1, hs1, hk, hb2⟩
        exact ⟨rfl, Below.trans hk (Below.mono hb2 (by rw [HSZ.out]; omega))⟩
    have HTT := Lib.hid HT
    clear HT HB kb hbx hsz hs V
    go_enter Tryd.func40, Tryd.ntmps40
    go_wp2_with (go_at_call 60; (with_reducible refine HTT.out.mono ?_); rintro e w' ⟨rfl, hk⟩; have HK := Lib.hid hk; clear hk)
    go_ret2
    exact ⟨.inr (.inl ⟨h0, rfl⟩), HK.out⟩
  · have HT : Calls Tryd.prog 60 #[.func (.func 61) #[] #[.pointer (some ⟨w.heap.size, 0, none⟩)]] (w.alloc (.cells #[.slice a len cap] 27)) fun e w' => e = .returned (.tuple #[.slice none 0 0, snt (ads[3]'h3)]) ∧ Below w.heap.size w w' := by
      refine (try_fields_panic ads 3 h3 61 _ _ (fun w1 w2 => Kp w w2) (by intro w; simp [go_sem]) fun w1 hb1 hs1 => ?_).mono ?_
      · refine (HB w1 hb1).mono ?_
        rintro e w2 ⟨h, hk, hkb⟩
        rcases h with ⟨h, _⟩ | ⟨h, _⟩ | ⟨_, rfl⟩
        · rw [h0] at h; cases h
        · rw [h0] at h; cases h
        · exact ⟨rfl, V.below hk, hkb.past (by rw [HSZ.out]; omega), hk⟩
      · rintro e w' ⟨rfl, w1, w2, hb1, hs1, hk, hb2⟩
        exact ⟨rfl, Below.trans hk (Below.mono hb2 (by rw [HSZ.out]; omega))⟩
    have HTT := Lib.hid HT
    clear HT HB kb hbx hsz hs V
    go_enter Tryd.func40, Tryd.ntmps40
    go_wp2_with (go_at_call 60; (with_reducible refine HTT.out.mono ?_); rintro e w' ⟨rfl, hk⟩; have HK := Lib.hid hk; clear hk)
    go_ret2
    exact ⟨.inr (.inr ⟨h0, rfl⟩), HK.out⟩
end Go.Proofs.YtfginhckeogafaaDoor

namespace Go.Proofs.YtfginhckeogafaaDoor
open Go.RowKit Go.ChangeShapes Go.WideShapes

theorem split_own (ads : List Addr) (h1 : 1 < ads.length) (h3 : 3 < ads.length) (a : Option Addr) (cap : Nat) (bs : List Int) (len : Nat) (hlen : bs.length = len) (hl : len ≤ 1000000) (hlc : len ≤ cap) (hb : InB bs) (w : World) (V : St ads w) (hs : SlB (.slice a len cap) bs w) (h0 : (splitQ 17 bs 0 0).1 = 0) :
    Calls Tryd.prog 40 #[.slice a len cap] w fun e w' => ∃ v gs, e = .returned (.tuple #[v, .nilIface]) ∧ (splitQ 17 bs 0 0).2 = gs.map fldQ ∧ w'.ownsRow w.heap.size 58 2 v gs.length (gs.flatMap cellQ) ∧ OwnD w.heap.size gs w' ∧ Kp w w' := by
  have hmf : ∀ (fn : Fn) (first cap : Array Value) (w : World), (Instr.makeFunc fn first cap).run Tryd.prog w = .ok (.func fn first cap) w := fun _ _ _ _ => rfl
  have kb := kp_alloc w (.cells #[.slice a len cap] 27)
  have hbx : (w.alloc (boxS (.slice a len cap))).heap[w.heap.size]? = some (boxS (.slice a len cap)) := (MapKept.heap_alloc w _).1
  have hsz : (w.alloc (.cells #[.slice a len cap] 27)).heap.size = w.heap.size + 1 := by simp
  obtain ⟨RES, hres⟩ : ∃ RES, splitQ 17 bs 0 0 = RES := ⟨_, rfl⟩
  have HB := fun w1 (hk : Kp (w.alloc (.cells #[.slice a len cap] 27)) w1) => split1_any ads h1 h3 w a cap bs len hlen hl hlc hb hs V w1 (Kp.trans kb hk) (kp_row hk hbx)
  rw [hres] at HB h0 ⊢
  have hf : ∀ w, (callFunc 61 #[.pointer (some ⟨w.heap.size, 0, none⟩)]).run Tryd.prog w = .ok (.enter 61 #[.pointer (some ⟨w.heap.size, 0, none⟩)]) w := by intro w; simp [go_sem]
  have KB := Lib.hid kb
  have HSZ := Lib.hid hsz
  have HT : Calls Tryd.prog 60 #[.func (.func 61) #[] #[.pointer (some ⟨w.heap.size, 0, none⟩)]] (w.alloc (.cells #[.slice a len cap] 27)) fun e w' => ∃ v gs, e = .returned (.tuple #[v, .nilIface]) ∧ RES.2 = gs.map fldQ ∧ w'.ownsRow w.heap.size 58 2 v gs.length (gs.flatMap cellQ) ∧ OwnD w.heap.size gs w' ∧ Below w.heap.size w w' := by
    refine (try_fields_ret 61 _ _ (fun v w1 w2 => ∃ gs, RES.2 = gs.map fldQ ∧ w2.ownsRow w1.heap.size 58 2 v gs.length (gs.flatMap cellQ) ∧ OwnD w1.heap.size gs w2 ∧ Kp w w2) (by intro w; simp [go_sem]) fun w1 hb1 hs1 => ?_).mono ?_
    · refine (HB w1 hb1).mono ?_
      rintro e w2 ⟨h, hk, hkb⟩
      rcases h with ⟨_, v, gs, rfl, h2, ho, hd⟩ | ⟨h, _⟩ | ⟨h, _⟩
      · exact ⟨v, rfl, hkb.past (by rw [HSZ.out]; omega), gs, h2, ho, hd, hk⟩
      · rw [h0] at h; cases h
      · rw [h0] at h; cases h
    · rintro e w' ⟨v, rfl, w1, w2, hb1, hs1, ⟨gs, h2, ho, hd, hk⟩, hb2, ha⟩
      have hle : w.heap.size ≤ w1.heap.size := by have := HSZ.out; omega
      refine ⟨v, gs, rfl, h2, own_mono (own_aside ho ha (by omega)) hle, fun g hg => ⟨own_mono ((ownD_aside hd ha (by omega)) g hg).1 hle, (hd g hg).2⟩, ?_⟩
      exact Below.trans hk (Below.mono hb2 (by rw [HSZ.out]; omega))
  have HTT := Lib.hid HT
  clear HT HB kb hbx hsz hs V
  go_enter Tryd.func40, Tryd.ntmps40
  go_wp2_with (go_at_call 60; (with_reducible refine HTT.out.mono ?_); rintro e w' ⟨v, gs, rfl, h2, ho, hd, hk⟩; have HK := Lib.hid hk; have HO := Lib.hid ho; have HD := Lib.hid hd; have H2 := Lib.hid h2; clear hk ho hd h2)
  go_ret2
  exact ⟨_, gs, rfl, H2.out, HO.out, HD.out, HK.out⟩
end Go.Proofs.YtfginhckeogafaaDoor

namespace Go.Proofs.YtfginhckeogafaaDoor
open Go.RowKit Go.ChangeShapes Go.WideShapes

def wideQ (fs : List (Int × List Int)) : Bool := fs.any fun f => decide (400 < f.2.length)

end Go.Proofs.YtfginhckeogafaaDoor

namespace Go.Proofs.YtfginhckeogafaaDoor
open Go.RowKit Go.ChangeShapes Go.WideShapes

/-- WHAT IS SPLIT is right, and is joined to the same bytes. -/
theorem splitQ_back : ∀ (f : Nat) (bs : List Int) (last : Int) (k : Nat), InB bs → k ≤ 16 → (splitQ f bs last k).1 = 0 → runQ k last (splitQ f bs last k).2 = true ∧ joinB (splitQ f bs last k).2 = bs
  | 0, _, _, _, _, _, h => by simp [splitQ] at h
  | f + 1, bs, last, k, hb, hk, h => by
    rw [splitQ] at h ⊢
    by_cases h0 : bs.length = 0
    · rw [if_pos h0]
      exact ⟨rfl, (List.length_eq_zero_iff.1 h0).symm⟩
    · rw [if_neg h0] at h ⊢
      by_cases h3 : bs.length < 3
      · rw [if_pos h3] at h; simp at h
      · rw [if_neg h3] at h ⊢
        obtain ⟨x0, x1, x2, rest, rfl⟩ := three h3
        have hgd : (x0 :: x1 :: x2 :: rest).getD 0 0 = x0 ∧ (x0 :: x1 :: x2 :: rest).getD 1 0 = x1 ∧ (x0 :: x1 :: x2 :: rest).getD 2 0 = x2 := ⟨rfl, rfl, rfl⟩
        rw [hgd.1, hgd.2.1, hgd.2.2] at h ⊢
        have r0 := hb x0 (by simp)
        have r1 := hb x1 (by simp)
        have r2 := hb x2 (by simp)
        by_cases hc : x0 ≤ last ∨ 200 < x1 * 256 + x2 ∨ k = 16
        · rw [if_pos hc] at h; simp at h
        · rw [if_neg hc] at h ⊢
          by_cases hl : ((x0 :: x1 :: x2 :: rest).length : Int) - 3 < x1 * 256 + x2
          · rw [if_pos hl] at h; simp at h
          · rw [if_neg hl] at h ⊢
            have hx1 : x1 = 0 := by omega
            subst hx1
            have hm : (0 * 256 + x2).toNat = x2.toNat := by omega
            rw [hm] at h ⊢
            have hd : (x0 :: 0 :: x2 :: rest).drop (3 + x2.toNat) = rest.drop x2.toNat := by rw [← List.drop_drop]; rfl
            have hd3 : (x0 :: 0 :: x2 :: rest).drop 3 = rest := rfl
            rw [hd] at h
            rw [hd, hd3]
            have hlr : x2.toNat ≤ rest.length := by simp at hl; omega
            have ih := splitQ_back f (rest.drop x2.toNat) x0 (k + 1) (fun x hx => hb x (by simp [List.mem_of_mem_drop hx])) (by omega) h
            refine ⟨?_, ?_⟩
            · rw [runQ, ih.1, Bool.and_true, decide_eq_true_eq]
              refine ⟨by omega, by show last < x0; omega, by show x0 ≤ 255; omega, ?_⟩
              show (rest.take x2.toNat).length ≤ 200
              simp
              omega
            · show joinB ((x0, rest.take x2.toNat) :: _) = _
              have hj : ∀ (f : Int × List Int) (t : List (Int × List Int)), joinB (f :: t) = fieldB f ++ joinB t := fun _ _ => rfl
              rw [hj, ih.2]
              have hlt : ((rest.take x2.toNat).length : Int) = x2 := by simp; omega
              simp only [fieldB, hlt]
              simp [List.take_append_drop]

theorem splitQ_three : ∀ (f : Nat) (bs : List Int) (last : Int) (k : Nat), (splitQ f bs last k).1 = 0 ∨ (splitQ f bs last k).1 = 2 ∨ (splitQ f bs last k).1 = 4
  | 0, _, _, _ => .inr (.inr rfl)
  | f + 1, bs, last, k => by
    rw [splitQ]
    split
    · exact .inl rfl
    · split
      · exact .inr (.inl rfl)
      · split
        · exact .inr (.inr rfl)
        · split
          · exact .inr (.inl rfl)
          · exact splitQ_three f _ _ _

/-- liaisonnum.Bytes, where it lies told aside. -/
theorem numBytes_at (a : Option Addr) (cap : Nat) (bs : List Int) (len : Nat) (hlen : bs.length = len) (hl : len ≤ 100000) (w : World) (hs : SlB (.slice a len cap) bs w) :
    Calls Tryd.prog 15 #[.slice a len cap] w fun e w' => ∃ g, e = .returned (.slice (some ⟨g, 0, none⟩) len (len + 6)) ∧ Marked g (len + 6) bs w' ∧ Kp w w' :=
  (numBytes_any a cap bs len hlen hl w hs).mono fun _ _ ⟨h1, h2, h3⟩ => ⟨_, h1, h2, h3⟩

end Go.Proofs.YtfginhckeogafaaDoor

namespace Go.Proofs.YtfginhckeogafaaDoor
open Go.RowKit Go.ChangeShapes Go.WideShapes

/-- WHAT BOTH Finds ANSWER, told apart. -/
def FindV (fs : List (Int × List Int)) (tag : Int) (ds : List Int) (ok : Bool) : Prop := ∀ e w, FindP fs tag e w → ∃ a c, e = .returned (.tuple #[.slice a ds.length c, .bool ok]) ∧ SlB (.slice a ds.length c) ds w
theorem findV (fs : List (Int × List Int)) (tag : Int) : ∃ ds ok, FindV fs tag ds ok := by
  cases h : (fs.find? fun f => f.1 == tag) with
  | none =>
    refine ⟨[], false, fun e w hp => ?_⟩
    unfold FindP at hp
    rw [h] at hp
    exact ⟨none, 0, hp, .inl ⟨rfl, none, 0, rfl, fun _ => rfl⟩⟩
  | some f =>
    refine ⟨f.2, true, fun e w hp => ?_⟩
    unfold FindP at hp
    rw [h] at hp
    obtain ⟨d, he, a, c, rfl, hs, _⟩ := hp
    exact ⟨a, c, he, hs⟩

theorem wide_le {fs : List (Int × List Int)} (h : ¬ wideQ fs = true) : ∀ f ∈ fs, f.2.length ≤ 400 := by
  intro f hf
  unfold wideQ at h
  rw [List.any_eq_true] at h
  rcases Nat.lt_or_ge 400 f.2.length with g | g
  · exact absurd ⟨f, hf, decide_eq_true g⟩ h
  · exact g

/-- A RIGHT ROW is split to itself. -/
theorem split_join : ∀ (fs : List (Int × List Int)) (k f : Nat) (last : Int), runQ k last fs = true → (∀ g ∈ fs, 0 ≤ last) → fs.length ≤ f → (∀ g ∈ fs, InB g.2) → splitQ (f + 1) (joinB fs) last k = (0, fs)
  | [], k, f, last, _, _, _, _ => by
    rw [splitQ, if_pos (show (joinB []).length = 0 from rfl)]
  | g :: t, k, f, last, hr, hl, hf, hb => by
    rw [runQ, Bool.and_eq_true, decide_eq_true_eq] at hr
    obtain ⟨⟨h1, h2, h3, h4⟩, hr⟩ := hr
    have hl0 := hl g (by simp)
    obtain ⟨tag, d⟩ := g
    simp only at h2 h3 h4 hr
    have hj : joinB ((tag, d) :: t) = tag :: 0 :: (d.length : Int) :: (d ++ joinB t) := by
      show fieldB (tag, d) ++ joinB t = _
      simp [fieldB]
    rw [hj, splitQ]
    have hgd : (tag :: 0 :: (d.length : Int) :: (d ++ joinB t)).getD 0 0 = tag ∧ (tag :: 0 :: (d.length : Int) :: (d ++ joinB t)).getD 1 0 = 0 ∧ (tag :: 0 :: (d.length : Int) :: (d ++ joinB t)).getD 2 0 = (d.length : Int) := ⟨rfl, rfl, rfl⟩
    rw [hgd.1, hgd.2.1, hgd.2.2]
    have hm : (0 * 256 + (d.length : Int)).toNat = d.length := by omega
    have hd : (tag :: 0 :: (d.length : Int) :: (d ++ joinB t)).drop (3 + d.length) = joinB t := by
      rw [← List.drop_drop]
      show (d ++ joinB t).drop d.length = _
      simp
    have ht : ((tag :: 0 :: (d.length : Int) :: (d ++ joinB t)).drop 3).take d.length = d := by
      show (d ++ joinB t).take d.length = _
      simp
    rw [if_neg (by simp), if_neg (by simp), if_neg (by omega), if_neg (by simp; omega), hm, hd, ht]
    match f, hf with
    | f + 1, hf =>
      rw [split_join t (k + 1) f tag hr (fun _ _ => by omega) (by simpa using hf) (fun g hg => hb g (by simp [hg]))]
end Go.Proofs.YtfginhckeogafaaDoor

namespace Go.Proofs.YtfginhckeogafaaDoor
open Go.RowKit Go.ChangeShapes Go.WideShapes

theorem own_le {w : World} {base : Nat} {e : TypeId} {n : Nat} {v : Value} {xs : List Value} (h : w.ownsRow base e 1 v n xs) : ∃ a c, v = .slice a n c ∧ n ≤ c := by
  obtain ⟨h1, h2⟩ := h
  rcases h2 with ⟨rfl, hx⟩ | ⟨g, cap, cur, rfl, _, _, hc, _⟩
  · subst hx
    exact ⟨none, 0, by simp, by simp⟩
  · exact ⟨_, cap, rfl, hc⟩

theorem run_small : ∀ (fs : List (Int × List Int)) (k : Nat) (last : Int), 0 ≤ last → runQ k last fs = true → Small fs
  | [], _, _, _, _ => fun f hf => by cases hf
  | g :: t, k, last, hl, hr => by
    rw [runQ, Bool.and_eq_true, decide_eq_true_eq] at hr
    obtain ⟨⟨h1, h2, h3, h4⟩, hr⟩ := hr
    intro f hf
    rcases List.mem_cons.1 hf with rfl | hf
    · exact ⟨by omega, h3, h4⟩
    · exact run_small t (k + 1) g.1 (by omega) hr f hf

theorem slq_in {a : Option Addr} {n c : Nat} {fs : List (Int × List Int)} {w : World} (h : SlQ (.slice a n c) fs w) : ∀ g ∈ fs, InB g.2 := by
  intro g hg
  obtain ⟨i, hi, rfl⟩ := List.getElem_of_mem hg
  obtain ⟨b, off, -, -, a', c', -, -, hb⟩ := h.at i hi
  exact hb

theorem joinB_in {fs : List (Int × List Int)} (hs : Small fs) (hb : ∀ g ∈ fs, InB g.2) : InB (joinB fs) := by
  intro x hx
  obtain ⟨g, hg, hx⟩ := List.mem_flatMap.1 hx
  obtain ⟨h1, h2, h3⟩ := hs g hg
  unfold fieldB at hx
  simp only [List.mem_append, List.mem_cons, List.not_mem_nil, or_false] at hx
  rcases hx with (rfl | rfl | rfl) | hx
  · omega
  · omega
  · omega
  · exact hb g hg x hx

/-- A RIGHT ROW, told once: its bytes are bytes, and are split to itself. -/
theorem row_facts {a : Option Addr} {n c : Nat} {fs : List (Int × List Int)} {w : World} (hs : SlQ (.slice a n c) fs w) (hr : runQ 0 0 fs = true) :
    fs.length ≤ 16 ∧ rightQ 0 fs = true ∧ Small fs ∧ InB (joinB fs) ∧ (joinB fs).length ≤ 3248 ∧ splitQ 17 (joinB fs) 0 0 = (0, fs) := by
  have h := hr
  rw [runQ_right _ 0 0 (by omega) (by omega), Bool.and_eq_true, decide_eq_true_eq] at h
  have h16 : fs.length ≤ 16 := by omega
  have hsm := run_small fs 0 0 (by omega) hr
  have hin := slq_in hs
  have hjl := joinB_len hsm fs.length (Nat.le_refl _)
  rw [List.take_length] at hjl
  exact ⟨h16, h.2, hsm, joinB_in hsm hin, by omega, split_join fs 0 16 0 hr (fun _ _ => by omega) h16 hin⟩

end Go.Proofs.YtfginhckeogafaaDoor

namespace Go.Proofs.YtfginhckeogafaaDoor
open Go.RowKit Go.ChangeShapes Go.WideShapes

theorem joinB_append (a b : List (Int × List Int)) : joinB (a ++ b) = joinB a ++ joinB b := by unfold joinB; rw [List.flatMap_append]
theorem joinB_cons (g : Int × List Int) (t : List (Int × List Int)) : joinB (g :: t) = g.1 :: 0 :: (g.2.length : Int) :: (g.2 ++ joinB t) := by
  show fieldB g ++ joinB t = _
  simp [fieldB]

/-- A WRONG ROW's bytes are no row. -/
theorem splitQ_wrong : ∀ (f : Nat) (fs : List (Int × List Int)) (k : Nat) (last : Int), Small fs → k ≤ 16 → runQ k last fs = false → (splitQ f (joinB fs) last k).1 = 4
  | 0, _, _, _, _, _, _ => rfl
  | f + 1, [], _, _, _, _, h => by simp [runQ] at h
  | f + 1, (tag, d) :: t, k, last, hs, hk, h => by
    have hg := hs (tag, d) (by simp)
    simp only at hg
    rw [joinB_cons, splitQ]
    simp only
    have hgd : (tag :: 0 :: (d.length : Int) :: (d ++ joinB t)).getD 0 0 = tag ∧ (tag :: 0 :: (d.length : Int) :: (d ++ joinB t)).getD 1 0 = 0 ∧ (tag :: 0 :: (d.length : Int) :: (d ++ joinB t)).getD 2 0 = (d.length : Int) := ⟨rfl, rfl, rfl⟩
    rw [hgd.1, hgd.2.1, hgd.2.2, if_neg (by simp), if_neg (by simp)]
    by_cases hm : mayQ k last tag d.length
    · obtain ⟨h1, h2, h3, h4⟩ := hm
      have hm' : (0 * 256 + (d.length : Int)).toNat = d.length := by omega
      have hd : (tag :: 0 :: (d.length : Int) :: (d ++ joinB t)).drop (3 + d.length) = joinB t := by
        rw [← List.drop_drop]
        show (d ++ joinB t).drop d.length = _
        simp
      rw [runQ, decide_eq_true ⟨h1, h2, h3, h4⟩, Bool.true_and] at h
      rw [if_neg (by omega), if_neg (by simp; omega), hm', hd]
      exact splitQ_wrong f t (k + 1) tag (fun g hg => hs g (by simp [hg])) (by omega) h
    · rw [if_pos]
      rcases Nat.lt_or_ge k 16 with q | q
      · refine .inl ?_
        rcases Int.lt_or_le last tag with q2 | q2
        · exact absurd ⟨q, q2, hg.2.1, hg.2.2⟩ hm
        · exact q2
      · exact .inr (.inr (by omega))

def lastT : Int → List (Int × List Int) → Int
  | l, [] => l
  | _, g :: t => lastT g.1 t
theorem rightQ_append : ∀ (a b : List (Int × List Int)) (l : Int), rightQ l (a ++ b) = (rightQ l a && rightQ (lastT l a) b)
  | [], b, l => by simp [rightQ, lastT]
  | g :: t, b, l => by
    show (decide _ && rightQ g.1 (t ++ b)) = ((decide _ && rightQ g.1 t) && rightQ (lastT g.1 t) b)
    rw [rightQ_append t b g.1, Bool.and_assoc]
theorem lastT_at : ∀ (a : List (Int × List Int)) (l : Int) (h : 0 < a.length), lastT l a = (a[a.length - 1]'(by omega)).1
  | [g], _, _ => rfl
  | g :: g2 :: t, l, _ => by
    show lastT g.1 (g2 :: t) = _
    rw [lastT_at (g2 :: t) g.1 (by simp)]
    simp
/-- TWO RIGHT ROWS, one behind the other. -/
theorem run_two {a b : List (Int × List Int)} (ha : runQ 0 0 a = true) (hb : runQ 0 0 b = true) :
    runQ 0 0 (a ++ b) = decide ((a.length = 0 ∨ b.length = 0 ∨ lastT 0 a < (b.map Prod.fst).headD 0) ∧ a.length + b.length ≤ 16) := by
  rw [runQ_right _ 0 0 (by omega) (by omega)] at ha hb ⊢
  simp only [Bool.and_eq_true, decide_eq_true_eq, Nat.zero_add] at ha hb ⊢
  rw [rightQ_append, ha.2, Bool.true_and, List.length_append, Bool.decide_and, Bool.and_comm]
  congr 1
  match b, hb with
  | [], _ => simp [rightQ]
  | g :: t, hb =>
    have h2 := hb.2
    rw [rightQ, Bool.and_eq_true, decide_eq_true_eq] at h2
    rw [rightQ, h2.2, Bool.and_true]
    match a, ha with
    | [], _ =>
      rw [decide_eq_true (show 1 ≤ g.1 ∧ g.1 ≤ 255 ∧ g.2.length ≤ 200 ∧ lastT 0 [] < g.1 from ⟨h2.1.1, h2.1.2.1, h2.1.2.2.1, by show (0 : Int) < g.1; omega⟩), decide_eq_true (.inl rfl)]
    | g2 :: t2, _ =>
      rw [Bool.eq_iff_iff]
      simp only [decide_eq_true_eq]
      constructor
      · rintro ⟨_, _, _, h⟩
        exact .inr (.inr h)
      · rintro (h | h | h)
        · simp at h
        · simp at h
        · exact ⟨h2.1.1, h2.1.2.1, h2.1.2.2.1, h⟩

/-- A BEGINNING of a row's bytes that is a row is a beginning of the row. -/
theorem join_prefix : ∀ (gs fs : List (Int × List Int)) (r : List Int), joinB gs ++ r = joinB fs → ∃ t, fs = gs ++ t
  | [], fs, _, _ => ⟨fs, rfl⟩
  | g :: gs, [], r, h => by
    rw [joinB_cons] at h
    simp [joinB] at h
  | g :: gs, f :: fs, r, h => by
    obtain ⟨g1, g2⟩ := g
    obtain ⟨f1, f2⟩ := f
    rw [joinB_cons, joinB_cons] at h
    simp only [List.cons_append, List.cons.injEq, true_and] at h
    obtain ⟨h1, h2, h3⟩ := h
    have hl : g2.length = f2.length := by omega
    rw [List.append_assoc] at h3
    obtain ⟨h4, h5⟩ := List.append_inj h3 hl
    obtain ⟨t, ht⟩ := join_prefix gs fs r h5
    exact ⟨t, by rw [h1, h4, ht]; rfl⟩

/-- A ROW's BYTES CUT SHORT aren't the row's. -/
theorem cut_short {fs : List (Int × List Int)} (hb : InB (joinB fs)) (m : Nat) (hm : m < (joinB fs).length) (h0 : (splitQ 17 ((joinB fs).take m) 0 0).1 = 0) : (splitQ 17 ((joinB fs).take m) 0 0).2.length < fs.length := by
  have hk := (splitQ_back 17 ((joinB fs).take m) 0 0 (fun x hx => hb x (List.mem_of_mem_take hx)) (by omega) h0).2
  obtain ⟨t, ht⟩ := join_prefix _ fs ((joinB fs).drop m) (by rw [hk, List.take_append_drop])
  have hl := congrArg List.length ht
  rw [List.length_append] at hl
  rcases Nat.eq_zero_or_pos t.length with h | h
  · have : t = [] := List.length_eq_zero_iff.1 h
    subst this
    rw [List.append_nil] at ht
    rw [← ht] at hk
    have := congrArg List.length hk
    rw [List.length_take] at this
    omega
  · omega

/-- THE CELLS of a slice of fields. -/
theorem slq_cells {a : Option Addr} {n c : Nat} {fs : List (Int × List Int)} {w : World} (h : SlQ (.slice a n c) fs w) :
    ∃ gs : List (Int × List Int × Value), gs.map fldQ = fs ∧ (∀ g ∈ gs, DatB g.2.2 g.2.1 w) ∧ (a = none → n = 0 ∧ c = 0) ∧ ∀ ad, a = some ad → ∀ j u, (gs.flatMap cellQ)[j]? = some u → w.cell? (ad.add j) = some u := by
  rcases h with ⟨rfl, a', c', hv, hn⟩ | ⟨b, off, c', h0, hv, hc⟩
  · injection hv with h1 h2 h3
    subst h1 h2 h3
    exact ⟨[], rfl, (fun g hg => by cases hg), (fun h => ⟨rfl, hn h⟩), fun ad _ j u hj => by simp at hj⟩
  · injection hv with h1 h2 h3
    subst h1
    have hd : ∀ j, ∃ d, (hj : j < fs.length) → w.cell? ⟨b, off + j * 2 + 1, none⟩ = some d ∧ DatB d fs[j].2 w := by
      intro j
      by_cases hj : j < fs.length
      · obtain ⟨_, d, h2, h3⟩ := hc j hj
        exact ⟨d, fun _ => ⟨h2, h3⟩⟩
      · exact ⟨.nilIface, fun h => absurd h hj⟩
    let D : Nat → Value := fun j => (hd j).choose
    have hD : ∀ j (hj : j < fs.length), w.cell? ⟨b, off + j * 2 + 1, none⟩ = some (D j) ∧ DatB (D j) fs[j].2 w := fun j hj => (hd j).choose_spec hj
    let gs : List (Int × List Int × Value) := (List.range fs.length).pmap (fun j (hj : j < fs.length) => (fs[j].1, fs[j].2, D j)) (fun j hj => List.mem_range.1 hj)
    have hgl : gs.length = fs.length := by simp [gs]
    have hgi : ∀ j (hj : j < gs.length), gs[j] = ((fs[j]'(by omega)).1, (fs[j]'(by omega)).2, D j) := by
      intro j hj
      simp [gs]
    refine ⟨gs, ?_, ?_, (fun h => by cases h), ?_⟩
    · refine List.ext_getElem (by simp [hgl]) fun j h1 h2 => ?_
      have hj : j < gs.length := by simpa using h1
      rw [List.getElem_map, hgi j hj]
      rfl
    · intro g hg
      obtain ⟨j, hj, rfl⟩ := List.getElem_of_mem hg
      rw [hgi j hj]
      exact (hD j (by omega)).2
    · intro ad had j u hj
      injection had with had
      subst had
      rw [add_plain]
      have hjl : j < gs.length * 2 := by
        rcases Nat.lt_or_ge j (gs.length * 2) with q | q
        · exact q
        · rw [List.getElem?_eq_none (by rw [cellQ_len]; exact q)] at hj; cases hj
      have hi : j / 2 < gs.length := by omega
      obtain ⟨q0, q1⟩ := cellQ_at gs (j / 2) hi
      rcases Nat.mod_two_eq_zero_or_one j with e | e
      · have ej : 2 * (j / 2) = j := by omega
        rw [ej, hj, hgi _ hi] at q0
        rw [Option.some.inj q0]
        have := (hc (j / 2) (by omega)).1
        rw [show off + j / 2 * 2 = off + j by omega] at this
        exact this
      · have ej : 2 * (j / 2) + 1 = j := by omega
        rw [ej, hj, hgi _ hi] at q1
        rw [Option.some.inj q1]
        have := (hD (j / 2) (by omega)).1
        rw [show off + j / 2 * 2 + 1 = off + j by omega] at this
        exact this

theorem own_slqD {base n : Nat} {gs : List (Int × List Int × Value)} {w : World} {v : Value} (hn : gs.length = n) (h : w.ownsRow base 58 2 v n (gs.flatMap cellQ)) (hd : ∀ g ∈ gs, DatB g.2.2 g.2.1 w) : SlQ v (gs.map fldQ) w := by
  subst hn
  obtain ⟨h1, h2⟩ := h
  rcases h2 with ⟨rfl, hn⟩ | ⟨g, cap, cur, rfl, hg, hh, hc, hm, hs, ht⟩
  · left
    have : gs = [] := List.length_eq_zero_iff.1 (by omega)
    subst this
    exact ⟨rfl, none, 0, rfl, fun _ => rfl⟩
  · by_cases h0 : gs.length = 0
    · left
      have : gs = [] := List.length_eq_zero_iff.1 h0
      subst this
      exact ⟨rfl, _, cap, rfl, fun h => by cases h⟩
    · right
      refine ⟨g, 0, cap, by simp; omega, by simp, fun j hj => ?_⟩
      have hj' : j < gs.length := by simpa using hj
      obtain ⟨q0, q1⟩ := cellQ_at gs j hj'
      rw [← ht] at q0 q1
      rw [List.getElem?_take, if_pos (by omega)] at q0 q1
      refine ⟨?_, gs[j].2.2, ?_, ?_⟩
      · unfold World.cell?
        dsimp only
        rw [hh]
        simp only [Option.isSome_none, Bool.false_eq_true, if_false, Nat.zero_add, Nat.mul_comm j 2]
        simpa [fldQ] using q0
      · unfold World.cell?
        dsimp only
        rw [hh]
        simp only [Option.isSome_none, Bool.false_eq_true, if_false, Nat.zero_add, Nat.mul_comm j 2]
        simpa using q1
      · simpa [fldQ] using hd gs[j] (List.getElem_mem _)

set_option maxRecDepth 20000 in
theorem wpList_append_slq (w : World) {ops : Array Oper} {rest : List Oper} {o : Oper} {a : Act} {Q : Exit → Act → World → Prop} (hgd : Region.wanted o (yielded ops a.tmps) = true) (s x : Operand)
    (ho : o.op = .call { callee := .builtin .append, args := #[s, x], argTypes := #[50, 50] })
    (base : Nat) (v : Value) (n : Nat) (xs : List Value) (hs : a.eval s = v) (hown : w.ownsRow base 58 2 v n xs)
    (ao : Option Addr) (m c : Nat) (gs : List (Int × List Int × Value)) (hx : a.eval x = .slice ao m c) (hgl : gs.length = m) (hgd2 : ∀ g ∈ gs, ∃ a' n' c', g.2.2 = .slice a' n' c') (hno : ao = none → m = 0 ∧ c = 0) (hc : ∀ ad, ao = some ad → ∀ j u, (gs.flatMap cellQ)[j]? = some u → w.cell? (ad.add j) = some u)
    (h63 : n + m ≤ 100000) (hbase : base ≤ w.heap.size)
    (h : ∀ v' w', w'.ownsRow base 58 2 v' (n + m) (xs ++ gs.flatMap cellQ) → w.grownBy w' v.ownBlock → wpList Tryd.prog ops Q rest (a.put o.dst v') w') : wpList Tryd.prog ops Q (o :: rest) a w := by
  obtain ⟨i0, hi, hz0, hz1, hz2⟩ := info_parts info_fieldT
  refine wpList_step fun K hK => ?_
  rw [if_pos hgd]
  cases ao with
  | none =>
    obtain ⟨rfl, rfl⟩ := hno rfl
    have hgs : gs = [] := List.length_eq_zero_iff.1 hgl
    subst hgs
    have hrun := run_append_owned_none (P := Tryd.prog) (w := w) base 50 o.type 58 i0 2 Tryd.underlying50 hi v n xs hown
    unfold Oper.wp
    simp [execOp, ho, resolve, invoke, builtin, hs, hx, hrun, Result.andThen]
    exact hK _ _ (h v w (by simpa using hown) ⟨rfl, rfl, rfl, Nat.le_refl _, fun _ _ _ => rfl⟩)
  | some ad =>
    refine wp_append_own w s x 50 ho base 58 i0 (.agg #[.int .i64 0, .slice none 0 0]) 2 32 Tryd.underlying50 hi hz0 hz1 hz2 rfl (by decide) v n xs hs hown ad m c (gs.flatMap cellQ) hx (by rw [cellQ_len, hgl]) (hc ad rfl) ?_ (by unfold maxLen; omega) (by omega) hbase fun v' w' h2 h3 _ => hK _ _ (h v' w' h2 h3)
    intro u hu
    obtain ⟨g, hg, hu⟩ := List.mem_flatMap.1 hu
    obtain ⟨a', n', c', e⟩ := hgd2 g hg
    unfold cellQ at hu
    simp only [List.mem_cons, List.not_mem_nil, or_false] at hu
    rcases hu with rfl | rfl
    · rfl
    · rw [e]; rfl
end Go.Proofs.YtfginhckeogafaaDoor

namespace Go.Proofs.YtfginhckeogafaaDoor
open Go.RowKit Go.ChangeShapes Go.WideShapes

def bigV (fs : List (Int × List Int)) : Bool := decide (40 < fs.length) || wideQ fs
theorem own_pos {w : World} {base : Nat} {e : TypeId} {n : Nat} {v : Value} {xs : List Value} (h : w.ownsRow base e 1 v n xs) (hn : 0 < n) : ∃ g c, v = .slice (some ⟨g, 0, none⟩) n c ∧ n ≤ c := by
  obtain ⟨h1, h2⟩ := h
  rcases h2 with ⟨rfl, hx⟩ | ⟨g, cap, cur, rfl, _, _, hc, _⟩
  · omega
  · exact ⟨_, cap, rfl, hc⟩
theorem joinB_zero {fs : List (Int × List Int)} : (joinB fs).length = 0 ↔ fs.length = 0 := by
  cases fs with
  | nil => simp [joinB]
  | cons g t => rw [joinB_cons]; simp
theorem cut_key (n : Int) (m : Nat) (hm : 0 < m) (h5 : m ≤ 5000) : ∃ D : Nat, D < m ∧ wrap64 ((IntKind.u64.wrap n).tmod m) = (D : Int) := by
  have h1 : 0 ≤ IntKind.u64.wrap n := by unfold IntKind.wrap; simp [IntKind.bits, IntKind.signed]; omega
  have h2 : (IntKind.u64.wrap n).tmod m = IntKind.u64.wrap n % m := Int.tmod_eq_emod_of_nonneg h1
  rw [h2]
  have h3 := Int.emod_nonneg (IntKind.u64.wrap n) (show (m : Int) ≠ 0 by omega)
  have h4 := Int.emod_lt_of_pos (IntKind.u64.wrap n) (show (0 : Int) < m by omega)
  refine ⟨(IntKind.u64.wrap n % m).toNat, by omega, ?_⟩
  unfold wrap64
  omega
end Go.Proofs.YtfginhckeogafaaDoor

namespace Go.Proofs.YtfginhckeogafaaDoor
open Go.RowKit Go.ChangeShapes Go.WideShapes

theorem beNum_push (xs : List Int) (c : Int) : beNum (xs ++ [c]) = 256 * beNum xs + c := by
  unfold beNum
  rw [List.foldl_append]
  rfl
theorem beNum_beF : ∀ k n, n < 256 ^ k → beNum (beF k n) = n
  | 0, n, h => by
    obtain rfl : n = 0 := by simpa using h
    rfl
  | k + 1, n, h => by
    unfold beF
    split
    · rename_i h0; subst h0; rfl
    · rw [beNum_push, beNum_beF k (n / 256) (by rw [Nat.pow_succ] at h; omega)]
      omega
theorem beF_lead : ∀ k n, n < 256 ^ k → ¬ (0 < (beF k n).length ∧ (beF k n).getD 0 0 = 0)
  | 0, n, _ => by simp [beF]
  | k + 1, n, h => by
    unfold beF
    split
    · simp
    · rename_i h0
      have ih := beF_lead k (n / 256) (by rw [Nat.pow_succ] at h; omega)
      by_cases hl : 0 < (beF k (n / 256)).length
      · rintro ⟨_, h2⟩
        have e : (beF k (n / 256) ++ [((n % 256 : Nat) : Int)]).getD 0 0 = (beF k (n / 256)).getD 0 0 := by simp only [List.getD, List.getElem?_append_left hl]
        rw [e] at h2
        exact ih ⟨hl, h2⟩
      · have hz : beF k (n / 256) = [] := List.length_eq_zero_iff.1 (by omega)
        have hq : n / 256 = 0 := by
          have := beNum_beF k (n / 256) (by rw [Nat.pow_succ] at h; omega)
          rw [hz] at this
          have h3 : beNum [] = 0 := rfl
          omega
        rw [hz]
        simp
        omega
theorem toNum_beF (n : Nat) (h : n < 9223372036854775808) : toNum (beF 8 n) = ((n : Int), 0) := by
  have h8 : n < 256 ^ 8 := Nat.lt_trans h (by decide)
  unfold toNum
  rw [if_neg (beF_lead 8 n h8), if_neg (by have := beF_len 8 n; omega), beNum_beF 8 n h8, if_neg (by omega)]
theorem toNum_two (bs : List Int) : (toNum bs).2 = 0 ∨ (toNum bs).2 = 1 ∨ (toNum bs).2 = 4 := by
  unfold toNum
  split
  · exact .inr (.inr rfl)
  · split
    · exact .inr (.inl rfl)
    · split
      · exact .inr (.inl rfl)
      · exact .inl rfl

end Go.Proofs.YtfginhckeogafaaDoor

