/-
  LetterDecodes: for all bytes (the law asks nothing of more than 2000), letter.Decode answers just the document's message or error, leaves the bytes as they were, and what it answers is encoded to the same bytes. Condition: package api's errors and strconv's table of powers hold what their declarations lay.
-/
import Derived.Test.YtfginhckeogafaaDoorPkE
import Derived.Lib.SmallJoins
import Derived.Deep.RegionHeld3
import Derived.Test.YtfginhckeogafaaDoorPkI
import Derived.Test.YtfginhckeogafaaDoorPkH
import Derived.Test.YtfginhckeogafaaDoorRows
import Derived.Test.YtfginhckeogafaaDoorPkG
import Derived.Test.YtfginhckeogafaaDoorCards
import Derived.Test.YtfginhckeogafaaDoorTie
import Derived.SevenTiedAt
import Derived.Lay
import Derived.MakeChecks

namespace Go.Proofs.YtfginhckeogafaaDoor
open Go.RowKit Go.ChangeShapes Go.WideShapes

theorem dec_made (z : Value) (n : Nat) : (madeCells #[z] n).toList = List.replicate n z := by
  rw [List.eq_replicate_iff]
  refine ⟨by simp [madeCells], fun b hb => ?_⟩
  simp [madeCells] at hb
  obtain ⟨p, _, h⟩ := hb
  rw [← h]
  simp [Nat.mod_one]
theorem info_int8 : (Tryd.prog.info? 3).map (fun i => (i.zero, i.size, i.bytes)) = some (some (.int .i64 0), 1, 8) := by kernel_rfl
set_option maxRecDepth 100000 in
set_option maxHeartbeats 4000000 in
theorem refDecode8_row (a : Option Addr) (n c : Nat) (bs : List Int) (hn : bs.length = n) (hnc : n ≤ c) (hl : n ≤ 1000) (hb : InB bs) (w : World) (hs : SlB (.slice a n c) bs w) (he : (splitQ 17 bs 0 0).1 = 0) :
    Calls Tryd.prog 16 #[.slice a n c] w fun e w' => e = .returned (.tuple #[.agg (decM bs).2.cells, .int .i64 (decM bs).1]) ∧ Kp w w' := by
  obtain ⟨nn, hnn⟩ : ∃ x : Int, (n : Int) = x := ⟨_, rfl⟩
  have h1 : ¬ nn > 1000 := by omega
  have K := Lib.hid (Kp.trans (kp_alloc w (.cells #[.int .i64 0, .int .i64 0, .int .i64 0, .int .i64 0, .int .i64 0, .int .i64 0, .int .i64 0, .int .i64 0, .int .i64 0] 25)) (kp_alloc _ (.cells #[.int .i64 0, .int .i64 0, .int .i64 0, .int .i64 0, .int .i64 0, .int .i64 0, .int .i64 0, .int .i64 0, .int .i64 0] 25)))
  have hz := Lib.hid (dec_new0 w (.cells #[.int .i64 0, .int .i64 0, .int .i64 0, .int .i64 0, .int .i64 0, .int .i64 0, .int .i64 0, .int .i64 0, .int .i64 0] 25) (.cells #[.int .i64 0, .int .i64 0, .int .i64 0, .int .i64 0, .int .i64 0, .int .i64 0, .int .i64 0, .int .i64 0, .int .i64 0] 25))
  have hz1 := Lib.hid (enc_new1 w (.cells #[.int .i64 0, .int .i64 0, .int .i64 0, .int .i64 0, .int .i64 0, .int .i64 0, .int .i64 0, .int .i64 0, .int .i64 0] 25) (.cells #[.int .i64 0, .int .i64 0, .int .i64 0, .int .i64 0, .int .i64 0, .int .i64 0, .int .i64 0, .int .i64 0, .int .i64 0] 25))
  have hsp := fun w1 (hk : Kp w w1) => refSplit_any a c bs n hn (by omega) hnc hb w1 (hs.kp hk)
  have htg := splitQ_tags 17 bs 0 0 hb
  have h17 := splitQ_len 17 bs 0 0
  have hdm : decM bs = (match putF (List.replicate 9 0) (splitQ 17 bs 0 0).2 with | none => (4, noM) | some l => if rightM (ofL l) = true then (0, ofL l) else (4, noM)) := by
    unfold decM
    rw [if_neg (by omega), if_neg (fun q => q he)]
    rfl
  obtain ⟨DD, hDD⟩ : ∃ x, decM bs = x := ⟨_, rfl⟩
  rw [hDD] at hdm ⊢
  obtain ⟨S, hS⟩ : ∃ x, splitQ 17 bs 0 0 = x := ⟨_, rfl⟩
  rw [hS] at hsp he htg hdm h17
  obtain ⟨S1, fs⟩ := S
  dsimp only at hsp he htg hdm h17
  subst he
  have HSP := Lib.hid hsp
  have HTG := Lib.hid htg
  have HDM := Lib.hid hdm
  have HII := Lib.hid (info_parts info_int8)
  clear hsp hs hb hn hS hDD htg hdm
  obtain ⟨i0, hi, hi0, hi1, hi2⟩ := HII.out
  have HI := Lib.hid (And.intro hi1 hi2)
  have HI2 := Lib.hid hi
  have HI3 := Lib.hid hi0
  clear hi hi0 hi1 hi2
  go_enter Tryd.func16, Tryd.ntmps16
  go_wp2_with (first
    | (go_at_call 45; (with_reducible refine (HSP.out _ K.out).mono ?_); rintro e w2 ⟨v, rfl, hq, -, hk2⟩; have HQ := Lib.hid (hq rfl); have K2 := Lib.hid (Kp.trans K.out hk2); have Z2 := Lib.hid ((Below.block hk2 w.heap.size (old_of_row hz.out)).trans hz.out); have Z3 := Lib.hid ((Below.block hk2 (w.heap.size + 1) (old_of_row hz1.out)).trans hz1.out); clear hk2 hq)
    | (at_make; refine wpList_make_full _ rfl _ _ 73 rfl w2.heap.size 3 i0 (.int .i64 0) 1 Tryd.underlying73 HI2.out HI3.out HI.out.1 .i64 .i64 _ _ 9 rfl rfl ?m1 ?m2 ?m3 ?m4 ?m5 ?_))
  case m1 => rfl
  case m2 => rfl
  case m3 => rw [HI.out.2]; omega
  case m4 => unfold maxLen; omega
  case m5 => exact Nat.le_refl _
  rintro w3 hown3 hgr3
  have K3 : Hid (Kp w2 w3) := Lib.hid ((Below.refl _ _).grown hgr3 (Nat.le_refl _) (fun k hk => by cases hk))
  have h0 : w3.ownsRow w2.heap.size 3 1 (.slice (some ⟨w2.heap.size, 0, none⟩) 9 9) 9 ((List.replicate 9 (0 : Int)).map (Value.int .i64)) := by
    have e : (madeCells #[.int .i64 0] 9).toList = (List.replicate 9 (0 : Int)).map (Value.int .i64) := by rw [dec_made]; rfl
    rw [← e]; exact hown3
  have OW3 := Lib.hid h0
  obtain ⟨av, cv, hv⟩ := HQ.out.form
  subst hv
  obtain ⟨kf, hkf⟩ : ∃ x, fs.length = x := ⟨_, rfl⟩
  rw [hkf] at h17
  have HSQ := HQ.out
  rw [hkf] at HSQ ⊢
  have HSL := Lib.hid HSQ
  have HKF := Lib.hid hkf
  obtain ⟨L, hL⟩ : ∃ L, w2.heap.size = L := ⟨_, rfl⟩
  rw [hL] at OW3 ⊢
  have HLL := Lib.hid hL
  clear hown3 hgr3 h0 HSQ hkf hL
  go_wp2
  go_loopw [30] (fun i wr => ∃ (j : Nat) (l : List Int), j ≤ kf ∧ i = .int .i64 j ∧ l.length = 9 ∧ Kp w2 wr ∧ wr.ownsRow L 3 1 (.slice (some ⟨L, 0, none⟩) 9 9) 9 (l.map (Value.int .i64)) ∧ putF (List.replicate 9 0) fs = putF l (fs.drop j)) (fun i _ => kf - (intOf i).toNat)
  case atStart => exact ⟨0, _, Nat.zero_le _, rfl, rfl, K3.out, OW3.out, rfl⟩
  case round =>
    obtain ⟨j, l, hj, rfl, hl9, hk, hown, hput⟩ := hrel
    obtain ⟨jj, hjj⟩ : ∃ jj : Int, (j : Int) = jj := ⟨_, rfl⟩
    rw [hjj]
    have HK := Lib.hid hk
    have HOW := Lib.hid hown
    have HL9 := Lib.hid hl9
    have hkl := HKF.out
    by_cases hlt : j < kf
    · have hjl : j < fs.length := by omega
      obtain ⟨b, off, rfl, ct, ad, cd, cdt, hsd, hbd⟩ := (HSL.out.kp hk).at j hjl
      obtain ⟨t0, t1, t2⟩ := HTG.out fs[j] (List.getElem_mem hjl)
      have hdr : fs.drop j = fs[j] :: fs.drop (j + 1) := List.drop_eq_getElem_cons hjl
      rw [hdr, putF] at hput
      obtain ⟨y, hy⟩ : ∃ y, fs[j] = y := ⟨_, rfl⟩
      rw [hy] at ct cdt hsd hbd t0 t1 t2 hput
      obtain ⟨tg, dt⟩ := y
      dsimp only at ct cdt hsd hbd t0 t1 t2 hput
      obtain ⟨dl, hdl⟩ : ∃ x, dt.length = x := ⟨_, rfl⟩
      rw [hdl] at cdt hsd t2 hput
      have HTN := Lib.hid (fun w1 (hk1 : Kp wr w1) => refToNumber_any ad cd dt dl hdl (by omega) hbd w1 (hsd.kp hk1))
      obtain ⟨tn, htn⟩ : ∃ x, (toNum dt).1 = x := ⟨_, rfl⟩
      obtain ⟨te, hte⟩ : ∃ x, (toNum dt).2 = x := ⟨_, rfl⟩
      rw [htn, hte] at HTN hput
      have ej : jj.toNat = j := by omega
      rw [← ej] at ct cdt
      have j0 : 0 ≤ jj := by omega
      have hltj : jj < kf := by omega
      have HJ := Lib.hid hjj
      have HNO := Lib.hid (fun (q : 9 < tg ∨ dl = 0 ∨ te ≠ 0) => show DD = (4, noM) by rw [HDM.out, hput, if_pos q])
      by_cases q1 : 9 < tg
      · have DN := Lib.hid (HNO.out (.inl q1))
        clear HNO
        have ZF := (Below.block (Kp.trans HK.out (kp_alloc wr (.cells #[.int .i64 tg, .slice ad dl cd] 58))) w.heap.size (by have := old_of_row Z2.out; exact this)).trans Z2.out
        have ZN := (Below.block (Kp.trans HK.out (kp_alloc wr (.cells #[.int .i64 tg, .slice ad dl cd] 58))) (w.heap.size + 1) (by have := old_of_row Z3.out; exact this)).trans Z3.out
        obtain ⟨d0, d1, d2, d3, d4, d5, d6, d7, d8⟩ := cells9 ZN
        obtain ⟨e0, e1, e2, e3, e4, e5, e6, e7, e8⟩ := cells9 ZF
        have fz := froz9 ZF
        have HZF := Lib.hid ZF
        clear ZF ZN hk hown hput hsd hbd hdl hjl htn hte hy hdr hlt ej hjj hl9 hkl
        go_wp2_with (go_at_call 46; (with_reducible refine (HTN.out _ (kp_alloc _ _)).mono ?_); rintro e w5 ⟨rfl, rfl⟩)
        have hz9 := set9 (.int .i64 0) (.int .i64 0) (.int .i64 0) (.int .i64 0) (.int .i64 0) (.int .i64 0) (.int .i64 0) (.int .i64 0) (.int .i64 0) HZF.out
        refine bodyPost_ret (results_row_tmp8 (p := 2) (u := 3) rfl _ _ w.heap.size 25 _ (0, 0) _ rfl hz9 Tryd.underlying25 rfl (by kernel_rfl)) rfl ?_
        rw [DN.out]
        exact ⟨rfl, set9_kp (Kp.trans (Kp.trans K2.out HK.out) (kp_alloc _ _)) (Nat.le_refl _) _ _ _ _ _ _ _ _ _⟩
      by_cases q2 : dl = 0
      · have DN := Lib.hid (HNO.out (.inr (.inl q2)))
        clear HNO
        subst q2
        have ZF := (Below.block (Kp.trans HK.out (kp_alloc wr (.cells #[.int .i64 tg, .slice ad 0 cd] 58))) w.heap.size (by have := old_of_row Z2.out; exact this)).trans Z2.out
        have ZN := (Below.block (Kp.trans HK.out (kp_alloc wr (.cells #[.int .i64 tg, .slice ad 0 cd] 58))) (w.heap.size + 1) (by have := old_of_row Z3.out; exact this)).trans Z3.out
        obtain ⟨d0, d1, d2, d3, d4, d5, d6, d7, d8⟩ := cells9 ZN
        obtain ⟨e0, e1, e2, e3, e4, e5, e6, e7, e8⟩ := cells9 ZF
        have fz := froz9 ZF
        have HZF := Lib.hid ZF
        clear ZF ZN hk hown hput hsd hbd hdl hjl htn hte hy hdr hlt ej hjj hl9 hkl
        go_wp2_with (go_at_call 46; (with_reducible refine (HTN.out _ (kp_alloc _ _)).mono ?_); rintro e w5 ⟨rfl, rfl⟩)
        have hz9 := set9 (.int .i64 0) (.int .i64 0) (.int .i64 0) (.int .i64 0) (.int .i64 0) (.int .i64 0) (.int .i64 0) (.int .i64 0) (.int .i64 0) HZF.out
        refine bodyPost_ret (results_row_tmp8 (p := 2) (u := 3) rfl _ _ w.heap.size 25 _ (0, 0) _ rfl hz9 Tryd.underlying25 rfl (by kernel_rfl)) rfl ?_
        rw [DN.out]
        exact ⟨rfl, set9_kp (Kp.trans (Kp.trans K2.out HK.out) (kp_alloc _ _)) (Nat.le_refl _) _ _ _ _ _ _ _ _ _⟩
      by_cases q3 : te = 0
      · clear HNO
        subst q3
        obtain ⟨tk, rfl⟩ : ∃ x, tg = x + 1 := ⟨tg - 1, by omega⟩
        have tk0 : 0 ≤ tk := by omega
        have tk9 : tk < 9 := by omega
        have hkn : tk.toNat < 9 := by omega
        have q1' : tk + 1 ≤ 9 := by omega
        have hownX := own_kp hown (kp_alloc wr (.cells #[.int .i64 (tk + 1), .slice ad dl cd] 58))
        have hcX := hownX.cellAt tk.toNat (by omega)
        rw [List.getElem?_map, List.getElem?_eq_getElem (by omega), Option.map_some] at hcX
        obtain ⟨lo, hlo⟩ : ∃ x, l[tk.toNat]'(by omega) = x := ⟨_, rfl⟩
        rw [hlo] at hcX
        clear hlo
        have hzX := hownX.frozenAt tk.toNat
        have hst := hownX.stored tk.toNat (.int .i64 tn)
        have HST := Lib.hid hst.1
        have HGR := Lib.hid (Below.grown (Kp.trans HK.out (kp_alloc wr (.cells #[.int .i64 (tk + 1), .slice ad dl cd] 58))) hst.2 (Below.size (Kp.trans HK.out (kp_alloc wr (.cells #[.int .i64 (tk + 1), .slice ad dl cd] 58)))) (fun k hk => by injection hk with hk; have := HLL.out; omega))
        have HPT : Hid (putF (List.replicate 9 0) fs = putF (l.set tk.toNat tn) (fs.drop (j + 1))) := Lib.hid (by
          rw [hput, if_neg (by omega), show tk + 1 - 1 = tk by omega])
        obtain ⟨dd, hdd⟩ : ∃ x : Int, (dl : Int) = x := ⟨_, rfl⟩
        have hd0 : ¬ dd = 0 := by omega
        have hb9 : decide (9 < tk + 1) = false := decide_eq_false (by omega)
        have hbd2 : (dd == 0) = false := by simpa using hd0
        clear hst hk hown hput hsd hbd hdl hjl htn hte hy hdr hlt ej hjj hl9 hkl hownX
        go_wp2_with (go_at_call 46; (with_reducible refine (HTN.out _ (kp_alloc _ _)).mono ?_); rintro e w5 ⟨rfl, rfl⟩)
        have hjj := HJ.out
        go_roundw
        case rel =>
          refine ⟨j + 1, l.set tk.toNat tn, by omega, by congr 1; omega, by rw [List.length_set]; exact HL9.out, HGR.out, ?_, HPT.out⟩
          rw [List.map_set]
          exact HST.out
        case measure => simp [intOf]; omega
      · have DN := Lib.hid (HNO.out (.inr (.inr q3)))
        clear HNO
        obtain ⟨dd, hdd⟩ : ∃ x : Int, (dl : Int) = x := ⟨_, rfl⟩
        have hd0 : ¬ dd = 0 := by omega
        have hb9 : decide (9 < tg) = false := decide_eq_false q1
        have hbd2 : (dd == 0) = false := by simpa using hd0
        have hbt : (te != 0) = true := by simpa using q3
        have ZF := (Below.block (Kp.trans HK.out (kp_alloc wr (.cells #[.int .i64 tg, .slice ad dl cd] 58))) w.heap.size (by have := old_of_row Z2.out; exact this)).trans Z2.out
        have ZN := (Below.block (Kp.trans HK.out (kp_alloc wr (.cells #[.int .i64 tg, .slice ad dl cd] 58))) (w.heap.size + 1) (by have := old_of_row Z3.out; exact this)).trans Z3.out
        obtain ⟨d0, d1, d2, d3, d4, d5, d6, d7, d8⟩ := cells9 ZN
        obtain ⟨e0, e1, e2, e3, e4, e5, e6, e7, e8⟩ := cells9 ZF
        have fz := froz9 ZF
        have HZF := Lib.hid ZF
        clear ZF ZN hk hown hput hsd hbd hdl hjl htn hte hy hdr hlt ej hjj hl9 hkl
        go_wp2_with (go_at_call 46; (with_reducible refine (HTN.out _ (kp_alloc _ _)).mono ?_); rintro e w5 ⟨rfl, rfl⟩)
        have hz9 := set9 (.int .i64 0) (.int .i64 0) (.int .i64 0) (.int .i64 0) (.int .i64 0) (.int .i64 0) (.int .i64 0) (.int .i64 0) (.int .i64 0) HZF.out
        refine bodyPost_ret (results_row_tmp8 (p := 2) (u := 3) rfl _ _ w.heap.size 25 _ (0, 0) _ rfl hz9 Tryd.underlying25 rfl (by kernel_rfl)) rfl ?_
        rw [DN.out]
        exact ⟨rfl, set9_kp (Kp.trans (Kp.trans K2.out HK.out) (kp_alloc _ _)) (Nat.le_refl _) _ _ _ _ _ _ _ _ _⟩
    · obtain rfl : j = kf := by omega
      rw [← hkl, List.drop_length, putF] at hput
      have HDE : DD = if rightM (ofL l) = true then (0, ofL l) else (4, noM) := by rw [HDM.out, hput]
      match l, hl9 with
      | [k, f, t, n, s, r, p, o, c], _ =>
        have hol : ofL [k, f, t, n, s, r, p, o, c] = ⟨k, f, t, n, s, r, p, o, c⟩ := rfl
        rw [hol] at HDE
        have g0 : wr.cell? ⟨L, 0, none⟩ = some (.int .i64 k) := hown.cellAt 0 (by decide)
        have g1 : wr.cell? ⟨L, 1, none⟩ = some (.int .i64 f) := hown.cellAt 1 (by decide)
        have g2 : wr.cell? ⟨L, 2, none⟩ = some (.int .i64 t) := hown.cellAt 2 (by decide)
        have g3 : wr.cell? ⟨L, 3, none⟩ = some (.int .i64 n) := hown.cellAt 3 (by decide)
        have g4 : wr.cell? ⟨L, 4, none⟩ = some (.int .i64 s) := hown.cellAt 4 (by decide)
        have g5 : wr.cell? ⟨L, 5, none⟩ = some (.int .i64 r) := hown.cellAt 5 (by decide)
        have g6 : wr.cell? ⟨L, 6, none⟩ = some (.int .i64 p) := hown.cellAt 6 (by decide)
        have g7 : wr.cell? ⟨L, 7, none⟩ = some (.int .i64 o) := hown.cellAt 7 (by decide)
        have g8 : wr.cell? ⟨L, 8, none⟩ = some (.int .i64 c) := hown.cellAt 8 (by decide)
        have HRR := fun w1 => refRight8_any ⟨k, f, t, n, s, r, p, o, c⟩ w1
        have hex : ¬ jj < j := by omega
        have Z2w := Lib.hid (kp_row HK.out Z2.out)
        have Z3w := Lib.hid (kp_row HK.out Z3.out)
        have KW := Lib.hid (Kp.trans K2.out HK.out)
        dsimp only [MM.cells] at HRR
        have HMR := Lib.hid (MapKept.heap_alloc wr (.cells #[.int .i64 k, .int .i64 f, .int .i64 t, .int .i64 n, .int .i64 s, .int .i64 r, .int .i64 p, .int .i64 o, .int .i64 c] 25)).1
        cases hrm : rightM ⟨k, f, t, n, s, r, p, o, c⟩ with
        | true =>
          rw [hrm] at HDE HRR
          rw [if_pos rfl] at HDE
          have HRR := Lib.hid HRR
          clear hput hkl hlt hjj hol hrm hown hk
          go_wp2
          refine wp_region_held_drew (S := fun w' => Kp wr w') (by kernel_rfl) ?_ (fun hHeld => ?_)
          · exact (Kp.refl wr).drew
          refine wpAnyH_take (i := 0) (v := ?_) rfl (by kernel_rfl) (by kernel_rfl) (by kernel_rfl) (fun _ _ _ h => h) (Or.inl ⟨by rfl, ?_⟩) (by assumption) ?_
          rotate_left
          · intro w hSw; go_simp; try with_reducible rfl
          go_simp
          refine wpAnyH_take (i := 1) (v := ?_) rfl (by kernel_rfl) (by kernel_rfl) (by kernel_rfl) (fun _ _ _ h => h) (Or.inl ⟨by rfl, ?_⟩) (by assumption) ?_
          rotate_left
          · intro w hSw; go_simp; try with_reducible rfl
          go_simp
          refine wpAnyH_take (i := 2) (v := ?_) rfl (by kernel_rfl) (by kernel_rfl) (by kernel_rfl) (fun _ _ _ h => h) (Or.inl ⟨by rfl, ?_⟩) (by assumption) ?_
          rotate_left
          · intro w hSw; have q := kp_cell hSw g0; go_simp; try with_reducible rfl
          go_simp
          refine wpAnyH_take (i := 3) (v := ?_) rfl (by kernel_rfl) (by kernel_rfl) (by kernel_rfl) (fun _ _ _ h => h) (Or.inl ⟨by rfl, ?_⟩) (by assumption) ?_
          rotate_left
          · intro w hSw; go_simp; try with_reducible rfl
          go_simp
          refine wpAnyH_take (i := 4) (v := ?_) rfl (by kernel_rfl) (by kernel_rfl) (by kernel_rfl) (fun _ _ _ h => h) (Or.inl ⟨by rfl, ?_⟩) (by assumption) ?_
          rotate_left
          · intro w hSw; go_simp; try with_reducible rfl
          go_simp
          refine wpAnyH_take (i := 5) (v := ?_) rfl (by kernel_rfl) (by kernel_rfl) (by kernel_rfl) (fun _ _ _ h => h) (Or.inl ⟨by rfl, ?_⟩) (by assumption) ?_
          rotate_left
          · intro w hSw; have q := kp_cell hSw g1; go_simp; try with_reducible rfl
          go_simp
          refine wpAnyH_take (i := 6) (v := ?_) rfl (by kernel_rfl) (by kernel_rfl) (by kernel_rfl) (fun _ _ _ h => h) (Or.inl ⟨by rfl, ?_⟩) (by assumption) ?_
          rotate_left
          · intro w hSw; go_simp; try with_reducible rfl
          go_simp
          refine wpAnyH_take (i := 7) (v := ?_) rfl (by kernel_rfl) (by kernel_rfl) (by kernel_rfl) (fun _ _ _ h => h) (Or.inl ⟨by rfl, ?_⟩) (by assumption) ?_
          rotate_left
          · intro w hSw; go_simp; try with_reducible rfl
          go_simp
          refine wpAnyH_take (i := 8) (v := ?_) rfl (by kernel_rfl) (by kernel_rfl) (by kernel_rfl) (fun _ _ _ h => h) (Or.inl ⟨by rfl, ?_⟩) (by assumption) ?_
          rotate_left
          · intro w hSw; have q := kp_cell hSw g2; go_simp; try with_reducible rfl
          go_simp
          refine wpAnyH_take (i := 9) (v := ?_) rfl (by kernel_rfl) (by kernel_rfl) (by kernel_rfl) (fun _ _ _ h => h) (Or.inl ⟨by rfl, ?_⟩) (by assumption) ?_
          rotate_left
          · intro w hSw; go_simp; try with_reducible rfl
          go_simp
          refine wpAnyH_take (i := 10) (v := ?_) rfl (by kernel_rfl) (by kernel_rfl) (by kernel_rfl) (fun _ _ _ h => h) (Or.inl ⟨by rfl, ?_⟩) (by assumption) ?_
          rotate_left
          · intro w hSw; go_simp; try with_reducible rfl
          go_simp
          refine wpAnyH_take (i := 11) (v := ?_) rfl (by kernel_rfl) (by kernel_rfl) (by kernel_rfl) (fun _ _ _ h => h) (Or.inl ⟨by rfl, ?_⟩) (by assumption) ?_
          rotate_left
          · intro w hSw; have q := kp_cell hSw g3; go_simp; try with_reducible rfl
          go_simp
          refine wpAnyH_take (i := 12) (v := ?_) rfl (by kernel_rfl) (by kernel_rfl) (by kernel_rfl) (fun _ _ _ h => h) (Or.inl ⟨by rfl, ?_⟩) (by assumption) ?_
          rotate_left
          · intro w hSw; go_simp; try with_reducible rfl
          go_simp
          refine wpAnyH_take (i := 13) (v := ?_) rfl (by kernel_rfl) (by kernel_rfl) (by kernel_rfl) (fun _ _ _ h => h) (Or.inl ⟨by rfl, ?_⟩) (by assumption) ?_
          rotate_left
          · intro w hSw; go_simp; try with_reducible rfl
          go_simp
          refine wpAnyH_take (i := 14) (v := ?_) rfl (by kernel_rfl) (by kernel_rfl) (by kernel_rfl) (fun _ _ _ h => h) (Or.inl ⟨by rfl, ?_⟩) (by assumption) ?_
          rotate_left
          · intro w hSw; have q := kp_cell hSw g4; go_simp; try with_reducible rfl
          go_simp
          refine wpAnyH_take (i := 15) (v := ?_) rfl (by kernel_rfl) (by kernel_rfl) (by kernel_rfl) (fun _ _ _ h => h) (Or.inl ⟨by rfl, ?_⟩) (by assumption) ?_
          rotate_left
          · intro w hSw; go_simp; try with_reducible rfl
          go_simp
          refine wpAnyH_take (i := 16) (v := ?_) rfl (by kernel_rfl) (by kernel_rfl) (by kernel_rfl) (fun _ _ _ h => h) (Or.inl ⟨by rfl, ?_⟩) (by assumption) ?_
          rotate_left
          · intro w hSw; go_simp; try with_reducible rfl
          go_simp
          refine wpAnyH_take (i := 17) (v := ?_) rfl (by kernel_rfl) (by kernel_rfl) (by kernel_rfl) (fun _ _ _ h => h) (Or.inl ⟨by rfl, ?_⟩) (by assumption) ?_
          rotate_left
          · intro w hSw; go_simp; try with_reducible rfl
          go_simp
          refine wpAnyH_take (i := 18) (v := ?_) rfl (by kernel_rfl) (by kernel_rfl) (by kernel_rfl) (fun _ _ _ h => h) (Or.inl ⟨by rfl, ?_⟩) (by assumption) ?_
          rotate_left
          · intro w hSw; have q := kp_cell hSw g5; go_simp; try with_reducible rfl
          go_simp
          refine wpAnyH_take (i := 19) (v := ?_) rfl (by kernel_rfl) (by kernel_rfl) (by kernel_rfl) (fun _ _ _ h => h) (Or.inl ⟨by rfl, ?_⟩) (by assumption) ?_
          rotate_left
          · intro w hSw; go_simp; try with_reducible rfl
          go_simp
          refine wpAnyH_take (i := 20) (v := ?_) rfl (by kernel_rfl) (by kernel_rfl) (by kernel_rfl) (fun _ _ _ h => h) (Or.inl ⟨by rfl, ?_⟩) (by assumption) ?_
          rotate_left
          · intro w hSw; go_simp; try with_reducible rfl
          go_simp
          refine wpAnyH_take (i := 21) (v := ?_) rfl (by kernel_rfl) (by kernel_rfl) (by kernel_rfl) (fun _ _ _ h => h) (Or.inl ⟨by rfl, ?_⟩) (by assumption) ?_
          rotate_left
          · intro w hSw; have q := kp_cell hSw g6; go_simp; try with_reducible rfl
          go_simp
          refine wpAnyH_take (i := 22) (v := ?_) rfl (by kernel_rfl) (by kernel_rfl) (by kernel_rfl) (fun _ _ _ h => h) (Or.inl ⟨by rfl, ?_⟩) (by assumption) ?_
          rotate_left
          · intro w hSw; go_simp; try with_reducible rfl
          go_simp
          refine wpAnyH_take (i := 23) (v := ?_) rfl (by kernel_rfl) (by kernel_rfl) (by kernel_rfl) (fun _ _ _ h => h) (Or.inl ⟨by rfl, ?_⟩) (by assumption) ?_
          rotate_left
          · intro w hSw; go_simp; try with_reducible rfl
          go_simp
          refine wpAnyH_take (i := 24) (v := ?_) rfl (by kernel_rfl) (by kernel_rfl) (by kernel_rfl) (fun _ _ _ h => h) (Or.inl ⟨by rfl, ?_⟩) (by assumption) ?_
          rotate_left
          · intro w hSw; have q := kp_cell hSw g7; go_simp; try with_reducible rfl
          go_simp
          refine wpAnyH_take (i := 25) (v := ?_) rfl (by kernel_rfl) (by kernel_rfl) (by kernel_rfl) (fun _ _ _ h => h) (Or.inl ⟨by rfl, ?_⟩) (by assumption) ?_
          rotate_left
          · intro w hSw; go_simp; try with_reducible rfl
          go_simp
          refine wpAnyH_take (i := 26) (v := ?_) rfl (by kernel_rfl) (by kernel_rfl) (by kernel_rfl) (fun _ _ _ h => h) (Or.inl ⟨by rfl, ?_⟩) (by assumption) ?_
          rotate_left
          · intro w hSw; go_simp; try with_reducible rfl
          go_simp
          refine wpAnyH_take (i := 27) (v := ?_) rfl (by kernel_rfl) (by kernel_rfl) (by kernel_rfl) (fun _ _ _ h => h) (Or.inl ⟨by rfl, ?_⟩) (by assumption) ?_
          rotate_left
          · intro w hSw; have q := kp_cell hSw g8; go_simp; try with_reducible rfl
          go_simp
          refine wpAnyH_take (i := 28) (v := ?_) rfl (by kernel_rfl) (by kernel_rfl) (by kernel_rfl) (fun _ _ _ h => h) (Or.inl ⟨by rfl, ?_⟩) (by assumption) ?_
          rotate_left
          · intro w hSw; go_simp; try with_reducible rfl
          go_simp
          refine wpAnyH_ready (rs := [29]) (by kernel_rfl) (by simp) ?_
          refine AllReadyH.cons rfl (fun K hK => ?_) AllReadyH.nil
          go_simp
          refine hK.out _ _ ?_ (fun hHeld => ?_)
          · exact Kp.trans (Kp.refl wr).drew (kp_alloc _ _)
          clear hK K
          refine wpAnyH_ready (rs := [30]) (by kernel_rfl) (by simp) ?_
          refine AllReadyH.cons rfl (fun K hK => ?_) AllReadyH.nil
          go_simp
          refine hK.out _ _ ?_ (fun hHeld => ?_)
          · exact (kp_alloc wr (.cells #[.int .i64 k, .int .i64 f, .int .i64 t, .int .i64 n, .int .i64 s, .int .i64 r, .int .i64 p, .int .i64 o, .int .i64 c] 25)).drew
          clear hK K
          refine wpAnyH_done (by kernel_rfl) ?_ _
          go_wp2_with (go_at_call 11; (with_reducible refine (HRR.out _).mono ?_); rintro e w7 ⟨rfl, hk7⟩; have K7 := Lib.hid (Kp.trans (kp_alloc wr (.cells #[.int .i64 k, .int .i64 f, .int .i64 t, .int .i64 n, .int .i64 s, .int .i64 r, .int .i64 p, .int .i64 o, .int .i64 c] 25)).drew hk7); have M7 := kp_row hk7 (show ((wr.alloc (.cells #[.int .i64 k, .int .i64 f, .int .i64 t, .int .i64 n, .int .i64 s, .int .i64 r, .int .i64 p, .int .i64 o, .int .i64 c] 25)).drew).heap[wr.heap.size]? = some (.cells #[.int .i64 k, .int .i64 f, .int .i64 t, .int .i64 n, .int .i64 s, .int .i64 r, .int .i64 p, .int .i64 o, .int .i64 c] 25) from HMR.out); have R7 := Lib.hid (kp_row K7.out Z2w.out); have N7 := kp_row K7.out Z3w.out; obtain ⟨m0, m1, m2, m3, m4, m5, m6, m7, m8⟩ := cells9 M7; obtain ⟨d0, d1, d2, d3, d4, d5, d6, d7, d8⟩ := cells9 R7.out; obtain ⟨e0, e1, e2, e3, e4, e5, e6, e7, e8⟩ := cells9 N7; have fz := froz9 R7.out; clear M7 N7 hk7)
          have hz9 := set9 (.int .i64 k) (.int .i64 f) (.int .i64 t) (.int .i64 n) (.int .i64 s) (.int .i64 r) (.int .i64 p) (.int .i64 o) (.int .i64 c) R7.out
          refine bodyPost_ret (results_row_tmp8 (p := 2) (u := 3) rfl _ _ w.heap.size 25 _ (0, 0) _ rfl hz9 Tryd.underlying25 rfl (by kernel_rfl)) rfl ?_
          rw [HDE]
          exact ⟨rfl, set9_kp (Kp.trans KW.out K7.out) (Nat.le_refl _) _ _ _ _ _ _ _ _ _⟩
        | false =>
          rw [hrm] at HDE HRR
          rw [if_neg (by decide)] at HDE
          have HRR := Lib.hid HRR
          clear hput hkl hlt hjj hol hrm hown hk
          go_wp2
          refine wp_region_held_drew (S := fun w' => Kp wr w') (by kernel_rfl) ?_ (fun hHeld => ?_)
          · exact (Kp.refl wr).drew
          refine wpAnyH_take (i := 0) (v := ?_) rfl (by kernel_rfl) (by kernel_rfl) (by kernel_rfl) (fun _ _ _ h => h) (Or.inl ⟨by rfl, ?_⟩) (by assumption) ?_
          rotate_left
          · intro w hSw; go_simp; try with_reducible rfl
          go_simp
          refine wpAnyH_take (i := 1) (v := ?_) rfl (by kernel_rfl) (by kernel_rfl) (by kernel_rfl) (fun _ _ _ h => h) (Or.inl ⟨by rfl, ?_⟩) (by assumption) ?_
          rotate_left
          · intro w hSw; go_simp; try with_reducible rfl
          go_simp
          refine wpAnyH_take (i := 2) (v := ?_) rfl (by kernel_rfl) (by kernel_rfl) (by kernel_rfl) (fun _ _ _ h => h) (Or.inl ⟨by rfl, ?_⟩) (by assumption) ?_
          rotate_left
          · intro w hSw; have q := kp_cell hSw g0; go_simp; try with_reducible rfl
          go_simp
          refine wpAnyH_take (i := 3) (v := ?_) rfl (by kernel_rfl) (by kernel_rfl) (by kernel_rfl) (fun _ _ _ h => h) (Or.inl ⟨by rfl, ?_⟩) (by assumption) ?_
          rotate_left
          · intro w hSw; go_simp; try with_reducible rfl
          go_simp
          refine wpAnyH_take (i := 4) (v := ?_) rfl (by kernel_rfl) (by kernel_rfl) (by kernel_rfl) (fun _ _ _ h => h) (Or.inl ⟨by rfl, ?_⟩) (by assumption) ?_
          rotate_left
          · intro w hSw; go_simp; try with_reducible rfl
          go_simp
          refine wpAnyH_take (i := 5) (v := ?_) rfl (by kernel_rfl) (by kernel_rfl) (by kernel_rfl) (fun _ _ _ h => h) (Or.inl ⟨by rfl, ?_⟩) (by assumption) ?_
          rotate_left
          · intro w hSw; have q := kp_cell hSw g1; go_simp; try with_reducible rfl
          go_simp
          refine wpAnyH_take (i := 6) (v := ?_) rfl (by kernel_rfl) (by kernel_rfl) (by kernel_rfl) (fun _ _ _ h => h) (Or.inl ⟨by rfl, ?_⟩) (by assumption) ?_
          rotate_left
          · intro w hSw; go_simp; try with_reducible rfl
          go_simp
          refine wpAnyH_take (i := 7) (v := ?_) rfl (by kernel_rfl) (by kernel_rfl) (by kernel_rfl) (fun _ _ _ h => h) (Or.inl ⟨by rfl, ?_⟩) (by assumption) ?_
          rotate_left
          · intro w hSw; go_simp; try with_reducible rfl
          go_simp
          refine wpAnyH_take (i := 8) (v := ?_) rfl (by kernel_rfl) (by kernel_rfl) (by kernel_rfl) (fun _ _ _ h => h) (Or.inl ⟨by rfl, ?_⟩) (by assumption) ?_
          rotate_left
          · intro w hSw; have q := kp_cell hSw g2; go_simp; try with_reducible rfl
          go_simp
          refine wpAnyH_take (i := 9) (v := ?_) rfl (by kernel_rfl) (by kernel_rfl) (by kernel_rfl) (fun _ _ _ h => h) (Or.inl ⟨by rfl, ?_⟩) (by assumption) ?_
          rotate_left
          · intro w hSw; go_simp; try with_reducible rfl
          go_simp
          refine wpAnyH_take (i := 10) (v := ?_) rfl (by kernel_rfl) (by kernel_rfl) (by kernel_rfl) (fun _ _ _ h => h) (Or.inl ⟨by rfl, ?_⟩) (by assumption) ?_
          rotate_left
          · intro w hSw; go_simp; try with_reducible rfl
          go_simp
          refine wpAnyH_take (i := 11) (v := ?_) rfl (by kernel_rfl) (by kernel_rfl) (by kernel_rfl) (fun _ _ _ h => h) (Or.inl ⟨by rfl, ?_⟩) (by assumption) ?_
          rotate_left
          · intro w hSw; have q := kp_cell hSw g3; go_simp; try with_reducible rfl
          go_simp
          refine wpAnyH_take (i := 12) (v := ?_) rfl (by kernel_rfl) (by kernel_rfl) (by kernel_rfl) (fun _ _ _ h => h) (Or.inl ⟨by rfl, ?_⟩) (by assumption) ?_
          rotate_left
          · intro w hSw; go_simp; try with_reducible rfl
          go_simp
          refine wpAnyH_take (i := 13) (v := ?_) rfl (by kernel_rfl) (by kernel_rfl) (by kernel_rfl) (fun _ _ _ h => h) (Or.inl ⟨by rfl, ?_⟩) (by assumption) ?_
          rotate_left
          · intro w hSw; go_simp; try with_reducible rfl
          go_simp
          refine wpAnyH_take (i := 14) (v := ?_) rfl (by kernel_rfl) (by kernel_rfl) (by kernel_rfl) (fun _ _ _ h => h) (Or.inl ⟨by rfl, ?_⟩) (by assumption) ?_
          rotate_left
          · intro w hSw; have q := kp_cell hSw g4; go_simp; try with_reducible rfl
          go_simp
          refine wpAnyH_take (i := 15) (v := ?_) rfl (by kernel_rfl) (by kernel_rfl) (by kernel_rfl) (fun _ _ _ h => h) (Or.inl ⟨by rfl, ?_⟩) (by assumption) ?_
          rotate_left
          · intro w hSw; go_simp; try with_reducible rfl
          go_simp
          refine wpAnyH_take (i := 16) (v := ?_) rfl (by kernel_rfl) (by kernel_rfl) (by kernel_rfl) (fun _ _ _ h => h) (Or.inl ⟨by rfl, ?_⟩) (by assumption) ?_
          rotate_left
          · intro w hSw; go_simp; try with_reducible rfl
          go_simp
          refine wpAnyH_take (i := 17) (v := ?_) rfl (by kernel_rfl) (by kernel_rfl) (by kernel_rfl) (fun _ _ _ h => h) (Or.inl ⟨by rfl, ?_⟩) (by assumption) ?_
          rotate_left
          · intro w hSw; go_simp; try with_reducible rfl
          go_simp
          refine wpAnyH_take (i := 18) (v := ?_) rfl (by kernel_rfl) (by kernel_rfl) (by kernel_rfl) (fun _ _ _ h => h) (Or.inl ⟨by rfl, ?_⟩) (by assumption) ?_
          rotate_left
          · intro w hSw; have q := kp_cell hSw g5; go_simp; try with_reducible rfl
          go_simp
          refine wpAnyH_take (i := 19) (v := ?_) rfl (by kernel_rfl) (by kernel_rfl) (by kernel_rfl) (fun _ _ _ h => h) (Or.inl ⟨by rfl, ?_⟩) (by assumption) ?_
          rotate_left
          · intro w hSw; go_simp; try with_reducible rfl
          go_simp
          refine wpAnyH_take (i := 20) (v := ?_) rfl (by kernel_rfl) (by kernel_rfl) (by kernel_rfl) (fun _ _ _ h => h) (Or.inl ⟨by rfl, ?_⟩) (by assumption) ?_
          rotate_left
          · intro w hSw; go_simp; try with_reducible rfl
          go_simp
          refine wpAnyH_take (i := 21) (v := ?_) rfl (by kernel_rfl) (by kernel_rfl) (by kernel_rfl) (fun _ _ _ h => h) (Or.inl ⟨by rfl, ?_⟩) (by assumption) ?_
          rotate_left
          · intro w hSw; have q := kp_cell hSw g6; go_simp; try with_reducible rfl
          go_simp
          refine wpAnyH_take (i := 22) (v := ?_) rfl (by kernel_rfl) (by kernel_rfl) (by kernel_rfl) (fun _ _ _ h => h) (Or.inl ⟨by rfl, ?_⟩) (by assumption) ?_
          rotate_left
          · intro w hSw; go_simp; try with_reducible rfl
          go_simp
          refine wpAnyH_take (i := 23) (v := ?_) rfl (by kernel_rfl) (by kernel_rfl) (by kernel_rfl) (fun _ _ _ h => h) (Or.inl ⟨by rfl, ?_⟩) (by assumption) ?_
          rotate_left
          · intro w hSw; go_simp; try with_reducible rfl
          go_simp
          refine wpAnyH_take (i := 24) (v := ?_) rfl (by kernel_rfl) (by kernel_rfl) (by kernel_rfl) (fun _ _ _ h => h) (Or.inl ⟨by rfl, ?_⟩) (by assumption) ?_
          rotate_left
          · intro w hSw; have q := kp_cell hSw g7; go_simp; try with_reducible rfl
          go_simp
          refine wpAnyH_take (i := 25) (v := ?_) rfl (by kernel_rfl) (by kernel_rfl) (by kernel_rfl) (fun _ _ _ h => h) (Or.inl ⟨by rfl, ?_⟩) (by assumption) ?_
          rotate_left
          · intro w hSw; go_simp; try with_reducible rfl
          go_simp
          refine wpAnyH_take (i := 26) (v := ?_) rfl (by kernel_rfl) (by kernel_rfl) (by kernel_rfl) (fun _ _ _ h => h) (Or.inl ⟨by rfl, ?_⟩) (by assumption) ?_
          rotate_left
          · intro w hSw; go_simp; try with_reducible rfl
          go_simp
          refine wpAnyH_take (i := 27) (v := ?_) rfl (by kernel_rfl) (by kernel_rfl) (by kernel_rfl) (fun _ _ _ h => h) (Or.inl ⟨by rfl, ?_⟩) (by assumption) ?_
          rotate_left
          · intro w hSw; have q := kp_cell hSw g8; go_simp; try with_reducible rfl
          go_simp
          refine wpAnyH_take (i := 28) (v := ?_) rfl (by kernel_rfl) (by kernel_rfl) (by kernel_rfl) (fun _ _ _ h => h) (Or.inl ⟨by rfl, ?_⟩) (by assumption) ?_
          rotate_left
          · intro w hSw; go_simp; try with_reducible rfl
          go_simp
          refine wpAnyH_ready (rs := [29]) (by kernel_rfl) (by simp) ?_
          refine AllReadyH.cons rfl (fun K hK => ?_) AllReadyH.nil
          go_simp
          refine hK.out _ _ ?_ (fun hHeld => ?_)
          · exact Kp.trans (Kp.refl wr).drew (kp_alloc _ _)
          clear hK K
          refine wpAnyH_ready (rs := [30]) (by kernel_rfl) (by simp) ?_
          refine AllReadyH.cons rfl (fun K hK => ?_) AllReadyH.nil
          go_simp
          refine hK.out _ _ ?_ (fun hHeld => ?_)
          · exact (kp_alloc wr (.cells #[.int .i64 k, .int .i64 f, .int .i64 t, .int .i64 n, .int .i64 s, .int .i64 r, .int .i64 p, .int .i64 o, .int .i64 c] 25)).drew
          clear hK K
          refine wpAnyH_done (by kernel_rfl) ?_ _
          go_wp2_with (go_at_call 11; (with_reducible refine (HRR.out _).mono ?_); rintro e w7 ⟨rfl, hk7⟩; have K7 := Lib.hid (Kp.trans (kp_alloc wr (.cells #[.int .i64 k, .int .i64 f, .int .i64 t, .int .i64 n, .int .i64 s, .int .i64 r, .int .i64 p, .int .i64 o, .int .i64 c] 25)).drew hk7); have M7 := kp_row hk7 (show ((wr.alloc (.cells #[.int .i64 k, .int .i64 f, .int .i64 t, .int .i64 n, .int .i64 s, .int .i64 r, .int .i64 p, .int .i64 o, .int .i64 c] 25)).drew).heap[wr.heap.size]? = some (.cells #[.int .i64 k, .int .i64 f, .int .i64 t, .int .i64 n, .int .i64 s, .int .i64 r, .int .i64 p, .int .i64 o, .int .i64 c] 25) from HMR.out); have R7 := Lib.hid (kp_row K7.out Z2w.out); have N7 := kp_row K7.out Z3w.out; obtain ⟨m0, m1, m2, m3, m4, m5, m6, m7, m8⟩ := cells9 M7; obtain ⟨d0, d1, d2, d3, d4, d5, d6, d7, d8⟩ := cells9 R7.out; obtain ⟨e0, e1, e2, e3, e4, e5, e6, e7, e8⟩ := cells9 N7; have fz := froz9 R7.out; clear M7 N7 hk7)
          have hz9 := set9 (.int .i64 0) (.int .i64 0) (.int .i64 0) (.int .i64 0) (.int .i64 0) (.int .i64 0) (.int .i64 0) (.int .i64 0) (.int .i64 0) R7.out
          refine bodyPost_ret (results_row_tmp8 (p := 2) (u := 3) rfl _ _ w.heap.size 25 _ (0, 0) _ rfl hz9 Tryd.underlying25 rfl (by kernel_rfl)) rfl ?_
          rw [HDE]
          exact ⟨rfl, set9_kp (Kp.trans KW.out K7.out) (Nat.le_refl _) _ _ _ _ _ _ _ _ _⟩

theorem refDecode8_any (a : Option Addr) (n c : Nat) (bs : List Int) (hn : bs.length = n) (hnc : n ≤ c) (hb : InB bs) (w : World) (hs : SlB (.slice a n c) bs w) :
    Calls Tryd.prog 16 #[.slice a n c] w fun e w' => e = .returned (.tuple #[.agg (decM bs).2.cells, .int .i64 (decM bs).1]) ∧ Kp w w' := by
  by_cases hl : 1000 < n
  · have e : decM bs = (3, noM) := by unfold decM; rw [if_pos (by omega)]
    rw [e]
    exact refDecode8_long a n c hl w
  by_cases he : (splitQ 17 bs 0 0).1 = 0
  · exact refDecode8_row a n c bs hn hnc (by omega) hb w hs he
  · have e : decM bs = ((splitQ 17 bs 0 0).1, noM) := by unfold decM; rw [if_neg (by omega), if_pos he]
    rw [e]
    exact refDecode8_err a n c bs hn hnc (by omega) hb w hs he
end Go.Proofs.YtfginhckeogafaaDoor

namespace Go.Proofs.YtfginhckeogafaaDoor
open Go.RowKit Go.ChangeShapes Go.WideShapes

theorem decM_rng (bs : List Int) : 0 ≤ (decM bs).1 ∧ (decM bs).1 ≤ 14 := by
  unfold decM
  split
  · exact ⟨by decide, by decide⟩
  split
  · rcases splitQ_num 17 bs 0 0 with h | h | h <;> rw [h] <;> exact ⟨by decide, by decide⟩
  split
  · exact ⟨by decide, by decide⟩
  · split <;> exact ⟨by simp, by simp⟩
set_option maxRecDepth 20000 in
theorem decodes_long (ads : List Addr) (a : Option Addr) (cap len : Nat) (hl : 2000 < len) (w : World) (C : LetC ads w) :
    Calls Tryd.prog 4 #[.slice a len cap] w fun e w' => e = .returned (.bool true) ∧ Kp w w' := by
  have HA := Lib.hid (alive8_any ads w C)
  obtain ⟨ll, hll⟩ : ∃ ll : Int, (len : Int) = ll := ⟨_, rfl⟩
  have h : ll > 2000 := by omega
  clear C
  go_enter Tryd.func4, Tryd.ntmps4
  go_wp2_with (go_at_call 8; (with_reducible refine HA.out.mono ?_); rintro e w1 ⟨rfl, hk⟩; have K1 := Lib.hid hk; clear hk)
  go_ret
  exact ⟨rfl, K1.out⟩

set_option maxRecDepth 100000 in
set_option maxHeartbeats 4000000 in
theorem decodes_bad (ads : List Addr) (a : Option Addr) (cap : Nat) (bs : List Int) (len : Nat) (hlen : bs.length = len) (hb : InB bs) (hlc : len ≤ cap) (w : World) (V : St ads w) (C : LetC ads w) (hs : SlB (.slice a len cap) bs w) (hl : len ≤ 2000) (h0 : (decM bs).1 ≠ 0) :
    Calls Tryd.prog 4 #[.slice a len cap] w fun e w' => e = .returned (.bool true) ∧ Kp w w' := by
  have HA := Lib.hid (alive8_any ads w C)
  have HBy := Lib.hid (fun w1 (hk : Kp w w1) => numBytes_at a cap bs len hlen (by omega) w1 (hs.kp hk))
  have HKt := Lib.hid (fun w1 (g : Nat) (hk : Kp w w1) (hm : Marked g (len + 6) bs w1) => numKept_any g (.slice a len cap) bs len hlen (by omega) w1 hm (hs.kp hk))
  have HD := fun w1 (g : Nat) (hk : Kp w w1) (hm : Marked g (len + 6) bs w1) => C.dec w1 hk (some ⟨g, 0, none⟩) (len + 6) bs len hlen hb (by omega) (by have := hm.sl; rw [hlen] at this; exact this)
  have HR := fun w1 (hk : Kp w w1) => refDecode8_any a len cap bs hlen hlc hb w1 (hs.kp hk)
  have hrg := decM_rng bs
  have HN := fun w1 (hk : Kp w w1) => num_errN ads w1 (V.below hk) (decM bs).1 hrg.1 hrg.2
  obtain ⟨q, hq4⟩ := errI_some ads (decM bs).1 h0
  rw [hq4] at HD HN
  obtain ⟨D, hD⟩ : ∃ x, (decM bs).1 = x := ⟨_, rfl⟩
  obtain ⟨M, hM⟩ : ∃ x, (decM bs).2 = x := ⟨_, rfl⟩
  rw [hD] at HR HN h0
  rw [hM] at HD HR
  clear hD hM hq4 hrg
  obtain ⟨k, f, t, n, s, r, p, o, c⟩ := M
  have hq := fun (w : World) => msg_neq ⟨k, f, t, n, s, r, p, o, c⟩ ⟨k, f, t, n, s, r, p, o, c⟩ w
  have hg := fun (op : BinOp) (x y : Operand) (w : World) => msg_guard op x y ⟨k, f, t, n, s, r, p, o, c⟩ ⟨k, f, t, n, s, r, p, o, c⟩ w
  simp only [decide_true, Bool.not_true] at hq
  dsimp only [MM.cells] at HD HR hq hg
  have HD := Lib.hid HD
  have HR := Lib.hid HR
  have HN := Lib.hid HN
  have HS := Lib.hid hs
  obtain ⟨ll, hll⟩ : ∃ ll : Int, (len : Int) = ll := ⟨_, rfl⟩
  have hng : ¬ ll > 2000 := by omega
  clear V C hs hb hlen
  go_enter Tryd.func4, Tryd.ntmps4
  go_wp2_with (first
    | (go_at_call 8; (with_reducible refine HA.out.mono ?_); rintro e w1 ⟨rfl, hk⟩; have K1 := Lib.hid hk; clear hk)
    | (go_at_call 15; (with_reducible refine (HBy.out _ K1.out).mono ?_); rintro e w2 ⟨g, rfl, hm2, hw2⟩; have K2 := Lib.hid (Kp.trans K1.out hw2); have M2 := Lib.hid hm2; clear hm2 hw2)
    | (go_at_call 13; (with_reducible refine (HD.out _ _ K2.out M2.out).mono ?_); rintro e w3 ⟨rfl, hw3⟩; have K3 := Lib.hid (Kp.trans K2.out (Kp.trans hw3 (kp_alloc w3 (.cells #[.int .i64 k, .int .i64 f, .int .i64 t, .int .i64 n, .int .i64 s, .int .i64 r, .int .i64 p, .int .i64 o, .int .i64 c] 25)))); have M3 := Lib.hid (M2.out.kp (Kp.trans hw3 (kp_alloc w3 (.cells #[.int .i64 k, .int .i64 f, .int .i64 t, .int .i64 n, .int .i64 s, .int .i64 r, .int .i64 p, .int .i64 o, .int .i64 c] 25)))); have B3 := Lib.hid (MapKept.heap_alloc w3 (.cells #[.int .i64 k, .int .i64 f, .int .i64 t, .int .i64 n, .int .i64 s, .int .i64 r, .int .i64 p, .int .i64 o, .int .i64 c] 25)).1; clear hw3)
    | (go_at_call 16; (with_reducible refine (HR.out _ K3.out).mono ?_); rintro e w4 ⟨rfl, hw4⟩; have KK := Lib.hid (Kp.trans K3.out (Kp.trans hw4 (kp_alloc w4 (.cells #[.int .i64 k, .int .i64 f, .int .i64 t, .int .i64 n, .int .i64 s, .int .i64 r, .int .i64 p, .int .i64 o, .int .i64 c] 25)))); have M4 := Lib.hid (M3.out.kp (Kp.trans hw4 (kp_alloc w4 (.cells #[.int .i64 k, .int .i64 f, .int .i64 t, .int .i64 n, .int .i64 s, .int .i64 r, .int .i64 p, .int .i64 o, .int .i64 c] 25)))); have R4 := Lib.hid (kp_row (Kp.trans hw4 (kp_alloc w4 (.cells #[.int .i64 k, .int .i64 f, .int .i64 t, .int .i64 n, .int .i64 s, .int .i64 r, .int .i64 p, .int .i64 o, .int .i64 c] 25))) B3.out); obtain ⟨b0, b1, b2, b3, b4, b5, b6, b7, b8⟩ := cells9 (R4.out); clear hw4)
    | (go_at_call 12; (with_reducible refine (HN.out _ KK.out).mono ?_); rintro e w5 ⟨rfl, hw5⟩; have K5 := Lib.hid (Kp.trans KK.out hw5); have M5 := Lib.hid (M4.out.kp hw5); have R5 := Lib.hid (kp_row hw5 R4.out); clear hw5)
    | (go_at_call 17; (with_reducible refine (HKt.out _ _ K5.out M5.out).mono ?_); rintro e w7 ⟨rfl, hw7⟩; have K7 := Lib.hid (Kp.trans K5.out hw7); have R7 := Lib.hid (kp_row hw7 R5.out); obtain ⟨d0, d1, d2, d3, d4, d5, d6, d7, d8⟩ := cells9 (R7.out); clear hw7))
  go_ret
  exact ⟨by first | rfl | simp, K7.out⟩

set_option maxRecDepth 100000 in
set_option maxHeartbeats 4000000 in
theorem decodes_ok (ads : List Addr) (a : Option Addr) (cap : Nat) (bs : List Int) (len : Nat) (hlen : bs.length = len) (hb : InB bs) (hlc : len ≤ cap) (w : World) (V : St ads w) (C : LetC ads w) (hs : SlB (.slice a len cap) bs w) (hl : len ≤ 2000) (M : MM) (hM : decM bs = (0, M)) :
    Calls Tryd.prog 4 #[.slice a len cap] w fun e w' => e = .returned (.bool true) ∧ Kp w w' := by
  have HA := Lib.hid (alive8_any ads w C)
  have HBy := Lib.hid (fun w1 (hk : Kp w w1) => numBytes_at a cap bs len hlen (by omega) w1 (hs.kp hk))
  have HKt := Lib.hid (fun w1 (g : Nat) (hk : Kp w w1) (hm : Marked g (len + 6) bs w1) => numKept_any g (.slice a len cap) bs len hlen (by omega) w1 hm (hs.kp hk))
  have HD := fun w1 (g : Nat) (hk : Kp w w1) (hm : Marked g (len + 6) bs w1) => C.dec w1 hk (some ⟨g, 0, none⟩) (len + 6) bs len hlen hb (by omega) (by have := hm.sl; rw [hlen] at this; exact this)
  have HR := fun w1 (hk : Kp w w1) => refDecode8_any a len cap bs hlen hlc hb w1 (hs.kp hk)
  have hrg := decM_rng bs
  have HN := fun w1 (hk : Kp w w1) => num_errN ads w1 (V.below hk) (decM bs).1 hrg.1 hrg.2
  obtain ⟨hrm, hem⟩ := enc_dec hb hM
  have HE := fun w1 (hk : Kp w w1) => C.encOk w1 hk M hrm
  simp only [hem, hlen] at HE
  simp only [hM, errI_nil] at HD HR HN
  obtain ⟨ss, hss⟩ : ∃ ss, strOfNums bs = ss := ⟨_, rfl⟩
  have HSS := Lib.hid hss
  clear hM hem hrm hss
  obtain ⟨k, f, t, n, s, r, p, o, c⟩ := M
  have hq := fun (w : World) => msg_neq ⟨k, f, t, n, s, r, p, o, c⟩ ⟨k, f, t, n, s, r, p, o, c⟩ w
  have hg := fun (op : BinOp) (x y : Operand) (w : World) => msg_guard op x y ⟨k, f, t, n, s, r, p, o, c⟩ ⟨k, f, t, n, s, r, p, o, c⟩ w
  simp only [decide_true, Bool.not_true] at hq
  dsimp only [MM.cells] at HD HR hq hg HE
  have HD := Lib.hid HD
  have HR := Lib.hid HR
  have HN := Lib.hid HN
  have HS := Lib.hid hs
  have HE := Lib.hid HE
  obtain ⟨ll, hll⟩ : ∃ ll : Int, (len : Int) = ll := ⟨_, rfl⟩
  have hng : ¬ ll > 2000 := by omega
  clear V C hs hb hlen hrg 
  go_enter Tryd.func4, Tryd.ntmps4
  go_wp2_with (first
    | (go_at_call 8; (with_reducible refine HA.out.mono ?_); rintro e w1 ⟨rfl, hk⟩; have K1 := Lib.hid hk; clear hk)
    | (go_at_call 15; (with_reducible refine (HBy.out _ K1.out).mono ?_); rintro e w2 ⟨g, rfl, hm2, hw2⟩; have K2 := Lib.hid (Kp.trans K1.out hw2); have M2 := Lib.hid hm2; clear hm2 hw2)
    | (go_at_call 13; (with_reducible refine (HD.out _ _ K2.out M2.out).mono ?_); rintro e w3 ⟨rfl, hw3⟩; have K3 := Lib.hid (Kp.trans K2.out (Kp.trans hw3 (kp_alloc w3 (.cells #[.int .i64 k, .int .i64 f, .int .i64 t, .int .i64 n, .int .i64 s, .int .i64 r, .int .i64 p, .int .i64 o, .int .i64 c] 25)))); have M3 := Lib.hid (M2.out.kp (Kp.trans hw3 (kp_alloc w3 (.cells #[.int .i64 k, .int .i64 f, .int .i64 t, .int .i64 n, .int .i64 s, .int .i64 r, .int .i64 p, .int .i64 o, .int .i64 c] 25)))); have B3 := Lib.hid (MapKept.heap_alloc w3 (.cells #[.int .i64 k, .int .i64 f, .int .i64 t, .int .i64 n, .int .i64 s, .int .i64 r, .int .i64 p, .int .i64 o, .int .i64 c] 25)).1; clear hw3)
    | (go_at_call 16; (with_reducible refine (HR.out _ K3.out).mono ?_); rintro e w4 ⟨rfl, hw4⟩; have KK := Lib.hid (Kp.trans K3.out (Kp.trans hw4 (kp_alloc w4 (.cells #[.int .i64 k, .int .i64 f, .int .i64 t, .int .i64 n, .int .i64 s, .int .i64 r, .int .i64 p, .int .i64 o, .int .i64 c] 25)))); have M4 := Lib.hid (M3.out.kp (Kp.trans hw4 (kp_alloc w4 (.cells #[.int .i64 k, .int .i64 f, .int .i64 t, .int .i64 n, .int .i64 s, .int .i64 r, .int .i64 p, .int .i64 o, .int .i64 c] 25)))); have R4 := Lib.hid (kp_row (Kp.trans hw4 (kp_alloc w4 (.cells #[.int .i64 k, .int .i64 f, .int .i64 t, .int .i64 n, .int .i64 s, .int .i64 r, .int .i64 p, .int .i64 o, .int .i64 c] 25))) B3.out); obtain ⟨b0, b1, b2, b3, b4, b5, b6, b7, b8⟩ := cells9 (R4.out); clear hw4)
    | (go_at_call 12; (with_reducible refine (HN.out _ KK.out).mono ?_); rintro e w5 ⟨rfl, hw5⟩; have K5 := Lib.hid (Kp.trans KK.out hw5); have M5 := Lib.hid (M4.out.kp hw5); have R5 := Lib.hid (kp_row hw5 R4.out); clear hw5)
    | (go_at_call 17; (with_reducible refine (HKt.out _ _ K5.out M5.out).mono ?_); rintro e w7 ⟨rfl, hw7⟩; have K7 := Lib.hid (Kp.trans K5.out hw7); have R7 := Lib.hid (kp_row hw7 R5.out); obtain ⟨d0, d1, d2, d3, d4, d5, d6, d7, d8⟩ := cells9 (R7.out); clear hw7)
    | (go_at_call 9; (with_reducible refine (HE.out _ K7.out).mono ?_); rintro e w8 ⟨a8, c8, rfl, -, hs8, hw8⟩; have K8 := Lib.hid (Kp.trans K7.out hw8); have cv8 := conv_slb hs8; rw [HSS.out] at cv8; have cw8 := conv_slb (HS.out.kp K8.out); rw [HSS.out] at cw8; clear hs8 hw8))
  go_ret
  exact ⟨by first | rfl | simp, K8.out⟩

theorem decodes_any (ads : List Addr) (a : Option Addr) (cap : Nat) (bs : List Int) (len : Nat) (hlen : bs.length = len) (hb : InB bs) (hlc : len ≤ cap) (w : World) (V : St ads w) (C : LetC ads w) (hs : SlB (.slice a len cap) bs w) :
    Calls Tryd.prog 4 #[.slice a len cap] w fun e w' => e = .returned (.bool true) ∧ Kp w w' := by
  by_cases hl : 2000 < len
  · exact decodes_long ads a cap len hl w C
  by_cases h0 : (decM bs).1 = 0
  · exact decodes_ok ads a cap bs len hlen hb hlc w V C hs (by omega) (decM bs).2 (Prod.ext h0 rfl)
  · exact decodes_bad ads a cap bs len hlen hb hlc w V C hs (by omega) h0
end Go.Proofs.YtfginhckeogafaaDoor

namespace Go.Proofs.YtfginhckeogafaaDoor
open Go.RowKit

theorem letterDecodes_walk (a : Option Addr) (c : Nat) (bs : List Int) (W : World) (k1 : SlB (.slice a bs.length c) bs W) (k2 : InB bs) (_k3 : bs.length ≤ maxLen) (k4 : bs.length ≤ c) (hL : laidMetH Tryd.prog Rows.letterDecodesRow.laid W) :
    Calls Tryd.prog 4 #[.slice a bs.length c] W fun e w' => e = .returned (.bool true) ∧ Below W.heap.size W w' := by
  obtain ⟨⟨ads, V⟩, T⟩ := st_tab_of (l := Rows.letterDecodesRow.laid) (by kernel_rfl) (by kernel_rfl) (by kernel_rfl) hL
  have C := letC_of ads W V T
  exact decodes_any ads a c bs bs.length rfl k2 k4 W V C k1

end Go.Proofs.YtfginhckeogafaaDoor

namespace Go.Proofs.YtfginhckeogafaaDoor
open Go.ChangeShapes Go.WideShapes Go.ChangeAt Go.WideMaps Go.WideElems Go.RowKit


set_option maxRecDepth 100000 in
theorem letterDecodes_lifted (os : Os) (started : os.Started) (H : Type) (enc : TypeId × Value → H) :
    ReturnsInHanded {} Tryd.checked os 4 .any (fun w args => (Rows.letterDecodesSpec.pre enc Tryd.prog Tryd.f4 [] false w args ∧ laidMetH Tryd.prog Rows.letterDecodesRow.laid w) ∧ sizedMet enc Tryd.prog Tryd.f4 (OpenSpec.ofChange Rows.letterDecodesSpec) false w args)
      (Rows.letterDecodesSpec.post enc Tryd.prog Tryd.f4 false true false false) := by
  refine returnsInHanded_of_change_and (C := Tryd.checked) (X := fun w _ => laidMetH Tryd.prog Rows.letterDecodesRow.laid w) (fun _ _ _ hh h => h.of_heap hh) own started (by kernel_rfl) Tryd.func4
    (ChangeSpec.witness_shaped (enc := enc) (C := Tryd.checked) (os := os) (X := fun w _ => laidMetH Tryd.prog Rows.letterDecodesRow.laid w) false (World.laidAll Tryd.prog os Rows.letterDecodesRow.laid) #[.slice none 0 0] 8 (World.laidAll_os _ _ _) (World.shaped_of_ZipB (by kernel_rfl) (by kernel_rfl)) (by kernel_rfl) (by kernel_rfl) (by kernel_rfl) (by rw [MakeChecks.laidMetH_plain _ _ _ (by kernel_rfl)]; exact laidMet_laidAll _ (by kernel_rfl) (by kernel_rfl))) ?_
  intro W base args ds gs before hval0 hW _ hsz hL _
  have hval : ∀ (j : Nat) t v, Tryd.f4.params[j]? = some t → args[j]? = some v → Value.okWide Tryd.prog W .any base t v := hval0
  have hW' := hW
  obtain ⟨p, q, hA0, hV, rfl, hfz, hnd⟩ := hW
  have hA : DataW.TrodAll enc Tryd.prog W 0 (fun _ => true) true Tryd.f4.params.toList args.toList ds p := hA0
  rw [Tryd.params4] at hA hval
  obtain ⟨v0, vs0, d0, ds0, p0, q0, e0, rfl, rfl, h0, r0⟩ := trodAll_cons hA
  obtain ⟨rfl, rfl, rfl⟩ := trodAll_nil r0
  obtain rfl : args = #[v0] := by cases args; simp_all
  obtain ⟨rfl, rfl⟩ := trodVars_none hV
  obtain ⟨b, ab, cb, rfl, kba, kbb, kbc, kbd⟩ := open_bytes Tryd.underlying27 Tryd.underlying5 (by kernel_rfl) (hval 0 27 v0 rfl rfl) h0
  clear hA0 hval0
  refine (letterDecodes_walk ab cb b W kba kbb kbc kbd hL).mono fun e W' ⟨he, hw⟩ => ?_
  subst he
  exact ⟨_, rfl, law_post laidOut hW' rfl rfl rfl Tryd.underlying4 (par_ok (by kernel_rfl)) hw⟩

theorem letterDecodes_said : Rows.LetterDecodesSaid :=
  OpenClaim.holds_of_wide 4 Tryd.f4 rfl rfl rfl rfl rfl rfl rfl ⟨rfl, rfl, rfl, rfl, rfl⟩ rfl rfl rfl rfl rfl (by kernel_rfl) Tryd.func4 (by kernel_rfl)
    (of_decide_eq_true (by kernel_rfl)) (by unfold Func.isWrapper; first | (rw [if_pos (by decide +kernel)]; kernel_rfl) | (rw [if_neg (by decide +kernel)]; exact ⟨rfl, rfl⟩))
    (fun os started H enc _ => letterDecodes_lifted os started H enc)

theorem letterDecodes_holds : Rows.LetterDecodesCardSaid :=
  Claim7.holds_tied_plain_at .later [] _ _ _ _ letterDecodes_said (fun _ h => by cases h) (by kernel_rfl) (fun _ h => by cases h) letterDecodes_row_tie rfl ⟨rfl, rfl⟩ (by kernel_rfl) rfl
    (fun f fn hf hfn => by
      obtain rfl : f = 4 := Option.some.inj ((show Tryd.prog.funcNamed "liaison/liaisonlaw08.LetterDecodes" = some 4 by kernel_rfl).symm.trans hf) |>.symm
      obtain rfl : fn = Tryd.f4 := (Option.some.inj (Tryd.func4.symm.trans hfn)).symm
      exact ⟨by kernel_rfl, stand_ok (P := Tryd.prog) (by kernel_rfl)⟩)
    (by kernel_rfl)
end Go.Proofs.YtfginhckeogafaaDoor

