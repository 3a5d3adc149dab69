/-
  BYTES' FACT AS THE DOCUMENT HAS IT (own work): liaisonref14.Read.
-/
import Derived.Test.YtahdoniggipmmaaGreatDoorPkI
import Derived.Test.YtahdoniggipmmaaGreatDoorPkM
import Derived.Test.YtahdoniggipmmaaGreatDoorPkE
import Derived.Test.YtahdoniggipmmaaGreatDoorPkA
import Derived.Deep.RegionHeld3

namespace Go.Proofs.YtahdoniggipmmaaGreatDoor
open Go.RowKit Go.ChangeShapes Go.WideShapes

theorem results_row_tmpG {P : Program} {fn : Func} {p u : Tmp} {ty : TypeId} (h : fn.results = #[.cell p ty, .tmp u]) (tmps : Array Value) (w : World) (g : Nat) (t : TypeId) (cs : Array Value) (fr : Nat × Nat) (d : TypeDesc)
    (hp : tmps.getD p undef = .pointer (some ⟨g, 0, none⟩)) (hg : w.heap[g]? = some (.cells cs t fr))
    (hu : P.underlying ty = some d) (hd : (match d with | .struct _ | .array _ _ => true | _ => false) = true) (hi : (P.info? ty).map (·.size) = some cs.size) :
    (results fn tmps).run P w = .ok (.tuple #[.agg cs, tmps.getD u undef]) w := by
  have hp' : tmps[p]?.getD undef = .pointer (some ⟨g, 0, none⟩) := by simpa using hp
  simp [results, h, hp', asAddr, run_loadVar_row w g t ty cs fr d hg hu hd hi]
theorem dec_made14 (z : Value) (n : Nat) : (madeCells #[z] n).toList = List.replicate n z := by
  rw [List.eq_replicate_iff]
  refine ⟨by simp [madeCells], fun b hb => ?_⟩
  simp [madeCells] at hb
  obtain ⟨p, _, h⟩ := hb
  rw [← h]
  simp [Nat.mod_one]
theorem info_int14 : (Tryz.prog.info? 3).map (fun i => (i.zero, i.size, i.bytes)) = some (some (.int .i64 0), 1, 8) := by kernel_rfl
set_option maxRecDepth 100000 in
set_option maxHeartbeats 4000000 in
theorem refRead14_err (a : Option Addr) (n c : Nat) (bs : List Int) (hn : bs.length = n) (hnc : n ≤ c) (hl : n ≤ 1000) (hb : InB bs) (w : World) (hs : SlB (.slice a n c) bs w) (he : (splitQ 17 bs 0 0).1 ≠ 0) :
    Calls Tryz.prog 16 #[.slice a n c] w fun e w' => e = .returned (.tuple #[.agg noF.cells, .int .i64 (splitQ 17 bs 0 0).1]) ∧ Kp w w' := by
  have K := Lib.hid (kp_alloc w (.cells #[.int .i64 0, .int .i64 0, .int .i64 0, .int .i64 0, .int .i64 0, .int .i64 0, .int .i64 0, .int .i64 0, .int .i64 0, .int .i64 0, .int .i64 0, .int .i64 0, .int .i64 0, .float .f64 0] 28))
  have hz := Lib.hid (MapKept.heap_alloc w (.cells #[.int .i64 0, .int .i64 0, .int .i64 0, .int .i64 0, .int .i64 0, .int .i64 0, .int .i64 0, .int .i64 0, .int .i64 0, .int .i64 0, .int .i64 0, .int .i64 0, .int .i64 0, .float .f64 0] 28)).1
  have hsp := fun w1 (hk : Kp w w1) => refSplit_any a c bs n hn (by omega) hnc hb w1 (hs.kp hk)
  obtain ⟨S, hS⟩ : ∃ x, splitQ 17 bs 0 0 = x := ⟨_, rfl⟩
  rw [hS] at hsp he ⊢
  obtain ⟨S1, S2⟩ := S
  dsimp only at hsp he ⊢
  have HSP := Lib.hid hsp
  have h0 : (S1 != 0) = true := by simpa using he
  have hsf := store_fl
  clear hsp hs hb hn hS he
  go_enter Tryz.func16, Tryz.ntmps16
  go_wp2_with (go_at_call 50; (with_reducible refine (HSP.out _ K.out).mono ?_); rintro e w2 ⟨v, rfl, -, -, hk2⟩; have K2 := Lib.hid (Kp.trans K.out hk2); have Z2 := Lib.hid (kp_row hk2 hz.out); obtain ⟨e0, e1, e2, e3, e4, e5, e6, e7, e8, e9, e10, e11, e12, e13⟩ := cells14 Z2.out; have fz := froz14 Z2.out; clear hk2)
  have hz5 := set14 (.int .i64 0) (.int .i64 0) (.int .i64 0) (.int .i64 0) (.int .i64 0) (.int .i64 0) (.int .i64 0) (.int .i64 0) (.int .i64 0) (.int .i64 0) (.int .i64 0) (.int .i64 0) (.int .i64 0) (.float .f64 0) Z2.out
  refine bodyPost_ret (results_row_tmpG (p := 2) (u := 3) rfl _ _ w.heap.size 28 _ (0, 0) _ rfl hz5 Tryz.underlying28 rfl (by kernel_rfl)) rfl ?_
  exact ⟨rfl, set14_kp K2.out (Nat.le_refl _) _ _ _ _ _ _ _ _ _ _ _ _ _ _⟩

set_option maxRecDepth 100000 in
set_option maxHeartbeats 16000000 in
theorem refRead14_row (a : Option Addr) (n c : Nat) (bs : List Int) (hn : bs.length = n) (hnc : n ≤ c) (hl : n ≤ 1000) (hb : InB bs) (w : World) (hs : SlB (.slice a n c) bs w) (he : (splitQ 17 bs 0 0).1 = 0) :
    Calls Tryz.prog 16 #[.slice a n c] w fun e w' => e = .returned (.tuple #[.agg (decG bs).2.cells, .int .i64 (decG bs).1]) ∧ Kp w w' := by
  have K := Lib.hid (kp_alloc w (.cells #[.int .i64 0, .int .i64 0, .int .i64 0, .int .i64 0, .int .i64 0, .int .i64 0, .int .i64 0, .int .i64 0, .int .i64 0, .int .i64 0, .int .i64 0, .int .i64 0, .int .i64 0, .float .f64 0] 28))
  have hz := Lib.hid (MapKept.heap_alloc w (.cells #[.int .i64 0, .int .i64 0, .int .i64 0, .int .i64 0, .int .i64 0, .int .i64 0, .int .i64 0, .int .i64 0, .int .i64 0, .int .i64 0, .int .i64 0, .int .i64 0, .int .i64 0, .float .f64 0] 28)).1
  have hsp := fun w1 (hk : Kp w w1) => refSplit_any a c bs n hn (by omega) hnc hb w1 (hs.kp hk)
  have htg := splitQ_tags 17 bs 0 0 hb
  have h17 := splitQ_len 17 bs 0 0
  have hdm : decG bs = finG (putG (List.replicate 13 0) none (splitQ 17 bs 0 0).2) := by
    unfold decG
    rw [if_neg (fun q => q he)]
  obtain ⟨DD, hDD⟩ : ∃ x, decG bs = x := ⟨_, rfl⟩
  rw [hDD] at hdm ⊢
  obtain ⟨S, hS⟩ : ∃ x, splitQ 17 bs 0 0 = x := ⟨_, rfl⟩
  rw [hS] at hsp he htg hdm h17
  obtain ⟨S1, fs⟩ := S
  dsimp only at hsp he htg hdm h17
  subst he
  have hsf := store_fl
  have HSP := Lib.hid hsp
  have HTG := Lib.hid htg
  have HDM := Lib.hid hdm
  have HII := Lib.hid (info_parts info_int14)
  clear hsp hs hb hn hS hDD htg hdm
  obtain ⟨i0, hi, hi0, hi1, hi2⟩ := HII.out
  have HI := Lib.hid (And.intro hi1 hi2)
  have HI2 := Lib.hid hi
  have HI3 := Lib.hid hi0
  clear hi hi0 hi1 hi2
  go_enter Tryz.func16, Tryz.ntmps16
  go_wp2_with (first
    | (go_at_call 50; (with_reducible refine (HSP.out _ K.out).mono ?_); rintro e w2 ⟨v, rfl, hq, -, hk2⟩; have HQ := Lib.hid (hq rfl); have K2 := Lib.hid (Kp.trans K.out hk2); have Z2 := Lib.hid (kp_row hk2 hz.out); clear hk2 hq)
    | (at_make; refine wpList_make_full _ rfl _ _ 76 rfl w2.heap.size 3 i0 (.int .i64 0) 1 Tryz.underlying76 HI2.out HI3.out HI.out.1 .i64 .i64 _ _ 13 rfl rfl ?m1 ?m2 ?m3 ?m4 ?m5 ?_))
  case m1 => rfl
  case m2 => rfl
  case m3 => rw [HI.out.2]; omega
  case m4 => unfold maxLen; omega
  case m5 => exact Nat.le_refl _
  rintro w3 hown3 hgr3
  have K3 : Hid (Kp w2 w3) := Lib.hid ((Below.refl _ _).grown hgr3 (Nat.le_refl _) (fun k hk => by cases hk))
  have h0 : w3.ownsRow w2.heap.size 3 1 (.slice (some ⟨w2.heap.size, 0, none⟩) 13 13) 13 ((List.replicate 13 (0 : Int)).map (Value.int .i64)) := by
    have e : (madeCells #[.int .i64 0] 13).toList = (List.replicate 13 (0 : Int)).map (Value.int .i64) := by rw [dec_made14]; rfl
    rw [← e]; exact hown3
  have OW3 := Lib.hid h0
  obtain ⟨av, cv, hv⟩ := HQ.out.form
  subst hv
  obtain ⟨kf, hkf⟩ : ∃ x, fs.length = x := ⟨_, rfl⟩
  rw [hkf] at h17
  have HSQ := HQ.out
  rw [hkf] at HSQ ⊢
  have HSL := Lib.hid HSQ
  have HKF := Lib.hid hkf
  obtain ⟨L, hL⟩ : ∃ L, w2.heap.size = L := ⟨_, rfl⟩
  rw [hL] at OW3 ⊢
  have HLL := Lib.hid hL
  clear hown3 hgr3 h0 HSQ hkf hL
  go_wp2
  go_loopw [7, 8, 28] (fun at9 th9 i wr => ∃ (j : Nat) (l : List Int) (oo : Option Nat), j ≤ kf ∧ i = .int .i64 j ∧ at9 = .float .f64 (oo.getD 0) ∧ th9 = .bool oo.isSome ∧ l.length = 13 ∧ Kp w2 wr ∧ wr.ownsRow L 3 1 (.slice (some ⟨L, 0, none⟩) 13 13) 13 (l.map (Value.int .i64)) ∧ putG (List.replicate 13 0) none fs = putG l oo (fs.drop j) ∧ oo.getD 0 < 18446744073709551616) (fun _ _ i _ => kf - (intOf i).toNat)
  case atStart => exact ⟨0, _, none, Nat.zero_le _, rfl, rfl, rfl, rfl, K3.out, OW3.out, rfl, by decide⟩
  case round =>
    obtain ⟨j, l, oo, hj, rfl, rfl, rfl, hl5, hk, hown, hput, how⟩ := hrel
    obtain ⟨jj, hjj⟩ : ∃ jj : Int, (j : Int) = jj := ⟨_, rfl⟩
    rw [hjj]
    have HK := Lib.hid hk
    have HOW := Lib.hid hown
    have HL5 := Lib.hid hl5
    have HWF := Lib.hid how
    have hkl := HKF.out
    by_cases hlt : j < kf
    · have hjl : j < fs.length := by omega
      obtain ⟨b, off, rfl, ct, ad, cd, cdt, hsd, hbd⟩ := (HSL.out.kp hk).at j hjl
      obtain ⟨t0, t1, t2⟩ := HTG.out fs[j] (List.getElem_mem hjl)
      have hdr : fs.drop j = fs[j] :: fs.drop (j + 1) := List.drop_eq_getElem_cons hjl
      rw [hdr, putG] at hput
      obtain ⟨y, hy⟩ : ∃ y, fs[j] = y := ⟨_, rfl⟩
      rw [hy] at ct cdt hsd hbd t0 t1 t2 hput
      obtain ⟨tg, dt⟩ := y
      dsimp only at ct cdt hsd hbd t0 t1 t2 hput
      obtain ⟨dl, hdl⟩ : ∃ x, dt.length = x := ⟨_, rfl⟩
      rw [hdl] at cdt hsd t2 hput
      have HTN := Lib.hid (fun w1 (hk1 : Kp wr w1) => refToNumber_any ad cd dt dl hdl (by omega) hbd w1 (hsd.kp hk1))
      have HTF := Lib.hid (fun w1 (hk1 : Kp wr w1) => refToFloat_any ad cd dt dl hdl (by omega) hbd w1 (hsd.kp hk1))
      have ej : jj.toNat = j := by omega
      rw [← ej] at ct cdt
      have j0 : 0 ≤ jj := by omega
      have hltj : jj < kf := by omega
      have HJ := Lib.hid hjj
      clear ej
      by_cases q0 : tg = 14
      · subst q0
        rw [if_pos rfl] at hput
        have HBK := Lib.hid (fun q => (f8_back hbd q).2.2)
        obtain ⟨fx, hfx⟩ : ∃ x, (toFl dt).1 = x := ⟨_, rfl⟩
        obtain ⟨fe, hfe⟩ : ∃ x, (toFl dt).2 = x := ⟨_, rfl⟩
        rw [hfx, hfe] at HTF HBK hput
        by_cases qz : fe = 0
        · subst qz
          rw [if_pos rfl] at hput
          have HPT := Lib.hid hput
          have h64 := HBK.out rfl
          have H64 := Lib.hid h64
          have KB := Lib.hid (kp_alloc wr (.cells #[.int .i64 14, .slice ad dl cd] 64))
          clear hk hown hput hsd hbd hdl hjl hy hdr hlt hjj hl5 hkl how hfx hfe HTN HBK h64
          go_wp2_with (go_at_call 51; (with_reducible refine (HTF.out _ (kp_alloc _ _)).mono ?_); rintro e w5 ⟨rfl, rfl⟩)
          have hjj := HJ.out
          go_roundw
          case rel =>
            refine ⟨j + 1, l, some fx, by omega, by congr 1; omega, rfl, rfl, HL5.out, Kp.trans HK.out KB.out, own_kp HOW.out KB.out, HPT.out, H64.out⟩
          case measure => simp [intOf]; omega
        · have DN := Lib.hid (show DD = (4, noF) by rw [HDM.out, hput, if_neg qz]; rfl)
          have hbt : (fe != 0) = true := by simpa using qz
          have ZF := kp_row (Kp.trans HK.out (kp_alloc wr (.cells #[.int .i64 14, .slice ad dl cd] 64))) Z2.out
          obtain ⟨e0, e1, e2, e3, e4, e5, e6, e7, e8, e9, e10, e11, e12, e13⟩ := cells14 ZF
          have fz := froz14 ZF
          have HZF := Lib.hid ZF
          clear ZF hk hown hput hsd hbd hdl hjl hy hdr hlt hjj hl5 hkl how hfx hfe HTN HBK
          go_wp2_with (go_at_call 51; (with_reducible refine (HTF.out _ (kp_alloc _ _)).mono ?_); rintro e w5 ⟨rfl, rfl⟩)
          have hz5 := set14 (.int .i64 0) (.int .i64 0) (.int .i64 0) (.int .i64 0) (.int .i64 0) (.int .i64 0) (.int .i64 0) (.int .i64 0) (.int .i64 0) (.int .i64 0) (.int .i64 0) (.int .i64 0) (.int .i64 0) (.float .f64 0) HZF.out
          refine bodyPost_ret (results_row_tmpG (p := 2) (u := 3) rfl _ _ w.heap.size 28 _ (0, 0) _ rfl hz5 Tryz.underlying28 rfl (by kernel_rfl)) rfl ?_
          rw [DN.out]
          exact ⟨rfl, set14_kp (Kp.trans (Kp.trans K2.out HK.out) (kp_alloc _ _)) (Nat.le_refl _) _ _ _ _ _ _ _ _ _ _ _ _ _ _⟩
      · rw [if_neg q0] at hput
        have hb5 : (tg == 14) = false := by simpa using q0
        obtain ⟨tn, htn⟩ : ∃ x, (toNum dt).1 = x := ⟨_, rfl⟩
        obtain ⟨te, hte⟩ : ∃ x, (toNum dt).2 = x := ⟨_, rfl⟩
        rw [htn, hte] at HTN hput
        have HNO := Lib.hid (fun (q : 14 < tg ∨ dl = 0 ∨ te ≠ 0) => show DD = (4, noF) by rw [HDM.out, hput, if_pos q]; rfl)
        by_cases qa : 14 < tg
        · have DN := Lib.hid (HNO.out (.inl qa))
          have hb9 : decide (14 < tg) = true := decide_eq_true qa
          clear HNO
          have ZF := kp_row (Kp.trans HK.out (kp_alloc wr (.cells #[.int .i64 tg, .slice ad dl cd] 64))) Z2.out
          obtain ⟨e0, e1, e2, e3, e4, e5, e6, e7, e8, e9, e10, e11, e12, e13⟩ := cells14 ZF
          have fz := froz14 ZF
          have HZF := Lib.hid ZF
          clear ZF hk hown hput hsd hbd hdl hjl hy hdr hlt hjj hl5 hkl how htn hte HTF
          go_wp2_with (go_at_call 52; (with_reducible refine (HTN.out _ (kp_alloc _ _)).mono ?_); rintro e w5 ⟨rfl, rfl⟩)
          have hz5 := set14 (.int .i64 0) (.int .i64 0) (.int .i64 0) (.int .i64 0) (.int .i64 0) (.int .i64 0) (.int .i64 0) (.int .i64 0) (.int .i64 0) (.int .i64 0) (.int .i64 0) (.int .i64 0) (.int .i64 0) (.float .f64 0) HZF.out
          refine bodyPost_ret (results_row_tmpG (p := 2) (u := 3) rfl _ _ w.heap.size 28 _ (0, 0) _ rfl hz5 Tryz.underlying28 rfl (by kernel_rfl)) rfl ?_
          rw [DN.out]
          exact ⟨rfl, set14_kp (Kp.trans (Kp.trans K2.out HK.out) (kp_alloc _ _)) (Nat.le_refl _) _ _ _ _ _ _ _ _ _ _ _ _ _ _⟩
        by_cases qb : dl = 0
        · have DN := Lib.hid (HNO.out (.inr (.inl qb)))
          have hb9 : decide (14 < tg) = false := decide_eq_false qa
          clear HNO
          subst qb
          have ZF := kp_row (Kp.trans HK.out (kp_alloc wr (.cells #[.int .i64 tg, .slice ad 0 cd] 64))) Z2.out
          obtain ⟨e0, e1, e2, e3, e4, e5, e6, e7, e8, e9, e10, e11, e12, e13⟩ := cells14 ZF
          have fz := froz14 ZF
          have HZF := Lib.hid ZF
          clear ZF hk hown hput hsd hbd hdl hjl hy hdr hlt hjj hl5 hkl how htn hte HTF
          go_wp2_with (go_at_call 52; (with_reducible refine (HTN.out _ (kp_alloc _ _)).mono ?_); rintro e w5 ⟨rfl, rfl⟩)
          have hz5 := set14 (.int .i64 0) (.int .i64 0) (.int .i64 0) (.int .i64 0) (.int .i64 0) (.int .i64 0) (.int .i64 0) (.int .i64 0) (.int .i64 0) (.int .i64 0) (.int .i64 0) (.int .i64 0) (.int .i64 0) (.float .f64 0) HZF.out
          refine bodyPost_ret (results_row_tmpG (p := 2) (u := 3) rfl _ _ w.heap.size 28 _ (0, 0) _ rfl hz5 Tryz.underlying28 rfl (by kernel_rfl)) rfl ?_
          rw [DN.out]
          exact ⟨rfl, set14_kp (Kp.trans (Kp.trans K2.out HK.out) (kp_alloc _ _)) (Nat.le_refl _) _ _ _ _ _ _ _ _ _ _ _ _ _ _⟩
        by_cases qc : te = 0
        · clear HNO
          subst qc
          obtain ⟨tk, rfl⟩ : ∃ x, tg = x + 1 := ⟨tg - 1, by omega⟩
          have tk0 : 0 ≤ tk := by omega
          have tk9 : tk < 13 := by omega
          have hkn : tk.toNat < 13 := by omega
          have hownX := own_kp hown (kp_alloc wr (.cells #[.int .i64 (tk + 1), .slice ad dl cd] 64))
          have hcX := hownX.cellAt tk.toNat (by omega)
          rw [List.getElem?_map, List.getElem?_eq_getElem (by omega), Option.map_some] at hcX
          obtain ⟨lo, hlo⟩ : ∃ x, l[tk.toNat]'(by omega) = x := ⟨_, rfl⟩
          rw [hlo] at hcX
          clear hlo
          have hzX := hownX.frozenAt tk.toNat
          have hst := hownX.stored tk.toNat (.int .i64 tn)
          have HST := Lib.hid hst.1
          have HGR := Lib.hid (Below.grown (Kp.trans HK.out (kp_alloc wr (.cells #[.int .i64 (tk + 1), .slice ad dl cd] 64))) hst.2 (Below.size (Kp.trans HK.out (kp_alloc wr (.cells #[.int .i64 (tk + 1), .slice ad dl cd] 64)))) (fun k hk => by injection hk with hk; have := HLL.out; omega))
          have HPT : Hid (putG (List.replicate 13 0) none fs = putG (l.set tk.toNat tn) oo (fs.drop (j + 1))) := Lib.hid (by
            rw [hput, if_neg (by omega), show tk + 1 - 1 = tk by omega])
          obtain ⟨dd, hdd⟩ : ∃ x : Int, (dl : Int) = x := ⟨_, rfl⟩
          have hd0 : ¬ dd = 0 := by omega
          have hb9 : decide (14 < tk + 1) = false := decide_eq_false qa
          have hbd2 : (dd == 0) = false := by simpa using hd0
          have hn14 : ¬ tk + 1 = 14 := q0
          clear hst hk hown hput hsd hbd hdl hjl htn hte hy hdr hlt hjj hl5 hkl hownX how HTF qa q0
          go_wp2_with (go_at_call 52; (with_reducible refine (HTN.out _ (kp_alloc _ _)).mono ?_); rintro e w5 ⟨rfl, rfl⟩)
          have hjj := HJ.out
          go_roundw
          case rel =>
            refine ⟨j + 1, l.set tk.toNat tn, oo, by omega, by congr 1; omega, rfl, rfl, by rw [List.length_set]; exact HL5.out, HGR.out, ?_, HPT.out, HWF.out⟩
            rw [List.map_set]
            exact HST.out
          case measure => simp [intOf]; omega
        · have DN := Lib.hid (HNO.out (.inr (.inr qc)))
          obtain ⟨dd, hdd⟩ : ∃ x : Int, (dl : Int) = x := ⟨_, rfl⟩
          have hd0 : ¬ dd = 0 := by omega
          have hb9 : decide (14 < tg) = false := decide_eq_false qa
          have hbd2 : (dd == 0) = false := by simpa using hd0
          have hbt : (te != 0) = true := by simpa using qc
          clear HNO
          have ZF := kp_row (Kp.trans HK.out (kp_alloc wr (.cells #[.int .i64 tg, .slice ad dl cd] 64))) Z2.out
          obtain ⟨e0, e1, e2, e3, e4, e5, e6, e7, e8, e9, e10, e11, e12, e13⟩ := cells14 ZF
          have fz := froz14 ZF
          have HZF := Lib.hid ZF
          clear ZF hk hown hput hsd hbd hdl hjl hy hdr hlt hjj hl5 hkl how htn hte HTF
          go_wp2_with (go_at_call 52; (with_reducible refine (HTN.out _ (kp_alloc _ _)).mono ?_); rintro e w5 ⟨rfl, rfl⟩)
          have hz5 := set14 (.int .i64 0) (.int .i64 0) (.int .i64 0) (.int .i64 0) (.int .i64 0) (.int .i64 0) (.int .i64 0) (.int .i64 0) (.int .i64 0) (.int .i64 0) (.int .i64 0) (.int .i64 0) (.int .i64 0) (.float .f64 0) HZF.out
          refine bodyPost_ret (results_row_tmpG (p := 2) (u := 3) rfl _ _ w.heap.size 28 _ (0, 0) _ rfl hz5 Tryz.underlying28 rfl (by kernel_rfl)) rfl ?_
          rw [DN.out]
          exact ⟨rfl, set14_kp (Kp.trans (Kp.trans K2.out HK.out) (kp_alloc _ _)) (Nat.le_refl _) _ _ _ _ _ _ _ _ _ _ _ _ _ _⟩
    · obtain rfl : j = kf := by omega
      rw [← hkl, List.drop_length, putG] at hput
      have HDE : DD = finG (some (l, oo)) := by rw [HDM.out, hput]
      unfold finG at HDE
      dsimp only at HDE
      obtain ⟨x, hx⟩ : ∃ z, oo.getD 0 = z := ⟨_, rfl⟩
      obtain ⟨ev, hev⟩ : ∃ z, oo.isSome = z := ⟨_, rfl⟩
      rw [hx] at how
      rw [hx, hev] at HDE
      rw [hx, hev]
      obtain ⟨k1, n1, s1, r1, u1, p1, q1, o1, d1, a1, t1, h1, c1, rfl⟩ := thirteen hl5
      have hol : ofF [k1, n1, s1, r1, u1, p1, q1, o1, d1, a1, t1, h1, c1] x = ⟨k1, n1, s1, r1, u1, p1, q1, o1, d1, a1, t1, h1, c1, x⟩ := rfl
      rw [hol] at HDE
      dsimp only at HDE
      have G0 := Lib.hid (show wr.cell? ⟨L, 0, none⟩ = some (.int .i64 k1) from hown.cellAt 0 (by decide))
      have G1 := Lib.hid (show wr.cell? ⟨L, 1, none⟩ = some (.int .i64 n1) from hown.cellAt 1 (by decide))
      have G2 := Lib.hid (show wr.cell? ⟨L, 2, none⟩ = some (.int .i64 s1) from hown.cellAt 2 (by decide))
      have G3 := Lib.hid (show wr.cell? ⟨L, 3, none⟩ = some (.int .i64 r1) from hown.cellAt 3 (by decide))
      have G4 := Lib.hid (show wr.cell? ⟨L, 4, none⟩ = some (.int .i64 u1) from hown.cellAt 4 (by decide))
      have G5 := Lib.hid (show wr.cell? ⟨L, 5, none⟩ = some (.int .i64 p1) from hown.cellAt 5 (by decide))
      have G6 := Lib.hid (show wr.cell? ⟨L, 6, none⟩ = some (.int .i64 q1) from hown.cellAt 6 (by decide))
      have G7 := Lib.hid (show wr.cell? ⟨L, 7, none⟩ = some (.int .i64 o1) from hown.cellAt 7 (by decide))
      have G8 := Lib.hid (show wr.cell? ⟨L, 8, none⟩ = some (.int .i64 d1) from hown.cellAt 8 (by decide))
      have G9 := Lib.hid (show wr.cell? ⟨L, 9, none⟩ = some (.int .i64 a1) from hown.cellAt 9 (by decide))
      have G10 := Lib.hid (show wr.cell? ⟨L, 10, none⟩ = some (.int .i64 t1) from hown.cellAt 10 (by decide))
      have G11 := Lib.hid (show wr.cell? ⟨L, 11, none⟩ = some (.int .i64 h1) from hown.cellAt 11 (by decide))
      have G12 := Lib.hid (show wr.cell? ⟨L, 12, none⟩ = some (.int .i64 c1) from hown.cellAt 12 (by decide))
      have HRX := Lib.hid (fun w1 => refRight14_any ⟨k1, n1, s1, r1, u1, p1, q1, o1, d1, a1, t1, h1, c1, x⟩ how w1)
      have hex : ¬ jj < j := by omega
      have Z2w := Lib.hid (kp_row HK.out Z2.out)
      have KW := Lib.hid (Kp.trans K2.out HK.out)
      have HDH := Lib.hid HDE
      clear hput hkl hlt hjj hl5 hown hk hol hx hev how HOW HWF HL5 HDE
      go_wp2
      refine wp_region_held_drew (S := fun w' => Kp wr w') (by kernel_rfl) ?_ (fun hHeld => ?_)
      · exact (Kp.refl wr).drew
      refine wpAnyH_take (i := 0) (v := ?_) rfl (by kernel_rfl) (by kernel_rfl) (by kernel_rfl) (fun _ _ _ h => h) (Or.inl ⟨by rfl, ?_⟩) (by assumption) ?_
      rotate_left
      · intro w hSw; go_simp; try with_reducible rfl
      go_simp
      refine wpAnyH_take (i := 1) (v := ?_) rfl (by kernel_rfl) (by kernel_rfl) (by kernel_rfl) (fun _ _ _ h => h) (Or.inl ⟨by rfl, ?_⟩) (by assumption) ?_
      rotate_left
      · intro w hSw; go_simp; try with_reducible rfl
      go_simp
      refine wpAnyH_take (i := 2) (v := ?_) rfl (by kernel_rfl) (by kernel_rfl) (by kernel_rfl) (fun _ _ _ h => h) (Or.inl ⟨by rfl, ?_⟩) (by assumption) ?_
      rotate_left
      · intro w hSw; have q := kp_cell hSw G0.out; go_simp; try with_reducible rfl
      go_simp
      refine wpAnyH_take (i := 3) (v := ?_) rfl (by kernel_rfl) (by kernel_rfl) (by kernel_rfl) (fun _ _ _ h => h) (Or.inl ⟨by rfl, ?_⟩) (by assumption) ?_
      rotate_left
      · intro w hSw; go_simp; try with_reducible rfl
      go_simp
      refine wpAnyH_take (i := 4) (v := ?_) rfl (by kernel_rfl) (by kernel_rfl) (by kernel_rfl) (fun _ _ _ h => h) (Or.inl ⟨by rfl, ?_⟩) (by assumption) ?_
      rotate_left
      · intro w hSw; go_simp; try with_reducible rfl
      go_simp
      refine wpAnyH_take (i := 5) (v := ?_) rfl (by kernel_rfl) (by kernel_rfl) (by kernel_rfl) (fun _ _ _ h => h) (Or.inl ⟨by rfl, ?_⟩) (by assumption) ?_
      rotate_left
      · intro w hSw; have q := kp_cell hSw G1.out; go_simp; try with_reducible rfl
      go_simp
      refine wpAnyH_take (i := 6) (v := ?_) rfl (by kernel_rfl) (by kernel_rfl) (by kernel_rfl) (fun _ _ _ h => h) (Or.inl ⟨by rfl, ?_⟩) (by assumption) ?_
      rotate_left
      · intro w hSw; go_simp; try with_reducible rfl
      go_simp
      refine wpAnyH_take (i := 7) (v := ?_) rfl (by kernel_rfl) (by kernel_rfl) (by kernel_rfl) (fun _ _ _ h => h) (Or.inl ⟨by rfl, ?_⟩) (by assumption) ?_
      rotate_left
      · intro w hSw; go_simp; try with_reducible rfl
      go_simp
      refine wpAnyH_take (i := 8) (v := ?_) rfl (by kernel_rfl) (by kernel_rfl) (by kernel_rfl) (fun _ _ _ h => h) (Or.inl ⟨by rfl, ?_⟩) (by assumption) ?_
      rotate_left
      · intro w hSw; have q := kp_cell hSw G2.out; go_simp; try with_reducible rfl
      go_simp
      refine wpAnyH_take (i := 9) (v := ?_) rfl (by kernel_rfl) (by kernel_rfl) (by kernel_rfl) (fun _ _ _ h => h) (Or.inl ⟨by rfl, ?_⟩) (by assumption) ?_
      rotate_left
      · intro w hSw; go_simp; try with_reducible rfl
      go_simp
      refine wpAnyH_take (i := 10) (v := ?_) rfl (by kernel_rfl) (by kernel_rfl) (by kernel_rfl) (fun _ _ _ h => h) (Or.inl ⟨by rfl, ?_⟩) (by assumption) ?_
      rotate_left
      · intro w hSw; go_simp; try with_reducible rfl
      go_simp
      refine wpAnyH_take (i := 11) (v := ?_) rfl (by kernel_rfl) (by kernel_rfl) (by kernel_rfl) (fun _ _ _ h => h) (Or.inl ⟨by rfl, ?_⟩) (by assumption) ?_
      rotate_left
      · intro w hSw; go_simp; try with_reducible rfl
      go_simp
      refine wpAnyH_take (i := 12) (v := ?_) rfl (by kernel_rfl) (by kernel_rfl) (by kernel_rfl) (fun _ _ _ h => h) (Or.inl ⟨by rfl, ?_⟩) (by assumption) ?_
      rotate_left
      · intro w hSw; have q := kp_cell hSw G3.out; go_simp; try with_reducible rfl
      go_simp
      refine wpAnyH_take (i := 13) (v := ?_) rfl (by kernel_rfl) (by kernel_rfl) (by kernel_rfl) (fun _ _ _ h => h) (Or.inl ⟨by rfl, ?_⟩) (by assumption) ?_
      rotate_left
      · intro w hSw; go_simp; try with_reducible rfl
      go_simp
      refine wpAnyH_take (i := 14) (v := ?_) rfl (by kernel_rfl) (by kernel_rfl) (by kernel_rfl) (fun _ _ _ h => h) (Or.inl ⟨by rfl, ?_⟩) (by assumption) ?_
      rotate_left
      · intro w hSw; go_simp; try with_reducible rfl
      go_simp
      refine wpAnyH_take (i := 15) (v := ?_) rfl (by kernel_rfl) (by kernel_rfl) (by kernel_rfl) (fun _ _ _ h => h) (Or.inl ⟨by rfl, ?_⟩) (by assumption) ?_
      rotate_left
      · intro w hSw; have q := kp_cell hSw G4.out; go_simp; try with_reducible rfl
      go_simp
      refine wpAnyH_take (i := 16) (v := ?_) rfl (by kernel_rfl) (by kernel_rfl) (by kernel_rfl) (fun _ _ _ h => h) (Or.inl ⟨by rfl, ?_⟩) (by assumption) ?_
      rotate_left
      · intro w hSw; go_simp; try with_reducible rfl
      go_simp
      refine wpAnyH_take (i := 17) (v := ?_) rfl (by kernel_rfl) (by kernel_rfl) (by kernel_rfl) (fun _ _ _ h => h) (Or.inl ⟨by rfl, ?_⟩) (by assumption) ?_
      rotate_left
      · intro w hSw; go_simp; try with_reducible rfl
      go_simp
      refine wpAnyH_take (i := 18) (v := ?_) rfl (by kernel_rfl) (by kernel_rfl) (by kernel_rfl) (fun _ _ _ h => h) (Or.inl ⟨by rfl, ?_⟩) (by assumption) ?_
      rotate_left
      · intro w hSw; have q := kp_cell hSw G5.out; go_simp; try with_reducible rfl
      go_simp
      refine wpAnyH_take (i := 19) (v := ?_) rfl (by kernel_rfl) (by kernel_rfl) (by kernel_rfl) (fun _ _ _ h => h) (Or.inl ⟨by rfl, ?_⟩) (by assumption) ?_
      rotate_left
      · intro w hSw; go_simp; try with_reducible rfl
      go_simp
      refine wpAnyH_take (i := 20) (v := ?_) rfl (by kernel_rfl) (by kernel_rfl) (by kernel_rfl) (fun _ _ _ h => h) (Or.inl ⟨by rfl, ?_⟩) (by assumption) ?_
      rotate_left
      · intro w hSw; go_simp; try with_reducible rfl
      go_simp
      refine wpAnyH_take (i := 21) (v := ?_) rfl (by kernel_rfl) (by kernel_rfl) (by kernel_rfl) (fun _ _ _ h => h) (Or.inl ⟨by rfl, ?_⟩) (by assumption) ?_
      rotate_left
      · intro w hSw; have q := kp_cell hSw G6.out; go_simp; try with_reducible rfl
      go_simp
      refine wpAnyH_take (i := 22) (v := ?_) rfl (by kernel_rfl) (by kernel_rfl) (by kernel_rfl) (fun _ _ _ h => h) (Or.inl ⟨by rfl, ?_⟩) (by assumption) ?_
      rotate_left
      · intro w hSw; go_simp; try with_reducible rfl
      go_simp
      refine wpAnyH_take (i := 23) (v := ?_) rfl (by kernel_rfl) (by kernel_rfl) (by kernel_rfl) (fun _ _ _ h => h) (Or.inl ⟨by rfl, ?_⟩) (by assumption) ?_
      rotate_left
      · intro w hSw; go_simp; try with_reducible rfl
      go_simp
      refine wpAnyH_take (i := 24) (v := ?_) rfl (by kernel_rfl) (by kernel_rfl) (by kernel_rfl) (fun _ _ _ h => h) (Or.inl ⟨by rfl, ?_⟩) (by assumption) ?_
      rotate_left
      · intro w hSw; have q := kp_cell hSw G7.out; go_simp; try with_reducible rfl
      go_simp
      refine wpAnyH_take (i := 25) (v := ?_) rfl (by kernel_rfl) (by kernel_rfl) (by kernel_rfl) (fun _ _ _ h => h) (Or.inl ⟨by rfl, ?_⟩) (by assumption) ?_
      rotate_left
      · intro w hSw; go_simp; try with_reducible rfl
      go_simp
      refine wpAnyH_take (i := 26) (v := ?_) rfl (by kernel_rfl) (by kernel_rfl) (by kernel_rfl) (fun _ _ _ h => h) (Or.inl ⟨by rfl, ?_⟩) (by assumption) ?_
      rotate_left
      · intro w hSw; go_simp; try with_reducible rfl
      go_simp
      refine wpAnyH_take (i := 27) (v := ?_) rfl (by kernel_rfl) (by kernel_rfl) (by kernel_rfl) (fun _ _ _ h => h) (Or.inl ⟨by rfl, ?_⟩) (by assumption) ?_
      rotate_left
      · intro w hSw; have q := kp_cell hSw G8.out; go_simp; try with_reducible rfl
      go_simp
      refine wpAnyH_take (i := 28) (v := ?_) rfl (by kernel_rfl) (by kernel_rfl) (by kernel_rfl) (fun _ _ _ h => h) (Or.inl ⟨by rfl, ?_⟩) (by assumption) ?_
      rotate_left
      · intro w hSw; go_simp; try with_reducible rfl
      go_simp
      refine wpAnyH_take (i := 29) (v := ?_) rfl (by kernel_rfl) (by kernel_rfl) (by kernel_rfl) (fun _ _ _ h => h) (Or.inl ⟨by rfl, ?_⟩) (by assumption) ?_
      rotate_left
      · intro w hSw; go_simp; try with_reducible rfl
      go_simp
      refine wpAnyH_take (i := 30) (v := ?_) rfl (by kernel_rfl) (by kernel_rfl) (by kernel_rfl) (fun _ _ _ h => h) (Or.inl ⟨by rfl, ?_⟩) (by assumption) ?_
      rotate_left
      · intro w hSw; have q := kp_cell hSw G9.out; go_simp; try with_reducible rfl
      go_simp
      refine wpAnyH_take (i := 31) (v := ?_) rfl (by kernel_rfl) (by kernel_rfl) (by kernel_rfl) (fun _ _ _ h => h) (Or.inl ⟨by rfl, ?_⟩) (by assumption) ?_
      rotate_left
      · intro w hSw; go_simp; try with_reducible rfl
      go_simp
      refine wpAnyH_take (i := 32) (v := ?_) rfl (by kernel_rfl) (by kernel_rfl) (by kernel_rfl) (fun _ _ _ h => h) (Or.inl ⟨by rfl, ?_⟩) (by assumption) ?_
      rotate_left
      · intro w hSw; go_simp; try with_reducible rfl
      go_simp
      refine wpAnyH_take (i := 33) (v := ?_) rfl (by kernel_rfl) (by kernel_rfl) (by kernel_rfl) (fun _ _ _ h => h) (Or.inl ⟨by rfl, ?_⟩) (by assumption) ?_
      rotate_left
      · intro w hSw; have q := kp_cell hSw G10.out; go_simp; try with_reducible rfl
      go_simp
      refine wpAnyH_take (i := 34) (v := ?_) rfl (by kernel_rfl) (by kernel_rfl) (by kernel_rfl) (fun _ _ _ h => h) (Or.inl ⟨by rfl, ?_⟩) (by assumption) ?_
      rotate_left
      · intro w hSw; go_simp; try with_reducible rfl
      go_simp
      refine wpAnyH_take (i := 35) (v := ?_) rfl (by kernel_rfl) (by kernel_rfl) (by kernel_rfl) (fun _ _ _ h => h) (Or.inl ⟨by rfl, ?_⟩) (by assumption) ?_
      rotate_left
      · intro w hSw; go_simp; try with_reducible rfl
      go_simp
      refine wpAnyH_take (i := 36) (v := ?_) rfl (by kernel_rfl) (by kernel_rfl) (by kernel_rfl) (fun _ _ _ h => h) (Or.inl ⟨by rfl, ?_⟩) (by assumption) ?_
      rotate_left
      · intro w hSw; have q := kp_cell hSw G11.out; go_simp; try with_reducible rfl
      go_simp
      refine wpAnyH_take (i := 37) (v := ?_) rfl (by kernel_rfl) (by kernel_rfl) (by kernel_rfl) (fun _ _ _ h => h) (Or.inl ⟨by rfl, ?_⟩) (by assumption) ?_
      rotate_left
      · intro w hSw; go_simp; try with_reducible rfl
      go_simp
      refine wpAnyH_take (i := 38) (v := ?_) rfl (by kernel_rfl) (by kernel_rfl) (by kernel_rfl) (fun _ _ _ h => h) (Or.inl ⟨by rfl, ?_⟩) (by assumption) ?_
      rotate_left
      · intro w hSw; go_simp; try with_reducible rfl
      go_simp
      refine wpAnyH_take (i := 39) (v := ?_) rfl (by kernel_rfl) (by kernel_rfl) (by kernel_rfl) (fun _ _ _ h => h) (Or.inl ⟨by rfl, ?_⟩) (by assumption) ?_
      rotate_left
      · intro w hSw; have q := kp_cell hSw G12.out; go_simp; try with_reducible rfl
      go_simp
      refine wpAnyH_take (i := 40) (v := ?_) rfl (by kernel_rfl) (by kernel_rfl) (by kernel_rfl) (fun _ _ _ h => h) (Or.inl ⟨by rfl, ?_⟩) (by assumption) ?_
      rotate_left
      · intro w hSw; go_simp; try with_reducible rfl
      go_simp
      refine wpAnyH_take (i := 41) (v := ?_) rfl (by kernel_rfl) (by kernel_rfl) (by kernel_rfl) (fun _ _ _ h => h) (Or.inl ⟨by rfl, ?_⟩) (by assumption) ?_
      rotate_left
      · intro w hSw; go_simp; try with_reducible rfl
      go_simp
      refine wpAnyH_ready (rs := [42]) (by kernel_rfl) (by simp) ?_
      refine AllReadyH.cons rfl (fun K hK => ?_) AllReadyH.nil
      go_simp
      refine hK.out _ _ ?_ (fun hHeld => ?_)
      · exact Kp.trans (Kp.refl wr).drew (kp_alloc _ _)
      clear hK K
      refine wpAnyH_ready (rs := [43]) (by kernel_rfl) (by simp) ?_
      refine AllReadyH.cons rfl (fun K hK => ?_) AllReadyH.nil
      go_simp
      refine hK.out _ _ ?_ (fun hHeld => ?_)
      · exact (kp_alloc wr (.cells #[.int .i64 k1, .int .i64 n1, .int .i64 s1, .int .i64 r1, .int .i64 u1, .int .i64 p1, .int .i64 q1, .int .i64 o1, .int .i64 d1, .int .i64 a1, .int .i64 t1, .int .i64 h1, .int .i64 c1, .float .f64 x] 28)).drew
      clear hK K
      refine wpAnyH_done (by kernel_rfl) ?_ _
      obtain ⟨we, hwe⟩ : ∃ y, (wr.alloc (.cells #[.int .i64 k1, .int .i64 n1, .int .i64 s1, .int .i64 r1, .int .i64 u1, .int .i64 p1, .int .i64 q1, .int .i64 o1, .int .i64 d1, .int .i64 a1, .int .i64 t1, .int .i64 h1, .int .i64 c1, .float .f64 x] 28)).drew = y := ⟨_, rfl⟩
      have km : Kp wr we := by rw [← hwe]; exact (kp_alloc wr (.cells #[.int .i64 k1, .int .i64 n1, .int .i64 s1, .int .i64 r1, .int .i64 u1, .int .i64 p1, .int .i64 q1, .int .i64 o1, .int .i64 d1, .int .i64 a1, .int .i64 t1, .int .i64 h1, .int .i64 c1, .float .f64 x] 28)).drew
      have hmr : we.heap[wr.heap.size]? = some (.cells #[.int .i64 k1, .int .i64 n1, .int .i64 s1, .int .i64 r1, .int .i64 u1, .int .i64 p1, .int .i64 q1, .int .i64 o1, .int .i64 d1, .int .i64 a1, .int .i64 t1, .int .i64 h1, .int .i64 c1, .float .f64 x] 28) := by rw [← hwe]; exact (MapKept.heap_alloc wr (.cells #[.int .i64 k1, .int .i64 n1, .int .i64 s1, .int .i64 r1, .int .i64 u1, .int .i64 p1, .int .i64 q1, .int .i64 o1, .int .i64 d1, .int .i64 a1, .int .i64 t1, .int .i64 h1, .int .i64 c1, .float .f64 x] 28)).1
      rw [hwe]
      have KM := Lib.hid km
      have HMR := Lib.hid hmr
      have RM := Lib.hid (kp_row km Z2w.out)
      obtain ⟨y0, y1, y2, y3, y4, y5, y6, y7, y8, y9, y10, y11, y12, y13⟩ := cells14 RM.out
      have fy := froz14 RM.out
      clear hwe km hHeld G0 G1 G2 G3 G4 G5 G6 G7 G8 G9 G10 G11 G12
      have hde := HDH.out
      have HRR := HRX.out
      dsimp only [FX.cells] at HRR
      have hrm0 := True.intro
      by_cases hk1 : k1 = 1
      · subst hk1
        obtain ⟨v0, v1, v2, v3, v4, v5, v6, v7, v8, v9, v10, v11, v12, v13⟩ := cells14 hmr
        cases ev with
        | true =>
          cases hrm : rightF ⟨1, n1, s1, r1, u1, p1, q1, o1, d1, a1, t1, h1, c1, x⟩ with
          | true =>
            rw [hrm] at hde HRR
            rw [if_pos ⟨by simp, rfl⟩] at hde
            have HRR := Lib.hid HRR
            have HDE := Lib.hid hde
            clear hde hmr hrm0 hrm
            go_wp2_with (go_at_call 10; (with_reducible refine (HRR.out _).mono ?_); rintro e w7 ⟨rfl, hk7⟩; have K7 := Lib.hid (Kp.trans KM.out hk7); have R7 := Lib.hid (kp_row hk7 RM.out); have M7 := kp_row hk7 HMR.out; obtain ⟨m0, m1, m2, m3, m4, m5, m6, m7, m8, m9, m10, m11, m12, m13⟩ := cells14 M7; obtain ⟨zz0, zz1, zz2, zz3, zz4, zz5, zz6, zz7, zz8, zz9, zz10, zz11, zz12, zz13⟩ := cells14 R7.out; have fz := froz14 R7.out; clear M7 hk7)
            have hz5 := set14 (.int .i64 1) (.int .i64 n1) (.int .i64 s1) (.int .i64 r1) (.int .i64 u1) (.int .i64 p1) (.int .i64 q1) (.int .i64 o1) (.int .i64 d1) (.int .i64 a1) (.int .i64 t1) (.int .i64 h1) (.int .i64 c1) (.float .f64 x) R7.out
            refine bodyPost_ret (results_row_tmpG (p := 2) (u := 3) rfl _ _ w.heap.size 28 _ (0, 0) _ rfl hz5 Tryz.underlying28 rfl (by kernel_rfl)) rfl ?_
            rw [HDE.out]
            exact ⟨rfl, set14_kp (Kp.trans KW.out K7.out) (Nat.le_refl _) _ _ _ _ _ _ _ _ _ _ _ _ _ _⟩
          | false =>
            rw [hrm] at hde HRR
            rw [if_neg (fun q => absurd q.2 (by decide))] at hde
            have HRR := Lib.hid HRR
            have HDE := Lib.hid hde
            clear hde hmr hrm0 hrm
            go_wp2_with (go_at_call 10; (with_reducible refine (HRR.out _).mono ?_); rintro e w7 ⟨rfl, hk7⟩; have K7 := Lib.hid (Kp.trans KM.out hk7); have R7 := Lib.hid (kp_row hk7 RM.out); have M7 := kp_row hk7 HMR.out; obtain ⟨m0, m1, m2, m3, m4, m5, m6, m7, m8, m9, m10, m11, m12, m13⟩ := cells14 M7; obtain ⟨zz0, zz1, zz2, zz3, zz4, zz5, zz6, zz7, zz8, zz9, zz10, zz11, zz12, zz13⟩ := cells14 R7.out; have fz := froz14 R7.out; clear M7 hk7)
            have hz5 := set14 (.int .i64 0) (.int .i64 0) (.int .i64 0) (.int .i64 0) (.int .i64 0) (.int .i64 0) (.int .i64 0) (.int .i64 0) (.int .i64 0) (.int .i64 0) (.int .i64 0) (.int .i64 0) (.int .i64 0) (.float .f64 0) R7.out
            refine bodyPost_ret (results_row_tmpG (p := 2) (u := 3) rfl _ _ w.heap.size 28 _ (0, 0) _ rfl hz5 Tryz.underlying28 rfl (by kernel_rfl)) rfl ?_
            rw [HDE.out]
            exact ⟨rfl, set14_kp (Kp.trans KW.out K7.out) (Nat.le_refl _) _ _ _ _ _ _ _ _ _ _ _ _ _ _⟩
        | false =>
          rw [if_neg (fun q => absurd q.1 (by simp))] at hde
          have HRR := Lib.hid HRR
          have HDE := Lib.hid hde
          clear hde hmr hrm0 
          go_wp2
          have hz5 := set14 (.int .i64 0) (.int .i64 0) (.int .i64 0) (.int .i64 0) (.int .i64 0) (.int .i64 0) (.int .i64 0) (.int .i64 0) (.int .i64 0) (.int .i64 0) (.int .i64 0) (.int .i64 0) (.int .i64 0) (.float .f64 0) RM.out
          refine bodyPost_ret (results_row_tmpG (p := 2) (u := 3) rfl _ _ w.heap.size 28 _ (0, 0) _ rfl hz5 Tryz.underlying28 rfl (by kernel_rfl)) rfl ?_
          rw [HDE.out]
          exact ⟨rfl, set14_kp (Kp.trans KW.out KM.out) (Nat.le_refl _) _ _ _ _ _ _ _ _ _ _ _ _ _ _⟩
      · have hkb : (k1 == 1) = false := by simpa using hk1
        obtain ⟨v0, v1, v2, v3, v4, v5, v6, v7, v8, v9, v10, v11, v12, v13⟩ := cells14 hmr
        cases ev with
        | false =>
          cases hrm : rightF ⟨k1, n1, s1, r1, u1, p1, q1, o1, d1, a1, t1, h1, c1, x⟩ with
          | true =>
            rw [hrm] at hde HRR
            rw [if_pos ⟨(decide_eq_false hk1).symm, rfl⟩] at hde
            have HRR := Lib.hid HRR
            have HDE := Lib.hid hde
            clear hde hmr hrm0 hrm hk1
            go_wp2_with (go_at_call 10; (with_reducible refine (HRR.out _).mono ?_); rintro e w7 ⟨rfl, hk7⟩; have K7 := Lib.hid (Kp.trans KM.out hk7); have R7 := Lib.hid (kp_row hk7 RM.out); have M7 := kp_row hk7 HMR.out; obtain ⟨m0, m1, m2, m3, m4, m5, m6, m7, m8, m9, m10, m11, m12, m13⟩ := cells14 M7; obtain ⟨zz0, zz1, zz2, zz3, zz4, zz5, zz6, zz7, zz8, zz9, zz10, zz11, zz12, zz13⟩ := cells14 R7.out; have fz := froz14 R7.out; clear M7 hk7)
            have hz5 := set14 (.int .i64 k1) (.int .i64 n1) (.int .i64 s1) (.int .i64 r1) (.int .i64 u1) (.int .i64 p1) (.int .i64 q1) (.int .i64 o1) (.int .i64 d1) (.int .i64 a1) (.int .i64 t1) (.int .i64 h1) (.int .i64 c1) (.float .f64 x) R7.out
            refine bodyPost_ret (results_row_tmpG (p := 2) (u := 3) rfl _ _ w.heap.size 28 _ (0, 0) _ rfl hz5 Tryz.underlying28 rfl (by kernel_rfl)) rfl ?_
            rw [HDE.out]
            exact ⟨rfl, set14_kp (Kp.trans KW.out K7.out) (Nat.le_refl _) _ _ _ _ _ _ _ _ _ _ _ _ _ _⟩
          | false =>
            rw [hrm] at hde HRR
            rw [if_neg (fun q => absurd q.2 (by decide))] at hde
            have HRR := Lib.hid HRR
            have HDE := Lib.hid hde
            clear hde hmr hrm0 hrm hk1
            go_wp2_with (go_at_call 10; (with_reducible refine (HRR.out _).mono ?_); rintro e w7 ⟨rfl, hk7⟩; have K7 := Lib.hid (Kp.trans KM.out hk7); have R7 := Lib.hid (kp_row hk7 RM.out); have M7 := kp_row hk7 HMR.out; obtain ⟨m0, m1, m2, m3, m4, m5, m6, m7, m8, m9, m10, m11, m12, m13⟩ := cells14 M7; obtain ⟨zz0, zz1, zz2, zz3, zz4, zz5, zz6, zz7, zz8, zz9, zz10, zz11, zz12, zz13⟩ := cells14 R7.out; have fz := froz14 R7.out; clear M7 hk7)
            have hz5 := set14 (.int .i64 0) (.int .i64 0) (.int .i64 0) (.int .i64 0) (.int .i64 0) (.int .i64 0) (.int .i64 0) (.int .i64 0) (.int .i64 0) (.int .i64 0) (.int .i64 0) (.int .i64 0) (.int .i64 0) (.float .f64 0) R7.out
            refine bodyPost_ret (results_row_tmpG (p := 2) (u := 3) rfl _ _ w.heap.size 28 _ (0, 0) _ rfl hz5 Tryz.underlying28 rfl (by kernel_rfl)) rfl ?_
            rw [HDE.out]
            exact ⟨rfl, set14_kp (Kp.trans KW.out K7.out) (Nat.le_refl _) _ _ _ _ _ _ _ _ _ _ _ _ _ _⟩
        | true =>
          rw [if_neg (fun q => hk1 (of_decide_eq_true q.1.symm))] at hde
          have HRR := Lib.hid HRR
          have HDE := Lib.hid hde
          clear hde hmr hrm0  hk1
          go_wp2
          have hz5 := set14 (.int .i64 0) (.int .i64 0) (.int .i64 0) (.int .i64 0) (.int .i64 0) (.int .i64 0) (.int .i64 0) (.int .i64 0) (.int .i64 0) (.int .i64 0) (.int .i64 0) (.int .i64 0) (.int .i64 0) (.float .f64 0) RM.out
          refine bodyPost_ret (results_row_tmpG (p := 2) (u := 3) rfl _ _ w.heap.size 28 _ (0, 0) _ rfl hz5 Tryz.underlying28 rfl (by kernel_rfl)) rfl ?_
          rw [HDE.out]
          exact ⟨rfl, set14_kp (Kp.trans KW.out KM.out) (Nat.le_refl _) _ _ _ _ _ _ _ _ _ _ _ _ _ _⟩

theorem refRead14_any (a : Option Addr) (n c : Nat) (bs : List Int) (hn : bs.length = n) (hnc : n ≤ c) (hl : n ≤ 1000) (hb : InB bs) (w : World) (hs : SlB (.slice a n c) bs w) :
    Calls Tryz.prog 16 #[.slice a n c] w fun e w' => e = .returned (.tuple #[.agg (decG bs).2.cells, .int .i64 (decG bs).1]) ∧ Kp w w' := by
  by_cases he : (splitQ 17 bs 0 0).1 = 0
  · exact refRead14_row a n c bs hn hnc hl hb w hs he
  · have e : decG bs = ((splitQ 17 bs 0 0).1, noF) := by unfold decG; rw [if_pos he]
    rw [e]
    exact refRead14_err a n c bs hn hnc hl hb w hs he
end Go.Proofs.YtahdoniggipmmaaGreatDoor

