/- Parts of this proof (own work). -/
import Derived.Test.YtpemeenfhkgmpaaGreatDoorZf12
import Derived.Test.YtpemeenfhkgmpaaGreatDoorZf13
set_option maxRecDepth 100000
set_option maxHeartbeats 40000000
namespace Go.Proofs.YtpemeenfhkgmpaaGreatDoor
open Go.RowKit Go.ChangeShapes Go.WideShapes
theorem kbf_cell {p : Nat} {w w' : World} {q : Addr} {v : Value} (h : Kb p w w') (hp : q.block ≠ p) (hc : w.cell? q = some v) : w'.cell? q = some v := by
 have hl := old_of_cell hc; have e : w'.heap[q.block]? = w.heap[q.block]? := h.2 _ hp hl; unfold World.cell? at hc ⊢; rw [e]; exact hc
theorem kbf_set {p : Nat} {w w1 : World} (h : Kb p w w1) (i : Nat) (v : Value) : Kb p w (w1.setCell ⟨p, i, none⟩ v) := ⟨by simp; exact h.1, fun b hb hl => by rw [bS _ _ _ _ hb]; exact h.2 b hb hl⟩
theorem kbf_drew {p : Nat} {w w' : World} (h : Kb p w w') : Kb p w w'.drew := h
structure DfS (w : World) (R B A L : Nat) (v : Value) (gs : List (Int × List Int × Value)) (l : List Int) (x : Nat) (wr : World) : Prop where
 kW : Kp w wr
 bR : wr.heap[R]? = some (.cells #[(0:Int), (0:Int), (0:Int), (0:Int), (0:Int), (0:Int), (0:Int), (0:Int), (0:Int), (0:Int), (0:Int), (0:Int), (0:Int), .float .f64 0] 39 (0, 0))
 bB : wr.heap[B]? = some (.cells (numsF l x) 39 (0, 0))
 bA : wr.heap[A]? = some (.cells (plF B) 153 (0, 0))
 own : wr.ownsRow L 122 2 v gs.length (gs.flatMap cellQ)
 od : OwnD L gs wr
theorem DfS.kp {w wr wr' : World} {R B A L x : Nat} {v : Value} {gs : List (Int × List Int × Value)} {l : List Int} (h : DfS w R B A L v gs l x wr) (hk : Kp wr wr') : DfS w R B A L v gs l x wr' :=
 ⟨kT h.kW hk, rZ hk h.bR, rZ hk h.bB, rZ hk h.bA, oK h.own hk, h.od.kp hk⟩
theorem DfS.set {w wr : World} {R B A L x : Nat} {v : Value} {gs : List (Int × List Int × Value)} {l : List Int} (h : DfS w R B A L v gs l x wr) (hw : w.heap.size ≤ B) (hR : R ≠ B) (hA : A ≠ B) (hL : B < L) (i : Nat) (hi : i < l.length) (y : Int) : DfS w R B A L v gs (l.set i y) x (wr.setCell ⟨B, i, none⟩ (.int .i64 y)) :=
 ⟨Below.setCell h.kW hw _, by rw [bS _ _ _ _ hR]; exact h.bR, numsF_set h.bB i hi y, by rw [bS _ _ _ _ hA]; exact h.bA, ownsRow_setCell_below h.own hL _, fun g hg => ⟨ownsRow_setCell_below (h.od g hg).1 hL _, (h.od g hg).2⟩⟩
theorem DfS.setX {w wr : World} {R B A L x : Nat} {v : Value} {gs : List (Int × List Int × Value)} {l : List Int} (h : DfS w R B A L v gs l x wr) (hw : w.heap.size ≤ B) (hR : R ≠ B) (hA : A ≠ B) (hL : B < L) (hl : l.length = 13) (y : Nat) : DfS w R B A L v gs l y (wr.setCell ⟨B, 13, none⟩ (.float .f64 y)) :=
 ⟨Below.setCell h.kW hw _, by rw [bS _ _ _ _ hR]; exact h.bR, numsF_setX h.bB hl y, by rw [bS _ _ _ _ hA]; exact h.bA, ownsRow_setCell_below h.own hL _, fun g hg => ⟨ownsRow_setCell_below (h.od g hg).1 hL _, (h.od g hg).2⟩⟩
theorem must_f64F_t (x : Nat) (w : World) : Calls Tryz.prog 95 #[.float .f64 x, .nilIface] w fun e w' => e = .returned (.float .f64 x) ∧ w = w' := by
 go_enter Tryz.func95, Tryz.ntmps95; go_wp2_with (go_at_call 83; (with_reducible refine (check_t _).mono ?_); rintro e w' ⟨rfl, rfl⟩)
 go_ret; exact ⟨rfl, rfl⟩
theorem must_f64F_f (x : Nat) (a : Addr) (w : World) : Calls Tryz.prog 95 #[.float .f64 x, snt a] w fun e w' => e = .panicked [{ v := snt a, recovered := false }] ∧ w = w' := by
 go_enter Tryz.func95, Tryz.ntmps95; go_wp2_with (go_at_call 83; (with_reducible refine (check_f _ _).mono ?_); rintro e w' ⟨rfl, rfl⟩)
 exact ⟨rfl, rfl, rfl⟩
theorem num_nilF (bs : List Int) (hb : InB bs) (h2 : (toNum bs).2 = 0) (h : (toNum bs).1 = 0) : bs.length = 0 := by
 refine Classical.byContradiction fun q => ?_
 exact toNum_pos hb h2 q h
theorem fread1_err (ads : List Addr) (h1' : 1 < ads.length) (h3' : 3 < ads.length) (P : Addr) (a : Option Addr) (cap : Nat) (bs : List Int) (len : Nat) (hlen : bs.length = len) (hb : InB bs) (hlc : len ≤ cap) (w : World) (V : St ads w) (hp : w.cell? P = some (.slice a len cap)) (hs : SlB (.slice a len cap) bs w) (hl : len ≤ 1000) (k : Nat) (hk : k < ads.length) (hk2 : (splitQ 17 bs 0 0).1 = (k : Int) + 1) :
  Calls Tryz.prog 92 #[.pointer (some P)] w fun e w' => e = .panicked [{ v := snt (ads[k]'hk), recovered := false }] ∧ Kp w w' := by
 have HS := fun (w1 : World) (hk1 : Kp w w1) => split_any ads h1' h3' a cap bs len hlen (by omega) hlc hb w1 (V.below hk1) (hs.kp hk1)
 have HS2 : ∀ (w1 : World), Kp w w1 → Calls Tryz.prog 94 #[.slice a len cap] w1 fun e w' => e = .returned (.tuple #[.slice none 0 0, snt (ads[k]'hk)]) ∧ Kp w1 w' := fun w1 hk1 => (HS w1 hk1).mono (by
  rintro e w' ⟨⟨h, -⟩ | ⟨h, rfl⟩ | ⟨h, rfl⟩, hk3⟩
  ·omega
  ·obtain rfl : k = 1 := by omega
   exact ⟨rfl, hk3⟩
  ·obtain rfl : k = 3 := by omega
   exact ⟨rfl, hk3⟩)
 obtain ⟨ak, hak⟩ : ∃ a, ads[k]'hk = a := ⟨_, rfl⟩
 rw [hak] at HS2 ⊢; have HPL := hD (fun (B : Nat) (w1 : World) => (show Calls Tryz.prog 87 #[.pointer (some ⟨B, 0, none⟩)] w1 fun e w' => e = .returned (.agg #[.pointer none, .pointer (some ⟨B, 0, none⟩), .pointer (some ⟨B, 1, none⟩), .pointer (some ⟨B, 2, none⟩), .pointer (some ⟨B, 3, none⟩), .pointer (some ⟨B, 4, none⟩), .pointer (some ⟨B, 5, none⟩), .pointer (some ⟨B, 6, none⟩), .pointer (some ⟨B, 7, none⟩), .pointer (some ⟨B, 8, none⟩), .pointer (some ⟨B, 9, none⟩), .pointer (some ⟨B, 10, none⟩), .pointer (some ⟨B, 11, none⟩), .pointer (some ⟨B, 12, none⟩)]) ∧ Kp w1 w' from placesF_any B w1)); have K2 := hD (kT (kA w (.cells #[(0:Int), (0:Int), (0:Int), (0:Int), (0:Int), (0:Int), (0:Int), (0:Int), (0:Int), (0:Int), (0:Int), (0:Int), (0:Int), .float .f64 0] 39)) (kA (w.alloc (.cells #[(0:Int), (0:Int), (0:Int), (0:Int), (0:Int), (0:Int), (0:Int), (0:Int), (0:Int), (0:Int), (0:Int), (0:Int), (0:Int), .float .f64 0] 39)) (.cells #[(0:Int), (0:Int), (0:Int), (0:Int), (0:Int), (0:Int), (0:Int), (0:Int), (0:Int), (0:Int), (0:Int), (0:Int), (0:Int), .float .f64 0] 39)))
 obtain ⟨HPP, HS2⟩ := hD2 hp HS2; clear V hs hb hp HS hak; go_enter Tryz.func92, Tryz.ntmps92; go_wp2_with (first
  | (go_at_call 87; (with_reducible refine (HPL.out _ _).mono ?_); rintro e w3 ⟨rfl, hk3⟩; have K3 := hD (kT K2.out hk3); have K4 := hD (kT K3.out (kA w3 (.cells #[.pointer none, .pointer (some ⟨(w.heap.size + 1), 0, none⟩), .pointer (some ⟨(w.heap.size + 1), 1, none⟩), .pointer (some ⟨(w.heap.size + 1), 2, none⟩), .pointer (some ⟨(w.heap.size + 1), 3, none⟩), .pointer (some ⟨(w.heap.size + 1), 4, none⟩), .pointer (some ⟨(w.heap.size + 1), 5, none⟩), .pointer (some ⟨(w.heap.size + 1), 6, none⟩), .pointer (some ⟨(w.heap.size + 1), 7, none⟩), .pointer (some ⟨(w.heap.size + 1), 8, none⟩), .pointer (some ⟨(w.heap.size + 1), 9, none⟩), .pointer (some ⟨(w.heap.size + 1), 10, none⟩), .pointer (some ⟨(w.heap.size + 1), 11, none⟩), .pointer (some ⟨(w.heap.size + 1), 12, none⟩)] 153))); have e3 := kZ K4.out HPP.out; clear hk3)
  | (go_at_call 94; (with_reducible refine (HS2.out _ K4.out).mono ?_); rintro e w5 ⟨rfl, hk5⟩; have K5 := hD (kT K4.out hk5); clear hk5)
  | (go_at_call 93; (with_reducible refine (must_fields_f _ _ _).mono ?_); rintro e w' ⟨rfl, rfl⟩))
 exact ⟨rfl, rfl, K5.out⟩
theorem fread1_row (ads : List Addr) (h1' : 1 < ads.length) (h3' : 3 < ads.length) (P : Addr) (a : Option Addr) (cap : Nat) (bs : List Int) (len : Nat) (hlen : bs.length = len) (hb : InB bs) (hlc : len ≤ cap) (w : World) (V : St ads w) (hp : w.cell? P = some (.slice a len cap)) (hs : SlB (.slice a len cap) bs w) (hl : len ≤ 1000) (T : Tab w) (h0 : (splitQ 17 bs 0 0).1 = 0) :
  Calls Tryz.prog 92 #[.pointer (some P)] w fun e w' => (((decG bs).1 = 0 ∧ e = .returned (.agg (decG bs).2.cells)) ∨ (decG bs = (4, noF) ∧ e = .panicked [{ v := snt (ads[3]'h3'), recovered := false }])) ∧ Kp w w' := by
 have hdm : decG bs = finG (putG (List.replicate 13 0) none (splitQ 17 bs 0 0).2) := by
  unfold decG; rw [if_neg (fun q => q h0)]
 obtain ⟨DD, hDD⟩ : ∃ x, decG bs = x := ⟨_, rfl⟩
 rw [hDD] at hdm ⊢; have htg := splitQ_tags 17 bs 0 0 hb; have h17 := splitQ_len 17 bs 0 0; have c3 : w.cell? ⟨3, 0, none⟩ = some (snt (ads[3]'h3')) := V.cell 3 (by decide); have HNB := hD (fun (ad : Option Addr) (cd : Nat) (dt : List Int) (dl : Nat) (hdl : dt.length = dl) (hbd : InB dt) (w1 : World) (hk : Kp w w1) (hsd : SlB (.slice ad dl cd) dt w1) => fnumber_bad ads h3' ad cd dt dl hdl hbd w1 (V.below hk) hsd); have HNO := hD (fun (ad : Option Addr) (cd : Nat) (dt : List Int) (dl : Nat) (hdl : dt.length = dl) (hbd : InB dt) (w1 : World) (hk : Kp w w1) (hsd : SlB (.slice ad dl cd) dt w1) => fnumber_ok ads ad cd dt dl hdl hbd w1 (V.below hk) hsd); have HTF := hD (fun (ad : Option Addr) (cd : Nat) (dt : List Int) (dl : Nat) (hdl : dt.length = dl) (hbd : InB dt) (w1 : World) (hk : Kp w w1) (hsd : SlB (.slice ad dl cd) dt w1) => toFloat_any ads h3' ad cd dt dl hdl hbd w1 (V.below hk) hsd); have HPL := hD (fun (B : Nat) (w1 : World) => (show Calls Tryz.prog 87 #[.pointer (some ⟨B, 0, none⟩)] w1 fun e w' => e = .returned (.agg #[.pointer none, .pointer (some ⟨B, 0, none⟩), .pointer (some ⟨B, 1, none⟩), .pointer (some ⟨B, 2, none⟩), .pointer (some ⟨B, 3, none⟩), .pointer (some ⟨B, 4, none⟩), .pointer (some ⟨B, 5, none⟩), .pointer (some ⟨B, 6, none⟩), .pointer (some ⟨B, 7, none⟩), .pointer (some ⟨B, 8, none⟩), .pointer (some ⟨B, 9, none⟩), .pointer (some ⟨B, 10, none⟩), .pointer (some ⟨B, 11, none⟩), .pointer (some ⟨B, 12, none⟩)]) ∧ Kp w1 w' from placesF_any B w1))
 have HS := hD (fun (w1 : World) (hk1 : Kp w w1) => split_own ads h1' h3' a cap bs len hlen (by omega) hlc hb w1 (V.below hk1) (hs.kp hk1) h0); have HRT := hD (fun (f : FX) (hf : f.wf) (w1 : World) (hk : Kp w w1) => facRight_any ads f hf w1 (V.below hk) (T.kp hk)); obtain ⟨a3, ha3⟩ : ∃ x, ads[3]'h3' = x := ⟨_, rfl⟩
 rw [ha3] at c3 HNB HTF ⊢; obtain ⟨fs, hfs⟩ : ∃ x, (splitQ 17 bs 0 0).2 = x := ⟨_, rfl⟩
 rw [hfs] at hdm htg HS h17; have K2 := hD (kT (kA w (.cells #[(0:Int), (0:Int), (0:Int), (0:Int), (0:Int), (0:Int), (0:Int), (0:Int), (0:Int), (0:Int), (0:Int), (0:Int), (0:Int), .float .f64 0] 39)) (kA (w.alloc (.cells #[(0:Int), (0:Int), (0:Int), (0:Int), (0:Int), (0:Int), (0:Int), (0:Int), (0:Int), (0:Int), (0:Int), (0:Int), (0:Int), .float .f64 0] 39)) (.cells #[(0:Int), (0:Int), (0:Int), (0:Int), (0:Int), (0:Int), (0:Int), (0:Int), (0:Int), (0:Int), (0:Int), (0:Int), (0:Int), .float .f64 0] 39))); have hzR := hD (nX0 w (.cells #[(0:Int), (0:Int), (0:Int), (0:Int), (0:Int), (0:Int), (0:Int), (0:Int), (0:Int), (0:Int), (0:Int), (0:Int), (0:Int), .float .f64 0] 39) (.cells #[(0:Int), (0:Int), (0:Int), (0:Int), (0:Int), (0:Int), (0:Int), (0:Int), (0:Int), (0:Int), (0:Int), (0:Int), (0:Int), .float .f64 0] 39)); have hzB := hD (nX1 w (.cells #[(0:Int), (0:Int), (0:Int), (0:Int), (0:Int), (0:Int), (0:Int), (0:Int), (0:Int), (0:Int), (0:Int), (0:Int), (0:Int), .float .f64 0] 39) (.cells #[(0:Int), (0:Int), (0:Int), (0:Int), (0:Int), (0:Int), (0:Int), (0:Int), (0:Int), (0:Int), (0:Int), (0:Int), (0:Int), .float .f64 0] 39))
 obtain ⟨HPP, C3, HDM, HTG⟩ := hD4 hp c3 hdm htg; have s2 := hD (show ((w.alloc (.cells #[(0:Int), (0:Int), (0:Int), (0:Int), (0:Int), (0:Int), (0:Int), (0:Int), (0:Int), (0:Int), (0:Int), (0:Int), (0:Int), .float .f64 0] 39)).alloc (.cells #[(0:Int), (0:Int), (0:Int), (0:Int), (0:Int), (0:Int), (0:Int), (0:Int), (0:Int), (0:Int), (0:Int), (0:Int), (0:Int), .float .f64 0] 39)).heap.size = w.heap.size + 2 by simp); have hsf := sF; clear V T hs hb hp h0 hdm htg hfs hDD ha3 c3; go_enter Tryz.func92, Tryz.ntmps92; go_wp2_with (first
  | (go_at_call 87; (with_reducible refine (HPL.out _ _).mono ?_); rintro e w3 ⟨rfl, hk3⟩; have K3 := hD (kT K2.out hk3); have K23 := hD hk3; have K4 := hD (kT K3.out (kA w3 (.cells #[.pointer none, .pointer (some ⟨(w.heap.size + 1), 0, none⟩), .pointer (some ⟨(w.heap.size + 1), 1, none⟩), .pointer (some ⟨(w.heap.size + 1), 2, none⟩), .pointer (some ⟨(w.heap.size + 1), 3, none⟩), .pointer (some ⟨(w.heap.size + 1), 4, none⟩), .pointer (some ⟨(w.heap.size + 1), 5, none⟩), .pointer (some ⟨(w.heap.size + 1), 6, none⟩), .pointer (some ⟨(w.heap.size + 1), 7, none⟩), .pointer (some ⟨(w.heap.size + 1), 8, none⟩), .pointer (some ⟨(w.heap.size + 1), 9, none⟩), .pointer (some ⟨(w.heap.size + 1), 10, none⟩), .pointer (some ⟨(w.heap.size + 1), 11, none⟩), .pointer (some ⟨(w.heap.size + 1), 12, none⟩)] 153))); have e3 := kZ K4.out HPP.out; clear hk3)
  | (go_at_call 94; (with_reducible refine (HS.out _ K4.out).mono ?_); rintro e w5 ⟨v, gs, rfl, hgs, ho, hd, hk5⟩; obtain ⟨K5, HO, HD, HGS⟩ := hD4 hk5 ho hd hgs; obtain ⟨av, cv, hv⟩ := (own_slq rfl ho hd).form; rw [List.length_map] at hv; subst hv; clear hk5 ho hd hgs)
  | (go_at_call 93; (with_reducible refine (must_fields_t _ _).mono ?_); rintro e w' ⟨rfl, rfl⟩))
 obtain ⟨L, hAL, DS⟩ : ∃ L, w3.heap.size < L ∧ DfS w w.heap.size (w.heap.size + 1) w3.heap.size L (.slice av gs.length cv) gs (List.replicate 13 0) 0 w5 :=
  ⟨_, by simp, kT K4.out K5.out, rZ K5.out (rZ (kA w3 _) (rZ K23.out hzR.out)), rZ K5.out (rZ (kA w3 _) (rZ K23.out hzB.out)), rZ K5.out (mH w3 _), HO.out, HD.out⟩
 have h23 : w.heap.size + 2 ≤ w3.heap.size := by rw [← s2.out]; exact Below.size K23.out
 clear K2 hzR hzB s2 e3 HPL HS K23 K3 K4 K5 HO HD; obtain ⟨B, hBB⟩ : ∃ x, w.heap.size + 1 = x := ⟨_, rfl⟩
 obtain ⟨A, hAA⟩ : ∃ x, w3.heap.size = x := ⟨_, rfl⟩
 rw [hAA] at hAL DS h23 ⊢; rw [hBB] at DS ⊢; obtain ⟨R, hRR⟩ : ∃ x, w.heap.size = x := ⟨_, rfl⟩
 rw [hRR] at DS hBB h23 ⊢; have hRB : R ≠ B := by omega
 have hAB : A ≠ B := by omega
 have hBL : B < L := by omega
 have hwB : w.heap.size ≤ B := by omega
 have hwR : w.heap.size ≤ R := by omega
 obtain ⟨NR, NA, NL, NB, NQ⟩ := hD5 hRB hAB hBL hwB hwR; obtain ⟨kf, hkf⟩ : ∃ x, gs.length = x := ⟨_, rfl⟩
 have hfl : fs.length = kf := by rw [HGS.out, List.length_map, hkf]
 rw [hfl] at h17; rw [hkf] at DS ⊢; obtain ⟨HFL, HDS, HKF⟩ := hD3 hfl DS hkf; clear hAL h23 hBB hRR hRB hAB hBL hwB hwR hfl DS hkf; go_loopw [4, 14] (fun ev i wr => ∃ (j : Nat) (l : List Int) (ox : Option Nat), j ≤ kf ∧ ev = .bool ox.isSome ∧ i = .int .i64 j ∧ l.length = 13 ∧ ox.getD 0 < 18446744073709551616 ∧ DfS w R B A L (.slice av kf cv) gs l (ox.getD 0) wr ∧ putG (List.replicate 13 0) none fs = putG l ox (fs.drop j)) (fun _ i _ => kf - (intOf i).toNat)
 case atStart => exact ⟨0, _, none, Nat.zero_le _, rfl, rfl, rfl, by decide, HDS.out, rfl⟩
 case round =>
  obtain ⟨j, l, ox, hj, rfl, rfl, hl9, hox, hds, hput⟩ := hrel; obtain ⟨jj, hjj⟩ : ∃ jj : Int, (j : Int) = jj := ⟨_, rfl⟩
  rw [hjj]; obtain ⟨HD2, HL9, HOX⟩ := hD3 hds hl9 hox; have hkl := HFL.out
  by_cases hlt : j < kf
  ·have hjl : j < fs.length := by omega
   have hsq : SlQ (.slice av kf cv) fs wr := by rw [HGS.out]; exact own_slq rfl hds.own hds.od
   obtain ⟨b, off, rfl, ct, ad, cd, cdt, hsd, hbd⟩ := hsq.at j hjl; obtain ⟨t0, t1, t2⟩ := HTG.out fs[j] (List.getElem_mem hjl); have hdr : fs.drop j = fs[j] :: fs.drop (j + 1) := List.drop_eq_getElem_cons hjl; rw [hdr, putG] at hput; obtain ⟨y, hy⟩ : ∃ y, fs[j] = y := ⟨_, rfl⟩
   rw [hy] at ct cdt hsd hbd t0 t1 t2 hput; obtain ⟨tg, dt⟩ := y; dsimp only at ct cdt hsd hbd t0 t1 t2 hput; obtain ⟨dl, hdl⟩ : ∃ x, dt.length = x := ⟨_, rfl⟩
   rw [hdl] at cdt hsd t2 hput; have ej : jj.toNat = j := by omega
   rw [← ej] at ct cdt; have j0 : 0 ≤ jj := by omega
   have hltj : jj < kf := by omega
   have HJ := hD hjj; have KX := hD (kT hds.kW (kA wr (.cells #[tg, .slice ad dl cd] 122))); have x3 := kZ KX.out C3.out
   by_cases q1 : 14 < tg
   ·have DN := hD (show DD = (4, noF) by rw [HDM.out, hput, if_neg (by omega), if_pos (.inl q1)]; rfl); have q1' : ¬ tg ≤ 14 := by omega
    clear hsq hds hsd hbd hput hdr hy hl9 hkl hjl hlt ej hjj hox; go_wp2_with (go_at_call 86; (with_reducible refine (fdemand_f _ _).mono ?_); rintro e w' ⟨rfl, rfl⟩)
    rw [DN.out]; exact ⟨rfl, .inr ⟨rfl, rfl⟩, KX.out⟩
   ·have q1' : tg ≤ 14 := by omega
    have hr := (mH wr (.cells #[tg, .slice ad dl cd] 122))
    have DX := hD (hds.kp (kA wr (.cells #[tg, .slice ad dl cd] 122))); have SX := hD (hsd.kp (kA wr (.cells #[tg, .slice ad dl cd] 122))); have hlw := oZ hds.bB; obtain ⟨HPUT, HBD, HDL⟩ := hD3 hput hbd hdl; clear hsq hsd hput hdr hy hl9 hkl hjl hlt ej hjj hds hbd hdl hox
    by_cases q14 : tg = 14
    ·subst q14; have hpu := HPUT.out; rw [if_pos rfl] at hpu; have HTF2 := HTF.out ad cd dt dl HDL.out HBD.out _ KX.out SX.out
     by_cases qf : (toFl dt).2 = 0
     ·rw [if_pos qf] at hpu; have hfb := (f8_back HBD.out qf).2.2; obtain ⟨xf, hxf⟩ : ∃ z, (toFl dt).1 = z := ⟨_, rfl⟩
      rw [hxf] at hpu hfb; obtain ⟨HPT, HFB⟩ := hD2 hpu hfb; have HTF3 := hD (HTF2.mono (R' := fun e w' => e = .returned (.tuple #[xf, .nilIface]) ∧ Kp (wr.alloc (.cells #[(14:Int), .slice ad dl cd] 122)) w') (by
       rintro e w' ⟨h, hk⟩
       rcases h with ⟨_, rfl⟩ | ⟨h, _⟩
       ·exact ⟨by rw [hxf], hk⟩
       ·rw [qf] at h; cases h))
      clear HTF2 hpu hfb qf hxf; go_wp2_with (go_at_call 86; (with_reducible refine (fdemand_t _ _).mono ?_); rintro e w' ⟨rfl, rfl⟩)
      obtain ⟨wX, hwX⟩ : ∃ x, wr.alloc (.cells #[(14:Int), .slice ad dl cd] 122) = x := ⟨_, rfl⟩
      obtain ⟨X, hXX⟩ : ∃ x, wr.heap.size = x := ⟨_, rfl⟩
      rw [hwX] at DX SX KX hr HTF3 ⊢; rw [hXX] at hr hlw ⊢; have NXB : X ≠ B := by omega
      have xt : wX.cell? ⟨X, 0, none⟩ = some (.int .i64 14) := by unfold World.cell?; dsimp only; rw [hr]; rfl
      have xd : wX.cell? ⟨X, 1, none⟩ = some (.slice ad dl cd) := by unfold World.cell?; dsimp only; rw [hr]; rfl
      clear hwX hXX hr x3 ct cdt; go_wp2_with (first
       | (go_at_call 96; (with_reducible refine HTF3.out.mono ?_); rintro e w6 ⟨rfl, hk6⟩; have K6 := hD hk6; have D6 := hD (DX.out.kp hk6); have cB := numsF_last D6.out.bB HL9.out; have zB := froz14 D6.out.bB 13; clear hk6)
       | (go_at_call 95; (with_reducible refine (must_f64F_t _ _).mono ?_); rintro e w' ⟨rfl, rfl⟩))
      have hjj := HJ.out; go_roundw
      case rel => exact ⟨j + 1, l, some xf, by omega, rfl, by congr 1; omega, HL9.out, HFB.out, D6.out.setX NB.out NR.out NA.out NL.out HL9.out xf, HPT.out⟩
      case measure => simp [intOf]; omega
     ·rw [if_neg qf] at hpu; have DN := hD (show DD = (4, noF) by rw [HDM.out, hpu]; rfl); have HTF3 := hD (HTF2.mono (R' := fun e w' => e = .returned (.tuple #[.float .f64 0, snt a3]) ∧ Kp (wr.alloc (.cells #[(14:Int), .slice ad dl cd] 122)) w') (by
       rintro e w' ⟨h, hk⟩
       rcases h with ⟨h, _⟩ | ⟨_, _, rfl⟩
       ·exact absurd h qf
       ·exact ⟨rfl, hk⟩))
      clear HTF2 hpu qf; go_wp2_with (go_at_call 86; (with_reducible refine (fdemand_t _ _).mono ?_); rintro e w' ⟨rfl, rfl⟩)
      obtain ⟨wX, hwX⟩ : ∃ x, wr.alloc (.cells #[(14:Int), .slice ad dl cd] 122) = x := ⟨_, rfl⟩
      obtain ⟨X, hXX⟩ : ∃ x, wr.heap.size = x := ⟨_, rfl⟩
      rw [hwX] at KX hr HTF3 ⊢; rw [hXX] at hr ⊢; have xt : wX.cell? ⟨X, 0, none⟩ = some (.int .i64 14) := by unfold World.cell?; dsimp only; rw [hr]; rfl
      have xd : wX.cell? ⟨X, 1, none⟩ = some (.slice ad dl cd) := by unfold World.cell?; dsimp only; rw [hr]; rfl
      clear hwX hXX hr x3 ct cdt; go_wp2_with (first
       | (go_at_call 96; (with_reducible refine HTF3.out.mono ?_); rintro e w6 ⟨rfl, hk6⟩; have K6 := hD hk6; clear hk6)
       | (go_at_call 95; (with_reducible refine (must_f64F_f _ _ _).mono ?_); rintro e w' ⟨rfl, rfl⟩))
      rw [DN.out]; exact ⟨rfl, .inr ⟨rfl, rfl⟩, kT KX.out K6.out⟩
    ·have hb14 : (tg == 14) = false := by simpa using q14
     obtain ⟨tk, htk⟩ : ∃ x : Nat, (x : Int) + 1 = tg := ⟨(tg - 1).toNat, by omega⟩
     have hkn : tk < 13 := by omega
     have htn1 : tk + 1 = tg.toNat := by omega
     have htt : (tg - 1).toNat = tk := by omega
     have tg0 : 0 ≤ tg := by omega
     have tgl : tg < 14 := by omega
     have hwp : IntKind.i64.wrap tg = tg := IntWalk.i64_in tg (by omega); have hpu := HPUT.out; rw [if_neg q14] at hpu; have HPU := hD hpu; clear hpu; go_wp2_with (go_at_call 86; (with_reducible refine (fdemand_t _ _).mono ?_); rintro e w' ⟨rfl, rfl⟩)
     obtain ⟨wX, hwX⟩ : ∃ x, wr.alloc (.cells #[tg, .slice ad dl cd] 122) = x := ⟨_, rfl⟩
     obtain ⟨X, hXX⟩ : ∃ x, wr.heap.size = x := ⟨_, rfl⟩
     rw [hwX] at DX SX KX hr ⊢; rw [hXX] at hr hlw ⊢; have NXB : X ≠ B := by omega
     have NAB := NA.out; have xt : wX.cell? ⟨X, 0, none⟩ = some (.int .i64 tg) := by unfold World.cell?; dsimp only; rw [hr]; rfl
     have xd : wX.cell? ⟨X, 1, none⟩ = some (.slice ad dl cd) := by unfold World.cell?; dsimp only; rw [hr]; rfl
     clear hwX hXX hr x3 ct cdt; go_wp2; have xa := plF_cell DX.out.bA tk hkn; rw [htn1] at xa; have DXD := hD (DX.out.kp (Kp.refl wX).drew); have SXD := hD (SX.out.kp (Kp.refl wX).drew); have hL9 := HL9.out
     by_cases q2 : (toNum dt).2 ≠ 0 ∨ (toNum dt).1 = 0
     ·have HNUM := hD (HNB.out ad cd dt dl HDL.out HBD.out wX.drew (kT KX.out (Kp.refl wX).drew) SXD.out q2); have DN := hD (show DD = (4, noF) by
       rw [HDM.out, HPU.out, if_pos (by
        by_cases q3 : (toNum dt).2 = 0
        ·right; left; rw [← HDL.out]; exact num_nilF dt HBD.out q3 (q2.resolve_left (fun g => g q3))
        ·exact .inr (.inr q3))]
       rfl)
      clear q2; refine rgW (fun w' => Kb B wX w') ?_ fun hH => ?_
      ·exact kbf_drew (Kb.refl B wX)
      refine tkP 0 ?_
      go_simp; refine tkP 1 ?_ (y := by intro w hZ; have q := kbf_cell hZ NXB xt; go_simp; try rfl)
      go_simp; refine tkP 2 ?_
      go_simp; refine tkP 3 ?_ (y := by intro w hZ; have q := kbf_cell hZ NAB xa; go_simp; try rfl)
      go_simp; refine tkP 4 ?_
      go_simp; refine tkP 5 ?_ (y := by intro w hZ; have q := kbf_cell hZ NXB xd; go_simp; try rfl)
      go_simp; refine rdW 6 fun K hK => ?_
      go_simp; go_wp2_with (go_at_call 97; (with_reducible refine HNUM.out.mono ?_); rintro e w6 ⟨rfl, hk6⟩)
      rw [DN.out]; exact ⟨rfl, .inr ⟨rfl, rfl⟩, kT KX.out (kT (Kp.refl wX).drew hk6)⟩
     ·obtain ⟨tn, htn⟩ : ∃ x, (toNum dt).1 = x := ⟨_, rfl⟩
      have h20 : (toNum dt).2 = 0 := Classical.byContradiction fun q => q2 (.inl q)
      have tn0 : tn ≠ 0 := fun q => q2 (.inr (htn.trans q))
      have hdt : toNum dt = (tn, 0) := Prod.ext htn h20; have HNUM := hD (HNO.out ad cd dt dl HDL.out HBD.out wX.drew (kT KX.out (Kp.refl wX).drew) SXD.out tn hdt tn0); have dl0 : dl ≠ 0 := fun q => by
       have : dt = [] := List.length_eq_zero_iff.1 (by rw [HDL.out]; exact q); subst this; exact tn0 (htn.symm.trans rfl)
      have HPT : Hid (putG (List.replicate 13 0) none fs = putG (l.set tk tn) ox (fs.drop (j + 1))) := hD (by
       rw [HPU.out, if_neg (by rw [hdt]; simp only []; omega), htn, htt])
      clear q2 htn h20 hdt HPU htt htn1; refine rgW (fun w' => Kb B wX w') ?_ fun hH => ?_
      ·exact kbf_drew (Kb.refl B wX)
      refine tkP 0 ?_
      go_simp; refine tkP 1 ?_ (y := by intro w hZ; have q := kbf_cell hZ NXB xt; go_simp; try rfl)
      go_simp; refine tkP 2 ?_
      go_simp; refine tkP 3 ?_ (y := by intro w hZ; have q := kbf_cell hZ NAB xa; go_simp; try rfl)
      go_simp; refine tkP 4 ?_
      go_simp; refine tkP 5 ?_ (y := by intro w hZ; have q := kbf_cell hZ NXB xd; go_simp; try rfl)
      go_simp; refine rdW 6 fun K hK => ?_
      go_simp; go_wp2_with (go_at_call 97; (with_reducible refine HNUM.out.mono ?_); rintro e w6 ⟨rfl, hk6⟩; have K6 := hD hk6; have D6 := hD (DXD.out.kp hk6); have cB := numsF_cell D6.out.bB tk (by rw [hL9]; exact hkn); have zB := froz14 D6.out.bB tk; clear hk6)
      refine hK.out _ _ (Kb.kp (kbf_drew (Kb.refl B wX)) K6.out) fun hH => ?_
      clear hK K; refine tkP 7 ?_
      go_simp; refine rdW 8 fun K hK => ?_
      go_simp; refine hK.out _ _ (kbf_set (Kb.kp (kbf_drew (Kb.refl B wX)) K6.out) _ _) fun hH => ?_
      clear hK K; refine dnW ?_ _
      go_wp2; have hjj := HJ.out; go_roundw
      case rel => exact ⟨j + 1, l.set tk tn, ox, by omega, rfl, by congr 1; omega, by rw [List.length_set]; exact HL9.out, HOX.out, D6.out.set NB.out NR.out NA.out NL.out tk (by rw [HL9.out]; exact hkn) tn, HPT.out⟩
      case measure => simp [intOf]; omega
  ·obtain rfl : j = kf := by omega
   rw [← hkl, List.drop_length, putG] at hput; have HDE : DD = finG (some (l, ox)) := by rw [HDM.out, hput]
   unfold finG at HDE; dsimp only at HDE; obtain ⟨x, hx⟩ : ∃ z, ox.getD 0 = z := ⟨_, rfl⟩
   obtain ⟨ev, hev⟩ : ∃ z, ox.isSome = z := ⟨_, rfl⟩
   rw [hx] at hds hox; rw [hx, hev] at HDE; rw [hev]; obtain ⟨k, n, s, r, u, p, q, o, d, a, t, hh, c, rfl⟩ := thirteen hl9; have hol : ofF [k, n, s, r, u, p, q, o, d, a, t, hh, c] x = ⟨k, n, s, r, u, p, q, o, d, a, t, hh, c, x⟩ := rfl; rw [hol] at HDE; dsimp only at HDE; have HDS := hD hds; obtain ⟨g0, g1, g2, g3, g4, g5, g6, g7, g8, g9, g10, g11, g12, g13⟩ := cZ (show wr.heap[B]? = some (.cells #[k, n, s, r, u, p, q, o, d, a, t, hh, c, x] 39 (0, 0)) from hds.bB); have HRR := fun w1 (hk : Kp wr w1) => HRT.out ⟨k, n, s, r, u, p, q, o, d, a, t, hh, c, x⟩ hox w1 (kT hds.kW hk)
   have x3 := kZ hds.kW C3.out; have hex : ¬ jj < j := by omega
   clear hput hkl hlt hjj hol hds hl9 hx hev hox HD2
   by_cases hk1 : k = 1
   ·subst hk1
    cases ev with
    | true =>
     cases hrm : rightF ⟨1, n, s, r, u, p, q, o, d, a, t, hh, c, x⟩ with
     | true =>
      rw [hrm] at HDE HRR; rw [if_pos ⟨by simp, rfl⟩] at HDE; dsimp only [FX.cells] at HRR; have HRR := hD HRR; clear hrm; go_wp2; refine rgW (fun w' => Kp wr w') ?_ fun hH => ?_
      ·exact (Kp.refl wr).drew
      refine tkP 0 ?_
      go_simp; refine tkP 1 ?_
      go_simp; refine tkP 2 ?_ (y := by intro w hZ; obtain ⟨q0, q1, q2, q3, q4, q5, q6, q7, q8, q9, q10, q11, q12, q13⟩ := kZ14 hZ g0 g1 g2 g3 g4 g5 g6 g7 g8 g9 g10 g11 g12 g13; go_simp; try rfl)
      go_simp; refine tkP 3 ?_
      go_simp; refine tkP 4 ?_
      go_simp; refine tkP 5 ?_
      go_simp; refine tkP 6 ?_ (y := by intro w hZ; obtain ⟨q0, q1, q2, q3, q4, q5, q6, q7, q8, q9, q10, q11, q12, q13⟩ := kZ14 hZ g0 g1 g2 g3 g4 g5 g6 g7 g8 g9 g10 g11 g12 g13; go_simp; try rfl)
      go_simp; refine tkP 9 ?_ (y := by intro w hZ; have q := kZ hZ x3; go_simp; try rfl)
      go_simp; refine rdW 7 fun K hK => ?_
      go_simp; go_wp2_with (go_at_call 27; (with_reducible refine (HRR.out _ hH).mono ?_); rintro e w7 ⟨rfl, hk7⟩; have K7 := hD (kT hH hk7); clear hk7)
      refine hK.out _ _ (K7.out) fun hH => ?_
      clear hK K; refine tkP 8 ?_
      go_simp; refine rdW 10 fun K hK => ?_
      go_simp; go_wp2_with (go_at_call 86; (with_reducible refine (fdemand_t _ _).mono ?_); rintro e w' ⟨rfl, rfl⟩)
      refine hK.out _ _ (hH) fun hH => ?_
      clear hK K; refine dnW ?_ _
      have D7 := hD (HDS.out.kp K7.out); obtain ⟨d0, d1, d2, d3, d4, d5, d6, d7, d8, d9, d10, d11, d12, d13⟩ := cZ D7.out.bR; obtain ⟨e0, e1, e2, e3, e4, e5, e6, e7, e8, e9, e10, e11, e12, e13⟩ := cZ (show w7.heap[B]? = some (.cells #[(1:Int), n, s, r, u, p, q, o, d, a, t, hh, c, x] 39 (0, 0)) from D7.out.bB); have fz := froz14 D7.out.bR; go_wp2; have hz9 := set14 (.int .i64 1) (.int .i64 n) (.int .i64 s) (.int .i64 r) (.int .i64 u) (.int .i64 p) (.int .i64 q) (.int .i64 o) (.int .i64 d) (.int .i64 a) (.int .i64 t) (.int .i64 hh) (.int .i64 c) (.float .f64 x) D7.out.bR; refine bodyPost_ret (results_cell_row (p := 1) rfl _ _ R 39 _ (0, 0) _ rfl hz9 Tryz.underlying39 rfl (by kernel_rfl)) rfl ?_
      rw [HDE]; exact ⟨.inl ⟨rfl, rfl⟩, set14_kp (kT HDS.out.kW K7.out) NQ.out _ _ _ _ _ _ _ _ _ _ _ _ _ _⟩
     | false =>
      rw [hrm] at HDE HRR; rw [if_neg (fun q => absurd q.2 (by decide))] at HDE; dsimp only [FX.cells] at HRR; have HRR := hD HRR; clear hrm; go_wp2; refine rgW (fun w' => Kp wr w') ?_ fun hH => ?_
      ·exact (Kp.refl wr).drew
      refine tkP 0 ?_
      go_simp; refine tkP 1 ?_
      go_simp; refine tkP 2 ?_ (y := by intro w hZ; obtain ⟨q0, q1, q2, q3, q4, q5, q6, q7, q8, q9, q10, q11, q12, q13⟩ := kZ14 hZ g0 g1 g2 g3 g4 g5 g6 g7 g8 g9 g10 g11 g12 g13; go_simp; try rfl)
      go_simp; refine tkP 3 ?_
      go_simp; refine tkP 4 ?_
      go_simp; refine tkP 5 ?_
      go_simp; refine tkP 6 ?_ (y := by intro w hZ; obtain ⟨q0, q1, q2, q3, q4, q5, q6, q7, q8, q9, q10, q11, q12, q13⟩ := kZ14 hZ g0 g1 g2 g3 g4 g5 g6 g7 g8 g9 g10 g11 g12 g13; go_simp; try rfl)
      go_simp; refine tkP 9 ?_ (y := by intro w hZ; have q := kZ hZ x3; go_simp; try rfl)
      go_simp; refine rdW 7 fun K hK => ?_
      go_simp; go_wp2_with (go_at_call 27; (with_reducible refine (HRR.out _ hH).mono ?_); rintro e w7 ⟨rfl, hk7⟩; have K7 := hD (kT hH hk7); clear hk7)
      refine hK.out _ _ (K7.out) fun hH => ?_
      clear hK K; refine tkP 8 ?_
      go_simp; refine rdW 10 fun K hK => ?_
      go_simp; go_wp2_with (go_at_call 86; (with_reducible refine (fdemand_f _ _).mono ?_); rintro e w' ⟨rfl, rfl⟩)
      rw [HDE]; exact ⟨rfl, .inr ⟨rfl, rfl⟩, kT HDS.out.kW K7.out⟩
    | false =>
     rw [if_neg (fun q => absurd q.1 (by simp))] at HDE; have HRR := hD HRR; go_wp2; refine rgW (fun w' => Kp wr w') ?_ fun hH => ?_
     ·exact (Kp.refl wr).drew
     refine tkP 0 ?_
     go_simp; refine tkP 1 ?_
     go_simp; refine tkP 2 ?_ (y := by intro w hZ; obtain ⟨q0, q1, q2, q3, q4, q5, q6, q7, q8, q9, q10, q11, q12, q13⟩ := kZ14 hZ g0 g1 g2 g3 g4 g5 g6 g7 g8 g9 g10 g11 g12 g13; go_simp; try rfl)
     go_simp; refine tkP 3 ?_
     go_simp; refine tkP 4 ?_
     go_simp; refine tkP 5 ?_
     go_simp; refine skW 6 ?_
     go_simp; refine skW 7 ?_
     go_simp; refine tkP 8 ?_
     go_simp; refine tkP 9 ?_ (y := by intro w hZ; have q := kZ hZ x3; go_simp; try rfl)
     go_simp; refine rdW 10 fun K hK => ?_
     go_simp; go_wp2_with (go_at_call 86; (with_reducible refine (fdemand_f _ _).mono ?_); rintro e w' ⟨rfl, rfl⟩)
     rw [HDE]; exact ⟨rfl, .inr ⟨rfl, rfl⟩, kT HDS.out.kW hH⟩
   ·have hkb : (k == 1) = false := by simpa using hk1
    cases ev with
    | false =>
     cases hrm : rightF ⟨k, n, s, r, u, p, q, o, d, a, t, hh, c, x⟩ with
     | true =>
      rw [hrm] at HDE HRR; rw [if_pos ⟨(dF hk1).symm, rfl⟩] at HDE; dsimp only [FX.cells] at HRR; have HRR := hD HRR; clear hrm; go_wp2; refine rgW (fun w' => Kp wr w') ?_ fun hH => ?_
      ·exact (Kp.refl wr).drew
      refine tkP 0 ?_
      go_simp; refine tkP 1 ?_
      go_simp; refine tkP 2 ?_ (y := by intro w hZ; obtain ⟨q0, q1, q2, q3, q4, q5, q6, q7, q8, q9, q10, q11, q12, q13⟩ := kZ14 hZ g0 g1 g2 g3 g4 g5 g6 g7 g8 g9 g10 g11 g12 g13; go_simp; try rfl)
      go_simp; refine tkP 3 ?_
      go_simp; refine tkP 4 ?_
      go_simp; refine tkP 5 ?_
      go_simp; refine tkP 6 ?_ (y := by intro w hZ; obtain ⟨q0, q1, q2, q3, q4, q5, q6, q7, q8, q9, q10, q11, q12, q13⟩ := kZ14 hZ g0 g1 g2 g3 g4 g5 g6 g7 g8 g9 g10 g11 g12 g13; go_simp; try rfl)
      go_simp; refine tkP 9 ?_ (y := by intro w hZ; have q := kZ hZ x3; go_simp; try rfl)
      go_simp; refine rdW 7 fun K hK => ?_
      go_simp; go_wp2_with (go_at_call 27; (with_reducible refine (HRR.out _ hH).mono ?_); rintro e w7 ⟨rfl, hk7⟩; have K7 := hD (kT hH hk7); clear hk7)
      refine hK.out _ _ (K7.out) fun hH => ?_
      clear hK K; refine tkP 8 ?_
      go_simp; refine rdW 10 fun K hK => ?_
      go_simp; go_wp2_with (go_at_call 86; (with_reducible refine (fdemand_t _ _).mono ?_); rintro e w' ⟨rfl, rfl⟩)
      refine hK.out _ _ (hH) fun hH => ?_
      clear hK K; refine dnW ?_ _
      have D7 := hD (HDS.out.kp K7.out); obtain ⟨d0, d1, d2, d3, d4, d5, d6, d7, d8, d9, d10, d11, d12, d13⟩ := cZ D7.out.bR; obtain ⟨e0, e1, e2, e3, e4, e5, e6, e7, e8, e9, e10, e11, e12, e13⟩ := cZ (show w7.heap[B]? = some (.cells #[k, n, s, r, u, p, q, o, d, a, t, hh, c, x] 39 (0, 0)) from D7.out.bB); have fz := froz14 D7.out.bR; go_wp2; have hz9 := set14 (.int .i64 k) (.int .i64 n) (.int .i64 s) (.int .i64 r) (.int .i64 u) (.int .i64 p) (.int .i64 q) (.int .i64 o) (.int .i64 d) (.int .i64 a) (.int .i64 t) (.int .i64 hh) (.int .i64 c) (.float .f64 x) D7.out.bR; refine bodyPost_ret (results_cell_row (p := 1) rfl _ _ R 39 _ (0, 0) _ rfl hz9 Tryz.underlying39 rfl (by kernel_rfl)) rfl ?_
      rw [HDE]; exact ⟨.inl ⟨rfl, rfl⟩, set14_kp (kT HDS.out.kW K7.out) NQ.out _ _ _ _ _ _ _ _ _ _ _ _ _ _⟩
     | false =>
      rw [hrm] at HDE HRR; rw [if_neg (fun q => absurd q.2 (by decide))] at HDE; dsimp only [FX.cells] at HRR; have HRR := hD HRR; clear hrm; go_wp2; refine rgW (fun w' => Kp wr w') ?_ fun hH => ?_
      ·exact (Kp.refl wr).drew
      refine tkP 0 ?_
      go_simp; refine tkP 1 ?_
      go_simp; refine tkP 2 ?_ (y := by intro w hZ; obtain ⟨q0, q1, q2, q3, q4, q5, q6, q7, q8, q9, q10, q11, q12, q13⟩ := kZ14 hZ g0 g1 g2 g3 g4 g5 g6 g7 g8 g9 g10 g11 g12 g13; go_simp; try rfl)
      go_simp; refine tkP 3 ?_
      go_simp; refine tkP 4 ?_
      go_simp; refine tkP 5 ?_
      go_simp; refine tkP 6 ?_ (y := by intro w hZ; obtain ⟨q0, q1, q2, q3, q4, q5, q6, q7, q8, q9, q10, q11, q12, q13⟩ := kZ14 hZ g0 g1 g2 g3 g4 g5 g6 g7 g8 g9 g10 g11 g12 g13; go_simp; try rfl)
      go_simp; refine tkP 9 ?_ (y := by intro w hZ; have q := kZ hZ x3; go_simp; try rfl)
      go_simp; refine rdW 7 fun K hK => ?_
      go_simp; go_wp2_with (go_at_call 27; (with_reducible refine (HRR.out _ hH).mono ?_); rintro e w7 ⟨rfl, hk7⟩; have K7 := hD (kT hH hk7); clear hk7)
      refine hK.out _ _ (K7.out) fun hH => ?_
      clear hK K; refine tkP 8 ?_
      go_simp; refine rdW 10 fun K hK => ?_
      go_simp; go_wp2_with (go_at_call 86; (with_reducible refine (fdemand_f _ _).mono ?_); rintro e w' ⟨rfl, rfl⟩)
      rw [HDE]; exact ⟨rfl, .inr ⟨rfl, rfl⟩, kT HDS.out.kW K7.out⟩
    | true =>
     rw [if_neg (fun q => hk1 (of_decide_eq_true q.1.symm))] at HDE; have HRR := hD HRR; go_wp2; refine rgW (fun w' => Kp wr w') ?_ fun hH => ?_
     ·exact (Kp.refl wr).drew
     refine tkP 0 ?_
     go_simp; refine tkP 1 ?_
     go_simp; refine tkP 2 ?_ (y := by intro w hZ; obtain ⟨q0, q1, q2, q3, q4, q5, q6, q7, q8, q9, q10, q11, q12, q13⟩ := kZ14 hZ g0 g1 g2 g3 g4 g5 g6 g7 g8 g9 g10 g11 g12 g13; go_simp; try rfl)
     go_simp; refine tkP 3 ?_
     go_simp; refine tkP 4 ?_
     go_simp; refine tkP 5 ?_
     go_simp; refine skW 6 ?_
     go_simp; refine skW 7 ?_
     go_simp; refine tkP 8 ?_
     go_simp; refine tkP 9 ?_ (y := by intro w hZ; have q := kZ hZ x3; go_simp; try rfl)
     go_simp; refine rdW 10 fun K hK => ?_
     go_simp; go_wp2_with (go_at_call 86; (with_reducible refine (fdemand_f _ _).mono ?_); rintro e w' ⟨rfl, rfl⟩)
     rw [HDE]; exact ⟨rfl, .inr ⟨rfl, rfl⟩, kT HDS.out.kW hH⟩
end Go.Proofs.YtpemeenfhkgmpaaGreatDoor
