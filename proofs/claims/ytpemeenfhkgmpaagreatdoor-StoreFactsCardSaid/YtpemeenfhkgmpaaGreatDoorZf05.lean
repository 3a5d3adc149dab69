/- Parts of this proof (own work). -/
import Derived.Test.YtpemeenfhkgmpaaGreatDoorZf04
import Derived.Test.YtpemeenfhkgmpaaGreatDoorLen
import Derived.Lib.ItoaNum
set_option maxRecDepth 100000
set_option maxHeartbeats 40000000
namespace Go.Proofs.YtpemeenfhkgmpaaGreatDoor
open Go.RowKit Go.Extern.Stop Go.Stop Go.Extern
theorem kp_of_mid {w w1 w2 w' : World} (h1 : Below w.heap.size w w1) (h2 : Kp w1 w2) (h3 : Below w.heap.size w2 w') : Kp w w' :=
 Below.trans (kT h1 h2) h3
theorem try_bytes_own (f : FuncId) (caps : Array Value) (bs : List Int) (w : World) (hf : ∀ w, (callFunc f caps).run Tryz.prog w = .ok (.enter f caps) w)
  (H : ∀ w1, Kp w w1 → Calls Tryz.prog f caps w1 fun e w2 => ∃ v, e = .returned v ∧ w2.ownsRow w1.heap.size 5 1 v bs.length (bs.map (Value.int .u8)) ∧ Kp w1 w2) :
  Calls Tryz.prog 84 #[.func (.func f) #[] caps] w fun e w' => ∃ v, e = .returned (.tuple #[v, .nilIface]) ∧ w'.ownsRow w.heap.size 5 1 v bs.length (bs.map (Value.int .u8)) ∧ Kp w w' := by
 refine (try_bytes_ret f caps w (fun v w1 w2 => w2.ownsRow w1.heap.size 5 1 v bs.length (bs.map (Value.int .u8)) ∧ Kp w1 w2) hf fun w1 hb _ => ?_).mono ?_
 ·refine (H w1 hb).mono ?_
  rintro e w2 ⟨v, rfl, ho, hk⟩; exact ⟨v, rfl, past_of hk, ho, hk⟩
 ·rintro e w' ⟨v, rfl, w1, w2, hb, hs, ⟨ho, hk⟩, hb2, ha⟩; exact ⟨v, rfl, own_mono (own_aside ho ha (by omega)) (Below.size hb), kp_of_mid hb hk hb2⟩
theorem try_bytes_err (ads : List Addr) (k : Nat) (hk : k < ads.length) (f : FuncId) (caps : Array Value) (w : World) (V : St ads w) (hf : ∀ w, (callFunc f caps).run Tryz.prog w = .ok (.enter f caps) w)
  (H : ∀ w1, Kp w w1 → Calls Tryz.prog f caps w1 fun e w2 => e = .panicked [{ v := snt ads[k], recovered := false }] ∧ Kp w1 w2) :
  Calls Tryz.prog 84 #[.func (.func f) #[] caps] w fun e w' => e = .returned (.tuple #[.slice none 0 0, snt ads[k]]) ∧ Kp w w' := by
 refine (try_bytes_panic ads k hk f caps w (fun w1 w2 => Kp w1 w2) hf fun w1 hb _ => ?_).mono ?_
 ·refine (H w1 hb).mono ?_
  rintro e w2 ⟨rfl, hk2⟩; exact ⟨rfl, V.below (kT hb hk2), past_of hk2, hk2⟩
 ·rintro e w' ⟨rfl, w1, w2, hb, _, hk2, hb2⟩; exact ⟨rfl, kp_of_mid hb hk2 hb2⟩
theorem try_int_err (ads : List Addr) (k : Nat) (hk : k < ads.length) (f : FuncId) (caps : Array Value) (w : World) (V : St ads w) (hf : ∀ w, (callFunc f caps).run Tryz.prog w = .ok (.enter f caps) w)
  (H : ∀ w1, Kp w w1 → Calls Tryz.prog f caps w1 fun e w2 => e = .panicked [{ v := snt ads[k], recovered := false }] ∧ Kp w1 w2) :
  Calls Tryz.prog 154 #[.func (.func f) #[] caps] w fun e w' => e = .returned (.tuple #[.int .i64 0, snt ads[k]]) ∧ Kp w w' := by
 refine (try_int_panic ads k hk f caps w (fun w1 w2 => Kp w1 w2) hf fun w1 hb _ => ?_).mono ?_
 ·refine (H w1 hb).mono ?_
  rintro e w2 ⟨rfl, hk2⟩; exact ⟨rfl, V.below (kT hb hk2), past_of hk2, hk2⟩
 ·rintro e w' ⟨rfl, w1, w2, hb, _, hk2, hb2⟩; exact ⟨rfl, kp_of_mid hb hk2 hb2⟩
theorem try_int_val (f : FuncId) (caps : Array Value) (x : Int) (w : World) (hf : ∀ w, (callFunc f caps).run Tryz.prog w = .ok (.enter f caps) w)
  (H : ∀ w1, Kp w w1 → Calls Tryz.prog f caps w1 fun e w2 => e = .returned (.int .i64 x) ∧ Kp w1 w2) :
  Calls Tryz.prog 154 #[.func (.func f) #[] caps] w fun e w' => e = .returned (.tuple #[x, .nilIface]) ∧ Kp w w' := by
 refine (try_int_ret f caps w (fun u w1 w2 => u = .int .i64 x ∧ Kp w1 w2) hf fun w1 hb _ => ?_).mono ?_
 ·refine (H w1 hb).mono ?_
  rintro e w2 ⟨rfl, hk⟩; exact ⟨_, rfl, past_of hk, rfl, hk⟩
 ·rintro e w' ⟨u, rfl, w1, w2, hb, _, ⟨rfl, hk⟩, hb2, _⟩; exact ⟨rfl, kp_of_mid hb hk hb2⟩
theorem try_f64_err (ads : List Addr) (k : Nat) (hk : k < ads.length) (f : FuncId) (caps : Array Value) (w : World) (V : St ads w) (hf : ∀ w, (callFunc f caps).run Tryz.prog w = .ok (.enter f caps) w)
  (H : ∀ w1, Kp w w1 → Calls Tryz.prog f caps w1 fun e w2 => e = .panicked [{ v := snt ads[k], recovered := false }] ∧ Kp w1 w2) :
  Calls Tryz.prog 137 #[.func (.func f) #[] caps] w fun e w' => e = .returned (.tuple #[.float .f64 0, snt ads[k]]) ∧ Kp w w' := by
 refine (try_f64_panic ads k hk f caps w (fun w1 w2 => Kp w1 w2) hf fun w1 hb _ => ?_).mono ?_
 ·refine (H w1 hb).mono ?_
  rintro e w2 ⟨rfl, hk2⟩; exact ⟨rfl, V.below (kT hb hk2), past_of hk2, hk2⟩
 ·rintro e w' ⟨rfl, w1, w2, hb, _, hk2, hb2⟩; exact ⟨rfl, kp_of_mid hb hk2 hb2⟩
theorem try_f64_val (f : FuncId) (caps : Array Value) (x : Nat) (w : World) (hf : ∀ w, (callFunc f caps).run Tryz.prog w = .ok (.enter f caps) w)
  (H : ∀ w1, Kp w w1 → Calls Tryz.prog f caps w1 fun e w2 => e = .returned (.float .f64 x) ∧ Kp w1 w2) :
  Calls Tryz.prog 137 #[.func (.func f) #[] caps] w fun e w' => e = .returned (.tuple #[x, .nilIface]) ∧ Kp w w' := by
 refine (try_f64_ret f caps w (fun u w1 w2 => u = .float .f64 x ∧ Kp w1 w2) hf fun w1 hb _ => ?_).mono ?_
 ·refine (H w1 hb).mono ?_
  rintro e w2 ⟨rfl, hk⟩; exact ⟨_, rfl, past_of hk, rfl, hk⟩
 ·rintro e w' ⟨u, rfl, w1, w2, hb, _, ⟨rfl, hk⟩, hb2, _⟩; exact ⟨rfl, kp_of_mid hb hk hb2⟩
open Go.RowKit Go.ChangeShapes Go.WideShapes
theorem box_grow {w w' : World} {base n size : Nat} {e : TypeId} {v : Value} {xs : List Value} {o : Obj} {b : Nat} (hown : w.ownsRow base e size v n xs) (hgr : w.grownBy w' v.ownBlock) (hb : w.heap[b]? = some o) (hlt : b < base) : w'.heap[b]? = some o := by
 obtain ⟨-, hr⟩ := hown
 rcases hr with ⟨rfl, -⟩ | ⟨g, cap, cur, rfl, hg, hh, -⟩
 ·rw [hgr.block b (oZ hb) (by simp [Value.ownBlock])]; exact hb
 ·rw [hgr.block b (oZ hb) (by intro q; simp [Value.ownBlock] at q; omega)]; exact hb
theorem dig2 (n : Nat) (h : n ≤ 200) : digB n 2 = [0, (n : Int)] := by
 unfold digB fb
 simp [List.range_succ]
 omega
theorem cell_two0 {w : World} {b : Nat} {x y : Value} {t : TypeId} {f : Nat × Nat} (h : w.heap[b]? = some (.cells #[x, y] t f)) : w.cell? ⟨b, 0, none⟩ = some x := by
 unfold World.cell?; dsimp only; rw [h]; rfl
theorem cell_two1 {w : World} {b : Nat} {x y : Value} {t : TypeId} {f : Nat × Nat} (h : w.heap[b]? = some (.cells #[x, y] t f)) : w.cell? ⟨b, 1, none⟩ = some y := by
 unfold World.cell?; dsimp only; rw [h]; rfl
theorem own_nil (w : World) (base : Nat) (e : TypeId) : w.ownsRow base e 1 (.slice none 0 0) 0 [] := ⟨by simp, .inl ⟨rfl, rfl⟩⟩
theorem join1_any (ads : List Addr) (h3' : 3 < ads.length) (p : Addr) (a : Option Addr) (cap : Nat) (fs : List (Int × List Int)) (len : Nat) (hlen : fs.length = len) (hl : len ≤ 100000) (w : World) (V : St ads w) (hp : w.cell? p = some (.slice a len cap)) (hs : SlQ (.slice a len cap) fs w) :
  Calls Tryz.prog 129 #[.pointer (some p)] w fun e w' => ((runQ 0 0 fs = true ∧ ∃ v, e = .returned v ∧ w'.ownsRow w.heap.size 5 1 v (joinB fs).length ((joinB fs).map (Value.int .u8))) ∨ (runQ 0 0 fs = false ∧ e = .panicked [{ v := snt (ads[3]'h3'), recovered := false }])) ∧ Kp w w' := by
 have hel : ∀ wr, Kp w wr → ∀ j (hj : j < fs.length), ∃ b off, a = some ⟨b, off, none⟩ ∧ wr.cell? ⟨b, off + j * 2, none⟩ = some (.int .i64 fs[j].1) ∧ ∃ a' c, wr.cell? ⟨b, off + j * 2 + 1, none⟩ = some (.slice a' fs[j].2.length c) ∧ SlB (.slice a' fs[j].2.length c) fs[j].2 wr ∧ InB fs[j].2 :=
  fun wr hk j hj => (hs.kp hk).at j hj
 obtain ⟨i0, hi, hz0, hz1, hz2⟩ := info_parts info_byte; have HI := hD (And.intro hz1 hz2); obtain ⟨HI2, HI3, HEL, HL, HV⟩ := hD5 hi hz0 hel hlen V; obtain ⟨R, hR⟩ : ∃ R, runQ 0 0 fs = R := ⟨_, rfl⟩
 rw [hR]; have HR := hD hR; obtain ⟨ea, hea⟩ : ∃ ea, ads[3]'h3' = ea := ⟨_, rfl⟩
 rw [hea]; have HEA := hD hea; clear hel hs hlen hz1 hz2 hi hz0 V hR hea; go_enter Tryz.func129, Tryz.ntmps129; go_wp2_with (go_at_call 130; (with_reducible refine (newRow_any _).mono ?_); rintro e w1 ⟨rfl, hp1, hq1, hsz1, hk1⟩; have hpp := kZ hk1 hp; obtain ⟨HP1, HQ1, HS1, HK1⟩ := hD4 hp1 hq1 hsz1 hk1; clear hp1 hq1 hsz1 hk1)
 go_loopw [2, 9] (fun v i wr => ∃ (j : Nat) (last : Int), j ≤ len ∧ j ≤ 16 ∧ i = .int .i64 j ∧ Kp w wr ∧ w1.heap.size ≤ wr.heap.size ∧ wr.heap[w.heap.size]? = some (boxI j) ∧ wr.heap[w.heap.size + 1]? = some (boxI last) ∧ (joinB (fs.take j)).length ≤ 203 * j ∧ 0 ≤ last ∧ R = runQ j last (fs.drop j) ∧ wr.ownsRow w1.heap.size 5 1 v (joinB (fs.take j)).length ((joinB (fs.take j)).map (Value.int .u8))) (fun _ i _ => len - (intOf i).toNat)
 case atStart => exact ⟨0, 0, Nat.zero_le _, by omega, rfl, HK1.out, Nat.le_refl _, HP1.out, HQ1.out, by simp [joinB], Int.le_refl _, by rw [← HR.out]; rfl, own_nil _ _ _⟩
 case round =>
  obtain ⟨j, last, hj, hj16, rfl, hk, hw1, hbp, hbq, hjb, hlast, hRj, hown⟩ := hrel; obtain ⟨HK, HOW, HBP, HBQ, HW1, HJB⟩ := hD6 hk hown hbp hbq hw1 hjb; have hln := HL.out; clear hk hown hbp hbq hw1 hjb; obtain ⟨jj, hjj⟩ : ∃ jj : Int, (j : Int) = jj := ⟨_, rfl⟩
  rw [hjj]
  by_cases hlt : j < len
  ·have hjl : j < fs.length := by omega
   obtain ⟨b, off, rfl, c0, a1, k1, c1, h1, h2⟩ := HEL.out w (Kp.refl _) j hjl; have c0 := kZ HK.out c0; have c1 := kZ HK.out c1; rw [List.drop_eq_getElem_cons hjl, runQ] at hRj; have hjn := joinB_next hjl; obtain ⟨tj, htj⟩ : ∃ tj, fs[j].1 = tj := ⟨_, rfl⟩
   obtain ⟨bs, hbs⟩ : ∃ bs, fs[j].2 = bs := ⟨_, rfl⟩
   have hfb : fieldB fs[j] = [tj, 0, (bs.length : Int)] ++ bs := by simp only [fieldB, htj, hbs]
   rw [htj] at c0 hRj; rw [hbs] at c1 h1 hRj; rw [hfb] at hjn; obtain ⟨n1, hn1⟩ : ∃ n1, bs.length = n1 := ⟨_, rfl⟩
   rw [hn1] at c1 h1 hRj hjn; obtain ⟨jb, hjbe⟩ : ∃ jb, joinB (fs.take j) = jb := ⟨_, rfl⟩
   rw [hjbe] at HOW hjn HJB; obtain ⟨m1, hm1⟩ : ∃ m1 : Int, (n1 : Int) = m1 := ⟨_, rfl⟩
   have ej : jj.toNat = j := by omega
   rw [← ej] at c0 c1; have hj0 : 0 ≤ jj := by omega
   have hltj : jj < len := by omega
   obtain ⟨HJ, HJN, HN1, HB1⟩ := hD4 hjj hjn hn1 h1; have KF := hD (kA wr (.cells #[tj, .slice a1 n1 k1] 122)); have BF : Hid ((wr.alloc (.cells #[tj, .slice a1 n1 k1] 122)).heap[wr.heap.size]? = some (.cells #[tj, .slice a1 n1 k1] 122 (0, 0))) := hD (mH wr _)
   by_cases hm : mayQ j last tj n1
   ·rw [dT hm, Bool.true_and] at hRj; have het := enter_t ads w.heap.size (w.heap.size + 1) j jj last tj n1 m1 HJ.out hm1 (wr.alloc (.cells #[tj, .slice a1 n1 k1] 122)) (HV.out.below (kT HK.out KF.out)) (rZ KF.out (by rw [← HJ.out]; exact HBP.out)) (rZ KF.out HBQ.out) (by omega) hm; have hent : Calls Tryz.prog 151 #[.int .i64 tj, .int .i64 m1, .pointer (some ⟨w.heap.size, 0, none⟩), .pointer (some ⟨w.heap.size + 1, 0, none⟩)] (wr.alloc (.cells #[tj, .slice a1 n1 k1] 122)) fun e w' => e = .returned (.tuple #[]) ∧ Kp w w' ∧ w1.heap.size ≤ w'.heap.size ∧ w'.heap[w.heap.size]? = some (boxI (jj + 1)) ∧ w'.heap[w.heap.size + 1]? = some (boxI tj) ∧ w'.heap[wr.heap.size]? = some (.cells #[tj, .slice a1 n1 k1] 122 (0, 0)) ∧ w'.ownsRow w1.heap.size 5 1 u2 jb.length (jb.map (Value.int .u8)) := by
     refine het.mono ?_
     rintro e w' ⟨rfl, rfl⟩; have hs1 := HS1.out; have hww := HW1.out; have r1 := one_setCell (u := .int .i64 (jj + 1)) (rZ KF.out (show wr.heap[w.heap.size]? = some (boxI jj) by rw [← HJ.out]; exact HBP.out)); refine ⟨rfl, ((kT HK.out KF.out).setCell (show w.heap.size ≤ w.heap.size by omega) _).setCell (show w.heap.size ≤ w.heap.size + 1 by omega) _, ?_, ?_, ?_, ?_, ?_⟩
     ·simp; omega
     ·rw [bS _ _ _ _ (by simp)]; exact r1
     ·exact one_setCell (by rw [bS _ _ _ _ (by simp)]; exact rZ KF.out HBQ.out)
     ·rw [bS _ _ _ _ (by simp; omega), bS _ _ _ _ (by simp; omega)]; exact BF.out
     ·exact ownsRow_setCell_below (ownsRow_setCell_below (oK HOW.out KF.out) (show w.heap.size < w1.heap.size by omega) _) (show w.heap.size + 1 < w1.heap.size by omega) _
    have HET := hD hent; obtain ⟨g1, g2, g3, g4⟩ := hm; have HRJ := hD hRj; have q4 : 0 ≤ tj ∧ tj ≤ 255 := by omega
    have q3 : 0 ≤ m1 ∧ m1 ≤ 200 := by omega
    have HDG := hD (fun w => digits_any n1 2 (by omega) (by omega) m1 2 hm1 rfl w); have HD2 := hD (dig2 n1 g4); clear het hent hRj hjj ej htj hn1 hbs hfb h1 h2 hln hlt hjn hjbe; go_wp2_with (first | (go_at_call 151; (with_reducible refine HET.out.mono ?_); rintro e wE ⟨rfl, hkE, hwE, hpE, hqE, hfE, hoE⟩; obtain ⟨KE, WE, PE, QE, FE⟩ := hD5 hkE hwE hpE hqE hfE; have cf0 := cell_two0 hfE; have cf1 := cell_two1 hfE; have KA := hD (kA wE (.cells #[.int .u8 tj] 5)); have WB := hD (oK hoE KA.out); have NB := hD (box_cell wE (.int .u8 tj) 5); have KB := hD (kT hkE KA.out); clear hkE hwE hpE hqE hfE hoE) | (at_builtin; refine wpList_append_own _ rfl (.tmp 20) (.tmp 24) 55 rfl w1.heap.size 5 i0 (.int .u8 0) 1 1 Tryz.underlying55 HI2.out HI3.out HI.out.1 HI.out.2 rfl (by decide) _ _ _ rfl WB.out ⟨wE.heap.size, 0, none⟩ 1 1 [.int .u8 tj] rfl ?c1 ?c2 ?c3 ?c4 ?c5 ?c6 ?_))
    case c1 => rfl
    case c2 =>
     intro i u hi
     match i, hi with
     | 0, hi => simp at hi; subst hi; rw [add_plain]; exact NB.out
    case c3 => intro u hu; simp at hu; subst hu; rfl
    case c4 => have := HJB.out; unfold maxLen; omega
    case c5 => have := HJB.out; omega
    case c6 => have := Below.size KA.out; have := WE.out; omega
    rintro v5 w5 hown5 hgr5 -; have hbase : w.heap.size ≤ w1.heap.size := by have := HS1.out; omega
    have kp5 : Kp w w5 := row_kp (own_mono WB.out hbase) hgr5 KB.out; have b5p := box_grow WB.out hgr5 (rZ KA.out PE.out) (by have := HS1.out; omega); have b5q := box_grow WB.out hgr5 (rZ KA.out QE.out) (by have := HS1.out; omega); have b5f := row_grow WB.out hgr5 _ _ _ (rZ KA.out FE.out) (by decide); have s5 : w1.heap.size ≤ w5.heap.size := by have := hgr5.size; have := Below.size KA.out; have := WE.out; omega
    obtain ⟨OW5, KP5, B5P, B5Q, B5F, S5⟩ := hD6 hown5 kp5 b5p b5q b5f s5; have cg1 := cell_two1 b5f; clear hown5 hgr5 kp5 b5p b5q b5f s5 cf0 cf1; go_wp2_with (first | (go_at_call 127; (with_reducible refine (HDG.out _).mono ?_); rintro e w6 ⟨rfl, ho6, hk6⟩; have K6 := hD hk6; have hs6 := own_slb ho6; rw [HD2.out] at hs6; have S6 := hD hs6; have OW6 := hD (oK OW5.out hk6); have cg2 := kZ hk6 cg1; clear ho6 hk6 hs6) | (at_builtin; refine wpList_append_slb _ rfl (.tmp 26) (.tmp 31) rfl w1.heap.size _ _ _ rfl OW6.out (some ⟨w5.heap.size, 0, none⟩) 2 2 [0, (n1 : Int)] rfl S6.out ?d1 ?d2 ?_))
    case d1 => have := HJB.out; omega
    case d2 => have := Below.size K6.out; have := S5.out; omega
    rintro v7 w7 hown7 hgr7 -; have hbase : w.heap.size ≤ w1.heap.size := by have := HS1.out; omega
    have kp7 : Kp w w7 := row_kp (own_mono OW6.out hbase) hgr7 (kT KP5.out K6.out); have b7p := box_grow OW6.out hgr7 (rZ K6.out B5P.out) (by have := HS1.out; omega); have b7q := box_grow OW6.out hgr7 (rZ K6.out B5Q.out) (by have := HS1.out; omega); have b7f := row_grow OW6.out hgr7 _ _ _ (rZ K6.out B5F.out) (by decide); have s7 : w1.heap.size ≤ w7.heap.size := by have := hgr7.size; have := Below.size K6.out; have := S5.out; omega
    obtain ⟨OW7, KP7, B7P, B7Q, S7⟩ := hD5 hown7 kp7 b7p b7q s7; have ch1 := cell_two1 b7f; have HB7 := hD (HB1.out.kp kp7); clear hown7 hgr7 kp7 b7p b7q b7f s7 cg1 cg2; go_wp2_with (at_builtin; refine wpList_append_slb _ rfl (.tmp 33) (.tmp 35) rfl w1.heap.size _ _ _ rfl OW7.out a1 n1 k1 bs rfl HB7.out ?e1 ?e2 ?_)
    case e1 => have := HJB.out; omega
    case e2 => exact S7.out
    rintro v8 w8 hown8 hgr8 -; have hbase : w.heap.size ≤ w1.heap.size := by have := HS1.out; omega
    have kp8 : Kp w w8 := row_kp (own_mono OW7.out hbase) hgr8 KP7.out; have b8p := box_grow OW7.out hgr8 B7P.out (by have := HS1.out; omega); have b8q := box_grow OW7.out hgr8 B7Q.out (by have := HS1.out; omega); have s8 : w1.heap.size ≤ w8.heap.size := by have := hgr8.size; have := S7.out; omega
    have hjl8 : (joinB (fs.take (j + 1))).length = jb.length + 1 + 2 + n1 := by rw [HJN.out]; simp [HN1.out]; omega
    have own8 : w8.ownsRow w1.heap.size 5 1 v8 (joinB (fs.take (j + 1))).length ((joinB (fs.take (j + 1))).map (Value.int .u8)) := by
     rw [hjl8, HJN.out]; have e2 : (jb ++ ([tj, 0, (n1 : Int)] ++ bs)).map (Value.int .u8) = jb.map (Value.int .u8) ++ .int .u8 tj :: .int .u8 0 :: .int .u8 m1 :: bs.map (Value.int .u8) := by simp [hm1]
     rw [e2]; exact hown8
    have hlen8 : (joinB (fs.take (j + 1))).length ≤ 203 * (j + 1) := by have := HJB.out; omega
    obtain ⟨O8, K8, B8P, B8Q, S8, L8⟩ := hD6 own8 kp8 b8p b8q s8 hlen8; clear own8 kp8 b8p b8q s8 hjl8 hlen8 hown8 hgr8 ch1; go_wp2; have hjj := HJ.out; go_roundw
    case rel =>
     have e1 : ((j + 1 : Nat) : Int) = jj + 1 := by omega
     exact ⟨j + 1, tj, by omega, by omega, by rw [e1], K8.out, S8.out, by rw [e1]; exact B8P.out, B8Q.out, L8.out, q4.1, HRJ.out, O8.out⟩
    case measure => simp [intOf]; omega
   ·rw [dF hm, Bool.false_and] at hRj; have hef := enter_f ads h3' w.heap.size (w.heap.size + 1) j jj last tj n1 m1 HJ.out hm1 (wr.alloc (.cells #[tj, .slice a1 n1 k1] 122)) (HV.out.below (kT HK.out KF.out)) (rZ KF.out (by rw [← HJ.out]; exact HBP.out)) (rZ KF.out HBQ.out) hm; rw [HEA.out] at hef; obtain ⟨HEF, HRJ⟩ := hD2 hef hRj; clear hef hRj hjj ej htj hn1 hbs hfb h1 h2 hln hlt hjn hjbe hm; go_wp2_with (go_at_call 151; (with_reducible refine HEF.out.mono ?_); rintro e wE ⟨rfl, rfl⟩)
    exact ⟨rfl, .inr ⟨HRJ.out, rfl⟩, kT HK.out KF.out⟩
  ·obtain rfl : j = len := by omega
   have hex : ¬ jj < j := by omega
   have hful : fs.take j = fs := by rw [List.take_of_length_le]; omega
   have hdr : fs.drop j = [] := by rw [List.drop_of_length_le]; omega
   have ho := HOW.out; rw [hful] at ho; rw [hdr, runQ] at hRj; obtain ⟨HO, HRJ⟩ := hD2 ho hRj; clear hjj hful ho hdr hRj hln hlt; go_wp2; go_ret; have hbase : w.heap.size ≤ w1.heap.size := by have := HS1.out; omega
   exact ⟨.inl ⟨HRJ.out, _, rfl, own_mono HO.out hbase⟩, HK.out⟩
theorem join_ok (ads : List Addr) (a : Option Addr) (cap : Nat) (fs : List (Int × List Int)) (len : Nat) (hlen : fs.length = len) (hl : len ≤ 100000) (w : World) (V : St ads w) (hs : SlQ (.slice a len cap) fs w) (hr : runQ 0 0 fs = true) :
  Calls Tryz.prog 90 #[.slice a len cap] w fun e w' => ∃ v, e = .returned (.tuple #[v, .nilIface]) ∧ w'.ownsRow w.heap.size 5 1 v (joinB fs).length ((joinB fs).map (Value.int .u8)) ∧ Kp w w' := by
 have hmf : ∀ (fn : Fn) (first cap : Array Value) (w : World), (Instr.makeFunc fn first cap).run Tryz.prog w = .ok (.func fn first cap) w := fun _ _ _ _ => rfl
 have h3 : 3 < ads.length := by rw [V.len]; decide
 have kb := kA w (.cells #[.slice a len cap] 118); have hc := box_cell w (.slice a len cap) 118; have HT := hD (try_bytes_own 129 #[.pointer (some ⟨w.heap.size, 0, none⟩)] (joinB fs) (w.alloc (.cells #[.slice a len cap] 118)) (by intro w; simp [go_sem]) fun w1 h1 => by
  refine (join1_any ads h3 ⟨w.heap.size, 0, none⟩ a cap fs len hlen hl w1 (V.below (kT kb h1)) (kZ h1 hc) (hs.kp (kT kb h1))).mono ?_
  rintro e w2 ⟨⟨_, v, rfl, ho⟩ | ⟨hf, _⟩, hk⟩
  ·exact ⟨v, rfl, ho, hk⟩
  ·rw [hr] at hf; cases hf)
 have KB := hD kb; clear kb hc V hs hl hr; go_enter Tryz.func90, Tryz.ntmps90; go_wp2_with (go_at_call 84; (with_reducible refine HT.out.mono ?_); rintro e w' ⟨v, rfl, ho, hk⟩; obtain ⟨HK, HO⟩ := hD2 hk ho; clear hk ho)
 go_ret2
 exact ⟨_, rfl, own_mono HO.out (Below.size KB.out), kT KB.out HK.out⟩
def nb (x : Nat) : Nat := (Lib.bitLen x + 7) / 8
theorem nb_next (x : Nat) (h0 : x ≠ 0) (h : x < 18446744073709551616) : nb x = nb (x / 256) + 1 := by
 unfold nb
 rcases Nat.lt_or_ge x 256 with g | g
 ·have e : x / 256 = 0 := by omega
  have h1 := Lib.bitLenAux_bounds 64 x h h0; have h2 := Lib.bitLen_le8 ⟨x, g⟩; have e0 : Lib.bitLen 0 = 0 := by decide
  rw [e, e0]; unfold Lib.bitLen at h2 ⊢; simp only at h2
  omega
 ·rw [Lib.bitLen_shift8 x g h]; omega
theorem nb_le (x : Nat) (h : x < 18446744073709551616) : nb x ≤ 8 := by
 unfold nb; have := Lib.bitLen_le x 64 (by decide) h; omega
theorem digB_next (x m : Nat) : digB x (m + 1) = digB (x / 256) m ++ [((x % 256 : Nat) : Int)] := by
 unfold digB; rw [List.range_succ, List.map_append]
 congr 1
 ·refine List.map_congr_left fun p hp => ?_
  have hp' := List.mem_range.1 hp; have e : m + 1 - 1 - p = (m - 1 - p) + 1 := by omega
  rw [e]; unfold fb; rw [Nat.pow_succ, Nat.mul_comm, Nat.div_div_eq_div_mul]
 ·simp [fb]
theorem beF_dig (k : Nat) : ∀ x, x < 256 ^ k → x < 18446744073709551616 → beF k x = digB x (nb x) := by
 induction k with
 | zero =>
  intro x h _; obtain rfl : x = 0 := by simpa using h
  rfl
 | succ k ih =>
  intro x h h64
  by_cases h0 : x = 0
  ·subst h0
   rfl
  ·rw [beF, if_neg h0, nb_next x h0 h64, digB_next, ih (x / 256) (by rw [Nat.pow_succ] at h; omega) (by omega)]
theorem len64_any (x : Nat) (h : x < 18446744073709551616) (xx : Int) (hxx : (x : Int) = xx) (w : World) :
  Calls Tryz.prog 128 #[.int .u64 xx] w fun e w' => e = .returned (.int .i64 (Lib.bitLen x)) ∧ w = w' := by
 have t := Any.bits_Len64 Tryz.lays129 xx w (by omega) (by omega); have e : xx.toNat = x := by omega
 rw [e] at t; refine t.mono ?_
 rintro e w' ⟨h1, h2⟩; exact ⟨h1, h2.symm⟩
theorem number1_any (ads : List Addr) (p : Addr) (n : Nat) (hn : n < 9223372036854775808) (nn : Int) (hnn : (n : Int) = nn) (w : World) (V : St ads w) (hp : w.cell? p = some (.int .i64 nn)) :
  Calls Tryz.prog 125 #[.pointer (some p)] w fun e w' => ∃ v, e = .returned v ∧ w'.ownsRow w.heap.size 5 1 v (beF 8 n).length ((beF 8 n).map (Value.int .u8)) ∧ Kp w w' := by
 have hl : 0 < ads.length := by have := V.len; simp [gs14] at this; omega
 have c0 : w.cell? ⟨0, 0, none⟩ = some (snt ads[0]) := V.cell 0 (by decide); have n64 : n < 18446744073709551616 := by omega
 have hd : ∀ w, Calls Tryz.prog 127 #[.int .u64 nn, .int .i64 (nb n)] w _ := fun w => digits_any n (nb n) n64 (nb_le n n64) nn _ hnn rfl w
 have hlen : ∀ w, Calls Tryz.prog 128 #[.int .u64 nn] w _ := fun w => len64_any n n64 nn hnn w
 have hb : (Lib.bitLen n) ≤ 64 := Lib.bitLen_le n 64 (by decide) n64; obtain ⟨L, hL⟩ : ∃ L : Int, (Lib.bitLen n : Int) = L := ⟨_, rfl⟩
 have hq : (L + 7).tdiv 8 = (nb n : Int) := by
  rw [Int.tdiv_eq_ediv_of_nonneg (by omega)]; unfold nb; omega
 have hlb : 0 ≤ L ∧ L ≤ 64 := by omega
 simp only [hL] at hlen
 have hbe := beF_dig 8 n n64 n64; have hdl : (digB n (nb n)).length = nb n := by simp [digB]
 rw [hbe, hdl]; obtain ⟨nbn, hnb⟩ : ∃ k : Int, (nb n : Int) = k := ⟨_, rfl⟩
 simp only [hnb] at hd hq
 have n0 : 0 ≤ nn ∧ nn < 9223372036854775808 := by omega
 have hnb8 : 0 ≤ nbn ∧ nbn ≤ 8 := by have := nb_le n n64; omega
 obtain ⟨HD, HLN⟩ := hD2 hd hlen; clear hd hlen hbe hdl hb hL hnn hnb V n64 hn; go_enter Tryz.func125, Tryz.ntmps125; go_wp2_with (first | (go_at_call 126; (with_reducible refine (demand_t _ _).mono ?_); rintro e w' ⟨rfl, rfl⟩) | (go_at_call 128; (with_reducible refine (HLN.out _).mono ?_); rintro e w' ⟨rfl, rfl⟩) | (go_at_call 127; (with_reducible refine (HD.out _).mono ?_); rintro e w' ⟨rfl, ho, hk⟩; obtain ⟨HO, HK⟩ := hD2 ho hk; clear ho hk))
 go_ret; exact ⟨_, rfl, HO.out, HK.out⟩
theorem number_any (ads : List Addr) (n : Nat) (hn : n < 9223372036854775808) (nn : Int) (hnn : (n : Int) = nn) (w : World) (V : St ads w) :
  Calls Tryz.prog 88 #[.int .i64 nn] w fun e w' => ∃ v, e = .returned (.tuple #[v, .nilIface]) ∧ w'.ownsRow w.heap.size 5 1 v (beF 8 n).length ((beF 8 n).map (Value.int .u8)) ∧ Kp w w' := by
 have hmf : ∀ (fn : Fn) (first cap : Array Value) (w : World), (Instr.makeFunc fn first cap).run Tryz.prog w = .ok (.func fn first cap) w := fun _ _ _ _ => rfl
 have kb := kA w (.cells #[nn] 3); have hc := box_cell w (.int .i64 nn) 3; have HT := hD (try_bytes_own 125 #[.pointer (some ⟨w.heap.size, 0, none⟩)] (beF 8 n) (w.alloc (.cells #[nn] 3)) (by intro w; simp [go_sem]) fun w1 h1 => number1_any ads _ n hn nn hnn w1 (V.below (kT kb h1)) (kZ h1 hc)); have KB := hD kb; clear kb hc V hn; go_enter Tryz.func88, Tryz.ntmps88; go_wp2_with (go_at_call 84; (with_reducible refine HT.out.mono ?_); rintro e w' ⟨v, rfl, ho, hk⟩; obtain ⟨HK, HO⟩ := hD2 hk ho; clear hk ho)
 go_ret2
 exact ⟨_, rfl, own_mono HO.out (Below.size KB.out), kT KB.out HK.out⟩
theorem slb_take {b off n c m : Nat} {bs : List Int} {w : World} (h : SlB (.slice (some ⟨b, off, none⟩) n c) bs w) (hm : m ≤ n) : SlB (.slice (some ⟨b, off, none⟩) m c) (bs.take m) w := by
 have hl := h.len
 rcases Nat.eq_zero_or_pos m with rfl | hp
 ·exact .inl ⟨by simp, _, c, rfl, fun h => by cases h⟩
 ·rcases h with ⟨rfl, _⟩ | ⟨b', off', c', h0, hv, hc⟩
  ·simp at hl; omega
  ·injection hv with h1 h2 h3
   injection h1 with h1
   injection h1 with h4 h5
   subst h4 h5; have hml : (bs.take m).length = m := by simp; omega
   refine .inr ⟨b, off, c, by omega, by rw [hml], fun j hj => ?_⟩
   rw [hc j (by omega)]
   simp [List.getD, show j < m by omega]
theorem slb_drop {b off n c m : Nat} {bs : List Int} {w : World} (h : SlB (.slice (some ⟨b, off, none⟩) n c) bs w) (hm : m ≤ n) (hnc : n ≤ c) : SlB (.slice (some ⟨b, if c = m then off else off + m, none⟩) (n - m) (c - m)) (bs.drop m) w := by
 have hl := h.len
 rcases Nat.eq_zero_or_pos (n - m) with hz | hp
 ·rw [hz]; exact .inl ⟨by rw [List.drop_of_length_le]; omega, _, _, rfl, fun h => by cases h⟩
 ·have hcm : ¬ c = m := by omega
  rw [if_neg hcm]
  rcases h with ⟨rfl, _⟩ | ⟨b', off', c', h0, hv, hc⟩
  ·simp at hl; omega
  ·injection hv with h1 h2 h3
   injection h1 with h1
   injection h1 with h4 h5
   subst h4 h5; have hml : (bs.drop m).length = n - m := by simp; omega
   refine .inr ⟨b, off + m, c - m, by omega, by rw [hml], fun j hj => ?_⟩
   rw [Nat.add_assoc, hc (m + j) (by omega)]
   simp [List.getD, List.getElem?_drop]
theorem byte_elem : Tryz.prog.elem 55 = 5 := by simp [Program.elem, Tryz.underlying55]
theorem byte_sl : Tryz.prog.underlying 55 = some (.slice (Tryz.prog.elem 55)) := by simp [Program.elem, Tryz.underlying55]
theorem run_head {b off n c m : Nat} {mm : Int} (hmm : (m : Int) = mm) (hm : m ≤ n) (hnc : n ≤ c) (w : World) :
  (Instr.slice 55 (.slice (some ⟨b, off, none⟩) n c) none (some (.int .i64 mm)) none).run Tryz.prog w = .ok (.slice (some ⟨b, off, none⟩) m c) w := by
 rw [run_slice_h w 55 _ _ _ byte_sl .i64 _ (by omega) (by omega), byte_elem, byte_sz]; have e : mm.toNat = m := by omega
 simp [Result.andThen, sliced, Addr.add, e]
theorem run_tail {b off n c m : Nat} {mm : Int} (hmm : (m : Int) = mm) (hm : m ≤ n) (w : World) :
  (Instr.slice 55 (.slice (some ⟨b, off, none⟩) n c) (some (.int .i64 mm)) none none).run Tryz.prog w = .ok (.slice (some ⟨b, if c = m then off else off + m, none⟩) (n - m) (c - m)) w := by
 rw [run_slice_l w 55 _ _ _ byte_sl .i64 _ (by omega) (by omega), byte_elem, byte_sz]; have e : mm.toNat = m := by omega
 simp [Result.andThen, sliced, Addr.add, e]
 split <;> simp
abbrev boxS (v : Value) : Obj := .cells #[v] 55 (0, 0)
theorem take_ok (ads : List Addr) (p b off n c m : Nat) (mm : Int) (hmm : (m : Int) = mm) (hm : m ≤ n) (hnc : n ≤ c) (w : World) (V : St ads w) (hp : w.heap[p]? = some (boxS (.slice (some ⟨b, off, none⟩) n c))) :
  Calls Tryz.prog 134 #[.int .i64 mm, .pointer (some ⟨p, 0, none⟩)] w fun e w' => e = .returned (.slice (some ⟨b, off, none⟩) m c) ∧ w' = w.setCell ⟨p, 0, none⟩ (.slice (some ⟨b, if c = m then off else off + m, none⟩) (n - m) (c - m)) := by
 have h14 : ads.length = 14 := V.len; obtain ⟨e1, c1⟩ : ∃ e1, w.cell? ⟨1, 0, none⟩ = some (snt e1) := ⟨ads[1]'(by omega), V.cell 1 (by decide)⟩
 have cp := cell_of_one hp; have zp := free_of_one hp; have s1 := fun w => run_head (b := b) (off := off) hmm hm hnc w
 have s2 := fun w => run_tail (b := b) (off := off) (c := c) hmm hm w
 obtain ⟨o2, ho2⟩ : ∃ o2, (if c = m then off else off + m) = o2 := ⟨_, rfl⟩
 obtain ⟨n2, hn2⟩ : ∃ n2, n - m = n2 := ⟨_, rfl⟩
 obtain ⟨c2, hc2⟩ : ∃ c2, c - m = c2 := ⟨_, rfl⟩
 rw [ho2, hn2, hc2] at s2 ⊢; have hle : mm ≤ n := by omega
 clear V h14 ho2 hn2 hc2 hmm hm hnc; go_enter Tryz.func134, Tryz.ntmps134; go_wp2_with (go_at_call 126; (with_reducible refine (demand_t _ _).mono ?_); rintro e w' ⟨rfl, rfl⟩)
 go_ret; exact ⟨rfl, rfl⟩
theorem take_short (ads : List Addr) (h1 : 1 < ads.length) (p : Nat) (a : Option Addr) (n c m : Nat) (mm : Int) (hmm : (m : Int) = mm) (hm : n < m) (w : World) (V : St ads w) (hp : w.heap[p]? = some (boxS (.slice a n c))) :
  Calls Tryz.prog 134 #[.int .i64 mm, .pointer (some ⟨p, 0, none⟩)] w fun e w' => e = .panicked [{ v := snt (ads[1]'h1), recovered := false }] ∧ w = w' := by
 have c1 : w.cell? ⟨1, 0, none⟩ = some (snt (ads[1]'h1)) := V.cell 1 (by decide); obtain ⟨e1, he1⟩ : ∃ a, ads[1]'h1 = a := ⟨_, rfl⟩
 rw [he1] at c1 ⊢; have cp := cell_of_one hp; have hle : decide (mm ≤ n) = false := dF (by omega); clear V he1 hmm hm; go_enter Tryz.func134, Tryz.ntmps134; go_wp2_with (go_at_call 126; (with_reducible refine (demand_f _ _).mono ?_); rintro e w' ⟨rfl, rfl⟩)
 exact ⟨rfl, rfl, rfl⟩
def Kb (p : Nat) (w w' : World) : Prop := w.heap.size ≤ w'.heap.size ∧ ∀ b, b ≠ p → b < w.heap.size → w'.heap[b]? = w.heap[b]?
theorem Kb.refl (p : Nat) (w : World) : Kb p w w := ⟨Nat.le_refl _, fun _ _ _ => rfl⟩
theorem Kb.kp {p : Nat} {w w1 w2 : World} (h : Kb p w w1) (hk : Kp w1 w2) : Kb p w w2 := ⟨Nat.le_trans h.1 (Below.size hk), fun b hb hl => by rw [Below.block hk b (Nat.lt_of_lt_of_le hl h.1)]; exact h.2 b hb hl⟩
theorem Kb.set {p : Nat} {w w1 : World} (h : Kb p w w1) (v : Value) : Kb p w (w1.setCell ⟨p, 0, none⟩ v) := ⟨by simp; exact h.1, fun b hb hl => by rw [bS _ _ _ _ hb]; exact h.2 b hb hl⟩
theorem Kb.setNew {p q : Nat} {w w1 : World} (h : Kb p w w1) (hq : w.heap.size ≤ q) (v : Value) : Kb p w (w1.setCell ⟨q, 0, none⟩ v) := ⟨by simp; exact h.1, fun b hb hl => by rw [bS _ _ _ _ (by simp; omega)]; exact h.2 b hb hl⟩
theorem Kb.grow {p : Nat} {w w1 w2 : World} {base n size : Nat} {e : TypeId} {v : Value} {xs : List Value} (h : Kb p w w1) (hown : w1.ownsRow base e size v n xs) (hb : w.heap.size ≤ base) (hgr : w1.grownBy w2 v.ownBlock) : Kb p w w2 :=
 ⟨Nat.le_trans h.1 hgr.size, fun b hne hl => by
  have hl1 : b < w1.heap.size := Nat.lt_of_lt_of_le hl h.1; have hr : w1.heap[b]? = some w1.heap[b] := by simp [hl1]
  rw [box_grow hown hgr hr (by omega), ← hr]; exact h.2 b hne hl⟩
theorem Kb.past {p B : Nat} {w w' : World} (h : Kb p w w') (hp : p < B) : Past B w w' := ⟨h.1, fun b hb hl => h.2 b (by omega) hl⟩
theorem drewN_kp (w : World) (n : Nat) : Kp w (w.drewN n) := by
 induction n with
 | zero => exact Kp.refl _
 | succ n ih => exact ih.drew
end Go.Proofs.YtpemeenfhkgmpaaGreatDoor
