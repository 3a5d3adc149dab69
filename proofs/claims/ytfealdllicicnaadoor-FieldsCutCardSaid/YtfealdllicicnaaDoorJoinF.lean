/-
  fields.Join (own work).
-/
import Derived.Test.YtfealdllicicnaaDoorRow
import Derived.Test.YtfealdllicicnaaDoorDig
import Derived.Test.YtfealdllicicnaaDoorJoinQ
import Derived.Test.YtfealdllicicnaaDoorSplR
import Derived.Test.YtfealdllicicnaaDoorTryG
namespace Go.Proofs.YtfealdllicicnaaDoor
open Go.RowKit Go.ChangeShapes Go.WideShapes

/-- An append of the call's own row turns no block below its base. -/
theorem box_grow {w w' : World} {base n size : Nat} {e : TypeId} {v : Value} {xs : List Value} {o : Obj} {b : Nat} (hown : w.ownsRow base e size v n xs) (hgr : w.grownBy w' v.ownBlock) (hb : w.heap[b]? = some o) (hlt : b < base) : w'.heap[b]? = some o := by
  obtain ⟨-, hr⟩ := hown
  rcases hr with ⟨rfl, -⟩ | ⟨g, cap, cur, rfl, hg, hh, -⟩
  · rw [hgr.block b (old_of_row hb) (by simp [Value.ownBlock])]; exact hb
  · rw [hgr.block b (old_of_row hb) (by intro q; simp [Value.ownBlock] at q; omega)]; exact hb

theorem dig2 (n : Nat) (h : n ≤ 200) : digB n 2 = [0, (n : Int)] := by
  unfold digB fb
  simp [List.range_succ]
  omega

theorem cell_two0 {w : World} {b : Nat} {x y : Value} {t : TypeId} {f : Nat × Nat} (h : w.heap[b]? = some (.cells #[x, y] t f)) : w.cell? ⟨b, 0, none⟩ = some x := by
  unfold World.cell?; dsimp only; rw [h]; rfl
theorem cell_two1 {w : World} {b : Nat} {x y : Value} {t : TypeId} {f : Nat × Nat} (h : w.heap[b]? = some (.cells #[x, y] t f)) : w.cell? ⟨b, 1, none⟩ = some y := by
  unfold World.cell?; dsimp only; rw [h]; rfl

theorem own_nil (w : World) (base : Nat) (e : TypeId) : w.ownsRow base e 1 (.slice none 0 0) 0 [] := ⟨by simp, .inl ⟨rfl, rfl⟩⟩

set_option maxRecDepth 20000 in
set_option maxHeartbeats 2000000 in
theorem join1_any (ads : List Addr) (h3' : 3 < ads.length) (p : Addr) (a : Option Addr) (cap : Nat) (fs : List (Int × List Int)) (len : Nat) (hlen : fs.length = len) (hl : len ≤ 100000) (w : World) (V : St ads w) (hp : w.cell? p = some (.slice a len cap)) (hs : SlQ (.slice a len cap) fs w) :
    Calls Tryd.prog 36 #[.pointer (some p)] w fun e w' => ((runQ 0 0 fs = true ∧ ∃ v, e = .returned v ∧ w'.ownsRow w.heap.size 5 1 v (joinB fs).length ((joinB fs).map (Value.int .u8))) ∨ (runQ 0 0 fs = false ∧ e = .panicked [{ v := snt (ads[3]'h3'), recovered := false }])) ∧ Kp w w' := by
  have hel : ∀ wr, Kp w wr → ∀ j (hj : j < fs.length), ∃ b off, a = some ⟨b, off, none⟩ ∧ wr.cell? ⟨b, off + j * 2, none⟩ = some (.int .i64 fs[j].1) ∧ ∃ a' c, wr.cell? ⟨b, off + j * 2 + 1, none⟩ = some (.slice a' fs[j].2.length c) ∧ SlB (.slice a' fs[j].2.length c) fs[j].2 wr ∧ InB fs[j].2 :=
    fun wr hk j hj => (hs.kp hk).at j hj
  obtain ⟨i0, hi, hz0, hz1, hz2⟩ := info_parts info_byte
  have HI := Lib.hid (And.intro hz1 hz2)
  have HI2 := Lib.hid hi
  have HI3 := Lib.hid hz0
  have HEL := Lib.hid hel
  have HL := Lib.hid hlen
  have HV := Lib.hid V
  obtain ⟨R, hR⟩ : ∃ R, runQ 0 0 fs = R := ⟨_, rfl⟩
  rw [hR]
  have HR := Lib.hid hR
  obtain ⟨ea, hea⟩ : ∃ ea, ads[3]'h3' = ea := ⟨_, rfl⟩
  rw [hea]
  have HEA := Lib.hid hea
  clear hel hs hlen hz1 hz2 hi hz0 V hR hea
  go_enter Tryd.func36, Tryd.ntmps36
  go_wp2_with (go_at_call 37; (with_reducible refine (newRow_any _).mono ?_); rintro e w1 ⟨rfl, hp1, hq1, hsz1, hk1⟩; have hpp := kp_cell hk1 hp; have HP1 := Lib.hid hp1; have HQ1 := Lib.hid hq1; have HS1 := Lib.hid hsz1; have HK1 := Lib.hid hk1; clear hp1 hq1 hsz1 hk1)
  go_loopw [2, 9] (fun v i wr => ∃ (j : Nat) (last : Int), j ≤ len ∧ j ≤ 16 ∧ i = .int .i64 j ∧ Kp w wr ∧ w1.heap.size ≤ wr.heap.size ∧ wr.heap[w.heap.size]? = some (boxI j) ∧ wr.heap[w.heap.size + 1]? = some (boxI last) ∧ (joinB (fs.take j)).length ≤ 203 * j ∧ 0 ≤ last ∧ R = runQ j last (fs.drop j) ∧ wr.ownsRow w1.heap.size 5 1 v (joinB (fs.take j)).length ((joinB (fs.take j)).map (Value.int .u8))) (fun _ i _ => len - (intOf i).toNat)
  case atStart => exact ⟨0, 0, Nat.zero_le _, by omega, rfl, HK1.out, Nat.le_refl _, HP1.out, HQ1.out, by simp [joinB], Int.le_refl _, by rw [← HR.out]; rfl, own_nil _ _ _⟩
  case round =>
    obtain ⟨j, last, hj, hj16, rfl, hk, hw1, hbp, hbq, hjb, hlast, hRj, hown⟩ := hrel
    have HK := Lib.hid hk
    have HOW := Lib.hid hown
    have HBP := Lib.hid hbp
    have HBQ := Lib.hid hbq
    have HW1 := Lib.hid hw1
    have HJB := Lib.hid hjb
    have hln := HL.out
    clear hk hown hbp hbq hw1 hjb
    obtain ⟨jj, hjj⟩ : ∃ jj : Int, (j : Int) = jj := ⟨_, rfl⟩
    rw [hjj]
    by_cases hlt : j < len
    · have hjl : j < fs.length := by omega
      obtain ⟨b, off, rfl, c0, a1, k1, c1, h1, h2⟩ := HEL.out w (Kp.refl _) j hjl
      have c0 := kp_cell HK.out c0
      have c1 := kp_cell HK.out c1
      rw [List.drop_eq_getElem_cons hjl, runQ] at hRj
      have hjn := joinB_next hjl
      obtain ⟨tj, htj⟩ : ∃ tj, fs[j].1 = tj := ⟨_, rfl⟩
      obtain ⟨bs, hbs⟩ : ∃ bs, fs[j].2 = bs := ⟨_, rfl⟩
      have hfb : fieldB fs[j] = [tj, 0, (bs.length : Int)] ++ bs := by simp only [fieldB, htj, hbs]
      rw [htj] at c0 hRj
      rw [hbs] at c1 h1 hRj
      rw [hfb] at hjn
      obtain ⟨n1, hn1⟩ : ∃ n1, bs.length = n1 := ⟨_, rfl⟩
      rw [hn1] at c1 h1 hRj hjn
      obtain ⟨jb, hjbe⟩ : ∃ jb, joinB (fs.take j) = jb := ⟨_, rfl⟩
      rw [hjbe] at HOW hjn HJB
      obtain ⟨m1, hm1⟩ : ∃ m1 : Int, (n1 : Int) = m1 := ⟨_, rfl⟩
      have ej : jj.toNat = j := by omega
      rw [← ej] at c0 c1
      have hj0 : 0 ≤ jj := by omega
      have hltj : jj < len := by omega
      have HJ := Lib.hid hjj
      have HJN := Lib.hid hjn
      have HN1 := Lib.hid hn1
      have HB1 := Lib.hid h1
      have KF := Lib.hid (kp_alloc wr (.cells #[.int .i64 tj, .slice a1 n1 k1] 63))
      have BF : Hid ((wr.alloc (.cells #[.int .i64 tj, .slice a1 n1 k1] 63)).heap[wr.heap.size]? = some (.cells #[.int .i64 tj, .slice a1 n1 k1] 63 (0, 0))) := Lib.hid (MapKept.heap_alloc wr _).1
      by_cases hm : mayQ j last tj n1
      · rw [decide_eq_true hm, Bool.true_and] at hRj
        have het := enter_t ads w.heap.size (w.heap.size + 1) j jj last tj n1 m1 HJ.out hm1 (wr.alloc (.cells #[.int .i64 tj, .slice a1 n1 k1] 63)) (HV.out.below (Kp.trans HK.out KF.out)) (kp_row KF.out (by rw [← HJ.out]; exact HBP.out)) (kp_row KF.out HBQ.out) (by omega) hm
        have hent : Calls Tryd.prog 60 #[.int .i64 tj, .int .i64 m1, .pointer (some ⟨w.heap.size, 0, none⟩), .pointer (some ⟨w.heap.size + 1, 0, none⟩)] (wr.alloc (.cells #[.int .i64 tj, .slice a1 n1 k1] 63)) fun e w' => e = .returned (.tuple #[]) ∧ Kp w w' ∧ w1.heap.size ≤ w'.heap.size ∧ w'.heap[w.heap.size]? = some (boxI (jj + 1)) ∧ w'.heap[w.heap.size + 1]? = some (boxI tj) ∧ w'.heap[wr.heap.size]? = some (.cells #[.int .i64 tj, .slice a1 n1 k1] 63 (0, 0)) ∧ w'.ownsRow w1.heap.size 5 1 u2 jb.length (jb.map (Value.int .u8)) := by
          refine het.mono ?_
          rintro e w' ⟨rfl, rfl⟩
          have hs1 := HS1.out
          have hww := HW1.out
          have r1 := one_setCell (u := .int .i64 (jj + 1)) (kp_row KF.out (show wr.heap[w.heap.size]? = some (boxI jj) by rw [← HJ.out]; exact HBP.out))
          refine ⟨rfl, ((Kp.trans HK.out KF.out).setCell (show w.heap.size ≤ w.heap.size by omega) _).setCell (show w.heap.size ≤ w.heap.size + 1 by omega) _, ?_, ?_, ?_, ?_, ?_⟩
          · simp; omega
          · rw [Below.heap_setCell _ _ _ _ (by simp)]; exact r1
          · exact one_setCell (by rw [Below.heap_setCell _ _ _ _ (by simp)]; exact kp_row KF.out HBQ.out)
          · rw [Below.heap_setCell _ _ _ _ (by simp; omega), Below.heap_setCell _ _ _ _ (by simp; omega)]; exact BF.out
          · exact ownsRow_setCell_below (ownsRow_setCell_below (own_kp HOW.out KF.out) (show w.heap.size < w1.heap.size by omega) _) (show w.heap.size + 1 < w1.heap.size by omega) _
        have HET := Lib.hid hent
        obtain ⟨g1, g2, g3, g4⟩ := hm
        have HRJ := Lib.hid hRj
        have q4 : 0 ≤ tj ∧ tj ≤ 255 := by omega
        have q3 : 0 ≤ m1 ∧ m1 ≤ 200 := by omega
        have HDG := Lib.hid (fun w => digits_any n1 2 (by omega) (by omega) m1 2 hm1 rfl w)
        have HD2 := Lib.hid (dig2 n1 g4)
        clear het hent hRj hjj ej htj hn1 hbs hfb h1 h2 hln hlt hjn hjbe
        go_wp2_with (first | (go_at_call 60; (with_reducible refine HET.out.mono ?_); rintro e wE ⟨rfl, hkE, hwE, hpE, hqE, hfE, hoE⟩; have KE := Lib.hid hkE; have WE := Lib.hid hwE; have PE := Lib.hid hpE; have QE := Lib.hid hqE; have FE := Lib.hid hfE; have cf0 := cell_two0 hfE; have cf1 := cell_two1 hfE; have KA := Lib.hid (kp_alloc wE (.cells #[.int .u8 tj] 5)); have WB := Lib.hid (own_kp hoE KA.out); have NB := Lib.hid (box_cell wE (.int .u8 tj) 5); have KB := Lib.hid (Kp.trans hkE KA.out); clear hkE hwE hpE hqE hfE hoE) | (at_builtin; refine wpList_append_own _ rfl (.tmp 20) (.tmp 24) 25 rfl w1.heap.size 5 i0 (.int .u8 0) 1 1 Tryd.underlying25 HI2.out HI3.out HI.out.1 HI.out.2 rfl (by decide) _ _ _ rfl WB.out ⟨wE.heap.size, 0, none⟩ 1 1 [.int .u8 tj] rfl ?c1 ?c2 ?c3 ?c4 ?c5 ?c6 ?_))
        case c1 => rfl
        case c2 =>
          intro i u hi
          match i, hi with
          | 0, hi => simp at hi; subst hi; rw [add_plain]; exact NB.out
        case c3 => intro u hu; simp at hu; subst hu; rfl
        case c4 => have := HJB.out; unfold maxLen; omega
        case c5 => have := HJB.out; omega
        case c6 => have := Below.size KA.out; have := WE.out; omega
        rintro v5 w5 hown5 hgr5 -
        have hbase : w.heap.size ≤ w1.heap.size := by have := HS1.out; omega
        have kp5 : Kp w w5 := row_kp (own_mono WB.out hbase) hgr5 KB.out
        have b5p := box_grow WB.out hgr5 (kp_row KA.out PE.out) (by have := HS1.out; omega)
        have b5q := box_grow WB.out hgr5 (kp_row KA.out QE.out) (by have := HS1.out; omega)
        have b5f := row_grow WB.out hgr5 _ _ _ (kp_row KA.out FE.out) (by decide)
        have s5 : w1.heap.size ≤ w5.heap.size := by have := hgr5.size; have := Below.size KA.out; have := WE.out; omega
        have OW5 := Lib.hid hown5
        have KP5 := Lib.hid kp5
        have B5P := Lib.hid b5p
        have B5Q := Lib.hid b5q
        have B5F := Lib.hid b5f
        have S5 := Lib.hid s5
        have cg1 := cell_two1 b5f
        clear hown5 hgr5 kp5 b5p b5q b5f s5 cf0 cf1
        go_wp2_with (first | (go_at_call 38; (with_reducible refine (HDG.out _).mono ?_); rintro e w6 ⟨rfl, ho6, hk6⟩; have K6 := Lib.hid hk6; have hs6 := own_slb ho6; rw [HD2.out] at hs6; have S6 := Lib.hid hs6; have OW6 := Lib.hid (own_kp OW5.out hk6); have cg2 := kp_cell hk6 cg1; clear ho6 hk6 hs6) | (at_builtin; refine wpList_append_slb _ rfl (.tmp 26) (.tmp 31) rfl w1.heap.size _ _ _ rfl OW6.out (some ⟨w5.heap.size, 0, none⟩) 2 2 [0, (n1 : Int)] rfl S6.out ?d1 ?d2 ?_))
        case d1 => have := HJB.out; omega
        case d2 => have := Below.size K6.out; have := S5.out; omega
        rintro v7 w7 hown7 hgr7 -
        have hbase : w.heap.size ≤ w1.heap.size := by have := HS1.out; omega
        have kp7 : Kp w w7 := row_kp (own_mono OW6.out hbase) hgr7 (Kp.trans KP5.out K6.out)
        have b7p := box_grow OW6.out hgr7 (kp_row K6.out B5P.out) (by have := HS1.out; omega)
        have b7q := box_grow OW6.out hgr7 (kp_row K6.out B5Q.out) (by have := HS1.out; omega)
        have b7f := row_grow OW6.out hgr7 _ _ _ (kp_row K6.out B5F.out) (by decide)
        have s7 : w1.heap.size ≤ w7.heap.size := by have := hgr7.size; have := Below.size K6.out; have := S5.out; omega
        have OW7 := Lib.hid hown7
        have KP7 := Lib.hid kp7
        have B7P := Lib.hid b7p
        have B7Q := Lib.hid b7q
        have S7 := Lib.hid s7
        have ch1 := cell_two1 b7f
        have HB7 := Lib.hid (HB1.out.kp kp7)
        clear hown7 hgr7 kp7 b7p b7q b7f s7 cg1 cg2
        go_wp2_with (at_builtin; refine wpList_append_slb _ rfl (.tmp 33) (.tmp 35) rfl w1.heap.size _ _ _ rfl OW7.out a1 n1 k1 bs rfl HB7.out ?e1 ?e2 ?_)
        case e1 => have := HJB.out; omega
        case e2 => exact S7.out
        rintro v8 w8 hown8 hgr8 -
        have hbase : w.heap.size ≤ w1.heap.size := by have := HS1.out; omega
        have kp8 : Kp w w8 := row_kp (own_mono OW7.out hbase) hgr8 KP7.out
        have b8p := box_grow OW7.out hgr8 B7P.out (by have := HS1.out; omega)
        have b8q := box_grow OW7.out hgr8 B7Q.out (by have := HS1.out; omega)
        have s8 : w1.heap.size ≤ w8.heap.size := by have := hgr8.size; have := S7.out; omega
        have hjl8 : (joinB (fs.take (j + 1))).length = jb.length + 1 + 2 + n1 := by rw [HJN.out]; simp [HN1.out]; omega
        have own8 : w8.ownsRow w1.heap.size 5 1 v8 (joinB (fs.take (j + 1))).length ((joinB (fs.take (j + 1))).map (Value.int .u8)) := by
          rw [hjl8, HJN.out]
          have e2 : (jb ++ ([tj, 0, (n1 : Int)] ++ bs)).map (Value.int .u8) = jb.map (Value.int .u8) ++ .int .u8 tj :: .int .u8 0 :: .int .u8 m1 :: bs.map (Value.int .u8) := by simp [hm1]
          rw [e2]
          exact hown8
        have hlen8 : (joinB (fs.take (j + 1))).length ≤ 203 * (j + 1) := by have := HJB.out; omega
        have O8 := Lib.hid own8
        have K8 := Lib.hid kp8
        have B8P := Lib.hid b8p
        have B8Q := Lib.hid b8q
        have S8 := Lib.hid s8
        have L8 := Lib.hid hlen8
        clear own8 kp8 b8p b8q s8 hjl8 hlen8 hown8 hgr8 ch1
        go_wp2
        have hjj := HJ.out
        go_roundw
        case rel =>
          have e1 : ((j + 1 : Nat) : Int) = jj + 1 := by omega
          exact ⟨j + 1, tj, by omega, by omega, by rw [e1], K8.out, S8.out, by rw [e1]; exact B8P.out, B8Q.out, L8.out, q4.1, HRJ.out, O8.out⟩
        case measure => simp [intOf]; omega
      · rw [decide_eq_false hm, Bool.false_and] at hRj
        have hef := enter_f ads h3' w.heap.size (w.heap.size + 1) j jj last tj n1 m1 HJ.out hm1 (wr.alloc (.cells #[.int .i64 tj, .slice a1 n1 k1] 63)) (HV.out.below (Kp.trans HK.out KF.out)) (kp_row KF.out (by rw [← HJ.out]; exact HBP.out)) (kp_row KF.out HBQ.out) hm
        rw [HEA.out] at hef
        have HEF := Lib.hid hef
        have HRJ := Lib.hid hRj
        clear hef hRj hjj ej htj hn1 hbs hfb h1 h2 hln hlt hjn hjbe hm
        go_wp2_with (go_at_call 60; (with_reducible refine HEF.out.mono ?_); rintro e wE ⟨rfl, rfl⟩)
        exact ⟨rfl, .inr ⟨HRJ.out, rfl⟩, Kp.trans HK.out KF.out⟩
    · obtain rfl : j = len := by omega
      have hex : ¬ jj < j := by omega
      have hful : fs.take j = fs := by rw [List.take_of_length_le]; omega
      have hdr : fs.drop j = [] := by rw [List.drop_of_length_le]; omega
      have ho := HOW.out
      rw [hful] at ho
      rw [hdr, runQ] at hRj
      have HO := Lib.hid ho
      have HRJ := Lib.hid hRj
      clear hjj hful ho hdr hRj hln hlt
      go_wp2
      go_ret
      have hbase : w.heap.size ≤ w1.heap.size := by have := HS1.out; omega
      exact ⟨.inl ⟨HRJ.out, _, rfl, own_mono HO.out hbase⟩, HK.out⟩
end Go.Proofs.YtfealdllicicnaaDoor
