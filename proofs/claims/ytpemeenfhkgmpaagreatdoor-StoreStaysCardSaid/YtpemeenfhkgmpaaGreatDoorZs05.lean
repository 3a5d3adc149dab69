/-
  PARTS OF THIS PROOF (own work): JoinF, JoinG, NumF, Take, SplF, FltF.
-/
import Derived.Test.YtpemeenfhkgmpaaGreatDoorZs02
import Derived.Test.YtpemeenfhkgmpaaGreatDoorZs03
import Derived.Test.YtpemeenfhkgmpaaGreatDoorZs04
import Derived.Test.YtpemeenfhkgmpaaGreatDoorLen
import Derived.Lib.ItoaNum
import Derived.BigQuiet
import Derived.StillTailTactics
namespace Go.Proofs.YtpemeenfhkgmpaaGreatDoor
open Go.RowKit Go.ChangeShapes Go.WideShapes

/-- An append of the call's own row turns no block below its base. -/
theorem box_grow {w w' : World} {base n size : Nat} {e : TypeId} {v : Value} {xs : List Value} {o : Obj} {b : Nat} (hown : w.ownsRow base e size v n xs) (hgr : w.grownBy w' v.ownBlock) (hb : w.heap[b]? = some o) (hlt : b < base) : w'.heap[b]? = some o := by
  obtain ⟨-, hr⟩ := hown
  rcases hr with ⟨rfl, -⟩ | ⟨g, cap, cur, rfl, hg, hh, -⟩
  · rw [hgr.block b (old_of_row hb) (by simp [Value.ownBlock])]; exact hb
  · rw [hgr.block b (old_of_row hb) (by intro q; simp [Value.ownBlock] at q; omega)]; exact hb

theorem dig2 (n : Nat) (h : n ≤ 200) : digB n 2 = [0, (n : Int)] := by
  unfold digB fb
  simp [List.range_succ]
  omega

theorem cell_two0 {w : World} {b : Nat} {x y : Value} {t : TypeId} {f : Nat × Nat} (h : w.heap[b]? = some (.cells #[x, y] t f)) : w.cell? ⟨b, 0, none⟩ = some x := by
  unfold World.cell?; dsimp only; rw [h]; rfl
theorem cell_two1 {w : World} {b : Nat} {x y : Value} {t : TypeId} {f : Nat × Nat} (h : w.heap[b]? = some (.cells #[x, y] t f)) : w.cell? ⟨b, 1, none⟩ = some y := by
  unfold World.cell?; dsimp only; rw [h]; rfl

theorem own_nil (w : World) (base : Nat) (e : TypeId) : w.ownsRow base e 1 (.slice none 0 0) 0 [] := ⟨by simp, .inl ⟨rfl, rfl⟩⟩

set_option maxRecDepth 20000 in
set_option maxHeartbeats 2000000 in
theorem join1_any (ads : List Addr) (h3' : 3 < ads.length) (p : Addr) (a : Option Addr) (cap : Nat) (fs : List (Int × List Int)) (len : Nat) (hlen : fs.length = len) (hl : len ≤ 100000) (w : World) (V : St ads w) (hp : w.cell? p = some (.slice a len cap)) (hs : SlQ (.slice a len cap) fs w) :
    Calls Tryz.prog 129 #[.pointer (some p)] w fun e w' => ((runQ 0 0 fs = true ∧ ∃ v, e = .returned v ∧ w'.ownsRow w.heap.size 5 1 v (joinB fs).length ((joinB fs).map (Value.int .u8))) ∨ (runQ 0 0 fs = false ∧ e = .panicked [{ v := snt (ads[3]'h3'), recovered := false }])) ∧ Kp w w' := by
  have hel : ∀ wr, Kp w wr → ∀ j (hj : j < fs.length), ∃ b off, a = some ⟨b, off, none⟩ ∧ wr.cell? ⟨b, off + j * 2, none⟩ = some (.int .i64 fs[j].1) ∧ ∃ a' c, wr.cell? ⟨b, off + j * 2 + 1, none⟩ = some (.slice a' fs[j].2.length c) ∧ SlB (.slice a' fs[j].2.length c) fs[j].2 wr ∧ InB fs[j].2 :=
    fun wr hk j hj => (hs.kp hk).at j hj
  obtain ⟨i0, hi, hz0, hz1, hz2⟩ := info_parts info_byte
  have HI := Lib.hid (And.intro hz1 hz2)
  have HI2 := Lib.hid hi
  have HI3 := Lib.hid hz0
  have HEL := Lib.hid hel
  have HL := Lib.hid hlen
  have HV := Lib.hid V
  obtain ⟨R, hR⟩ : ∃ R, runQ 0 0 fs = R := ⟨_, rfl⟩
  rw [hR]
  have HR := Lib.hid hR
  obtain ⟨ea, hea⟩ : ∃ ea, ads[3]'h3' = ea := ⟨_, rfl⟩
  rw [hea]
  have HEA := Lib.hid hea
  clear hel hs hlen hz1 hz2 hi hz0 V hR hea
  go_enter Tryz.func129, Tryz.ntmps129
  go_wp2_with (go_at_call 130; (with_reducible refine (newRow_any _).mono ?_); rintro e w1 ⟨rfl, hp1, hq1, hsz1, hk1⟩; have hpp := kp_cell hk1 hp; have HP1 := Lib.hid hp1; have HQ1 := Lib.hid hq1; have HS1 := Lib.hid hsz1; have HK1 := Lib.hid hk1; clear hp1 hq1 hsz1 hk1)
  go_loopw [2, 9] (fun v i wr => ∃ (j : Nat) (last : Int), j ≤ len ∧ j ≤ 16 ∧ i = .int .i64 j ∧ Kp w wr ∧ w1.heap.size ≤ wr.heap.size ∧ wr.heap[w.heap.size]? = some (boxI j) ∧ wr.heap[w.heap.size + 1]? = some (boxI last) ∧ (joinB (fs.take j)).length ≤ 203 * j ∧ 0 ≤ last ∧ R = runQ j last (fs.drop j) ∧ wr.ownsRow w1.heap.size 5 1 v (joinB (fs.take j)).length ((joinB (fs.take j)).map (Value.int .u8))) (fun _ i _ => len - (intOf i).toNat)
  case atStart => exact ⟨0, 0, Nat.zero_le _, by omega, rfl, HK1.out, Nat.le_refl _, HP1.out, HQ1.out, by simp [joinB], Int.le_refl _, by rw [← HR.out]; rfl, own_nil _ _ _⟩
  case round =>
    obtain ⟨j, last, hj, hj16, rfl, hk, hw1, hbp, hbq, hjb, hlast, hRj, hown⟩ := hrel
    have HK := Lib.hid hk
    have HOW := Lib.hid hown
    have HBP := Lib.hid hbp
    have HBQ := Lib.hid hbq
    have HW1 := Lib.hid hw1
    have HJB := Lib.hid hjb
    have hln := HL.out
    clear hk hown hbp hbq hw1 hjb
    obtain ⟨jj, hjj⟩ : ∃ jj : Int, (j : Int) = jj := ⟨_, rfl⟩
    rw [hjj]
    by_cases hlt : j < len
    · have hjl : j < fs.length := by omega
      obtain ⟨b, off, rfl, c0, a1, k1, c1, h1, h2⟩ := HEL.out w (Kp.refl _) j hjl
      have c0 := kp_cell HK.out c0
      have c1 := kp_cell HK.out c1
      rw [List.drop_eq_getElem_cons hjl, runQ] at hRj
      have hjn := joinB_next hjl
      obtain ⟨tj, htj⟩ : ∃ tj, fs[j].1 = tj := ⟨_, rfl⟩
      obtain ⟨bs, hbs⟩ : ∃ bs, fs[j].2 = bs := ⟨_, rfl⟩
      have hfb : fieldB fs[j] = [tj, 0, (bs.length : Int)] ++ bs := by simp only [fieldB, htj, hbs]
      rw [htj] at c0 hRj
      rw [hbs] at c1 h1 hRj
      rw [hfb] at hjn
      obtain ⟨n1, hn1⟩ : ∃ n1, bs.length = n1 := ⟨_, rfl⟩
      rw [hn1] at c1 h1 hRj hjn
      obtain ⟨jb, hjbe⟩ : ∃ jb, joinB (fs.take j) = jb := ⟨_, rfl⟩
      rw [hjbe] at HOW hjn HJB
      obtain ⟨m1, hm1⟩ : ∃ m1 : Int, (n1 : Int) = m1 := ⟨_, rfl⟩
      have ej : jj.toNat = j := by omega
      rw [← ej] at c0 c1
      have hj0 : 0 ≤ jj := by omega
      have hltj : jj < len := by omega
      have HJ := Lib.hid hjj
      have HJN := Lib.hid hjn
      have HN1 := Lib.hid hn1
      have HB1 := Lib.hid h1
      have KF := Lib.hid (kp_alloc wr (.cells #[.int .i64 tj, .slice a1 n1 k1] 122))
      have BF : Hid ((wr.alloc (.cells #[.int .i64 tj, .slice a1 n1 k1] 122)).heap[wr.heap.size]? = some (.cells #[.int .i64 tj, .slice a1 n1 k1] 122 (0, 0))) := Lib.hid (MapKept.heap_alloc wr _).1
      by_cases hm : mayQ j last tj n1
      · rw [decide_eq_true hm, Bool.true_and] at hRj
        have het := enter_t ads w.heap.size (w.heap.size + 1) j jj last tj n1 m1 HJ.out hm1 (wr.alloc (.cells #[.int .i64 tj, .slice a1 n1 k1] 122)) (HV.out.below (Kp.trans HK.out KF.out)) (kp_row KF.out (by rw [← HJ.out]; exact HBP.out)) (kp_row KF.out HBQ.out) (by omega) hm
        have hent : Calls Tryz.prog 151 #[.int .i64 tj, .int .i64 m1, .pointer (some ⟨w.heap.size, 0, none⟩), .pointer (some ⟨w.heap.size + 1, 0, none⟩)] (wr.alloc (.cells #[.int .i64 tj, .slice a1 n1 k1] 122)) fun e w' => e = .returned (.tuple #[]) ∧ Kp w w' ∧ w1.heap.size ≤ w'.heap.size ∧ w'.heap[w.heap.size]? = some (boxI (jj + 1)) ∧ w'.heap[w.heap.size + 1]? = some (boxI tj) ∧ w'.heap[wr.heap.size]? = some (.cells #[.int .i64 tj, .slice a1 n1 k1] 122 (0, 0)) ∧ w'.ownsRow w1.heap.size 5 1 u2 jb.length (jb.map (Value.int .u8)) := by
          refine het.mono ?_
          rintro e w' ⟨rfl, rfl⟩
          have hs1 := HS1.out
          have hww := HW1.out
          have r1 := one_setCell (u := .int .i64 (jj + 1)) (kp_row KF.out (show wr.heap[w.heap.size]? = some (boxI jj) by rw [← HJ.out]; exact HBP.out))
          refine ⟨rfl, ((Kp.trans HK.out KF.out).setCell (show w.heap.size ≤ w.heap.size by omega) _).setCell (show w.heap.size ≤ w.heap.size + 1 by omega) _, ?_, ?_, ?_, ?_, ?_⟩
          · simp; omega
          · rw [Below.heap_setCell _ _ _ _ (by simp)]; exact r1
          · exact one_setCell (by rw [Below.heap_setCell _ _ _ _ (by simp)]; exact kp_row KF.out HBQ.out)
          · rw [Below.heap_setCell _ _ _ _ (by simp; omega), Below.heap_setCell _ _ _ _ (by simp; omega)]; exact BF.out
          · exact ownsRow_setCell_below (ownsRow_setCell_below (own_kp HOW.out KF.out) (show w.heap.size < w1.heap.size by omega) _) (show w.heap.size + 1 < w1.heap.size by omega) _
        have HET := Lib.hid hent
        obtain ⟨g1, g2, g3, g4⟩ := hm
        have HRJ := Lib.hid hRj
        have q4 : 0 ≤ tj ∧ tj ≤ 255 := by omega
        have q3 : 0 ≤ m1 ∧ m1 ≤ 200 := by omega
        have HDG := Lib.hid (fun w => digits_any n1 2 (by omega) (by omega) m1 2 hm1 rfl w)
        have HD2 := Lib.hid (dig2 n1 g4)
        clear het hent hRj hjj ej htj hn1 hbs hfb h1 h2 hln hlt hjn hjbe
        go_wp2_with (first | (go_at_call 151; (with_reducible refine HET.out.mono ?_); rintro e wE ⟨rfl, hkE, hwE, hpE, hqE, hfE, hoE⟩; have KE := Lib.hid hkE; have WE := Lib.hid hwE; have PE := Lib.hid hpE; have QE := Lib.hid hqE; have FE := Lib.hid hfE; have cf0 := cell_two0 hfE; have cf1 := cell_two1 hfE; have KA := Lib.hid (kp_alloc wE (.cells #[.int .u8 tj] 5)); have WB := Lib.hid (own_kp hoE KA.out); have NB := Lib.hid (box_cell wE (.int .u8 tj) 5); have KB := Lib.hid (Kp.trans hkE KA.out); clear hkE hwE hpE hqE hfE hoE) | (at_builtin; refine wpList_append_own _ rfl (.tmp 20) (.tmp 24) 55 rfl w1.heap.size 5 i0 (.int .u8 0) 1 1 Tryz.underlying55 HI2.out HI3.out HI.out.1 HI.out.2 rfl (by decide) _ _ _ rfl WB.out ⟨wE.heap.size, 0, none⟩ 1 1 [.int .u8 tj] rfl ?c1 ?c2 ?c3 ?c4 ?c5 ?c6 ?_))
        case c1 => rfl
        case c2 =>
          intro i u hi
          match i, hi with
          | 0, hi => simp at hi; subst hi; rw [add_plain]; exact NB.out
        case c3 => intro u hu; simp at hu; subst hu; rfl
        case c4 => have := HJB.out; unfold maxLen; omega
        case c5 => have := HJB.out; omega
        case c6 => have := Below.size KA.out; have := WE.out; omega
        rintro v5 w5 hown5 hgr5 -
        have hbase : w.heap.size ≤ w1.heap.size := by have := HS1.out; omega
        have kp5 : Kp w w5 := row_kp (own_mono WB.out hbase) hgr5 KB.out
        have b5p := box_grow WB.out hgr5 (kp_row KA.out PE.out) (by have := HS1.out; omega)
        have b5q := box_grow WB.out hgr5 (kp_row KA.out QE.out) (by have := HS1.out; omega)
        have b5f := row_grow WB.out hgr5 _ _ _ (kp_row KA.out FE.out) (by decide)
        have s5 : w1.heap.size ≤ w5.heap.size := by have := hgr5.size; have := Below.size KA.out; have := WE.out; omega
        have OW5 := Lib.hid hown5
        have KP5 := Lib.hid kp5
        have B5P := Lib.hid b5p
        have B5Q := Lib.hid b5q
        have B5F := Lib.hid b5f
        have S5 := Lib.hid s5
        have cg1 := cell_two1 b5f
        clear hown5 hgr5 kp5 b5p b5q b5f s5 cf0 cf1
        go_wp2_with (first | (go_at_call 127; (with_reducible refine (HDG.out _).mono ?_); rintro e w6 ⟨rfl, ho6, hk6⟩; have K6 := Lib.hid hk6; have hs6 := own_slb ho6; rw [HD2.out] at hs6; have S6 := Lib.hid hs6; have OW6 := Lib.hid (own_kp OW5.out hk6); have cg2 := kp_cell hk6 cg1; clear ho6 hk6 hs6) | (at_builtin; refine wpList_append_slb _ rfl (.tmp 26) (.tmp 31) rfl w1.heap.size _ _ _ rfl OW6.out (some ⟨w5.heap.size, 0, none⟩) 2 2 [0, (n1 : Int)] rfl S6.out ?d1 ?d2 ?_))
        case d1 => have := HJB.out; omega
        case d2 => have := Below.size K6.out; have := S5.out; omega
        rintro v7 w7 hown7 hgr7 -
        have hbase : w.heap.size ≤ w1.heap.size := by have := HS1.out; omega
        have kp7 : Kp w w7 := row_kp (own_mono OW6.out hbase) hgr7 (Kp.trans KP5.out K6.out)
        have b7p := box_grow OW6.out hgr7 (kp_row K6.out B5P.out) (by have := HS1.out; omega)
        have b7q := box_grow OW6.out hgr7 (kp_row K6.out B5Q.out) (by have := HS1.out; omega)
        have b7f := row_grow OW6.out hgr7 _ _ _ (kp_row K6.out B5F.out) (by decide)
        have s7 : w1.heap.size ≤ w7.heap.size := by have := hgr7.size; have := Below.size K6.out; have := S5.out; omega
        have OW7 := Lib.hid hown7
        have KP7 := Lib.hid kp7
        have B7P := Lib.hid b7p
        have B7Q := Lib.hid b7q
        have S7 := Lib.hid s7
        have ch1 := cell_two1 b7f
        have HB7 := Lib.hid (HB1.out.kp kp7)
        clear hown7 hgr7 kp7 b7p b7q b7f s7 cg1 cg2
        go_wp2_with (at_builtin; refine wpList_append_slb _ rfl (.tmp 33) (.tmp 35) rfl w1.heap.size _ _ _ rfl OW7.out a1 n1 k1 bs rfl HB7.out ?e1 ?e2 ?_)
        case e1 => have := HJB.out; omega
        case e2 => exact S7.out
        rintro v8 w8 hown8 hgr8 -
        have hbase : w.heap.size ≤ w1.heap.size := by have := HS1.out; omega
        have kp8 : Kp w w8 := row_kp (own_mono OW7.out hbase) hgr8 KP7.out
        have b8p := box_grow OW7.out hgr8 B7P.out (by have := HS1.out; omega)
        have b8q := box_grow OW7.out hgr8 B7Q.out (by have := HS1.out; omega)
        have s8 : w1.heap.size ≤ w8.heap.size := by have := hgr8.size; have := S7.out; omega
        have hjl8 : (joinB (fs.take (j + 1))).length = jb.length + 1 + 2 + n1 := by rw [HJN.out]; simp [HN1.out]; omega
        have own8 : w8.ownsRow w1.heap.size 5 1 v8 (joinB (fs.take (j + 1))).length ((joinB (fs.take (j + 1))).map (Value.int .u8)) := by
          rw [hjl8, HJN.out]
          have e2 : (jb ++ ([tj, 0, (n1 : Int)] ++ bs)).map (Value.int .u8) = jb.map (Value.int .u8) ++ .int .u8 tj :: .int .u8 0 :: .int .u8 m1 :: bs.map (Value.int .u8) := by simp [hm1]
          rw [e2]
          exact hown8
        have hlen8 : (joinB (fs.take (j + 1))).length ≤ 203 * (j + 1) := by have := HJB.out; omega
        have O8 := Lib.hid own8
        have K8 := Lib.hid kp8
        have B8P := Lib.hid b8p
        have B8Q := Lib.hid b8q
        have S8 := Lib.hid s8
        have L8 := Lib.hid hlen8
        clear own8 kp8 b8p b8q s8 hjl8 hlen8 hown8 hgr8 ch1
        go_wp2
        have hjj := HJ.out
        go_roundw
        case rel =>
          have e1 : ((j + 1 : Nat) : Int) = jj + 1 := by omega
          exact ⟨j + 1, tj, by omega, by omega, by rw [e1], K8.out, S8.out, by rw [e1]; exact B8P.out, B8Q.out, L8.out, q4.1, HRJ.out, O8.out⟩
        case measure => simp [intOf]; omega
      · rw [decide_eq_false hm, Bool.false_and] at hRj
        have hef := enter_f ads h3' w.heap.size (w.heap.size + 1) j jj last tj n1 m1 HJ.out hm1 (wr.alloc (.cells #[.int .i64 tj, .slice a1 n1 k1] 122)) (HV.out.below (Kp.trans HK.out KF.out)) (kp_row KF.out (by rw [← HJ.out]; exact HBP.out)) (kp_row KF.out HBQ.out) hm
        rw [HEA.out] at hef
        have HEF := Lib.hid hef
        have HRJ := Lib.hid hRj
        clear hef hRj hjj ej htj hn1 hbs hfb h1 h2 hln hlt hjn hjbe hm
        go_wp2_with (go_at_call 151; (with_reducible refine HEF.out.mono ?_); rintro e wE ⟨rfl, rfl⟩)
        exact ⟨rfl, .inr ⟨HRJ.out, rfl⟩, Kp.trans HK.out KF.out⟩
    · obtain rfl : j = len := by omega
      have hex : ¬ jj < j := by omega
      have hful : fs.take j = fs := by rw [List.take_of_length_le]; omega
      have hdr : fs.drop j = [] := by rw [List.drop_of_length_le]; omega
      have ho := HOW.out
      rw [hful] at ho
      rw [hdr, runQ] at hRj
      have HO := Lib.hid ho
      have HRJ := Lib.hid hRj
      clear hjj hful ho hdr hRj hln hlt
      go_wp2
      go_ret
      have hbase : w.heap.size ≤ w1.heap.size := by have := HS1.out; omega
      exact ⟨.inl ⟨HRJ.out, _, rfl, own_mono HO.out hbase⟩, HK.out⟩
open Go.RowKit Go.ChangeShapes Go.WideShapes

theorem join_ok (ads : List Addr) (a : Option Addr) (cap : Nat) (fs : List (Int × List Int)) (len : Nat) (hlen : fs.length = len) (hl : len ≤ 100000) (w : World) (V : St ads w) (hs : SlQ (.slice a len cap) fs w) (hr : runQ 0 0 fs = true) :
    Calls Tryz.prog 90 #[.slice a len cap] w fun e w' => ∃ v, e = .returned (.tuple #[v, .nilIface]) ∧ w'.ownsRow w.heap.size 5 1 v (joinB fs).length ((joinB fs).map (Value.int .u8)) ∧ Kp w w' := by
  have hmf : ∀ (fn : Fn) (first cap : Array Value) (w : World), (Instr.makeFunc fn first cap).run Tryz.prog w = .ok (.func fn first cap) w := fun _ _ _ _ => rfl
  have h3 : 3 < ads.length := by rw [V.len]; decide
  have kb := kp_alloc w (.cells #[.slice a len cap] 118)
  have hc := box_cell w (.slice a len cap) 118
  have HT := Lib.hid (try_bytes_own 129 #[.pointer (some ⟨w.heap.size, 0, none⟩)] (joinB fs) (w.alloc (.cells #[.slice a len cap] 118)) (by intro w; simp [go_sem]) fun w1 h1 => by
    refine (join1_any ads h3 ⟨w.heap.size, 0, none⟩ a cap fs len hlen hl w1 (V.below (Kp.trans kb h1)) (kp_cell h1 hc) (hs.kp (Kp.trans kb h1))).mono ?_
    rintro e w2 ⟨⟨_, v, rfl, ho⟩ | ⟨hf, _⟩, hk⟩
    · exact ⟨v, rfl, ho, hk⟩
    · rw [hr] at hf; cases hf)
  have KB := Lib.hid kb
  clear kb hc V hs hl hr
  go_enter Tryz.func90, Tryz.ntmps90
  go_wp2_with (go_at_call 84; (with_reducible refine HT.out.mono ?_); rintro e w' ⟨v, rfl, ho, hk⟩; have HK := Lib.hid hk; have HO := Lib.hid ho; clear hk ho)
  go_ret2
  exact ⟨_, rfl, own_mono HO.out (Below.size KB.out), Kp.trans KB.out HK.out⟩

open Go.RowKit Go.ChangeShapes Go.WideShapes

/-- as many bytes as a number has -/
def nb (x : Nat) : Nat := (Lib.bitLen x + 7) / 8
theorem nb_next (x : Nat) (h0 : x ≠ 0) (h : x < 18446744073709551616) : nb x = nb (x / 256) + 1 := by
  unfold nb
  rcases Nat.lt_or_ge x 256 with g | g
  · have e : x / 256 = 0 := by omega
    have h1 := Lib.bitLenAux_bounds 64 x h h0
    have h2 := Lib.bitLen_le8 ⟨x, g⟩
    have e0 : Lib.bitLen 0 = 0 := by decide
    rw [e, e0]
    unfold Lib.bitLen at h2 ⊢
    simp only at h2
    omega
  · rw [Lib.bitLen_shift8 x g h]
    omega
theorem nb_le (x : Nat) (h : x < 18446744073709551616) : nb x ≤ 8 := by
  unfold nb
  have := Lib.bitLen_le x 64 (by decide) h
  omega
theorem digB_next (x m : Nat) : digB x (m + 1) = digB (x / 256) m ++ [((x % 256 : Nat) : Int)] := by
  unfold digB
  rw [List.range_succ, List.map_append]
  congr 1
  · refine List.map_congr_left fun p hp => ?_
    have hp' := List.mem_range.1 hp
    have e : m + 1 - 1 - p = (m - 1 - p) + 1 := by omega
    rw [e]
    unfold fb
    rw [Nat.pow_succ, Nat.mul_comm, Nat.div_div_eq_div_mul]
  · simp [fb]
theorem beF_dig (k : Nat) : ∀ x, x < 256 ^ k → x < 18446744073709551616 → beF k x = digB x (nb x) := by
  induction k with
  | zero =>
    intro x h _
    obtain rfl : x = 0 := by simpa using h
    rfl
  | succ k ih =>
    intro x h h64
    by_cases h0 : x = 0
    · subst h0
      rfl
    · rw [beF, if_neg h0, nb_next x h0 h64, digB_next, ih (x / 256) (by rw [Nat.pow_succ] at h; omega) (by omega)]

theorem len64_any (x : Nat) (h : x < 18446744073709551616) (xx : Int) (hxx : (x : Int) = xx) (w : World) :
    Calls Tryz.prog 128 #[.int .u64 xx] w fun e w' => e = .returned (.int .i64 (Lib.bitLen x)) ∧ w = w' := by
  have t := Any.bits_Len64 Tryz.lays129 xx w (by omega) (by omega)
  have e : xx.toNat = x := by omega
  rw [e] at t
  refine t.mono ?_
  rintro e w' ⟨h1, h2⟩
  exact ⟨h1, h2.symm⟩

set_option maxRecDepth 20000 in
theorem number1_any (ads : List Addr) (p : Addr) (n : Nat) (hn : n < 9223372036854775808) (nn : Int) (hnn : (n : Int) = nn) (w : World) (V : St ads w) (hp : w.cell? p = some (.int .i64 nn)) :
    Calls Tryz.prog 125 #[.pointer (some p)] w fun e w' => ∃ v, e = .returned v ∧ w'.ownsRow w.heap.size 5 1 v (beF 8 n).length ((beF 8 n).map (Value.int .u8)) ∧ Kp w w' := by
  have hl : 0 < ads.length := by have := V.len; simp [gs14] at this; omega
  have c0 : w.cell? ⟨0, 0, none⟩ = some (snt ads[0]) := V.cell 0 (by decide)
  have n64 : n < 18446744073709551616 := by omega
  have hd : ∀ w, Calls Tryz.prog 127 #[.int .u64 nn, .int .i64 (nb n)] w _ := fun w => digits_any n (nb n) n64 (nb_le n n64) nn _ hnn rfl w
  have hlen : ∀ w, Calls Tryz.prog 128 #[.int .u64 nn] w _ := fun w => len64_any n n64 nn hnn w
  have hb : (Lib.bitLen n) ≤ 64 := Lib.bitLen_le n 64 (by decide) n64
  obtain ⟨L, hL⟩ : ∃ L : Int, (Lib.bitLen n : Int) = L := ⟨_, rfl⟩
  have hq : (L + 7).tdiv 8 = (nb n : Int) := by
    rw [Int.tdiv_eq_ediv_of_nonneg (by omega)]
    unfold nb
    omega
  have hlb : 0 ≤ L ∧ L ≤ 64 := by omega
  simp only [hL] at hlen
  have hbe := beF_dig 8 n n64 n64
  have hdl : (digB n (nb n)).length = nb n := by simp [digB]
  rw [hbe, hdl]
  obtain ⟨nbn, hnb⟩ : ∃ k : Int, (nb n : Int) = k := ⟨_, rfl⟩
  simp only [hnb] at hd hq
  have n0 : 0 ≤ nn ∧ nn < 9223372036854775808 := by omega
  have hnb8 : 0 ≤ nbn ∧ nbn ≤ 8 := by have := nb_le n n64; omega
  have HD := Lib.hid hd
  have HLN := Lib.hid hlen
  clear hd hlen hbe hdl hb hL hnn hnb V n64 hn
  go_enter Tryz.func125, Tryz.ntmps125
  go_wp2_with (first | (go_at_call 126; (with_reducible refine (demand_t _ _).mono ?_); rintro e w' ⟨rfl, rfl⟩) | (go_at_call 128; (with_reducible refine (HLN.out _).mono ?_); rintro e w' ⟨rfl, rfl⟩) | (go_at_call 127; (with_reducible refine (HD.out _).mono ?_); rintro e w' ⟨rfl, ho, hk⟩; have HO := Lib.hid ho; have HK := Lib.hid hk; clear ho hk))
  go_ret
  exact ⟨_, rfl, HO.out, HK.out⟩

theorem number_any (ads : List Addr) (n : Nat) (hn : n < 9223372036854775808) (nn : Int) (hnn : (n : Int) = nn) (w : World) (V : St ads w) :
    Calls Tryz.prog 88 #[.int .i64 nn] w fun e w' => ∃ v, e = .returned (.tuple #[v, .nilIface]) ∧ w'.ownsRow w.heap.size 5 1 v (beF 8 n).length ((beF 8 n).map (Value.int .u8)) ∧ Kp w w' := by
  have hmf : ∀ (fn : Fn) (first cap : Array Value) (w : World), (Instr.makeFunc fn first cap).run Tryz.prog w = .ok (.func fn first cap) w := fun _ _ _ _ => rfl
  have kb := kp_alloc w (.cells #[.int .i64 nn] 3)
  have hc := box_cell w (.int .i64 nn) 3
  have HT := Lib.hid (try_bytes_own 125 #[.pointer (some ⟨w.heap.size, 0, none⟩)] (beF 8 n) (w.alloc (.cells #[.int .i64 nn] 3)) (by intro w; simp [go_sem]) fun w1 h1 => number1_any ads _ n hn nn hnn w1 (V.below (Kp.trans kb h1)) (kp_cell h1 hc))
  have KB := Lib.hid kb
  clear kb hc V hn
  go_enter Tryz.func88, Tryz.ntmps88
  go_wp2_with (go_at_call 84; (with_reducible refine HT.out.mono ?_); rintro e w' ⟨v, rfl, ho, hk⟩; have HK := Lib.hid hk; have HO := Lib.hid ho; clear hk ho)
  go_ret2
  exact ⟨_, rfl, own_mono HO.out (Below.size KB.out), Kp.trans KB.out HK.out⟩
open Go.RowKit Go.ChangeShapes Go.WideShapes

theorem slb_take {b off n c m : Nat} {bs : List Int} {w : World} (h : SlB (.slice (some ⟨b, off, none⟩) n c) bs w) (hm : m ≤ n) : SlB (.slice (some ⟨b, off, none⟩) m c) (bs.take m) w := by
  have hl := h.len
  rcases Nat.eq_zero_or_pos m with rfl | hp
  · exact .inl ⟨by simp, _, c, rfl, fun h => by cases h⟩
  · rcases h with ⟨rfl, _⟩ | ⟨b', off', c', h0, hv, hc⟩
    · simp at hl; omega
    · injection hv with h1 h2 h3
      injection h1 with h1
      injection h1 with h4 h5
      subst h4 h5
      have hml : (bs.take m).length = m := by simp; omega
      refine .inr ⟨b, off, c, by omega, by rw [hml], fun j hj => ?_⟩
      rw [hc j (by omega)]
      simp [List.getD, show j < m by omega]
theorem slb_drop {b off n c m : Nat} {bs : List Int} {w : World} (h : SlB (.slice (some ⟨b, off, none⟩) n c) bs w) (hm : m ≤ n) (hnc : n ≤ c) : SlB (.slice (some ⟨b, if c = m then off else off + m, none⟩) (n - m) (c - m)) (bs.drop m) w := by
  have hl := h.len
  rcases Nat.eq_zero_or_pos (n - m) with hz | hp
  · rw [hz]
    exact .inl ⟨by rw [List.drop_of_length_le]; omega, _, _, rfl, fun h => by cases h⟩
  · have hcm : ¬ c = m := by omega
    rw [if_neg hcm]
    rcases h with ⟨rfl, _⟩ | ⟨b', off', c', h0, hv, hc⟩
    · simp at hl; omega
    · injection hv with h1 h2 h3
      injection h1 with h1
      injection h1 with h4 h5
      subst h4 h5
      have hml : (bs.drop m).length = n - m := by simp; omega
      refine .inr ⟨b, off + m, c - m, by omega, by rw [hml], fun j hj => ?_⟩
      rw [Nat.add_assoc, hc (m + j) (by omega)]
      simp [List.getD, List.getElem?_drop]

theorem byte_elem : Tryz.prog.elem 55 = 5 := by simp [Program.elem, Tryz.underlying55]
theorem byte_sl : Tryz.prog.underlying 55 = some (.slice (Tryz.prog.elem 55)) := by simp [Program.elem, Tryz.underlying55]
theorem run_head {b off n c m : Nat} {mm : Int} (hmm : (m : Int) = mm) (hm : m ≤ n) (hnc : n ≤ c) (w : World) :
    (Instr.slice 55 (.slice (some ⟨b, off, none⟩) n c) none (some (.int .i64 mm)) none).run Tryz.prog w = .ok (.slice (some ⟨b, off, none⟩) m c) w := by
  rw [run_slice_h w 55 _ _ _ byte_sl .i64 _ (by omega) (by omega), byte_elem, byte_sz]
  have e : mm.toNat = m := by omega
  simp [Result.andThen, sliced, Addr.add, e]
theorem run_tail {b off n c m : Nat} {mm : Int} (hmm : (m : Int) = mm) (hm : m ≤ n) (w : World) :
    (Instr.slice 55 (.slice (some ⟨b, off, none⟩) n c) (some (.int .i64 mm)) none none).run Tryz.prog w = .ok (.slice (some ⟨b, if c = m then off else off + m, none⟩) (n - m) (c - m)) w := by
  rw [run_slice_l w 55 _ _ _ byte_sl .i64 _ (by omega) (by omega), byte_elem, byte_sz]
  have e : mm.toNat = m := by omega
  simp [Result.andThen, sliced, Addr.add, e]
  split <;> simp

/-- A BOX OF A SLICE OF BYTES. -/
abbrev boxS (v : Value) : Obj := .cells #[v] 55 (0, 0)

theorem take_ok (ads : List Addr) (p b off n c m : Nat) (mm : Int) (hmm : (m : Int) = mm) (hm : m ≤ n) (hnc : n ≤ c) (w : World) (V : St ads w) (hp : w.heap[p]? = some (boxS (.slice (some ⟨b, off, none⟩) n c))) :
    Calls Tryz.prog 134 #[.int .i64 mm, .pointer (some ⟨p, 0, none⟩)] w fun e w' => e = .returned (.slice (some ⟨b, off, none⟩) m c) ∧ w' = w.setCell ⟨p, 0, none⟩ (.slice (some ⟨b, if c = m then off else off + m, none⟩) (n - m) (c - m)) := by
  have h14 : ads.length = 14 := V.len
  obtain ⟨e1, c1⟩ : ∃ e1, w.cell? ⟨1, 0, none⟩ = some (snt e1) := ⟨ads[1]'(by omega), V.cell 1 (by decide)⟩
  have cp := cell_of_one hp
  have zp := free_of_one hp
  have s1 := fun w => run_head (b := b) (off := off) hmm hm hnc w
  have s2 := fun w => run_tail (b := b) (off := off) (c := c) hmm hm w
  obtain ⟨o2, ho2⟩ : ∃ o2, (if c = m then off else off + m) = o2 := ⟨_, rfl⟩
  obtain ⟨n2, hn2⟩ : ∃ n2, n - m = n2 := ⟨_, rfl⟩
  obtain ⟨c2, hc2⟩ : ∃ c2, c - m = c2 := ⟨_, rfl⟩
  rw [ho2, hn2, hc2] at s2 ⊢
  have hle : mm ≤ n := by omega
  clear V h14 ho2 hn2 hc2 hmm hm hnc
  go_enter Tryz.func134, Tryz.ntmps134
  go_wp2_with (go_at_call 126; (with_reducible refine (demand_t _ _).mono ?_); rintro e w' ⟨rfl, rfl⟩)
  go_ret
  exact ⟨rfl, rfl⟩

theorem take_short (ads : List Addr) (h1 : 1 < ads.length) (p : Nat) (a : Option Addr) (n c m : Nat) (mm : Int) (hmm : (m : Int) = mm) (hm : n < m) (w : World) (V : St ads w) (hp : w.heap[p]? = some (boxS (.slice a n c))) :
    Calls Tryz.prog 134 #[.int .i64 mm, .pointer (some ⟨p, 0, none⟩)] w fun e w' => e = .panicked [{ v := snt (ads[1]'h1), recovered := false }] ∧ w = w' := by
  have c1 : w.cell? ⟨1, 0, none⟩ = some (snt (ads[1]'h1)) := V.cell 1 (by decide)
  obtain ⟨e1, he1⟩ : ∃ a, ads[1]'h1 = a := ⟨_, rfl⟩
  rw [he1] at c1 ⊢
  have cp := cell_of_one hp
  have hle : decide (mm ≤ n) = false := decide_eq_false (by omega)
  clear V he1 hmm hm
  go_enter Tryz.func134, Tryz.ntmps134
  go_wp2_with (go_at_call 126; (with_reducible refine (demand_f _ _).mono ?_); rintro e w' ⟨rfl, rfl⟩)
  exact ⟨rfl, rfl, rfl⟩
open Go.RowKit Go.ChangeShapes Go.WideShapes

/-- ALL BUT THE BLOCK p IS AS IT WAS. -/
def Kb (p : Nat) (w w' : World) : Prop := w.heap.size ≤ w'.heap.size ∧ ∀ b, b ≠ p → b < w.heap.size → w'.heap[b]? = w.heap[b]?
theorem Kb.refl (p : Nat) (w : World) : Kb p w w := ⟨Nat.le_refl _, fun _ _ _ => rfl⟩
theorem Kb.kp {p : Nat} {w w1 w2 : World} (h : Kb p w w1) (hk : Kp w1 w2) : Kb p w w2 := ⟨Nat.le_trans h.1 (Below.size hk), fun b hb hl => by rw [Below.block hk b (Nat.lt_of_lt_of_le hl h.1)]; exact h.2 b hb hl⟩
theorem Kb.set {p : Nat} {w w1 : World} (h : Kb p w w1) (v : Value) : Kb p w (w1.setCell ⟨p, 0, none⟩ v) := ⟨by simp; exact h.1, fun b hb hl => by rw [Below.heap_setCell _ _ _ _ hb]; exact h.2 b hb hl⟩
theorem Kb.setNew {p q : Nat} {w w1 : World} (h : Kb p w w1) (hq : w.heap.size ≤ q) (v : Value) : Kb p w (w1.setCell ⟨q, 0, none⟩ v) := ⟨by simp; exact h.1, fun b hb hl => by rw [Below.heap_setCell _ _ _ _ (by simp; omega)]; exact h.2 b hb hl⟩
theorem Kb.grow {p : Nat} {w w1 w2 : World} {base n size : Nat} {e : TypeId} {v : Value} {xs : List Value} (h : Kb p w w1) (hown : w1.ownsRow base e size v n xs) (hb : w.heap.size ≤ base) (hgr : w1.grownBy w2 v.ownBlock) : Kb p w w2 :=
  ⟨Nat.le_trans h.1 hgr.size, fun b hne hl => by
    have hl1 : b < w1.heap.size := Nat.lt_of_lt_of_le hl h.1
    have hr : w1.heap[b]? = some w1.heap[b] := by simp [hl1]
    rw [box_grow hown hgr hr (by omega), ← hr]
    exact h.2 b hne hl⟩
theorem Kb.past {p B : Nat} {w w' : World} (h : Kb p w w') (hp : p < B) : Past B w w' := ⟨h.1, fun b hb hl => h.2 b (by omega) hl⟩

theorem drewN_kp (w : World) (n : Nat) : Kp w (w.drewN n) := by
  induction n with
  | zero => exact Kp.refl _
  | succ n ih => exact ih.drew

open Go.RowKit Go.ChangeShapes Go.WideShapes

theorem dig8 (n : Nat) : digB n 8 = f8 n := by
  unfold digB f8
  simp [List.range_succ]

theorem float_any (b : Nat) (hb : b < 18446744073709551616) (w : World) :
    Calls Tryz.prog 89 #[.float .f64 b] w fun e w' => ∃ v, e = .returned v ∧ w'.ownsRow w.heap.size 5 1 v 8 ((f8 (Fl.plain b)).map (Value.int .u8)) ∧ Kp w w' := by
  have hp := Fl.plain_lt hb
  have HB := Lib.hid (fun w => bits_any b w hb)
  have HD := Lib.hid (fun w => digits_any (Fl.plain b) 8 hp (by omega) (Fl.plain b) 8 rfl rfl w)
  have HE := Lib.hid (dig8 (Fl.plain b))
  clear hb hp
  go_enter Tryz.func89, Tryz.ntmps89
  go_wp2_with (first | (go_at_call 98; (with_reducible refine (HB.out _).mono ?_); rintro e w' ⟨rfl, rfl⟩) | (go_at_call 127; (with_reducible refine (HD.out _).mono ?_); rintro e w' ⟨rfl, ho, hk⟩; rw [HE.out] at ho; have HO := Lib.hid ho; have HK := Lib.hid hk; clear ho hk))
  go_ret
  exact ⟨_, rfl, HO.out, HK.out⟩

theorem from_any (F : Int) (N : Nat) (hN : F.toNat = N) (h64 : N < 18446744073709551616) (w : World) :
    Calls Tryz.prog 139 #[.int .u64 F] w fun e w' => e = .returned (.float .f64 (Fl.plain N)) ∧ w = w' := by
  have e1 : ∀ w, (callFunc 99 #[.int .u64 F]).run Tryz.prog w = .ok (.value (.float .f64 N)) w := by
    intro w; rw [← hN]; exact ext_fromI F w
  have HP := Lib.hid (fun w => plain_any N w h64)
  clear h64 hN
  go_enter Tryz.func139, Tryz.ntmps139
  go_wp2_with (go_at_call 141; (with_reducible refine (HP.out _).mono ?_); rintro e w' ⟨rfl, rfl⟩)
  go_ret
  exact ⟨rfl, rfl⟩

theorem plain_nan : Fl.isNan 9221120237041090561 = true := by decide +kernel
theorem plain_zero : Fl.isNan 0 = false := by decide +kernel
theorem plain_idem (b : Nat) : Fl.plain (Fl.plain b) = Fl.plain b := by
  unfold Fl.plain
  by_cases h : Fl.isNan b = true
  · rw [if_pos h, if_pos plain_nan]
  · rw [if_neg h]
    by_cases h2 : b = 9223372036854775808
    · rw [if_pos h2, if_neg (by rw [plain_zero]; decide), if_neg (by decide)]
    · rw [if_neg h2, if_neg h, if_neg h2]

theorem toFloat1_len (ads : List Addr) (h3' : 3 < ads.length) (p : Addr) (a : Option Addr) (cap len : Nat) (h8 : len ≠ 8) (w : World) (V : St ads w) (hp : w.cell? p = some (.slice a len cap)) :
    Calls Tryz.prog 138 #[.pointer (some p)] w fun e w' => e = .panicked [{ v := snt (ads[3]'h3'), recovered := false }] ∧ Kp w w' := by
  have c3 : w.cell? ⟨3, 0, none⟩ = some (snt (ads[3]'h3')) := V.cell 3 (by decide)
  obtain ⟨e3, he3⟩ : ∃ a, ads[3]'h3' = a := ⟨_, rfl⟩
  rw [he3] at c3 ⊢
  obtain ⟨ll, hll⟩ : ∃ ll : Int, (len : Int) = ll := ⟨_, rfl⟩
  have hd : (ll == 8) = false := by simp; omega
  clear V he3 h8
  go_enter Tryz.func138, Tryz.ntmps138
  go_wp2_with (go_at_call 126; (with_reducible refine (demand_f _ _).mono ?_); rintro e w' ⟨rfl, rfl⟩)
  exact ⟨rfl, rfl, Kp.refl _⟩

theorem calls_flip {P : Program} {f : FuncId} {args : Array Value} {w : World} {v : Value} (h : Calls P f args w fun e w' => e = .returned v ∧ w = w') : Calls P f args w fun e w' => e = .returned v ∧ w' = w :=
  h.mono fun _ _ h => ⟨h.1, h.2.symm⟩

set_option maxRecDepth 20000 in
theorem toFloat1_any (ads : List Addr) (h3' : 3 < ads.length) (p : Addr) (a : Option Addr) (cap : Nat) (bs : List Int) (hlen : bs.length = 8) (hb : InB bs) (w : World) (V : St ads w) (hp : w.cell? p = some (.slice a 8 cap)) (hs : SlB (.slice a 8 cap) bs w) :
    Calls Tryz.prog 138 #[.pointer (some p)] w fun e w' => ((Fl.plain (beNum bs).toNat = (beNum bs).toNat ∧ e = .returned (.float .f64 (beNum bs).toNat)) ∨ (Fl.plain (beNum bs).toNat ≠ (beNum bs).toNat ∧ e = .panicked [{ v := snt (ads[3]'h3'), recovered := false }])) ∧ Kp w w' := by
  have c3 : w.cell? ⟨3, 0, none⟩ = some (snt (ads[3]'h3')) := V.cell 3 (by decide)
  obtain ⟨e3, he3⟩ : ∃ a, ads[3]'h3' = a := ⟨_, rfl⟩
  rw [he3] at c3 ⊢
  have hr := beNum_range hb 8 (by omega)
  rw [show bs.take 8 = bs from List.take_of_length_le (by omega), show (256 : Int) ^ 8 = 18446744073709551616 from by decide] at hr
  have hv := fun w1 (hk : Kp w w1) => value_any a cap bs 8 hlen (by omega) hb w1 (hs.kp hk)
  obtain ⟨F, hF⟩ : ∃ F, beNum bs = F := ⟨_, rfl⟩
  simp only [hF] at hv hr ⊢
  obtain ⟨N, hN⟩ : ∃ N, F.toNat = N := ⟨_, rfl⟩
  rw [hN]
  have h64 : N < 18446744073709551616 := by omega
  have HV := Lib.hid hv
  have HF := Lib.hid (fun w => from_any F N hN h64 w)
  have hpl := Fl.plain_lt h64
  have hbt : ∀ w, Calls Tryz.prog 98 #[.float .f64 (Fl.plain N)] w fun e w' => e = .returned (.int .u64 (Fl.plain N)) ∧ w = w' := by
    intro w
    have := bits_any (Fl.plain N) w hpl
    rw [plain_idem] at this
    exact this
  obtain ⟨PP, hPP⟩ : ∃ PP : Int, ((Fl.plain N : Nat) : Int) = PP := ⟨_, rfl⟩
  simp only [hPP] at hbt
  have HB := Lib.hid hbt
  have KD := Lib.hid (Kp.refl w).drew
  have hp' : w.drew.cell? p = some (.slice a 8 cap) := hp
  have hc' : w.drew.cell? ⟨3, 0, none⟩ = some (snt e3) := c3
  by_cases hq : Fl.plain N = N
  · have hbq : (PP == F) = true := by simp; omega
    have HQ := Lib.hid hq
    clear V he3 hr hv hF hN hpl hbt hPP hs hb hlen hq h64
    go_enter Tryz.func138, Tryz.ntmps138
    go_wp2_with (first | (go_at_call 126; (with_reducible refine (demand_t _ _).mono ?_); rintro e w' ⟨rfl, rfl⟩) | (go_at_call 135; (with_reducible refine (HV.out _ (Kp.refl _)).mono ?_); rintro e w' ⟨rfl, rfl⟩) | (go_at_call 139; (with_reducible refine (HF.out _).mono ?_); rintro e w' ⟨rfl, rfl⟩))
    refine wp_region_still_tail 6 (by kernel_rfl) (by kernel_rfl) ?_
    simp only [List.take_succ_cons, List.take_zero, List.drop_succ_cons, List.drop_zero]
    still_step
    still_call (calls_flip (HB.out _))
    still_step
    still_call (calls_flip (HV.out _ KD.out))
    still_step
    still_step
    refine wpStill_nil ?_
    change wpList _ _ _ _ _ w.drew
    go_wp2_with (go_at_call 126; (with_reducible refine (demand_t _ _).mono ?_); rintro e w' ⟨rfl, rfl⟩)
    go_ret
    exact ⟨.inl ⟨HQ.out, by rw [HQ.out]; rfl⟩, KD.out⟩
  · have hbq : (PP == F) = false := by simp; omega
    have HQ := Lib.hid hq
    clear V he3 hr hv hF hN hpl hbt hPP hs hb hlen hq h64
    go_enter Tryz.func138, Tryz.ntmps138
    go_wp2_with (first | (go_at_call 126; (with_reducible refine (demand_t _ _).mono ?_); rintro e w' ⟨rfl, rfl⟩) | (go_at_call 135; (with_reducible refine (HV.out _ (Kp.refl _)).mono ?_); rintro e w' ⟨rfl, rfl⟩) | (go_at_call 139; (with_reducible refine (HF.out _).mono ?_); rintro e w' ⟨rfl, rfl⟩))
    refine wp_region_still_tail 6 (by kernel_rfl) (by kernel_rfl) ?_
    simp only [List.take_succ_cons, List.take_zero, List.drop_succ_cons, List.drop_zero]
    still_step
    still_call (calls_flip (HB.out _))
    still_step
    still_call (calls_flip (HV.out _ KD.out))
    still_step
    still_step
    refine wpStill_nil ?_
    change wpList _ _ _ _ _ w.drew
    go_wp2_with (go_at_call 126; (with_reducible refine (demand_f _ _).mono ?_); rintro e w' ⟨rfl, rfl⟩)
    exact ⟨rfl, .inr ⟨HQ.out, rfl⟩, KD.out⟩

theorem toFloat_err (ads : List Addr) (k : Nat) (hk : k < ads.length) (a : Option Addr) (cap len : Nat) (w : World) (V : St ads w)
    (H : ∀ w1, Kp w w1 → w1.cell? ⟨w.heap.size, 0, none⟩ = some (.slice a len cap) → Calls Tryz.prog 138 #[.pointer (some ⟨w.heap.size, 0, none⟩)] w1 fun e w' => e = .panicked [{ v := snt (ads[k]'hk), recovered := false }] ∧ Kp w1 w') :
    Calls Tryz.prog 96 #[.slice a len cap] w fun e w' => e = .returned (.tuple #[.float .f64 0, snt (ads[k]'hk)]) ∧ Kp w w' := by
  have hmf : ∀ (fn : Fn) (first cap : Array Value) (w : World), (Instr.makeFunc fn first cap).run Tryz.prog w = .ok (.func fn first cap) w := fun _ _ _ _ => rfl
  have kb := kp_alloc w (.cells #[.slice a len cap] 55)
  have hc := box_cell w (.slice a len cap) 55
  have HT := Lib.hid (try_f64_err ads k hk 138 #[.pointer (some ⟨w.heap.size, 0, none⟩)] (w.alloc (.cells #[.slice a len cap] 55)) (V.below kb) (by intro w; simp [go_sem]) fun w1 h1 => H w1 (Kp.trans kb h1) (kp_cell h1 hc))
  have KB := Lib.hid kb
  clear kb hc V H
  go_enter Tryz.func96, Tryz.ntmps96
  go_wp2_with (go_at_call 137; (with_reducible refine HT.out.mono ?_); rintro e w' ⟨rfl, hk⟩; have HK := Lib.hid hk; clear hk)
  go_ret2
  exact ⟨rfl, Kp.trans KB.out HK.out⟩

theorem toFloat_val (x : Nat) (a : Option Addr) (cap len : Nat) (w : World)
    (H : ∀ w1, Kp w w1 → w1.cell? ⟨w.heap.size, 0, none⟩ = some (.slice a len cap) → Calls Tryz.prog 138 #[.pointer (some ⟨w.heap.size, 0, none⟩)] w1 fun e w' => e = .returned (.float .f64 x) ∧ Kp w1 w') :
    Calls Tryz.prog 96 #[.slice a len cap] w fun e w' => e = .returned (.tuple #[.float .f64 x, .nilIface]) ∧ Kp w w' := by
  have hmf : ∀ (fn : Fn) (first cap : Array Value) (w : World), (Instr.makeFunc fn first cap).run Tryz.prog w = .ok (.func fn first cap) w := fun _ _ _ _ => rfl
  have kb := kp_alloc w (.cells #[.slice a len cap] 55)
  have hc := box_cell w (.slice a len cap) 55
  have HT := Lib.hid (try_f64_val 138 #[.pointer (some ⟨w.heap.size, 0, none⟩)] x (w.alloc (.cells #[.slice a len cap] 55)) (by intro w; simp [go_sem]) fun w1 h1 => H w1 (Kp.trans kb h1) (kp_cell h1 hc))
  have KB := Lib.hid kb
  clear kb hc H
  go_enter Tryz.func96, Tryz.ntmps96
  go_wp2_with (go_at_call 137; (with_reducible refine HT.out.mono ?_); rintro e w' ⟨rfl, hk⟩; have HK := Lib.hid hk; clear hk)
  go_ret2
  exact ⟨rfl, Kp.trans KB.out HK.out⟩

theorem toFloat_any (ads : List Addr) (h3 : 3 < ads.length) (a : Option Addr) (cap : Nat) (bs : List Int) (len : Nat) (hlen : bs.length = len) (hb : InB bs) (w : World) (V : St ads w) (hs : SlB (.slice a len cap) bs w) :
    Calls Tryz.prog 96 #[.slice a len cap] w fun e w' => ((toFl bs).2 = 0 ∧ e = .returned (.tuple #[.float .f64 (toFl bs).1, .nilIface]) ∨ (toFl bs).2 = 4 ∧ (toFl bs).1 = 0 ∧ e = .returned (.tuple #[.float .f64 0, snt (ads[3]'h3)])) ∧ Kp w w' := by
  by_cases h8 : len = 8
  · subst h8
    have H := fun w1 (hk : Kp w w1) (hc : w1.cell? ⟨w.heap.size, 0, none⟩ = some (.slice a 8 cap)) => toFloat1_any ads h3 _ a cap bs hlen hb w1 (V.below hk) hc (hs.kp hk)
    by_cases hq : Fl.plain (beNum bs).toNat = (beNum bs).toNat
    · have e : toFl bs = ((beNum bs).toNat, 0) := by unfold toFl; rw [if_pos ⟨hlen, hq⟩]
      rw [e]
      refine (toFloat_val (beNum bs).toNat a cap 8 w fun w1 hk hc => (H w1 hk hc).mono ?_).mono ?_
      · rintro e w2 ⟨⟨_, rfl⟩ | ⟨h, _⟩, hk2⟩
        · exact ⟨rfl, hk2⟩
        · exact absurd hq h
      · rintro e w2 ⟨rfl, hk2⟩
        exact ⟨.inl ⟨rfl, rfl⟩, hk2⟩
    · have e : toFl bs = (0, 4) := by unfold toFl; rw [if_neg (fun h => hq h.2)]
      rw [e]
      refine (toFloat_err ads 3 h3 a cap 8 w V fun w1 hk hc => (H w1 hk hc).mono ?_).mono ?_
      · rintro e w2 ⟨⟨h, _⟩ | ⟨_, rfl⟩, hk2⟩
        · exact absurd h hq
        · exact ⟨rfl, hk2⟩
      · rintro e w2 ⟨rfl, hk2⟩
        exact ⟨.inr ⟨rfl, rfl, rfl⟩, hk2⟩
  · have e : toFl bs = (0, 4) := by unfold toFl; rw [if_neg (fun h => h8 (by omega))]
    rw [e]
    refine (toFloat_err ads 3 h3 a cap len w V fun w1 hk hc => toFloat1_len ads h3 _ a cap len h8 w1 (V.below hk) hc).mono ?_
    rintro e w2 ⟨rfl, hk2⟩
    exact ⟨.inr ⟨rfl, rfl, rfl⟩, hk2⟩
end Go.Proofs.YtpemeenfhkgmpaaGreatDoor
