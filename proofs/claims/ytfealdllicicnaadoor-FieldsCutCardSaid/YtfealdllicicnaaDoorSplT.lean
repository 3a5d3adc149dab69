/-
  liaisonref03.Split (own work): the walk.
-/
import Derived.Test.YtfealdllicicnaaDoorSplR
namespace Go.Proofs.YtfealdllicicnaaDoor
open Go.RowKit Go.ChangeShapes Go.WideShapes

set_option maxRecDepth 20000 in
set_option maxHeartbeats 2000000 in
theorem refSplit_any (a : Option Addr) (cap : Nat) (bs : List Int) (len : Nat) (hlen : bs.length = len) (hl : len ≤ 1000000) (hlc : len ≤ cap) (hb : InB bs) (w : World) (hs : SlB (.slice a len cap) bs w) :
    Calls Tryd.prog 20 #[.slice a len cap] w fun e w' => ∃ v, e = .returned (.tuple #[v, .int .i64 (splitQ 17 bs 0 0).1]) ∧ ((splitQ 17 bs 0 0).1 = 0 → SlQ v (splitQ 17 bs 0 0).2 w') ∧ ((splitQ 17 bs 0 0).1 ≠ 0 → v = .slice none 0 0) ∧ Kp w w' := by
  have hel : ∀ j (hj : j < bs.length), ∃ b off, a = some ⟨b, off, none⟩ ∧ w.cell? ⟨b, off + j, none⟩ = some (.int .u8 (bs.getD j 0)) := fun j hj => hs.at j hj
  have HEL := Lib.hid hel
  have HL := Lib.hid hlen
  have HB := Lib.hid hb
  have HS := Lib.hid hs
  have OW0 := Lib.hid (own_empty2 w 63 2)
  have HIB := Lib.hid (info_parts info_byte)
  have HIF := Lib.hid (info_parts info_fieldT)
  obtain ⟨RES, hres⟩ : ∃ RES, splitQ 17 bs 0 0 = RES := ⟨_, rfl⟩
  rw [hres]
  have HRES := Lib.hid hres
  clear hel hs hlen hb hres
  go_enter Tryd.func20, Tryd.ntmps20
  go_wp2
  go_loopw [4, 5, 6] (fun v l i wr => ∃ (gs : List (Int × List Int × Value)) (at' : Nat) (last : Int), at' ≤ len ∧ gs.length ≤ 16 ∧ l = .int .i64 last ∧ i = .int .i64 at' ∧ Kp w wr ∧ wr.ownsRow w.heap.size 63 2 v gs.length (gs.flatMap cellQ) ∧ OwnD w.heap.size gs wr ∧ RES = ((splitQ (17 - gs.length) (bs.drop at') last gs.length).1, gs.map fldQ ++ (splitQ (17 - gs.length) (bs.drop at') last gs.length).2)) (fun _ _ i _ => len - (intOf i).toNat)
  case atStart => exact ⟨[], 0, 0, Nat.zero_le _, by simp, rfl, rfl, kp_alloc _ _, OW0.out, (fun g hg => by cases hg), by rw [← HRES.out]; rfl⟩
  case round =>
    obtain ⟨gs, at', last, hat, hg16, rfl, rfl, hk, hown, hod, hR⟩ := hrel
    have HK := Lib.hid hk
    have HOW := Lib.hid hown
    have HOD := Lib.hid hod
    have HLL := HL.out
    obtain ⟨k, hk⟩ : ∃ k, gs.length = k := ⟨_, rfl⟩
    obtain ⟨cs, hcs⟩ : ∃ cs, bs.drop at' = cs := ⟨_, rfl⟩
    have hcl : cs.length = len - at' := by rw [← hcs, List.length_drop, HLL]
    have hf : 17 - gs.length = (16 - k) + 1 := by omega
    rw [hf, hk, hcs] at hR
    rw [splitQ] at hR
    obtain ⟨jj, hjj⟩ : ∃ jj : Int, (at' : Int) = jj := ⟨_, rfl⟩
    rw [hjj]
    clear hown hod hf
    by_cases h0 : cs.length = 0
    · rw [if_pos h0] at hR
      have hex : ¬ jj < len := by omega
      have hq := Lib.hid (own_slq rfl HOW.out HOD.out)
      subst hR
      clear hjj hcl h0 HEL
      go_wp2
      go_ret2
      exact ⟨_, rfl, hq.out, HK.out⟩
    · rw [if_neg h0] at hR
      have hlt : jj < len := by omega
      have hj0 : 0 ≤ jj := by omega
      by_cases h3 : cs.length < 3
      · rw [if_pos h3] at hR
        have h3' : (len : Int) - jj < 3 := by omega
        subst hR
        clear hjj hcl h0 HEL
        go_wp2
        go_ret2
        first | exact ⟨⟨_, rfl, rfl⟩, HK.out⟩ | exact ⟨_, rfl, rfl, HK.out⟩
      · rw [if_neg h3] at hR
        have h3' : ¬ (len : Int) - jj < 3 := by omega
        obtain ⟨b, off, rfl, c0⟩ := HEL.out at' (by omega)
        obtain ⟨b1, off1, e1, c1⟩ := HEL.out (at' + 1) (by omega)
        obtain ⟨b2, off2, e2, c2⟩ := HEL.out (at' + 2) (by omega)
        injection e1 with e1
        injection e1 with e1 e3
        subst e1 e3
        injection e2 with e2
        injection e2 with e2 e3
        subst e2 e3
        have g0 : cs.getD 0 0 = bs.getD at' 0 := by rw [← hcs]; simp [List.getD, List.getElem?_drop]
        have g1 : cs.getD 1 0 = bs.getD (at' + 1) 0 := by rw [← hcs]; simp [List.getD, List.getElem?_drop]
        have g2 : cs.getD 2 0 = bs.getD (at' + 2) 0 := by rw [← hcs]; simp [List.getD, List.getElem?_drop]
        have gb : ∀ i, 0 ≤ bs.getD i 0 ∧ bs.getD i 0 < 256 := by
          intro i
          rcases Nat.lt_or_ge i bs.length with q | q
          · have := HB.out bs[i] (List.getElem_mem _)
            simpa [List.getD, q] using this
          · simp [List.getD, q]
        have r0 := gb at'
        have r1 := gb (at' + 1)
        have r2 := gb (at' + 2)
        clear gb
        have c0 := kp_cell HK.out c0
        have c1 := kp_cell HK.out c1
        have c2 := kp_cell HK.out c2
        rw [g0, g1, g2] at hR
        clear g0 g1 g2
        obtain ⟨x0, hx0⟩ : ∃ x, bs.getD at' 0 = x := ⟨_, rfl⟩
        obtain ⟨x1, hx1⟩ : ∃ x, bs.getD (at' + 1) 0 = x := ⟨_, rfl⟩
        obtain ⟨x2, hx2⟩ : ∃ x, bs.getD (at' + 2) 0 = x := ⟨_, rfl⟩
        rw [hx0] at hR c0 r0
        rw [hx1] at hR c1 r1
        rw [hx2] at hR c2 r2
        have p0 : (jj + 0).toNat = at' := by omega
        have p1 : (jj + 1).toNat = at' + 1 := by omega
        have p2 : (jj + 2).toNat = at' + 2 := by omega
        have pz : jj.toNat = at' := by omega
        rw [← pz] at c0
        rw [← p1] at c1
        rw [← p2] at c2
        have l1 : jj + 1 < len := by omega
        have l2 : jj + 2 < len := by omega
        obtain ⟨n, hn⟩ : ∃ n : Int, x1 * 256 + x2 = n := ⟨_, rfl⟩
        rw [hn] at hR
        have HJ := Lib.hid hjj
        have HCL := Lib.hid hcl
        have HCS := Lib.hid hcs
        have HN := Lib.hid hn
        have HK16 := Lib.hid hk
        have HR := Lib.hid hR
        obtain ⟨av, cv, hv⟩ := (own_slq rfl HOW.out HOD.out).form
        rw [List.length_map, hk] at hv
        subst hv
        clear hx0 hx1 hx2 p0 p1 p2 pz hjj hcl hcs h0 h3 HEL hR
        go_wp2
        go_region
        by_cases q1 : x0 ≤ last
        · have hR := HR.out
          rw [if_pos (.inl q1)] at hR
          subst hR
          go_wp2
          go_ret2
          first | exact ⟨⟨_, rfl, rfl⟩, HK.out.drew⟩ | exact ⟨_, rfl, rfl, HK.out.drew⟩
        by_cases q2 : 200 < n
        · have hR := HR.out
          rw [if_pos (.inr (.inl q2))] at hR
          subst hR
          have q1' : last < x0 := by omega
          go_wp2
          go_ret2
          first | exact ⟨⟨_, rfl, rfl⟩, HK.out.drew⟩ | exact ⟨_, rfl, rfl, HK.out.drew⟩
        by_cases q3 : k = 16
        · have hR := HR.out
          rw [if_pos (.inr (.inr q3))] at hR
          subst hR
          subst q3
          have q1' : last < x0 := by omega
          have q2' : n ≤ 200 := by omega
          go_wp2
          go_ret2
          first | exact ⟨⟨_, rfl, rfl⟩, HK.out.drew⟩ | exact ⟨_, rfl, rfl, HK.out.drew⟩
        have hR := HR.out
        rw [if_neg (by omega)] at hR
        have q1' : last < x0 := by omega
        have q2' : n ≤ 200 := by omega
        have q3' : ((k : Int) == 16) = false := by simp; omega
        have hcl := HCL.out
        have hjj := HJ.out
        by_cases q4 : (len : Int) - jj - 3 < n
        · rw [if_pos (by omega)] at hR
          subst hR
          clear hcl hjj
          go_wp2
          go_ret2
          first | exact ⟨⟨_, rfl, rfl⟩, HK.out.drew⟩ | exact ⟨_, rfl, rfl, HK.out.drew⟩
        rw [if_neg (by omega)] at hR
        have q5 : jj + 3 + n ≤ len := by omega
        have n0 : 0 ≤ n := by omega
        obtain ⟨A, C, hrun, hwin⟩ := slb_window (HS.out.kp HK.out) hlc (show (at' + 3) + n.toNat ≤ len by omega)
        have z1 : ((at' + 3 : Nat) : Int) = jj + 3 := by omega
        have z2 : ((at' + 3 + n.toNat : Nat) : Int) = jj + 3 + n := by omega
        rw [z1, z2] at hrun
        have hdrop : (cs.drop 3).take n.toNat = (bs.drop (at' + 3)).take n.toNat := by rw [← HCS.out, List.drop_drop]
        have hwl : ((bs.drop (at' + 3)).take n.toNat).length = n.toNat := by have := HL.out; simp; omega
        obtain ⟨ws, hws⟩ : ∃ ws, (bs.drop (at' + 3)).take n.toNat = ws := ⟨_, rfl⟩
        rw [hws] at hwin hwl hdrop
        have HWL := Lib.hid hwl
        have hwb : InB ws := by
          intro x hx
          rw [← hws] at hx
          exact HB.out x (List.mem_of_mem_drop (List.mem_of_mem_take hx))
        have HWB := Lib.hid hwb
        rw [hdrop] at hR
        have HR2 := Lib.hid hR
        have how := HOW.out
        rw [hk] at how
        have HOWK := Lib.hid how
        have hod := HOD.out
        have HODK := Lib.hid hod
        have K1 := Lib.hid (Kp.refl wr).drew
        have K2 := Lib.hid (kp_alloc wr.drew (.cells #[] 5))
        have OWE := Lib.hid (own_empty2 wr.drew 5 1)
        have HWIN := Lib.hid (hwin.kp (Kp.trans K1.out K2.out))
        have hk16 : k < 16 := by omega
        have hn2 : n.toNat ≤ 200 := by omega
        clear hcl hjj hR z1 z2 hwin hws how hod hdrop hwl hwb
        go_wp2_with (at_builtin; refine wpList_append_slb _ rfl (.tmp 59) (.tmp 67) rfl wr.drew.heap.size _ _ _ rfl OWE.out A n.toNat C ws rfl HWIN.out ?d1 ?d2 ?_)
        case d1 => omega
        rintro v5 w5 hown5 hgr5 -
        have kp5 : Kp wr w5 := Kp.trans K1.out (row_kp OWE.out hgr5 K2.out)
        obtain ⟨a5, c5, rfl⟩ := (own_slb hown5).form
        rw [HWL.out] at hown5
        have HWL2 := HWL.out
        rw [HWL2]
        have HO5 := Lib.hid hown5
        have KP5 := Lib.hid kp5
        have K6 := Lib.hid (kp_alloc w5 (.cells #[.int .i64 x0, .slice a5 n.toNat c5] 63))
        have OW6 := Lib.hid (own_kp HOWK.out (Kp.trans kp5 (kp_alloc w5 (.cells #[.int .i64 x0, .slice a5 n.toNat c5] 63))))
        have hb6 : (w5.alloc (.cells #[.int .i64 x0, .slice a5 n.toNat c5] 63)).heap[w5.heap.size]? = some (.cells #[.int .i64 x0, .slice a5 n.toNat c5] 63 (0, 0)) := (MapKept.heap_alloc _ _).1
        have HB6 := Lib.hid hb6
        have HSZ := Lib.hid (Below.size (Kp.trans HK.out (Kp.trans kp5 (kp_alloc w5 (.cells #[.int .i64 x0, .slice a5 n.toNat c5] 63)))))
        obtain ⟨i0, hi, hz0, hz1, hz2⟩ := HIF.out
        have HI := Lib.hid (And.intro hz1 hz2)
        have HI2 := Lib.hid hi
        have HI3 := Lib.hid hz0
        clear hown5 hgr5 kp5 HWL2 hb6 hi hz0 hz1 hz2
        go_wp2_with (at_builtin; refine wpList_append_own _ rfl (.tmp 57) (.tmp 70) 22 rfl w.heap.size 63 i0 (.agg #[.int .i64 0, .slice none 0 0]) 2 32 Tryd.underlying22 HI2.out HI3.out HI.out.1 HI.out.2 rfl (by decide) _ _ _ rfl OW6.out ⟨w5.heap.size, 0, none⟩ 1 1 [.int .i64 x0, .slice a5 n.toNat c5] rfl ?c1 ?c2 ?c3 ?c4 ?c5 ?c6 ?_)
        case c1 => rfl
        case c2 =>
          intro i u hi
          rw [add_plain]
          unfold World.cell?
          dsimp only
          rw [HB6.out]
          have hi3 : i < 2 := by
            rcases Nat.lt_or_ge i 2 with q | q
            · exact q
            · rw [List.getElem?_eq_none (by simpa using q)] at hi; cases hi
          match i, hi3, hi with
          | 0, _, hi | 1, _, hi => simpa using hi
        case c3 => intro u hu; simp at hu; rcases hu with rfl | rfl <;> rfl
        case c4 => unfold maxLen; omega
        case c5 => omega
        case c6 => exact HSZ.out
        rintro v6 w6 hown6 hgr6 -
        have kp6 : Kp w w6 := rows_kp OW6.out hgr6 (Kp.trans HK.out (Kp.trans KP5.out K6.out))
        have hgl : (gs ++ [(x0, ws, Value.slice a5 n.toNat c5)]).length = k + 1 := by simp [HK16.out]
        have od6 : OwnD w.heap.size (gs ++ [(x0, ws, Value.slice a5 n.toNat c5)]) w6 := by
          intro g hg
          rcases List.mem_append.1 hg with hg | hg
          · exact ((HODK.out.kp (Kp.trans KP5.out K6.out)).grows OW6.out hgr6) g hg
          · have : g = (x0, ws, Value.slice a5 n.toNat c5) := by simpa using hg
            subst this
            refine ⟨?_, HWB.out⟩
            rw [HWL.out]
            exact own_grows OW6.out hgr6 (own_kp (own_mono HO5.out (Below.size HK.out)) K6.out) (by decide)
        have own6 : w6.ownsRow w.heap.size 63 2 v6 (gs ++ [(x0, ws, Value.slice a5 n.toNat c5)]).length ((gs ++ [(x0, ws, Value.slice a5 n.toNat c5)]).flatMap cellQ) := by
          rw [hgl, List.flatMap_append]
          exact hown6
        have O6 := Lib.hid own6
        have D6 := Lib.hid od6
        have KP6 := Lib.hid kp6
        have HGL := Lib.hid hgl
        clear own6 od6 kp6 hown6 hgr6 hgl
        go_wp2
        have hjj := HJ.out
        go_roundw
        case rel =>
          have e1 : ((at' + (3 + n.toNat) : Nat) : Int) = jj + (3 + n) := by omega
          refine ⟨gs ++ [(x0, ws, Value.slice a5 n.toNat c5)], at' + (3 + n.toNat), x0, by omega, by rw [HGL.out]; omega, rfl, by rw [e1], KP6.out, O6.out, D6.out, ?_⟩
          have e2 : bs.drop (at' + (3 + n.toNat)) = cs.drop (3 + n.toNat) := by rw [← HCS.out, List.drop_drop]
          rw [HGL.out, HR2.out, e2, show 17 - (k + 1) = 16 - k by omega]
          simp [fldQ]
        case measure => simp [intOf]; omega
end Go.Proofs.YtfealdllicicnaaDoor
