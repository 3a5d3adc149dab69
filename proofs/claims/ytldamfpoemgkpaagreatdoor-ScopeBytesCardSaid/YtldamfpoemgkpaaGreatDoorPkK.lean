/-
  PARTS OF THIS PROOF (own work): EncS, DecS, BytC, BytX, SalV.
-/
import Derived.Test.YtldamfpoemgkpaaGreatDoorPkF
import Derived.Test.YtldamfpoemgkpaaGreatDoorPkC
import Derived.Test.YtldamfpoemgkpaaGreatDoorPkE
import Derived.Test.YtldamfpoemgkpaaGreatDoorPkH
import Derived.Deep.RegionHeld3
import Derived.Test.YtldamfpoemgkpaaGreatDoorPkA
import Derived.Test.YtldamfpoemgkpaaGreatDoorPkI

namespace Go.Proofs.YtldamfpoemgkpaaGreatDoor
open Go.RowKit Go.ChangeShapes Go.WideShapes

theorem enc9_new (w : World) (o0 o1 o2 : Obj) : ∃ w', w' = ((w.alloc o0).alloc o1).alloc o2 ∧ Kp w w' ∧ w'.heap[w.heap.size]? = some o0 ∧ w'.heap[w.heap.size + 1]? = some o1 ∧ w'.heap[w.heap.size + 1 + 1]? = some o2 := by
  have k0 := kp_alloc w o0
  have k1 := kp_alloc (w.alloc o0) o1
  have k2 := kp_alloc ((w.alloc o0).alloc o1) o2
  have r0 := (MapKept.heap_alloc w o0).1
  have r1 := (MapKept.heap_alloc (w.alloc o0) o1).1
  have r2 := (MapKept.heap_alloc ((w.alloc o0).alloc o1) o2).1
  have s1 : (w.alloc o0).heap.size = w.heap.size + 1 := by simp
  have s2 : ((w.alloc o0).alloc o1).heap.size = w.heap.size + 1 + 1 := by simp
  rw [s1] at r1
  rw [s2] at r2
  exact ⟨_, rfl, Kp.trans k0 (Kp.trans k1 k2), kp_row (Kp.trans k1 k2) r0, kp_row k2 r1, r2⟩
set_option maxRecDepth 100000 in
set_option maxHeartbeats 4000000 in
theorem refEncode9_any (c : CX) (hc : c.wf) (hm : ∀ x ∈ c.nums, 0 ≤ x ∧ x ≤ 999999) (w : World) :
    Calls Tryz.prog 9 #[.agg c.cells] w fun e w' => ∃ v, e = .returned v ∧ SlB v (encX c) w' ∧ Kp w w' := by
  have hml : c.nums.length = 4 := rfl
  have hjo := fun (a : Option Addr) (cap len : Nat) (hl : (rowX c).length = len) (w1 : World) (hs : SlQ (.slice a len cap) (rowX c) w1) => refJoin_any a cap (rowX c) len hl (by rw [← hl]; have := rowX_len c; omega) (rowX_small c) w1 hs
  unfold encX
  have hrx : rowX c = rowF 1 c.nums ++ [(5, f8 (Fl.plain c.x))] := rfl
  obtain ⟨RX, hRX⟩ : ∃ y, rowX c = y := ⟨_, rfl⟩
  rw [hRX] at hjo hrx ⊢
  obtain ⟨n, s, o, d, x⟩ := c
  replace hc : x < 18446744073709551616 := hc
  have hfl := fun w1 => refFloat_own x hc w1
  obtain ⟨ns, hns⟩ : ∃ y, CX.nums ⟨n, s, o, d, x⟩ = y := ⟨_, rfl⟩
  rw [hns] at hml hm hrx
  dsimp only [CX.cells] at hrx ⊢
  obtain ⟨fx, hfx⟩ : ∃ y, f8 (Fl.plain x) = y := ⟨_, rfl⟩
  have hfi : InB fx := by rw [← hfx]; exact f8_in _
  have hf8 : fx.length = 8 := by rw [← hfx]; rfl
  rw [hfx] at hfl hrx
  have HOK := Lib.hid hm
  have HML := Lib.hid hml
  have HJO := Lib.hid hjo
  have HFL := Lib.hid hfl
  have HRX := Lib.hid hrx
  have HFI := Lib.hid (And.intro hfi hf8)
  have HIF := Lib.hid (info_parts info_fieldT)
  obtain ⟨W0, hW0, kb, r0, r1, r2⟩ := enc9_new w (.cells #[.int .i64 n, .int .i64 s, .int .i64 o, .int .i64 d, .float .f64 x] 26) (.cells #[] 55) (.cells #[.int .i64 n, .int .i64 s, .int .i64 o, .int .i64 d] 3)
  have h0 := own_empty2 (w.alloc (.cells #[.int .i64 n, .int .i64 s, .int .i64 o, .int .i64 d, .float .f64 x] 26)) 55 2
  rw [show (w.alloc (.cells #[.int .i64 n, .int .i64 s, .int .i64 o, .int .i64 d, .float .f64 x] 26)).heap.size = w.heap.size + 1 by simp] at h0
  replace h0 := own_mono (own_kp h0 (kp_alloc _ (.cells #[.int .i64 n, .int .i64 s, .int .i64 o, .int .i64 d] 3))) (Nat.le_succ w.heap.size)
  have h1 := World.ownsRow_lit (base := w.heap.size) (e := 3) (size := 1) ((w.alloc (.cells #[.int .i64 n, .int .i64 s, .int .i64 o, .int .i64 d, .float .f64 x] 26)).alloc (.cells #[] 55)) #[.int .i64 n, .int .i64 s, .int .i64 o, .int .i64 d] 4 (by simp; omega) (by decide) rfl
  rw [show ((w.alloc (.cells #[.int .i64 n, .int .i64 s, .int .i64 o, .int .i64 d, .float .f64 x] 26)).alloc (.cells #[] 55)).heap.size = w.heap.size + 1 + 1 by simp] at h1
  have e1 : (#[.int .i64 n, .int .i64 s, .int .i64 o, .int .i64 d] : Array Value).toList = ns.map (Value.int .i64) := by rw [← hns]; rfl
  rw [e1] at h1
  have HCE := Lib.hid h1
  have OW2 := Lib.hid h0
  obtain ⟨b0, b1, b2, b3, b4⟩ := cells5 (kp_row (kp_alloc (w.alloc (.cells #[.int .i64 n, .int .i64 s, .int .i64 o, .int .i64 d, .float .f64 x] 26)) (.cells #[] 55)) (MapKept.heap_alloc w (.cells #[.int .i64 n, .int .i64 s, .int .i64 o, .int .i64 d, .float .f64 x] 26)).1)
  have RC := Lib.hid r0
  have K2 := Lib.hid kb
  rw [hW0] at K2 RC
  clear hm hml hns hjo hfl hrx hRX hfx hfi hf8 hc h0 h1 e1 r0 r1 r2 kb hW0
  go_enter Tryz.func9, Tryz.ntmps9
  go_wp2
  obtain ⟨g, hg⟩ : ∃ g, w.heap.size + 1 + 1 = g := ⟨_, rfl⟩
  rw [hg] at HCE ⊢
  go_loopw [3, 19] (fun v i wr => ∃ (j : Nat) (gs : List (Int × List Int × Value)), j ≤ 4 ∧ i = .int .i64 j ∧ Kp w wr ∧ wr.ownsRow w.heap.size 3 1 (.slice (some ⟨g, 0, none⟩) 4 4) 4 (ns.map (Value.int .i64)) ∧ wr.ownsRow w.heap.size 55 2 v gs.length (gs.flatMap cellQ) ∧ OwnD w.heap.size gs wr ∧ gs.map fldQ = rowF 1 (ns.take j) ∧ wr.heap[w.heap.size]? = some (.cells #[.int .i64 n, .int .i64 s, .int .i64 o, .int .i64 d, .float .f64 x] 26)) (fun _ i _ => 4 - (intOf i).toNat)
  case atStart => exact ⟨0, [], Nat.zero_le _, rfl, K2.out, HCE.out, OW2.out, (fun g hg => by cases hg), rfl, RC.out⟩
  case round =>
    obtain ⟨j, gs, hj, rfl, hk, hnw, hown, hod, hrow, hrc⟩ := hrel
    have HRC := Lib.hid hrc
    obtain ⟨jj, hjj⟩ : ∃ jj : Int, (j : Int) = jj := ⟨_, rfl⟩
    rw [hjj]
    have HK := Lib.hid hk
    have HNW := Lib.hid hnw
    have HOW := Lib.hid hown
    have HOD := Lib.hid hod
    have HROW := Lib.hid hrow
    have hml := HML.out
    by_cases hlt : j < 4
    · have hcj := hnw.cellAt j (by omega)
      have hjl : j < ns.length := by omega
      have hx := HOK.out ns[j] (List.getElem_mem hjl)
      have SN := rowF_snoc (ns.take j) 1 ns[j]
      rw [← List.take_succ_eq_append_getElem hjl, List.length_take, Nat.min_eq_left (by omega)] at SN
      rw [List.getElem?_map, List.getElem?_eq_getElem hjl, Option.map_some] at hcj
      obtain ⟨x, hxx⟩ : ∃ x, ns[j] = x := ⟨_, rfl⟩
      rw [hxx] at hcj hx SN
      obtain ⟨x0, x1⟩ := hx
      have ej : jj.toNat = j := by omega
      rw [← ej] at hcj
      have j0 : 0 ≤ jj := by omega
      have hltj : jj < 4 := by omega
      have HJ := Lib.hid hjj
      by_cases hz : x = 0
      · subst hz
        rw [if_pos rfl, List.append_nil] at SN
        have HSN := Lib.hid SN
        clear hrc hk hown hod hrow SN hxx hnw hjl hml ej hlt x0 x1
        go_wp2
        have hjj := HJ.out
        go_roundw
        case rel => exact ⟨j + 1, gs, by omega, by congr 1; omega, HK.out, HNW.out, HOW.out, HOD.out, by rw [HSN.out]; exact HROW.out, HRC.out⟩
        case measure => simp [intOf]; omega
      · rw [if_neg hz] at SN
        have HSN := Lib.hid SN
        have hxn : ((x.toNat : Nat) : Int) = x := by omega
        have HNB := Lib.hid (fun w1 => refNumber_any 8 (Nat.le_refl _) x.toNat (by omega) x hxn w1)
        obtain ⟨bs, hbs⟩ : ∃ b, beF 8 x.toNat = b := ⟨_, rfl⟩
        have hbi : InB bs := by rw [← hbs]; exact beF_inB _ _
        rw [hbs] at HNB HSN
        have HBI := Lib.hid hbi
        obtain ⟨av, cv, hv⟩ := (own_slq rfl hown hod).form
        rw [List.length_map] at hv
        subst hv
        obtain ⟨kl, hkl⟩ : ∃ x, gs.length = x := ⟨_, rfl⟩
        have hk9 : kl ≤ 4 := by
          have h1 := congrArg List.length hrow
          have h2 := rowF_len (ns.take j) 1
          rw [List.length_map] at h1
          rw [List.length_take] at h2
          omega
        rw [hkl] at hown HOW ⊢
        have HKL := Lib.hid hkl
        obtain ⟨i0, hi, hz0, hz1, hz2⟩ := HIF.out
        have HI := Lib.hid (And.intro hz1 hz2)
        have HI2 := Lib.hid hi
        have HI3 := Lib.hid hz0
        clear hrc hk hown hod hrow SN hxx hnw hjl hml ej hlt x0 x1 hxn hbs hbi hi hz0 hz1 hz2 hkl
        go_wp2_with (first
          | (go_at_call 37; (with_reducible refine (HNB.out _).mono ?_); rintro e w5 ⟨v5, rfl, ho5, hk5⟩; obtain ⟨a5, c5, rfl, -⟩ := enc_len ho5; have HO5 := Lib.hid ho5; have K5 := Lib.hid hk5; have K6 := Lib.hid (Kp.trans hk5 (kp_alloc w5 (.cells #[.int .i64 (jj + 1), .slice a5 bs.length c5] 55))); have OW6 := Lib.hid (own_kp HOW.out K6.out); clear ho5 hk5)
          | (at_builtin; refine wpList_append_own _ rfl (.tmp 26) (.tmp 32) 47 rfl w.heap.size 55 i0 (.agg #[.int .i64 0, .slice none 0 0]) 2 32 Tryz.underlying47 HI2.out HI3.out HI.out.1 HI.out.2 rfl (by decide) _ _ _ rfl OW6.out ⟨w5.heap.size, 0, none⟩ 1 1 [.int .i64 (jj + 1), .slice a5 bs.length c5] rfl ?c1 ?c2 ?c3 ?c4 ?c5 ?c6 ?_))
        case c1 => rfl
        case c2 =>
          intro i u hi
          rw [add_plain]
          unfold World.cell?
          dsimp only
          rw [(MapKept.heap_alloc w5 _).1]
          have hi3 : i < 2 := by
            rcases Nat.lt_or_ge i 2 with q | q
            · exact q
            · rw [List.getElem?_eq_none (by simpa using q)] at hi; cases hi
          match i, hi3, hi with
          | 0, _, hi | 1, _, hi => simpa using hi
        case c3 => intro u hu; simp at hu; rcases hu with rfl | rfl <;> rfl
        case c4 => unfold maxLen; omega
        case c5 => omega
        case c6 => exact Below.size (Kp.trans HK.out K6.out)
        rintro v6 w6 hown6 hgr6 -
        have hsz := Below.size HK.out
        have kp6 : Kp w w6 := rows_kp OW6.out hgr6 (Kp.trans HK.out K6.out)
        have nw6 := Lib.hid (own_grows OW6.out hgr6 (own_kp HNW.out K6.out) (by decide))
        have od6 : OwnD w.heap.size (gs ++ [(jj + 1, bs, Value.slice a5 bs.length c5)]) w6 := by
          intro g hg
          rcases List.mem_append.1 hg with hg | hg
          · exact ((HOD.out.kp K6.out).grows OW6.out hgr6) g hg
          · have : g = (jj + 1, bs, Value.slice a5 bs.length c5) := by simpa using hg
            subst this
            exact ⟨own_grows OW6.out hgr6 (own_kp (own_mono HO5.out hsz) (kp_alloc w5 _)) (by decide), HBI.out⟩
        have own6 : w6.ownsRow w.heap.size 55 2 v6 (gs ++ [(jj + 1, bs, Value.slice a5 bs.length c5)]).length ((gs ++ [(jj + 1, bs, Value.slice a5 bs.length c5)]).flatMap cellQ) := by
          rw [List.length_append, List.length_singleton, HKL.out, List.flatMap_append]
          exact hown6
        have O6 := Lib.hid own6
        have D6 := Lib.hid od6
        have KQ6 := Lib.hid kp6
        have RC6 := Lib.hid (row_grows OW6.out hgr6 _ _ _ (kp_row K6.out HRC.out) (by decide))
        clear own6 od6 kp6 hown6 hgr6 hsz
        go_wp2
        have hjj := HJ.out
        go_roundw
        case rel =>
          refine ⟨j + 1, gs ++ [(jj + 1, bs, Value.slice a5 bs.length c5)], by omega, by congr 1; omega, KQ6.out, nw6.out, O6.out, D6.out, ?_, RC6.out⟩
          rw [HSN.out, List.map_append, HROW.out, ← hjj, show (1 : Int) + (j : Int) = (j : Int) + 1 by omega]
          rfl
        case measure => simp [intOf]; omega
    · obtain rfl : j = 4 := by omega
      have hful : ns.take 4 = ns := List.take_of_length_le (by omega)
      rw [hful] at hrow
      obtain ⟨av, cv, hv⟩ := (own_slq rfl hown hod).form
      rw [List.length_map] at hv
      subst hv
      obtain ⟨kl, hkl⟩ : ∃ x, gs.length = x := ⟨_, rfl⟩
      have hk9 : kl ≤ 4 := by
        have h1 := congrArg List.length hrow
        have h2 := rowF_len ns 1
        rw [List.length_map] at h1
        omega
      rw [hkl] at hown HOW ⊢
      have HKL := Lib.hid hkl
      obtain ⟨i0, hi, hz0, hz1, hz2⟩ := HIF.out
      have HI := Lib.hid (And.intro hz1 hz2)
      have HI2 := Lib.hid hi
      have HI3 := Lib.hid hz0
      have hex : ¬ jj < 4 := by omega
      obtain ⟨c0, c1, c2, c3, c4⟩ := cells5 hrc
      have H8 := HFI.out.2
      clear hrc hk hnw hown hod hrow hful hml hlt hi hz0 hz1 hz2 hkl hjj
      go_wp2_with (first
        | (go_at_call 39; (with_reducible refine (HFL.out _).mono ?_); rintro e w5 ⟨v5, rfl, ho5, hk5⟩; obtain ⟨a5, c5, rfl, -⟩ := enc_len ho5; have HO5 := Lib.hid ho5; have K5 := Lib.hid hk5; have K6 := Lib.hid (Kp.trans hk5 (kp_alloc w5 (.cells #[.int .i64 5, .slice a5 8 c5] 55))); have OW6 := Lib.hid (own_kp HOW.out K6.out); clear ho5 hk5)
        | (at_builtin; refine wpList_append_own _ rfl (.tmp 35) (.tmp 40) 47 rfl w.heap.size 55 i0 (.agg #[.int .i64 0, .slice none 0 0]) 2 32 Tryz.underlying47 HI2.out HI3.out HI.out.1 HI.out.2 rfl (by decide) _ _ _ rfl OW6.out ⟨w5.heap.size, 0, none⟩ 1 1 [.int .i64 5, .slice a5 8 c5] rfl ?c1 ?c2 ?c3 ?c4 ?c5 ?c6 ?_))
      case c1 => rfl
      case c2 =>
        intro i u hi
        rw [add_plain]
        unfold World.cell?
        dsimp only
        rw [(MapKept.heap_alloc w5 _).1]
        have hi3 : i < 2 := by
          rcases Nat.lt_or_ge i 2 with q | q
          · exact q
          · rw [List.getElem?_eq_none (by simpa using q)] at hi; cases hi
        match i, hi3, hi with
        | 0, _, hi | 1, _, hi => simpa using hi
      case c3 => intro u hu; simp at hu; rcases hu with rfl | rfl <;> rfl
      case c4 => unfold maxLen; omega
      case c5 => omega
      case c6 => exact Below.size (Kp.trans HK.out K6.out)
      rintro v6 w6 hown6 hgr6 -
      have hsz := Below.size HK.out
      have kp6 : Kp w w6 := rows_kp OW6.out hgr6 (Kp.trans HK.out K6.out)
      have od6 : OwnD w.heap.size (gs ++ [(5, fx, Value.slice a5 8 c5)]) w6 := by
        intro g hg
        rcases List.mem_append.1 hg with hg | hg
        · exact ((HOD.out.kp K6.out).grows OW6.out hgr6) g hg
        · have : g = (5, fx, Value.slice a5 8 c5) := by simpa using hg
          subst this
          refine ⟨?_, HFI.out.1⟩
          have := own_grows OW6.out hgr6 (own_kp (own_mono HO5.out hsz) (kp_alloc w5 _)) (by decide)
          rw [H8]
          exact this
      have own6 : w6.ownsRow w.heap.size 55 2 v6 (gs ++ [(5, fx, Value.slice a5 8 c5)]).length ((gs ++ [(5, fx, Value.slice a5 8 c5)]).flatMap cellQ) := by
        rw [List.length_append, List.length_singleton, HKL.out, List.flatMap_append]
        have e : [((5 : Int), fx, Value.slice a5 8 c5)].flatMap cellQ = [.int .i64 5, .slice a5 8 c5] := rfl
        rw [e]
        exact hown6
      have hsq := own_slq rfl own6 od6
      have hrow2 : (gs ++ [((5 : Int), fx, Value.slice a5 8 c5)]).map fldQ = RX := by
        have hful : ns.take 4 = ns := List.take_of_length_le (by have := HML.out; omega)
        have h := HROW.out
        rw [hful] at h
        rw [List.map_append, h, HRX.out]
        rfl
      rw [hrow2] at hsq
      obtain ⟨av6, cv6, hv6⟩ := hsq.form
      subst hv6
      have hj := Lib.hid (HJO.out av6 cv6 _ rfl w6 hsq)
      have K8 := Lib.hid kp6
      clear own6 od6 kp6 hown6 hgr6 hsz hsq hrow2
      go_wp2_with (go_at_call 38; (with_reducible refine hj.out.mono ?_); rintro e w7 ⟨v7, rfl, hs7, hk7⟩; have K7 := Lib.hid (Kp.trans K8.out hk7); have S7 := Lib.hid hs7; clear hs7 hk7)
      go_ret
      exact ⟨_, rfl, S7.out, K7.out⟩
end Go.Proofs.YtldamfpoemgkpaaGreatDoor

namespace Go.Proofs.YtldamfpoemgkpaaGreatDoor
open Go.RowKit Go.ChangeShapes Go.WideShapes

theorem dec_made9 (z : Value) (n : Nat) : (madeCells #[z] n).toList = List.replicate n z := by
  rw [List.eq_replicate_iff]
  refine ⟨by simp [madeCells], fun b hb => ?_⟩
  simp [madeCells] at hb
  obtain ⟨p, _, h⟩ := hb
  rw [← h]
  simp [Nat.mod_one]
theorem info_int9 : (Tryz.prog.info? 3).map (fun i => (i.zero, i.size, i.bytes)) = some (some (.int .i64 0), 1, 8) := by kernel_rfl
theorem five9 {l : List Int} (h : l.length = 5) : ∃ z n s o d, l = [z, n, s, o, d] := by
  match l, h with
  | [z, n, s, o, d], _ => exact ⟨z, n, s, o, d, rfl⟩
set_option maxRecDepth 100000 in
set_option maxHeartbeats 4000000 in
theorem refDecode9_err (a : Option Addr) (n c : Nat) (bs : List Int) (hn : bs.length = n) (hnc : n ≤ c) (hl : n ≤ 1000) (hb : InB bs) (w : World) (hs : SlB (.slice a n c) bs w) (he : (splitQ 17 bs 0 0).1 ≠ 0) :
    Calls Tryz.prog 11 #[.slice a n c] w fun e w' => e = .returned (.tuple #[.agg noX.cells, .int .i64 (splitQ 17 bs 0 0).1]) ∧ Kp w w' := by
  have K := Lib.hid (Kp.trans (kp_alloc w (.cells #[.int .i64 0, .int .i64 0, .int .i64 0, .int .i64 0, .float .f64 0] 26)) (kp_alloc _ (.cells #[.int .i64 0, .int .i64 0, .int .i64 0, .int .i64 0, .float .f64 0] 26)))
  have hz := Lib.hid (new5_0 w (.cells #[.int .i64 0, .int .i64 0, .int .i64 0, .int .i64 0, .float .f64 0] 26) (.cells #[.int .i64 0, .int .i64 0, .int .i64 0, .int .i64 0, .float .f64 0] 26))
  have hz1 := Lib.hid (new5_1 w (.cells #[.int .i64 0, .int .i64 0, .int .i64 0, .int .i64 0, .float .f64 0] 26) (.cells #[.int .i64 0, .int .i64 0, .int .i64 0, .int .i64 0, .float .f64 0] 26))
  have hsp := fun w1 (hk : Kp w w1) => refSplit_any a c bs n hn (by omega) hnc hb w1 (hs.kp hk)
  obtain ⟨S, hS⟩ : ∃ x, splitQ 17 bs 0 0 = x := ⟨_, rfl⟩
  rw [hS] at hsp he ⊢
  obtain ⟨S1, S2⟩ := S
  dsimp only at hsp he ⊢
  have HSP := Lib.hid hsp
  have h0 : (S1 == 0) = false := by simpa using he
  have hsf := store_fl
  clear hsp hs hb hn hS
  go_enter Tryz.func11, Tryz.ntmps11
  go_wp2_with (go_at_call 41; (with_reducible refine (HSP.out _ K.out).mono ?_); rintro e w2 ⟨v, rfl, -, -, hk2⟩; have K2 := Lib.hid (Kp.trans K.out hk2); have Z2 := Lib.hid (kp_row hk2 hz.out); have Z3 := Lib.hid (kp_row hk2 hz1.out); obtain ⟨d0, d1, d2, d3, d4⟩ := cells5 (Z3.out); obtain ⟨e0, e1, e2, e3, e4⟩ := cells5 (Z2.out); have fz := froz5 Z2.out; clear hk2)
  have hz5 := set5 (.int .i64 0) (.int .i64 0) (.int .i64 0) (.int .i64 0) (.float .f64 0) Z2.out
  refine bodyPost_ret (results_row_tmp9 (p := 2) (u := 3) rfl _ _ w.heap.size 26 _ (0, 0) _ rfl hz5 Tryz.underlying26 rfl (by kernel_rfl)) rfl ?_
  exact ⟨rfl, set5_kp K2.out (Nat.le_refl _) _ _ _ _ _⟩

set_option maxRecDepth 100000 in
set_option maxHeartbeats 8000000 in
theorem refDecode9_row (a : Option Addr) (n c : Nat) (bs : List Int) (hn : bs.length = n) (hnc : n ≤ c) (hl : n ≤ 1000) (hb : InB bs) (w : World) (hs : SlB (.slice a n c) bs w) (he : (splitQ 17 bs 0 0).1 = 0) :
    Calls Tryz.prog 11 #[.slice a n c] w fun e w' => e = .returned (.tuple #[.agg (decX bs).2.cells, .int .i64 (decX bs).1]) ∧ Kp w w' := by
  have K := Lib.hid (Kp.trans (kp_alloc w (.cells #[.int .i64 0, .int .i64 0, .int .i64 0, .int .i64 0, .float .f64 0] 26)) (kp_alloc _ (.cells #[.int .i64 0, .int .i64 0, .int .i64 0, .int .i64 0, .float .f64 0] 26)))
  have hz := Lib.hid (new5_0 w (.cells #[.int .i64 0, .int .i64 0, .int .i64 0, .int .i64 0, .float .f64 0] 26) (.cells #[.int .i64 0, .int .i64 0, .int .i64 0, .int .i64 0, .float .f64 0] 26))
  have hz1 := Lib.hid (new5_1 w (.cells #[.int .i64 0, .int .i64 0, .int .i64 0, .int .i64 0, .float .f64 0] 26) (.cells #[.int .i64 0, .int .i64 0, .int .i64 0, .int .i64 0, .float .f64 0] 26))
  have hsp := fun w1 (hk : Kp w w1) => refSplit_any a c bs n hn (by omega) hnc hb w1 (hs.kp hk)
  have htg := splitQ_tags 17 bs 0 0 hb
  have h17 := splitQ_len 17 bs 0 0
  have hdm : decX bs = finX (putX (List.replicate 5 0) none (splitQ 17 bs 0 0).2) := by
    unfold decX
    rw [if_neg (fun q => q he)]
  obtain ⟨DD, hDD⟩ : ∃ x, decX bs = x := ⟨_, rfl⟩
  rw [hDD] at hdm ⊢
  obtain ⟨S, hS⟩ : ∃ x, splitQ 17 bs 0 0 = x := ⟨_, rfl⟩
  rw [hS] at hsp he htg hdm h17
  obtain ⟨S1, fs⟩ := S
  dsimp only at hsp he htg hdm h17
  subst he
  have hsf := store_fl
  have HSP := Lib.hid hsp
  have HTG := Lib.hid htg
  have HDM := Lib.hid hdm
  have HII := Lib.hid (info_parts info_int9)
  clear hsp hs hb hn hS hDD htg hdm
  obtain ⟨i0, hi, hi0, hi1, hi2⟩ := HII.out
  have HI := Lib.hid (And.intro hi1 hi2)
  have HI2 := Lib.hid hi
  have HI3 := Lib.hid hi0
  clear hi hi0 hi1 hi2
  go_enter Tryz.func11, Tryz.ntmps11
  go_wp2_with (first
    | (go_at_call 41; (with_reducible refine (HSP.out _ K.out).mono ?_); rintro e w2 ⟨v, rfl, hq, -, hk2⟩; have HQ := Lib.hid (hq rfl); have K2 := Lib.hid (Kp.trans K.out hk2); have Z2 := Lib.hid (kp_row hk2 hz.out); have Z3 := Lib.hid (kp_row hk2 hz1.out); clear hk2 hq)
    | (at_make; refine wpList_make_full _ rfl _ _ 74 rfl w2.heap.size 3 i0 (.int .i64 0) 1 Tryz.underlying74 HI2.out HI3.out HI.out.1 .i64 .i64 _ _ 5 rfl rfl ?m1 ?m2 ?m3 ?m4 ?m5 ?_))
  case m1 => rfl
  case m2 => rfl
  case m3 => rw [HI.out.2]; omega
  case m4 => unfold maxLen; omega
  case m5 => exact Nat.le_refl _
  rintro w3 hown3 hgr3
  have K3 : Hid (Kp w2 w3) := Lib.hid ((Below.refl _ _).grown hgr3 (Nat.le_refl _) (fun k hk => by cases hk))
  have h0 : w3.ownsRow w2.heap.size 3 1 (.slice (some ⟨w2.heap.size, 0, none⟩) 5 5) 5 ((List.replicate 5 (0 : Int)).map (Value.int .i64)) := by
    have e : (madeCells #[.int .i64 0] 5).toList = (List.replicate 5 (0 : Int)).map (Value.int .i64) := by rw [dec_made9]; rfl
    rw [← e]; exact hown3
  have OW3 := Lib.hid h0
  obtain ⟨av, cv, hv⟩ := HQ.out.form
  subst hv
  obtain ⟨kf, hkf⟩ : ∃ x, fs.length = x := ⟨_, rfl⟩
  rw [hkf] at h17
  have HSQ := HQ.out
  rw [hkf] at HSQ ⊢
  have HSL := Lib.hid HSQ
  have HKF := Lib.hid hkf
  obtain ⟨L, hL⟩ : ∃ L, w2.heap.size = L := ⟨_, rfl⟩
  rw [hL] at OW3 ⊢
  have HLL := Lib.hid hL
  clear hown3 hgr3 h0 HSQ hkf hL
  go_wp2
  go_loopw [8, 9, 30] (fun at9 th9 i wr => ∃ (j : Nat) (l : List Int) (oo : Option Nat), j ≤ kf ∧ i = .int .i64 j ∧ at9 = .float .f64 (oo.getD 0) ∧ th9 = .bool oo.isSome ∧ l.length = 5 ∧ Kp w2 wr ∧ wr.ownsRow L 3 1 (.slice (some ⟨L, 0, none⟩) 5 5) 5 (l.map (Value.int .i64)) ∧ putX (List.replicate 5 0) none fs = putX l oo (fs.drop j) ∧ oo.getD 0 < 18446744073709551616) (fun _ _ i _ => kf - (intOf i).toNat)
  case atStart => exact ⟨0, _, none, Nat.zero_le _, rfl, rfl, rfl, rfl, K3.out, OW3.out, rfl, by decide⟩
  case round =>
    obtain ⟨j, l, oo, hj, rfl, rfl, rfl, hl5, hk, hown, hput, how⟩ := hrel
    obtain ⟨jj, hjj⟩ : ∃ jj : Int, (j : Int) = jj := ⟨_, rfl⟩
    rw [hjj]
    have HK := Lib.hid hk
    have HOW := Lib.hid hown
    have HL5 := Lib.hid hl5
    have HWF := Lib.hid how
    have hkl := HKF.out
    by_cases hlt : j < kf
    · have hjl : j < fs.length := by omega
      obtain ⟨b, off, rfl, ct, ad, cd, cdt, hsd, hbd⟩ := (HSL.out.kp hk).at j hjl
      obtain ⟨t0, t1, t2⟩ := HTG.out fs[j] (List.getElem_mem hjl)
      have hdr : fs.drop j = fs[j] :: fs.drop (j + 1) := List.drop_eq_getElem_cons hjl
      rw [hdr, putX] at hput
      obtain ⟨y, hy⟩ : ∃ y, fs[j] = y := ⟨_, rfl⟩
      rw [hy] at ct cdt hsd hbd t0 t1 t2 hput
      obtain ⟨tg, dt⟩ := y
      dsimp only at ct cdt hsd hbd t0 t1 t2 hput
      obtain ⟨dl, hdl⟩ : ∃ x, dt.length = x := ⟨_, rfl⟩
      rw [hdl] at cdt hsd t2 hput
      have HTN := Lib.hid (fun w1 (hk1 : Kp wr w1) => refToNumber_any ad cd dt dl hdl (by omega) hbd w1 (hsd.kp hk1))
      have HTF := Lib.hid (fun w1 (hk1 : Kp wr w1) => refToFloat_any ad cd dt dl hdl (by omega) hbd w1 (hsd.kp hk1))
      have ej : jj.toNat = j := by omega
      rw [← ej] at ct cdt
      have j0 : 0 ≤ jj := by omega
      have hltj : jj < kf := by omega
      have HJ := Lib.hid hjj
      clear ej
      by_cases q0 : tg = 5
      · subst q0
        rw [if_pos rfl] at hput
        have HBK := Lib.hid (fun q => (f8_back hbd q).2.2)
        obtain ⟨fx, hfx⟩ : ∃ x, (toFl dt).1 = x := ⟨_, rfl⟩
        obtain ⟨fe, hfe⟩ : ∃ x, (toFl dt).2 = x := ⟨_, rfl⟩
        rw [hfx, hfe] at HTF HBK hput
        by_cases q1 : fe = 0
        · subst q1
          rw [if_pos rfl] at hput
          have HPT := Lib.hid hput
          have h64 := HBK.out rfl
          have H64 := Lib.hid h64
          have KB := Lib.hid (kp_alloc wr (.cells #[.int .i64 5, .slice ad dl cd] 55))
          clear hk hown hput hsd hbd hdl hjl hy hdr hlt hjj hl5 hkl how hfx hfe HTN HBK h64
          go_wp2_with (go_at_call 42; (with_reducible refine (HTF.out _ (kp_alloc _ _)).mono ?_); rintro e w5 ⟨rfl, rfl⟩)
          have hjj := HJ.out
          go_roundw
          case rel =>
            refine ⟨j + 1, l, some fx, by omega, by congr 1; omega, rfl, rfl, HL5.out, Kp.trans HK.out KB.out, own_kp HOW.out KB.out, HPT.out, H64.out⟩
          case measure => simp [intOf]; omega
        · have DN := Lib.hid (show DD = (4, noX) by rw [HDM.out, hput, if_neg q1]; rfl)
          have hbt : (fe != 0) = true := by simpa using q1
          have ZF := kp_row (Kp.trans HK.out (kp_alloc wr (.cells #[.int .i64 5, .slice ad dl cd] 55))) Z2.out
          have ZN := kp_row (Kp.trans HK.out (kp_alloc wr (.cells #[.int .i64 5, .slice ad dl cd] 55))) Z3.out
          obtain ⟨d0, d1, d2, d3, d4⟩ := cells5 (ZN)
          obtain ⟨e0, e1, e2, e3, e4⟩ := cells5 (ZF)
          have fz := froz5 ZF
          have HZF := Lib.hid ZF
          clear ZF ZN hk hown hput hsd hbd hdl hjl hy hdr hlt hjj hl5 hkl how hfx hfe HTN HBK
          go_wp2_with (go_at_call 42; (with_reducible refine (HTF.out _ (kp_alloc _ _)).mono ?_); rintro e w5 ⟨rfl, rfl⟩)
          have hz5 := set5 (.int .i64 0) (.int .i64 0) (.int .i64 0) (.int .i64 0) (.float .f64 0) HZF.out
          refine bodyPost_ret (results_row_tmp9 (p := 2) (u := 3) rfl _ _ w.heap.size 26 _ (0, 0) _ rfl hz5 Tryz.underlying26 rfl (by kernel_rfl)) rfl ?_
          rw [DN.out]
          exact ⟨rfl, set5_kp (Kp.trans (Kp.trans K2.out HK.out) (kp_alloc _ _)) (Nat.le_refl _) _ _ _ _ _⟩
      · rw [if_neg q0] at hput
        have hb5 : (tg == 5) = false := by simpa using q0
        obtain ⟨tn, htn⟩ : ∃ x, (toNum dt).1 = x := ⟨_, rfl⟩
        obtain ⟨te, hte⟩ : ∃ x, (toNum dt).2 = x := ⟨_, rfl⟩
        rw [htn, hte] at HTN hput
        have HNO := Lib.hid (fun (q : 5 < tg ∨ dl = 0 ∨ te ≠ 0) => show DD = (4, noX) by rw [HDM.out, hput, if_pos q]; rfl)
        by_cases q1 : 5 < tg
        · have DN := Lib.hid (HNO.out (.inl q1))
          have hb9 : decide (5 < tg) = true := decide_eq_true q1
          clear HNO
          have ZF := kp_row (Kp.trans HK.out (kp_alloc wr (.cells #[.int .i64 tg, .slice ad dl cd] 55))) Z2.out
          have ZN := kp_row (Kp.trans HK.out (kp_alloc wr (.cells #[.int .i64 tg, .slice ad dl cd] 55))) Z3.out
          obtain ⟨d0, d1, d2, d3, d4⟩ := cells5 (ZN)
          obtain ⟨e0, e1, e2, e3, e4⟩ := cells5 (ZF)
          have fz := froz5 ZF
          have HZF := Lib.hid ZF
          clear ZF ZN hk hown hput hsd hbd hdl hjl hy hdr hlt hjj hl5 hkl how htn hte HTF
          go_wp2_with (go_at_call 43; (with_reducible refine (HTN.out _ (kp_alloc _ _)).mono ?_); rintro e w5 ⟨rfl, rfl⟩)
          have hz5 := set5 (.int .i64 0) (.int .i64 0) (.int .i64 0) (.int .i64 0) (.float .f64 0) HZF.out
          refine bodyPost_ret (results_row_tmp9 (p := 2) (u := 3) rfl _ _ w.heap.size 26 _ (0, 0) _ rfl hz5 Tryz.underlying26 rfl (by kernel_rfl)) rfl ?_
          rw [DN.out]
          exact ⟨rfl, set5_kp (Kp.trans (Kp.trans K2.out HK.out) (kp_alloc _ _)) (Nat.le_refl _) _ _ _ _ _⟩
        by_cases q2 : dl = 0
        · have DN := Lib.hid (HNO.out (.inr (.inl q2)))
          have hb9 : decide (5 < tg) = false := decide_eq_false q1
          clear HNO
          subst q2
          have ZF := kp_row (Kp.trans HK.out (kp_alloc wr (.cells #[.int .i64 tg, .slice ad 0 cd] 55))) Z2.out
          have ZN := kp_row (Kp.trans HK.out (kp_alloc wr (.cells #[.int .i64 tg, .slice ad 0 cd] 55))) Z3.out
          obtain ⟨d0, d1, d2, d3, d4⟩ := cells5 (ZN)
          obtain ⟨e0, e1, e2, e3, e4⟩ := cells5 (ZF)
          have fz := froz5 ZF
          have HZF := Lib.hid ZF
          clear ZF ZN hk hown hput hsd hbd hdl hjl hy hdr hlt hjj hl5 hkl how htn hte HTF
          go_wp2_with (go_at_call 43; (with_reducible refine (HTN.out _ (kp_alloc _ _)).mono ?_); rintro e w5 ⟨rfl, rfl⟩)
          have hz5 := set5 (.int .i64 0) (.int .i64 0) (.int .i64 0) (.int .i64 0) (.float .f64 0) HZF.out
          refine bodyPost_ret (results_row_tmp9 (p := 2) (u := 3) rfl _ _ w.heap.size 26 _ (0, 0) _ rfl hz5 Tryz.underlying26 rfl (by kernel_rfl)) rfl ?_
          rw [DN.out]
          exact ⟨rfl, set5_kp (Kp.trans (Kp.trans K2.out HK.out) (kp_alloc _ _)) (Nat.le_refl _) _ _ _ _ _⟩
        by_cases q3 : te = 0
        · clear HNO
          subst q3
          have tk0 : 0 ≤ tg := by omega
          have tk9 : tg < 5 := by omega
          have hkn : tg.toNat < 5 := by omega
          have hownX := own_kp hown (kp_alloc wr (.cells #[.int .i64 tg, .slice ad dl cd] 55))
          have hcX := hownX.cellAt tg.toNat (by omega)
          rw [List.getElem?_map, List.getElem?_eq_getElem (by omega), Option.map_some] at hcX
          obtain ⟨lo, hlo⟩ : ∃ x, l[tg.toNat]'(by omega) = x := ⟨_, rfl⟩
          rw [hlo] at hcX
          clear hlo
          have hzX := hownX.frozenAt tg.toNat
          have hst := hownX.stored tg.toNat (.int .i64 tn)
          have HST := Lib.hid hst.1
          have HGR := Lib.hid (Below.grown (Kp.trans HK.out (kp_alloc wr (.cells #[.int .i64 tg, .slice ad dl cd] 55))) hst.2 (Below.size (Kp.trans HK.out (kp_alloc wr (.cells #[.int .i64 tg, .slice ad dl cd] 55)))) (fun k hk => by injection hk with hk; have := HLL.out; omega))
          have HPT : Hid (putX (List.replicate 5 0) none fs = putX (l.set tg.toNat tn) oo (fs.drop (j + 1))) := Lib.hid (by
            rw [hput, if_neg (by omega)])
          obtain ⟨dd, hdd⟩ : ∃ x : Int, (dl : Int) = x := ⟨_, rfl⟩
          have hd0 : ¬ dd = 0 := by omega
          have hb9 : decide (5 < tg) = false := decide_eq_false q1
          have hbd2 : (dd == 0) = false := by simpa using hd0
          clear hst hk hown hput hsd hbd hdl hjl htn hte hy hdr hlt hjj hl5 hkl hownX how HTF
          go_wp2_with (go_at_call 43; (with_reducible refine (HTN.out _ (kp_alloc _ _)).mono ?_); rintro e w5 ⟨rfl, rfl⟩)
          have hjj := HJ.out
          go_roundw
          case rel =>
            refine ⟨j + 1, l.set tg.toNat tn, oo, by omega, by congr 1; omega, rfl, rfl, by rw [List.length_set]; exact HL5.out, HGR.out, ?_, HPT.out, HWF.out⟩
            rw [List.map_set]
            exact HST.out
          case measure => simp [intOf]; omega
        · have DN := Lib.hid (HNO.out (.inr (.inr q3)))
          obtain ⟨dd, hdd⟩ : ∃ x : Int, (dl : Int) = x := ⟨_, rfl⟩
          have hd0 : ¬ dd = 0 := by omega
          have hb9 : decide (5 < tg) = false := decide_eq_false q1
          have hbd2 : (dd == 0) = false := by simpa using hd0
          have hbt : (te != 0) = true := by simpa using q3
          clear HNO
          have ZF := kp_row (Kp.trans HK.out (kp_alloc wr (.cells #[.int .i64 tg, .slice ad dl cd] 55))) Z2.out
          have ZN := kp_row (Kp.trans HK.out (kp_alloc wr (.cells #[.int .i64 tg, .slice ad dl cd] 55))) Z3.out
          obtain ⟨d0, d1, d2, d3, d4⟩ := cells5 (ZN)
          obtain ⟨e0, e1, e2, e3, e4⟩ := cells5 (ZF)
          have fz := froz5 ZF
          have HZF := Lib.hid ZF
          clear ZF ZN hk hown hput hsd hbd hdl hjl hy hdr hlt hjj hl5 hkl how htn hte HTF
          go_wp2_with (go_at_call 43; (with_reducible refine (HTN.out _ (kp_alloc _ _)).mono ?_); rintro e w5 ⟨rfl, rfl⟩)
          have hz5 := set5 (.int .i64 0) (.int .i64 0) (.int .i64 0) (.int .i64 0) (.float .f64 0) HZF.out
          refine bodyPost_ret (results_row_tmp9 (p := 2) (u := 3) rfl _ _ w.heap.size 26 _ (0, 0) _ rfl hz5 Tryz.underlying26 rfl (by kernel_rfl)) rfl ?_
          rw [DN.out]
          exact ⟨rfl, set5_kp (Kp.trans (Kp.trans K2.out HK.out) (kp_alloc _ _)) (Nat.le_refl _) _ _ _ _ _⟩
    · obtain rfl : j = kf := by omega
      rw [← hkl, List.drop_length, putX] at hput
      obtain ⟨z1, n1, s1, o1, d1, rfl⟩ := five9 hl5
      have g1 : wr.cell? ⟨L, 1, none⟩ = some (.int .i64 n1) := hown.cellAt 1 (by decide)
      have g2 : wr.cell? ⟨L, 2, none⟩ = some (.int .i64 s1) := hown.cellAt 2 (by decide)
      have g3 : wr.cell? ⟨L, 3, none⟩ = some (.int .i64 o1) := hown.cellAt 3 (by decide)
      have g4 : wr.cell? ⟨L, 4, none⟩ = some (.int .i64 d1) := hown.cellAt 4 (by decide)
      have hex : ¬ jj < j := by omega
      have Z2w := Lib.hid (kp_row HK.out Z2.out)
      have Z3w := Lib.hid (kp_row HK.out Z3.out)
      have KW := Lib.hid (Kp.trans K2.out HK.out)
      have HDE : DD = finX (some ([z1, n1, s1, o1, d1], oo)) := by rw [HDM.out, hput]
      clear hput hkl hlt hjj hl5 hown hk
      cases oo with
      | none =>
        have hde : DD = (4, noX) := HDE
        have HDE := Lib.hid hde
        dsimp only [Option.getD_none, Option.isSome_none]
        clear hde how HWF
        go_wp2
        refine wp_region_held_drew (S := fun w' => Kp wr w') (by kernel_rfl) ?_ (fun hHeld => ?_)
        · exact (Kp.refl wr).drew
        refine wpAnyH_take (i := 0) (v := ?_) rfl (by kernel_rfl) (by kernel_rfl) (by kernel_rfl) (fun _ _ _ h => h) (Or.inl ⟨by rfl, ?_⟩) (by assumption) ?_
        rotate_left
        · intro w hSw; go_simp; try with_reducible rfl
        go_simp
        refine wpAnyH_take (i := 1) (v := ?_) rfl (by kernel_rfl) (by kernel_rfl) (by kernel_rfl) (fun _ _ _ h => h) (Or.inl ⟨by rfl, ?_⟩) (by assumption) ?_
        rotate_left
        · intro w hSw; go_simp; try with_reducible rfl
        go_simp
        refine wpAnyH_take (i := 2) (v := ?_) rfl (by kernel_rfl) (by kernel_rfl) (by kernel_rfl) (fun _ _ _ h => h) (Or.inl ⟨by rfl, ?_⟩) (by assumption) ?_
        rotate_left
        · intro w hSw; have q := kp_cell hSw g1; go_simp; try with_reducible rfl
        go_simp
        refine wpAnyH_take (i := 3) (v := ?_) rfl (by kernel_rfl) (by kernel_rfl) (by kernel_rfl) (fun _ _ _ h => h) (Or.inl ⟨by rfl, ?_⟩) (by assumption) ?_
        rotate_left
        · intro w hSw; go_simp; try with_reducible rfl
        go_simp
        refine wpAnyH_take (i := 4) (v := ?_) rfl (by kernel_rfl) (by kernel_rfl) (by kernel_rfl) (fun _ _ _ h => h) (Or.inl ⟨by rfl, ?_⟩) (by assumption) ?_
        rotate_left
        · intro w hSw; go_simp; try with_reducible rfl
        go_simp
        refine wpAnyH_take (i := 5) (v := ?_) rfl (by kernel_rfl) (by kernel_rfl) (by kernel_rfl) (fun _ _ _ h => h) (Or.inl ⟨by rfl, ?_⟩) (by assumption) ?_
        rotate_left
        · intro w hSw; have q := kp_cell hSw g2; go_simp; try with_reducible rfl
        go_simp
        refine wpAnyH_take (i := 6) (v := ?_) rfl (by kernel_rfl) (by kernel_rfl) (by kernel_rfl) (fun _ _ _ h => h) (Or.inl ⟨by rfl, ?_⟩) (by assumption) ?_
        rotate_left
        · intro w hSw; go_simp; try with_reducible rfl
        go_simp
        refine wpAnyH_take (i := 7) (v := ?_) rfl (by kernel_rfl) (by kernel_rfl) (by kernel_rfl) (fun _ _ _ h => h) (Or.inl ⟨by rfl, ?_⟩) (by assumption) ?_
        rotate_left
        · intro w hSw; go_simp; try with_reducible rfl
        go_simp
        refine wpAnyH_take (i := 8) (v := ?_) rfl (by kernel_rfl) (by kernel_rfl) (by kernel_rfl) (fun _ _ _ h => h) (Or.inl ⟨by rfl, ?_⟩) (by assumption) ?_
        rotate_left
        · intro w hSw; go_simp; try with_reducible rfl
        go_simp
        refine wpAnyH_take (i := 9) (v := ?_) rfl (by kernel_rfl) (by kernel_rfl) (by kernel_rfl) (fun _ _ _ h => h) (Or.inl ⟨by rfl, ?_⟩) (by assumption) ?_
        rotate_left
        · intro w hSw; have q := kp_cell hSw g3; go_simp; try with_reducible rfl
        go_simp
        refine wpAnyH_take (i := 10) (v := ?_) rfl (by kernel_rfl) (by kernel_rfl) (by kernel_rfl) (fun _ _ _ h => h) (Or.inl ⟨by rfl, ?_⟩) (by assumption) ?_
        rotate_left
        · intro w hSw; go_simp; try with_reducible rfl
        go_simp
        refine wpAnyH_take (i := 11) (v := ?_) rfl (by kernel_rfl) (by kernel_rfl) (by kernel_rfl) (fun _ _ _ h => h) (Or.inl ⟨by rfl, ?_⟩) (by assumption) ?_
        rotate_left
        · intro w hSw; go_simp; try with_reducible rfl
        go_simp
        refine wpAnyH_take (i := 12) (v := ?_) rfl (by kernel_rfl) (by kernel_rfl) (by kernel_rfl) (fun _ _ _ h => h) (Or.inl ⟨by rfl, ?_⟩) (by assumption) ?_
        rotate_left
        · intro w hSw; have q := kp_cell hSw g4; go_simp; try with_reducible rfl
        go_simp
        refine wpAnyH_take (i := 13) (v := ?_) rfl (by kernel_rfl) (by kernel_rfl) (by kernel_rfl) (fun _ _ _ h => h) (Or.inl ⟨by rfl, ?_⟩) (by assumption) ?_
        rotate_left
        · intro w hSw; go_simp; try with_reducible rfl
        go_simp
        refine wpAnyH_take (i := 14) (v := ?_) rfl (by kernel_rfl) (by kernel_rfl) (by kernel_rfl) (fun _ _ _ h => h) (Or.inl ⟨by rfl, ?_⟩) (by assumption) ?_
        rotate_left
        · intro w hSw; go_simp; try with_reducible rfl
        go_simp
        refine wpAnyH_ready (rs := [15]) (by kernel_rfl) (by simp) ?_
        refine AllReadyH.cons rfl (fun K hK => ?_) AllReadyH.nil
        go_simp
        refine hK.out _ _ ?_ (fun hHeld => ?_)
        · exact Kp.trans (Kp.refl wr).drew (kp_alloc _ _)
        clear hK K
        refine wpAnyH_ready (rs := [16]) (by kernel_rfl) (by simp) ?_
        refine AllReadyH.cons rfl (fun K hK => ?_) AllReadyH.nil
        go_simp
        refine hK.out _ _ ?_ (fun hHeld => ?_)
        · exact (kp_alloc wr (.cells #[.int .i64 n1, .int .i64 s1, .int .i64 o1, .int .i64 d1, .float .f64 0] 26)).drew
        clear hK K
        refine wpAnyH_done (by kernel_rfl) ?_ _
        have km := (kp_alloc wr (.cells #[.int .i64 n1, .int .i64 s1, .int .i64 o1, .int .i64 d1, .float .f64 0] 26)).drew
        obtain ⟨we, hwe⟩ : ∃ y, (wr.alloc (.cells #[.int .i64 n1, .int .i64 s1, .int .i64 o1, .int .i64 d1, .float .f64 0] 26)).drew = y := ⟨_, rfl⟩
        rw [hwe] at km ⊢
        have KM := Lib.hid km
        clear hwe km
        have R7 := Lib.hid (kp_row KM.out Z2w.out)
        have N7 := kp_row KM.out Z3w.out
        obtain ⟨u0, u1, u2, u3, u4⟩ := cells5 (R7.out)
        obtain ⟨v0, v1, v2, v3, v4⟩ := cells5 (N7)
        have fz := froz5 R7.out
        clear N7
        go_wp2
        have hz5 := set5 (.int .i64 0) (.int .i64 0) (.int .i64 0) (.int .i64 0) (.float .f64 0) R7.out
        refine bodyPost_ret (results_row_tmp9 (p := 2) (u := 3) rfl _ _ w.heap.size 26 _ (0, 0) _ rfl hz5 Tryz.underlying26 rfl (by kernel_rfl)) rfl ?_
        rw [HDE.out]
        exact ⟨rfl, set5_kp (Kp.trans KW.out KM.out) (Nat.le_refl _) _ _ _ _ _⟩
      | some xx =>
        have hwf : xx < 18446744073709551616 := how
        have hde : DD = if rightX ⟨n1, s1, o1, d1, xx⟩ = true then (0, ⟨n1, s1, o1, d1, xx⟩) else (4, noX) := HDE
        have HRR := fun w1 => refRight9_any ⟨n1, s1, o1, d1, xx⟩ hwf w1
        dsimp only [CX.cells] at HRR
        have HMR := Lib.hid (MapKept.heap_alloc wr (.cells #[.int .i64 n1, .int .i64 s1, .int .i64 o1, .int .i64 d1, .float .f64 xx] 26)).1
        dsimp only [Option.getD_some, Option.isSome_some]
        clear how HWF HDE
        cases hrm : rightX ⟨n1, s1, o1, d1, xx⟩ with
        | true =>
          rw [hrm] at hde HRR
          rw [if_pos rfl] at hde
          have HDE := Lib.hid hde
          have HRR := Lib.hid HRR
          clear hrm hde hwf
          go_wp2
          refine wp_region_held_drew (S := fun w' => Kp wr w') (by kernel_rfl) ?_ (fun hHeld => ?_)
          · exact (Kp.refl wr).drew
          refine wpAnyH_take (i := 0) (v := ?_) rfl (by kernel_rfl) (by kernel_rfl) (by kernel_rfl) (fun _ _ _ h => h) (Or.inl ⟨by rfl, ?_⟩) (by assumption) ?_
          rotate_left
          · intro w hSw; go_simp; try with_reducible rfl
          go_simp
          refine wpAnyH_take (i := 1) (v := ?_) rfl (by kernel_rfl) (by kernel_rfl) (by kernel_rfl) (fun _ _ _ h => h) (Or.inl ⟨by rfl, ?_⟩) (by assumption) ?_
          rotate_left
          · intro w hSw; go_simp; try with_reducible rfl
          go_simp
          refine wpAnyH_take (i := 2) (v := ?_) rfl (by kernel_rfl) (by kernel_rfl) (by kernel_rfl) (fun _ _ _ h => h) (Or.inl ⟨by rfl, ?_⟩) (by assumption) ?_
          rotate_left
          · intro w hSw; have q := kp_cell hSw g1; go_simp; try with_reducible rfl
          go_simp
          refine wpAnyH_take (i := 3) (v := ?_) rfl (by kernel_rfl) (by kernel_rfl) (by kernel_rfl) (fun _ _ _ h => h) (Or.inl ⟨by rfl, ?_⟩) (by assumption) ?_
          rotate_left
          · intro w hSw; go_simp; try with_reducible rfl
          go_simp
          refine wpAnyH_take (i := 4) (v := ?_) rfl (by kernel_rfl) (by kernel_rfl) (by kernel_rfl) (fun _ _ _ h => h) (Or.inl ⟨by rfl, ?_⟩) (by assumption) ?_
          rotate_left
          · intro w hSw; go_simp; try with_reducible rfl
          go_simp
          refine wpAnyH_take (i := 5) (v := ?_) rfl (by kernel_rfl) (by kernel_rfl) (by kernel_rfl) (fun _ _ _ h => h) (Or.inl ⟨by rfl, ?_⟩) (by assumption) ?_
          rotate_left
          · intro w hSw; have q := kp_cell hSw g2; go_simp; try with_reducible rfl
          go_simp
          refine wpAnyH_take (i := 6) (v := ?_) rfl (by kernel_rfl) (by kernel_rfl) (by kernel_rfl) (fun _ _ _ h => h) (Or.inl ⟨by rfl, ?_⟩) (by assumption) ?_
          rotate_left
          · intro w hSw; go_simp; try with_reducible rfl
          go_simp
          refine wpAnyH_take (i := 7) (v := ?_) rfl (by kernel_rfl) (by kernel_rfl) (by kernel_rfl) (fun _ _ _ h => h) (Or.inl ⟨by rfl, ?_⟩) (by assumption) ?_
          rotate_left
          · intro w hSw; go_simp; try with_reducible rfl
          go_simp
          refine wpAnyH_take (i := 8) (v := ?_) rfl (by kernel_rfl) (by kernel_rfl) (by kernel_rfl) (fun _ _ _ h => h) (Or.inl ⟨by rfl, ?_⟩) (by assumption) ?_
          rotate_left
          · intro w hSw; go_simp; try with_reducible rfl
          go_simp
          refine wpAnyH_take (i := 9) (v := ?_) rfl (by kernel_rfl) (by kernel_rfl) (by kernel_rfl) (fun _ _ _ h => h) (Or.inl ⟨by rfl, ?_⟩) (by assumption) ?_
          rotate_left
          · intro w hSw; have q := kp_cell hSw g3; go_simp; try with_reducible rfl
          go_simp
          refine wpAnyH_take (i := 10) (v := ?_) rfl (by kernel_rfl) (by kernel_rfl) (by kernel_rfl) (fun _ _ _ h => h) (Or.inl ⟨by rfl, ?_⟩) (by assumption) ?_
          rotate_left
          · intro w hSw; go_simp; try with_reducible rfl
          go_simp
          refine wpAnyH_take (i := 11) (v := ?_) rfl (by kernel_rfl) (by kernel_rfl) (by kernel_rfl) (fun _ _ _ h => h) (Or.inl ⟨by rfl, ?_⟩) (by assumption) ?_
          rotate_left
          · intro w hSw; go_simp; try with_reducible rfl
          go_simp
          refine wpAnyH_take (i := 12) (v := ?_) rfl (by kernel_rfl) (by kernel_rfl) (by kernel_rfl) (fun _ _ _ h => h) (Or.inl ⟨by rfl, ?_⟩) (by assumption) ?_
          rotate_left
          · intro w hSw; have q := kp_cell hSw g4; go_simp; try with_reducible rfl
          go_simp
          refine wpAnyH_take (i := 13) (v := ?_) rfl (by kernel_rfl) (by kernel_rfl) (by kernel_rfl) (fun _ _ _ h => h) (Or.inl ⟨by rfl, ?_⟩) (by assumption) ?_
          rotate_left
          · intro w hSw; go_simp; try with_reducible rfl
          go_simp
          refine wpAnyH_take (i := 14) (v := ?_) rfl (by kernel_rfl) (by kernel_rfl) (by kernel_rfl) (fun _ _ _ h => h) (Or.inl ⟨by rfl, ?_⟩) (by assumption) ?_
          rotate_left
          · intro w hSw; go_simp; try with_reducible rfl
          go_simp
          refine wpAnyH_ready (rs := [15]) (by kernel_rfl) (by simp) ?_
          refine AllReadyH.cons rfl (fun K hK => ?_) AllReadyH.nil
          go_simp
          refine hK.out _ _ ?_ (fun hHeld => ?_)
          · exact Kp.trans (Kp.refl wr).drew (kp_alloc _ _)
          clear hK K
          refine wpAnyH_ready (rs := [16]) (by kernel_rfl) (by simp) ?_
          refine AllReadyH.cons rfl (fun K hK => ?_) AllReadyH.nil
          go_simp
          refine hK.out _ _ ?_ (fun hHeld => ?_)
          · exact (kp_alloc wr (.cells #[.int .i64 n1, .int .i64 s1, .int .i64 o1, .int .i64 d1, .float .f64 xx] 26)).drew
          clear hK K
          refine wpAnyH_done (by kernel_rfl) ?_ _
          go_wp2_with (go_at_call 6; (with_reducible refine (HRR.out _).mono ?_); rintro e w7 ⟨rfl, hk7⟩; have K7 := Lib.hid (Kp.trans (kp_alloc wr (.cells #[.int .i64 n1, .int .i64 s1, .int .i64 o1, .int .i64 d1, .float .f64 xx] 26)).drew hk7); have M7 := kp_row hk7 (show ((wr.alloc (.cells #[.int .i64 n1, .int .i64 s1, .int .i64 o1, .int .i64 d1, .float .f64 xx] 26)).drew).heap[wr.heap.size]? = some (.cells #[.int .i64 n1, .int .i64 s1, .int .i64 o1, .int .i64 d1, .float .f64 xx] 26) from HMR.out); have R7 := Lib.hid (kp_row K7.out Z2w.out); have N7 := kp_row K7.out Z3w.out; obtain ⟨m0, m1, m2, m3, m4⟩ := cells5 (M7); obtain ⟨u0, u1, u2, u3, u4⟩ := cells5 (R7.out); obtain ⟨v0, v1, v2, v3, v4⟩ := cells5 (N7); have fz := froz5 R7.out; clear M7 N7 hk7)
          have hz5 := set5 (.int .i64 n1) (.int .i64 s1) (.int .i64 o1) (.int .i64 d1) (.float .f64 xx) R7.out
          refine bodyPost_ret (results_row_tmp9 (p := 2) (u := 3) rfl _ _ w.heap.size 26 _ (0, 0) _ rfl hz5 Tryz.underlying26 rfl (by kernel_rfl)) rfl ?_
          rw [HDE.out]
          exact ⟨rfl, set5_kp (Kp.trans KW.out K7.out) (Nat.le_refl _) _ _ _ _ _⟩
        | false =>
          rw [hrm] at hde HRR
          rw [if_neg (by decide)] at hde
          have HDE := Lib.hid hde
          have HRR := Lib.hid HRR
          clear hrm hde hwf
          go_wp2
          refine wp_region_held_drew (S := fun w' => Kp wr w') (by kernel_rfl) ?_ (fun hHeld => ?_)
          · exact (Kp.refl wr).drew
          refine wpAnyH_take (i := 0) (v := ?_) rfl (by kernel_rfl) (by kernel_rfl) (by kernel_rfl) (fun _ _ _ h => h) (Or.inl ⟨by rfl, ?_⟩) (by assumption) ?_
          rotate_left
          · intro w hSw; go_simp; try with_reducible rfl
          go_simp
          refine wpAnyH_take (i := 1) (v := ?_) rfl (by kernel_rfl) (by kernel_rfl) (by kernel_rfl) (fun _ _ _ h => h) (Or.inl ⟨by rfl, ?_⟩) (by assumption) ?_
          rotate_left
          · intro w hSw; go_simp; try with_reducible rfl
          go_simp
          refine wpAnyH_take (i := 2) (v := ?_) rfl (by kernel_rfl) (by kernel_rfl) (by kernel_rfl) (fun _ _ _ h => h) (Or.inl ⟨by rfl, ?_⟩) (by assumption) ?_
          rotate_left
          · intro w hSw; have q := kp_cell hSw g1; go_simp; try with_reducible rfl
          go_simp
          refine wpAnyH_take (i := 3) (v := ?_) rfl (by kernel_rfl) (by kernel_rfl) (by kernel_rfl) (fun _ _ _ h => h) (Or.inl ⟨by rfl, ?_⟩) (by assumption) ?_
          rotate_left
          · intro w hSw; go_simp; try with_reducible rfl
          go_simp
          refine wpAnyH_take (i := 4) (v := ?_) rfl (by kernel_rfl) (by kernel_rfl) (by kernel_rfl) (fun _ _ _ h => h) (Or.inl ⟨by rfl, ?_⟩) (by assumption) ?_
          rotate_left
          · intro w hSw; go_simp; try with_reducible rfl
          go_simp
          refine wpAnyH_take (i := 5) (v := ?_) rfl (by kernel_rfl) (by kernel_rfl) (by kernel_rfl) (fun _ _ _ h => h) (Or.inl ⟨by rfl, ?_⟩) (by assumption) ?_
          rotate_left
          · intro w hSw; have q := kp_cell hSw g2; go_simp; try with_reducible rfl
          go_simp
          refine wpAnyH_take (i := 6) (v := ?_) rfl (by kernel_rfl) (by kernel_rfl) (by kernel_rfl) (fun _ _ _ h => h) (Or.inl ⟨by rfl, ?_⟩) (by assumption) ?_
          rotate_left
          · intro w hSw; go_simp; try with_reducible rfl
          go_simp
          refine wpAnyH_take (i := 7) (v := ?_) rfl (by kernel_rfl) (by kernel_rfl) (by kernel_rfl) (fun _ _ _ h => h) (Or.inl ⟨by rfl, ?_⟩) (by assumption) ?_
          rotate_left
          · intro w hSw; go_simp; try with_reducible rfl
          go_simp
          refine wpAnyH_take (i := 8) (v := ?_) rfl (by kernel_rfl) (by kernel_rfl) (by kernel_rfl) (fun _ _ _ h => h) (Or.inl ⟨by rfl, ?_⟩) (by assumption) ?_
          rotate_left
          · intro w hSw; go_simp; try with_reducible rfl
          go_simp
          refine wpAnyH_take (i := 9) (v := ?_) rfl (by kernel_rfl) (by kernel_rfl) (by kernel_rfl) (fun _ _ _ h => h) (Or.inl ⟨by rfl, ?_⟩) (by assumption) ?_
          rotate_left
          · intro w hSw; have q := kp_cell hSw g3; go_simp; try with_reducible rfl
          go_simp
          refine wpAnyH_take (i := 10) (v := ?_) rfl (by kernel_rfl) (by kernel_rfl) (by kernel_rfl) (fun _ _ _ h => h) (Or.inl ⟨by rfl, ?_⟩) (by assumption) ?_
          rotate_left
          · intro w hSw; go_simp; try with_reducible rfl
          go_simp
          refine wpAnyH_take (i := 11) (v := ?_) rfl (by kernel_rfl) (by kernel_rfl) (by kernel_rfl) (fun _ _ _ h => h) (Or.inl ⟨by rfl, ?_⟩) (by assumption) ?_
          rotate_left
          · intro w hSw; go_simp; try with_reducible rfl
          go_simp
          refine wpAnyH_take (i := 12) (v := ?_) rfl (by kernel_rfl) (by kernel_rfl) (by kernel_rfl) (fun _ _ _ h => h) (Or.inl ⟨by rfl, ?_⟩) (by assumption) ?_
          rotate_left
          · intro w hSw; have q := kp_cell hSw g4; go_simp; try with_reducible rfl
          go_simp
          refine wpAnyH_take (i := 13) (v := ?_) rfl (by kernel_rfl) (by kernel_rfl) (by kernel_rfl) (fun _ _ _ h => h) (Or.inl ⟨by rfl, ?_⟩) (by assumption) ?_
          rotate_left
          · intro w hSw; go_simp; try with_reducible rfl
          go_simp
          refine wpAnyH_take (i := 14) (v := ?_) rfl (by kernel_rfl) (by kernel_rfl) (by kernel_rfl) (fun _ _ _ h => h) (Or.inl ⟨by rfl, ?_⟩) (by assumption) ?_
          rotate_left
          · intro w hSw; go_simp; try with_reducible rfl
          go_simp
          refine wpAnyH_ready (rs := [15]) (by kernel_rfl) (by simp) ?_
          refine AllReadyH.cons rfl (fun K hK => ?_) AllReadyH.nil
          go_simp
          refine hK.out _ _ ?_ (fun hHeld => ?_)
          · exact Kp.trans (Kp.refl wr).drew (kp_alloc _ _)
          clear hK K
          refine wpAnyH_ready (rs := [16]) (by kernel_rfl) (by simp) ?_
          refine AllReadyH.cons rfl (fun K hK => ?_) AllReadyH.nil
          go_simp
          refine hK.out _ _ ?_ (fun hHeld => ?_)
          · exact (kp_alloc wr (.cells #[.int .i64 n1, .int .i64 s1, .int .i64 o1, .int .i64 d1, .float .f64 xx] 26)).drew
          clear hK K
          refine wpAnyH_done (by kernel_rfl) ?_ _
          go_wp2_with (go_at_call 6; (with_reducible refine (HRR.out _).mono ?_); rintro e w7 ⟨rfl, hk7⟩; have K7 := Lib.hid (Kp.trans (kp_alloc wr (.cells #[.int .i64 n1, .int .i64 s1, .int .i64 o1, .int .i64 d1, .float .f64 xx] 26)).drew hk7); have M7 := kp_row hk7 (show ((wr.alloc (.cells #[.int .i64 n1, .int .i64 s1, .int .i64 o1, .int .i64 d1, .float .f64 xx] 26)).drew).heap[wr.heap.size]? = some (.cells #[.int .i64 n1, .int .i64 s1, .int .i64 o1, .int .i64 d1, .float .f64 xx] 26) from HMR.out); have R7 := Lib.hid (kp_row K7.out Z2w.out); have N7 := kp_row K7.out Z3w.out; obtain ⟨m0, m1, m2, m3, m4⟩ := cells5 (M7); obtain ⟨u0, u1, u2, u3, u4⟩ := cells5 (R7.out); obtain ⟨v0, v1, v2, v3, v4⟩ := cells5 (N7); have fz := froz5 R7.out; clear M7 N7 hk7)
          have hz5 := set5 (.int .i64 0) (.int .i64 0) (.int .i64 0) (.int .i64 0) (.float .f64 0) R7.out
          refine bodyPost_ret (results_row_tmp9 (p := 2) (u := 3) rfl _ _ w.heap.size 26 _ (0, 0) _ rfl hz5 Tryz.underlying26 rfl (by kernel_rfl)) rfl ?_
          rw [HDE.out]
          exact ⟨rfl, set5_kp (Kp.trans KW.out K7.out) (Nat.le_refl _) _ _ _ _ _⟩

theorem refDecode9_any (a : Option Addr) (n c : Nat) (bs : List Int) (hn : bs.length = n) (hnc : n ≤ c) (hl : n ≤ 1000) (hb : InB bs) (w : World) (hs : SlB (.slice a n c) bs w) :
    Calls Tryz.prog 11 #[.slice a n c] w fun e w' => e = .returned (.tuple #[.agg (decX bs).2.cells, .int .i64 (decX bs).1]) ∧ Kp w w' := by
  by_cases he : (splitQ 17 bs 0 0).1 = 0
  · exact refDecode9_row a n c bs hn hnc hl hb w hs he
  · have e : decX bs = ((splitQ 17 bs 0 0).1, noX) := by unfold decX; rw [if_pos he]
    rw [e]
    exact refDecode9_err a n c bs hn hnc hl hb w hs he
end Go.Proofs.YtldamfpoemgkpaaGreatDoor

namespace Go.Proofs.YtldamfpoemgkpaaGreatDoor
open Go.RowKit Go.ChangeShapes Go.WideShapes

structure BytC (ads : List Addr) (w : World) : Prop where
  encOk : ∀ w1, Kp w w1 → ∀ c : CX, rightX c = true → Calls Tryz.prog 5 #[.agg c.cells] w1 fun e w' => ∃ (a : Option Addr) (p : Nat), e = .returned (.tuple #[.slice a (encX c).length p, .nilIface]) ∧ (encX c).length ≤ p ∧ SlB (.slice a (encX c).length p) (encX c) w' ∧ Kp w1 w'
  encBad : ∀ w1, Kp w w1 → ∀ c : CX, c.wf → rightX c = false → Calls Tryz.prog 5 #[.agg c.cells] w1 fun e w' => e = .returned (.tuple #[.slice none 0 0, errI ads 4]) ∧ Kp w1 w'
  dec : ∀ w1, Kp w w1 → ∀ (a : Option Addr) (p : Nat) (bs : List Int) (n : Nat), bs.length = n → n ≤ 1000 → InB bs → n ≤ p → SlB (.slice a n p) bs w1 → Calls Tryz.prog 8 #[.slice a n p] w1 fun e w' => e = .returned (.tuple #[.agg (decX bs).2.cells, errI ads (decX bs).1]) ∧ Kp w1 w'
theorem BytC.kp {ads : List Addr} {w w' : World} (C : BytC ads w) (hk : Kp w w') : BytC ads w' where
  encOk := fun w1 h => C.encOk w1 (Kp.trans hk h)
  encBad := fun w1 h => C.encBad w1 (Kp.trans hk h)
  dec := fun w1 h => C.dec w1 (Kp.trans hk h)
end Go.Proofs.YtldamfpoemgkpaaGreatDoor

namespace Go.Proofs.YtldamfpoemgkpaaGreatDoor
open Go.RowKit Go.ChangeShapes Go.WideShapes

theorem bytC_of (ads : List Addr) (W : World) (V : St ads W) (T : Tab W) : BytC ads W where
  encOk := fun w1 hk c h => (sencode_ok ads c w1 (V.below hk) (T.kp hk) h).mono (by
    rintro e w' ⟨v, rfl, ho, hk2⟩
    obtain ⟨a, p, rfl, hp⟩ := enc_len ho
    exact ⟨a, p, rfl, hp, own_slb ho, hk2⟩)
  encBad := fun w1 hk c hc h => by
    have h3 : 3 < ads.length := by rw [V.len]; decide
    have := sencode_bad ads h3 c hc w1 (V.below hk) (T.kp hk) h
    rw [← errI_at ads 3 h3] at this
    exact this
  dec := fun w1 hk a p bs n hn hl hb hp hs => sdecode_any ads a p bs n hn hl hb hp w1 (V.below hk) (T.kp hk) hs
end Go.Proofs.YtldamfpoemgkpaaGreatDoor

namespace Go.Proofs.YtldamfpoemgkpaaGreatDoor
open Go.RowKit Go.ChangeShapes Go.WideShapes

theorem live_new9 : newX 0 1 1 4617315517961601024 9218868437227405312 = (0, ⟨0, 1, 1, 0, 9218868437227405312⟩) := by kernel_rfl
theorem live_o1 : openX ⟨0, 1, 1, 0, 9218868437227405312⟩ 4617315517961601024 = true := by kernel_rfl
theorem live_o2 : openX ⟨0, 1, 1, 0, 9218868437227405312⟩ 9094988921128908188 = true := by kernel_rfl
theorem live_o3 : openX ⟨0, 1, 1, 0, 9218868437227405312⟩ 9218868437227405312 = false := by kernel_rfl
set_option maxRecDepth 100000 in
set_option maxHeartbeats 4000000 in
theorem alive9_any (ads : List Addr) (w : World) (S : ScoC ads w) : Calls Tryz.prog 4 #[] w fun e w' => e = .returned (.bool true) ∧ Kp w w' := by
  have HN := fun w1 (hk : Kp w w1) => S.new w1 hk 0 1 1 4617315517961601024 9218868437227405312 (by decide) (by decide)
  have O1 := fun w1 (hk : Kp w w1) => S.opn w1 hk ⟨0, 1, 1, 0, 9218868437227405312⟩ 4617315517961601024 (by unfold CX.wf; decide) (by decide)
  have O2 := fun w1 (hk : Kp w w1) => S.opn w1 hk ⟨0, 1, 1, 0, 9218868437227405312⟩ 9094988921128908188 (by unfold CX.wf; decide) (by decide)
  have O3 := fun w1 (hk : Kp w w1) => S.opn w1 hk ⟨0, 1, 1, 0, 9218868437227405312⟩ 9218868437227405312 (by unfold CX.wf; decide) (by decide)
  rw [live_new9] at HN
  rw [live_o1] at O1
  rw [live_o2] at O2
  rw [live_o3] at O3
  dsimp only [CX.cells] at HN O1 O2 O3
  simp only [errI_nil] at HN
  have HN := Lib.hid HN
  have O1 := Lib.hid O1
  have O2 := Lib.hid O2
  have O3 := Lib.hid O3
  have hsf := store_fl
  go_enter Tryz.func4, Tryz.ntmps4
  go_wp2_with (first
    | (go_at_call 14; (with_reducible refine (inf_one _).mono ?_); rintro e w' ⟨rfl, rfl⟩)
    | (go_at_call 13; (with_reducible refine (HN.out _ (Kp.refl _)).mono ?_); rintro e w1 ⟨rfl, hk⟩; have K1 := Lib.hid (Kp.trans hk (kp_alloc w1 (.cells #[.int .i64 0, .int .i64 1, .int .i64 1, .int .i64 0, .float .f64 9218868437227405312] 26))); have B1 := (MapKept.heap_alloc w1 (.cells #[.int .i64 0, .int .i64 1, .int .i64 1, .int .i64 0, .float .f64 9218868437227405312] 26)).1; obtain ⟨b0, b1, b2, b3, b4⟩ := cells5 (B1); clear hk B1))
  obtain ⟨w2, hw2⟩ : ∃ y, w1.alloc (.cells #[.int .i64 0, .int .i64 1, .int .i64 1, .int .i64 0, .float .f64 9218868437227405312] 26) = y := ⟨_, rfl⟩
  obtain ⟨p0, hp0⟩ : ∃ y, w1.heap.size = y := ⟨_, rfl⟩
  rw [hw2] at K1 b0 b1 b2 b3 b4 ⊢
  rw [hp0] at b0 b1 b2 b3 b4 ⊢
  clear hw2 hp0
  refine wp_region_held_drew (S := fun w' => Kp w2 w') (by kernel_rfl) ?_ (fun hHeld => ?_)
  · exact (Kp.refl w2).drew
  refine wpAnyH_take (i := 0) (v := ?_) rfl (by kernel_rfl) (by kernel_rfl) (by kernel_rfl) (fun _ _ _ h => h) (Or.inl ⟨by rfl, ?_⟩) (by assumption) ?_
  rotate_left
  · intro w hSw; go_simp; try with_reducible rfl
  go_simp
  refine wpAnyH_take (i := 1) (v := ?_) rfl (by kernel_rfl) (by kernel_rfl) (by kernel_rfl) (fun _ _ _ h => h) (Or.inl ⟨by rfl, ?_⟩) (by assumption) ?_
  rotate_left
  · intro w hSw; go_simp; try with_reducible rfl
  go_simp
  refine wpAnyH_take (i := 2) (v := ?_) rfl (by kernel_rfl) (by kernel_rfl) (by kernel_rfl) (fun _ _ _ h => h) (Or.inl ⟨by rfl, ?_⟩) (by assumption) ?_
  rotate_left
  · intro w hSw; go_simp; try with_reducible rfl
  go_simp
  refine wpAnyH_take (i := 3) (v := ?_) rfl (by kernel_rfl) (by kernel_rfl) (by kernel_rfl) (fun _ _ _ h => h) (Or.inl ⟨by rfl, ?_⟩) (by assumption) ?_
  rotate_left
  · intro w hSw; have qb0 := kp_cell hSw b0; have qb1 := kp_cell hSw b1; have qb2 := kp_cell hSw b2; have qb3 := kp_cell hSw b3; have qb4 := kp_cell hSw b4; go_simp; try with_reducible rfl
  go_simp
  refine wpAnyH_ready (rs := [4]) (by kernel_rfl) (by simp) ?_
  refine AllReadyH.cons rfl (fun K hK => ?_) AllReadyH.nil
  go_simp
  go_wp2_with (go_at_call 15; (with_reducible refine (O1.out _ (Kp.trans K1.out hHeld)).mono ?_); rintro e w' ⟨rfl, hk⟩; have KK := Lib.hid (Kp.trans hHeld hk); clear hk)
  refine hK.out _ _ ?_ (fun hHeld => ?_)
  · exact KK.out
  clear hK K
  refine wpAnyH_take (i := 5) (v := ?_) rfl (by kernel_rfl) (by kernel_rfl) (by kernel_rfl) (fun _ _ _ h => h) (Or.inl ⟨by rfl, ?_⟩) (by assumption) ?_
  rotate_left
  · intro w hSw; go_simp; try with_reducible rfl
  go_simp
  refine wpAnyH_take (i := 6) (v := ?_) rfl (by kernel_rfl) (by kernel_rfl) (by kernel_rfl) (fun _ _ _ h => h) (Or.inl ⟨by rfl, ?_⟩) (by assumption) ?_
  rotate_left
  · intro w hSw; go_simp; try with_reducible rfl
  go_simp
  refine wpAnyH_take (i := 7) (v := ?_) rfl (by kernel_rfl) (by kernel_rfl) (by kernel_rfl) (fun _ _ _ h => h) (Or.inl ⟨by rfl, ?_⟩) (by assumption) ?_
  rotate_left
  · intro w hSw; have qb0 := kp_cell hSw b0; have qb1 := kp_cell hSw b1; have qb2 := kp_cell hSw b2; have qb3 := kp_cell hSw b3; have qb4 := kp_cell hSw b4; go_simp; try with_reducible rfl
  go_simp
  refine wpAnyH_ready (rs := [8]) (by kernel_rfl) (by simp) ?_
  refine AllReadyH.cons rfl (fun K hK => ?_) AllReadyH.nil
  go_simp
  go_wp2_with (go_at_call 15; (with_reducible refine (O2.out _ (Kp.trans K1.out hHeld)).mono ?_); rintro e w' ⟨rfl, hk⟩; have KK := Lib.hid (Kp.trans hHeld hk); clear hk)
  refine hK.out _ _ ?_ (fun hHeld => ?_)
  · exact KK.out
  clear hK K
  refine wpAnyH_take (i := 9) (v := ?_) rfl (by kernel_rfl) (by kernel_rfl) (by kernel_rfl) (fun _ _ _ h => h) (Or.inl ⟨by rfl, ?_⟩) (by assumption) ?_
  rotate_left
  · intro w hSw; go_simp; try with_reducible rfl
  go_simp
  refine wpAnyH_take (i := 10) (v := ?_) rfl (by kernel_rfl) (by kernel_rfl) (by kernel_rfl) (fun _ _ _ h => h) (Or.inl ⟨by rfl, ?_⟩) (by assumption) ?_
  rotate_left
  · intro w hSw; go_simp; try with_reducible rfl
  go_simp
  refine wpAnyH_take (i := 11) (v := ?_) rfl (by kernel_rfl) (by kernel_rfl) (by kernel_rfl) (fun _ _ _ h => h) (Or.inl ⟨by rfl, ?_⟩) (by assumption) ?_
  rotate_left
  · intro w hSw; have qb0 := kp_cell hSw b0; have qb1 := kp_cell hSw b1; have qb2 := kp_cell hSw b2; have qb3 := kp_cell hSw b3; have qb4 := kp_cell hSw b4; go_simp; try with_reducible rfl
  go_simp
  refine wpAnyH_ready (rs := [12]) (by kernel_rfl) (by simp) ?_
  refine AllReadyH.cons rfl (fun K hK => ?_) AllReadyH.nil
  go_simp
  go_wp2_with (go_at_call 14; (with_reducible refine (inf_one _).mono ?_); rintro e w' ⟨rfl, rfl⟩)
  refine hK.out _ _ ?_ (fun hHeld => ?_)
  · exact hHeld
  clear hK K
  refine wpAnyH_ready (rs := [13]) (by kernel_rfl) (by simp) ?_
  refine AllReadyH.cons rfl (fun K hK => ?_) AllReadyH.nil
  go_simp
  go_wp2_with (go_at_call 15; (with_reducible refine (O3.out _ (Kp.trans K1.out hHeld)).mono ?_); rintro e w' ⟨rfl, hk⟩; have KK := Lib.hid (Kp.trans hHeld hk); clear hk)
  refine hK.out _ _ ?_ (fun hHeld => ?_)
  · exact KK.out
  clear hK K
  refine wpAnyH_take (i := 14) (v := ?_) rfl (by kernel_rfl) (by kernel_rfl) (by kernel_rfl) (fun _ _ _ h => h) (Or.inl ⟨by rfl, ?_⟩) (by assumption) ?_
  rotate_left
  · intro w hSw; go_simp; try with_reducible rfl
  go_simp
  refine wpAnyH_take (i := 15) (v := ?_) rfl (by kernel_rfl) (by kernel_rfl) (by kernel_rfl) (fun _ _ _ h => h) (Or.inl ⟨by rfl, ?_⟩) (by assumption) ?_
  rotate_left
  · intro w hSw; go_simp; try with_reducible rfl
  go_simp
  refine wpAnyH_take (i := 16) (v := ?_) rfl (by kernel_rfl) (by kernel_rfl) (by kernel_rfl) (fun _ _ _ h => h) (Or.inl ⟨by rfl, ?_⟩) (by assumption) ?_
  rotate_left
  · intro w hSw; go_simp; try with_reducible rfl
  go_simp
  refine wpAnyH_done (by kernel_rfl) ?_ _
  go_wp2
  go_ret
  exact ⟨by first | rfl | simp, Kp.trans K1.out hHeld⟩
end Go.Proofs.YtldamfpoemgkpaaGreatDoor

