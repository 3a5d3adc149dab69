/-
  PARTS OF THIS PROOF (own work): FacB, SplO.
-/
import Derived.Test.YtpemeenfhkgmpaaGreatDoorZs01
import Derived.Test.YtpemeenfhkgmpaaGreatDoorZs13
import Derived.Test.YtpemeenfhkgmpaaGreatDoorZs08
import Derived.Test.YtpemeenfhkgmpaaGreatDoorZs05
import Derived.Test.YtpemeenfhkgmpaaGreatDoorZs06
namespace Go.Proofs.YtpemeenfhkgmpaaGreatDoor
open Go.RowKit Go.ChangeShapes Go.WideShapes

theorem own_nilF (w : World) (base : Nat) (e : TypeId) (size : Nat) : w.ownsRow base e size (.slice none 0 0) 0 [] := ⟨by simp, .inl ⟨rfl, rfl⟩⟩
set_option maxRecDepth 100000 in
theorem fbytes1_bad (ads : List Addr) (h3 : 3 < ads.length) (f : FX) (hf : f.wf) (B : Nat) (w : World) (V : St ads w) (T : Tab w) (hB : w.heap[B]? = some (.cells f.cells 39 (0, 0))) (hr : rightF f = false) :
    Calls Tryz.prog 85 #[.pointer (some ⟨B, 0, none⟩)] w fun e w' => e = .panicked [{ v := snt (ads[3]'h3), recovered := false }] ∧ Kp w w' := by
  have c3 : w.cell? ⟨3, 0, none⟩ = some (snt (ads[3]'h3)) := V.cell 3 (by decide)
  obtain ⟨a3, ha3⟩ : ∃ a, ads[3]'h3 = a := ⟨_, rfl⟩
  rw [ha3] at c3 ⊢
  have HR := Lib.hid (fun w1 (hk : Kp w w1) => facRight_any ads f hf w1 (V.below hk) (T.kp hk))
  simp only [hr] at HR
  obtain ⟨k, n, s, r, u, p, q, o, d, a, t, hh, c, x⟩ := f
  dsimp only [FX.cells] at HR hB
  obtain ⟨b0, b1, b2, b3, b4, b5, b6, b7, b8, b9, b10, b11, b12, b13⟩ := cells14 hB
  clear V T hB hr ha3 hf
  go_enter Tryz.func85, Tryz.ntmps85
  go_wp2
  refine wp_region_held_drew (S := fun w' => Kp w w') (by kernel_rfl) ?_ (fun hHeld => ?_)
  · exact (Kp.refl w).drew
  refine tkW ?_ 0 ?_ ?_; rotate_left
  · intro w hSw; have q0 := kp_cell hSw b0; have q1 := kp_cell hSw b1; have q2 := kp_cell hSw b2; have q3 := kp_cell hSw b3; have q4 := kp_cell hSw b4; have q5 := kp_cell hSw b5; have q6 := kp_cell hSw b6; have q7 := kp_cell hSw b7; have q8 := kp_cell hSw b8; have q9 := kp_cell hSw b9; have q10 := kp_cell hSw b10; have q11 := kp_cell hSw b11; have q12 := kp_cell hSw b12; have q13 := kp_cell hSw b13; go_simp; try rfl
  go_simp
  refine tkW ?_ 2 ?_ ?_; rotate_left
  · intro w hSw; have q := kp_cell hSw c3; go_simp; try rfl
  go_simp
  refine wpAnyH_ready (rs := [1]) (by kernel_rfl) (by simp) ?_
  refine AllReadyH.cons rfl (fun K hK => ?_) AllReadyH.nil
  go_simp
  go_wp2_with (go_at_call 27; (with_reducible refine (HR.out _ hHeld).mono ?_); rintro e w2 ⟨rfl, hk2⟩; have K2 := Lib.hid (Kp.trans hHeld hk2); clear hk2)
  refine hK.out _ _ ?_ (fun hHeld => ?_)
  · exact K2.out
  clear hK K
  refine wpAnyH_ready (rs := [3]) (by kernel_rfl) (by simp) ?_
  refine AllReadyH.cons rfl (fun K hK => ?_) AllReadyH.nil
  go_simp
  go_wp2_with (go_at_call 86; (with_reducible refine (fdemand_f _ _).mono ?_); rintro e w' ⟨rfl, rfl⟩)
  exact ⟨rfl, rfl, hHeld⟩

set_option maxRecDepth 100000 in
set_option maxHeartbeats 4000000 in
theorem fbytes1_ok (ads : List Addr) (h3 : 3 < ads.length) (f : FX) (B : Nat) (w : World) (V : St ads w) (T : Tab w) (hB : w.heap[B]? = some (.cells f.cells 39 (0, 0))) (hr : rightF f = true) :
    Calls Tryz.prog 85 #[.pointer (some ⟨B, 0, none⟩)] w fun e w' => ∃ v, e = .returned v ∧ w'.ownsRow w.heap.size 5 1 v (encF f).length ((encF f).map (Value.int .u8)) ∧ Kp w w' := by
  have c3 : w.cell? ⟨3, 0, none⟩ = some (snt (ads[3]'h3)) := V.cell 3 (by decide)
  obtain ⟨a3, ha3⟩ : ∃ a, ads[3]'h3 = a := ⟨_, rfl⟩
  rw [ha3] at c3
  obtain ⟨hpl, hc⟩ := rightF_plain hr
  have HR := Lib.hid (fun w1 (hk : Kp w w1) => facRight_any ads f hc w1 (V.below hk) (T.kp hk))
  simp only [hr] at HR
  have hml : f.nums.length = 13 := rfl
  have hm := rightF_okn hr
  have hjo := fun (a : Option Addr) (cap len : Nat) (hl : (rowG f).length = len) (w1 : World) (hk : Kp w w1) (hs : SlQ (.slice a len cap) (rowG f) w1) => join_ok ads a cap (rowG f) len hl (by have := rowG_len f; omega) w1 (V.below hk) hs (rowG_run f)
  have hrow0 : w.heap[B]? = some (.cells (numsF f.nums f.x) 39 (0, 0)) := hB
  have hcell := fun (w1 : World) (hk : Kp w w1) (j : Nat) (hj : j < f.nums.length) => kp_cell hk (numsF_cell hrow0 j hj)
  have hnb := fun (n : Nat) (hn : n < 9223372036854775808) (nn : Int) (hnn : (n : Int) = nn) (w1 : World) (hk : Kp w w1) => number_any ads n hn nn hnn w1 (V.below hk)
  have hfl := fun w1 => float_any f.x hc w1
  unfold encF
  have hrx : rowG f = rowF 1 f.nums ++ tailF f := rfl
  have htl : tailF f = if f.k = 1 then [(14, f8 (Fl.plain f.x))] else [] := rfl
  obtain ⟨RX, hRX⟩ : ∃ y, rowG f = y := ⟨_, rfl⟩
  rw [hRX] at hjo hrx ⊢
  obtain ⟨TX, hTX⟩ : ∃ y, tailF f = y := ⟨_, rfl⟩
  rw [hTX] at hrx htl
  obtain ⟨k, n, s, r, u, p, q, o, d, a, t, hh, c, x⟩ := f
  obtain ⟨ns, hns⟩ : ∃ y, FX.nums ⟨k, n, s, r, u, p, q, o, d, a, t, hh, c, x⟩ = y := ⟨_, rfl⟩
  have hcell2 : ∀ (w1 : World), Kp w w1 → ∀ (j : Nat) (hj : j < ns.length), w1.cell? ⟨B, j, none⟩ = some (.int .i64 ns[j]) := by subst hns; exact hcell
  rw [hns] at hml hm hrx
  dsimp only [FX.cells] at HR hB hfl htl
  obtain ⟨fx, hfx⟩ : ∃ y, f8 (Fl.plain x) = y := ⟨_, rfl⟩
  have hfi : InB fx := by rw [← hfx]; exact f8_in _
  have hf8 : fx.length = 8 := by rw [← hfx]; rfl
  rw [hfx] at hfl htl
  obtain ⟨b0, b1, b2, b3, b4, b5, b6, b7, b8, b9, b10, b11, b12, b13⟩ := cells14 hB
  have HBK := Lib.hid b0
  have HBX := Lib.hid b13
  have HOK := Lib.hid hm
  have HML := Lib.hid hml
  have HC := Lib.hid hcell2
  have HJO := Lib.hid hjo
  have HNB := Lib.hid hnb
  have HFL := Lib.hid hfl
  have HRX := Lib.hid hrx
  have HTL := Lib.hid htl
  have HFI := Lib.hid (And.intro hfi hf8)
  have HIF := Lib.hid (info_parts info_fieldT)
  have HPL := Lib.hid (fun (w1 : World) => (show Calls Tryz.prog 87 #[.pointer (some ⟨B, 0, none⟩)] w1 fun e w' => e = .returned (.agg #[.pointer none, .pointer (some ⟨B, 0, none⟩), .pointer (some ⟨B, 1, none⟩), .pointer (some ⟨B, 2, none⟩), .pointer (some ⟨B, 3, none⟩), .pointer (some ⟨B, 4, none⟩), .pointer (some ⟨B, 5, none⟩), .pointer (some ⟨B, 6, none⟩), .pointer (some ⟨B, 7, none⟩), .pointer (some ⟨B, 8, none⟩), .pointer (some ⟨B, 9, none⟩), .pointer (some ⟨B, 10, none⟩), .pointer (some ⟨B, 11, none⟩), .pointer (some ⟨B, 12, none⟩)]) ∧ Kp w1 w' from placesF_any B w1))
  clear V T hB hrow0 hr ha3 hm hml hns hcell hcell2 hjo hnb hfl hrx htl hRX hTX hfx hfi hf8 hpl hc
  go_enter Tryz.func85, Tryz.ntmps85
  go_wp2
  refine wp_region_held_drew (S := fun w' => Kp w w') (by kernel_rfl) ?_ (fun hHeld => ?_)
  · exact (Kp.refl w).drew
  refine tkW ?_ 0 ?_ ?_; rotate_left
  · intro w hSw; have q0 := kp_cell hSw b0; have q1 := kp_cell hSw b1; have q2 := kp_cell hSw b2; have q3 := kp_cell hSw b3; have q4 := kp_cell hSw b4; have q5 := kp_cell hSw b5; have q6 := kp_cell hSw b6; have q7 := kp_cell hSw b7; have q8 := kp_cell hSw b8; have q9 := kp_cell hSw b9; have q10 := kp_cell hSw b10; have q11 := kp_cell hSw b11; have q12 := kp_cell hSw b12; have q13 := kp_cell hSw b13; go_simp; try rfl
  go_simp
  refine tkW ?_ 2 ?_ ?_; rotate_left
  · intro w hSw; have q := kp_cell hSw c3; go_simp; try rfl
  go_simp
  refine wpAnyH_ready (rs := [1]) (by kernel_rfl) (by simp) ?_
  refine AllReadyH.cons rfl (fun K hK => ?_) AllReadyH.nil
  go_simp
  go_wp2_with (go_at_call 27; (with_reducible refine (HR.out _ hHeld).mono ?_); rintro e w2 ⟨rfl, hk2⟩; have K2 := Lib.hid (Kp.trans hHeld hk2); clear hk2)
  refine hK.out _ _ ?_ (fun hHeld => ?_)
  · exact K2.out
  clear hK K
  refine wpAnyH_ready (rs := [3]) (by kernel_rfl) (by simp) ?_
  refine AllReadyH.cons rfl (fun K hK => ?_) AllReadyH.nil
  go_simp
  go_wp2_with (go_at_call 86; (with_reducible refine (fdemand_t _ _).mono ?_); rintro e w' ⟨rfl, rfl⟩)
  refine hK.out _ _ ?_ (fun hHeld => ?_)
  · exact hHeld
  clear hK K
  refine wpAnyH_done (by kernel_rfl) ?_ _
  clear b0 b1 b2 b3 b4 b5 b6 b7 b8 b9 b10 b11 b12 b13 c3
  go_wp2_with (go_at_call 87; (with_reducible refine (HPL.out _).mono ?_); rintro e w3 ⟨rfl, hk3⟩; have K3 := Lib.hid (Kp.trans K2.out hk3); clear hk3)
  have K4 := Lib.hid (Kp.trans K3.out (kp_alloc w3 (.cells #[.pointer none, .pointer (some ⟨B, 0, none⟩), .pointer (some ⟨B, 1, none⟩), .pointer (some ⟨B, 2, none⟩), .pointer (some ⟨B, 3, none⟩), .pointer (some ⟨B, 4, none⟩), .pointer (some ⟨B, 5, none⟩), .pointer (some ⟨B, 6, none⟩), .pointer (some ⟨B, 7, none⟩), .pointer (some ⟨B, 8, none⟩), .pointer (some ⟨B, 9, none⟩), .pointer (some ⟨B, 10, none⟩), .pointer (some ⟨B, 11, none⟩), .pointer (some ⟨B, 12, none⟩)] 153)))
  have hra : (w3.alloc (.cells #[.pointer none, .pointer (some ⟨B, 0, none⟩), .pointer (some ⟨B, 1, none⟩), .pointer (some ⟨B, 2, none⟩), .pointer (some ⟨B, 3, none⟩), .pointer (some ⟨B, 4, none⟩), .pointer (some ⟨B, 5, none⟩), .pointer (some ⟨B, 6, none⟩), .pointer (some ⟨B, 7, none⟩), .pointer (some ⟨B, 8, none⟩), .pointer (some ⟨B, 9, none⟩), .pointer (some ⟨B, 10, none⟩), .pointer (some ⟨B, 11, none⟩), .pointer (some ⟨B, 12, none⟩)] 153)).heap[w3.heap.size]? = some (.cells (plF B) 153 (0, 0)) := (MapKept.heap_alloc w3 (.cells #[.pointer none, .pointer (some ⟨B, 0, none⟩), .pointer (some ⟨B, 1, none⟩), .pointer (some ⟨B, 2, none⟩), .pointer (some ⟨B, 3, none⟩), .pointer (some ⟨B, 4, none⟩), .pointer (some ⟨B, 5, none⟩), .pointer (some ⟨B, 6, none⟩), .pointer (some ⟨B, 7, none⟩), .pointer (some ⟨B, 8, none⟩), .pointer (some ⟨B, 9, none⟩), .pointer (some ⟨B, 10, none⟩), .pointer (some ⟨B, 11, none⟩), .pointer (some ⟨B, 12, none⟩)] 153)).1
  obtain ⟨A, hAA⟩ : ∃ y, w3.heap.size = y := ⟨_, rfl⟩
  rw [hAA] at hra ⊢
  have HRA := Lib.hid hra
  clear hra hAA
  go_loopw [2, 4] (fun v i wr => ∃ (j : Nat) (gs : List (Int × List Int × Value)), j ≤ 13 ∧ i = .int .i64 ((j : Int) + 1) ∧ Kp w wr ∧ wr.ownsRow w.heap.size 122 2 v gs.length (gs.flatMap cellQ) ∧ OwnD w.heap.size gs wr ∧ gs.map fldQ = rowF 1 (ns.take j) ∧ wr.heap[A]? = some (.cells (plF B) 153 (0, 0))) (fun _ i _ => 14 - (intOf i).toNat)
  case atStart => exact ⟨0, [], Nat.zero_le _, rfl, K4.out, own_nilF _ _ _ _, (fun g hg => by cases hg), rfl, HRA.out⟩
  case round =>
    obtain ⟨j, gs, hj, rfl, hk, hown, hod, hrow, hra⟩ := hrel
    obtain ⟨jj, hjj⟩ : ∃ jj : Int, (j : Int) + 1 = jj := ⟨_, rfl⟩
    rw [hjj]
    have HK := Lib.hid hk
    have HOW := Lib.hid hown
    have HOD := Lib.hid hod
    have HROW := Lib.hid hrow
    have HA := Lib.hid hra
    have hml := HML.out
    by_cases hlt : j < 13
    · have hjl : j < ns.length := by omega
      have hcj := HC.out wr hk j hjl
      have hx := HOK.out ns[j] (List.getElem_mem hjl)
      have cpa := plF_cell hra j hlt
      have SN := rowF_snoc (ns.take j) 1 ns[j]
      rw [← List.take_succ_eq_append_getElem hjl, List.length_take, Nat.min_eq_left (by omega)] at SN
      obtain ⟨y, hxx⟩ : ∃ x, ns[j] = x := ⟨_, rfl⟩
      rw [hxx] at hcj hx SN
      obtain ⟨x0, x1⟩ := hx
      have j0 : 0 ≤ jj := by omega
      have hltj : jj < 14 := by omega
      have ej : j + 1 = jj.toNat := by omega
      rw [ej] at cpa
      have HJ := Lib.hid hjj
      by_cases hz : y = 0
      · rw [if_pos hz] at SN
        have HSN := Lib.hid SN
        subst hz
        clear hk hown hod hrow hra SN hxx hjl hml hlt x0 x1 ej hjj
        go_wp2
        have hjj := HJ.out
        go_roundw
        case rel => exact ⟨j + 1, gs, by omega, by congr 1; omega, HK.out, HOW.out, HOD.out, by rw [HSN.out, List.append_nil]; exact HROW.out, HA.out⟩
        case measure => simp [intOf]; omega
      · rw [if_neg hz] at SN
        have HSN := Lib.hid SN
        have hxn : ((y.toNat : Nat) : Int) = y := by omega
        have hzb : (y != 0) = true := by simpa using hz
        have HNU := Lib.hid (HNB.out y.toNat (by omega) y hxn wr hk)
        obtain ⟨bs, hbs⟩ : ∃ b, beF 8 y.toNat = b := ⟨_, rfl⟩
        have hbi : InB bs := by rw [← hbs]; exact beF_inB _ _
        rw [hbs] at HNU HSN
        have HBI := Lib.hid hbi
        obtain ⟨av, cv, hv⟩ := (own_slq rfl hown hod).form
        rw [List.length_map] at hv
        subst hv
        obtain ⟨kl, hkl⟩ : ∃ x, gs.length = x := ⟨_, rfl⟩
        have hk9 : kl ≤ 13 := by
          have h1 := congrArg List.length hrow
          have h2 := rowF_len (ns.take j) 1
          rw [List.length_map] at h1
          rw [List.length_take] at h2
          omega
        rw [hkl] at hown HOW ⊢
        have HKL := Lib.hid hkl
        obtain ⟨i0, hi, hz0, hz1, hz2⟩ := HIF.out
        have HI := Lib.hid (And.intro hz1 hz2)
        have HI2 := Lib.hid hi
        have HI3 := Lib.hid hz0
        clear hk hown hod hrow hra SN hxx hjl hml hlt x0 x1 hxn hbs hbi hi hz0 hz1 hz2 hkl ej hjj hz
        go_wp2_with (first
          | (go_at_call 88; (with_reducible refine HNU.out.mono ?_); rintro e w5 ⟨v5, rfl, ho5, hk5⟩; obtain ⟨a5, c5, rfl, -⟩ := enc_len ho5; have HO5 := Lib.hid ho5; have K5 := Lib.hid hk5; have K6 := Lib.hid (Kp.trans hk5 (kp_alloc w5 (.cells #[.int .i64 jj, .slice a5 bs.length c5] 122))); have OW6 := Lib.hid (own_kp HOW.out K6.out); clear ho5 hk5)
          | (go_at_call 47; (with_reducible refine (must_bytes_t _ _).mono ?_); rintro e w' ⟨rfl, rfl⟩)
          | (at_builtin; refine wpList_append_own _ rfl (.tmp 22) (.tmp 30) 118 rfl w.heap.size 122 i0 (.agg #[.int .i64 0, .slice none 0 0]) 2 32 Tryz.underlying118 HI2.out HI3.out HI.out.1 HI.out.2 rfl (by decide) _ _ _ rfl OW6.out ⟨w5.heap.size, 0, none⟩ 1 1 [.int .i64 jj, .slice a5 bs.length c5] rfl ?c1 ?c2 ?c3 ?c4 ?c5 ?c6 ?_))
        case c1 => rfl
        case c2 =>
          intro i u hi
          rw [add_plain]
          unfold World.cell?
          dsimp only
          rw [(MapKept.heap_alloc w5 _).1]
          have hi3 : i < 2 := by
            rcases Nat.lt_or_ge i 2 with q | q
            · exact q
            · rw [List.getElem?_eq_none (by simpa using q)] at hi; cases hi
          match i, hi3, hi with
          | 0, _, hi | 1, _, hi => simpa using hi
        case c3 => intro u hu; simp at hu; rcases hu with rfl | rfl <;> rfl
        case c4 => unfold maxLen; omega
        case c5 => omega
        case c6 => exact Below.size (Kp.trans HK.out K6.out)
        rintro v6 w6 hown6 hgr6 -
        have hsz := Below.size HK.out
        have kp6 : Kp w w6 := rows_kp OW6.out hgr6 (Kp.trans HK.out K6.out)
        have od6 : OwnD w.heap.size (gs ++ [(jj, bs, Value.slice a5 bs.length c5)]) w6 := by
          intro g hg
          rcases List.mem_append.1 hg with hg | hg
          · exact ((HOD.out.kp K6.out).grows OW6.out hgr6) g hg
          · have : g = (jj, bs, Value.slice a5 bs.length c5) := by simpa using hg
            subst this
            exact ⟨own_grows OW6.out hgr6 (own_kp (own_mono HO5.out hsz) (kp_alloc w5 _)) (by decide), HBI.out⟩
        have own6 : w6.ownsRow w.heap.size 122 2 v6 (gs ++ [(jj, bs, Value.slice a5 bs.length c5)]).length ((gs ++ [(jj, bs, Value.slice a5 bs.length c5)]).flatMap cellQ) := by
          rw [List.length_append, List.length_singleton, HKL.out, List.flatMap_append]
          exact hown6
        have ra6 := row_grows OW6.out hgr6 _ _ _ (kp_row K6.out HA.out) (by decide)
        have O6 := Lib.hid own6
        have D6 := Lib.hid od6
        have KQ6 := Lib.hid kp6
        have RA6 := Lib.hid ra6
        clear own6 od6 kp6 ra6 hown6 hgr6 hsz
        go_wp2
        have hjj := HJ.out
        go_roundw
        case rel =>
          refine ⟨j + 1, gs ++ [(jj, bs, Value.slice a5 bs.length c5)], by omega, by congr 1; omega, KQ6.out, O6.out, D6.out, ?_, RA6.out⟩
          rw [HSN.out, List.map_append, HROW.out, ← hjj, show (1 : Int) + (j : Int) = (j : Int) + 1 by omega]
          rfl
        case measure => simp [intOf]; omega
    · obtain rfl : j = 13 := by omega
      have hful : ns.take 13 = ns := List.take_of_length_le (by omega)
      rw [hful] at hrow
      obtain ⟨av, cv, hv⟩ := (own_slq rfl hown hod).form
      rw [List.length_map] at hv
      subst hv
      have hrow2 := hrow
      obtain ⟨kl, hkl⟩ : ∃ x, gs.length = x := ⟨_, rfl⟩
      have hk9 : kl ≤ 13 := by
        have h1 := congrArg List.length hrow
        have h2 := rowF_len ns 1
        rw [List.length_map] at h1
        omega
      have HSQ := Lib.hid (own_slq rfl hown hod)
      rw [hkl] at hown HOW ⊢
      have HKL := Lib.hid hkl
      obtain ⟨i0, hi, hz0, hz1, hz2⟩ := HIF.out
      have HI := Lib.hid (And.intro hz1 hz2)
      have HI2 := Lib.hid hi
      have HI3 := Lib.hid hz0
      have hex : ¬ jj < 14 := by omega
      have cK := kp_cell hk HBK.out
      have cX := kp_cell hk HBX.out
      have H8 := HFI.out.2
      by_cases hk1 : k = 1
      · subst hk1
        have htx := HTL.out
        rw [if_pos rfl] at htx
        have HTX := Lib.hid htx
        clear hk hown hod hrow hrow2 hful hml hlt hi hz0 hz1 hz2 hkl hjj hra htx
        go_wp2_with (first
          | (go_at_call 89; (with_reducible refine (HFL.out _).mono ?_); rintro e w5 ⟨v5, rfl, ho5, hk5⟩; obtain ⟨a5, c5, rfl, -⟩ := enc_len ho5; have HO5 := Lib.hid ho5; have K5 := Lib.hid hk5; have K6 := Lib.hid (Kp.trans hk5 (kp_alloc w5 (.cells #[.int .i64 14, .slice a5 8 c5] 122))); have OW6 := Lib.hid (own_kp HOW.out K6.out); clear ho5 hk5)
          | (at_builtin; refine wpList_append_own _ rfl (.tmp 35) (.tmp 40) 118 rfl w.heap.size 122 i0 (.agg #[.int .i64 0, .slice none 0 0]) 2 32 Tryz.underlying118 HI2.out HI3.out HI.out.1 HI.out.2 rfl (by decide) _ _ _ rfl OW6.out ⟨w5.heap.size, 0, none⟩ 1 1 [.int .i64 14, .slice a5 8 c5] rfl ?d1 ?d2 ?d3 ?d4 ?d5 ?d6 ?_))
        case d1 => rfl
        case d2 =>
          intro i u hi
          rw [add_plain]
          unfold World.cell?
          dsimp only
          rw [(MapKept.heap_alloc w5 _).1]
          have hi3 : i < 2 := by
            rcases Nat.lt_or_ge i 2 with q | q
            · exact q
            · rw [List.getElem?_eq_none (by simpa using q)] at hi; cases hi
          match i, hi3, hi with
          | 0, _, hi | 1, _, hi => simpa using hi
        case d3 => intro u hu; simp at hu; rcases hu with rfl | rfl <;> rfl
        case d4 => unfold maxLen; omega
        case d5 => omega
        case d6 => exact Below.size (Kp.trans HK.out K6.out)
        rintro v6 w6 hown6 hgr6 -
        have hsz := Below.size HK.out
        have kp6 : Kp w w6 := rows_kp OW6.out hgr6 (Kp.trans HK.out K6.out)
        have od6 : OwnD w.heap.size (gs ++ [(14, fx, Value.slice a5 8 c5)]) w6 := by
          intro g hg
          rcases List.mem_append.1 hg with hg | hg
          · exact ((HOD.out.kp K6.out).grows OW6.out hgr6) g hg
          · have : g = (14, fx, Value.slice a5 8 c5) := by simpa using hg
            subst this
            refine ⟨?_, HFI.out.1⟩
            have := own_grows OW6.out hgr6 (own_kp (own_mono HO5.out hsz) (kp_alloc w5 _)) (by decide)
            rw [H8]
            exact this
        have own6 : w6.ownsRow w.heap.size 122 2 v6 (gs ++ [(14, fx, Value.slice a5 8 c5)]).length ((gs ++ [(14, fx, Value.slice a5 8 c5)]).flatMap cellQ) := by
          rw [List.length_append, List.length_singleton, HKL.out, List.flatMap_append]
          have e : [((14 : Int), fx, Value.slice a5 8 c5)].flatMap cellQ = [.int .i64 14, .slice a5 8 c5] := rfl
          rw [e]
          exact hown6
        have hsq := own_slq rfl own6 od6
        have hrow2 : (gs ++ [((14 : Int), fx, Value.slice a5 8 c5)]).map fldQ = RX := by
          have hful : ns.take 13 = ns := List.take_of_length_le (by have := HML.out; omega)
          have h := HROW.out
          rw [hful] at h
          rw [List.map_append, h, HRX.out, HTX.out]
          rfl
        rw [hrow2] at hsq
        obtain ⟨av6, cv6, hv6⟩ := hsq.form
        subst hv6
        have hj := Lib.hid (HJO.out av6 cv6 _ rfl w6 kp6 hsq)
        have K8 := Lib.hid kp6
        clear own6 od6 kp6 hown6 hgr6 hsz hsq hrow2
        go_wp2_with (first
          | (go_at_call 90; (with_reducible refine hj.out.mono ?_); rintro e w7 ⟨v7, rfl, hs7, hk7⟩; have K7 := Lib.hid (Kp.trans K8.out hk7); have S7 := Lib.hid (own_mono hs7 (Below.size K8.out)); clear hs7 hk7)
          | (go_at_call 47; (with_reducible refine (must_bytes_t _ _).mono ?_); rintro e w' ⟨rfl, rfl⟩))
        go_ret
        exact ⟨_, rfl, S7.out, K7.out⟩
      · have hkb : (k == 1) = false := by simpa using hk1
        have htx := HTL.out
        rw [if_neg hk1] at htx
        have hrx : gs.map fldQ = RX := by rw [hrow2, HRX.out, htx, List.append_nil]
        have hsq := HSQ.out
        rw [hrx] at hsq
        have hlr : RX.length = kl := by rw [← hrx, List.length_map]; exact hkl
        have hj := Lib.hid (HJO.out av cv kl hlr wr hk (by rw [← hkl]; exact hsq))
        clear hk hown hod hrow hrow2 hful hml hlt hi hz0 hz1 hz2 hkl hjj hra htx hrx hsq hlr hk1
        go_wp2_with (first
          | (go_at_call 90; (with_reducible refine hj.out.mono ?_); rintro e w7 ⟨v7, rfl, hs7, hk7⟩; have K7 := Lib.hid (Kp.trans HK.out hk7); have S7 := Lib.hid (own_mono hs7 (Below.size HK.out)); clear hs7 hk7)
          | (go_at_call 47; (with_reducible refine (must_bytes_t _ _).mono ?_); rintro e w' ⟨rfl, rfl⟩))
        go_ret
        exact ⟨_, rfl, S7.out, K7.out⟩
set_option maxRecDepth 20000 in
theorem fbytes_bad (ads : List Addr) (h3 : 3 < ads.length) (m : FX) (hm : m.wf) (w : World) (V : St ads w) (T : Tab w) (hr : rightF m = false) :
    Calls Tryz.prog 48 #[.agg m.cells] w fun e w' => e = .returned (.tuple #[.slice none 0 0, snt (ads[3]'h3)]) ∧ Kp w w' := by
  have hmf : ∀ (fn : Fn) (first cap : Array Value) (w : World), (Instr.makeFunc fn first cap).run Tryz.prog w = .ok (.func fn first cap) w := fun _ _ _ _ => rfl
  have kb := kp_alloc w (.cells m.cells 39)
  have hc := (MapKept.heap_alloc w (.cells m.cells 39)).1
  have HT := Lib.hid (try_bytes_err ads 3 h3 85 #[.pointer (some ⟨w.heap.size, 0, none⟩)] (w.alloc (.cells m.cells 39)) (V.below kb) (by intro w; simp [go_sem]) fun w1 h1 => fbytes1_bad ads h3 m hm w.heap.size w1 (V.below (Kp.trans kb h1)) (T.kp (Kp.trans kb h1)) (kp_row h1 hc) hr)
  have KB := Lib.hid kb
  clear kb hc V T hr
  obtain ⟨k, n, s, r, u, p, q, o, d, a, t, hh, c, x⟩ := m
  dsimp only [FX.cells] at HT KB ⊢
  go_enter Tryz.func48, Tryz.ntmps48
  go_wp2_with (go_at_call 84; (with_reducible refine HT.out.mono ?_); rintro e w' ⟨rfl, hk⟩; have HK := Lib.hid hk; clear hk)
  go_ret2
  exact ⟨rfl, Kp.trans KB.out HK.out⟩

set_option maxRecDepth 20000 in
theorem fbytes_ok (ads : List Addr) (m : FX) (w : World) (V : St ads w) (T : Tab w) (hr : rightF m = true) :
    Calls Tryz.prog 48 #[.agg m.cells] w fun e w' => ∃ v, e = .returned (.tuple #[v, .nilIface]) ∧ w'.ownsRow w.heap.size 5 1 v (encF m).length ((encF m).map (Value.int .u8)) ∧ Kp w w' := by
  have hmf : ∀ (fn : Fn) (first cap : Array Value) (w : World), (Instr.makeFunc fn first cap).run Tryz.prog w = .ok (.func fn first cap) w := fun _ _ _ _ => rfl
  have h3 : 3 < ads.length := by rw [V.len]; decide
  have kb := kp_alloc w (.cells m.cells 39)
  have hc := (MapKept.heap_alloc w (.cells m.cells 39)).1
  have HT := Lib.hid (try_bytes_own 85 #[.pointer (some ⟨w.heap.size, 0, none⟩)] (encF m) (w.alloc (.cells m.cells 39)) (by intro w; simp [go_sem]) fun w1 h1 => (fbytes1_ok ads h3 m w.heap.size w1 (V.below (Kp.trans kb h1)) (T.kp (Kp.trans kb h1)) (kp_row h1 hc) hr).mono (by
    rintro e w2 ⟨v, rfl, ho, hk⟩
    exact ⟨v, rfl, ho, hk⟩))
  obtain ⟨eb, heb⟩ : ∃ x, encF m = x := ⟨_, rfl⟩
  rw [heb] at HT ⊢
  clear heb
  have KB := Lib.hid kb
  clear kb hc V T hr
  obtain ⟨k, n, s, r, u, p, q, o, d, a, t, hh, c, x⟩ := m
  dsimp only [FX.cells] at HT KB ⊢
  go_enter Tryz.func48, Tryz.ntmps48
  go_wp2_with (go_at_call 84; (with_reducible refine HT.out.mono ?_); rintro e w' ⟨v, rfl, ho, hk⟩; have HK := Lib.hid hk; have HO := Lib.hid ho; clear hk ho)
  go_ret2
  exact ⟨_, rfl, own_mono HO.out (Below.size KB.out), Kp.trans KB.out HK.out⟩

open Go.RowKit Go.ChangeShapes Go.WideShapes

theorem split_own (ads : List Addr) (h1 : 1 < ads.length) (h3 : 3 < ads.length) (a : Option Addr) (cap : Nat) (bs : List Int) (len : Nat) (hlen : bs.length = len) (hl : len ≤ 1000000) (hlc : len ≤ cap) (hb : InB bs) (w : World) (V : St ads w) (hs : SlB (.slice a len cap) bs w) (h0 : (splitQ 17 bs 0 0).1 = 0) :
    Calls Tryz.prog 94 #[.slice a len cap] w fun e w' => ∃ v gs, e = .returned (.tuple #[v, .nilIface]) ∧ (splitQ 17 bs 0 0).2 = gs.map fldQ ∧ w'.ownsRow w.heap.size 122 2 v gs.length (gs.flatMap cellQ) ∧ OwnD w.heap.size gs w' ∧ Kp w w' := by
  have hmf : ∀ (fn : Fn) (first cap : Array Value) (w : World), (Instr.makeFunc fn first cap).run Tryz.prog w = .ok (.func fn first cap) w := fun _ _ _ _ => rfl
  have kb := kp_alloc w (.cells #[.slice a len cap] 55)
  have hbx : (w.alloc (boxS (.slice a len cap))).heap[w.heap.size]? = some (boxS (.slice a len cap)) := (MapKept.heap_alloc w _).1
  have hsz : (w.alloc (.cells #[.slice a len cap] 55)).heap.size = w.heap.size + 1 := by simp
  obtain ⟨RES, hres⟩ : ∃ RES, splitQ 17 bs 0 0 = RES := ⟨_, rfl⟩
  have HB := fun w1 (hk : Kp (w.alloc (.cells #[.slice a len cap] 55)) w1) => split1_any ads h1 h3 w a cap bs len hlen hl hlc hb hs V w1 (Kp.trans kb hk) (kp_row hk hbx)
  rw [hres] at HB h0 ⊢
  have hf : ∀ w, (callFunc 133 #[.pointer (some ⟨w.heap.size, 0, none⟩)]).run Tryz.prog w = .ok (.enter 133 #[.pointer (some ⟨w.heap.size, 0, none⟩)]) w := by intro w; simp [go_sem]
  have KB := Lib.hid kb
  have HSZ := Lib.hid hsz
  have HT : Calls Tryz.prog 132 #[.func (.func 133) #[] #[.pointer (some ⟨w.heap.size, 0, none⟩)]] (w.alloc (.cells #[.slice a len cap] 55)) fun e w' => ∃ v gs, e = .returned (.tuple #[v, .nilIface]) ∧ RES.2 = gs.map fldQ ∧ w'.ownsRow w.heap.size 122 2 v gs.length (gs.flatMap cellQ) ∧ OwnD w.heap.size gs w' ∧ Below w.heap.size w w' := by
    refine (try_fields_ret 133 _ _ (fun v w1 w2 => ∃ gs, RES.2 = gs.map fldQ ∧ w2.ownsRow w1.heap.size 122 2 v gs.length (gs.flatMap cellQ) ∧ OwnD w1.heap.size gs w2 ∧ Kp w w2) (by intro w; simp [go_sem]) fun w1 hb1 hs1 => ?_).mono ?_
    · refine (HB w1 hb1).mono ?_
      rintro e w2 ⟨h, hk, hkb⟩
      rcases h with ⟨_, v, gs, rfl, h2, ho, hd⟩ | ⟨h, _⟩ | ⟨h, _⟩
      · exact ⟨v, rfl, hkb.past (by rw [HSZ.out]; omega), gs, h2, ho, hd, hk⟩
      · rw [h0] at h; cases h
      · rw [h0] at h; cases h
    · rintro e w' ⟨v, rfl, w1, w2, hb1, hs1, ⟨gs, h2, ho, hd, hk⟩, hb2, ha⟩
      have hle : w.heap.size ≤ w1.heap.size := by have := HSZ.out; omega
      refine ⟨v, gs, rfl, h2, own_mono (own_aside ho ha (by omega)) hle, fun g hg => ⟨own_mono ((ownD_aside hd ha (by omega)) g hg).1 hle, (hd g hg).2⟩, ?_⟩
      exact Below.trans hk (Below.mono hb2 (by rw [HSZ.out]; omega))
  have HTT := Lib.hid HT
  clear HT HB kb hbx hsz hs V
  go_enter Tryz.func94, Tryz.ntmps94
  go_wp2_with (go_at_call 132; (with_reducible refine HTT.out.mono ?_); rintro e w' ⟨v, gs, rfl, h2, ho, hd, hk⟩; have HK := Lib.hid hk; have HO := Lib.hid ho; have HD := Lib.hid hd; have H2 := Lib.hid h2; clear hk ho hd h2)
  go_ret2
  exact ⟨_, gs, rfl, H2.out, HO.out, HD.out, HK.out⟩
end Go.Proofs.YtpemeenfhkgmpaaGreatDoor
