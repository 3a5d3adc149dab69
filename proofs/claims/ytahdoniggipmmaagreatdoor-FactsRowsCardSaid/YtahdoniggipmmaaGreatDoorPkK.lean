/-
  PARTS OF THIS PROOF (own work): FacB, FacD, FacG, FacH, FacC, FacX.
-/
import Derived.Test.YtahdoniggipmmaaGreatDoorPkJ
import Derived.Test.YtahdoniggipmmaaGreatDoorPkI
import Derived.Test.YtahdoniggipmmaaGreatDoorPkE
import Derived.Test.YtahdoniggipmmaaGreatDoorPkF
import Derived.Test.YtahdoniggipmmaaGreatDoorPkD
import Derived.Test.YtahdoniggipmmaaGreatDoorPkA

namespace Go.Proofs.YtahdoniggipmmaaGreatDoor
open Go.RowKit Go.ChangeShapes Go.WideShapes

theorem own_nilF (w : World) (base : Nat) (e : TypeId) (size : Nat) : w.ownsRow base e size (.slice none 0 0) 0 [] := ⟨by simp, .inl ⟨rfl, rfl⟩⟩
set_option maxRecDepth 100000 in
theorem fbytes1_bad (ads : List Addr) (h3 : 3 < ads.length) (f : FX) (hf : f.wf) (B : Nat) (w : World) (V : St ads w) (T : Tab w) (hB : w.heap[B]? = some (.cells f.cells 26 (0, 0))) (hr : rightF f = false) :
    Calls Tryz.prog 21 #[.pointer (some ⟨B, 0, none⟩)] w fun e w' => e = .panicked [{ v := snt (ads[3]'h3), recovered := false }] ∧ Kp w w' := by
  have c3 : w.cell? ⟨0, 0, none⟩ = some (snt (ads[3]'h3)) := V.cell 3 (by decide)
  obtain ⟨a3, ha3⟩ : ∃ a, ads[3]'h3 = a := ⟨_, rfl⟩
  rw [ha3] at c3 ⊢
  have HR := Lib.hid (fun w1 (hk : Kp w w1) => facRight_any ads f hf w1 (V.below hk) (T.kp hk))
  simp only [hr] at HR
  obtain ⟨k, n, s, r, u, p, q, o, d, a, t, hh, c, x⟩ := f
  dsimp only [FX.cells] at HR hB
  obtain ⟨b0, b1, b2, b3, b4, b5, b6, b7, b8, b9, b10, b11, b12, b13⟩ := cells14 hB
  clear V T hB hr ha3 hf
  go_enter Tryz.func21, Tryz.ntmps21
  go_wp2
  refine wp_region_held_drew (S := fun w' => Kp w w') (by kernel_rfl) ?_ (fun hHeld => ?_)
  · exact (Kp.refl w).drew
  refine wpAnyH_take (i := 0) (v := ?_) rfl (by kernel_rfl) (by kernel_rfl) (by kernel_rfl) (fun _ _ _ h => h) (Or.inl ⟨by rfl, ?_⟩) (by assumption) ?_
  rotate_left
  · intro w hSw; have q0 := kp_cell hSw b0; have q1 := kp_cell hSw b1; have q2 := kp_cell hSw b2; have q3 := kp_cell hSw b3; have q4 := kp_cell hSw b4; have q5 := kp_cell hSw b5; have q6 := kp_cell hSw b6; have q7 := kp_cell hSw b7; have q8 := kp_cell hSw b8; have q9 := kp_cell hSw b9; have q10 := kp_cell hSw b10; have q11 := kp_cell hSw b11; have q12 := kp_cell hSw b12; have q13 := kp_cell hSw b13; go_simp; try with_reducible rfl
  go_simp
  refine wpAnyH_take (i := 2) (v := ?_) rfl (by kernel_rfl) (by kernel_rfl) (by kernel_rfl) (fun _ _ _ h => h) (Or.inl ⟨by rfl, ?_⟩) (by assumption) ?_
  rotate_left
  · intro w hSw; have q := kp_cell hSw c3; go_simp; try with_reducible rfl
  go_simp
  refine wpAnyH_ready (rs := [1]) (by kernel_rfl) (by simp) ?_
  refine AllReadyH.cons rfl (fun K hK => ?_) AllReadyH.nil
  go_simp
  go_wp2_with (go_at_call 9; (with_reducible refine (HR.out _ hHeld).mono ?_); rintro e w2 ⟨rfl, hk2⟩; have K2 := Lib.hid (Kp.trans hHeld hk2); clear hk2)
  refine hK.out _ _ ?_ (fun hHeld => ?_)
  · exact K2.out
  clear hK K
  refine wpAnyH_ready (rs := [3]) (by kernel_rfl) (by simp) ?_
  refine AllReadyH.cons rfl (fun K hK => ?_) AllReadyH.nil
  go_simp
  go_wp2_with (go_at_call 22; (with_reducible refine (fdemand_f _ _).mono ?_); rintro e w' ⟨rfl, rfl⟩)
  exact ⟨rfl, rfl, hHeld⟩

set_option maxRecDepth 100000 in
set_option maxHeartbeats 4000000 in
theorem fbytes1_ok (ads : List Addr) (h3 : 3 < ads.length) (f : FX) (B : Nat) (w : World) (V : St ads w) (T : Tab w) (hB : w.heap[B]? = some (.cells f.cells 26 (0, 0))) (hr : rightF f = true) :
    Calls Tryz.prog 21 #[.pointer (some ⟨B, 0, none⟩)] w fun e w' => ∃ v, e = .returned v ∧ w'.ownsRow w.heap.size 5 1 v (encF f).length ((encF f).map (Value.int .u8)) ∧ Kp w w' := by
  have c3 : w.cell? ⟨0, 0, none⟩ = some (snt (ads[3]'h3)) := V.cell 3 (by decide)
  obtain ⟨a3, ha3⟩ : ∃ a, ads[3]'h3 = a := ⟨_, rfl⟩
  rw [ha3] at c3
  obtain ⟨hpl, hc⟩ := rightF_plain hr
  have HR := Lib.hid (fun w1 (hk : Kp w w1) => facRight_any ads f hc w1 (V.below hk) (T.kp hk))
  simp only [hr] at HR
  have hml : f.nums.length = 13 := rfl
  have hm := rightF_okn hr
  have hjo := fun (a : Option Addr) (cap len : Nat) (hl : (rowG f).length = len) (w1 : World) (hk : Kp w w1) (hs : SlQ (.slice a len cap) (rowG f) w1) => join_ok ads a cap (rowG f) len hl (by have := rowG_len f; omega) w1 (V.below hk) hs (rowG_run f)
  have hrow0 : w.heap[B]? = some (.cells (numsF f.nums f.x) 26 (0, 0)) := hB
  have hcell := fun (w1 : World) (hk : Kp w w1) (j : Nat) (hj : j < f.nums.length) => kp_cell hk (numsF_cell hrow0 j hj)
  have hnb := fun (n : Nat) (hn : n < 9223372036854775808) (nn : Int) (hnn : (n : Int) = nn) (w1 : World) (hk : Kp w w1) => number_any ads n hn nn hnn w1 (V.below hk)
  have hfl := fun w1 => float_any f.x hc w1
  unfold encF
  have hrx : rowG f = rowF 1 f.nums ++ tailF f := rfl
  have htl : tailF f = if f.k = 1 then [(14, f8 (Fl.plain f.x))] else [] := rfl
  obtain ⟨RX, hRX⟩ : ∃ y, rowG f = y := ⟨_, rfl⟩
  rw [hRX] at hjo hrx ⊢
  obtain ⟨TX, hTX⟩ : ∃ y, tailF f = y := ⟨_, rfl⟩
  rw [hTX] at hrx htl
  obtain ⟨k, n, s, r, u, p, q, o, d, a, t, hh, c, x⟩ := f
  obtain ⟨ns, hns⟩ : ∃ y, FX.nums ⟨k, n, s, r, u, p, q, o, d, a, t, hh, c, x⟩ = y := ⟨_, rfl⟩
  have hcell2 : ∀ (w1 : World), Kp w w1 → ∀ (j : Nat) (hj : j < ns.length), w1.cell? ⟨B, j, none⟩ = some (.int .i64 ns[j]) := by subst hns; exact hcell
  rw [hns] at hml hm hrx
  dsimp only [FX.cells] at HR hB hfl htl
  obtain ⟨fx, hfx⟩ : ∃ y, f8 (Fl.plain x) = y := ⟨_, rfl⟩
  have hfi : InB fx := by rw [← hfx]; exact f8_in _
  have hf8 : fx.length = 8 := by rw [← hfx]; rfl
  rw [hfx] at hfl htl
  obtain ⟨b0, b1, b2, b3, b4, b5, b6, b7, b8, b9, b10, b11, b12, b13⟩ := cells14 hB
  have HBK := Lib.hid b0
  have HBX := Lib.hid b13
  have HOK := Lib.hid hm
  have HML := Lib.hid hml
  have HC := Lib.hid hcell2
  have HJO := Lib.hid hjo
  have HNB := Lib.hid hnb
  have HFL := Lib.hid hfl
  have HRX := Lib.hid hrx
  have HTL := Lib.hid htl
  have HFI := Lib.hid (And.intro hfi hf8)
  have HIF := Lib.hid (info_parts info_fieldT)
  have HPL := Lib.hid (fun (w1 : World) => (show Calls Tryz.prog 23 #[.pointer (some ⟨B, 0, none⟩)] w1 fun e w' => e = .returned (.agg #[.pointer none, .pointer (some ⟨B, 0, none⟩), .pointer (some ⟨B, 1, none⟩), .pointer (some ⟨B, 2, none⟩), .pointer (some ⟨B, 3, none⟩), .pointer (some ⟨B, 4, none⟩), .pointer (some ⟨B, 5, none⟩), .pointer (some ⟨B, 6, none⟩), .pointer (some ⟨B, 7, none⟩), .pointer (some ⟨B, 8, none⟩), .pointer (some ⟨B, 9, none⟩), .pointer (some ⟨B, 10, none⟩), .pointer (some ⟨B, 11, none⟩), .pointer (some ⟨B, 12, none⟩)]) ∧ Kp w1 w' from placesF_any B w1))
  clear V T hB hrow0 hr ha3 hm hml hns hcell hcell2 hjo hnb hfl hrx htl hRX hTX hfx hfi hf8 hpl hc
  go_enter Tryz.func21, Tryz.ntmps21
  go_wp2
  refine wp_region_held_drew (S := fun w' => Kp w w') (by kernel_rfl) ?_ (fun hHeld => ?_)
  · exact (Kp.refl w).drew
  refine wpAnyH_take (i := 0) (v := ?_) rfl (by kernel_rfl) (by kernel_rfl) (by kernel_rfl) (fun _ _ _ h => h) (Or.inl ⟨by rfl, ?_⟩) (by assumption) ?_
  rotate_left
  · intro w hSw; have q0 := kp_cell hSw b0; have q1 := kp_cell hSw b1; have q2 := kp_cell hSw b2; have q3 := kp_cell hSw b3; have q4 := kp_cell hSw b4; have q5 := kp_cell hSw b5; have q6 := kp_cell hSw b6; have q7 := kp_cell hSw b7; have q8 := kp_cell hSw b8; have q9 := kp_cell hSw b9; have q10 := kp_cell hSw b10; have q11 := kp_cell hSw b11; have q12 := kp_cell hSw b12; have q13 := kp_cell hSw b13; go_simp; try with_reducible rfl
  go_simp
  refine wpAnyH_take (i := 2) (v := ?_) rfl (by kernel_rfl) (by kernel_rfl) (by kernel_rfl) (fun _ _ _ h => h) (Or.inl ⟨by rfl, ?_⟩) (by assumption) ?_
  rotate_left
  · intro w hSw; have q := kp_cell hSw c3; go_simp; try with_reducible rfl
  go_simp
  refine wpAnyH_ready (rs := [1]) (by kernel_rfl) (by simp) ?_
  refine AllReadyH.cons rfl (fun K hK => ?_) AllReadyH.nil
  go_simp
  go_wp2_with (go_at_call 9; (with_reducible refine (HR.out _ hHeld).mono ?_); rintro e w2 ⟨rfl, hk2⟩; have K2 := Lib.hid (Kp.trans hHeld hk2); clear hk2)
  refine hK.out _ _ ?_ (fun hHeld => ?_)
  · exact K2.out
  clear hK K
  refine wpAnyH_ready (rs := [3]) (by kernel_rfl) (by simp) ?_
  refine AllReadyH.cons rfl (fun K hK => ?_) AllReadyH.nil
  go_simp
  go_wp2_with (go_at_call 22; (with_reducible refine (fdemand_t _ _).mono ?_); rintro e w' ⟨rfl, rfl⟩)
  refine hK.out _ _ ?_ (fun hHeld => ?_)
  · exact hHeld
  clear hK K
  refine wpAnyH_done (by kernel_rfl) ?_ _
  clear b0 b1 b2 b3 b4 b5 b6 b7 b8 b9 b10 b11 b12 b13 c3
  go_wp2_with (go_at_call 23; (with_reducible refine (HPL.out _).mono ?_); rintro e w3 ⟨rfl, hk3⟩; have K3 := Lib.hid (Kp.trans K2.out hk3); clear hk3)
  have K4 := Lib.hid (Kp.trans K3.out (kp_alloc w3 (.cells #[.pointer none, .pointer (some ⟨B, 0, none⟩), .pointer (some ⟨B, 1, none⟩), .pointer (some ⟨B, 2, none⟩), .pointer (some ⟨B, 3, none⟩), .pointer (some ⟨B, 4, none⟩), .pointer (some ⟨B, 5, none⟩), .pointer (some ⟨B, 6, none⟩), .pointer (some ⟨B, 7, none⟩), .pointer (some ⟨B, 8, none⟩), .pointer (some ⟨B, 9, none⟩), .pointer (some ⟨B, 10, none⟩), .pointer (some ⟨B, 11, none⟩), .pointer (some ⟨B, 12, none⟩)] 58)))
  have hra : (w3.alloc (.cells #[.pointer none, .pointer (some ⟨B, 0, none⟩), .pointer (some ⟨B, 1, none⟩), .pointer (some ⟨B, 2, none⟩), .pointer (some ⟨B, 3, none⟩), .pointer (some ⟨B, 4, none⟩), .pointer (some ⟨B, 5, none⟩), .pointer (some ⟨B, 6, none⟩), .pointer (some ⟨B, 7, none⟩), .pointer (some ⟨B, 8, none⟩), .pointer (some ⟨B, 9, none⟩), .pointer (some ⟨B, 10, none⟩), .pointer (some ⟨B, 11, none⟩), .pointer (some ⟨B, 12, none⟩)] 58)).heap[w3.heap.size]? = some (.cells (plF B) 58 (0, 0)) := (MapKept.heap_alloc w3 (.cells #[.pointer none, .pointer (some ⟨B, 0, none⟩), .pointer (some ⟨B, 1, none⟩), .pointer (some ⟨B, 2, none⟩), .pointer (some ⟨B, 3, none⟩), .pointer (some ⟨B, 4, none⟩), .pointer (some ⟨B, 5, none⟩), .pointer (some ⟨B, 6, none⟩), .pointer (some ⟨B, 7, none⟩), .pointer (some ⟨B, 8, none⟩), .pointer (some ⟨B, 9, none⟩), .pointer (some ⟨B, 10, none⟩), .pointer (some ⟨B, 11, none⟩), .pointer (some ⟨B, 12, none⟩)] 58)).1
  obtain ⟨A, hAA⟩ : ∃ y, w3.heap.size = y := ⟨_, rfl⟩
  rw [hAA] at hra ⊢
  have HRA := Lib.hid hra
  clear hra hAA
  go_loopw [2, 4] (fun v i wr => ∃ (j : Nat) (gs : List (Int × List Int × Value)), j ≤ 13 ∧ i = .int .i64 ((j : Int) + 1) ∧ Kp w wr ∧ wr.ownsRow w.heap.size 64 2 v gs.length (gs.flatMap cellQ) ∧ OwnD w.heap.size gs wr ∧ gs.map fldQ = rowF 1 (ns.take j) ∧ wr.heap[A]? = some (.cells (plF B) 58 (0, 0))) (fun _ i _ => 14 - (intOf i).toNat)
  case atStart => exact ⟨0, [], Nat.zero_le _, rfl, K4.out, own_nilF _ _ _ _, (fun g hg => by cases hg), rfl, HRA.out⟩
  case round =>
    obtain ⟨j, gs, hj, rfl, hk, hown, hod, hrow, hra⟩ := hrel
    obtain ⟨jj, hjj⟩ : ∃ jj : Int, (j : Int) + 1 = jj := ⟨_, rfl⟩
    rw [hjj]
    have HK := Lib.hid hk
    have HOW := Lib.hid hown
    have HOD := Lib.hid hod
    have HROW := Lib.hid hrow
    have HA := Lib.hid hra
    have hml := HML.out
    by_cases hlt : j < 13
    · have hjl : j < ns.length := by omega
      have hcj := HC.out wr hk j hjl
      have hx := HOK.out ns[j] (List.getElem_mem hjl)
      have cpa := plF_cell hra j hlt
      have SN := rowF_snoc (ns.take j) 1 ns[j]
      rw [← List.take_succ_eq_append_getElem hjl, List.length_take, Nat.min_eq_left (by omega)] at SN
      obtain ⟨y, hxx⟩ : ∃ x, ns[j] = x := ⟨_, rfl⟩
      rw [hxx] at hcj hx SN
      obtain ⟨x0, x1⟩ := hx
      have j0 : 0 ≤ jj := by omega
      have hltj : jj < 14 := by omega
      have ej : j + 1 = jj.toNat := by omega
      rw [ej] at cpa
      have HJ := Lib.hid hjj
      by_cases hz : y = 0
      · rw [if_pos hz] at SN
        have HSN := Lib.hid SN
        subst hz
        clear hk hown hod hrow hra SN hxx hjl hml hlt x0 x1 ej hjj
        go_wp2
        have hjj := HJ.out
        go_roundw
        case rel => exact ⟨j + 1, gs, by omega, by congr 1; omega, HK.out, HOW.out, HOD.out, by rw [HSN.out, List.append_nil]; exact HROW.out, HA.out⟩
        case measure => simp [intOf]; omega
      · rw [if_neg hz] at SN
        have HSN := Lib.hid SN
        have hxn : ((y.toNat : Nat) : Int) = y := by omega
        have hzb : (y != 0) = true := by simpa using hz
        have HNU := Lib.hid (HNB.out y.toNat (by omega) y hxn wr hk)
        obtain ⟨bs, hbs⟩ : ∃ b, beF 8 y.toNat = b := ⟨_, rfl⟩
        have hbi : InB bs := by rw [← hbs]; exact beF_inB _ _
        rw [hbs] at HNU HSN
        have HBI := Lib.hid hbi
        obtain ⟨av, cv, hv⟩ := (own_slq rfl hown hod).form
        rw [List.length_map] at hv
        subst hv
        obtain ⟨kl, hkl⟩ : ∃ x, gs.length = x := ⟨_, rfl⟩
        have hk9 : kl ≤ 13 := by
          have h1 := congrArg List.length hrow
          have h2 := rowF_len (ns.take j) 1
          rw [List.length_map] at h1
          rw [List.length_take] at h2
          omega
        rw [hkl] at hown HOW ⊢
        have HKL := Lib.hid hkl
        obtain ⟨i0, hi, hz0, hz1, hz2⟩ := HIF.out
        have HI := Lib.hid (And.intro hz1 hz2)
        have HI2 := Lib.hid hi
        have HI3 := Lib.hid hz0
        clear hk hown hod hrow hra SN hxx hjl hml hlt x0 x1 hxn hbs hbi hi hz0 hz1 hz2 hkl ej hjj hz
        go_wp2_with (first
          | (go_at_call 25; (with_reducible refine HNU.out.mono ?_); rintro e w5 ⟨v5, rfl, ho5, hk5⟩; obtain ⟨a5, c5, rfl, -⟩ := enc_len ho5; have HO5 := Lib.hid ho5; have K5 := Lib.hid hk5; have K6 := Lib.hid (Kp.trans hk5 (kp_alloc w5 (.cells #[.int .i64 jj, .slice a5 bs.length c5] 64))); have OW6 := Lib.hid (own_kp HOW.out K6.out); clear ho5 hk5)
          | (go_at_call 24; (with_reducible refine (must_bytes_t _ _).mono ?_); rintro e w' ⟨rfl, rfl⟩)
          | (at_builtin; refine wpList_append_own _ rfl (.tmp 22) (.tmp 30) 56 rfl w.heap.size 64 i0 (.agg #[.int .i64 0, .slice none 0 0]) 2 32 Tryz.underlying56 HI2.out HI3.out HI.out.1 HI.out.2 rfl (by decide) _ _ _ rfl OW6.out ⟨w5.heap.size, 0, none⟩ 1 1 [.int .i64 jj, .slice a5 bs.length c5] rfl ?c1 ?c2 ?c3 ?c4 ?c5 ?c6 ?_))
        case c1 => rfl
        case c2 =>
          intro i u hi
          rw [add_plain]
          unfold World.cell?
          dsimp only
          rw [(MapKept.heap_alloc w5 _).1]
          have hi3 : i < 2 := by
            rcases Nat.lt_or_ge i 2 with q | q
            · exact q
            · rw [List.getElem?_eq_none (by simpa using q)] at hi; cases hi
          match i, hi3, hi with
          | 0, _, hi | 1, _, hi => simpa using hi
        case c3 => intro u hu; simp at hu; rcases hu with rfl | rfl <;> rfl
        case c4 => unfold maxLen; omega
        case c5 => omega
        case c6 => exact Below.size (Kp.trans HK.out K6.out)
        rintro v6 w6 hown6 hgr6 -
        have hsz := Below.size HK.out
        have kp6 : Kp w w6 := rows_kp OW6.out hgr6 (Kp.trans HK.out K6.out)
        have od6 : OwnD w.heap.size (gs ++ [(jj, bs, Value.slice a5 bs.length c5)]) w6 := by
          intro g hg
          rcases List.mem_append.1 hg with hg | hg
          · exact ((HOD.out.kp K6.out).grows OW6.out hgr6) g hg
          · have : g = (jj, bs, Value.slice a5 bs.length c5) := by simpa using hg
            subst this
            exact ⟨own_grows OW6.out hgr6 (own_kp (own_mono HO5.out hsz) (kp_alloc w5 _)) (by decide), HBI.out⟩
        have own6 : w6.ownsRow w.heap.size 64 2 v6 (gs ++ [(jj, bs, Value.slice a5 bs.length c5)]).length ((gs ++ [(jj, bs, Value.slice a5 bs.length c5)]).flatMap cellQ) := by
          rw [List.length_append, List.length_singleton, HKL.out, List.flatMap_append]
          exact hown6
        have ra6 := row_grows OW6.out hgr6 _ _ _ (kp_row K6.out HA.out) (by decide)
        have O6 := Lib.hid own6
        have D6 := Lib.hid od6
        have KQ6 := Lib.hid kp6
        have RA6 := Lib.hid ra6
        clear own6 od6 kp6 ra6 hown6 hgr6 hsz
        go_wp2
        have hjj := HJ.out
        go_roundw
        case rel =>
          refine ⟨j + 1, gs ++ [(jj, bs, Value.slice a5 bs.length c5)], by omega, by congr 1; omega, KQ6.out, O6.out, D6.out, ?_, RA6.out⟩
          rw [HSN.out, List.map_append, HROW.out, ← hjj, show (1 : Int) + (j : Int) = (j : Int) + 1 by omega]
          rfl
        case measure => simp [intOf]; omega
    · obtain rfl : j = 13 := by omega
      have hful : ns.take 13 = ns := List.take_of_length_le (by omega)
      rw [hful] at hrow
      obtain ⟨av, cv, hv⟩ := (own_slq rfl hown hod).form
      rw [List.length_map] at hv
      subst hv
      have hrow2 := hrow
      obtain ⟨kl, hkl⟩ : ∃ x, gs.length = x := ⟨_, rfl⟩
      have hk9 : kl ≤ 13 := by
        have h1 := congrArg List.length hrow
        have h2 := rowF_len ns 1
        rw [List.length_map] at h1
        omega
      have HSQ := Lib.hid (own_slq rfl hown hod)
      rw [hkl] at hown HOW ⊢
      have HKL := Lib.hid hkl
      obtain ⟨i0, hi, hz0, hz1, hz2⟩ := HIF.out
      have HI := Lib.hid (And.intro hz1 hz2)
      have HI2 := Lib.hid hi
      have HI3 := Lib.hid hz0
      have hex : ¬ jj < 14 := by omega
      have cK := kp_cell hk HBK.out
      have cX := kp_cell hk HBX.out
      have H8 := HFI.out.2
      by_cases hk1 : k = 1
      · subst hk1
        have htx := HTL.out
        rw [if_pos rfl] at htx
        have HTX := Lib.hid htx
        clear hk hown hod hrow hrow2 hful hml hlt hi hz0 hz1 hz2 hkl hjj hra htx
        go_wp2_with (first
          | (go_at_call 26; (with_reducible refine (HFL.out _).mono ?_); rintro e w5 ⟨v5, rfl, ho5, hk5⟩; obtain ⟨a5, c5, rfl, -⟩ := enc_len ho5; have HO5 := Lib.hid ho5; have K5 := Lib.hid hk5; have K6 := Lib.hid (Kp.trans hk5 (kp_alloc w5 (.cells #[.int .i64 14, .slice a5 8 c5] 64))); have OW6 := Lib.hid (own_kp HOW.out K6.out); clear ho5 hk5)
          | (at_builtin; refine wpList_append_own _ rfl (.tmp 35) (.tmp 40) 56 rfl w.heap.size 64 i0 (.agg #[.int .i64 0, .slice none 0 0]) 2 32 Tryz.underlying56 HI2.out HI3.out HI.out.1 HI.out.2 rfl (by decide) _ _ _ rfl OW6.out ⟨w5.heap.size, 0, none⟩ 1 1 [.int .i64 14, .slice a5 8 c5] rfl ?d1 ?d2 ?d3 ?d4 ?d5 ?d6 ?_))
        case d1 => rfl
        case d2 =>
          intro i u hi
          rw [add_plain]
          unfold World.cell?
          dsimp only
          rw [(MapKept.heap_alloc w5 _).1]
          have hi3 : i < 2 := by
            rcases Nat.lt_or_ge i 2 with q | q
            · exact q
            · rw [List.getElem?_eq_none (by simpa using q)] at hi; cases hi
          match i, hi3, hi with
          | 0, _, hi | 1, _, hi => simpa using hi
        case d3 => intro u hu; simp at hu; rcases hu with rfl | rfl <;> rfl
        case d4 => unfold maxLen; omega
        case d5 => omega
        case d6 => exact Below.size (Kp.trans HK.out K6.out)
        rintro v6 w6 hown6 hgr6 -
        have hsz := Below.size HK.out
        have kp6 : Kp w w6 := rows_kp OW6.out hgr6 (Kp.trans HK.out K6.out)
        have od6 : OwnD w.heap.size (gs ++ [(14, fx, Value.slice a5 8 c5)]) w6 := by
          intro g hg
          rcases List.mem_append.1 hg with hg | hg
          · exact ((HOD.out.kp K6.out).grows OW6.out hgr6) g hg
          · have : g = (14, fx, Value.slice a5 8 c5) := by simpa using hg
            subst this
            refine ⟨?_, HFI.out.1⟩
            have := own_grows OW6.out hgr6 (own_kp (own_mono HO5.out hsz) (kp_alloc w5 _)) (by decide)
            rw [H8]
            exact this
        have own6 : w6.ownsRow w.heap.size 64 2 v6 (gs ++ [(14, fx, Value.slice a5 8 c5)]).length ((gs ++ [(14, fx, Value.slice a5 8 c5)]).flatMap cellQ) := by
          rw [List.length_append, List.length_singleton, HKL.out, List.flatMap_append]
          have e : [((14 : Int), fx, Value.slice a5 8 c5)].flatMap cellQ = [.int .i64 14, .slice a5 8 c5] := rfl
          rw [e]
          exact hown6
        have hsq := own_slq rfl own6 od6
        have hrow2 : (gs ++ [((14 : Int), fx, Value.slice a5 8 c5)]).map fldQ = RX := by
          have hful : ns.take 13 = ns := List.take_of_length_le (by have := HML.out; omega)
          have h := HROW.out
          rw [hful] at h
          rw [List.map_append, h, HRX.out, HTX.out]
          rfl
        rw [hrow2] at hsq
        obtain ⟨av6, cv6, hv6⟩ := hsq.form
        subst hv6
        have hj := Lib.hid (HJO.out av6 cv6 _ rfl w6 kp6 hsq)
        have K8 := Lib.hid kp6
        clear own6 od6 kp6 hown6 hgr6 hsz hsq hrow2
        go_wp2_with (first
          | (go_at_call 27; (with_reducible refine hj.out.mono ?_); rintro e w7 ⟨v7, rfl, hs7, hk7⟩; have K7 := Lib.hid (Kp.trans K8.out hk7); have S7 := Lib.hid (own_mono hs7 (Below.size K8.out)); clear hs7 hk7)
          | (go_at_call 24; (with_reducible refine (must_bytes_t _ _).mono ?_); rintro e w' ⟨rfl, rfl⟩))
        go_ret
        exact ⟨_, rfl, S7.out, K7.out⟩
      · have hkb : (k == 1) = false := by simpa using hk1
        have htx := HTL.out
        rw [if_neg hk1] at htx
        have hrx : gs.map fldQ = RX := by rw [hrow2, HRX.out, htx, List.append_nil]
        have hsq := HSQ.out
        rw [hrx] at hsq
        have hlr : RX.length = kl := by rw [← hrx, List.length_map]; exact hkl
        have hj := Lib.hid (HJO.out av cv kl hlr wr hk (by rw [← hkl]; exact hsq))
        clear hk hown hod hrow hrow2 hful hml hlt hi hz0 hz1 hz2 hkl hjj hra htx hrx hsq hlr hk1
        go_wp2_with (first
          | (go_at_call 27; (with_reducible refine hj.out.mono ?_); rintro e w7 ⟨v7, rfl, hs7, hk7⟩; have K7 := Lib.hid (Kp.trans HK.out hk7); have S7 := Lib.hid (own_mono hs7 (Below.size HK.out)); clear hs7 hk7)
          | (go_at_call 24; (with_reducible refine (must_bytes_t _ _).mono ?_); rintro e w' ⟨rfl, rfl⟩))
        go_ret
        exact ⟨_, rfl, S7.out, K7.out⟩
set_option maxRecDepth 20000 in
theorem fbytes_bad (ads : List Addr) (h3 : 3 < ads.length) (m : FX) (hm : m.wf) (w : World) (V : St ads w) (T : Tab w) (hr : rightF m = false) :
    Calls Tryz.prog 8 #[.agg m.cells] w fun e w' => e = .returned (.tuple #[.slice none 0 0, snt (ads[3]'h3)]) ∧ Kp w w' := by
  have hmf : ∀ (fn : Fn) (first cap : Array Value) (w : World), (Instr.makeFunc fn first cap).run Tryz.prog w = .ok (.func fn first cap) w := fun _ _ _ _ => rfl
  have kb := kp_alloc w (.cells m.cells 26)
  have hc := (MapKept.heap_alloc w (.cells m.cells 26)).1
  have HT := Lib.hid (try_bytes_err ads 3 h3 21 #[.pointer (some ⟨w.heap.size, 0, none⟩)] (w.alloc (.cells m.cells 26)) (V.below kb) (by intro w; simp [go_sem]) fun w1 h1 => fbytes1_bad ads h3 m hm w.heap.size w1 (V.below (Kp.trans kb h1)) (T.kp (Kp.trans kb h1)) (kp_row h1 hc) hr)
  have KB := Lib.hid kb
  clear kb hc V T hr
  obtain ⟨k, n, s, r, u, p, q, o, d, a, t, hh, c, x⟩ := m
  dsimp only [FX.cells] at HT KB ⊢
  go_enter Tryz.func8, Tryz.ntmps8
  go_wp2_with (go_at_call 20; (with_reducible refine HT.out.mono ?_); rintro e w' ⟨rfl, hk⟩; have HK := Lib.hid hk; clear hk)
  go_ret2
  exact ⟨rfl, Kp.trans KB.out HK.out⟩

set_option maxRecDepth 20000 in
theorem fbytes_ok (ads : List Addr) (m : FX) (w : World) (V : St ads w) (T : Tab w) (hr : rightF m = true) :
    Calls Tryz.prog 8 #[.agg m.cells] w fun e w' => ∃ v, e = .returned (.tuple #[v, .nilIface]) ∧ w'.ownsRow w.heap.size 5 1 v (encF m).length ((encF m).map (Value.int .u8)) ∧ Kp w w' := by
  have hmf : ∀ (fn : Fn) (first cap : Array Value) (w : World), (Instr.makeFunc fn first cap).run Tryz.prog w = .ok (.func fn first cap) w := fun _ _ _ _ => rfl
  have h3 : 3 < ads.length := by rw [V.len]; decide
  have kb := kp_alloc w (.cells m.cells 26)
  have hc := (MapKept.heap_alloc w (.cells m.cells 26)).1
  have HT := Lib.hid (try_bytes_own 21 #[.pointer (some ⟨w.heap.size, 0, none⟩)] (encF m) (w.alloc (.cells m.cells 26)) (by intro w; simp [go_sem]) fun w1 h1 => (fbytes1_ok ads h3 m w.heap.size w1 (V.below (Kp.trans kb h1)) (T.kp (Kp.trans kb h1)) (kp_row h1 hc) hr).mono (by
    rintro e w2 ⟨v, rfl, ho, hk⟩
    exact ⟨v, rfl, ho, hk⟩))
  obtain ⟨eb, heb⟩ : ∃ x, encF m = x := ⟨_, rfl⟩
  rw [heb] at HT ⊢
  clear heb
  have KB := Lib.hid kb
  clear kb hc V T hr
  obtain ⟨k, n, s, r, u, p, q, o, d, a, t, hh, c, x⟩ := m
  dsimp only [FX.cells] at HT KB ⊢
  go_enter Tryz.func8, Tryz.ntmps8
  go_wp2_with (go_at_call 20; (with_reducible refine HT.out.mono ?_); rintro e w' ⟨v, rfl, ho, hk⟩; have HK := Lib.hid hk; have HO := Lib.hid ho; clear hk ho)
  go_ret2
  exact ⟨_, rfl, own_mono HO.out (Below.size KB.out), Kp.trans KB.out HK.out⟩

end Go.Proofs.YtahdoniggipmmaaGreatDoor

namespace Go.Proofs.YtahdoniggipmmaaGreatDoor
open Go.RowKit Go.ChangeShapes Go.WideShapes

theorem kbf_cell {p : Nat} {w w' : World} {q : Addr} {v : Value} (h : Kb p w w') (hp : q.block ≠ p) (hc : w.cell? q = some v) : w'.cell? q = some v := by
  have hl := old_of_cell hc
  have e : w'.heap[q.block]? = w.heap[q.block]? := h.2 _ hp hl
  unfold World.cell? at hc ⊢
  rw [e]
  exact hc
theorem kbf_set {p : Nat} {w w1 : World} (h : Kb p w w1) (i : Nat) (v : Value) : Kb p w (w1.setCell ⟨p, i, none⟩ v) := ⟨by simp; exact h.1, fun b hb hl => by rw [Below.heap_setCell _ _ _ _ hb]; exact h.2 b hb hl⟩
theorem kbf_drew {p : Nat} {w w' : World} (h : Kb p w w') : Kb p w w'.drew := h
/-- WHERE Read STANDS between two fields: its answer's block R, its fact's B with the numbers l and the time x, the places' A, the fields' rows from L on -/
structure DfS (w : World) (R B A L : Nat) (v : Value) (gs : List (Int × List Int × Value)) (l : List Int) (x : Nat) (wr : World) : Prop where
  kW : Kp w wr
  bR : wr.heap[R]? = some (.cells #[.int .i64 0, .int .i64 0, .int .i64 0, .int .i64 0, .int .i64 0, .int .i64 0, .int .i64 0, .int .i64 0, .int .i64 0, .int .i64 0, .int .i64 0, .int .i64 0, .int .i64 0, .float .f64 0] 26 (0, 0))
  bB : wr.heap[B]? = some (.cells (numsF l x) 26 (0, 0))
  bA : wr.heap[A]? = some (.cells (plF B) 58 (0, 0))
  own : wr.ownsRow L 64 2 v gs.length (gs.flatMap cellQ)
  od : OwnD L gs wr
theorem DfS.kp {w wr wr' : World} {R B A L x : Nat} {v : Value} {gs : List (Int × List Int × Value)} {l : List Int} (h : DfS w R B A L v gs l x wr) (hk : Kp wr wr') : DfS w R B A L v gs l x wr' :=
  ⟨Kp.trans h.kW hk, kp_row hk h.bR, kp_row hk h.bB, kp_row hk h.bA, own_kp h.own hk, h.od.kp hk⟩
theorem DfS.set {w wr : World} {R B A L x : Nat} {v : Value} {gs : List (Int × List Int × Value)} {l : List Int} (h : DfS w R B A L v gs l x wr) (hw : w.heap.size ≤ B) (hR : R ≠ B) (hA : A ≠ B) (hL : B < L) (i : Nat) (hi : i < l.length) (y : Int) : DfS w R B A L v gs (l.set i y) x (wr.setCell ⟨B, i, none⟩ (.int .i64 y)) :=
  ⟨Below.setCell h.kW hw _, by rw [Below.heap_setCell _ _ _ _ hR]; exact h.bR, numsF_set h.bB i hi y, by rw [Below.heap_setCell _ _ _ _ hA]; exact h.bA, ownsRow_setCell_below h.own hL _, fun g hg => ⟨ownsRow_setCell_below (h.od g hg).1 hL _, (h.od g hg).2⟩⟩
theorem DfS.setX {w wr : World} {R B A L x : Nat} {v : Value} {gs : List (Int × List Int × Value)} {l : List Int} (h : DfS w R B A L v gs l x wr) (hw : w.heap.size ≤ B) (hR : R ≠ B) (hA : A ≠ B) (hL : B < L) (hl : l.length = 13) (y : Nat) : DfS w R B A L v gs l y (wr.setCell ⟨B, 13, none⟩ (.float .f64 y)) :=
  ⟨Below.setCell h.kW hw _, by rw [Below.heap_setCell _ _ _ _ hR]; exact h.bR, numsF_setX h.bB hl y, by rw [Below.heap_setCell _ _ _ _ hA]; exact h.bA, ownsRow_setCell_below h.own hL _, fun g hg => ⟨ownsRow_setCell_below (h.od g hg).1 hL _, (h.od g hg).2⟩⟩
theorem must_f64F_t (x : Nat) (w : World) : Calls Tryz.prog 42 #[.float .f64 x, .nilIface] w fun e w' => e = .returned (.float .f64 x) ∧ w = w' := by
  go_enter Tryz.func42, Tryz.ntmps42
  go_wp2_with (go_at_call 58; (with_reducible refine (check_t _).mono ?_); rintro e w' ⟨rfl, rfl⟩)
  go_ret
  exact ⟨rfl, rfl⟩
theorem must_f64F_f (x : Nat) (a : Addr) (w : World) : Calls Tryz.prog 42 #[.float .f64 x, snt a] w fun e w' => e = .panicked [{ v := snt a, recovered := false }] ∧ w = w' := by
  go_enter Tryz.func42, Tryz.ntmps42
  go_wp2_with (go_at_call 58; (with_reducible refine (check_f _ _).mono ?_); rintro e w' ⟨rfl, rfl⟩)
  exact ⟨rfl, rfl, rfl⟩
theorem num_nilF (bs : List Int) (hb : InB bs) (h2 : (toNum bs).2 = 0) (h : (toNum bs).1 = 0) : bs.length = 0 := by
  refine Classical.byContradiction fun q => ?_
  exact toNum_pos hb h2 q h
set_option maxRecDepth 100000 in
theorem fread1_err (ads : List Addr) (h1' : 1 < ads.length) (h3' : 3 < ads.length) (P : Addr) (a : Option Addr) (cap : Nat) (bs : List Int) (len : Nat) (hlen : bs.length = len) (hb : InB bs) (hlc : len ≤ cap) (w : World) (V : St ads w) (hp : w.cell? P = some (.slice a len cap)) (hs : SlB (.slice a len cap) bs w) (hl : len ≤ 1000) (k : Nat) (hk : k < ads.length) (hk2 : (splitQ 17 bs 0 0).1 = (k : Int) + 1) :
    Calls Tryz.prog 39 #[.pointer (some P)] w fun e w' => e = .panicked [{ v := snt (ads[k]'hk), recovered := false }] ∧ Kp w w' := by
  have HS := fun (w1 : World) (hk1 : Kp w w1) => split_any ads h1' h3' a cap bs len hlen (by omega) hlc hb w1 (V.below hk1) (hs.kp hk1)
  have HS2 : ∀ (w1 : World), Kp w w1 → Calls Tryz.prog 41 #[.slice a len cap] w1 fun e w' => e = .returned (.tuple #[.slice none 0 0, snt (ads[k]'hk)]) ∧ Kp w1 w' := fun w1 hk1 => (HS w1 hk1).mono (by
    rintro e w' ⟨⟨h, -⟩ | ⟨h, rfl⟩ | ⟨h, rfl⟩, hk3⟩
    · omega
    · obtain rfl : k = 1 := by omega
      exact ⟨rfl, hk3⟩
    · obtain rfl : k = 3 := by omega
      exact ⟨rfl, hk3⟩)
  obtain ⟨ak, hak⟩ : ∃ a, ads[k]'hk = a := ⟨_, rfl⟩
  rw [hak] at HS2 ⊢
  have HPL := Lib.hid (fun (B : Nat) (w1 : World) => (show Calls Tryz.prog 23 #[.pointer (some ⟨B, 0, none⟩)] w1 fun e w' => e = .returned (.agg #[.pointer none, .pointer (some ⟨B, 0, none⟩), .pointer (some ⟨B, 1, none⟩), .pointer (some ⟨B, 2, none⟩), .pointer (some ⟨B, 3, none⟩), .pointer (some ⟨B, 4, none⟩), .pointer (some ⟨B, 5, none⟩), .pointer (some ⟨B, 6, none⟩), .pointer (some ⟨B, 7, none⟩), .pointer (some ⟨B, 8, none⟩), .pointer (some ⟨B, 9, none⟩), .pointer (some ⟨B, 10, none⟩), .pointer (some ⟨B, 11, none⟩), .pointer (some ⟨B, 12, none⟩)]) ∧ Kp w1 w' from placesF_any B w1))
  have K2 := Lib.hid (Kp.trans (kp_alloc w (.cells #[.int .i64 0, .int .i64 0, .int .i64 0, .int .i64 0, .int .i64 0, .int .i64 0, .int .i64 0, .int .i64 0, .int .i64 0, .int .i64 0, .int .i64 0, .int .i64 0, .int .i64 0, .float .f64 0] 26)) (kp_alloc (w.alloc (.cells #[.int .i64 0, .int .i64 0, .int .i64 0, .int .i64 0, .int .i64 0, .int .i64 0, .int .i64 0, .int .i64 0, .int .i64 0, .int .i64 0, .int .i64 0, .int .i64 0, .int .i64 0, .float .f64 0] 26)) (.cells #[.int .i64 0, .int .i64 0, .int .i64 0, .int .i64 0, .int .i64 0, .int .i64 0, .int .i64 0, .int .i64 0, .int .i64 0, .int .i64 0, .int .i64 0, .int .i64 0, .int .i64 0, .float .f64 0] 26)))
  have HPP := Lib.hid hp
  have HS2 := Lib.hid HS2
  clear V hs hb hp HS hak
  go_enter Tryz.func39, Tryz.ntmps39
  go_wp2_with (first
    | (go_at_call 23; (with_reducible refine (HPL.out _ _).mono ?_); rintro e w3 ⟨rfl, hk3⟩; have K3 := Lib.hid (Kp.trans K2.out hk3); have K4 := Lib.hid (Kp.trans K3.out (kp_alloc w3 (.cells #[.pointer none, .pointer (some ⟨(w.heap.size + 1), 0, none⟩), .pointer (some ⟨(w.heap.size + 1), 1, none⟩), .pointer (some ⟨(w.heap.size + 1), 2, none⟩), .pointer (some ⟨(w.heap.size + 1), 3, none⟩), .pointer (some ⟨(w.heap.size + 1), 4, none⟩), .pointer (some ⟨(w.heap.size + 1), 5, none⟩), .pointer (some ⟨(w.heap.size + 1), 6, none⟩), .pointer (some ⟨(w.heap.size + 1), 7, none⟩), .pointer (some ⟨(w.heap.size + 1), 8, none⟩), .pointer (some ⟨(w.heap.size + 1), 9, none⟩), .pointer (some ⟨(w.heap.size + 1), 10, none⟩), .pointer (some ⟨(w.heap.size + 1), 11, none⟩), .pointer (some ⟨(w.heap.size + 1), 12, none⟩)] 58))); have e3 := kp_cell K4.out HPP.out; clear hk3)
    | (go_at_call 41; (with_reducible refine (HS2.out _ K4.out).mono ?_); rintro e w5 ⟨rfl, hk5⟩; have K5 := Lib.hid (Kp.trans K4.out hk5); clear hk5)
    | (go_at_call 40; (with_reducible refine (must_fields_f _ _ _).mono ?_); rintro e w' ⟨rfl, rfl⟩))
  exact ⟨rfl, rfl, K5.out⟩
set_option maxRecDepth 100000 in
set_option maxHeartbeats 8000000 in
theorem fread1_row (ads : List Addr) (h1' : 1 < ads.length) (h3' : 3 < ads.length) (P : Addr) (a : Option Addr) (cap : Nat) (bs : List Int) (len : Nat) (hlen : bs.length = len) (hb : InB bs) (hlc : len ≤ cap) (w : World) (V : St ads w) (hp : w.cell? P = some (.slice a len cap)) (hs : SlB (.slice a len cap) bs w) (hl : len ≤ 1000) (T : Tab w) (h0 : (splitQ 17 bs 0 0).1 = 0) :
    Calls Tryz.prog 39 #[.pointer (some P)] w fun e w' => (((decG bs).1 = 0 ∧ e = .returned (.agg (decG bs).2.cells)) ∨ (decG bs = (4, noF) ∧ e = .panicked [{ v := snt (ads[3]'h3'), recovered := false }])) ∧ Kp w w' := by
  have hdm : decG bs = finG (putG (List.replicate 13 0) none (splitQ 17 bs 0 0).2) := by
    unfold decG
    rw [if_neg (fun q => q h0)]
  obtain ⟨DD, hDD⟩ : ∃ x, decG bs = x := ⟨_, rfl⟩
  rw [hDD] at hdm ⊢
  have htg := splitQ_tags 17 bs 0 0 hb
  have h17 := splitQ_len 17 bs 0 0
  have c3 : w.cell? ⟨0, 0, none⟩ = some (snt (ads[3]'h3')) := V.cell 3 (by decide)
  have HNB := Lib.hid (fun (ad : Option Addr) (cd : Nat) (dt : List Int) (dl : Nat) (hdl : dt.length = dl) (hbd : InB dt) (w1 : World) (hk : Kp w w1) (hsd : SlB (.slice ad dl cd) dt w1) => fnumber_bad ads h3' ad cd dt dl hdl hbd w1 (V.below hk) hsd)
  have HNO := Lib.hid (fun (ad : Option Addr) (cd : Nat) (dt : List Int) (dl : Nat) (hdl : dt.length = dl) (hbd : InB dt) (w1 : World) (hk : Kp w w1) (hsd : SlB (.slice ad dl cd) dt w1) => fnumber_ok ads ad cd dt dl hdl hbd w1 (V.below hk) hsd)
  have HTF := Lib.hid (fun (ad : Option Addr) (cd : Nat) (dt : List Int) (dl : Nat) (hdl : dt.length = dl) (hbd : InB dt) (w1 : World) (hk : Kp w w1) (hsd : SlB (.slice ad dl cd) dt w1) => toFloat_any ads h3' ad cd dt dl hdl hbd w1 (V.below hk) hsd)
  have HPL := Lib.hid (fun (B : Nat) (w1 : World) => (show Calls Tryz.prog 23 #[.pointer (some ⟨B, 0, none⟩)] w1 fun e w' => e = .returned (.agg #[.pointer none, .pointer (some ⟨B, 0, none⟩), .pointer (some ⟨B, 1, none⟩), .pointer (some ⟨B, 2, none⟩), .pointer (some ⟨B, 3, none⟩), .pointer (some ⟨B, 4, none⟩), .pointer (some ⟨B, 5, none⟩), .pointer (some ⟨B, 6, none⟩), .pointer (some ⟨B, 7, none⟩), .pointer (some ⟨B, 8, none⟩), .pointer (some ⟨B, 9, none⟩), .pointer (some ⟨B, 10, none⟩), .pointer (some ⟨B, 11, none⟩), .pointer (some ⟨B, 12, none⟩)]) ∧ Kp w1 w' from placesF_any B w1))
  have HS := Lib.hid (fun (w1 : World) (hk1 : Kp w w1) => split_own ads h1' h3' a cap bs len hlen (by omega) hlc hb w1 (V.below hk1) (hs.kp hk1) h0)
  have HRT := Lib.hid (fun (f : FX) (hf : f.wf) (w1 : World) (hk : Kp w w1) => facRight_any ads f hf w1 (V.below hk) (T.kp hk))
  obtain ⟨a3, ha3⟩ : ∃ x, ads[3]'h3' = x := ⟨_, rfl⟩
  rw [ha3] at c3 HNB HTF ⊢
  obtain ⟨fs, hfs⟩ : ∃ x, (splitQ 17 bs 0 0).2 = x := ⟨_, rfl⟩
  rw [hfs] at hdm htg HS h17
  have K2 := Lib.hid (Kp.trans (kp_alloc w (.cells #[.int .i64 0, .int .i64 0, .int .i64 0, .int .i64 0, .int .i64 0, .int .i64 0, .int .i64 0, .int .i64 0, .int .i64 0, .int .i64 0, .int .i64 0, .int .i64 0, .int .i64 0, .float .f64 0] 26)) (kp_alloc (w.alloc (.cells #[.int .i64 0, .int .i64 0, .int .i64 0, .int .i64 0, .int .i64 0, .int .i64 0, .int .i64 0, .int .i64 0, .int .i64 0, .int .i64 0, .int .i64 0, .int .i64 0, .int .i64 0, .float .f64 0] 26)) (.cells #[.int .i64 0, .int .i64 0, .int .i64 0, .int .i64 0, .int .i64 0, .int .i64 0, .int .i64 0, .int .i64 0, .int .i64 0, .int .i64 0, .int .i64 0, .int .i64 0, .int .i64 0, .float .f64 0] 26)))
  have hzR := Lib.hid (new14_0 w (.cells #[.int .i64 0, .int .i64 0, .int .i64 0, .int .i64 0, .int .i64 0, .int .i64 0, .int .i64 0, .int .i64 0, .int .i64 0, .int .i64 0, .int .i64 0, .int .i64 0, .int .i64 0, .float .f64 0] 26) (.cells #[.int .i64 0, .int .i64 0, .int .i64 0, .int .i64 0, .int .i64 0, .int .i64 0, .int .i64 0, .int .i64 0, .int .i64 0, .int .i64 0, .int .i64 0, .int .i64 0, .int .i64 0, .float .f64 0] 26))
  have hzB := Lib.hid (new14_1 w (.cells #[.int .i64 0, .int .i64 0, .int .i64 0, .int .i64 0, .int .i64 0, .int .i64 0, .int .i64 0, .int .i64 0, .int .i64 0, .int .i64 0, .int .i64 0, .int .i64 0, .int .i64 0, .float .f64 0] 26) (.cells #[.int .i64 0, .int .i64 0, .int .i64 0, .int .i64 0, .int .i64 0, .int .i64 0, .int .i64 0, .int .i64 0, .int .i64 0, .int .i64 0, .int .i64 0, .int .i64 0, .int .i64 0, .float .f64 0] 26))
  have HPP := Lib.hid hp
  have C3 := Lib.hid c3
  have HDM := Lib.hid hdm
  have HTG := Lib.hid htg
  have s2 := Lib.hid (show ((w.alloc (.cells #[.int .i64 0, .int .i64 0, .int .i64 0, .int .i64 0, .int .i64 0, .int .i64 0, .int .i64 0, .int .i64 0, .int .i64 0, .int .i64 0, .int .i64 0, .int .i64 0, .int .i64 0, .float .f64 0] 26)).alloc (.cells #[.int .i64 0, .int .i64 0, .int .i64 0, .int .i64 0, .int .i64 0, .int .i64 0, .int .i64 0, .int .i64 0, .int .i64 0, .int .i64 0, .int .i64 0, .int .i64 0, .int .i64 0, .float .f64 0] 26)).heap.size = w.heap.size + 2 by simp)
  have hsf := store_fl
  clear V T hs hb hp h0 hdm htg hfs hDD ha3 c3
  go_enter Tryz.func39, Tryz.ntmps39
  go_wp2_with (first
    | (go_at_call 23; (with_reducible refine (HPL.out _ _).mono ?_); rintro e w3 ⟨rfl, hk3⟩; have K3 := Lib.hid (Kp.trans K2.out hk3); have K23 := Lib.hid hk3; have K4 := Lib.hid (Kp.trans K3.out (kp_alloc w3 (.cells #[.pointer none, .pointer (some ⟨(w.heap.size + 1), 0, none⟩), .pointer (some ⟨(w.heap.size + 1), 1, none⟩), .pointer (some ⟨(w.heap.size + 1), 2, none⟩), .pointer (some ⟨(w.heap.size + 1), 3, none⟩), .pointer (some ⟨(w.heap.size + 1), 4, none⟩), .pointer (some ⟨(w.heap.size + 1), 5, none⟩), .pointer (some ⟨(w.heap.size + 1), 6, none⟩), .pointer (some ⟨(w.heap.size + 1), 7, none⟩), .pointer (some ⟨(w.heap.size + 1), 8, none⟩), .pointer (some ⟨(w.heap.size + 1), 9, none⟩), .pointer (some ⟨(w.heap.size + 1), 10, none⟩), .pointer (some ⟨(w.heap.size + 1), 11, none⟩), .pointer (some ⟨(w.heap.size + 1), 12, none⟩)] 58))); have e3 := kp_cell K4.out HPP.out; clear hk3)
    | (go_at_call 41; (with_reducible refine (HS.out _ K4.out).mono ?_); rintro e w5 ⟨v, gs, rfl, hgs, ho, hd, hk5⟩; have K5 := Lib.hid hk5; have HO := Lib.hid ho; have HD := Lib.hid hd; have HGS := Lib.hid hgs; obtain ⟨av, cv, hv⟩ := (own_slq rfl ho hd).form; rw [List.length_map] at hv; subst hv; clear hk5 ho hd hgs)
    | (go_at_call 40; (with_reducible refine (must_fields_t _ _).mono ?_); rintro e w' ⟨rfl, rfl⟩))
  obtain ⟨L, hAL, DS⟩ : ∃ L, w3.heap.size < L ∧ DfS w w.heap.size (w.heap.size + 1) w3.heap.size L (.slice av gs.length cv) gs (List.replicate 13 0) 0 w5 :=
    ⟨_, by simp, Kp.trans K4.out K5.out, kp_row K5.out (kp_row (kp_alloc w3 _) (kp_row K23.out hzR.out)), kp_row K5.out (kp_row (kp_alloc w3 _) (kp_row K23.out hzB.out)), kp_row K5.out (MapKept.heap_alloc w3 _).1, HO.out, HD.out⟩
  have h23 : w.heap.size + 2 ≤ w3.heap.size := by rw [← s2.out]; exact Below.size K23.out
  clear K2 hzR hzB s2 e3 HPL HS K23 K3 K4 K5 HO HD
  obtain ⟨B, hBB⟩ : ∃ x, w.heap.size + 1 = x := ⟨_, rfl⟩
  obtain ⟨A, hAA⟩ : ∃ x, w3.heap.size = x := ⟨_, rfl⟩
  rw [hAA] at hAL DS h23 ⊢
  rw [hBB] at DS ⊢
  obtain ⟨R, hRR⟩ : ∃ x, w.heap.size = x := ⟨_, rfl⟩
  rw [hRR] at DS hBB h23 ⊢
  have hRB : R ≠ B := by omega
  have hAB : A ≠ B := by omega
  have hBL : B < L := by omega
  have hwB : w.heap.size ≤ B := by omega
  have hwR : w.heap.size ≤ R := by omega
  have NR := Lib.hid hRB
  have NA := Lib.hid hAB
  have NL := Lib.hid hBL
  have NB := Lib.hid hwB
  have NQ := Lib.hid hwR
  obtain ⟨kf, hkf⟩ : ∃ x, gs.length = x := ⟨_, rfl⟩
  have hfl : fs.length = kf := by rw [HGS.out, List.length_map, hkf]
  rw [hfl] at h17
  rw [hkf] at DS ⊢
  have HFL := Lib.hid hfl
  have HDS := Lib.hid DS
  have HKF := Lib.hid hkf
  clear hAL h23 hBB hRR hRB hAB hBL hwB hwR hfl DS hkf
  go_loopw [4, 14] (fun ev i wr => ∃ (j : Nat) (l : List Int) (ox : Option Nat), j ≤ kf ∧ ev = .bool ox.isSome ∧ i = .int .i64 j ∧ l.length = 13 ∧ ox.getD 0 < 18446744073709551616 ∧ DfS w R B A L (.slice av kf cv) gs l (ox.getD 0) wr ∧ putG (List.replicate 13 0) none fs = putG l ox (fs.drop j)) (fun _ i _ => kf - (intOf i).toNat)
  case atStart => exact ⟨0, _, none, Nat.zero_le _, rfl, rfl, rfl, by decide, HDS.out, rfl⟩
  case round =>
    obtain ⟨j, l, ox, hj, rfl, rfl, hl9, hox, hds, hput⟩ := hrel
    obtain ⟨jj, hjj⟩ : ∃ jj : Int, (j : Int) = jj := ⟨_, rfl⟩
    rw [hjj]
    have HD2 := Lib.hid hds
    have HL9 := Lib.hid hl9
    have HOX := Lib.hid hox
    have hkl := HFL.out
    by_cases hlt : j < kf
    · have hjl : j < fs.length := by omega
      have hsq : SlQ (.slice av kf cv) fs wr := by rw [HGS.out]; exact own_slq rfl hds.own hds.od
      obtain ⟨b, off, rfl, ct, ad, cd, cdt, hsd, hbd⟩ := hsq.at j hjl
      obtain ⟨t0, t1, t2⟩ := HTG.out fs[j] (List.getElem_mem hjl)
      have hdr : fs.drop j = fs[j] :: fs.drop (j + 1) := List.drop_eq_getElem_cons hjl
      rw [hdr, putG] at hput
      obtain ⟨y, hy⟩ : ∃ y, fs[j] = y := ⟨_, rfl⟩
      rw [hy] at ct cdt hsd hbd t0 t1 t2 hput
      obtain ⟨tg, dt⟩ := y
      dsimp only at ct cdt hsd hbd t0 t1 t2 hput
      obtain ⟨dl, hdl⟩ : ∃ x, dt.length = x := ⟨_, rfl⟩
      rw [hdl] at cdt hsd t2 hput
      have ej : jj.toNat = j := by omega
      rw [← ej] at ct cdt
      have j0 : 0 ≤ jj := by omega
      have hltj : jj < kf := by omega
      have HJ := Lib.hid hjj
      have KX := Lib.hid (Kp.trans hds.kW (kp_alloc wr (.cells #[.int .i64 tg, .slice ad dl cd] 64)))
      have x3 := kp_cell KX.out C3.out
      by_cases q1 : 14 < tg
      · have DN := Lib.hid (show DD = (4, noF) by rw [HDM.out, hput, if_neg (by omega), if_pos (.inl q1)]; rfl)
        have q1' : ¬ tg ≤ 14 := by omega
        clear hsq hds hsd hbd hput hdr hy hl9 hkl hjl hlt ej hjj hox
        go_wp2_with (go_at_call 22; (with_reducible refine (fdemand_f _ _).mono ?_); rintro e w' ⟨rfl, rfl⟩)
        rw [DN.out]
        exact ⟨rfl, .inr ⟨rfl, rfl⟩, KX.out⟩
      · have q1' : tg ≤ 14 := by omega
        have hr := (MapKept.heap_alloc wr (.cells #[.int .i64 tg, .slice ad dl cd] 64)).1
        have DX := Lib.hid (hds.kp (kp_alloc wr (.cells #[.int .i64 tg, .slice ad dl cd] 64)))
        have SX := Lib.hid (hsd.kp (kp_alloc wr (.cells #[.int .i64 tg, .slice ad dl cd] 64)))
        have hlw := old_of_row hds.bB
        have HPUT := Lib.hid hput
        have HBD := Lib.hid hbd
        have HDL := Lib.hid hdl
        clear hsq hsd hput hdr hy hl9 hkl hjl hlt ej hjj hds hbd hdl hox
        by_cases q14 : tg = 14
        · subst q14
          have hpu := HPUT.out
          rw [if_pos rfl] at hpu
          have HTF2 := HTF.out ad cd dt dl HDL.out HBD.out _ KX.out SX.out
          by_cases qf : (toFl dt).2 = 0
          · rw [if_pos qf] at hpu
            have hfb := (f8_back HBD.out qf).2.2
            obtain ⟨xf, hxf⟩ : ∃ z, (toFl dt).1 = z := ⟨_, rfl⟩
            rw [hxf] at hpu hfb
            have HPT := Lib.hid hpu
            have HFB := Lib.hid hfb
            have HTF3 := Lib.hid (HTF2.mono (R' := fun e w' => e = .returned (.tuple #[.float .f64 xf, .nilIface]) ∧ Kp (wr.alloc (.cells #[.int .i64 14, .slice ad dl cd] 64)) w') (by
              rintro e w' ⟨h, hk⟩
              rcases h with ⟨_, rfl⟩ | ⟨h, _⟩
              · exact ⟨by rw [hxf], hk⟩
              · rw [qf] at h; cases h))
            clear HTF2 hpu hfb qf hxf
            go_wp2_with (go_at_call 22; (with_reducible refine (fdemand_t _ _).mono ?_); rintro e w' ⟨rfl, rfl⟩)
            obtain ⟨wX, hwX⟩ : ∃ x, wr.alloc (.cells #[.int .i64 14, .slice ad dl cd] 64) = x := ⟨_, rfl⟩
            obtain ⟨X, hXX⟩ : ∃ x, wr.heap.size = x := ⟨_, rfl⟩
            rw [hwX] at DX SX KX hr HTF3 ⊢
            rw [hXX] at hr hlw ⊢
            have NXB : X ≠ B := by omega
            have xt : wX.cell? ⟨X, 0, none⟩ = some (.int .i64 14) := by unfold World.cell?; dsimp only; rw [hr]; rfl
            have xd : wX.cell? ⟨X, 1, none⟩ = some (.slice ad dl cd) := by unfold World.cell?; dsimp only; rw [hr]; rfl
            clear hwX hXX hr x3 ct cdt
            go_wp2_with (first
              | (go_at_call 43; (with_reducible refine HTF3.out.mono ?_); rintro e w6 ⟨rfl, hk6⟩; have K6 := Lib.hid hk6; have D6 := Lib.hid (DX.out.kp hk6); have cB := numsF_last D6.out.bB HL9.out; have zB := froz14 D6.out.bB 13; clear hk6)
              | (go_at_call 42; (with_reducible refine (must_f64F_t _ _).mono ?_); rintro e w' ⟨rfl, rfl⟩))
            have hjj := HJ.out
            go_roundw
            case rel => exact ⟨j + 1, l, some xf, by omega, rfl, by congr 1; omega, HL9.out, HFB.out, D6.out.setX NB.out NR.out NA.out NL.out HL9.out xf, HPT.out⟩
            case measure => simp [intOf]; omega
          · rw [if_neg qf] at hpu
            have DN := Lib.hid (show DD = (4, noF) by rw [HDM.out, hpu]; rfl)
            have HTF3 := Lib.hid (HTF2.mono (R' := fun e w' => e = .returned (.tuple #[.float .f64 0, snt a3]) ∧ Kp (wr.alloc (.cells #[.int .i64 14, .slice ad dl cd] 64)) w') (by
              rintro e w' ⟨h, hk⟩
              rcases h with ⟨h, _⟩ | ⟨_, _, rfl⟩
              · exact absurd h qf
              · exact ⟨rfl, hk⟩))
            clear HTF2 hpu qf
            go_wp2_with (go_at_call 22; (with_reducible refine (fdemand_t _ _).mono ?_); rintro e w' ⟨rfl, rfl⟩)
            obtain ⟨wX, hwX⟩ : ∃ x, wr.alloc (.cells #[.int .i64 14, .slice ad dl cd] 64) = x := ⟨_, rfl⟩
            obtain ⟨X, hXX⟩ : ∃ x, wr.heap.size = x := ⟨_, rfl⟩
            rw [hwX] at KX hr HTF3 ⊢
            rw [hXX] at hr ⊢
            have xt : wX.cell? ⟨X, 0, none⟩ = some (.int .i64 14) := by unfold World.cell?; dsimp only; rw [hr]; rfl
            have xd : wX.cell? ⟨X, 1, none⟩ = some (.slice ad dl cd) := by unfold World.cell?; dsimp only; rw [hr]; rfl
            clear hwX hXX hr x3 ct cdt
            go_wp2_with (first
              | (go_at_call 43; (with_reducible refine HTF3.out.mono ?_); rintro e w6 ⟨rfl, hk6⟩; have K6 := Lib.hid hk6; clear hk6)
              | (go_at_call 42; (with_reducible refine (must_f64F_f _ _ _).mono ?_); rintro e w' ⟨rfl, rfl⟩))
            rw [DN.out]
            exact ⟨rfl, .inr ⟨rfl, rfl⟩, Kp.trans KX.out K6.out⟩
        · have hb14 : (tg == 14) = false := by simpa using q14
          obtain ⟨tk, htk⟩ : ∃ x : Nat, (x : Int) + 1 = tg := ⟨(tg - 1).toNat, by omega⟩
          have hkn : tk < 13 := by omega
          have htn1 : tk + 1 = tg.toNat := by omega
          have htt : (tg - 1).toNat = tk := by omega
          have tg0 : 0 ≤ tg := by omega
          have tgl : tg < 14 := by omega
          have hwp : IntKind.i64.wrap tg = tg := IntWalk.i64_in tg (by omega)
          have hpu := HPUT.out
          rw [if_neg q14] at hpu
          have HPU := Lib.hid hpu
          clear hpu
          go_wp2_with (go_at_call 22; (with_reducible refine (fdemand_t _ _).mono ?_); rintro e w' ⟨rfl, rfl⟩)
          obtain ⟨wX, hwX⟩ : ∃ x, wr.alloc (.cells #[.int .i64 tg, .slice ad dl cd] 64) = x := ⟨_, rfl⟩
          obtain ⟨X, hXX⟩ : ∃ x, wr.heap.size = x := ⟨_, rfl⟩
          rw [hwX] at DX SX KX hr ⊢
          rw [hXX] at hr hlw ⊢
          have NXB : X ≠ B := by omega
          have NAB := NA.out
          have xt : wX.cell? ⟨X, 0, none⟩ = some (.int .i64 tg) := by unfold World.cell?; dsimp only; rw [hr]; rfl
          have xd : wX.cell? ⟨X, 1, none⟩ = some (.slice ad dl cd) := by unfold World.cell?; dsimp only; rw [hr]; rfl
          clear hwX hXX hr x3 ct cdt
          go_wp2
          have xa := plF_cell DX.out.bA tk hkn
          rw [htn1] at xa
          have DXD := Lib.hid (DX.out.kp (Kp.refl wX).drew)
          have SXD := Lib.hid (SX.out.kp (Kp.refl wX).drew)
          have hL9 := HL9.out
          by_cases q2 : (toNum dt).2 ≠ 0 ∨ (toNum dt).1 = 0
          · have HNUM := Lib.hid (HNB.out ad cd dt dl HDL.out HBD.out wX.drew (Kp.trans KX.out (Kp.refl wX).drew) SXD.out q2)
            have DN := Lib.hid (show DD = (4, noF) by
              rw [HDM.out, HPU.out, if_pos (by
                by_cases q3 : (toNum dt).2 = 0
                · right; left; rw [← HDL.out]; exact num_nilF dt HBD.out q3 (q2.resolve_left (fun g => g q3))
                · exact .inr (.inr q3))]
              rfl)
            clear q2
            refine wp_region_held_drew (S := fun w' => Kb B wX w') (by kernel_rfl) ?_ (fun hHeld => ?_)
            · exact kbf_drew (Kb.refl B wX)
            refine wpAnyH_take (i := 0) (v := ?_) rfl (by kernel_rfl) (by kernel_rfl) (by kernel_rfl) (fun _ _ _ h => h) (Or.inl ⟨by rfl, ?_⟩) (by assumption) ?_
            rotate_left
            · intro w hSw; go_simp; try with_reducible rfl
            go_simp
            refine wpAnyH_take (i := 1) (v := ?_) rfl (by kernel_rfl) (by kernel_rfl) (by kernel_rfl) (fun _ _ _ h => h) (Or.inl ⟨by rfl, ?_⟩) (by assumption) ?_
            rotate_left
            · intro w hSw; have q := kbf_cell hSw NXB xt; go_simp; try with_reducible rfl
            go_simp
            refine wpAnyH_take (i := 2) (v := ?_) rfl (by kernel_rfl) (by kernel_rfl) (by kernel_rfl) (fun _ _ _ h => h) (Or.inl ⟨by rfl, ?_⟩) (by assumption) ?_
            rotate_left
            · intro w hSw; go_simp; try with_reducible rfl
            go_simp
            refine wpAnyH_take (i := 3) (v := ?_) rfl (by kernel_rfl) (by kernel_rfl) (by kernel_rfl) (fun _ _ _ h => h) (Or.inl ⟨by rfl, ?_⟩) (by assumption) ?_
            rotate_left
            · intro w hSw; have q := kbf_cell hSw NAB xa; go_simp; try with_reducible rfl
            go_simp
            refine wpAnyH_take (i := 4) (v := ?_) rfl (by kernel_rfl) (by kernel_rfl) (by kernel_rfl) (fun _ _ _ h => h) (Or.inl ⟨by rfl, ?_⟩) (by assumption) ?_
            rotate_left
            · intro w hSw; go_simp; try with_reducible rfl
            go_simp
            refine wpAnyH_take (i := 5) (v := ?_) rfl (by kernel_rfl) (by kernel_rfl) (by kernel_rfl) (fun _ _ _ h => h) (Or.inl ⟨by rfl, ?_⟩) (by assumption) ?_
            rotate_left
            · intro w hSw; have q := kbf_cell hSw NXB xd; go_simp; try with_reducible rfl
            go_simp
            refine wpAnyH_ready (rs := [6]) (by kernel_rfl) (by simp) ?_
            refine AllReadyH.cons rfl (fun K hK => ?_) AllReadyH.nil
            go_simp
            go_wp2_with (go_at_call 44; (with_reducible refine HNUM.out.mono ?_); rintro e w6 ⟨rfl, hk6⟩)
            rw [DN.out]
            exact ⟨rfl, .inr ⟨rfl, rfl⟩, Kp.trans KX.out (Kp.trans (Kp.refl wX).drew hk6)⟩
          · obtain ⟨tn, htn⟩ : ∃ x, (toNum dt).1 = x := ⟨_, rfl⟩
            have h20 : (toNum dt).2 = 0 := Classical.byContradiction fun q => q2 (.inl q)
            have tn0 : tn ≠ 0 := fun q => q2 (.inr (htn.trans q))
            have hdt : toNum dt = (tn, 0) := Prod.ext htn h20
            have HNUM := Lib.hid (HNO.out ad cd dt dl HDL.out HBD.out wX.drew (Kp.trans KX.out (Kp.refl wX).drew) SXD.out tn hdt tn0)
            have dl0 : dl ≠ 0 := fun q => by
              have : dt = [] := List.length_eq_zero_iff.1 (by rw [HDL.out]; exact q)
              subst this
              exact tn0 (htn.symm.trans rfl)
            have HPT : Hid (putG (List.replicate 13 0) none fs = putG (l.set tk tn) ox (fs.drop (j + 1))) := Lib.hid (by
              rw [HPU.out, if_neg (by rw [hdt]; simp only []; omega), htn, htt])
            clear q2 htn h20 hdt HPU htt htn1
            refine wp_region_held_drew (S := fun w' => Kb B wX w') (by kernel_rfl) ?_ (fun hHeld => ?_)
            · exact kbf_drew (Kb.refl B wX)
            refine wpAnyH_take (i := 0) (v := ?_) rfl (by kernel_rfl) (by kernel_rfl) (by kernel_rfl) (fun _ _ _ h => h) (Or.inl ⟨by rfl, ?_⟩) (by assumption) ?_
            rotate_left
            · intro w hSw; go_simp; try with_reducible rfl
            go_simp
            refine wpAnyH_take (i := 1) (v := ?_) rfl (by kernel_rfl) (by kernel_rfl) (by kernel_rfl) (fun _ _ _ h => h) (Or.inl ⟨by rfl, ?_⟩) (by assumption) ?_
            rotate_left
            · intro w hSw; have q := kbf_cell hSw NXB xt; go_simp; try with_reducible rfl
            go_simp
            refine wpAnyH_take (i := 2) (v := ?_) rfl (by kernel_rfl) (by kernel_rfl) (by kernel_rfl) (fun _ _ _ h => h) (Or.inl ⟨by rfl, ?_⟩) (by assumption) ?_
            rotate_left
            · intro w hSw; go_simp; try with_reducible rfl
            go_simp
            refine wpAnyH_take (i := 3) (v := ?_) rfl (by kernel_rfl) (by kernel_rfl) (by kernel_rfl) (fun _ _ _ h => h) (Or.inl ⟨by rfl, ?_⟩) (by assumption) ?_
            rotate_left
            · intro w hSw; have q := kbf_cell hSw NAB xa; go_simp; try with_reducible rfl
            go_simp
            refine wpAnyH_take (i := 4) (v := ?_) rfl (by kernel_rfl) (by kernel_rfl) (by kernel_rfl) (fun _ _ _ h => h) (Or.inl ⟨by rfl, ?_⟩) (by assumption) ?_
            rotate_left
            · intro w hSw; go_simp; try with_reducible rfl
            go_simp
            refine wpAnyH_take (i := 5) (v := ?_) rfl (by kernel_rfl) (by kernel_rfl) (by kernel_rfl) (fun _ _ _ h => h) (Or.inl ⟨by rfl, ?_⟩) (by assumption) ?_
            rotate_left
            · intro w hSw; have q := kbf_cell hSw NXB xd; go_simp; try with_reducible rfl
            go_simp
            refine wpAnyH_ready (rs := [6]) (by kernel_rfl) (by simp) ?_
            refine AllReadyH.cons rfl (fun K hK => ?_) AllReadyH.nil
            go_simp
            go_wp2_with (go_at_call 44; (with_reducible refine HNUM.out.mono ?_); rintro e w6 ⟨rfl, hk6⟩; have K6 := Lib.hid hk6; have D6 := Lib.hid (DXD.out.kp hk6); have cB := numsF_cell D6.out.bB tk (by rw [hL9]; exact hkn); have zB := froz14 D6.out.bB tk; clear hk6)
            refine hK.out _ _ ?_ (fun hHeld => ?_)
            · exact Kb.kp (kbf_drew (Kb.refl B wX)) K6.out
            clear hK K
            refine wpAnyH_take (i := 7) (v := ?_) rfl (by kernel_rfl) (by kernel_rfl) (by kernel_rfl) (fun _ _ _ h => h) (Or.inl ⟨by rfl, ?_⟩) (by assumption) ?_
            rotate_left
            · intro w hSw; go_simp; try with_reducible rfl
            go_simp
            refine wpAnyH_ready (rs := [8]) (by kernel_rfl) (by simp) ?_
            refine AllReadyH.cons rfl (fun K hK => ?_) AllReadyH.nil
            go_simp
            refine hK.out _ _ ?_ (fun hHeld => ?_)
            · exact kbf_set (Kb.kp (kbf_drew (Kb.refl B wX)) K6.out) _ _
            clear hK K
            refine wpAnyH_done (by kernel_rfl) ?_ _
            go_wp2
            have hjj := HJ.out
            go_roundw
            case rel => exact ⟨j + 1, l.set tk tn, ox, by omega, rfl, by congr 1; omega, by rw [List.length_set]; exact HL9.out, HOX.out, D6.out.set NB.out NR.out NA.out NL.out tk (by rw [HL9.out]; exact hkn) tn, HPT.out⟩
            case measure => simp [intOf]; omega
    · obtain rfl : j = kf := by omega
      rw [← hkl, List.drop_length, putG] at hput
      have HDE : DD = finG (some (l, ox)) := by rw [HDM.out, hput]
      unfold finG at HDE
      dsimp only at HDE
      obtain ⟨x, hx⟩ : ∃ z, ox.getD 0 = z := ⟨_, rfl⟩
      obtain ⟨ev, hev⟩ : ∃ z, ox.isSome = z := ⟨_, rfl⟩
      rw [hx] at hds hox
      rw [hx, hev] at HDE
      rw [hev]
      obtain ⟨k, n, s, r, u, p, q, o, d, a, t, hh, c, rfl⟩ := thirteen hl9
      have hol : ofF [k, n, s, r, u, p, q, o, d, a, t, hh, c] x = ⟨k, n, s, r, u, p, q, o, d, a, t, hh, c, x⟩ := rfl
      rw [hol] at HDE
      dsimp only at HDE
      have HDS := Lib.hid hds
      obtain ⟨g0, g1, g2, g3, g4, g5, g6, g7, g8, g9, g10, g11, g12, g13⟩ := cells14 (show wr.heap[B]? = some (.cells #[.int .i64 k, .int .i64 n, .int .i64 s, .int .i64 r, .int .i64 u, .int .i64 p, .int .i64 q, .int .i64 o, .int .i64 d, .int .i64 a, .int .i64 t, .int .i64 hh, .int .i64 c, .float .f64 x] 26 (0, 0)) from hds.bB)
      have HRR := fun w1 (hk : Kp wr w1) => HRT.out ⟨k, n, s, r, u, p, q, o, d, a, t, hh, c, x⟩ hox w1 (Kp.trans hds.kW hk)
      have x3 := kp_cell hds.kW C3.out
      have hex : ¬ jj < j := by omega
      clear hput hkl hlt hjj hol hds hl9 hx hev hox HD2
      by_cases hk1 : k = 1
      · subst hk1
        cases ev with
        | true =>
          cases hrm : rightF ⟨1, n, s, r, u, p, q, o, d, a, t, hh, c, x⟩ with
          | true =>
            rw [hrm] at HDE HRR
            rw [if_pos ⟨by simp, rfl⟩] at HDE
            dsimp only [FX.cells] at HRR
            have HRR := Lib.hid HRR
            clear hrm
            go_wp2
            refine wp_region_held_drew (S := fun w' => Kp wr w') (by kernel_rfl) ?_ (fun hHeld => ?_)
            · exact (Kp.refl wr).drew
            refine wpAnyH_take (i := 0) (v := ?_) rfl (by kernel_rfl) (by kernel_rfl) (by kernel_rfl) (fun _ _ _ h => h) (Or.inl ⟨by rfl, ?_⟩) (by assumption) ?_
            rotate_left
            · intro w hSw; go_simp; try with_reducible rfl
            go_simp
            refine wpAnyH_take (i := 1) (v := ?_) rfl (by kernel_rfl) (by kernel_rfl) (by kernel_rfl) (fun _ _ _ h => h) (Or.inl ⟨by rfl, ?_⟩) (by assumption) ?_
            rotate_left
            · intro w hSw; go_simp; try with_reducible rfl
            go_simp
            refine wpAnyH_take (i := 2) (v := ?_) rfl (by kernel_rfl) (by kernel_rfl) (by kernel_rfl) (fun _ _ _ h => h) (Or.inl ⟨by rfl, ?_⟩) (by assumption) ?_
            rotate_left
            · intro w hSw; have q0 := kp_cell hSw g0; have q1 := kp_cell hSw g1; have q2 := kp_cell hSw g2; have q3 := kp_cell hSw g3; have q4 := kp_cell hSw g4; have q5 := kp_cell hSw g5; have q6 := kp_cell hSw g6; have q7 := kp_cell hSw g7; have q8 := kp_cell hSw g8; have q9 := kp_cell hSw g9; have q10 := kp_cell hSw g10; have q11 := kp_cell hSw g11; have q12 := kp_cell hSw g12; have q13 := kp_cell hSw g13; go_simp; try with_reducible rfl
            go_simp
            refine wpAnyH_take (i := 3) (v := ?_) rfl (by kernel_rfl) (by kernel_rfl) (by kernel_rfl) (fun _ _ _ h => h) (Or.inl ⟨by rfl, ?_⟩) (by assumption) ?_
            rotate_left
            · intro w hSw; go_simp; try with_reducible rfl
            go_simp
            refine wpAnyH_take (i := 4) (v := ?_) rfl (by kernel_rfl) (by kernel_rfl) (by kernel_rfl) (fun _ _ _ h => h) (Or.inl ⟨by rfl, ?_⟩) (by assumption) ?_
            rotate_left
            · intro w hSw; go_simp; try with_reducible rfl
            go_simp
            refine wpAnyH_take (i := 5) (v := ?_) rfl (by kernel_rfl) (by kernel_rfl) (by kernel_rfl) (fun _ _ _ h => h) (Or.inl ⟨by rfl, ?_⟩) (by assumption) ?_
            rotate_left
            · intro w hSw; go_simp; try with_reducible rfl
            go_simp
            refine wpAnyH_take (i := 6) (v := ?_) rfl (by kernel_rfl) (by kernel_rfl) (by kernel_rfl) (fun _ _ _ h => h) (Or.inl ⟨by rfl, ?_⟩) (by assumption) ?_
            rotate_left
            · intro w hSw; have q0 := kp_cell hSw g0; have q1 := kp_cell hSw g1; have q2 := kp_cell hSw g2; have q3 := kp_cell hSw g3; have q4 := kp_cell hSw g4; have q5 := kp_cell hSw g5; have q6 := kp_cell hSw g6; have q7 := kp_cell hSw g7; have q8 := kp_cell hSw g8; have q9 := kp_cell hSw g9; have q10 := kp_cell hSw g10; have q11 := kp_cell hSw g11; have q12 := kp_cell hSw g12; have q13 := kp_cell hSw g13; go_simp; try with_reducible rfl
            go_simp
            refine wpAnyH_take (i := 9) (v := ?_) rfl (by kernel_rfl) (by kernel_rfl) (by kernel_rfl) (fun _ _ _ h => h) (Or.inl ⟨by rfl, ?_⟩) (by assumption) ?_
            rotate_left
            · intro w hSw; have q := kp_cell hSw x3; go_simp; try with_reducible rfl
            go_simp
            refine wpAnyH_ready (rs := [7]) (by kernel_rfl) (by simp) ?_
            refine AllReadyH.cons rfl (fun K hK => ?_) AllReadyH.nil
            go_simp
            go_wp2_with (go_at_call 9; (with_reducible refine (HRR.out _ hHeld).mono ?_); rintro e w7 ⟨rfl, hk7⟩; have K7 := Lib.hid (Kp.trans hHeld hk7); clear hk7)
            refine hK.out _ _ ?_ (fun hHeld => ?_)
            · exact K7.out
            clear hK K
            refine wpAnyH_take (i := 8) (v := ?_) rfl (by kernel_rfl) (by kernel_rfl) (by kernel_rfl) (fun _ _ _ h => h) (Or.inl ⟨by rfl, ?_⟩) (by assumption) ?_
            rotate_left
            · intro w hSw; go_simp; try with_reducible rfl
            go_simp
            refine wpAnyH_ready (rs := [10]) (by kernel_rfl) (by simp) ?_
            refine AllReadyH.cons rfl (fun K hK => ?_) AllReadyH.nil
            go_simp
            go_wp2_with (go_at_call 22; (with_reducible refine (fdemand_t _ _).mono ?_); rintro e w' ⟨rfl, rfl⟩)
            refine hK.out _ _ ?_ (fun hHeld => ?_)
            · exact hHeld
            clear hK K
            refine wpAnyH_done (by kernel_rfl) ?_ _
            have D7 := Lib.hid (HDS.out.kp K7.out)
            obtain ⟨d0, d1, d2, d3, d4, d5, d6, d7, d8, d9, d10, d11, d12, d13⟩ := cells14 D7.out.bR
            obtain ⟨e0, e1, e2, e3, e4, e5, e6, e7, e8, e9, e10, e11, e12, e13⟩ := cells14 (show w7.heap[B]? = some (.cells #[.int .i64 1, .int .i64 n, .int .i64 s, .int .i64 r, .int .i64 u, .int .i64 p, .int .i64 q, .int .i64 o, .int .i64 d, .int .i64 a, .int .i64 t, .int .i64 hh, .int .i64 c, .float .f64 x] 26 (0, 0)) from D7.out.bB)
            have fz := froz14 D7.out.bR
            go_wp2
            have hz9 := set14 (.int .i64 1) (.int .i64 n) (.int .i64 s) (.int .i64 r) (.int .i64 u) (.int .i64 p) (.int .i64 q) (.int .i64 o) (.int .i64 d) (.int .i64 a) (.int .i64 t) (.int .i64 hh) (.int .i64 c) (.float .f64 x) D7.out.bR
            refine bodyPost_ret (results_cell_row (p := 1) rfl _ _ R 26 _ (0, 0) _ rfl hz9 Tryz.underlying26 rfl (by kernel_rfl)) rfl ?_
            rw [HDE]
            exact ⟨.inl ⟨rfl, rfl⟩, set14_kp (Kp.trans HDS.out.kW K7.out) NQ.out _ _ _ _ _ _ _ _ _ _ _ _ _ _⟩
          | false =>
            rw [hrm] at HDE HRR
            rw [if_neg (fun q => absurd q.2 (by decide))] at HDE
            dsimp only [FX.cells] at HRR
            have HRR := Lib.hid HRR
            clear hrm
            go_wp2
            refine wp_region_held_drew (S := fun w' => Kp wr w') (by kernel_rfl) ?_ (fun hHeld => ?_)
            · exact (Kp.refl wr).drew
            refine wpAnyH_take (i := 0) (v := ?_) rfl (by kernel_rfl) (by kernel_rfl) (by kernel_rfl) (fun _ _ _ h => h) (Or.inl ⟨by rfl, ?_⟩) (by assumption) ?_
            rotate_left
            · intro w hSw; go_simp; try with_reducible rfl
            go_simp
            refine wpAnyH_take (i := 1) (v := ?_) rfl (by kernel_rfl) (by kernel_rfl) (by kernel_rfl) (fun _ _ _ h => h) (Or.inl ⟨by rfl, ?_⟩) (by assumption) ?_
            rotate_left
            · intro w hSw; go_simp; try with_reducible rfl
            go_simp
            refine wpAnyH_take (i := 2) (v := ?_) rfl (by kernel_rfl) (by kernel_rfl) (by kernel_rfl) (fun _ _ _ h => h) (Or.inl ⟨by rfl, ?_⟩) (by assumption) ?_
            rotate_left
            · intro w hSw; have q0 := kp_cell hSw g0; have q1 := kp_cell hSw g1; have q2 := kp_cell hSw g2; have q3 := kp_cell hSw g3; have q4 := kp_cell hSw g4; have q5 := kp_cell hSw g5; have q6 := kp_cell hSw g6; have q7 := kp_cell hSw g7; have q8 := kp_cell hSw g8; have q9 := kp_cell hSw g9; have q10 := kp_cell hSw g10; have q11 := kp_cell hSw g11; have q12 := kp_cell hSw g12; have q13 := kp_cell hSw g13; go_simp; try with_reducible rfl
            go_simp
            refine wpAnyH_take (i := 3) (v := ?_) rfl (by kernel_rfl) (by kernel_rfl) (by kernel_rfl) (fun _ _ _ h => h) (Or.inl ⟨by rfl, ?_⟩) (by assumption) ?_
            rotate_left
            · intro w hSw; go_simp; try with_reducible rfl
            go_simp
            refine wpAnyH_take (i := 4) (v := ?_) rfl (by kernel_rfl) (by kernel_rfl) (by kernel_rfl) (fun _ _ _ h => h) (Or.inl ⟨by rfl, ?_⟩) (by assumption) ?_
            rotate_left
            · intro w hSw; go_simp; try with_reducible rfl
            go_simp
            refine wpAnyH_take (i := 5) (v := ?_) rfl (by kernel_rfl) (by kernel_rfl) (by kernel_rfl) (fun _ _ _ h => h) (Or.inl ⟨by rfl, ?_⟩) (by assumption) ?_
            rotate_left
            · intro w hSw; go_simp; try with_reducible rfl
            go_simp
            refine wpAnyH_take (i := 6) (v := ?_) rfl (by kernel_rfl) (by kernel_rfl) (by kernel_rfl) (fun _ _ _ h => h) (Or.inl ⟨by rfl, ?_⟩) (by assumption) ?_
            rotate_left
            · intro w hSw; have q0 := kp_cell hSw g0; have q1 := kp_cell hSw g1; have q2 := kp_cell hSw g2; have q3 := kp_cell hSw g3; have q4 := kp_cell hSw g4; have q5 := kp_cell hSw g5; have q6 := kp_cell hSw g6; have q7 := kp_cell hSw g7; have q8 := kp_cell hSw g8; have q9 := kp_cell hSw g9; have q10 := kp_cell hSw g10; have q11 := kp_cell hSw g11; have q12 := kp_cell hSw g12; have q13 := kp_cell hSw g13; go_simp; try with_reducible rfl
            go_simp
            refine wpAnyH_take (i := 9) (v := ?_) rfl (by kernel_rfl) (by kernel_rfl) (by kernel_rfl) (fun _ _ _ h => h) (Or.inl ⟨by rfl, ?_⟩) (by assumption) ?_
            rotate_left
            · intro w hSw; have q := kp_cell hSw x3; go_simp; try with_reducible rfl
            go_simp
            refine wpAnyH_ready (rs := [7]) (by kernel_rfl) (by simp) ?_
            refine AllReadyH.cons rfl (fun K hK => ?_) AllReadyH.nil
            go_simp
            go_wp2_with (go_at_call 9; (with_reducible refine (HRR.out _ hHeld).mono ?_); rintro e w7 ⟨rfl, hk7⟩; have K7 := Lib.hid (Kp.trans hHeld hk7); clear hk7)
            refine hK.out _ _ ?_ (fun hHeld => ?_)
            · exact K7.out
            clear hK K
            refine wpAnyH_take (i := 8) (v := ?_) rfl (by kernel_rfl) (by kernel_rfl) (by kernel_rfl) (fun _ _ _ h => h) (Or.inl ⟨by rfl, ?_⟩) (by assumption) ?_
            rotate_left
            · intro w hSw; go_simp; try with_reducible rfl
            go_simp
            refine wpAnyH_ready (rs := [10]) (by kernel_rfl) (by simp) ?_
            refine AllReadyH.cons rfl (fun K hK => ?_) AllReadyH.nil
            go_simp
            go_wp2_with (go_at_call 22; (with_reducible refine (fdemand_f _ _).mono ?_); rintro e w' ⟨rfl, rfl⟩)
            rw [HDE]
            exact ⟨rfl, .inr ⟨rfl, rfl⟩, Kp.trans HDS.out.kW K7.out⟩
        | false =>
          rw [if_neg (fun q => absurd q.1 (by simp))] at HDE
          have HRR := Lib.hid HRR
          go_wp2
          refine wp_region_held_drew (S := fun w' => Kp wr w') (by kernel_rfl) ?_ (fun hHeld => ?_)
          · exact (Kp.refl wr).drew
          refine wpAnyH_take (i := 0) (v := ?_) rfl (by kernel_rfl) (by kernel_rfl) (by kernel_rfl) (fun _ _ _ h => h) (Or.inl ⟨by rfl, ?_⟩) (by assumption) ?_
          rotate_left
          · intro w hSw; go_simp; try with_reducible rfl
          go_simp
          refine wpAnyH_take (i := 1) (v := ?_) rfl (by kernel_rfl) (by kernel_rfl) (by kernel_rfl) (fun _ _ _ h => h) (Or.inl ⟨by rfl, ?_⟩) (by assumption) ?_
          rotate_left
          · intro w hSw; go_simp; try with_reducible rfl
          go_simp
          refine wpAnyH_take (i := 2) (v := ?_) rfl (by kernel_rfl) (by kernel_rfl) (by kernel_rfl) (fun _ _ _ h => h) (Or.inl ⟨by rfl, ?_⟩) (by assumption) ?_
          rotate_left
          · intro w hSw; have q0 := kp_cell hSw g0; have q1 := kp_cell hSw g1; have q2 := kp_cell hSw g2; have q3 := kp_cell hSw g3; have q4 := kp_cell hSw g4; have q5 := kp_cell hSw g5; have q6 := kp_cell hSw g6; have q7 := kp_cell hSw g7; have q8 := kp_cell hSw g8; have q9 := kp_cell hSw g9; have q10 := kp_cell hSw g10; have q11 := kp_cell hSw g11; have q12 := kp_cell hSw g12; have q13 := kp_cell hSw g13; go_simp; try with_reducible rfl
          go_simp
          refine wpAnyH_take (i := 3) (v := ?_) rfl (by kernel_rfl) (by kernel_rfl) (by kernel_rfl) (fun _ _ _ h => h) (Or.inl ⟨by rfl, ?_⟩) (by assumption) ?_
          rotate_left
          · intro w hSw; go_simp; try with_reducible rfl
          go_simp
          refine wpAnyH_take (i := 4) (v := ?_) rfl (by kernel_rfl) (by kernel_rfl) (by kernel_rfl) (fun _ _ _ h => h) (Or.inl ⟨by rfl, ?_⟩) (by assumption) ?_
          rotate_left
          · intro w hSw; go_simp; try with_reducible rfl
          go_simp
          refine wpAnyH_take (i := 5) (v := ?_) rfl (by kernel_rfl) (by kernel_rfl) (by kernel_rfl) (fun _ _ _ h => h) (Or.inl ⟨by rfl, ?_⟩) (by assumption) ?_
          rotate_left
          · intro w hSw; go_simp; try with_reducible rfl
          go_simp
          refine wpAnyH_take (i := 6) (v := undef) rfl (by kernel_rfl) (by kernel_rfl) (by kernel_rfl) (fun _ _ _ h => h) (Or.inr ⟨by rfl, rfl⟩) (by assumption) ?_
          go_simp
          refine wpAnyH_take (i := 7) (v := undef) rfl (by kernel_rfl) (by kernel_rfl) (by kernel_rfl) (fun _ _ _ h => h) (Or.inr ⟨by rfl, rfl⟩) (by assumption) ?_
          go_simp
          refine wpAnyH_take (i := 8) (v := ?_) rfl (by kernel_rfl) (by kernel_rfl) (by kernel_rfl) (fun _ _ _ h => h) (Or.inl ⟨by rfl, ?_⟩) (by assumption) ?_
          rotate_left
          · intro w hSw; go_simp; try with_reducible rfl
          go_simp
          refine wpAnyH_take (i := 9) (v := ?_) rfl (by kernel_rfl) (by kernel_rfl) (by kernel_rfl) (fun _ _ _ h => h) (Or.inl ⟨by rfl, ?_⟩) (by assumption) ?_
          rotate_left
          · intro w hSw; have q := kp_cell hSw x3; go_simp; try with_reducible rfl
          go_simp
          refine wpAnyH_ready (rs := [10]) (by kernel_rfl) (by simp) ?_
          refine AllReadyH.cons rfl (fun K hK => ?_) AllReadyH.nil
          go_simp
          go_wp2_with (go_at_call 22; (with_reducible refine (fdemand_f _ _).mono ?_); rintro e w' ⟨rfl, rfl⟩)
          rw [HDE]
          exact ⟨rfl, .inr ⟨rfl, rfl⟩, Kp.trans HDS.out.kW hHeld⟩
      · have hkb : (k == 1) = false := by simpa using hk1
        cases ev with
        | false =>
          cases hrm : rightF ⟨k, n, s, r, u, p, q, o, d, a, t, hh, c, x⟩ with
          | true =>
            rw [hrm] at HDE HRR
            rw [if_pos ⟨(decide_eq_false hk1).symm, rfl⟩] at HDE
            dsimp only [FX.cells] at HRR
            have HRR := Lib.hid HRR
            clear hrm
            go_wp2
            refine wp_region_held_drew (S := fun w' => Kp wr w') (by kernel_rfl) ?_ (fun hHeld => ?_)
            · exact (Kp.refl wr).drew
            refine wpAnyH_take (i := 0) (v := ?_) rfl (by kernel_rfl) (by kernel_rfl) (by kernel_rfl) (fun _ _ _ h => h) (Or.inl ⟨by rfl, ?_⟩) (by assumption) ?_
            rotate_left
            · intro w hSw; go_simp; try with_reducible rfl
            go_simp
            refine wpAnyH_take (i := 1) (v := ?_) rfl (by kernel_rfl) (by kernel_rfl) (by kernel_rfl) (fun _ _ _ h => h) (Or.inl ⟨by rfl, ?_⟩) (by assumption) ?_
            rotate_left
            · intro w hSw; go_simp; try with_reducible rfl
            go_simp
            refine wpAnyH_take (i := 2) (v := ?_) rfl (by kernel_rfl) (by kernel_rfl) (by kernel_rfl) (fun _ _ _ h => h) (Or.inl ⟨by rfl, ?_⟩) (by assumption) ?_
            rotate_left
            · intro w hSw; have q0 := kp_cell hSw g0; have q1 := kp_cell hSw g1; have q2 := kp_cell hSw g2; have q3 := kp_cell hSw g3; have q4 := kp_cell hSw g4; have q5 := kp_cell hSw g5; have q6 := kp_cell hSw g6; have q7 := kp_cell hSw g7; have q8 := kp_cell hSw g8; have q9 := kp_cell hSw g9; have q10 := kp_cell hSw g10; have q11 := kp_cell hSw g11; have q12 := kp_cell hSw g12; have q13 := kp_cell hSw g13; go_simp; try with_reducible rfl
            go_simp
            refine wpAnyH_take (i := 3) (v := ?_) rfl (by kernel_rfl) (by kernel_rfl) (by kernel_rfl) (fun _ _ _ h => h) (Or.inl ⟨by rfl, ?_⟩) (by assumption) ?_
            rotate_left
            · intro w hSw; go_simp; try with_reducible rfl
            go_simp
            refine wpAnyH_take (i := 4) (v := ?_) rfl (by kernel_rfl) (by kernel_rfl) (by kernel_rfl) (fun _ _ _ h => h) (Or.inl ⟨by rfl, ?_⟩) (by assumption) ?_
            rotate_left
            · intro w hSw; go_simp; try with_reducible rfl
            go_simp
            refine wpAnyH_take (i := 5) (v := ?_) rfl (by kernel_rfl) (by kernel_rfl) (by kernel_rfl) (fun _ _ _ h => h) (Or.inl ⟨by rfl, ?_⟩) (by assumption) ?_
            rotate_left
            · intro w hSw; go_simp; try with_reducible rfl
            go_simp
            refine wpAnyH_take (i := 6) (v := ?_) rfl (by kernel_rfl) (by kernel_rfl) (by kernel_rfl) (fun _ _ _ h => h) (Or.inl ⟨by rfl, ?_⟩) (by assumption) ?_
            rotate_left
            · intro w hSw; have q0 := kp_cell hSw g0; have q1 := kp_cell hSw g1; have q2 := kp_cell hSw g2; have q3 := kp_cell hSw g3; have q4 := kp_cell hSw g4; have q5 := kp_cell hSw g5; have q6 := kp_cell hSw g6; have q7 := kp_cell hSw g7; have q8 := kp_cell hSw g8; have q9 := kp_cell hSw g9; have q10 := kp_cell hSw g10; have q11 := kp_cell hSw g11; have q12 := kp_cell hSw g12; have q13 := kp_cell hSw g13; go_simp; try with_reducible rfl
            go_simp
            refine wpAnyH_take (i := 9) (v := ?_) rfl (by kernel_rfl) (by kernel_rfl) (by kernel_rfl) (fun _ _ _ h => h) (Or.inl ⟨by rfl, ?_⟩) (by assumption) ?_
            rotate_left
            · intro w hSw; have q := kp_cell hSw x3; go_simp; try with_reducible rfl
            go_simp
            refine wpAnyH_ready (rs := [7]) (by kernel_rfl) (by simp) ?_
            refine AllReadyH.cons rfl (fun K hK => ?_) AllReadyH.nil
            go_simp
            go_wp2_with (go_at_call 9; (with_reducible refine (HRR.out _ hHeld).mono ?_); rintro e w7 ⟨rfl, hk7⟩; have K7 := Lib.hid (Kp.trans hHeld hk7); clear hk7)
            refine hK.out _ _ ?_ (fun hHeld => ?_)
            · exact K7.out
            clear hK K
            refine wpAnyH_take (i := 8) (v := ?_) rfl (by kernel_rfl) (by kernel_rfl) (by kernel_rfl) (fun _ _ _ h => h) (Or.inl ⟨by rfl, ?_⟩) (by assumption) ?_
            rotate_left
            · intro w hSw; go_simp; try with_reducible rfl
            go_simp
            refine wpAnyH_ready (rs := [10]) (by kernel_rfl) (by simp) ?_
            refine AllReadyH.cons rfl (fun K hK => ?_) AllReadyH.nil
            go_simp
            go_wp2_with (go_at_call 22; (with_reducible refine (fdemand_t _ _).mono ?_); rintro e w' ⟨rfl, rfl⟩)
            refine hK.out _ _ ?_ (fun hHeld => ?_)
            · exact hHeld
            clear hK K
            refine wpAnyH_done (by kernel_rfl) ?_ _
            have D7 := Lib.hid (HDS.out.kp K7.out)
            obtain ⟨d0, d1, d2, d3, d4, d5, d6, d7, d8, d9, d10, d11, d12, d13⟩ := cells14 D7.out.bR
            obtain ⟨e0, e1, e2, e3, e4, e5, e6, e7, e8, e9, e10, e11, e12, e13⟩ := cells14 (show w7.heap[B]? = some (.cells #[.int .i64 k, .int .i64 n, .int .i64 s, .int .i64 r, .int .i64 u, .int .i64 p, .int .i64 q, .int .i64 o, .int .i64 d, .int .i64 a, .int .i64 t, .int .i64 hh, .int .i64 c, .float .f64 x] 26 (0, 0)) from D7.out.bB)
            have fz := froz14 D7.out.bR
            go_wp2
            have hz9 := set14 (.int .i64 k) (.int .i64 n) (.int .i64 s) (.int .i64 r) (.int .i64 u) (.int .i64 p) (.int .i64 q) (.int .i64 o) (.int .i64 d) (.int .i64 a) (.int .i64 t) (.int .i64 hh) (.int .i64 c) (.float .f64 x) D7.out.bR
            refine bodyPost_ret (results_cell_row (p := 1) rfl _ _ R 26 _ (0, 0) _ rfl hz9 Tryz.underlying26 rfl (by kernel_rfl)) rfl ?_
            rw [HDE]
            exact ⟨.inl ⟨rfl, rfl⟩, set14_kp (Kp.trans HDS.out.kW K7.out) NQ.out _ _ _ _ _ _ _ _ _ _ _ _ _ _⟩
          | false =>
            rw [hrm] at HDE HRR
            rw [if_neg (fun q => absurd q.2 (by decide))] at HDE
            dsimp only [FX.cells] at HRR
            have HRR := Lib.hid HRR
            clear hrm
            go_wp2
            refine wp_region_held_drew (S := fun w' => Kp wr w') (by kernel_rfl) ?_ (fun hHeld => ?_)
            · exact (Kp.refl wr).drew
            refine wpAnyH_take (i := 0) (v := ?_) rfl (by kernel_rfl) (by kernel_rfl) (by kernel_rfl) (fun _ _ _ h => h) (Or.inl ⟨by rfl, ?_⟩) (by assumption) ?_
            rotate_left
            · intro w hSw; go_simp; try with_reducible rfl
            go_simp
            refine wpAnyH_take (i := 1) (v := ?_) rfl (by kernel_rfl) (by kernel_rfl) (by kernel_rfl) (fun _ _ _ h => h) (Or.inl ⟨by rfl, ?_⟩) (by assumption) ?_
            rotate_left
            · intro w hSw; go_simp; try with_reducible rfl
            go_simp
            refine wpAnyH_take (i := 2) (v := ?_) rfl (by kernel_rfl) (by kernel_rfl) (by kernel_rfl) (fun _ _ _ h => h) (Or.inl ⟨by rfl, ?_⟩) (by assumption) ?_
            rotate_left
            · intro w hSw; have q0 := kp_cell hSw g0; have q1 := kp_cell hSw g1; have q2 := kp_cell hSw g2; have q3 := kp_cell hSw g3; have q4 := kp_cell hSw g4; have q5 := kp_cell hSw g5; have q6 := kp_cell hSw g6; have q7 := kp_cell hSw g7; have q8 := kp_cell hSw g8; have q9 := kp_cell hSw g9; have q10 := kp_cell hSw g10; have q11 := kp_cell hSw g11; have q12 := kp_cell hSw g12; have q13 := kp_cell hSw g13; go_simp; try with_reducible rfl
            go_simp
            refine wpAnyH_take (i := 3) (v := ?_) rfl (by kernel_rfl) (by kernel_rfl) (by kernel_rfl) (fun _ _ _ h => h) (Or.inl ⟨by rfl, ?_⟩) (by assumption) ?_
            rotate_left
            · intro w hSw; go_simp; try with_reducible rfl
            go_simp
            refine wpAnyH_take (i := 4) (v := ?_) rfl (by kernel_rfl) (by kernel_rfl) (by kernel_rfl) (fun _ _ _ h => h) (Or.inl ⟨by rfl, ?_⟩) (by assumption) ?_
            rotate_left
            · intro w hSw; go_simp; try with_reducible rfl
            go_simp
            refine wpAnyH_take (i := 5) (v := ?_) rfl (by kernel_rfl) (by kernel_rfl) (by kernel_rfl) (fun _ _ _ h => h) (Or.inl ⟨by rfl, ?_⟩) (by assumption) ?_
            rotate_left
            · intro w hSw; go_simp; try with_reducible rfl
            go_simp
            refine wpAnyH_take (i := 6) (v := ?_) rfl (by kernel_rfl) (by kernel_rfl) (by kernel_rfl) (fun _ _ _ h => h) (Or.inl ⟨by rfl, ?_⟩) (by assumption) ?_
            rotate_left
            · intro w hSw; have q0 := kp_cell hSw g0; have q1 := kp_cell hSw g1; have q2 := kp_cell hSw g2; have q3 := kp_cell hSw g3; have q4 := kp_cell hSw g4; have q5 := kp_cell hSw g5; have q6 := kp_cell hSw g6; have q7 := kp_cell hSw g7; have q8 := kp_cell hSw g8; have q9 := kp_cell hSw g9; have q10 := kp_cell hSw g10; have q11 := kp_cell hSw g11; have q12 := kp_cell hSw g12; have q13 := kp_cell hSw g13; go_simp; try with_reducible rfl
            go_simp
            refine wpAnyH_take (i := 9) (v := ?_) rfl (by kernel_rfl) (by kernel_rfl) (by kernel_rfl) (fun _ _ _ h => h) (Or.inl ⟨by rfl, ?_⟩) (by assumption) ?_
            rotate_left
            · intro w hSw; have q := kp_cell hSw x3; go_simp; try with_reducible rfl
            go_simp
            refine wpAnyH_ready (rs := [7]) (by kernel_rfl) (by simp) ?_
            refine AllReadyH.cons rfl (fun K hK => ?_) AllReadyH.nil
            go_simp
            go_wp2_with (go_at_call 9; (with_reducible refine (HRR.out _ hHeld).mono ?_); rintro e w7 ⟨rfl, hk7⟩; have K7 := Lib.hid (Kp.trans hHeld hk7); clear hk7)
            refine hK.out _ _ ?_ (fun hHeld => ?_)
            · exact K7.out
            clear hK K
            refine wpAnyH_take (i := 8) (v := ?_) rfl (by kernel_rfl) (by kernel_rfl) (by kernel_rfl) (fun _ _ _ h => h) (Or.inl ⟨by rfl, ?_⟩) (by assumption) ?_
            rotate_left
            · intro w hSw; go_simp; try with_reducible rfl
            go_simp
            refine wpAnyH_ready (rs := [10]) (by kernel_rfl) (by simp) ?_
            refine AllReadyH.cons rfl (fun K hK => ?_) AllReadyH.nil
            go_simp
            go_wp2_with (go_at_call 22; (with_reducible refine (fdemand_f _ _).mono ?_); rintro e w' ⟨rfl, rfl⟩)
            rw [HDE]
            exact ⟨rfl, .inr ⟨rfl, rfl⟩, Kp.trans HDS.out.kW K7.out⟩
        | true =>
          rw [if_neg (fun q => hk1 (of_decide_eq_true q.1.symm))] at HDE
          have HRR := Lib.hid HRR
          go_wp2
          refine wp_region_held_drew (S := fun w' => Kp wr w') (by kernel_rfl) ?_ (fun hHeld => ?_)
          · exact (Kp.refl wr).drew
          refine wpAnyH_take (i := 0) (v := ?_) rfl (by kernel_rfl) (by kernel_rfl) (by kernel_rfl) (fun _ _ _ h => h) (Or.inl ⟨by rfl, ?_⟩) (by assumption) ?_
          rotate_left
          · intro w hSw; go_simp; try with_reducible rfl
          go_simp
          refine wpAnyH_take (i := 1) (v := ?_) rfl (by kernel_rfl) (by kernel_rfl) (by kernel_rfl) (fun _ _ _ h => h) (Or.inl ⟨by rfl, ?_⟩) (by assumption) ?_
          rotate_left
          · intro w hSw; go_simp; try with_reducible rfl
          go_simp
          refine wpAnyH_take (i := 2) (v := ?_) rfl (by kernel_rfl) (by kernel_rfl) (by kernel_rfl) (fun _ _ _ h => h) (Or.inl ⟨by rfl, ?_⟩) (by assumption) ?_
          rotate_left
          · intro w hSw; have q0 := kp_cell hSw g0; have q1 := kp_cell hSw g1; have q2 := kp_cell hSw g2; have q3 := kp_cell hSw g3; have q4 := kp_cell hSw g4; have q5 := kp_cell hSw g5; have q6 := kp_cell hSw g6; have q7 := kp_cell hSw g7; have q8 := kp_cell hSw g8; have q9 := kp_cell hSw g9; have q10 := kp_cell hSw g10; have q11 := kp_cell hSw g11; have q12 := kp_cell hSw g12; have q13 := kp_cell hSw g13; go_simp; try with_reducible rfl
          go_simp
          refine wpAnyH_take (i := 3) (v := ?_) rfl (by kernel_rfl) (by kernel_rfl) (by kernel_rfl) (fun _ _ _ h => h) (Or.inl ⟨by rfl, ?_⟩) (by assumption) ?_
          rotate_left
          · intro w hSw; go_simp; try with_reducible rfl
          go_simp
          refine wpAnyH_take (i := 4) (v := ?_) rfl (by kernel_rfl) (by kernel_rfl) (by kernel_rfl) (fun _ _ _ h => h) (Or.inl ⟨by rfl, ?_⟩) (by assumption) ?_
          rotate_left
          · intro w hSw; go_simp; try with_reducible rfl
          go_simp
          refine wpAnyH_take (i := 5) (v := ?_) rfl (by kernel_rfl) (by kernel_rfl) (by kernel_rfl) (fun _ _ _ h => h) (Or.inl ⟨by rfl, ?_⟩) (by assumption) ?_
          rotate_left
          · intro w hSw; go_simp; try with_reducible rfl
          go_simp
          refine wpAnyH_take (i := 6) (v := undef) rfl (by kernel_rfl) (by kernel_rfl) (by kernel_rfl) (fun _ _ _ h => h) (Or.inr ⟨by rfl, rfl⟩) (by assumption) ?_
          go_simp
          refine wpAnyH_take (i := 7) (v := undef) rfl (by kernel_rfl) (by kernel_rfl) (by kernel_rfl) (fun _ _ _ h => h) (Or.inr ⟨by rfl, rfl⟩) (by assumption) ?_
          go_simp
          refine wpAnyH_take (i := 8) (v := ?_) rfl (by kernel_rfl) (by kernel_rfl) (by kernel_rfl) (fun _ _ _ h => h) (Or.inl ⟨by rfl, ?_⟩) (by assumption) ?_
          rotate_left
          · intro w hSw; go_simp; try with_reducible rfl
          go_simp
          refine wpAnyH_take (i := 9) (v := ?_) rfl (by kernel_rfl) (by kernel_rfl) (by kernel_rfl) (fun _ _ _ h => h) (Or.inl ⟨by rfl, ?_⟩) (by assumption) ?_
          rotate_left
          · intro w hSw; have q := kp_cell hSw x3; go_simp; try with_reducible rfl
          go_simp
          refine wpAnyH_ready (rs := [10]) (by kernel_rfl) (by simp) ?_
          refine AllReadyH.cons rfl (fun K hK => ?_) AllReadyH.nil
          go_simp
          go_wp2_with (go_at_call 22; (with_reducible refine (fdemand_f _ _).mono ?_); rintro e w' ⟨rfl, rfl⟩)
          rw [HDE]
          exact ⟨rfl, .inr ⟨rfl, rfl⟩, Kp.trans HDS.out.kW hHeld⟩
end Go.Proofs.YtahdoniggipmmaaGreatDoor

namespace Go.Proofs.YtahdoniggipmmaaGreatDoor
open Go.RowKit Go.ChangeShapes Go.WideShapes

theorem results_row_tmpF {P : Program} {fn : Func} {p u : Tmp} {ty : TypeId} (h : fn.results = #[.cell p ty, .tmp u]) (tmps : Array Value) (w : World) (g : Nat) (t : TypeId) (cs : Array Value) (fr : Nat × Nat) (d : TypeDesc)
    (hp : tmps.getD p undef = .pointer (some ⟨g, 0, none⟩)) (hg : w.heap[g]? = some (.cells cs t fr))
    (hu : P.underlying ty = some d) (hd : (match d with | .struct _ | .array _ _ => true | _ => false) = true) (hi : (P.info? ty).map (·.size) = some cs.size) :
    (results fn tmps).run P w = .ok (.tuple #[.agg cs, tmps.getD u undef]) w := by
  have hp' : tmps[p]?.getD undef = .pointer (some ⟨g, 0, none⟩) := by simpa using hp
  simp [results, h, hp', asAddr, run_loadVar_row w g t ty cs fr d hg hu hd hi]
set_option maxRecDepth 100000 in
theorem fread_val (a : Option Addr) (cap : Nat) (len : Nat) (w : World) (k n s r u p q o d aa t hh c : Int) (x : Nat)
    (H : ∀ w1, Kp w w1 → w1.cell? ⟨w.heap.size, 0, none⟩ = some (.slice a len cap) → Calls Tryz.prog 39 #[.pointer (some ⟨w.heap.size, 0, none⟩)] w1 fun e w' => e = .returned (.agg #[.int .i64 k, .int .i64 n, .int .i64 s, .int .i64 r, .int .i64 u, .int .i64 p, .int .i64 q, .int .i64 o, .int .i64 d, .int .i64 aa, .int .i64 t, .int .i64 hh, .int .i64 c, .float .f64 x]) ∧ Kp w1 w') :
    Calls Tryz.prog 12 #[.slice a len cap] w fun e w' => e = .returned (.tuple #[.agg #[.int .i64 k, .int .i64 n, .int .i64 s, .int .i64 r, .int .i64 u, .int .i64 p, .int .i64 q, .int .i64 o, .int .i64 d, .int .i64 aa, .int .i64 t, .int .i64 hh, .int .i64 c, .float .f64 x], .nilIface]) ∧ Kp w w' := by
  have hmf : ∀ (fn : Fn) (first cap : Array Value) (w : World), (Instr.makeFunc fn first cap).run Tryz.prog w = .ok (.func fn first cap) w := fun _ _ _ _ => rfl
  have hsf := store_fl
  have kb := kp_alloc w (.cells #[.slice a len cap] 29)
  have kb2 := Kp.trans kb (kp_alloc (w.alloc (.cells #[.slice a len cap] 29)) (.cells #[.int .i64 0, .int .i64 0, .int .i64 0, .int .i64 0, .int .i64 0, .int .i64 0, .int .i64 0, .int .i64 0, .int .i64 0, .int .i64 0, .int .i64 0, .int .i64 0, .int .i64 0, .float .f64 0] 26))
  have hc := kp_cell (kp_alloc (w.alloc (.cells #[.slice a len cap] 29)) (.cells #[.int .i64 0, .int .i64 0, .int .i64 0, .int .i64 0, .int .i64 0, .int .i64 0, .int .i64 0, .int .i64 0, .int .i64 0, .int .i64 0, .int .i64 0, .int .i64 0, .int .i64 0, .float .f64 0] 26)) (box_cell w (.slice a len cap) 29)
  have hz := new14_1 w (.cells #[.slice a len cap] 29) (.cells #[.int .i64 0, .int .i64 0, .int .i64 0, .int .i64 0, .int .i64 0, .int .i64 0, .int .i64 0, .int .i64 0, .int .i64 0, .int .i64 0, .int .i64 0, .int .i64 0, .int .i64 0, .float .f64 0] 26)
  have HT := Lib.hid (try_fct_val 39 #[.pointer (some ⟨w.heap.size, 0, none⟩)] k n s r u p q o d aa t hh c x ((w.alloc (.cells #[.slice a len cap] 29)).alloc (.cells #[.int .i64 0, .int .i64 0, .int .i64 0, .int .i64 0, .int .i64 0, .int .i64 0, .int .i64 0, .int .i64 0, .int .i64 0, .int .i64 0, .int .i64 0, .int .i64 0, .int .i64 0, .float .f64 0] 26)) (by intro w; simp [go_sem]) fun w1 hk => H w1 (Kp.trans kb2 hk) (kp_cell hk hc))
  clear H hc kb
  have KB := Lib.hid kb2
  have HZ := Lib.hid hz
  clear hz kb2
  go_enter Tryz.func12, Tryz.ntmps12
  go_wp2_with (go_at_call 38; (with_reducible refine HT.out.mono ?_); rintro e w5 ⟨rfl, hk⟩; have HK := Lib.hid hk; have HR := Lib.hid (kp_row hk HZ.out); obtain ⟨d0, d1, d2, d3, d4, d5, d6, d7, d8, d9, d10, d11, d12, d13⟩ := cells14 HR.out; have fz := froz14 HR.out; clear hk)
  have hz9 := set14 (.int .i64 k) (.int .i64 n) (.int .i64 s) (.int .i64 r) (.int .i64 u) (.int .i64 p) (.int .i64 q) (.int .i64 o) (.int .i64 d) (.int .i64 aa) (.int .i64 t) (.int .i64 hh) (.int .i64 c) (.float .f64 x) HR.out
  refine bodyPost_ret (results_row_tmpF (p := 2) (u := 3) rfl _ _ (w.heap.size + 1) 26 _ (0, 0) _ rfl hz9 Tryz.underlying26 rfl (by kernel_rfl)) rfl ?_
  exact ⟨rfl, set14_kp (Kp.trans KB.out HK.out) (by omega) _ _ _ _ _ _ _ _ _ _ _ _ _ _⟩

set_option maxRecDepth 100000 in
theorem fread_err (ads : List Addr) (a : Option Addr) (cap : Nat) (len : Nat) (w : World) (V : St ads w) (i : Nat) (hi : i < ads.length)
    (H : ∀ w1, Kp w w1 → w1.cell? ⟨w.heap.size, 0, none⟩ = some (.slice a len cap) → Calls Tryz.prog 39 #[.pointer (some ⟨w.heap.size, 0, none⟩)] w1 fun e w' => e = .panicked [{ v := snt (ads[i]'hi), recovered := false }] ∧ Kp w1 w') :
    Calls Tryz.prog 12 #[.slice a len cap] w fun e w' => e = .returned (.tuple #[.agg #[.int .i64 0, .int .i64 0, .int .i64 0, .int .i64 0, .int .i64 0, .int .i64 0, .int .i64 0, .int .i64 0, .int .i64 0, .int .i64 0, .int .i64 0, .int .i64 0, .int .i64 0, .float .f64 0], snt (ads[i]'hi)]) ∧ Kp w w' := by
  have hmf : ∀ (fn : Fn) (first cap : Array Value) (w : World), (Instr.makeFunc fn first cap).run Tryz.prog w = .ok (.func fn first cap) w := fun _ _ _ _ => rfl
  have hsf := store_fl
  have kb := kp_alloc w (.cells #[.slice a len cap] 29)
  have kb2 := Kp.trans kb (kp_alloc (w.alloc (.cells #[.slice a len cap] 29)) (.cells #[.int .i64 0, .int .i64 0, .int .i64 0, .int .i64 0, .int .i64 0, .int .i64 0, .int .i64 0, .int .i64 0, .int .i64 0, .int .i64 0, .int .i64 0, .int .i64 0, .int .i64 0, .float .f64 0] 26))
  have hc := kp_cell (kp_alloc (w.alloc (.cells #[.slice a len cap] 29)) (.cells #[.int .i64 0, .int .i64 0, .int .i64 0, .int .i64 0, .int .i64 0, .int .i64 0, .int .i64 0, .int .i64 0, .int .i64 0, .int .i64 0, .int .i64 0, .int .i64 0, .int .i64 0, .float .f64 0] 26)) (box_cell w (.slice a len cap) 29)
  have hz := new14_1 w (.cells #[.slice a len cap] 29) (.cells #[.int .i64 0, .int .i64 0, .int .i64 0, .int .i64 0, .int .i64 0, .int .i64 0, .int .i64 0, .int .i64 0, .int .i64 0, .int .i64 0, .int .i64 0, .int .i64 0, .int .i64 0, .float .f64 0] 26)
  have HT := Lib.hid (try_fct_err ads i hi 39 #[.pointer (some ⟨w.heap.size, 0, none⟩)] ((w.alloc (.cells #[.slice a len cap] 29)).alloc (.cells #[.int .i64 0, .int .i64 0, .int .i64 0, .int .i64 0, .int .i64 0, .int .i64 0, .int .i64 0, .int .i64 0, .int .i64 0, .int .i64 0, .int .i64 0, .int .i64 0, .int .i64 0, .float .f64 0] 26)) (V.below kb2) (by intro w; simp [go_sem]) fun w1 hk => H w1 (Kp.trans kb2 hk) (kp_cell hk hc))
  clear H hc kb V
  have KB := Lib.hid kb2
  have HZ := Lib.hid hz
  clear hz kb2
  go_enter Tryz.func12, Tryz.ntmps12
  go_wp2_with (go_at_call 38; (with_reducible refine HT.out.mono ?_); rintro e w5 ⟨rfl, hk⟩; have HK := Lib.hid hk; have HR := Lib.hid (kp_row hk HZ.out); obtain ⟨d0, d1, d2, d3, d4, d5, d6, d7, d8, d9, d10, d11, d12, d13⟩ := cells14 HR.out; have fz := froz14 HR.out; clear hk)
  have hz9 := set14 (.int .i64 0) (.int .i64 0) (.int .i64 0) (.int .i64 0) (.int .i64 0) (.int .i64 0) (.int .i64 0) (.int .i64 0) (.int .i64 0) (.int .i64 0) (.int .i64 0) (.int .i64 0) (.int .i64 0) (.float .f64 0) HR.out
  refine bodyPost_ret (results_row_tmpF (p := 2) (u := 3) rfl _ _ (w.heap.size + 1) 26 _ (0, 0) _ rfl hz9 Tryz.underlying26 rfl (by kernel_rfl)) rfl ?_
  exact ⟨rfl, set14_kp (Kp.trans KB.out HK.out) (by omega) _ _ _ _ _ _ _ _ _ _ _ _ _ _⟩

theorem errI_isF (ads : List Addr) (i : Nat) (hi : i < ads.length) : errI ads ((i : Int) + 1) = snt (ads[i]'hi) := errI_at ads i hi
theorem finG_num : ∀ o : Option (List Int × Option Nat), (finG o).1 = 0 ∨ (finG o).1 = 4
  | none => .inr rfl
  | some (l, o) => by
    by_cases q : o.isSome = decide ((ofF l (o.getD 0)).k = 1) ∧ rightF (ofF l (o.getD 0)) = true
    · left
      have e : finG (some (l, o)) = (0, ofF l (o.getD 0)) := if_pos q
      rw [e]
    · right
      have e : finG (some (l, o)) = (4, noF) := if_neg q
      rw [e]
/-- WHAT Read ANSWERS. -/
theorem fread_any (ads : List Addr) (a : Option Addr) (cap : Nat) (bs : List Int) (len : Nat) (hlen : bs.length = len) (hb : InB bs) (hlc : len ≤ cap) (hl : len ≤ 1000) (w : World) (V : St ads w) (T : Tab w) (hs : SlB (.slice a len cap) bs w) :
    Calls Tryz.prog 12 #[.slice a len cap] w fun e w' => e = .returned (.tuple #[.agg (decG bs).2.cells, errI ads (decG bs).1]) ∧ Kp w w' := by
  have h14 : ads.length = 14 := V.len
  have h1 : 1 < ads.length := by omega
  have h3 : 3 < ads.length := by omega
  by_cases h0 : (splitQ 17 bs 0 0).1 = 0
  · have HR := fun w1 (hk : Kp w w1) hc => fread1_row ads h1 h3 ⟨w.heap.size, 0, none⟩ a cap bs len hlen hb hlc w1 (V.below hk) hc (hs.kp hk) hl (T.kp hk) h0
    by_cases hd : (decG bs).1 = 0
    · rw [hd, errI_nil]
      obtain ⟨m, hm⟩ : ∃ m, (decG bs).2 = m := ⟨_, rfl⟩
      rw [hm] at HR ⊢
      obtain ⟨k, n, s, r, u, p, q, o, d, aa, t, hh, c, x⟩ := m
      exact fread_val a cap len w k n s r u p q o d aa t hh c x fun w1 hk hc => (HR w1 hk hc).mono (by
        rintro e w2 ⟨⟨_, rfl⟩ | ⟨h, _⟩, hk2⟩
        · exact ⟨rfl, hk2⟩
        · rw [h] at hd; cases hd)
    · have hg : decG bs = (4, noF) := by
        have h2 := decG_bad hd
        have h4 : (decG bs).1 = 4 := by
          have h5 : (decG bs).1 = (finG (putG (List.replicate 13 0) none (splitQ 17 bs 0 0).2)).1 := by unfold decG; rw [if_neg (fun q => q h0)]
          rcases finG_num (putG (List.replicate 13 0) none (splitQ 17 bs 0 0).2) with h6 | h6
          · rw [h5] at hd; exact absurd h6 hd
          · rw [h5]; exact h6
        exact Prod.ext h4 h2
      have := fread_err ads a cap len w V 3 h3 fun w1 hk hc => (HR w1 hk hc).mono (by
        rintro e w2 ⟨⟨h, _⟩ | ⟨_, rfl⟩, hk2⟩
        · exact absurd h hd
        · exact ⟨rfl, hk2⟩)
      rw [← errI_isF ads 3 h3] at this
      rw [hg]
      exact this
  · have e : decG bs = ((splitQ 17 bs 0 0).1, noF) := by unfold decG; rw [if_pos h0]
    rw [e]
    rcases splitQ_num 17 bs 0 0 with h | h | h
    · exact absurd h h0
    · have := fread_err ads a cap len w V 1 h1 fun w1 hk hc => fread1_err ads h1 h3 ⟨w.heap.size, 0, none⟩ a cap bs len hlen hb hlc w1 (V.below hk) hc (hs.kp hk) hl 1 h1 h
      rw [← errI_isF ads 1 h1] at this
      dsimp only
      rw [h]
      exact this
    · have := fread_err ads a cap len w V 3 h3 fun w1 hk hc => fread1_err ads h1 h3 ⟨w.heap.size, 0, none⟩ a cap bs len hlen hb hlc w1 (V.below hk) hc (hs.kp hk) hl 3 h3 h
      rw [← errI_isF ads 3 h3] at this
      dsimp only
      rw [h]
      exact this
end Go.Proofs.YtahdoniggipmmaaGreatDoor

namespace Go.Proofs.YtahdoniggipmmaaGreatDoor
open Go.RowKit Go.ChangeShapes Go.WideShapes

set_option maxRecDepth 100000 in
set_option maxHeartbeats 4000000 in
theorem facSame_any (f g : FX) (hf : f.wf) (hg : g.wf) (w : World) : Calls Tryz.prog 19 #[.agg f.cells, .agg g.cells] w fun e w' => e = .returned (.bool (sameF f g)) ∧ Kp w w' := by
  obtain ⟨k, n, s, r, u, p, q, o, d, a, t, hh, c, x⟩ := f
  obtain ⟨k', n', s', r', u', p', q', o', d', a', t', hh', c', x'⟩ := g
  have hx : x < 18446744073709551616 := hf
  have hx' : x' < 18446744073709551616 := hg
  have HSM : Hid (sameF ⟨k, n, s, r, u, p, q, o, d, a, t, hh, c, x⟩ ⟨k', n', s', r', u', p', q', o', d', a', t', hh', c', x'⟩ = ((((Fl.plain x : Nat) : Int) == ((Fl.plain x' : Nat) : Int)) && (decide (FX.nums ⟨k, n, s, r, u, p, q, o, d, a, t, hh, c, 0⟩ = FX.nums ⟨k', n', s', r', u', p', q', o', d', a', t', hh', c', 0⟩) && feqF 0 0))) := Lib.hid (by
    have e : decide (Fl.plain x = Fl.plain x') = (((Fl.plain x : Nat) : Int) == ((Fl.plain x' : Nat) : Int)) := by
      rw [Bool.eq_iff_iff, decide_eq_true_eq, beq_iff_eq]
      omega
    rw [feqF_00, Bool.and_true, ← e, Bool.and_comm]
    rfl)
  dsimp only [FX.cells]
  obtain ⟨w2, hw2⟩ : ∃ y, (w.alloc (.cells #[.int .i64 k, .int .i64 n, .int .i64 s, .int .i64 r, .int .i64 u, .int .i64 p, .int .i64 q, .int .i64 o, .int .i64 d, .int .i64 a, .int .i64 t, .int .i64 hh, .int .i64 c, .float .f64 x] 26)).alloc (.cells #[.int .i64 k', .int .i64 n', .int .i64 s', .int .i64 r', .int .i64 u', .int .i64 p', .int .i64 q', .int .i64 o', .int .i64 d', .int .i64 a', .int .i64 t', .int .i64 hh', .int .i64 c', .float .f64 x'] 26) = y := ⟨_, rfl⟩
  have ra : w2.heap[w.heap.size]? = some (.cells #[.int .i64 k, .int .i64 n, .int .i64 s, .int .i64 r, .int .i64 u, .int .i64 p, .int .i64 q, .int .i64 o, .int .i64 d, .int .i64 a, .int .i64 t, .int .i64 hh, .int .i64 c, .float .f64 x] 26) := by rw [← hw2]; exact new14_0 w _ _
  have rb : w2.heap[w.heap.size + 1]? = some (.cells #[.int .i64 k', .int .i64 n', .int .i64 s', .int .i64 r', .int .i64 u', .int .i64 p', .int .i64 q', .int .i64 o', .int .i64 d', .int .i64 a', .int .i64 t', .int .i64 hh', .int .i64 c', .float .f64 x'] 26) := by rw [← hw2]; exact new14_1 w _ _
  have kw : Kp w w2 := by rw [← hw2]; exact Kp.trans (kp_alloc _ _) (kp_alloc _ _)
  obtain ⟨a0, a1, a2, a3, a4, a5, a6, a7, a8, a9, a10, a11, a12, a13⟩ := cells14 ra
  obtain ⟨b0, b1, b2, b3, b4, b5, b6, b7, b8, b9, b10, b11, b12, b13⟩ := cells14 rb
  have RA := Lib.hid ra
  have RB := Lib.hid rb
  have KW := Lib.hid kw
  have hq := fun w1 => fct_eql ⟨k, n, s, r, u, p, q, o, d, a, t, hh, c, 0⟩ ⟨k', n', s', r', u', p', q', o', d', a', t', hh', c', 0⟩ w1
  have hgd := fun (op : BinOp) (xx yy : Operand) w1 => fct_guard op xx yy ⟨k, n, s, r, u, p, q, o, d, a, t, hh, c, 0⟩ ⟨k', n', s', r', u', p', q', o', d', a', t', hh', c', 0⟩ w1
  dsimp only [FX.cells] at hq hgd
  obtain ⟨ve, hve⟩ : ∃ z, (decide (FX.nums ⟨k, n, s, r, u, p, q, o, d, a, t, hh, c, 0⟩ = FX.nums ⟨k', n', s', r', u', p', q', o', d', a', t', hh', c', 0⟩) && feqF 0 0) = z := ⟨_, rfl⟩
  rw [hve] at HSM hq
  have hsf := store_fl
  clear hf hg hve ra rb kw
  go_enter Tryz.func19, Tryz.ntmps19
  go_wp2
  try rw [hw2]
  clear hw2
  refine wp_region_held_drew (S := fun w' => Kp w2 w') (by kernel_rfl) ?_ (fun hHeld => ?_)
  · exact (Kp.refl w2).drew
  refine wpAnyH_take (i := 0) (v := ?_) rfl (by kernel_rfl) (by kernel_rfl) (by kernel_rfl) (fun _ _ _ h => h) (Or.inl ⟨by rfl, ?_⟩) (by assumption) ?_
  rotate_left
  · intro w hSw; go_simp; try with_reducible rfl
  go_simp
  refine wpAnyH_take (i := 1) (v := ?_) rfl (by kernel_rfl) (by kernel_rfl) (by kernel_rfl) (fun _ _ _ h => h) (Or.inl ⟨by rfl, ?_⟩) (by assumption) ?_
  rotate_left
  · intro w hSw; have q := kp_cell hSw a13; go_simp; try with_reducible rfl
  go_simp
  refine wpAnyH_take (i := 3) (v := ?_) rfl (by kernel_rfl) (by kernel_rfl) (by kernel_rfl) (fun _ _ _ h => h) (Or.inl ⟨by rfl, ?_⟩) (by assumption) ?_
  rotate_left
  · intro w hSw; go_simp; try with_reducible rfl
  go_simp
  refine wpAnyH_take (i := 4) (v := ?_) rfl (by kernel_rfl) (by kernel_rfl) (by kernel_rfl) (fun _ _ _ h => h) (Or.inl ⟨by rfl, ?_⟩) (by assumption) ?_
  rotate_left
  · intro w hSw; have q := kp_cell hSw b13; go_simp; try with_reducible rfl
  go_simp
  refine wpAnyH_ready (rs := [2]) (by kernel_rfl) (by simp) ?_
  refine AllReadyH.cons rfl (fun K hK => ?_) AllReadyH.nil
  go_simp
  go_wp2_with (go_at_call 55; (with_reducible refine (sbits_any x _ hx).mono ?_); rintro e w' ⟨rfl, rfl⟩)
  refine hK.out _ _ ?_ (fun hHeld => ?_)
  · exact hHeld
  clear hK K
  refine wpAnyH_ready (rs := [5]) (by kernel_rfl) (by simp) ?_
  refine AllReadyH.cons rfl (fun K hK => ?_) AllReadyH.nil
  go_simp
  go_wp2_with (go_at_call 55; (with_reducible refine (sbits_any x' _ hx').mono ?_); rintro e w' ⟨rfl, rfl⟩)
  refine hK.out _ _ ?_ (fun hHeld => ?_)
  · exact hHeld
  clear hK K
  refine wpAnyH_take (i := 6) (v := ?_) rfl (by kernel_rfl) (by kernel_rfl) (by kernel_rfl) (fun _ _ _ h => h) (Or.inl ⟨by rfl, ?_⟩) (by assumption) ?_
  rotate_left
  · intro w hSw; go_simp; try with_reducible rfl
  go_simp
  refine wpAnyH_take (i := 7) (v := ?_) rfl (by kernel_rfl) (by kernel_rfl) (by kernel_rfl) (fun _ _ _ h => h) (Or.inl ⟨by rfl, ?_⟩) (by assumption) ?_
  rotate_left
  · intro w hSw; go_simp; try with_reducible rfl
  go_simp
  refine wpAnyH_done (by kernel_rfl) ?_ _
  obtain ⟨w4, hw4⟩ : ∃ y, w2.drew = y := ⟨_, rfl⟩
  have k24 : Kp w2 w4 := by rw [← hw4]; exact (Kp.refl w2).drew
  rw [hw4]
  obtain ⟨vp, hvp⟩ : ∃ z, (((Fl.plain x : Nat) : Int) == ((Fl.plain x' : Nat) : Int)) = z := ⟨_, rfl⟩
  rw [hvp] at HSM ⊢
  obtain ⟨Ba, hBa⟩ : ∃ y, w.heap.size = y := ⟨_, rfl⟩
  obtain ⟨Bb, hBb⟩ : ∃ y, w.heap.size + 1 = y := ⟨_, rfl⟩
  have ra := RA.out
  have rb := RB.out
  rw [hBa] at ra
  rw [hBb] at rb
  rw [hBb, hBa]
  have hne : Ba ≠ Bb := by omega
  have hne' : Bb ≠ Ba := by omega
  have ra4 := kp_row k24 ra
  have rb4 := kp_row k24 rb
  have ga : (w4.setCell ⟨Ba, 13, none⟩ (.float .f64 0)).heap[Ba]? = some (.cells #[.int .i64 k, .int .i64 n, .int .i64 s, .int .i64 r, .int .i64 u, .int .i64 p, .int .i64 q, .int .i64 o, .int .i64 d, .int .i64 a, .int .i64 t, .int .i64 hh, .int .i64 c, .float .f64 0] 26 (0, 0)) := (Joins.block_setCell ra4 _).trans rfl
  have gb : (w4.setCell ⟨Ba, 13, none⟩ (.float .f64 0)).heap[Bb]? = some (.cells #[.int .i64 k', .int .i64 n', .int .i64 s', .int .i64 r', .int .i64 u', .int .i64 p', .int .i64 q', .int .i64 o', .int .i64 d', .int .i64 a', .int .i64 t', .int .i64 hh', .int .i64 c', .float .f64 x'] 26 (0, 0)) := by rw [Below.heap_setCell _ _ _ _ hne']; exact rb4
  have gb2 : ((w4.setCell ⟨Ba, 13, none⟩ (.float .f64 0)).setCell ⟨Bb, 13, none⟩ (.float .f64 0)).heap[Bb]? = some (.cells #[.int .i64 k', .int .i64 n', .int .i64 s', .int .i64 r', .int .i64 u', .int .i64 p', .int .i64 q', .int .i64 o', .int .i64 d', .int .i64 a', .int .i64 t', .int .i64 hh', .int .i64 c', .float .f64 0] 26 (0, 0)) := (Joins.block_setCell gb _).trans rfl
  have ga2 : ((w4.setCell ⟨Ba, 13, none⟩ (.float .f64 0)).setCell ⟨Bb, 13, none⟩ (.float .f64 0)).heap[Ba]? = some (.cells #[.int .i64 k, .int .i64 n, .int .i64 s, .int .i64 r, .int .i64 u, .int .i64 p, .int .i64 q, .int .i64 o, .int .i64 d, .int .i64 a, .int .i64 t, .int .i64 hh, .int .i64 c, .float .f64 0] 26 (0, 0)) := by rw [Below.heap_setCell _ _ _ _ hne]; exact ga
  obtain ⟨c0, c1, c2, c3, c4, c5, c6, c7, c8, c9, c10, c11, c12, c13⟩ := cells14 ra4
  have fa := froz14 ra4
  have y13 := (cells14 gb).2.2.2.2.2.2.2.2.2.2.2.2.2
  have fb := froz14 gb
  obtain ⟨d0, d1, d2, d3, d4, d5, d6, d7, d8, d9, d10, d11, d12, d13⟩ := cells14 ga2
  obtain ⟨e0, e1, e2, e3, e4, e5, e6, e7, e8, e9, e10, e11, e12, e13⟩ := cells14 gb2
  have l1 : w.heap.size ≤ Ba := by omega
  have l2 : w.heap.size ≤ Bb := by omega
  have KE := Lib.hid (show Kp w ((w4.setCell ⟨Ba, 13, none⟩ (.float .f64 0)).setCell ⟨Bb, 13, none⟩ (.float .f64 0)) from Below.setCell (Below.setCell (Kp.trans KW.out k24) l1 _) l2 _)
  clear ga gb ga2 gb2 ra4 rb4 ra rb hw4 k24 hvp hBa hBb hHeld a0 a1 a2 a3 a4 a5 a6 a7 a8 a9 a10 a11 a12 a13 b0 b1 b2 b3 b4 b5 b6 b7 b8 b9 b10 b11 b12 b13
  cases vp with
  | false =>
    go_wp2
    go_ret
    exact ⟨by rw [HSM.out]; rfl, KE.out⟩
  | true =>
    go_wp2
    go_ret
    exact ⟨by rw [HSM.out]; rfl, KE.out⟩
end Go.Proofs.YtahdoniggipmmaaGreatDoor

namespace Go.Proofs.YtahdoniggipmmaaGreatDoor
open Go.RowKit Go.ChangeShapes Go.WideShapes

structure FacC (ads : List Addr) (w : World) : Prop where
  right : ∀ w1, Kp w w1 → ∀ f : FX, f.wf → Calls Tryz.prog 9 #[.agg f.cells] w1 fun e w' => e = .returned (.bool (rightF f)) ∧ Kp w1 w'
  encOk : ∀ w1, Kp w w1 → ∀ f : FX, rightF f = true → Calls Tryz.prog 8 #[.agg f.cells] w1 fun e w' => ∃ (a : Option Addr) (p : Nat), e = .returned (.tuple #[.slice a (encF f).length p, .nilIface]) ∧ (encF f).length ≤ p ∧ w'.ownsRow w1.heap.size 5 1 (.slice a (encF f).length p) (encF f).length ((encF f).map (Value.int .u8)) ∧ Kp w1 w'
  encBad : ∀ w1, Kp w w1 → ∀ f : FX, f.wf → rightF f = false → Calls Tryz.prog 8 #[.agg f.cells] w1 fun e w' => e = .returned (.tuple #[.slice none 0 0, errI ads 4]) ∧ Kp w1 w'
  dec : ∀ w1, Kp w w1 → ∀ (a : Option Addr) (p : Nat) (bs : List Int) (n : Nat), bs.length = n → n ≤ 1000 → InB bs → n ≤ p → SlB (.slice a n p) bs w1 → Calls Tryz.prog 12 #[.slice a n p] w1 fun e w' => e = .returned (.tuple #[.agg (decG bs).2.cells, errI ads (decG bs).1]) ∧ Kp w1 w'
  same : ∀ w1, Kp w w1 → ∀ f g : FX, f.wf → g.wf → Calls Tryz.prog 19 #[.agg f.cells, .agg g.cells] w1 fun e w' => e = .returned (.bool (sameF f g)) ∧ Kp w1 w'
theorem FacC.kp {ads : List Addr} {w w' : World} (C : FacC ads w) (hk : Kp w w') : FacC ads w' where
  right := fun w1 h => C.right w1 (Kp.trans hk h)
  encOk := fun w1 h => C.encOk w1 (Kp.trans hk h)
  encBad := fun w1 h => C.encBad w1 (Kp.trans hk h)
  dec := fun w1 h => C.dec w1 (Kp.trans hk h)
  same := fun w1 h => C.same w1 (Kp.trans hk h)
theorem errI_some14 (ads : List Addr) (k : Int) (h : k ≠ 0) : ∃ q, errI ads k = .iface 166 (.pointer q) := ⟨_, if_neg h⟩
theorem same_refl14 (c : FX) : sameF c c = true := by unfold sameF; simp
theorem decG_rng (bs : List Int) : 0 ≤ (decG bs).1 ∧ (decG bs).1 ≤ 14 := by
  rcases decG_num bs with h | h | h <;> rw [h] <;> exact ⟨by decide, by decide⟩
def liveF : FX := ⟨5, 0, 0, 0, 0, 0, 0, 0, 0, 0, 0, 0, 0, 0⟩
theorem live_right14 : rightF liveF = true := by decide
theorem live_enc14 : strOfNums (encF liveF) = ⟨#[1, 0, 1, 5]⟩ := by decide
/-- the law's alive -/
theorem alive14_any (ads : List Addr) (w : World) (C : FacC ads w) : Calls Tryz.prog 7 #[] w fun e w' => e = .returned (.bool true) ∧ Kp w w' := by
  have HE := fun w1 (hk : Kp w w1) => C.encOk w1 hk liveF live_right14
  have e1 := live_enc14
  obtain ⟨eb, heb⟩ : ∃ x, encF liveF = x := ⟨_, rfl⟩
  rw [heb] at HE e1
  obtain ⟨n, hn⟩ : ∃ x, eb.length = x := ⟨_, rfl⟩
  rw [hn] at HE
  dsimp only [liveF, FX.cells] at HE
  have E1 := Lib.hid e1
  have HN := Lib.hid hn
  have HE := Lib.hid (HE w (Kp.refl w))
  clear C e1 heb hn
  go_enter Tryz.func7, Tryz.ntmps7
  go_wp2_with (go_at_call 8; (with_reducible refine HE.out.mono ?_); rintro e w1 ⟨a1, p1, rfl, -, ho, hk⟩; have K1 := Lib.hid hk; have cv := conv_slb (own_slb ho); rw [E1.out] at cv; clear hk ho)
  go_ret
  exact ⟨by first | rfl | simp, K1.out⟩
end Go.Proofs.YtahdoniggipmmaaGreatDoor

namespace Go.Proofs.YtahdoniggipmmaaGreatDoor
open Go.RowKit Go.ChangeShapes Go.WideShapes

theorem facC_of (ads : List Addr) (W : World) (V : St ads W) (T : Tab W) : FacC ads W where
  right := fun w1 hk f hf => facRight_any ads f hf w1 (V.below hk) (T.kp hk)
  encOk := fun w1 hk c h => (fbytes_ok ads c w1 (V.below hk) (T.kp hk) h).mono (by
    rintro e w' ⟨v, rfl, ho, hk2⟩
    obtain ⟨a, p, rfl, hp⟩ := enc_len ho
    exact ⟨a, p, rfl, hp, ho, hk2⟩)
  encBad := fun w1 hk c hc h => by
    have h3 : 3 < ads.length := by rw [V.len]; decide
    have := fbytes_bad ads h3 c hc w1 (V.below hk) (T.kp hk) h
    rw [← errI_at ads 3 h3] at this
    exact this
  dec := fun w1 hk a p bs n hn hl hb hp hs => fread_any ads a p bs n hn hb hp hl w1 (V.below hk) (T.kp hk) hs
  same := fun w1 hk f g hf hg => facSame_any f g hf hg w1
end Go.Proofs.YtahdoniggipmmaaGreatDoor

