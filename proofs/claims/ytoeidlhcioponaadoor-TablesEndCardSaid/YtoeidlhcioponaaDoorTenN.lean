/-
  TablesEnd's FUNCTION next (own work): where a state leads.
-/
import Derived.Test.YtoeidlhcioponaaDoorTliV
import Derived.Test.YtoeidlhcioponaaDoorTabE
import Derived.Test.YtoeidlhcioponaaDoorRefL
namespace Go.Proofs.YtoeidlhcioponaaDoor
open Go.RowKit Go.ChangeShapes Go.WideShapes

theorem fm_next {f : Int → Option Int} {l : List Int} {j : Nat} (h : j < l.length) : (l.take (j + 1)).filterMap f = (l.take j).filterMap f ++ (match f l[j] with | none => [] | some n => [n]) := by
  rw [List.take_add_one, List.getElem?_eq_getElem h, List.filterMap_append]
  congr 1
  simp only [Option.toList_some, List.filterMap_cons, List.filterMap_nil]
  cases f l[j] <;> rfl
theorem fm_len {f : Int → Option Int} {l : List Int} {j : Nat} (h : l.length ≤ 14) : ((l.take j).filterMap f).length ≤ 14 :=
  Nat.le_trans (List.length_filterMap_le _ _) (Nat.le_trans (List.length_take_le' _ _) h)
theorem allT_i64 {x : Int} (h : x ∈ allT) : i64T x := by
  unfold allT at h
  unfold i64T
  simp only [List.mem_cons, List.not_mem_nil, or_false] at h
  omega
theorem mem_allT {f : Int → Bool} {x : Int} (h : x ∈ allT.filter f) : x ∈ allT := (List.mem_filter.1 h).1
set_option maxRecDepth 100000 in
set_option maxHeartbeats 4000000 in
theorem next_any (ads : List Addr) (p e x : Int) (hp : i64T p) (he : i64T e) (hx : i64T x) (hr : rightT p e = true) (w : World) (C : TabC ads w) (TS : TabS ads w) (bT bP bS : Nat) (aT aS : Option Addr) (cT cS : Nat) (hT : w.cell? ⟨bT, 0, none⟩ = some (.slice aT (takesL p e).length cT)) (sT : SlI (.slice aT (takesL p e).length cT) (takesL p e) w) (hP : w.heap[bP]? = some (.cells #[.int .i64 p, .int .i64 e] 23)) (hS : w.cell? ⟨bS, 0, none⟩ = some (.slice aS (sendsL p e).length cS)) (sS : SlI (.slice aS (sendsL p e).length cS) (sendsL p e) w) :
    Calls Tryd.prog 26 #[.int .i64 x, .pointer (some ⟨bT, 0, none⟩), .pointer (some ⟨bP, 0, none⟩), .pointer (some ⟨bS, 0, none⟩)] w fun e' w' => ∃ v, e' = .returned v ∧ w'.ownsRow w.heap.size 3 1 v (nextT p e x).length ((nextT p e x).map (Value.int .i64)) ∧ Kp w w' := by
  obtain ⟨l1, l2, l3⟩ := lists_len (p, e) (rightT_mem hr)
  dsimp only at l1 l2 l3
  have mT : ∀ k ∈ takesL p e, i64T k := fun k hk => allT_i64 (mem_allT hk)
  have mS : ∀ k ∈ sendsL p e, i64T k := fun k hk => allT_i64 (mem_allT hk)
  unfold nextT
  obtain ⟨LT, hLT⟩ : ∃ y, takesL p e = y := ⟨_, rfl⟩
  obtain ⟨LS, hLS⟩ : ∃ y, sendsL p e = y := ⟨_, rfl⟩
  rw [hLT] at hT sT l2 mT ⊢
  rw [hLS] at hS sS l3 mS ⊢
  obtain ⟨nT, hnT⟩ : ∃ y, LT.length = y := ⟨_, rfl⟩
  obtain ⟨nS, hnS⟩ : ∃ y, LS.length = y := ⟨_, rfl⟩
  rw [hnT] at hT sT
  rw [hnS] at hS sS
  have HLK := Lib.hid (fun (k : Int) (hk0 : i64T k) w1 (hk : Kp w w1) => C.look w1 hk p e k x hp he hk0 hx)
  have HSP := Lib.hid (fun (k : Int) (hk0 : i64T k) w1 (hk : Kp w w1) => TS.step w1 hk p e k x hp he hk0 hx)
  have HNT := Lib.hid hnT
  have HNS := Lib.hid hnS
  have HMT := Lib.hid mT
  have HMS := Lib.hid mS
  have HLT := Lib.hid l2
  have HLS := Lib.hid l3
  have STT := Lib.hid sT
  have STS := Lib.hid sS
  have BP := Lib.hid hP
  have CT := Lib.hid hT
  have CS := Lib.hid hS
  have KE := Lib.hid (kp_alloc w (.cells #[] 3))
  have OE := Lib.hid (own_emptyI w 3)
  have ctT := kp_cell KE.out hT
  clear C TS hp he hx hr l1 l2 l3 mT mS hLT hLS hnT hnS sT sS hP hT hS
  go_enter Tryd.func26, Tryd.ntmps26
  go_wp2
  go_loopw [6, 18] (fun v i wr => ∃ j : Nat, j ≤ nT ∧ i = .int .i64 j ∧ Kp w wr ∧ wr.ownsRow w.heap.size 3 1 v ((LT.take j).filterMap (lookN p e x)).length (((LT.take j).filterMap (lookN p e x)).map (Value.int .i64))) (fun _ i _ => nT - (intOf i).toNat)
  case atStart => exact ⟨0, Nat.zero_le _, rfl, KE.out, OE.out⟩
  case round =>
    obtain ⟨j, hj, rfl, hk, hown⟩ := hrel
    obtain ⟨jj, hjj⟩ : ∃ jj : Int, (j : Int) = jj := ⟨_, rfl⟩
    rw [hjj]
    have K0 := Lib.hid hk
    have hln := HNT.out
    have pb := kp_row hk BP.out
    obtain ⟨s00, s01⟩ := sides2 pb
    by_cases hlt : j < nT
    · have hjl : j < LT.length := by omega
      obtain ⟨b, off, hab, ct⟩ := (STT.out.kp hk).at j hjl
      have hg : LT.getD j 0 = LT[j] := by simp [List.getD, hjl]
      rw [hg] at ct
      have F1 := fm_next (f := lookN p e x) hjl
      have hm := HMT.out LT[j] (List.getElem_mem hjl)
      have hle := fm_len (f := lookN p e x) (l := LT) (j := j) HLT.out
      obtain ⟨k, hkk⟩ : ∃ k, LT[j] = k := ⟨_, rfl⟩
      rw [hkk] at ct F1 hm
      have ej : jj.toNat = j := by omega
      rw [← ej] at ct
      have j0 : 0 ≤ jj := by omega
      have hltj : jj < nT := by omega
      have j14 : jj ≤ 14 := by have := HLT.out; omega
      obtain ⟨X0, hX0⟩ : ∃ y, (LT.take j).filterMap (lookN p e x) = y := ⟨_, rfl⟩
      rw [hX0] at hown
      have hX1 : (LT.take (j + 1)).filterMap (lookN p e x) = X0 ++ (match lookN p e x k with | none => [] | some n => [n]) := by rw [F1, ← hX0]
      have hXl : X0.length ≤ 28 := by
        rw [← hX0]
        omega
      have HX1 := Lib.hid hX1
      have HXL := Lib.hid hXl
      have OW := Lib.hid hown
      have J := Lib.hid (And.intro hj (And.intro hlt hjj))
      have HC := fun w1 (hk : Kp w w1) => HLK.out k hm w1 hk
      obtain ⟨⟨n0, c0, c1, c2⟩, hc⟩ : ∃ y, lookT p e k x = y := ⟨_, rfl⟩
      have hfn : lookN p e x k = if n0 = 0 ∧ c0 = 1 then some c1 else none := by unfold lookN; rw [hc]
      rw [hc] at HC
      dsimp only [cellV] at HC
      have HC := Lib.hid HC
      subst hab
      clear hg F1 hm hle hkk hX0 hX1 hXl hjl hln hlt ej hjj hk hown hc pb hj
      by_cases e0 : n0 = 0
      · subst e0
        by_cases e1 : c0 = 1
        · subst e1
          rw [if_pos ⟨rfl, rfl⟩] at hfn
          have HFN := Lib.hid hfn
          clear hfn
          have HC2 := HC.out
          rw [errI_nil] at HC2
          replace HC := Lib.hid HC2
          clear HC2
          go_wp2_with (first
            | (go_at_call 11; (with_reducible refine (HC.out _ K0.out).mono ?_); rintro e' w2 ⟨rfl, hk⟩; have K2 := Lib.hid (Kp.trans K0.out (Kp.trans hk (kp_alloc w2 (.cells #[.int .i64 1, .int .i64 c1, .int .i64 c2] 26)))); have B2 := (MapKept.heap_alloc w2 (.cells #[.int .i64 1, .int .i64 c1, .int .i64 c2] 26)).1; have O2 := Lib.hid (own_kp OW.out (Kp.trans hk (kp_alloc w2 (.cells #[.int .i64 1, .int .i64 c1, .int .i64 c2] 26)))); obtain ⟨z0, z1, z2⟩ := cells3 B2; clear hk B2)
            | (at_builtin; refine wpList_append_int _ rfl (.tmp 39) (.tmp 42) rfl w.heap.size _ _ _ rfl (own_kp O2.out (kp_alloc _ (.cells #[.int .i64 c1] 3))) ⟨w2.heap.size + 1, 0, none⟩ c1 rfl ?c1 ?c2 ?c3 ?_))
          case c1 =>
            rw [add_plain]
            have hb := box_cell (w2.alloc (.cells #[.int .i64 1, .int .i64 c1, .int .i64 c2] 26)) (.int .i64 c1) 3
            rw [show (w2.alloc (.cells #[.int .i64 1, .int .i64 c1, .int .i64 c2] 26)).heap.size = w2.heap.size + 1 by simp] at hb
            exact hb
          case c2 => have := HXL.out; omega
          case c3 => exact Below.size (Kp.trans K2.out (kp_alloc _ _))
          rintro v3 w3 ho hgr -
          have K3 := Lib.hid (grown_kpI (own_kp O2.out (kp_alloc _ (.cells #[.int .i64 c1] 3))) hgr (Kp.trans K2.out (kp_alloc _ _)) (Nat.le_refl _))
          have O3 : Hid (w3.ownsRow w.heap.size 3 1 v3 (X0 ++ [c1]).length ((X0 ++ [c1]).map (Value.int .i64))) := Lib.hid (by rw [List.length_append, List.map_append]; exact ho)
          clear ho hgr
          go_wp2
          have hlt := J.out.2.1
          have hjj := J.out.2.2
          go_roundw
          case rel => exact ⟨j + 1, by omega, by congr 1; omega, K3.out, by rw [HX1.out, HFN.out]; exact O3.out⟩
          case measure => simp [intOf]; omega
        · rw [if_neg (fun q => e1 q.2)] at hfn
          have HFN := Lib.hid hfn
          have eb : (c0 == 1) = false := by simpa using e1
          clear hfn e1
          have HC2 := HC.out
          rw [errI_nil] at HC2
          replace HC := Lib.hid HC2
          clear HC2
          go_wp2_with (go_at_call 11; (with_reducible refine (HC.out _ K0.out).mono ?_); rintro e' w2 ⟨rfl, hk⟩; have K2 := Lib.hid (Kp.trans K0.out (Kp.trans hk (kp_alloc w2 (.cells #[.int .i64 c0, .int .i64 c1, .int .i64 c2] 26)))); have B2 := (MapKept.heap_alloc w2 (.cells #[.int .i64 c0, .int .i64 c1, .int .i64 c2] 26)).1; have O2 := Lib.hid (own_kp OW.out (Kp.trans hk (kp_alloc w2 (.cells #[.int .i64 c0, .int .i64 c1, .int .i64 c2] 26)))); obtain ⟨z0, z1, z2⟩ := cells3 B2; clear hk B2)
          have hlt := J.out.2.1
          have hjj := J.out.2.2
          go_roundw
          case rel => exact ⟨j + 1, by omega, by congr 1; omega, K2.out, by rw [HX1.out, HFN.out, List.append_nil]; exact O2.out⟩
          case measure => simp [intOf]; omega
      · rw [if_neg (fun q => e0 q.1)] at hfn
        have HFN := Lib.hid hfn
        obtain ⟨q, hq⟩ := errI_iface ads n0 e0
        have HC2 := HC.out
        rw [hq] at HC2
        replace HC := Lib.hid HC2
        clear HC2 hq hfn e0
        go_wp2_with (go_at_call 11; (with_reducible refine (HC.out _ K0.out).mono ?_); rintro e' w2 ⟨rfl, hk⟩; have K2 := Lib.hid (Kp.trans K0.out (Kp.trans hk (kp_alloc w2 (.cells #[.int .i64 c0, .int .i64 c1, .int .i64 c2] 26)))); have B2 := (MapKept.heap_alloc w2 (.cells #[.int .i64 c0, .int .i64 c1, .int .i64 c2] 26)).1; have O2 := Lib.hid (own_kp OW.out (Kp.trans hk (kp_alloc w2 (.cells #[.int .i64 c0, .int .i64 c1, .int .i64 c2] 26)))); obtain ⟨z0, z1, z2⟩ := cells3 B2; clear hk B2)
        have hlt := J.out.2.1
        have hjj := J.out.2.2
        go_roundw
        case rel => exact ⟨j + 1, by omega, by congr 1; omega, K2.out, by rw [HX1.out, HFN.out, List.append_nil]; exact O2.out⟩
        case measure => simp [intOf]; omega
    · obtain rfl : j = nT := by omega
      rw [List.take_of_length_le (by omega)] at hown
      have hle := fm_len (f := lookN p e x) (l := LT) (j := j) HLT.out
      rw [List.take_of_length_le (by omega)] at hle
      obtain ⟨AC, hAC⟩ : ∃ y, LT.filterMap (lookN p e x) = y := ⟨_, rfl⟩
      rw [hAC] at hown hle
      have HAC := Lib.hid hle
      have HACE := Lib.hid hAC
      have OA := Lib.hid hown
      have ctS := kp_cell hk CS.out
      have hex : ¬ jj < j := by omega
      clear hown hle hAC hln hlt hk pb hj
      go_wp2
      go_loopw [6, 47] (fun v i wr => ∃ j : Nat, j ≤ nS ∧ i = .int .i64 j ∧ Kp w wr ∧ wr.ownsRow w.heap.size 3 1 v (AC ++ (LS.take j).filterMap (stepN p e x)).length ((AC ++ (LS.take j).filterMap (stepN p e x)).map (Value.int .i64))) (fun _ i _ => nS - (intOf i).toNat)
      case atStart => exact ⟨0, Nat.zero_le _, rfl, K0.out, by rw [List.take_zero, List.filterMap_nil, List.append_nil]; exact OA.out⟩
      case round =>
        clear hex hjj K0 OA s00 s01 ctS
        obtain ⟨j, hj, rfl, hk, hown⟩ := hrel
        obtain ⟨jj, hjj⟩ : ∃ jj : Int, (j : Int) = jj := ⟨_, rfl⟩
        rw [hjj]
        have K0 := Lib.hid hk
        have hln := HNS.out
        have pb := kp_row hk BP.out
        obtain ⟨s00, s01⟩ := sides2 pb
        by_cases hlt : j < nS
        · have hjl : j < LS.length := by omega
          obtain ⟨b, off, hab, ct⟩ := (STS.out.kp hk).at j hjl
          have hg : LS.getD j 0 = LS[j] := by simp [List.getD, hjl]
          rw [hg] at ct
          have F1 := fm_next (f := stepN p e x) hjl
          have hm := HMS.out LS[j] (List.getElem_mem hjl)
          have hle := fm_len (f := stepN p e x) (l := LS) (j := j) HLS.out
          obtain ⟨k, hkk⟩ : ∃ k, LS[j] = k := ⟨_, rfl⟩
          rw [hkk] at ct F1 hm
          have ej : jj.toNat = j := by omega
          rw [← ej] at ct
          have j0 : 0 ≤ jj := by omega
          have hltj : jj < nS := by omega
          have j14 : jj ≤ 14 := by have := HLS.out; omega
          obtain ⟨X0, hX0⟩ : ∃ y, AC ++ (LS.take j).filterMap (stepN p e x) = y := ⟨_, rfl⟩
          rw [hX0] at hown
          have hX1 : AC ++ (LS.take (j + 1)).filterMap (stepN p e x) = X0 ++ (match stepN p e x k with | none => [] | some n => [n]) := by rw [F1, ← hX0, List.append_assoc]
          have hXl : X0.length ≤ 28 := by
            rw [← hX0]
            rw [List.length_append]; have := HAC.out; omega
          have HX1 := Lib.hid hX1
          have HXL := Lib.hid hXl
          have OW := Lib.hid hown
          have J := Lib.hid (And.intro hj (And.intro hlt hjj))
          have HC := fun w1 (hk : Kp w w1) => HSP.out k hm w1 hk
          obtain ⟨⟨n0, c0⟩, hc⟩ : ∃ y, stepT p e k x = y := ⟨_, rfl⟩
          have hfn : stepN p e x k = if n0 = 0 then some c0 else none := by unfold stepN; rw [hc]
          rw [hc] at HC
          dsimp only at HC
          have HC := Lib.hid HC
          subst hab
          clear hg F1 hm hle hkk hX0 hX1 hXl hjl hln hlt ej hjj hk hown hc pb hj
          by_cases e0 : n0 = 0
          · subst e0
            rw [if_pos rfl] at hfn
            have HFN := Lib.hid hfn
            clear hfn
            have HC2 := HC.out
            rw [errI_nil] at HC2
            replace HC := Lib.hid HC2
            clear HC2
            go_wp2_with (first
              | (go_at_call 14; (with_reducible refine (HC.out _ K0.out).mono ?_); rintro e' w2 ⟨rfl, hk⟩; have K2 := Lib.hid (Kp.trans K0.out hk); have O2 := Lib.hid (own_kp OW.out hk); clear hk)
              | (at_builtin; refine wpList_append_int _ rfl (.tmp 63) (.tmp 65) rfl w.heap.size _ _ _ rfl (own_kp O2.out (kp_alloc _ (.cells #[.int .i64 c0] 3))) ⟨w2.heap.size, 0, none⟩ c0 rfl ?c1 ?c2 ?c3 ?_))
            case c1 => rw [add_plain]; exact box_cell _ _ _
            case c2 => have := HXL.out; omega
            case c3 => exact Below.size (Kp.trans K2.out (kp_alloc _ _))
            rintro v3 w3 ho hgr -
            have K3 := Lib.hid (grown_kpI (own_kp O2.out (kp_alloc _ (.cells #[.int .i64 c0] 3))) hgr (Kp.trans K2.out (kp_alloc _ _)) (Nat.le_refl _))
            have O3 : Hid (w3.ownsRow w.heap.size 3 1 v3 (X0 ++ [c0]).length ((X0 ++ [c0]).map (Value.int .i64))) := Lib.hid (by rw [List.length_append, List.map_append]; exact ho)
            clear ho hgr
            go_wp2
            have hlt := J.out.2.1
            have hjj := J.out.2.2
            go_roundw
            case rel => exact ⟨j + 1, by omega, by congr 1; omega, K3.out, by rw [HX1.out, HFN.out]; exact O3.out⟩
            case measure => simp [intOf]; omega
          · rw [if_neg e0] at hfn
            have HFN := Lib.hid hfn
            obtain ⟨q, hq⟩ := errI_iface ads n0 e0
            have HC2 := HC.out
            rw [hq] at HC2
            replace HC := Lib.hid HC2
            clear HC2 hq hfn e0
            go_wp2_with (go_at_call 14; (with_reducible refine (HC.out _ K0.out).mono ?_); rintro e' w2 ⟨rfl, hk⟩; have K2 := Lib.hid (Kp.trans K0.out hk); have O2 := Lib.hid (own_kp OW.out hk); clear hk)
            have hlt := J.out.2.1
            have hjj := J.out.2.2
            go_roundw
            case rel => exact ⟨j + 1, by omega, by congr 1; omega, K2.out, by rw [HX1.out, HFN.out, List.append_nil]; exact O2.out⟩
            case measure => simp [intOf]; omega
        · obtain rfl : j = nS := by omega
          rw [List.take_of_length_le (by omega)] at hown
          have OF := Lib.hid hown
          have hex : ¬ jj < j := by omega
          clear hown hln hlt hk pb hj
          go_wp2
          go_ret
          have of := OF.out
          rw [List.length_append, List.map_append] at of
          exact ⟨_, rfl, by rw [HACE.out]; first | exact OF.out | exact of | (rw [List.length_append, List.map_append]; exact of), K0.out⟩
end Go.Proofs.YtoeidlhcioponaaDoor
