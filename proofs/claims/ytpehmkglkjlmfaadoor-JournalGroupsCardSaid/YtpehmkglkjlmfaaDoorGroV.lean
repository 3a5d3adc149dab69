/-
  JournalGroups (own work): rows that are put one by one, or all at once.
-/
import Derived.Test.YtpehmkglkjlmfaaDoorJouW
import Derived.Test.YtpehmkglkjlmfaaDoorSamL
import Derived.Deep.RegionHeld3
namespace Go.Proofs.YtpehmkglkjlmfaaDoor
open Go.RowKit Go.ChangeShapes Go.WideShapes

variable {ads : List Addr} {R : Nat → TM → (Nat → Prop) → World → Prop} {J : Nat → Nat → JM → (Nat → Prop) → World → Prop} {W w w' : World} {q g q2 g2 : Nat} {j j' j2 : JM} {m m' m2 : TM} {OJ OJ' O O' OJ2 O2 P P' : Nat → Prop}

set_option maxRecDepth 20000 in
set_option maxHeartbeats 4000000 in
theorem groups_long (T : TapC ads W R) (C : JouC ads W R J) (v : Value) (rs : List (List Int)) (hs : SlBB v rs W) (hL : ¬ LgR rs) :
    Calls Tryd.prog 7 #[v] W fun e w' => e = .returned (.bool true) ∧ Kp W w' := by
  obtain ⟨a, cp, rfl⟩ := hs.form
  obtain ⟨n, hn⟩ : ∃ n, rs.length = n := ⟨_, rfl⟩
  rw [hn] at hs ⊢
  have HAL := Lib.hid (alive7 T C)
  have HLO := Lib.hid (fun w1 (hk : Kp W w1) => long7_any _ _ _ (slj_one (t := 44) (fr := (0, 0)) (hs.kp hk) hn))
  have HNL := Lib.hid (fun (h : Lg7 [(0, 0, rs)]) => hL (lg_one h))
  clear T C hs hL hn
  go_enter Tryd.func7, Tryd.ntmps7
  go_wp2_with (first
    | (go_at_call 8; (with_reducible refine HAL.out.mono ?_); rintro e w1 ⟨rfl, hk⟩; have K1 := Lib.hid hk; clear hk)
    | (go_at_call 9; (with_reducible refine (HLO.out _ K1.out).mono ?_); rintro e w2 ⟨hcase, hk⟩; have K2 := Lib.hid (Kp.trans (Kp.trans K1.out (kp_alloc _ _)) hk); have E := hcase.resolve_right (fun q => HNL.out q.1); obtain ⟨-, rfl⟩ := E; clear hk hcase))
  go_ret
  exact ⟨rfl, K2.out⟩

set_option maxRecDepth 20000 in
set_option maxHeartbeats 4000000 in
theorem groups_bad (T : TapC ads W R) (C : JouC ads W R J) (v : Value) (rs : List (List Int)) (hs : SlBB v rs W) (hL : LgR rs) (hb : ¬ okRs rs) :
    Calls Tryd.prog 7 #[v] W fun e w' => e = .returned (.bool true) ∧ Kp W w' := by
  obtain ⟨a, cp, rfl⟩ := hs.form
  have hin := slbb_in hs
  have hle : ∀ r ∈ rs, r.length ≤ 300 := fun r hr => lgr_len hL hr
  have hn10 := hL.1
  obtain ⟨n, hn⟩ : ∃ n, rs.length = n := ⟨_, rfl⟩
  rw [hn] at hs hn10 ⊢
  have HC := Lib.hid C
  have HT := Lib.hid T
  have HS := Lib.hid hs
  have HAL := Lib.hid (alive7 T C)
  have HLO := Lib.hid (fun w1 (hk : Kp W w1) => long7_any _ _ _ (slj_one (t := 44) (fr := (0, 0)) (hs.kp hk) hn))
  have HLG := Lib.hid (show Lg7 [(0, 0, rs)] from ⟨by simp, fun j hj => by obtain rfl : j = 0 := (by simpa using hj); exact hL⟩)
  have HN := Lib.hid (fun w1 (hk : Kp W w1) => JL.new (room := 10000) T hk (by decide) (by decide))
  have HO := Lib.hid (fun w1 (hk : Kp W w1) g O (r : R g (liv (allF []) 10000) O w1) => JL.open T C hk r (by decide) (fun r hr => by cases hr) (by decide) (by decide) (by decide))
  have HP := fun w1 q g q2 g2 P P2 (t : Two R J W q g q2 g2 10000 [] [] P P2 w1) (s : Sfe P (.slice a n cp) rs w1) => t.bad T C hb (fun r hr => ⟨hin r hr, by have := hle r hr; omega⟩) s hn (by omega)
  obtain ⟨o4, ho4⟩ := errJ_iface ads 4 (by decide)
  simp only [ho4] at HP
  have HP := Lib.hid HP
  clear T C hs hL hn hb hin hle hn10 ho4
  go_enter Tryd.func7, Tryd.ntmps7
  go_wp2_with (first
    | (go_at_call 8; (with_reducible refine HAL.out.mono ?_); rintro e w1 ⟨rfl, hk⟩; have K1 := Lib.hid hk; clear hk)
    | (go_at_call 9; (with_reducible refine (HLO.out _ K1.out).mono ?_); rintro e w2 ⟨hcase, hk⟩; have K2 := Lib.hid (Kp.trans (Kp.trans K1.out (kp_alloc _ _)) hk); have E := hcase.resolve_left (fun q => q.1 HLG.out); obtain ⟨-, rfl⟩ := E; clear hk hcase)
    | (go_at_call 10; (with_reducible refine (HN.out _ K2.out).mono ?_); rintro e w3 ⟨g, O1, rfl, r, hn, hk⟩; have K3 := Lib.hid (Kp.trans K2.out hk); have R1 := Lib.hid r; have N1 := Lib.hid hn; clear r hn hk)
    | (go_at_call 10; (with_reducible refine (HN.out _ K3.out).mono ?_); rintro e w4 ⟨g2, O2, rfl, r, hn, hk⟩; have K4 := Lib.hid (Kp.trans K3.out hk); have R2 := Lib.hid r; have R1b := Lib.hid (HT.out.stay R1.out (Below.size hk) (fun b hb => Below.block hk b (N1.out b hb).2)); have D0 := Lib.hid (show ∀ b, O1 b → ¬ O2 b from fun b h1 h2 => by have := (N1.out b h1).2; have := (hn b h2).1; omega); clear r hn hk)
    | (go_at_call 11; (with_reducible refine (HO.out _ K4.out _ _ R1b.out).mono ?_); rintro e w5 ⟨q, OJ1, O1', rfl, ja, ha⟩; have JA := Lib.hid ja; have R2b := Lib.hid (HT.out.stay R2.out ha.size (fun b hb => ha.block b (HT.out.mem R2.out b hb).2 (fun h1 => D0.out b h1 hb))); have DA := Lib.hid (show ∀ b, Un OJ1 O1' b → ¬ O2 b from fun b h1 h2 => by (rcases ha.own b h1 with p | p; exact D0.out b p h2; have := (HT.out.mem R2.out b h2).2; omega)); clear ja ha)
    | (go_at_call 11; (with_reducible refine (HO.out _ JA.out.kW _ _ R2b.out).mono ?_); rintro e w6 ⟨q2, OJ2, O2', rfl, jb, ha⟩; have TW := Lib.hid (Two.mk2 HT.out HC.out JA.out DA.out (fun b hb => (HT.out.mem R2b.out b hb).1) jb ha); have SA := Lib.hid (Sfe.old HS.out TW.out.kW (fun b hb => (TW.out.geA HT.out HC.out b hb).1)); clear jb ha)
    | (go_at_call 28; (with_reducible refine (HP.out _ _ _ _ _ _ _ TW.out SA.out).mono ?_); rintro e w7 ⟨rfl, P', t⟩; have T7 := Lib.hid t; clear t)
    | (go_at_call 18; (with_reducible refine (T7.out.lenA HC.out).mono ?_); rintro e w8 ⟨rfl, hk⟩; have T8 := Lib.hid (T7.out.kp HT.out HC.out hk); clear hk)
    | (go_at_call 21; (with_reducible refine (T8.out.bytesA HT.out).mono ?_); rintro e w9 ⟨a9, c9, rfl, -, hk⟩; have T9 := Lib.hid (T8.out.kp HT.out HC.out hk); clear hk))
  go_ret
  exact ⟨by first | rfl | simp, T9.out.kW⟩

set_option maxRecDepth 20000 in
set_option maxHeartbeats 8000000 in
theorem groups_ok (T : TapC ads W R) (C : JouC ads W R J) (v : Value) (rs : List (List Int)) (hs : SlBB v rs W) (hL : LgR rs) (ho : okRs rs) :
    Calls Tryd.prog 7 #[v] W fun e w' => e = .returned (.bool true) ∧ Kp W w' := by
  obtain ⟨a, cp, rfl⟩ := hs.form
  have hin := slbb_in hs
  have hle : ∀ r ∈ rs, r.length ≤ 300 := fun r hr => lgr_len hL hr
  have hn10 := hL.1
  obtain ⟨n, hn⟩ : ∃ n, rs.length = n := ⟨_, rfl⟩
  rw [hn] at hs hn10 ⊢
  have HC := Lib.hid C
  have HT := Lib.hid T
  have HS := Lib.hid hs
  have HAL := Lib.hid (alive7 T C)
  have HLO := Lib.hid (fun w1 (hk : Kp W w1) => long7_any _ _ _ (slj_one (t := 44) (fr := (0, 0)) (hs.kp hk) hn))
  have HLG := Lib.hid (show Lg7 [(0, 0, rs)] from ⟨by simp, fun j hj => by obtain rfl : j = 0 := (by simpa using hj); exact hL⟩)
  have HN := Lib.hid (fun w1 (hk : Kp W w1) => JL.new (room := 10000) T hk (by decide) (by decide))
  have HO := Lib.hid (fun w1 (hk : Kp W w1) g O (r : R g (liv (allF []) 10000) O w1) => JL.open T C hk r (by decide) (fun r hr => by cases hr) (by decide) (by decide) (by decide))
  have hall : (allF rs).length ≤ 2060 := lgr_all hL ho
  have HP := Lib.hid (fun w1 q g q2 g2 P P2 (t : Two R J W q g q2 g2 10000 [] [] P P2 w1) (s : Sfe P (.slice a n cp) rs w1) => t.putA T C ho hin (by rw [allF_nil]; simp; omega) s hn (by omega))
  have HNN := Lib.hid hn
  have HIN := Lib.hid hin
  have HOK := Lib.hid ho
  have HAL2 := Lib.hid hall
  clear T C hs hL hn ho hin hle hall
  go_enter Tryd.func7, Tryd.ntmps7
  go_wp2_with (first
    | (go_at_call 8; (with_reducible refine HAL.out.mono ?_); rintro e w1 ⟨rfl, hk⟩; have K1 := Lib.hid hk; clear hk)
    | (go_at_call 9; (with_reducible refine (HLO.out _ K1.out).mono ?_); rintro e w2 ⟨hcase, hk⟩; have K2 := Lib.hid (Kp.trans (Kp.trans K1.out (kp_alloc _ _)) hk); have E := hcase.resolve_left (fun q => q.1 HLG.out); obtain ⟨-, rfl⟩ := E; clear hk hcase)
    | (go_at_call 10; (with_reducible refine (HN.out _ K2.out).mono ?_); rintro e w3 ⟨g, O1, rfl, r, hn, hk⟩; have K3 := Lib.hid (Kp.trans K2.out hk); have R1 := Lib.hid r; have N1 := Lib.hid hn; clear r hn hk)
    | (go_at_call 10; (with_reducible refine (HN.out _ K3.out).mono ?_); rintro e w4 ⟨g2, O2, rfl, r, hn, hk⟩; have K4 := Lib.hid (Kp.trans K3.out hk); have R2 := Lib.hid r; have R1b := Lib.hid (HT.out.stay R1.out (Below.size hk) (fun b hb => Below.block hk b (N1.out b hb).2)); have D0 := Lib.hid (show ∀ b, O1 b → ¬ O2 b from fun b h1 h2 => by have := (N1.out b h1).2; have := (hn b h2).1; omega); clear r hn hk)
    | (go_at_call 11; (with_reducible refine (HO.out _ K4.out _ _ R1b.out).mono ?_); rintro e w5 ⟨q, OJ1, O1', rfl, ja, ha⟩; have JA := Lib.hid ja; have R2b := Lib.hid (HT.out.stay R2.out ha.size (fun b hb => ha.block b (HT.out.mem R2.out b hb).2 (fun h1 => D0.out b h1 hb))); have DA := Lib.hid (show ∀ b, Un OJ1 O1' b → ¬ O2 b from fun b h1 h2 => by (rcases ha.own b h1 with p | p; exact D0.out b p h2; have := (HT.out.mem R2.out b h2).2; omega)); clear ja ha)
    | (go_at_call 11; (with_reducible refine (HO.out _ JA.out.kW _ _ R2b.out).mono ?_); rintro e w6 ⟨q2, OJ2, O2', rfl, jb, ha⟩; have TW := Lib.hid (Two.mk2 HT.out HC.out JA.out DA.out (fun b hb => (HT.out.mem R2b.out b hb).1) jb ha); have SA := Lib.hid (Sfe.old HS.out TW.out.kW (fun b hb => (TW.out.geA HT.out HC.out b hb).1)); clear jb ha)
    | (go_at_call 28; (with_reducible refine (HP.out _ _ _ _ _ _ _ TW.out SA.out).mono ?_); rintro e w7 ⟨rfl, P', t⟩; have T7 := Lib.hid (show Two R J W q g q2 g2 10000 rs [] P' _ w7 from t); clear t))
  go_loopw [64] (fun i wr => ∃ (k : Nat) (P2 : Nat → Prop), k ≤ n ∧ i = .int .i64 k ∧ Two R J W q g q2 g2 10000 rs (rs.take k) P' P2 wr) (fun i _ => n - (intOf i).toNat)
  case atStart => exact ⟨0, _, Nat.zero_le _, rfl, T7.out⟩
  case round =>
    obtain ⟨k, P2, hk, rfl, tw⟩ := hrel
    have T8 := Lib.hid tw
    obtain ⟨kk, hkk⟩ : ∃ kk : Int, (k : Int) = kk := ⟨_, rfl⟩
    rw [hkk]
    have HK := Lib.hid hkk
    have hnn := HNN.out
    by_cases hlt : k < n
    · have hkr : k < rs.length := by omega
      have hk0 : 0 ≤ kk := by omega
      have hkl : kk < n := by omega
      have htk : kk.toNat = k := by omega
      obtain ⟨b2, off2, rfl, a2, c2, hc2, hs2, hb2⟩ := HS.out.at k hkr
      have hmem : rs[k] ∈ rs := List.getElem_mem _
      have SR := Lib.hid (show rs.take (k + 1) = rs.take k ++ [rs[k]] from List.take_succ_eq_append_getElem hkr)
      obtain ⟨row, hrow⟩ : ∃ r, rs[k] = r := ⟨_, rfl⟩
      rw [hrow] at hc2 hs2 hb2 hmem SR
      obtain ⟨l2, hl2⟩ : ∃ l, row.length = l := ⟨_, rfl⟩
      rw [hl2] at hc2 hs2
      have hc3 := kp_cell T8.out.kW hc2
      replace hc3 : wr.cell? ⟨b2, off2 + kk.toNat, none⟩ = some (.slice a2 l2 c2) := by rw [htk]; exact hc3
      have hokr : okRs [row] := fun r hr => by obtain rfl := List.mem_singleton.1 hr; exact HOK.out r hmem
      have hlen : ((allF (rs.take k)).length : Int) + ((allF [row]).length : Int) ≤ 10000 := by
        have h1 : allF (rs.take k) ++ allF [row] = allF (rs.take (k + 1)) := by rw [SR.out, allF_app]
        have h2 : allF rs = allF (rs.take (k + 1)) ++ allF (rs.drop (k + 1)) := by rw [← allF_app, List.take_append_drop]
        have h3 := congrArg List.length h1
        have h4 := congrArg List.length h2
        have h5 := HAL2.out
        rw [List.length_append] at h3 h4
        omega
      have HPB := (tw.kp HT.out HC.out (kp_alloc wr (.cells #[.slice a2 l2 c2] 46))).putB HT.out HC.out hokr (fun r hr => by obtain rfl := List.mem_singleton.1 hr; exact hb2) hlen (sfe_one hs2 hl2 hb2 tw.kW (tw.geB HT.out HC.out)) rfl (by decide)
      rw [← SR.out] at HPB
      have HPB := Lib.hid HPB
      have HLT := Lib.hid hlt
      clear tw hc2 hs2 hb2 hmem SR hrow hl2 hokr hlen hkk htk hk hlt hnn
      go_wp2_with (go_at_call 28; (with_reducible refine HPB.out.mono ?_); rintro e w9 ⟨rfl, P9, t⟩; have T9 := Lib.hid t; clear t)
      have hk1 := HK.out
      have hlt1 := HLT.out
      go_round
      case rel => exact ⟨k + 1, P9, by omega, by congr 1; omega, T9.out⟩
      case measure => simp [intOf]; omega
    · obtain rfl : k = n := by omega
      have hkl : ¬ kk < k := by omega
      have T10 := Lib.hid (show Two R J W q g q2 g2 10000 rs rs P' P2 wr by have h := tw; rw [List.take_of_length_le (by omega)] at h; exact h)
      have HR := T10.out.rowsA HC.out
      rw [HNN.out] at HR
      have HR := Lib.hid HR
      clear tw hkk hk hlt hnn
      go_wp2_with (go_at_call 17; (with_reducible refine HR.out.mono ?_); rintro e w11 ⟨a11, c11, rfl, hsl, hout, hk⟩; have K11 := Lib.hid hk; have I11 := Lib.hid (inc_of hout hsl HOK.out); clear hsl hout hk)
      obtain ⟨wo, hwo⟩ : ∃ wo, wr = wo := ⟨wr, rfl⟩
      rw [hwo] at T10 K11 I11
      clear hwo
      go_loopw [77] (fun i wr => ∃ k2 : Nat, k2 ≤ k ∧ i = .int .i64 k2 ∧ Kp wo wr ∧ Inc wo.heap.size a11 rs wr) (fun i _ => k - (intOf i).toNat)
      case atStart => exact ⟨0, Nat.zero_le _, rfl, K11.out, I11.out⟩
      case round =>
        obtain ⟨k2, hk2, rfl, kp2, inc2⟩ := hrel
        have KP2 := Lib.hid kp2
        have IN2 := Lib.hid inc2
        obtain ⟨kk2, hkk2⟩ : ∃ kk : Int, (k2 : Int) = kk := ⟨_, rfl⟩
        rw [hkk2]
        have HK2 := Lib.hid hkk2
        have hnn := HNN.out
        by_cases hlt : k2 < k
        · have hkr : k2 < rs.length := by omega
          have hk0 : 0 ≤ kk2 := by omega
          have hkl2 : kk2 < k := by omega
          have htk : kk2.toNat = k2 := by omega
          obtain ⟨b2, off2, b3, off3, c3, hae, hc2, hne3, hb3, hz3, y, y0, y1, hy⟩ := inc2 k2 hkr
          have HOKr := (HOK.out _ (List.getElem_mem hkr)).1
          obtain ⟨l2, hl2⟩ : ∃ l, rs[k2].length = l := ⟨_, rfl⟩
          rw [hl2] at hc2 HOKr
          replace hc2 : wr.cell? ⟨b2, off2 + kk2.toNat, none⟩ = some (.slice (some ⟨b3, off3, none⟩) l2 c3) := by rw [htk]; exact hc2
          have HA := Lib.hid hae
          have HNE := Lib.hid hne3
          have HB3 := Lib.hid hb3
          have HLT := Lib.hid hlt
          obtain ⟨y2, hy2⟩ : ∃ x : Int, IntKind.u8.wrap (y + 1) = x := ⟨_, rfl⟩
          have hy20 : 0 ≤ y2 ∧ y2 < 256 := by rw [← hy2]; unfold IntKind.wrap; simp [IntKind.bits, IntKind.signed]; omega
          have HY2 := Lib.hid hy20
          have l20 : 0 < (l2 : Int) := by omega
          subst hae
          clear kp2 inc2 hne3 hb3 hl2 hkk2 htk hk2 hlt hnn hkr hy20
          go_wp2
          have hk1 := HK2.out
          have hlt1 := HLT.out
          refine ⟨⟨k2 + 1, by omega, by congr 1; omega, Below.setCell KP2.out HB3.out _, IN2.out.set rfl HNE.out HY2.out.1 HY2.out.2⟩, ?_⟩
          simp [intOf]
          omega
        · obtain rfl : k2 = k := by omega
          have hkl2 : ¬ kk2 < k2 := by omega
          have T12 := Lib.hid (T10.out.kp HT.out HC.out kp2)
          have HBA := Lib.hid (fun w1 (hk : Kp wr w1) => (T12.out.kp HT.out HC.out hk).bytesA HT.out)
          have HBB := Lib.hid (fun w1 (hk : Kp wr w1) => (T12.out.kp HT.out HC.out hk).bytesB HT.out)
          have HRA := fun w1 (hk : Kp wr w1) => (T12.out.kp HT.out HC.out hk).rowsA HC.out
          have HRB := fun w1 (hk : Kp wr w1) => (T12.out.kp HT.out HC.out hk).rowsB HC.out
          have HSI := Lib.hid (fun w1 (hk : Kp wr w1) => (T12.out.kp HT.out HC.out hk).sizeA HC.out)
          have HSM := fun w1 (hk : Kp wr w1) u (hu : SlBB u rs w1) => same_any u _ rs rs (by omega) w1 hu (HS.out.kp (Kp.trans T12.out.kW hk))
          rw [hnn] at HRA HRB
          simp only at HSM
          have HRA := Lib.hid HRA
          have HRB := Lib.hid HRB
          have HSM := Lib.hid HSM
          obtain ⟨bs, hbs⟩ : ∃ x, allF rs = x := ⟨_, rfl⟩
          rw [hbs] at HBA HBB HSI
          obtain ⟨lb, hlb⟩ : ∃ x, bs.length = x := ⟨_, rfl⟩
          rw [hlb] at HBA HBB HSI
          obtain ⟨sv, hsv⟩ : ∃ x, strOfNums bs = x := ⟨_, rfl⟩
          have HSV := Lib.hid hsv
          clear kp2 inc2 hkk2 hlt hnn hk2 hbs hlb hsv
          go_wp2
          refine wp_region_any (by kernel_rfl) ?_
          change wpAny _ _ _ _ _ _ _ (World.drew _)
          refine wpAny_take (i := 0) (v := ?_) rfl (by kernel_rfl) (by kernel_rfl) (by kernel_rfl) (fun _ _ _ h => h) (Or.inl ⟨by rfl, ?_⟩) ?_
          rotate_left
          · intro w; go_simp; try with_reducible rfl
          go_simp
          refine wpAny_take (i := 3) (v := ?_) rfl (by kernel_rfl) (by kernel_rfl) (by kernel_rfl) (fun _ _ _ h => h) (Or.inl ⟨by rfl, ?_⟩) ?_
          rotate_left
          · intro w; go_simp; try with_reducible rfl
          go_simp
          refine wpAny_ready (rs := [1]) (by kernel_rfl) (by simp) ?_
          refine AllReady.cons rfl (fun K hK => ?_) AllReady.nil
          go_simp
          go_wp2_with (go_at_call 21; (with_reducible refine (HBA.out _ (Kp.refl wr).drew).mono ?_); rintro e w13 ⟨a13, c13, rfl, hs, hk⟩; have K13 := Lib.hid (Kp.trans (Kp.refl wr).drew hk); have S13 := Lib.hid hs; clear hs hk)
          refine wpAny_of_held (S := fun w' => Kp w13 w') _ _ _ _ ?_
          have hHeld : Kp w13 w13 := Kp.refl _
          refine wpAnyH_take (i := 2) (v := ?_) rfl (by kernel_rfl) (by kernel_rfl) (by kernel_rfl) (fun _ _ _ h => h) (Or.inl ⟨by rfl, ?_⟩) (by assumption) ?_
          rotate_left
          · intro w hSw; have cv := conv_slb (S13.out.kp hSw); rw [HSV.out] at cv; go_simp; try with_reducible rfl
          go_simp
          refine wpAnyH_ready (rs := [4]) (by kernel_rfl) (by simp) ?_
          refine AllReadyH.cons rfl (fun K hK => ?_) AllReadyH.nil
          go_simp
          go_wp2_with (go_at_call 21; (with_reducible refine (HBB.out _ (Kp.trans K13.out hHeld)).mono ?_); rintro e w14 ⟨a14, c14, rfl, hs, hk⟩; have K14 := Lib.hid (Kp.trans hHeld hk); have cv := conv_slb hs; rw [HSV.out] at cv; clear hs hk)
          refine hK.out _ _ ?_ (fun hHeld => ?_)
          · exact K14.out
          clear hK K
          refine wpAnyH_ready (rs := [5]) (by kernel_rfl) (by simp) ?_
          refine AllReadyH.cons rfl (fun K hK => ?_) AllReadyH.nil
          go_simp
          refine hK.out _ _ ?_ (fun hHeld => ?_)
          · exact hHeld
          clear hK K
          refine wpAnyH_take (i := 6) (v := ?_) rfl (by kernel_rfl) (by kernel_rfl) (by kernel_rfl) (fun _ _ _ h => h) (Or.inl ⟨by rfl, ?_⟩) (by assumption) ?_
          rotate_left
          · intro w hSw; go_simp; try with_reducible rfl
          go_simp
          refine wpAnyH_take (i := 7) (v := ?_) rfl (by kernel_rfl) (by kernel_rfl) (by kernel_rfl) (fun _ _ _ h => h) (Or.inl ⟨by rfl, ?_⟩) (by assumption) ?_
          rotate_left
          · intro w hSw; go_simp; try with_reducible rfl
          go_simp
          refine wpAnyH_take (i := 8) (v := ?_) rfl (by kernel_rfl) (by kernel_rfl) (by kernel_rfl) (fun _ _ _ h => h) (Or.inl ⟨by rfl, ?_⟩) (by assumption) ?_
          rotate_left
          · intro w hSw; go_simp; try with_reducible rfl
          go_simp
          refine wpAnyH_take (i := 10) (v := ?_) rfl (by kernel_rfl) (by kernel_rfl) (by kernel_rfl) (fun _ _ _ h => h) (Or.inl ⟨by rfl, ?_⟩) (by assumption) ?_
          rotate_left
          · intro w hSw; go_simp; try with_reducible rfl
          go_simp
          refine wpAnyH_ready (rs := [9]) (by kernel_rfl) (by simp) ?_
          refine AllReadyH.cons rfl (fun K hK => ?_) AllReadyH.nil
          go_simp
          go_wp2_with (go_at_call 17; (with_reducible refine (HRA.out _ (Kp.trans K13.out hHeld)).mono ?_); rintro e w15 ⟨a15, c15, rfl, hs, -, hk⟩; have K15 := Lib.hid (Kp.trans hHeld hk); have S15 := Lib.hid hs; clear hs hk)
          refine hK.out _ _ ?_ (fun hHeld => ?_)
          · exact K15.out
          clear hK K
          refine wpAnyH_ready (rs := [11]) (by kernel_rfl) (by simp) ?_
          refine AllReadyH.cons rfl (fun K hK => ?_) AllReadyH.nil
          go_simp
          go_wp2_with (go_at_call 16; (with_reducible refine (HSM.out _ (Kp.trans K13.out hHeld) _ S15.out).mono ?_); rintro e w16 ⟨rfl, hk⟩; have K16 := Lib.hid (Kp.trans hHeld hk); clear hk)
          refine hK.out _ _ ?_ (fun hHeld => ?_)
          · exact K16.out
          clear hK K
          refine wpAnyH_take (i := 12) (v := ?_) rfl (by kernel_rfl) (by kernel_rfl) (by kernel_rfl) (fun _ _ _ h => h) (Or.inl ⟨by rfl, ?_⟩) (by assumption) ?_
          rotate_left
          · intro w hSw; go_simp; try with_reducible rfl
          go_simp
          refine wpAnyH_take (i := 13) (v := ?_) rfl (by kernel_rfl) (by kernel_rfl) (by kernel_rfl) (fun _ _ _ h => h) (Or.inl ⟨by rfl, ?_⟩) (by assumption) ?_
          rotate_left
          · intro w hSw; go_simp; try with_reducible rfl
          go_simp
          refine wpAnyH_take (i := 14) (v := ?_) rfl (by kernel_rfl) (by kernel_rfl) (by kernel_rfl) (fun _ _ _ h => h) (Or.inl ⟨by rfl, ?_⟩) (by assumption) ?_
          rotate_left
          · intro w hSw; go_simp; try with_reducible rfl
          go_simp
          refine wpAnyH_take (i := 16) (v := ?_) rfl (by kernel_rfl) (by kernel_rfl) (by kernel_rfl) (fun _ _ _ h => h) (Or.inl ⟨by rfl, ?_⟩) (by assumption) ?_
          rotate_left
          · intro w hSw; go_simp; try with_reducible rfl
          go_simp
          refine wpAnyH_ready (rs := [15]) (by kernel_rfl) (by simp) ?_
          refine AllReadyH.cons rfl (fun K hK => ?_) AllReadyH.nil
          go_simp
          go_wp2_with (go_at_call 17; (with_reducible refine (HRB.out _ (Kp.trans K13.out hHeld)).mono ?_); rintro e w17 ⟨a17, c17, rfl, hs, hk⟩; have K17 := Lib.hid (Kp.trans hHeld hk); have S17 := Lib.hid hs; clear hs hk)
          refine hK.out _ _ ?_ (fun hHeld => ?_)
          · exact K17.out
          clear hK K
          refine wpAnyH_ready (rs := [17]) (by kernel_rfl) (by simp) ?_
          refine AllReadyH.cons rfl (fun K hK => ?_) AllReadyH.nil
          go_simp
          go_wp2_with (go_at_call 16; (with_reducible refine (HSM.out _ (Kp.trans K13.out hHeld) _ S17.out).mono ?_); rintro e w18 ⟨rfl, hk⟩; have K18 := Lib.hid (Kp.trans hHeld hk); clear hk)
          refine hK.out _ _ ?_ (fun hHeld => ?_)
          · exact K18.out
          clear hK K
          refine wpAnyH_take (i := 18) (v := ?_) rfl (by kernel_rfl) (by kernel_rfl) (by kernel_rfl) (fun _ _ _ h => h) (Or.inl ⟨by rfl, ?_⟩) (by assumption) ?_
          rotate_left
          · intro w hSw; go_simp; try with_reducible rfl
          go_simp
          refine wpAnyH_take (i := 19) (v := ?_) rfl (by kernel_rfl) (by kernel_rfl) (by kernel_rfl) (fun _ _ _ h => h) (Or.inl ⟨by rfl, ?_⟩) (by assumption) ?_
          rotate_left
          · intro w hSw; go_simp; try with_reducible rfl
          go_simp
          refine wpAnyH_take (i := 20) (v := ?_) rfl (by kernel_rfl) (by kernel_rfl) (by kernel_rfl) (fun _ _ _ h => h) (Or.inl ⟨by rfl, ?_⟩) (by assumption) ?_
          rotate_left
          · intro w hSw; go_simp; try with_reducible rfl
          go_simp
          refine wpAnyH_take (i := 22) (v := ?_) rfl (by kernel_rfl) (by kernel_rfl) (by kernel_rfl) (fun _ _ _ h => h) (Or.inl ⟨by rfl, ?_⟩) (by assumption) ?_
          rotate_left
          · intro w hSw; go_simp; try with_reducible rfl
          go_simp
          refine wpAnyH_ready (rs := [21]) (by kernel_rfl) (by simp) ?_
          refine AllReadyH.cons rfl (fun K hK => ?_) AllReadyH.nil
          go_simp
          go_wp2_with (go_at_call 19; (with_reducible refine (HSI.out _ (Kp.trans K13.out hHeld)).mono ?_); rintro e w19 ⟨rfl, hk⟩; have K19 := Lib.hid (Kp.trans hHeld hk); clear hk)
          refine hK.out _ _ ?_ (fun hHeld => ?_)
          · exact K19.out
          clear hK K
          refine wpAnyH_ready (rs := [23]) (by kernel_rfl) (by simp) ?_
          refine AllReadyH.cons rfl (fun K hK => ?_) AllReadyH.nil
          go_simp
          go_wp2_with (go_at_call 21; (with_reducible refine (HBA.out _ (Kp.trans K13.out hHeld)).mono ?_); rintro e w20 ⟨a20, c20, rfl, -, hk⟩; have K20 := Lib.hid (Kp.trans hHeld hk); clear hk)
          refine hK.out _ _ ?_ (fun hHeld => ?_)
          · exact K20.out
          clear hK K
          refine wpAnyH_take (i := 24) (v := ?_) rfl (by kernel_rfl) (by kernel_rfl) (by kernel_rfl) (fun _ _ _ h => h) (Or.inl ⟨by rfl, ?_⟩) (by assumption) ?_
          rotate_left
          · intro w hSw; go_simp; try with_reducible rfl
          go_simp
          refine wpAnyH_take (i := 25) (v := ?_) rfl (by kernel_rfl) (by kernel_rfl) (by kernel_rfl) (fun _ _ _ h => h) (Or.inl ⟨by rfl, ?_⟩) (by assumption) ?_
          rotate_left
          · intro w hSw; go_simp; try with_reducible rfl
          go_simp
          refine wpAnyH_take (i := 26) (v := ?_) rfl (by kernel_rfl) (by kernel_rfl) (by kernel_rfl) (fun _ _ _ h => h) (Or.inl ⟨by rfl, ?_⟩) (by assumption) ?_
          rotate_left
          · intro w hSw; go_simp; try with_reducible rfl
          go_simp
          refine wpAnyH_take (i := 27) (v := ?_) rfl (by kernel_rfl) (by kernel_rfl) (by kernel_rfl) (fun _ _ _ h => h) (Or.inl ⟨by rfl, ?_⟩) (by assumption) ?_
          rotate_left
          · intro w hSw; go_simp; try with_reducible rfl
          go_simp
          refine wpAnyH_done (by kernel_rfl) ?_ _
          go_wp2
          go_ret
          exact ⟨by first | rfl | simp, Kp.trans T12.out.kW (Kp.trans K13.out K20.out)⟩
theorem groups_any (T : TapC ads W R) (C : JouC ads W R J) (v : Value) (rs : List (List Int)) (hs : SlBB v rs W) :
    Calls Tryd.prog 7 #[v] W fun e w' => e = .returned (.bool true) ∧ Kp W w' := by
  by_cases hL : LgR rs
  · by_cases ho : okRs rs
    · exact groups_ok T C v rs hs hL ho
    · exact groups_bad T C v rs hs hL ho
  · exact groups_long T C v rs hs hL
end Go.Proofs.YtpehmkglkjlmfaaDoor
