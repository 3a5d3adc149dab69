/-
  JournalCompacts (own work): behind a Compact whose power may go.
-/
import Derived.Test.YtpehmkglkjlmfaaDoorKepL
import Derived.Test.YtpehmkglkjlmfaaDoorSamL
namespace Go.Proofs.YtpehmkglkjlmfaaDoor
open Go.RowKit Go.ChangeShapes Go.WideShapes

variable {ads : List Addr} {R : Nat → TM → (Nat → Prop) → World → Prop} {J : Nat → Nat → JM → (Nat → Prop) → World → Prop} {W w w' : World}

theorem comp_arm1 {fs ss : List (List Int)} {room : Int} (ho : okRs ss) (hr : ((allF ss).length : Int) ≤ room) :
    compJ ⟨fs, false⟩ (armM (liv (allF fs) room) 1) ss = (0, ⟨ss, false⟩, { sure := allF ss, tail := [], room := room, left := 0, off := false }) := by
  unfold compJ
  rw [if_neg (by simp), if_neg (Decidable.not_not.2 ho)]
  have ha : swapM (armM (liv (allF fs) room) 1) (allF ss) = (0, { sure := allF ss, tail := [], room := room, left := 0, off := false }) := by
    unfold swapM armM liv stepM
    dsimp only
    rw [if_neg (by omega)]
    simp
  rw [ha]
  dsimp only
  rw [if_pos rfl]
theorem comp_arm0 {fs ss : List (List Int)} {room : Int} (ho : okRs ss) (hr : ((allF ss).length : Int) ≤ room) :
    compJ ⟨fs, false⟩ (armM (liv (allF fs) room) 0) ss = (7, ⟨fs, true⟩, { sure := allF fs, tail := [], room := room, left := 0, off := true }) := by
  unfold compJ
  rw [if_neg (by simp), if_neg (Decidable.not_not.2 ho)]
  have ha : swapM (armM (liv (allF fs) room) 0) (allF ss) = (7, { sure := allF fs, tail := [], room := room, left := 0, off := true }) := by
    unfold swapM armM liv stepM
    dsimp only
    rw [if_neg (by omega)]
    simp
  rw [ha]
  dsimp only
  rw [if_neg (by decide)]
  rfl
theorem crash_sure (s : List Int) (room l n : Int) (b : Bool) : crashM { sure := s, tail := [], room := room, left := l, off := b } n = liv s room := by
  unfold crashM liv
  simp
theorem odd_two (x : Int) : wrap64 ((IntKind.u64.wrap x).tmod 2) = 0 ∨ wrap64 ((IntKind.u64.wrap x).tmod 2) = 1 := by
  have h := Int.emod_nonneg x (show (18446744073709551616 : Int) ≠ 0 by decide)
  have e : IntKind.u64.wrap x = x % 18446744073709551616 := by unfold IntKind.wrap; simp [IntKind.bits, IntKind.signed]
  rw [e, Int.tmod_eq_emod_of_nonneg h]
  have h2 := Int.emod_nonneg (x % 18446744073709551616) (show (2 : Int) ≠ 0 by decide)
  have h3 := Int.emod_lt_of_pos (x % 18446744073709551616) (show (0 : Int) < 2 by decide)
  rcases (show x % 18446744073709551616 % 2 = 0 ∨ x % 18446744073709551616 % 2 = 1 by omega) with q | q
  · left; rw [q]; unfold wrap64; decide
  · right; rw [q]; unfold wrap64; decide

set_option maxRecDepth 20000 in
set_option maxHeartbeats 8000000 in
theorem comps_long (T : TapC ads W R) (C : JouC ads W R J) (v1 v2 : Value) (fs ss : List (List Int)) (hs1 : SlBB v1 fs W) (hs2 : SlBB v2 ss W) (lasts : Int) (hL : ¬ (LgR fs ∧ LgR ss)) :
    Calls Tryd.prog 6 #[v1, v2, .int .i64 lasts] W fun e w' => e = .returned (.bool true) ∧ Kp W w' := by
  obtain ⟨a, cp, rfl⟩ := hs1.form
  obtain ⟨b, cp2, rfl⟩ := hs2.form
  have hin1 := slbb_in hs1
  have hin2 := slbb_in hs2
  obtain ⟨n, hn⟩ : ∃ n, fs.length = n := ⟨_, rfl⟩
  obtain ⟨n2, hn2⟩ : ∃ n, ss.length = n := ⟨_, rfl⟩
  rw [hn] at hs1 ⊢
  rw [hn2] at hs2 ⊢
  have HC := Lib.hid C
  have HT := Lib.hid T
  have HS1 := Lib.hid hs1
  have HS2 := Lib.hid hs2
  have HAL := Lib.hid (alive7 T C)
  have HLO := Lib.hid (fun w1 (hk : Kp W w1) => long7_any _ _ _ (slj_two (t := 44) (fr := (0, 0)) (hs1.kp hk) hn (hs2.kp hk) hn2))
  have HN := Lib.hid (fun w1 (hk : Kp W w1) => JL.new (room := 10000) T hk (by decide) (by decide))
  have HO := Lib.hid (fun w1 (hk : Kp W w1) g O (r : R g (liv (allF []) 10000) O w1) => JL.open T C hk r (by decide) (fun r hr => by cases hr) (by decide) (by decide) (by decide))
  have HNL := Lib.hid (fun (h : Lg7 [(0, 0, fs), (0, 0, ss)]) => hL (lg_two h))
  clear T C hs1 hs2 hL hn hn2 hin1 hin2
  go_enter Tryd.func6, Tryd.ntmps6
  go_wp2_with (first
    | (go_at_call 8; (with_reducible refine HAL.out.mono ?_); rintro e w1 ⟨rfl, hk⟩; have K1 := Lib.hid hk; clear hk)
    | (go_at_call 9; (with_reducible refine (HLO.out _ K1.out).mono ?_); rintro e w2 ⟨hcase, hk⟩; have K2 := Lib.hid (Kp.trans (Kp.trans K1.out (kp_alloc _ _)) hk); have E := hcase.resolve_right (fun q => HNL.out q.1); obtain ⟨-, rfl⟩ := E; clear hk hcase))
  go_ret
  exact ⟨rfl, K2.out⟩

set_option maxRecDepth 20000 in
set_option maxHeartbeats 8000000 in
theorem comps_bad1 (T : TapC ads W R) (C : JouC ads W R J) (v1 v2 : Value) (fs ss : List (List Int)) (hs1 : SlBB v1 fs W) (hs2 : SlBB v2 ss W) (lasts : Int) (hL1 : LgR fs) (hL2 : LgR ss) (ho1 : ¬ okRs fs) :
    Calls Tryd.prog 6 #[v1, v2, .int .i64 lasts] W fun e w' => e = .returned (.bool true) ∧ Kp W w' := by
  obtain ⟨a, cp, rfl⟩ := hs1.form
  obtain ⟨b, cp2, rfl⟩ := hs2.form
  have hin1 := slbb_in hs1
  have hin2 := slbb_in hs2
  obtain ⟨n, hn⟩ : ∃ n, fs.length = n := ⟨_, rfl⟩
  obtain ⟨n2, hn2⟩ : ∃ n, ss.length = n := ⟨_, rfl⟩
  rw [hn] at hs1 ⊢
  rw [hn2] at hs2 ⊢
  have HC := Lib.hid C
  have HT := Lib.hid T
  have HS1 := Lib.hid hs1
  have HS2 := Lib.hid hs2
  have HAL := Lib.hid (alive7 T C)
  have HLO := Lib.hid (fun w1 (hk : Kp W w1) => long7_any _ _ _ (slj_two (t := 44) (fr := (0, 0)) (hs1.kp hk) hn (hs2.kp hk) hn2))
  have HN := Lib.hid (fun w1 (hk : Kp W w1) => JL.new (room := 10000) T hk (by decide) (by decide))
  have HO := Lib.hid (fun w1 (hk : Kp W w1) g O (r : R g (liv (allF []) 10000) O w1) => JL.open T C hk r (by decide) (fun r hr => by cases hr) (by decide) (by decide) (by decide))
  have HLG := Lib.hid (show Lg7 [(0, 0, fs), (0, 0, ss)] from ⟨by simp, fun j hj => by have hj2 : j < 2 := hj; match j, hj2 with | 0, _ => exact hL1 | 1, _ => exact hL2⟩)
  have hle1 : ∀ r ∈ fs, r.length ≤ 300 := fun r hr => lgr_len hL1 hr
  have hle2 : ∀ r ∈ ss, r.length ≤ 300 := fun r hr => lgr_len hL2 hr
  have hn10 : n ≤ 10 := hn ▸ hL1.1
  have hn20 : n2 ≤ 10 := hn2 ▸ hL2.1
  have HP := fun w1 q g OJ O (h : JL R J W q g 10000 [] OJ O w1) (s : Sfe (Un OJ O) (.slice a n cp) fs w1) => JL.put_bad T C h ho1 (fun r hr => ⟨hin1 r hr, by have := hle1 r hr; omega⟩) s hn (by omega)
  obtain ⟨o4, ho4⟩ := errJ_iface ads 4 (by decide)
  simp only [ho4] at HP
  have HP := Lib.hid HP
  clear T C hs1 hs2 hL1 hL2 hn hn2 hin1 hin2 ho1 hle1 hle2 hn10 hn20 ho4
  go_enter Tryd.func6, Tryd.ntmps6
  go_wp2_with (first
    | (go_at_call 8; (with_reducible refine HAL.out.mono ?_); rintro e w1 ⟨rfl, hk⟩; have K1 := Lib.hid hk; clear hk)
    | (go_at_call 9; (with_reducible refine (HLO.out _ K1.out).mono ?_); rintro e w2 ⟨hcase, hk⟩; have K2 := Lib.hid (Kp.trans (Kp.trans K1.out (kp_alloc _ _)) hk); have E := hcase.resolve_left (fun q => q.1 HLG.out); obtain ⟨-, rfl⟩ := E; clear hk hcase)
    | (go_at_call 10; (with_reducible refine (HN.out _ K2.out).mono ?_); rintro e w3 ⟨g, O1, rfl, r, hn, hk⟩; have K3 := Lib.hid (Kp.trans K2.out hk); have R1 := Lib.hid r; clear r hn hk)
    | (go_at_call 11; (with_reducible refine (HO.out _ K3.out _ _ R1.out).mono ?_); rintro e w4 ⟨q, OJ1, O1', rfl, ja, ha⟩; have JA := Lib.hid ja; have SA := Lib.hid (Sfe.old (P := Un OJ1 O1') HS1.out ja.kW (fun b hb => (ja.mem HT.out HC.out b hb).1)); clear ja ha)
    | (go_at_call 28; (with_reducible refine (HP.out _ _ _ _ _ JA.out SA.out).mono ?_); rintro e w5 ⟨rfl, OJ2, O2, jb, ha⟩; have JB := Lib.hid jb; clear jb ha))
  go_ret
  exact ⟨by first | rfl | simp, JB.out.kW⟩

set_option maxRecDepth 20000 in
set_option maxHeartbeats 8000000 in
theorem comps_bad2_0 (T : TapC ads W R) (C : JouC ads W R J) (v1 v2 : Value) (fs ss : List (List Int)) (hs1 : SlBB v1 fs W) (hs2 : SlBB v2 ss W) (lasts : Int) (V : St ads W) (hA : wrap64 ((IntKind.u64.wrap lasts).tmod 2) = 0) (hL1 : LgR fs) (hL2 : LgR ss) (ho1 : okRs fs) (ho2 : ¬ okRs ss) :
    Calls Tryd.prog 6 #[v1, v2, .int .i64 lasts] W fun e w' => e = .returned (.bool true) ∧ Kp W w' := by
  obtain ⟨a, cp, rfl⟩ := hs1.form
  obtain ⟨b, cp2, rfl⟩ := hs2.form
  have hin1 := slbb_in hs1
  have hin2 := slbb_in hs2
  obtain ⟨n, hn⟩ : ∃ n, fs.length = n := ⟨_, rfl⟩
  obtain ⟨n2, hn2⟩ : ∃ n, ss.length = n := ⟨_, rfl⟩
  rw [hn] at hs1 ⊢
  rw [hn2] at hs2 ⊢
  have HC := Lib.hid C
  have HT := Lib.hid T
  have HS1 := Lib.hid hs1
  have HS2 := Lib.hid hs2
  have HAL := Lib.hid (alive7 T C)
  have HLO := Lib.hid (fun w1 (hk : Kp W w1) => long7_any _ _ _ (slj_two (t := 44) (fr := (0, 0)) (hs1.kp hk) hn (hs2.kp hk) hn2))
  have HN := Lib.hid (fun w1 (hk : Kp W w1) => JL.new (room := 10000) T hk (by decide) (by decide))
  have HO := Lib.hid (fun w1 (hk : Kp W w1) g O (r : R g (liv (allF []) 10000) O w1) => JL.open T C hk r (by decide) (fun r hr => by cases hr) (by decide) (by decide) (by decide))
  have HLG := Lib.hid (show Lg7 [(0, 0, fs), (0, 0, ss)] from ⟨by simp, fun j hj => by have hj2 : j < 2 := hj; match j, hj2 with | 0, _ => exact hL1 | 1, _ => exact hL2⟩)
  have hle1 : ∀ r ∈ fs, r.length ≤ 300 := fun r hr => lgr_len hL1 hr
  have hle2 : ∀ r ∈ ss, r.length ≤ 300 := fun r hr => lgr_len hL2 hr
  have hn10 : n ≤ 10 := hn ▸ hL1.1
  have hn20 : n2 ≤ 10 := hn2 ▸ hL2.1
  have HP1 := Lib.hid (fun w1 q g OJ O (h : JL R J W q g 10000 [] OJ O w1) (s : Sfe (Un OJ O) (.slice a n cp) fs w1) => JL.put T C h ho1 hin1 (by rw [allF_nil]; have := lgr_all hL1 ho1; simp; omega) s hn (by omega))
  have HP2 := fun w1 q g OJ O (h : JT R J W q g ⟨fs, false⟩ (armM (liv (allF fs) 10000) 0) OJ O w1) (s : Sfe (Un OJ O) (.slice b n2 cp2) ss w1) => h.compC T C (fun r hr => ⟨hin2 r hr, by have := hle2 r hr; omega⟩) s hn2 (by omega)
  have e2 := comp_bad (rows := fs) (m := armM (liv (allF fs) 10000) 0) ho2
  obtain ⟨o4, ho4⟩ := errJ_iface ads 4 (by decide)
  simp only [e2, ho4] at HP2
  have HP2 := Lib.hid HP2
  have HNU := fun w1 (hk : Kp W w1) => num_errN ads w1 (V.below hk) 4 (by decide) (by decide)
  simp only [ho4] at HNU
  have HNU := Lib.hid HNU
  have HSM := fun w1 (hk : Kp W w1) u (hu : SlBB u fs w1) => same_any u _ fs fs (by omega) w1 hu (hs1.kp hk)
  simp only at HSM
  have HSM := Lib.hid HSM
  have HRO := fun w1 q g m OJ O (h : JT R J W q g ⟨fs, false⟩ m OJ O w1) => h.rowsC C
  simp only [hn] at HRO
  have HRO := Lib.hid HRO
  clear T C V hs1 hs2 hL1 hL2 hn hn2 hin1 hin2 ho1 ho2 hle1 hle2 hn10 hn20 ho4 e2
  go_enter Tryd.func6, Tryd.ntmps6
  go_wp2_with (first
    | (go_at_call 8; (with_reducible refine HAL.out.mono ?_); rintro e w1 ⟨rfl, hk⟩; have K1 := Lib.hid hk; clear hk)
    | (go_at_call 9; (with_reducible refine (HLO.out _ K1.out).mono ?_); rintro e w2 ⟨hcase, hk⟩; have K2 := Lib.hid (Kp.trans (Kp.trans K1.out (kp_alloc _ _)) hk); have E := hcase.resolve_left (fun q => q.1 HLG.out); obtain ⟨-, rfl⟩ := E; clear hk hcase)
    | (go_at_call 10; (with_reducible refine (HN.out _ K2.out).mono ?_); rintro e w3 ⟨g, O1, rfl, r, hn, hk⟩; have K3 := Lib.hid (Kp.trans K2.out hk); have R1 := Lib.hid r; clear r hn hk)
    | (go_at_call 11; (with_reducible refine (HO.out _ K3.out _ _ R1.out).mono ?_); rintro e w4 ⟨q, OJ1, O1', rfl, ja, ha⟩; have JA := Lib.hid ja; have SA := Lib.hid (Sfe.old (P := Un OJ1 O1') HS1.out ja.kW (fun b hb => (ja.mem HT.out HC.out b hb).1)); clear ja ha)
    | (go_at_call 28; (with_reducible refine (HP1.out _ _ _ _ _ JA.out SA.out).mono ?_); rintro e w5 ⟨rfl, OJ2, O2, jb, ha⟩; have JB := Lib.hid (show JL R J W q g 10000 fs OJ2 O2 w5 from jb); clear jb ha)
    | (go_at_call 29; (with_reducible refine (JB.out.armC HT.out HC.out 0 (by decide) (by decide)).mono ?_); rintro e w6 ⟨rfl, O3, jc, ha⟩; have JC := Lib.hid jc; have SC := Lib.hid (Sfe.old (P := Un OJ2 O3) HS2.out jc.kW (fun b hb => (jc.mem HT.out HC.out b hb).1)); clear jc ha)
    | (go_at_call 31; (with_reducible refine (HP2.out _ _ _ _ _ JC.out SC.out).mono ?_); rintro e w7 ⟨rfl, OJ4, O4, jd, ha⟩; have JD := Lib.hid jd; clear jd ha)
    | (go_at_call 24; (with_reducible refine (HNU.out _ JD.out.kW).mono ?_); rintro e w8 ⟨rfl, hk⟩; have JE := Lib.hid (JD.out.kp HT.out HC.out hk); clear hk)
    | (go_at_call 17; (with_reducible refine (HRO.out _ _ _ _ _ _ JE.out).mono ?_); rintro e w11 ⟨a11, c11, rfl, hs, -, hk⟩; have K11 := Lib.hid (Kp.trans JE.out.kW hk); have S11 := Lib.hid hs; clear hs hk)
    | (go_at_call 16; (with_reducible refine (HSM.out _ K11.out _ S11.out).mono ?_); rintro e w12 ⟨rfl, hk⟩; have K12 := Lib.hid (Kp.trans K11.out hk); clear hk))
  go_ret
  exact ⟨by first | rfl | simp, K12.out⟩

set_option maxRecDepth 20000 in
set_option maxHeartbeats 8000000 in
theorem comps_ok_0 (T : TapC ads W R) (C : JouC ads W R J) (v1 v2 : Value) (fs ss : List (List Int)) (hs1 : SlBB v1 fs W) (hs2 : SlBB v2 ss W) (lasts : Int) (V : St ads W) (hA : wrap64 ((IntKind.u64.wrap lasts).tmod 2) = 0) (hL1 : LgR fs) (hL2 : LgR ss) (ho1 : okRs fs) (ho2 : okRs ss) :
    Calls Tryd.prog 6 #[v1, v2, .int .i64 lasts] W fun e w' => e = .returned (.bool true) ∧ Kp W w' := by
  obtain ⟨a, cp, rfl⟩ := hs1.form
  obtain ⟨b, cp2, rfl⟩ := hs2.form
  have hin1 := slbb_in hs1
  have hin2 := slbb_in hs2
  obtain ⟨n, hn⟩ : ∃ n, fs.length = n := ⟨_, rfl⟩
  obtain ⟨n2, hn2⟩ : ∃ n, ss.length = n := ⟨_, rfl⟩
  rw [hn] at hs1 ⊢
  rw [hn2] at hs2 ⊢
  have HC := Lib.hid C
  have HT := Lib.hid T
  have HS1 := Lib.hid hs1
  have HS2 := Lib.hid hs2
  have HAL := Lib.hid (alive7 T C)
  have HLO := Lib.hid (fun w1 (hk : Kp W w1) => long7_any _ _ _ (slj_two (t := 44) (fr := (0, 0)) (hs1.kp hk) hn (hs2.kp hk) hn2))
  have HN := Lib.hid (fun w1 (hk : Kp W w1) => JL.new (room := 10000) T hk (by decide) (by decide))
  have HO := Lib.hid (fun w1 (hk : Kp W w1) g O (r : R g (liv (allF []) 10000) O w1) => JL.open T C hk r (by decide) (fun r hr => by cases hr) (by decide) (by decide) (by decide))
  have HLG := Lib.hid (show Lg7 [(0, 0, fs), (0, 0, ss)] from ⟨by simp, fun j hj => by have hj2 : j < 2 := hj; match j, hj2 with | 0, _ => exact hL1 | 1, _ => exact hL2⟩)
  have hle1 : ∀ r ∈ fs, r.length ≤ 300 := fun r hr => lgr_len hL1 hr
  have hle2 : ∀ r ∈ ss, r.length ≤ 300 := fun r hr => lgr_len hL2 hr
  have hn10 : n ≤ 10 := hn ▸ hL1.1
  have hn20 : n2 ≤ 10 := hn2 ▸ hL2.1
  have HP1 := Lib.hid (fun w1 q g OJ O (h : JL R J W q g 10000 [] OJ O w1) (s : Sfe (Un OJ O) (.slice a n cp) fs w1) => JL.put T C h ho1 hin1 (by rw [allF_nil]; have := lgr_all hL1 ho1; simp; omega) s hn (by omega))
  have HP2 := fun w1 q g OJ O (h : JT R J W q g ⟨fs, false⟩ (armM (liv (allF fs) 10000) 0) OJ O w1) (s : Sfe (Un OJ O) (.slice b n2 cp2) ss w1) => h.compC T C (fun r hr => ⟨hin2 r hr, by have := hle2 r hr; omega⟩) s hn2 (by omega)
  have hA1 := lgr_all hL1 ho1
  have hA2 := lgr_all hL2 ho2
  have e2 := comp_arm0 (room := 10000) (fs := fs) ho2 (by omega)
  have HNU := fun w1 (hk : Kp W w1) => num_errN ads w1 (V.below hk) 7 (by decide) (by decide)
  obtain ⟨o7, ho7⟩ := errJ_iface ads 7 (by decide)
  simp only [e2, ho7] at HP2
  simp only [ho7] at HNU
  have HP2 := Lib.hid HP2
  have HNU := Lib.hid HNU
  have HCR := fun w1 q g OJ O (h : JT R J W q g ⟨fs, true⟩ { sure := allF fs, tail := [], room := 10000, left := 0, off := true } OJ O w1) => h.crashC T 0 (by decide) (by decide)
  simp only [crash_sure] at HCR
  have HCR := Lib.hid HCR
  have eop := open_liv (room := 10000) ho1
  have HOP := fun w1 (hk : Kp W w1) g O (r : R g (liv (allF fs) 10000) O w1) => JT.openC T C hk r (liv_ok ho1 hin1 (by omega) (by decide) (by decide)) rfl (by rw [eop.1])
  simp only [eop.1, eop.2] at HOP
  have HOP := Lib.hid HOP
  have HSM := fun w1 (hk : Kp W w1) u (hu : SlBB u fs w1) => same_any u _ fs fs (by omega) w1 hu (hs1.kp hk)
  simp only at HSM
  have HSM := Lib.hid HSM
  have HRO := fun w1 q g OJ O (h : JL R J W q g 10000 fs OJ O w1) => h.rowsC C
  simp only [hn] at HRO
  have HRO := Lib.hid HRO
  clear T C V hs1 hs2 hL1 hL2 hn hn2 hin1 hin2 ho1 ho2 hle1 hle2 hn10 hn20 e2 eop hA1 hA2 ho7
  go_enter Tryd.func6, Tryd.ntmps6
  go_wp2_with (first
    | (go_at_call 8; (with_reducible refine HAL.out.mono ?_); rintro e w1 ⟨rfl, hk⟩; have K1 := Lib.hid hk; clear hk)
    | (go_at_call 9; (with_reducible refine (HLO.out _ K1.out).mono ?_); rintro e w2 ⟨hcase, hk⟩; have K2 := Lib.hid (Kp.trans (Kp.trans K1.out (kp_alloc _ _)) hk); have E := hcase.resolve_left (fun q => q.1 HLG.out); obtain ⟨-, rfl⟩ := E; clear hk hcase)
    | (go_at_call 10; (with_reducible refine (HN.out _ K2.out).mono ?_); rintro e w3 ⟨g, O1, rfl, r, hn, hk⟩; have K3 := Lib.hid (Kp.trans K2.out hk); have R1 := Lib.hid r; clear r hn hk)
    | (go_at_call 11; (with_reducible refine (HO.out _ K3.out _ _ R1.out).mono ?_); rintro e w4 ⟨q, OJ1, O1', rfl, ja, ha⟩; have JA := Lib.hid ja; have SA := Lib.hid (Sfe.old (P := Un OJ1 O1') HS1.out ja.kW (fun b hb => (ja.mem HT.out HC.out b hb).1)); clear ja ha)
    | (go_at_call 28; (with_reducible refine (HP1.out _ _ _ _ _ JA.out SA.out).mono ?_); rintro e w5 ⟨rfl, OJ2, O2, jb, ha⟩; have JB := Lib.hid (show JL R J W q g 10000 fs OJ2 O2 w5 from jb); clear jb ha)
    | (go_at_call 29; (with_reducible refine (JB.out.armC HT.out HC.out 0 (by decide) (by decide)).mono ?_); rintro e w6 ⟨rfl, O3, jc, ha⟩; have JC := Lib.hid jc; have SC := Lib.hid (Sfe.old (P := Un OJ2 O3) HS2.out jc.kW (fun b hb => (jc.mem HT.out HC.out b hb).1)); clear jc ha)
    | (go_at_call 31; (with_reducible refine (HP2.out _ _ _ _ _ JC.out SC.out).mono ?_); rintro e w7 ⟨rfl, OJ4, O4, jd, ha⟩; have JD := Lib.hid jd; clear jd ha)
    | (go_at_call 24; (with_reducible refine (HNU.out _ JD.out.kW).mono ?_); rintro e w8 ⟨rfl, hk⟩; have JE := Lib.hid (JD.out.kp HT.out HC.out hk); clear hk)
    | (go_at_call 30; (with_reducible refine (HCR.out _ _ _ _ _ JE.out).mono ?_); rintro e w9 ⟨rfl, O5, r, hk, -⟩; have R9 := Lib.hid r; have K9 := Lib.hid hk; clear r hk)
    | (go_at_call 11; (with_reducible refine (HOP.out _ K9.out _ _ R9.out).mono ?_); rintro e w10 ⟨q6, OJ6, O6, rfl, jf, -, -⟩; have JF := Lib.hid (show JL R J W q6 g 10000 fs OJ6 O6 w10 from jf); clear jf)
    | (go_at_call 17; (with_reducible refine (HRO.out _ _ _ _ _ JF.out).mono ?_); rintro e w11 ⟨a11, c11, rfl, hs, -, hk⟩; have K11 := Lib.hid (Kp.trans JF.out.kW hk); have S11 := Lib.hid hs; clear hs hk)
    | (go_at_call 16; (with_reducible refine (HSM.out _ K11.out _ S11.out).mono ?_); rintro e w12 ⟨rfl, hk⟩; have K12 := Lib.hid (Kp.trans K11.out hk); clear hk))
  go_ret
  exact ⟨by first | rfl | simp, K12.out⟩

set_option maxRecDepth 20000 in
set_option maxHeartbeats 8000000 in
theorem comps_bad2_1 (T : TapC ads W R) (C : JouC ads W R J) (v1 v2 : Value) (fs ss : List (List Int)) (hs1 : SlBB v1 fs W) (hs2 : SlBB v2 ss W) (lasts : Int) (V : St ads W) (hA : wrap64 ((IntKind.u64.wrap lasts).tmod 2) = 1) (hL1 : LgR fs) (hL2 : LgR ss) (ho1 : okRs fs) (ho2 : ¬ okRs ss) :
    Calls Tryd.prog 6 #[v1, v2, .int .i64 lasts] W fun e w' => e = .returned (.bool true) ∧ Kp W w' := by
  obtain ⟨a, cp, rfl⟩ := hs1.form
  obtain ⟨b, cp2, rfl⟩ := hs2.form
  have hin1 := slbb_in hs1
  have hin2 := slbb_in hs2
  obtain ⟨n, hn⟩ : ∃ n, fs.length = n := ⟨_, rfl⟩
  obtain ⟨n2, hn2⟩ : ∃ n, ss.length = n := ⟨_, rfl⟩
  rw [hn] at hs1 ⊢
  rw [hn2] at hs2 ⊢
  have HC := Lib.hid C
  have HT := Lib.hid T
  have HS1 := Lib.hid hs1
  have HS2 := Lib.hid hs2
  have HAL := Lib.hid (alive7 T C)
  have HLO := Lib.hid (fun w1 (hk : Kp W w1) => long7_any _ _ _ (slj_two (t := 44) (fr := (0, 0)) (hs1.kp hk) hn (hs2.kp hk) hn2))
  have HN := Lib.hid (fun w1 (hk : Kp W w1) => JL.new (room := 10000) T hk (by decide) (by decide))
  have HO := Lib.hid (fun w1 (hk : Kp W w1) g O (r : R g (liv (allF []) 10000) O w1) => JL.open T C hk r (by decide) (fun r hr => by cases hr) (by decide) (by decide) (by decide))
  have HLG := Lib.hid (show Lg7 [(0, 0, fs), (0, 0, ss)] from ⟨by simp, fun j hj => by have hj2 : j < 2 := hj; match j, hj2 with | 0, _ => exact hL1 | 1, _ => exact hL2⟩)
  have hle1 : ∀ r ∈ fs, r.length ≤ 300 := fun r hr => lgr_len hL1 hr
  have hle2 : ∀ r ∈ ss, r.length ≤ 300 := fun r hr => lgr_len hL2 hr
  have hn10 : n ≤ 10 := hn ▸ hL1.1
  have hn20 : n2 ≤ 10 := hn2 ▸ hL2.1
  have HP1 := Lib.hid (fun w1 q g OJ O (h : JL R J W q g 10000 [] OJ O w1) (s : Sfe (Un OJ O) (.slice a n cp) fs w1) => JL.put T C h ho1 hin1 (by rw [allF_nil]; have := lgr_all hL1 ho1; simp; omega) s hn (by omega))
  have HP2 := fun w1 q g OJ O (h : JT R J W q g ⟨fs, false⟩ (armM (liv (allF fs) 10000) 1) OJ O w1) (s : Sfe (Un OJ O) (.slice b n2 cp2) ss w1) => h.compC T C (fun r hr => ⟨hin2 r hr, by have := hle2 r hr; omega⟩) s hn2 (by omega)
  have e2 := comp_bad (rows := fs) (m := armM (liv (allF fs) 10000) 1) ho2
  obtain ⟨o4, ho4⟩ := errJ_iface ads 4 (by decide)
  simp only [e2, ho4] at HP2
  have HP2 := Lib.hid HP2
  have HNU := fun w1 (hk : Kp W w1) => num_errN ads w1 (V.below hk) 4 (by decide) (by decide)
  simp only [ho4] at HNU
  have HNU := Lib.hid HNU
  have HSM := fun w1 (hk : Kp W w1) u (hu : SlBB u fs w1) => same_any u _ fs fs (by omega) w1 hu (hs1.kp hk)
  simp only at HSM
  have HSM := Lib.hid HSM
  have HRO := fun w1 q g m OJ O (h : JT R J W q g ⟨fs, false⟩ m OJ O w1) => h.rowsC C
  simp only [hn] at HRO
  have HRO := Lib.hid HRO
  clear T C V hs1 hs2 hL1 hL2 hn hn2 hin1 hin2 ho1 ho2 hle1 hle2 hn10 hn20 ho4 e2
  go_enter Tryd.func6, Tryd.ntmps6
  go_wp2_with (first
    | (go_at_call 8; (with_reducible refine HAL.out.mono ?_); rintro e w1 ⟨rfl, hk⟩; have K1 := Lib.hid hk; clear hk)
    | (go_at_call 9; (with_reducible refine (HLO.out _ K1.out).mono ?_); rintro e w2 ⟨hcase, hk⟩; have K2 := Lib.hid (Kp.trans (Kp.trans K1.out (kp_alloc _ _)) hk); have E := hcase.resolve_left (fun q => q.1 HLG.out); obtain ⟨-, rfl⟩ := E; clear hk hcase)
    | (go_at_call 10; (with_reducible refine (HN.out _ K2.out).mono ?_); rintro e w3 ⟨g, O1, rfl, r, hn, hk⟩; have K3 := Lib.hid (Kp.trans K2.out hk); have R1 := Lib.hid r; clear r hn hk)
    | (go_at_call 11; (with_reducible refine (HO.out _ K3.out _ _ R1.out).mono ?_); rintro e w4 ⟨q, OJ1, O1', rfl, ja, ha⟩; have JA := Lib.hid ja; have SA := Lib.hid (Sfe.old (P := Un OJ1 O1') HS1.out ja.kW (fun b hb => (ja.mem HT.out HC.out b hb).1)); clear ja ha)
    | (go_at_call 28; (with_reducible refine (HP1.out _ _ _ _ _ JA.out SA.out).mono ?_); rintro e w5 ⟨rfl, OJ2, O2, jb, ha⟩; have JB := Lib.hid (show JL R J W q g 10000 fs OJ2 O2 w5 from jb); clear jb ha)
    | (go_at_call 29; (with_reducible refine (JB.out.armC HT.out HC.out 1 (by decide) (by decide)).mono ?_); rintro e w6 ⟨rfl, O3, jc, ha⟩; have JC := Lib.hid jc; have SC := Lib.hid (Sfe.old (P := Un OJ2 O3) HS2.out jc.kW (fun b hb => (jc.mem HT.out HC.out b hb).1)); clear jc ha)
    | (go_at_call 31; (with_reducible refine (HP2.out _ _ _ _ _ JC.out SC.out).mono ?_); rintro e w7 ⟨rfl, OJ4, O4, jd, ha⟩; have JD := Lib.hid jd; clear jd ha)
    | (go_at_call 24; (with_reducible refine (HNU.out _ JD.out.kW).mono ?_); rintro e w8 ⟨rfl, hk⟩; have JE := Lib.hid (JD.out.kp HT.out HC.out hk); clear hk)
    | (go_at_call 17; (with_reducible refine (HRO.out _ _ _ _ _ _ JE.out).mono ?_); rintro e w11 ⟨a11, c11, rfl, hs, -, hk⟩; have K11 := Lib.hid (Kp.trans JE.out.kW hk); have S11 := Lib.hid hs; clear hs hk)
    | (go_at_call 16; (with_reducible refine (HSM.out _ K11.out _ S11.out).mono ?_); rintro e w12 ⟨rfl, hk⟩; have K12 := Lib.hid (Kp.trans K11.out hk); clear hk))
  go_ret
  exact ⟨by first | rfl | simp, K12.out⟩

set_option maxRecDepth 20000 in
set_option maxHeartbeats 8000000 in
theorem comps_ok_1 (T : TapC ads W R) (C : JouC ads W R J) (v1 v2 : Value) (fs ss : List (List Int)) (hs1 : SlBB v1 fs W) (hs2 : SlBB v2 ss W) (lasts : Int) (V : St ads W) (hA : wrap64 ((IntKind.u64.wrap lasts).tmod 2) = 1) (hL1 : LgR fs) (hL2 : LgR ss) (ho1 : okRs fs) (ho2 : okRs ss) :
    Calls Tryd.prog 6 #[v1, v2, .int .i64 lasts] W fun e w' => e = .returned (.bool true) ∧ Kp W w' := by
  obtain ⟨a, cp, rfl⟩ := hs1.form
  obtain ⟨b, cp2, rfl⟩ := hs2.form
  have hin1 := slbb_in hs1
  have hin2 := slbb_in hs2
  obtain ⟨n, hn⟩ : ∃ n, fs.length = n := ⟨_, rfl⟩
  obtain ⟨n2, hn2⟩ : ∃ n, ss.length = n := ⟨_, rfl⟩
  rw [hn] at hs1 ⊢
  rw [hn2] at hs2 ⊢
  have HC := Lib.hid C
  have HT := Lib.hid T
  have HS1 := Lib.hid hs1
  have HS2 := Lib.hid hs2
  have HAL := Lib.hid (alive7 T C)
  have HLO := Lib.hid (fun w1 (hk : Kp W w1) => long7_any _ _ _ (slj_two (t := 44) (fr := (0, 0)) (hs1.kp hk) hn (hs2.kp hk) hn2))
  have HN := Lib.hid (fun w1 (hk : Kp W w1) => JL.new (room := 10000) T hk (by decide) (by decide))
  have HO := Lib.hid (fun w1 (hk : Kp W w1) g O (r : R g (liv (allF []) 10000) O w1) => JL.open T C hk r (by decide) (fun r hr => by cases hr) (by decide) (by decide) (by decide))
  have HLG := Lib.hid (show Lg7 [(0, 0, fs), (0, 0, ss)] from ⟨by simp, fun j hj => by have hj2 : j < 2 := hj; match j, hj2 with | 0, _ => exact hL1 | 1, _ => exact hL2⟩)
  have hle1 : ∀ r ∈ fs, r.length ≤ 300 := fun r hr => lgr_len hL1 hr
  have hle2 : ∀ r ∈ ss, r.length ≤ 300 := fun r hr => lgr_len hL2 hr
  have hn10 : n ≤ 10 := hn ▸ hL1.1
  have hn20 : n2 ≤ 10 := hn2 ▸ hL2.1
  have HP1 := Lib.hid (fun w1 q g OJ O (h : JL R J W q g 10000 [] OJ O w1) (s : Sfe (Un OJ O) (.slice a n cp) fs w1) => JL.put T C h ho1 hin1 (by rw [allF_nil]; have := lgr_all hL1 ho1; simp; omega) s hn (by omega))
  have HP2 := fun w1 q g OJ O (h : JT R J W q g ⟨fs, false⟩ (armM (liv (allF fs) 10000) 1) OJ O w1) (s : Sfe (Un OJ O) (.slice b n2 cp2) ss w1) => h.compC T C (fun r hr => ⟨hin2 r hr, by have := hle2 r hr; omega⟩) s hn2 (by omega)
  have hA1 := lgr_all hL1 ho1
  have hA2 := lgr_all hL2 ho2
  have e2 := comp_arm1 (room := 10000) (fs := fs) ho2 (by omega)
  have HNU := fun w1 (hk : Kp W w1) => num_errN ads w1 (V.below hk) 0 (by decide) (by decide)
  simp only [e2, errI_nil] at HP2
  rw [errI_nil] at HNU
  have HP2 := Lib.hid HP2
  have HNU := Lib.hid HNU
  have HCR := fun w1 q g OJ O (h : JT R J W q g ⟨ss, false⟩ { sure := allF ss, tail := [], room := 10000, left := 0, off := false } OJ O w1) => h.crashC T 0 (by decide) (by decide)
  simp only [crash_sure] at HCR
  have HCR := Lib.hid HCR
  have eop := open_liv (room := 10000) ho2
  have HOP := fun w1 (hk : Kp W w1) g O (r : R g (liv (allF ss) 10000) O w1) => JT.openC T C hk r (liv_ok ho2 hin2 (by omega) (by decide) (by decide)) rfl (by rw [eop.1])
  simp only [eop.1, eop.2] at HOP
  have HOP := Lib.hid HOP
  have HSM := fun w1 (hk : Kp W w1) u (hu : SlBB u ss w1) => same_any u _ ss ss (by omega) w1 hu (hs2.kp hk)
  simp only at HSM
  have HSM := Lib.hid HSM
  have HRO := fun w1 q g OJ O (h : JL R J W q g 10000 ss OJ O w1) => h.rowsC C
  simp only [hn2] at HRO
  have HRO := Lib.hid HRO
  clear T C V hs1 hs2 hL1 hL2 hn hn2 hin1 hin2 ho1 ho2 hle1 hle2 hn10 hn20 e2 eop hA1 hA2
  go_enter Tryd.func6, Tryd.ntmps6
  go_wp2_with (first
    | (go_at_call 8; (with_reducible refine HAL.out.mono ?_); rintro e w1 ⟨rfl, hk⟩; have K1 := Lib.hid hk; clear hk)
    | (go_at_call 9; (with_reducible refine (HLO.out _ K1.out).mono ?_); rintro e w2 ⟨hcase, hk⟩; have K2 := Lib.hid (Kp.trans (Kp.trans K1.out (kp_alloc _ _)) hk); have E := hcase.resolve_left (fun q => q.1 HLG.out); obtain ⟨-, rfl⟩ := E; clear hk hcase)
    | (go_at_call 10; (with_reducible refine (HN.out _ K2.out).mono ?_); rintro e w3 ⟨g, O1, rfl, r, hn, hk⟩; have K3 := Lib.hid (Kp.trans K2.out hk); have R1 := Lib.hid r; clear r hn hk)
    | (go_at_call 11; (with_reducible refine (HO.out _ K3.out _ _ R1.out).mono ?_); rintro e w4 ⟨q, OJ1, O1', rfl, ja, ha⟩; have JA := Lib.hid ja; have SA := Lib.hid (Sfe.old (P := Un OJ1 O1') HS1.out ja.kW (fun b hb => (ja.mem HT.out HC.out b hb).1)); clear ja ha)
    | (go_at_call 28; (with_reducible refine (HP1.out _ _ _ _ _ JA.out SA.out).mono ?_); rintro e w5 ⟨rfl, OJ2, O2, jb, ha⟩; have JB := Lib.hid (show JL R J W q g 10000 fs OJ2 O2 w5 from jb); clear jb ha)
    | (go_at_call 29; (with_reducible refine (JB.out.armC HT.out HC.out 1 (by decide) (by decide)).mono ?_); rintro e w6 ⟨rfl, O3, jc, ha⟩; have JC := Lib.hid jc; have SC := Lib.hid (Sfe.old (P := Un OJ2 O3) HS2.out jc.kW (fun b hb => (jc.mem HT.out HC.out b hb).1)); clear jc ha)
    | (go_at_call 31; (with_reducible refine (HP2.out _ _ _ _ _ JC.out SC.out).mono ?_); rintro e w7 ⟨rfl, OJ4, O4, jd, ha⟩; have JD := Lib.hid jd; clear jd ha)
    | (go_at_call 24; (with_reducible refine (HNU.out _ JD.out.kW).mono ?_); rintro e w8 ⟨rfl, hk⟩; have JE := Lib.hid (JD.out.kp HT.out HC.out hk); clear hk)
    | (go_at_call 30; (with_reducible refine (HCR.out _ _ _ _ _ JE.out).mono ?_); rintro e w9 ⟨rfl, O5, r, hk, -⟩; have R9 := Lib.hid r; have K9 := Lib.hid hk; clear r hk)
    | (go_at_call 11; (with_reducible refine (HOP.out _ K9.out _ _ R9.out).mono ?_); rintro e w10 ⟨q6, OJ6, O6, rfl, jf, -, -⟩; have JF := Lib.hid (show JL R J W q6 g 10000 ss OJ6 O6 w10 from jf); clear jf)
    | (go_at_call 17; (with_reducible refine (HRO.out _ _ _ _ _ JF.out).mono ?_); rintro e w11 ⟨a11, c11, rfl, hs, -, hk⟩; have K11 := Lib.hid (Kp.trans JF.out.kW hk); have S11 := Lib.hid hs; clear hs hk)
    | (go_at_call 16; (with_reducible refine (HSM.out _ K11.out _ S11.out).mono ?_); rintro e w12 ⟨rfl, hk⟩; have K12 := Lib.hid (Kp.trans K11.out hk); clear hk))
  go_ret
  exact ⟨by first | rfl | simp, K12.out⟩

theorem comps_any (T : TapC ads W R) (C : JouC ads W R J) (V : St ads W) (v1 v2 : Value) (fs ss : List (List Int)) (hs1 : SlBB v1 fs W) (hs2 : SlBB v2 ss W) (lasts : Int) :
    Calls Tryd.prog 6 #[v1, v2, .int .i64 lasts] W fun e w' => e = .returned (.bool true) ∧ Kp W w' := by
  by_cases hL : LgR fs ∧ LgR ss
  · by_cases ho1 : okRs fs
    · by_cases ho2 : okRs ss
      · rcases odd_two lasts with hA | hA
        · exact comps_ok_0 T C v1 v2 fs ss hs1 hs2 lasts V hA hL.1 hL.2 ho1 ho2
        · exact comps_ok_1 T C v1 v2 fs ss hs1 hs2 lasts V hA hL.1 hL.2 ho1 ho2
      · rcases odd_two lasts with hA | hA
        · exact comps_bad2_0 T C v1 v2 fs ss hs1 hs2 lasts V hA hL.1 hL.2 ho1 ho2
        · exact comps_bad2_1 T C v1 v2 fs ss hs1 hs2 lasts V hA hL.1 hL.2 ho1 ho2
    · exact comps_bad1 T C v1 v2 fs ss hs1 hs2 lasts hL.1 hL.2 ho1
  · exact comps_long T C v1 v2 fs ss hs1 hs2 lasts hL
end Go.Proofs.YtpehmkglkjlmfaaDoor
