/-
  JournalKeeps (own work): behind a Put whose power goes.
-/
import Derived.Test.YtpehmkglkjlmfaaDoorKepL
import Derived.Test.YtpehmkglkjlmfaaDoorSamL
import Derived.Deep.RegionHeld3
namespace Go.Proofs.YtpehmkglkjlmfaaDoor
open Go.RowKit Go.ChangeShapes Go.WideShapes

variable {ads : List Addr} {R : Nat → TM → (Nat → Prop) → World → Prop} {J : Nat → Nat → JM → (Nat → Prop) → World → Prop} {W w w' : World} {q g q2 g2 : Nat} {OJ OJ' O O' OJ2 O2 P P' : Nat → Prop}

def more : List Int := [109, 111, 114, 101]
theorem more_in : ∀ r ∈ [more], InB r := by
  intro r hr
  obtain rfl := List.mem_singleton.1 hr
  intro x hx
  simp only [more, List.mem_cons, List.not_mem_nil, or_false] at hx
  omega
theorem more_ok : okRs [more] := by decide
theorem more_len : (allF [more]).length = 10 := by simp [allF, more, frm_len]
abbrev wmore (w : World) : World := (w.alloc (.cells #[.int .u8 109, .int .u8 111, .int .u8 114, .int .u8 101] 5 (4, 5))).alloc (.cells #[.slice (some ⟨w.heap.size, 0, none⟩) 4 4] 46)
theorem wmore_kp (w : World) : Kp w (wmore w) := Kp.trans (kp_alloc _ _) (kp_alloc _ _)
theorem wmore_sfe (w : World) {P : Nat → Prop} (hP : ∀ b, P b → b < w.heap.size) : Sfe P (.slice (some ⟨w.heap.size + 1, 0, none⟩) 1 1) [more] (wmore w) := fun w2 ha => by
  have r1 := kp_row (kp_alloc _ (.cells #[.slice (some ⟨w.heap.size, 0, none⟩) 4 4] 46)) (MapKept.heap_alloc w (.cells #[.int .u8 109, .int .u8 111, .int .u8 114, .int .u8 101] 5 (4, 5))).1
  have r2 := (MapKept.heap_alloc (w.alloc (.cells #[.int .u8 109, .int .u8 111, .int .u8 114, .int .u8 101] 5 (4, 5))) (.cells #[.slice (some ⟨w.heap.size, 0, none⟩) 4 4] 46)).1
  rw [alloc_up] at r2
  refine box_one (x := more) (n := 4) (row_slb ((ha.block _ (old_of_row r1) (fun q => by have := hP _ q; omega)).trans r1) rfl) rfl (more_in _ (by simp)) ((ha.block _ (old_of_row r2) (fun q => by have := hP _ q; omega)).trans r2)

set_option maxRecDepth 20000 in
set_option maxHeartbeats 8000000 in
theorem keeps_long (T : TapC ads W R) (C : JouC ads W R J) (v1 v2 : Value) (fs ss : List (List Int)) (hs1 : SlBB v1 fs W) (hs2 : SlBB v2 ss W) (keep : Int) (n0 : -9223372036854775808 ≤ keep) (n1 : keep ≤ 9223372036854775807) (hL : ¬ (LgR fs ∧ LgR ss)) :
    Calls Tryd.prog 5 #[v1, v2, .int .i64 keep] W fun e w' => e = .returned (.bool true) ∧ Kp W w' := by
  obtain ⟨a, cp, rfl⟩ := hs1.form
  obtain ⟨b, cp2, rfl⟩ := hs2.form
  have hin1 := slbb_in hs1
  have hin2 := slbb_in hs2
  obtain ⟨n, hn⟩ : ∃ n, fs.length = n := ⟨_, rfl⟩
  obtain ⟨n2, hn2⟩ : ∃ n, ss.length = n := ⟨_, rfl⟩
  rw [hn] at hs1 ⊢
  rw [hn2] at hs2 ⊢
  have HC := Lib.hid C
  have HT := Lib.hid T
  have HS1 := Lib.hid hs1
  have HS2 := Lib.hid hs2
  have HAL := Lib.hid (alive7 T C)
  have HLO := Lib.hid (fun w1 (hk : Kp W w1) => long7_any _ _ _ (slj_two (t := 44) (fr := (0, 0)) (hs1.kp hk) hn (hs2.kp hk) hn2))
  have HN := Lib.hid (fun w1 (hk : Kp W w1) => JL.new (room := 10000) T hk (by decide) (by decide))
  have HO := Lib.hid (fun w1 (hk : Kp W w1) g O (r : R g (liv (allF []) 10000) O w1) => JL.open T C hk r (by decide) (fun r hr => by cases hr) (by decide) (by decide) (by decide))
  have _u := And.intro n0 n1
  clear _u
  have HNL := Lib.hid (fun (h : Lg7 [(0, 0, fs), (0, 0, ss)]) => hL (lg_two h))
  clear T C hs1 hs2 hL hn hn2 hin1 hin2
  go_enter Tryd.func5, Tryd.ntmps5
  go_wp2_with (first
    | (go_at_call 8; (with_reducible refine HAL.out.mono ?_); rintro e w1 ⟨rfl, hk⟩; have K1 := Lib.hid hk; clear hk)
    | (go_at_call 9; (with_reducible refine (HLO.out _ K1.out).mono ?_); rintro e w2 ⟨hcase, hk⟩; have K2 := Lib.hid (Kp.trans (Kp.trans K1.out (kp_alloc _ _)) hk); have E := hcase.resolve_right (fun q => HNL.out q.1); obtain ⟨-, rfl⟩ := E; clear hk hcase))
  go_ret
  exact ⟨rfl, K2.out⟩

set_option maxRecDepth 20000 in
set_option maxHeartbeats 8000000 in
theorem keeps_bad1 (T : TapC ads W R) (C : JouC ads W R J) (v1 v2 : Value) (fs ss : List (List Int)) (hs1 : SlBB v1 fs W) (hs2 : SlBB v2 ss W) (keep : Int) (n0 : -9223372036854775808 ≤ keep) (n1 : keep ≤ 9223372036854775807) (hL1 : LgR fs) (hL2 : LgR ss) (ho1 : ¬ okRs fs) :
    Calls Tryd.prog 5 #[v1, v2, .int .i64 keep] W fun e w' => e = .returned (.bool true) ∧ Kp W w' := by
  obtain ⟨a, cp, rfl⟩ := hs1.form
  obtain ⟨b, cp2, rfl⟩ := hs2.form
  have hin1 := slbb_in hs1
  have hin2 := slbb_in hs2
  obtain ⟨n, hn⟩ : ∃ n, fs.length = n := ⟨_, rfl⟩
  obtain ⟨n2, hn2⟩ : ∃ n, ss.length = n := ⟨_, rfl⟩
  rw [hn] at hs1 ⊢
  rw [hn2] at hs2 ⊢
  have HC := Lib.hid C
  have HT := Lib.hid T
  have HS1 := Lib.hid hs1
  have HS2 := Lib.hid hs2
  have HAL := Lib.hid (alive7 T C)
  have HLO := Lib.hid (fun w1 (hk : Kp W w1) => long7_any _ _ _ (slj_two (t := 44) (fr := (0, 0)) (hs1.kp hk) hn (hs2.kp hk) hn2))
  have HN := Lib.hid (fun w1 (hk : Kp W w1) => JL.new (room := 10000) T hk (by decide) (by decide))
  have HO := Lib.hid (fun w1 (hk : Kp W w1) g O (r : R g (liv (allF []) 10000) O w1) => JL.open T C hk r (by decide) (fun r hr => by cases hr) (by decide) (by decide) (by decide))
  have _u := And.intro n0 n1
  clear _u
  have HLG := Lib.hid (show Lg7 [(0, 0, fs), (0, 0, ss)] from ⟨by simp, fun j hj => by have hj2 : j < 2 := hj; match j, hj2 with | 0, _ => exact hL1 | 1, _ => exact hL2⟩)
  have hle1 : ∀ r ∈ fs, r.length ≤ 300 := fun r hr => lgr_len hL1 hr
  have hle2 : ∀ r ∈ ss, r.length ≤ 300 := fun r hr => lgr_len hL2 hr
  have hn10 : n ≤ 10 := hn ▸ hL1.1
  have hn20 : n2 ≤ 10 := hn2 ▸ hL2.1
  have HP := fun w1 q g OJ O (h : JL R J W q g 10000 [] OJ O w1) (s : Sfe (Un OJ O) (.slice a n cp) fs w1) => JL.put_bad T C h ho1 (fun r hr => ⟨hin1 r hr, by have := hle1 r hr; omega⟩) s hn (by omega)
  obtain ⟨o4, ho4⟩ := errJ_iface ads 4 (by decide)
  simp only [ho4] at HP
  have HP := Lib.hid HP
  clear T C hs1 hs2 hL1 hL2 hn hn2 hin1 hin2 ho1 hle1 hle2 hn10 hn20 ho4
  go_enter Tryd.func5, Tryd.ntmps5
  go_wp2_with (first
    | (go_at_call 8; (with_reducible refine HAL.out.mono ?_); rintro e w1 ⟨rfl, hk⟩; have K1 := Lib.hid hk; clear hk)
    | (go_at_call 9; (with_reducible refine (HLO.out _ K1.out).mono ?_); rintro e w2 ⟨hcase, hk⟩; have K2 := Lib.hid (Kp.trans (Kp.trans K1.out (kp_alloc _ _)) hk); have E := hcase.resolve_left (fun q => q.1 HLG.out); obtain ⟨-, rfl⟩ := E; clear hk hcase)
    | (go_at_call 10; (with_reducible refine (HN.out _ K2.out).mono ?_); rintro e w3 ⟨g, O1, rfl, r, hn, hk⟩; have K3 := Lib.hid (Kp.trans K2.out hk); have R1 := Lib.hid r; clear r hn hk)
    | (go_at_call 11; (with_reducible refine (HO.out _ K3.out _ _ R1.out).mono ?_); rintro e w4 ⟨q, OJ1, O1', rfl, ja, ha⟩; have JA := Lib.hid ja; have SA := Lib.hid (Sfe.old (P := Un OJ1 O1') HS1.out ja.kW (fun b hb => (ja.mem HT.out HC.out b hb).1)); clear ja ha)
    | (go_at_call 28; (with_reducible refine (HP.out _ _ _ _ _ JA.out SA.out).mono ?_); rintro e w5 ⟨rfl, OJ2, O2, jb, ha⟩; have JB := Lib.hid jb; clear jb ha)
    | (go_at_call 18; (with_reducible refine (JB.out.len HC.out).mono ?_); rintro e w6 ⟨rfl, hk⟩; have K6 := Lib.hid (Kp.trans JB.out.kW hk); clear hk))
  go_ret
  exact ⟨by first | rfl | simp, K6.out⟩

set_option maxRecDepth 20000 in
set_option maxHeartbeats 8000000 in
theorem keeps_bad2 (T : TapC ads W R) (C : JouC ads W R J) (v1 v2 : Value) (fs ss : List (List Int)) (hs1 : SlBB v1 fs W) (hs2 : SlBB v2 ss W) (keep : Int) (n0 : -9223372036854775808 ≤ keep) (n1 : keep ≤ 9223372036854775807) (V : St ads W) (hL1 : LgR fs) (hL2 : LgR ss) (ho1 : okRs fs) (ho2 : ¬ okRs ss) :
    Calls Tryd.prog 5 #[v1, v2, .int .i64 keep] W fun e w' => e = .returned (.bool true) ∧ Kp W w' := by
  obtain ⟨a, cp, rfl⟩ := hs1.form
  obtain ⟨b, cp2, rfl⟩ := hs2.form
  have hin1 := slbb_in hs1
  have hin2 := slbb_in hs2
  obtain ⟨n, hn⟩ : ∃ n, fs.length = n := ⟨_, rfl⟩
  obtain ⟨n2, hn2⟩ : ∃ n, ss.length = n := ⟨_, rfl⟩
  rw [hn] at hs1 ⊢
  rw [hn2] at hs2 ⊢
  have HC := Lib.hid C
  have HT := Lib.hid T
  have HS1 := Lib.hid hs1
  have HS2 := Lib.hid hs2
  have HAL := Lib.hid (alive7 T C)
  have HLO := Lib.hid (fun w1 (hk : Kp W w1) => long7_any _ _ _ (slj_two (t := 44) (fr := (0, 0)) (hs1.kp hk) hn (hs2.kp hk) hn2))
  have HN := Lib.hid (fun w1 (hk : Kp W w1) => JL.new (room := 10000) T hk (by decide) (by decide))
  have HO := Lib.hid (fun w1 (hk : Kp W w1) g O (r : R g (liv (allF []) 10000) O w1) => JL.open T C hk r (by decide) (fun r hr => by cases hr) (by decide) (by decide) (by decide))
  have _u := And.intro n0 n1
  clear _u
  have HLG := Lib.hid (show Lg7 [(0, 0, fs), (0, 0, ss)] from ⟨by simp, fun j hj => by have hj2 : j < 2 := hj; match j, hj2 with | 0, _ => exact hL1 | 1, _ => exact hL2⟩)
  have hle1 : ∀ r ∈ fs, r.length ≤ 300 := fun r hr => lgr_len hL1 hr
  have hle2 : ∀ r ∈ ss, r.length ≤ 300 := fun r hr => lgr_len hL2 hr
  have hn10 : n ≤ 10 := hn ▸ hL1.1
  have hn20 : n2 ≤ 10 := hn2 ▸ hL2.1
  have HP1 := Lib.hid (fun w1 q g OJ O (h : JL R J W q g 10000 [] OJ O w1) (s : Sfe (Un OJ O) (.slice a n cp) fs w1) => JL.put T C h ho1 hin1 (by rw [allF_nil]; have := lgr_all hL1 ho1; simp; omega) s hn (by omega))
  have HP2 := fun w1 q g OJ O (h : JT R J W q g ⟨fs, false⟩ (armM (liv (allF fs) 10000) 1) OJ O w1) (s : Sfe (Un OJ O) (.slice b n2 cp2) ss w1) => h.putC T C (fun r hr => ⟨hin2 r hr, by have := hle2 r hr; omega⟩) s hn2 (by omega)
  have e2 := put_bad (rows := fs) (m := armM (liv (allF fs) 10000) 1) ho2
  obtain ⟨o4, ho4⟩ := errJ_iface ads 4 (by decide)
  simp only [e2, ho4] at HP2
  have HP2 := Lib.hid HP2
  have HNU := fun w1 (hk : Kp W w1) => num_errN ads w1 (V.below hk) 4 (by decide) (by decide)
  simp only [ho4] at HNU
  have HNU := Lib.hid HNU
  clear T C V hs1 hs2 hL1 hL2 hn hn2 hin1 hin2 ho1 ho2 hle1 hle2 hn10 hn20 ho4 e2
  go_enter Tryd.func5, Tryd.ntmps5
  go_wp2_with (first
    | (go_at_call 8; (with_reducible refine HAL.out.mono ?_); rintro e w1 ⟨rfl, hk⟩; have K1 := Lib.hid hk; clear hk)
    | (go_at_call 9; (with_reducible refine (HLO.out _ K1.out).mono ?_); rintro e w2 ⟨hcase, hk⟩; have K2 := Lib.hid (Kp.trans (Kp.trans K1.out (kp_alloc _ _)) hk); have E := hcase.resolve_left (fun q => q.1 HLG.out); obtain ⟨-, rfl⟩ := E; clear hk hcase)
    | (go_at_call 10; (with_reducible refine (HN.out _ K2.out).mono ?_); rintro e w3 ⟨g, O1, rfl, r, hn, hk⟩; have K3 := Lib.hid (Kp.trans K2.out hk); have R1 := Lib.hid r; clear r hn hk)
    | (go_at_call 11; (with_reducible refine (HO.out _ K3.out _ _ R1.out).mono ?_); rintro e w4 ⟨q, OJ1, O1', rfl, ja, ha⟩; have JA := Lib.hid ja; have SA := Lib.hid (Sfe.old (P := Un OJ1 O1') HS1.out ja.kW (fun b hb => (ja.mem HT.out HC.out b hb).1)); clear ja ha)
    | (go_at_call 28; (with_reducible refine (HP1.out _ _ _ _ _ JA.out SA.out).mono ?_); rintro e w5 ⟨rfl, OJ2, O2, jb, ha⟩; have JB := Lib.hid (show JL R J W q g 10000 fs OJ2 O2 w5 from jb); clear jb ha)
    | (go_at_call 29; (with_reducible refine (JB.out.armC HT.out HC.out 1 (by decide) (by decide)).mono ?_); rintro e w6 ⟨rfl, O3, jc, ha⟩; have JC := Lib.hid jc; have SC := Lib.hid (Sfe.old (P := Un OJ2 O3) HS2.out jc.kW (fun b hb => (jc.mem HT.out HC.out b hb).1)); clear jc ha)
    | (go_at_call 28; (with_reducible refine (HP2.out _ _ _ _ _ JC.out SC.out).mono ?_); rintro e w7 ⟨rfl, OJ4, O4, jd, ha⟩; have JD := Lib.hid jd; clear jd ha)
    | (go_at_call 20; (with_reducible refine (JD.out.dead HC.out).mono ?_); rintro e w8 ⟨rfl, hk⟩; have K8 := Lib.hid (Kp.trans JD.out.kW hk); clear hk)
    | (go_at_call 24; (with_reducible refine (HNU.out _ K8.out).mono ?_); rintro e w9 ⟨rfl, hk⟩; have K9 := Lib.hid (Kp.trans K8.out hk); clear hk))
  go_ret
  exact ⟨by first | rfl | simp, K9.out⟩

set_option maxRecDepth 20000 in
set_option maxHeartbeats 8000000 in
theorem keeps_nil (T : TapC ads W R) (C : JouC ads W R J) (v1 v2 : Value) (fs ss : List (List Int)) (hs1 : SlBB v1 fs W) (hs2 : SlBB v2 ss W) (keep : Int) (n0 : -9223372036854775808 ≤ keep) (n1 : keep ≤ 9223372036854775807) (hL1 : LgR fs) (hL2 : LgR ss) (ho1 : okRs fs) (he : ss = []) :
    Calls Tryd.prog 5 #[v1, v2, .int .i64 keep] W fun e w' => e = .returned (.bool true) ∧ Kp W w' := by
  obtain ⟨a, cp, rfl⟩ := hs1.form
  obtain ⟨b, cp2, rfl⟩ := hs2.form
  have hin1 := slbb_in hs1
  have hin2 := slbb_in hs2
  obtain ⟨n, hn⟩ : ∃ n, fs.length = n := ⟨_, rfl⟩
  obtain ⟨n2, hn2⟩ : ∃ n, ss.length = n := ⟨_, rfl⟩
  rw [hn] at hs1 ⊢
  rw [hn2] at hs2 ⊢
  have HC := Lib.hid C
  have HT := Lib.hid T
  have HS1 := Lib.hid hs1
  have HS2 := Lib.hid hs2
  have HAL := Lib.hid (alive7 T C)
  have HLO := Lib.hid (fun w1 (hk : Kp W w1) => long7_any _ _ _ (slj_two (t := 44) (fr := (0, 0)) (hs1.kp hk) hn (hs2.kp hk) hn2))
  have HN := Lib.hid (fun w1 (hk : Kp W w1) => JL.new (room := 10000) T hk (by decide) (by decide))
  have HO := Lib.hid (fun w1 (hk : Kp W w1) g O (r : R g (liv (allF []) 10000) O w1) => JL.open T C hk r (by decide) (fun r hr => by cases hr) (by decide) (by decide) (by decide))
  have _u := And.intro n0 n1
  clear _u
  have HLG := Lib.hid (show Lg7 [(0, 0, fs), (0, 0, ss)] from ⟨by simp, fun j hj => by have hj2 : j < 2 := hj; match j, hj2 with | 0, _ => exact hL1 | 1, _ => exact hL2⟩)
  have hle1 : ∀ r ∈ fs, r.length ≤ 300 := fun r hr => lgr_len hL1 hr
  have hle2 : ∀ r ∈ ss, r.length ≤ 300 := fun r hr => lgr_len hL2 hr
  have hn10 : n ≤ 10 := hn ▸ hL1.1
  have hn20 : n2 ≤ 10 := hn2 ▸ hL2.1
  have HP1 := Lib.hid (fun w1 q g OJ O (h : JL R J W q g 10000 [] OJ O w1) (s : Sfe (Un OJ O) (.slice a n cp) fs w1) => JL.put T C h ho1 hin1 (by rw [allF_nil]; have := lgr_all hL1 ho1; simp; omega) s hn (by omega))
  have HP2 := fun w1 q g OJ O (h : JT R J W q g ⟨fs, false⟩ (armM (liv (allF fs) 10000) 1) OJ O w1) (s : Sfe (Un OJ O) (.slice b n2 cp2) ss w1) => h.putC T C (fun r hr => ⟨hin2 r hr, by have := hle2 r hr; omega⟩) s hn2 (by omega)
  have e2 : putJ ⟨fs, false⟩ (armM (liv (allF fs) 10000) 1) ss = (0, ⟨fs, false⟩, armM (liv (allF fs) 10000) 1) := by rw [he]; exact put_arm_nil
  simp only [e2, errI_nil] at HP2
  have HP2 := Lib.hid HP2
  obtain rfl : n2 = 0 := by rw [← hn2, he]; rfl
  clear T C hs1 hs2 hL1 hL2 hn hn2 hin1 hin2 ho1 he hle1 hle2 hn10 hn20 e2
  go_enter Tryd.func5, Tryd.ntmps5
  go_wp2_with (first
    | (go_at_call 8; (with_reducible refine HAL.out.mono ?_); rintro e w1 ⟨rfl, hk⟩; have K1 := Lib.hid hk; clear hk)
    | (go_at_call 9; (with_reducible refine (HLO.out _ K1.out).mono ?_); rintro e w2 ⟨hcase, hk⟩; have K2 := Lib.hid (Kp.trans (Kp.trans K1.out (kp_alloc _ _)) hk); have E := hcase.resolve_left (fun q => q.1 HLG.out); obtain ⟨-, rfl⟩ := E; clear hk hcase)
    | (go_at_call 10; (with_reducible refine (HN.out _ K2.out).mono ?_); rintro e w3 ⟨g, O1, rfl, r, hn, hk⟩; have K3 := Lib.hid (Kp.trans K2.out hk); have R1 := Lib.hid r; clear r hn hk)
    | (go_at_call 11; (with_reducible refine (HO.out _ K3.out _ _ R1.out).mono ?_); rintro e w4 ⟨q, OJ1, O1', rfl, ja, ha⟩; have JA := Lib.hid ja; have SA := Lib.hid (Sfe.old (P := Un OJ1 O1') HS1.out ja.kW (fun b hb => (ja.mem HT.out HC.out b hb).1)); clear ja ha)
    | (go_at_call 28; (with_reducible refine (HP1.out _ _ _ _ _ JA.out SA.out).mono ?_); rintro e w5 ⟨rfl, OJ2, O2, jb, ha⟩; have JB := Lib.hid (show JL R J W q g 10000 fs OJ2 O2 w5 from jb); clear jb ha)
    | (go_at_call 29; (with_reducible refine (JB.out.armC HT.out HC.out 1 (by decide) (by decide)).mono ?_); rintro e w6 ⟨rfl, O3, jc, ha⟩; have JC := Lib.hid jc; have SC := Lib.hid (Sfe.old (P := Un OJ2 O3) HS2.out jc.kW (fun b hb => (jc.mem HT.out HC.out b hb).1)); clear jc ha)
    | (go_at_call 28; (with_reducible refine (HP2.out _ _ _ _ _ JC.out SC.out).mono ?_); rintro e w7 ⟨rfl, OJ4, O4, jd, ha⟩; have JD := Lib.hid jd; clear jd ha))
  go_ret
  exact ⟨by first | rfl | simp, JD.out.kW⟩

set_option maxRecDepth 20000 in
set_option maxHeartbeats 8000000 in
theorem keeps_ok (T : TapC ads W R) (C : JouC ads W R J) (v1 v2 : Value) (fs ss : List (List Int)) (hs1 : SlBB v1 fs W) (hs2 : SlBB v2 ss W) (keep : Int) (n0 : -9223372036854775808 ≤ keep) (n1 : keep ≤ 9223372036854775807) (hL1 : LgR fs) (hL2 : LgR ss) (ho1 : okRs fs) (ho2 : okRs ss) (he : ss ≠ []) :
    Calls Tryd.prog 5 #[v1, v2, .int .i64 keep] W fun e w' => e = .returned (.bool true) ∧ Kp W w' := by
  obtain ⟨a, cp, rfl⟩ := hs1.form
  obtain ⟨b, cp2, rfl⟩ := hs2.form
  have hin1 := slbb_in hs1
  have hin2 := slbb_in hs2
  obtain ⟨n, hn⟩ : ∃ n, fs.length = n := ⟨_, rfl⟩
  obtain ⟨n2, hn2⟩ : ∃ n, ss.length = n := ⟨_, rfl⟩
  rw [hn] at hs1 ⊢
  rw [hn2] at hs2 ⊢
  have HC := Lib.hid C
  have HT := Lib.hid T
  have HS1 := Lib.hid hs1
  have HS2 := Lib.hid hs2
  have HAL := Lib.hid (alive7 T C)
  have HLO := Lib.hid (fun w1 (hk : Kp W w1) => long7_any _ _ _ (slj_two (t := 44) (fr := (0, 0)) (hs1.kp hk) hn (hs2.kp hk) hn2))
  have HN := Lib.hid (fun w1 (hk : Kp W w1) => JL.new (room := 10000) T hk (by decide) (by decide))
  have HO := Lib.hid (fun w1 (hk : Kp W w1) g O (r : R g (liv (allF []) 10000) O w1) => JL.open T C hk r (by decide) (fun r hr => by cases hr) (by decide) (by decide) (by decide))
  have _u := And.intro n0 n1
  clear _u
  have HLG := Lib.hid (show Lg7 [(0, 0, fs), (0, 0, ss)] from ⟨by simp, fun j hj => by have hj2 : j < 2 := hj; match j, hj2 with | 0, _ => exact hL1 | 1, _ => exact hL2⟩)
  have hle1 : ∀ r ∈ fs, r.length ≤ 300 := fun r hr => lgr_len hL1 hr
  have hle2 : ∀ r ∈ ss, r.length ≤ 300 := fun r hr => lgr_len hL2 hr
  have hn10 : n ≤ 10 := hn ▸ hL1.1
  have hn20 : n2 ≤ 10 := hn2 ▸ hL2.1
  have HP1 := Lib.hid (fun w1 q g OJ O (h : JL R J W q g 10000 [] OJ O w1) (s : Sfe (Un OJ O) (.slice a n cp) fs w1) => JL.put T C h ho1 hin1 (by rw [allF_nil]; have := lgr_all hL1 ho1; simp; omega) s hn (by omega))
  have HP2 := fun w1 q g OJ O (h : JT R J W q g ⟨fs, false⟩ (armM (liv (allF fs) 10000) 1) OJ O w1) (s : Sfe (Un OJ O) (.slice b n2 cp2) ss w1) => h.putC T C (fun r hr => ⟨hin2 r hr, by have := hle2 r hr; omega⟩) s hn2 (by omega)
  have hA1 := lgr_all hL1 ho1
  have hA2 := lgr_all hL2 ho2
  have e2 := put_arm (room := 10000) (fs := fs) ho2 he (by omega)
  obtain ⟨o7, ho7⟩ := errJ_iface ads 7 (by decide)
  simp only [e2, ho7] at HP2
  have HP2 := Lib.hid HP2
  obtain ⟨jn, hjn, hrd⟩ := keeps_rows ho1 ho2 keep.toNat
  obtain ⟨rs, hrs⟩ : ∃ x, fs ++ ss.take jn = x := ⟨_, rfl⟩
  rw [hrs] at hrd
  have hors : okRs rs := by rw [← hrs]; exact okRs_app ho1 (fun r hr => ho2 r (List.mem_of_mem_take hr))
  have hinrs : ∀ r ∈ rs, InB r := by rw [← hrs]; exact inRs_app hin1 (fun r hr => hin2 r (List.mem_of_mem_take hr))
  obtain ⟨s, hsd⟩ : ∃ x, allF fs ++ (allF ss).take keep.toNat = x := ⟨_, rfl⟩
  have hsin : InB s := by rw [← hsd]; exact (allF_in hin1 ho1).app ((allF_in hin2 ho2).take _)
  have hslen : s.length ≤ 4120 := by rw [← hsd, List.length_append, List.length_take]; omega
  have hrlen : (allF rs).length ≤ 4120 := by have := rd_le s; rw [← hsd, hrd] at this; rw [← hsd] at hslen; omega
  rw [hsd] at hrd
  have ecr : crashM { sure := allF fs, tail := allF ss, room := 10000, left := 0, off := true } keep = liv s 10000 := by rw [crash_arm, hsd]
  have hsok : Mok (liv s 10000) := livs_ok hsin (by omega) (by decide) (by decide)
  have eop := open_livs s 10000
  rw [hrd] at eop
  have HCR := fun w1 q g OJ O (h : JT R J W q g ⟨fs, true⟩ { sure := allF fs, tail := allF ss, room := 10000, left := 0, off := true } OJ O w1) => h.crashC T keep n0 n1
  simp only [ecr] at HCR
  have HCR := Lib.hid HCR
  have HOP := fun w1 (hk : Kp W w1) g O (r : R g (liv s 10000) O w1) => JT.openC T C hk r hsok rfl (by rw [eop.1])
  simp only [eop.1, eop.2] at HOP
  have HOP := Lib.hid HOP
  have hlr : rs.length = n + jn := by rw [← hrs, List.length_append, List.length_take, hn]; omega
  obtain ⟨L, hL⟩ : ∃ x : Int, (rs.length : Int) = x := ⟨_, rfl⟩
  have HLE := fun w1 q g OJ O (h : JL R J W q g 10000 rs OJ O w1) => h.len C
  simp only [hL] at HLE
  have HLE := Lib.hid HLE
  have HRO := Lib.hid (fun w1 q g OJ O (h : JL R J W q g 10000 rs OJ O w1) => h.rowsC C)
  have hj2 : (n : Int) ≤ L := by omega
  have hj3 : L ≤ (n : Int) + (n2 : Int) := by omega
  have hj4 : L ≤ 20 := by omega
  have htk : (fs ++ ss).take rs.length = rs := by
    rw [hlr, ← hn, List.take_append, List.take_of_length_le (by omega), ← hrs]
    congr 2
    omega
  have HTK := Lib.hid htk
  have HLR := Lib.hid hlr
  have HJN := Lib.hid (show n + jn ≤ n + n2 by omega)
  have HLL := Lib.hid hL
  have HPM := fun w1 q g OJ O (h : JL R J W q g 10000 rs OJ O w1) b (sf : Sfe (Un OJ O) (.slice (some ⟨b, 0, none⟩) 1 1) [more] w1) => JL.put T C h more_ok more_in (by rw [more_len]; omega) sf rfl (by decide)
  have HPM := Lib.hid HPM
  obtain ⟨rs3, hrs3⟩ : ∃ x, rs ++ [more] = x := ⟨_, rfl⟩
  have HR3 := Lib.hid hrs3
  have ho3 : okRs rs3 := by rw [← hrs3]; exact okRs_app hors more_ok
  have hin3 : ∀ r ∈ rs3, InB r := by rw [← hrs3]; exact inRs_app hinrs more_in
  have hl3 : (allF rs3).length ≤ 4130 := by rw [← hrs3, allF_app, List.length_append, more_len]; omega
  have HCR3 := fun w1 q g OJ O (h : JL R J W q g 10000 rs3 OJ O w1) => h.crashC T 0 (by decide) (by decide)
  simp only [crash_liv] at HCR3
  have HCR3 := Lib.hid HCR3
  have HOP3 := fun w1 (hk : Kp W w1) g O (r : R g (liv (allF rs3) 10000) O w1) => JT.openC T C hk r (liv_ok ho3 hin3 (by omega) (by decide) (by decide)) rfl (by rw [(open_liv ho3).1])
  simp only [(open_liv (room := 10000) ho3).1, (open_liv (room := 10000) ho3).2] at HOP3
  have HOP3 := Lib.hid HOP3
  obtain ⟨L3, hL3⟩ : ∃ x : Int, (rs3.length : Int) = x := ⟨_, rfl⟩
  have HLE3 := fun w1 q g OJ O (h : JL R J W q g 10000 rs3 OJ O w1) => h.len C
  simp only [hL3] at HLE3
  have HLE3 := Lib.hid HLE3
  have HKO3 := Lib.hid (And.intro (liv_ok (room := 10000) ho3 hin3 (by omega) (by decide) (by decide)) (liv_ji (room := 10000) ho3 hin3))
  have hcs := fun (w : World) (C : Array Value) (n c : Nat) => Lib.run_convert_bytes_const (P := Tryd.prog) w 46 5 C n c Tryd.underlying46 Tryd.underlying5
  have HSM := fun w1 u u2 (hu : SlBB u rs w1) (hu2 : SlBB u2 rs w1) => same_any u u2 rs rs (by omega) w1 hu hu2
  simp only at HSM
  have HSM := Lib.hid HSM
  clear T C hs1 hs2 hL1 hL2 hn hn2 hin1 hin2 ho1 ho2 he hle1 hle2 ho7 e2 hjn hrd hrs hors hinrs hsd hsin hslen hrlen ecr hsok eop hlr hL htk hrs3 ho3 hin3 hl3 hL3 hA1 hA2
  go_enter Tryd.func5, Tryd.ntmps5
  go_wp2_with (first
    | (go_at_call 8; (with_reducible refine HAL.out.mono ?_); rintro e w1 ⟨rfl, hk⟩; have K1 := Lib.hid hk; clear hk)
    | (go_at_call 9; (with_reducible refine (HLO.out _ K1.out).mono ?_); rintro e w2 ⟨hcase, hk⟩; have K2 := Lib.hid (Kp.trans (Kp.trans K1.out (kp_alloc _ _)) hk); have E := hcase.resolve_left (fun q => q.1 HLG.out); obtain ⟨-, rfl⟩ := E; clear hk hcase)
    | (go_at_call 10; (with_reducible refine (HN.out _ K2.out).mono ?_); rintro e w3 ⟨g, O1, rfl, r, hn, hk⟩; have K3 := Lib.hid (Kp.trans K2.out hk); have R1 := Lib.hid r; clear r hn hk)
    | (go_at_call 11; (with_reducible refine (HO.out _ K3.out _ _ R1.out).mono ?_); rintro e w4 ⟨q, OJ1, O1', rfl, ja, ha⟩; have JA := Lib.hid ja; have SA := Lib.hid (Sfe.old (P := Un OJ1 O1') HS1.out ja.kW (fun b hb => (ja.mem HT.out HC.out b hb).1)); clear ja ha)
    | (go_at_call 28; (with_reducible refine (HP1.out _ _ _ _ _ JA.out SA.out).mono ?_); rintro e w5 ⟨rfl, OJ2, O2, jb, ha⟩; have JB := Lib.hid (show JL R J W q g 10000 fs OJ2 O2 w5 from jb); clear jb ha)
    | (go_at_call 29; (with_reducible refine (JB.out.armC HT.out HC.out 1 (by decide) (by decide)).mono ?_); rintro e w6 ⟨rfl, O3, jc, ha⟩; have JC := Lib.hid jc; have SC := Lib.hid (Sfe.old (P := Un OJ2 O3) HS2.out jc.kW (fun b hb => (jc.mem HT.out HC.out b hb).1)); clear jc ha)
    | (go_at_call 28; (with_reducible refine (HP2.out _ _ _ _ _ JC.out SC.out).mono ?_); rintro e w7 ⟨rfl, OJ4, O4, jd, ha⟩; have JD := Lib.hid jd; clear jd ha)
    | (go_at_call 20; (with_reducible refine (JD.out.dead HC.out).mono ?_); rintro e w8 ⟨rfl, hk⟩; have JE := Lib.hid (JD.out.kp HT.out HC.out hk); clear hk)
    | (go_at_call 30; (with_reducible refine (HCR.out _ _ _ _ _ JE.out).mono ?_); rintro e w9 ⟨rfl, O5, r, hk, -⟩; have R9 := Lib.hid r; have K9 := Lib.hid hk; clear r hk)
    | (go_at_call 11; (with_reducible refine (HOP.out _ K9.out _ _ R9.out).mono ?_); rintro e w10 ⟨q6, OJ6, O6, rfl, jf, -, -⟩; have JF := Lib.hid (show JL R J W q6 g 10000 rs OJ6 O6 w10 from jf); clear jf)
    | (go_at_call 18; (with_reducible refine (HLE.out _ _ _ _ _ JF.out).mono ?_); rintro e w11 ⟨rfl, hk⟩; have JG := Lib.hid (JF.out.kp HT.out HC.out hk); clear hk)
    | (go_at_call 18; (with_reducible refine (HLE.out _ _ _ _ _ JG.out).mono ?_); rintro e w12 ⟨rfl, hk⟩; have JH := Lib.hid (JG.out.kp HT.out HC.out hk); have OW0 := Lib.hid (own_empty w12 46); have KW0 := Lib.hid (Kp.trans JH.out.kW (kp_alloc w12 (.cells #[] 46))); clear hk)
    | (at_builtin; refine wpList_append_rows _ rfl _ _ rfl w12.heap.size _ _ _ rfl OW0.out a n cp fs rfl HS1.out KW0.out ?f1 ?f2 ?_))
  case f1 => omega
  case f2 => exact Below.size (kp_alloc _ _)
  intro us1 v13 w13 hv1 hown1 hgr1 _
  have K13 := Lib.hid (row_kp OW0.out hgr1 (kp_alloc w12 (.cells #[] 46)))
  have V1 := Lib.hid hv1
  have OW1 := Lib.hid hown1
  have KW1 := Lib.hid (Kp.trans JH.out.kW K13.out)
  clear hv1 hown1 hgr1
  go_wp2_with (at_builtin; refine wpList_append_rows _ rfl _ _ rfl w12.heap.size _ _ _ rfl OW1.out b n2 cp2 ss rfl HS2.out KW1.out ?e1 ?e2 ?_)
  case e1 => omega
  case e2 => exact Below.size K13.out
  intro us2 v14 w14 hv2 hown2 hgr2 _
  have K14 := Lib.hid (row_kp OW1.out hgr2 K13.out)
  have VV := Lib.hid ((V1.out.app hv2).kp (Kp.trans JH.out.kW K14.out))
  have OW2 := Lib.hid hown2
  have JI := Lib.hid (JH.out.kp HT.out HC.out K14.out)
  have hmm : ((n + jn : Nat) : Int) = L := by rw [← HLR.out]; exact HLL.out
  clear hv2 hown2 hgr2
  obtain ⟨A, CC, hsl, hsb⟩ := own_headR OW2.out VV.out HJN.out hmm
  rw [← HLR.out, HTK.out, HLR.out] at hsb
  have SB := Lib.hid hsb
  clear hsb hmm
  go_wp2_with (first
    | (go_at_call 17; (with_reducible refine (HRO.out _ _ _ _ _ JI.out).mono ?_); rintro e w15 ⟨a15, c15, rfl, hs, -, hk⟩; have JJ := Lib.hid (JI.out.kp HT.out HC.out hk); have S15 := Lib.hid hs; have S15b := Lib.hid (SB.out.kp hk); clear hs hk)
    | (go_at_call 18; (with_reducible refine (HLE.out _ _ _ _ _ JJ.out).mono ?_); rintro e w16 ⟨rfl, hk⟩; have JK := Lib.hid (JJ.out.kp HT.out HC.out hk); have S16 := Lib.hid (S15.out.kp hk); have S16b := Lib.hid (S15b.out.kp hk); clear hk)
    | (go_at_call 16; (with_reducible refine (HSM.out _ _ _ S16.out S16b.out).mono ?_); rintro e w17 ⟨rfl, hk⟩; have JL1 := Lib.hid (JK.out.kp HT.out HC.out hk); have JM1 := Lib.hid (JL1.out.kp HT.out HC.out (wmore_kp w17)); have SM := Lib.hid (wmore_sfe w17 (P := Un OJ6 O6) (fun b hb => (JL1.out.mem HT.out HC.out b hb).2)); clear hk)
    | (go_at_call 28; (with_reducible refine (HPM.out _ _ _ _ _ JM1.out _ SM.out).mono ?_); rintro e w18 ⟨rfl, OJ7, O7, jx, ha⟩; rw [HR3.out] at jx; have JN := Lib.hid jx; clear jx ha)
    | (go_at_call 30; (with_reducible refine (HCR3.out _ _ _ _ _ JN.out).mono ?_); rintro e w19 ⟨rfl, O8, r, hk, ha⟩; have R19 := Lib.hid r; have K19 := Lib.hid hk; have JO := Lib.hid (show JL R J W q6 g 10000 rs3 OJ7 O8 w19 from JN.out.tape HT.out HC.out r HKO3.out.1 HKO3.out.2 ha); clear r hk ha)
    | (go_at_call 11; (with_reducible refine (HOP3.out _ K19.out _ _ R19.out).mono ?_); rintro e w20 ⟨q9, OJ9, O9, rfl, jp, -, ha⟩; have JP := Lib.hid (show JL R J W q9 g 10000 rs3 OJ9 O9 w20 from jp); have JQ := Lib.hid (show JL R J W q6 g 10000 rs3 OJ7 O9 w20 from JO.out.tape HT.out HC.out jp.r HKO3.out.1 HKO3.out.2 ha); clear jp ha)
    | (go_at_call 18; (with_reducible refine (HLE3.out _ _ _ _ _ JP.out).mono ?_); rintro e w21 ⟨rfl, hk⟩; have JQ2 := Lib.hid (JQ.out.kp HT.out HC.out hk); clear hk)
    | (go_at_call 18; (with_reducible refine (HLE3.out _ _ _ _ _ JQ2.out).mono ?_); rintro e w22 ⟨rfl, hk⟩; have JR := Lib.hid (JQ2.out.kp HT.out HC.out hk); clear hk))
  go_ret
  exact ⟨by first | rfl | simp, JR.out.kW⟩

theorem keeps_any (T : TapC ads W R) (C : JouC ads W R J) (V : St ads W) (v1 v2 : Value) (fs ss : List (List Int)) (hs1 : SlBB v1 fs W) (hs2 : SlBB v2 ss W) (keep : Int) (n0 : -9223372036854775808 ≤ keep) (n1 : keep ≤ 9223372036854775807) :
    Calls Tryd.prog 5 #[v1, v2, .int .i64 keep] W fun e w' => e = .returned (.bool true) ∧ Kp W w' := by
  by_cases hL : LgR fs ∧ LgR ss
  · by_cases ho1 : okRs fs
    · by_cases he : ss = []
      · exact keeps_nil T C v1 v2 fs ss hs1 hs2 keep n0 n1 hL.1 hL.2 ho1 he
      · by_cases ho2 : okRs ss
        · exact keeps_ok T C v1 v2 fs ss hs1 hs2 keep n0 n1 hL.1 hL.2 ho1 ho2 he
        · exact keeps_bad2 T C v1 v2 fs ss hs1 hs2 keep n0 n1 V hL.1 hL.2 ho1 ho2
    · exact keeps_bad1 T C v1 v2 fs ss hs1 hs2 keep n0 n1 hL.1 hL.2 ho1
  · exact keeps_long T C v1 v2 fs ss hs1 hs2 keep n0 n1 hL
end Go.Proofs.YtpehmkglkjlmfaaDoor
