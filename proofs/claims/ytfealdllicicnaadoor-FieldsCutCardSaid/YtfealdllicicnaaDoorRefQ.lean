/-
  THE DOCUMENT's ROWS (own work): liaisonref03.Find, Right, Same, Join.
-/
import Derived.Test.YtfealdllicicnaaDoorSlQ
namespace Go.Proofs.YtfealdllicicnaaDoor
open Go.RowKit Go.ChangeShapes Go.WideShapes

theorem find_hit (tag : Int) : ∀ (fs : List (Int × List Int)) (j : Nat) (h : j < fs.length), (∀ i (_ : i < j) (hi' : i < fs.length), fs[i].1 ≠ tag) → fs[j].1 = tag → (fs.find? fun f => f.1 == tag) = some fs[j]
  | [], _, h, _, _ => absurd h (by simp)
  | x :: t, 0, _, _, hx => by
    have : (x.1 == tag) = true := by simpa using hx
    rw [List.find?_cons, this]
    rfl
  | x :: t, j + 1, h, hz, hx => by
    have h0 : (x.1 == tag) = false := by
      have := hz 0 (by omega) (by simp)
      simpa using this
    rw [List.find?_cons, h0]
    exact find_hit tag t j (by simpa using h) (fun i hi hi' => hz (i + 1) (by omega) (by simpa using hi')) hx
theorem find_miss (tag : Int) : ∀ (fs : List (Int × List Int)), (∀ i (hi' : i < fs.length), fs[i].1 ≠ tag) → (fs.find? fun f => f.1 == tag) = none
  | [], _ => rfl
  | x :: t, hz => by
    have h0 : (x.1 == tag) = false := by
      have := hz 0 (by simp)
      simpa using this
    rw [List.find?_cons, h0]
    exact find_miss tag t (fun i hi' => hz (i + 1) (by simpa using hi'))

/-- WHAT Find ANSWERS. -/
def FindP (fs : List (Int × List Int)) (tag : Int) (e : Ending) (w : World) : Prop :=
  match (fs.find? fun f => f.1 == tag) with
  | some f => ∃ d, e = .returned (.tuple #[d, .bool true]) ∧ DatB d f.2 w
  | none => e = .returned (.tuple #[.slice none 0 0, .bool false])

set_option maxRecDepth 20000 in
theorem refFind_any (a : Option Addr) (cap : Nat) (fs : List (Int × List Int)) (len : Nat) (hlen : fs.length = len) (hl : len ≤ 100000) (tag : Int) (w : World) (hs : SlQ (.slice a len cap) fs w) :
    Calls Tryd.prog 12 #[.slice a len cap, .int .i64 tag] w fun e w' => FindP fs tag e w' ∧ Kp w w' := by
  have hel : ∀ wr, Kp w wr → ∀ j (hj : j < fs.length), ∃ b off, a = some ⟨b, off, none⟩ ∧ wr.cell? ⟨b, off + j * 2, none⟩ = some (.int .i64 fs[j].1) ∧ ∃ a' c, wr.cell? ⟨b, off + j * 2 + 1, none⟩ = some (.slice a' fs[j].2.length c) ∧ SlB (.slice a' fs[j].2.length c) fs[j].2 wr ∧ InB fs[j].2 :=
    fun wr hk j hj => (hs.kp hk).at j hj
  have HEL := Lib.hid hel
  have HL := Lib.hid hlen
  clear hel hs hlen
  go_enter Tryd.func12, Tryd.ntmps12
  go_wp2
  go_loopw [10] (fun i wr => ∃ j : Nat, j ≤ len ∧ i = .int .i64 j ∧ Kp w wr ∧ ∀ i (hi : i < j) (hi' : i < fs.length), fs[i].1 ≠ tag) (fun i _ => len - (intOf i).toNat)
  case atStart => exact ⟨0, Nat.zero_le _, rfl, Kp.refl _, fun i hi => absurd hi (by omega)⟩
  case round =>
    obtain ⟨j, hj, rfl, hk, hz⟩ := hrel
    have HK := Lib.hid hk
    have HZ := Lib.hid hz
    have hln := HL.out
    clear hk hz
    obtain ⟨jj, hjj⟩ : ∃ jj : Int, (j : Int) = jj := ⟨_, rfl⟩
    rw [hjj]
    by_cases hlt : j < len
    · have hjl : j < fs.length := by omega
      obtain ⟨b, off, rfl, c0, a1, k1, c1, h1, h2⟩ := HEL.out wr HK.out j hjl
      obtain ⟨tj, htj⟩ : ∃ tj, fs[j].1 = tj := ⟨_, rfl⟩
      obtain ⟨n1, hn1⟩ : ∃ n1, fs[j].2.length = n1 := ⟨_, rfl⟩
      have hd : DatB (.slice a1 n1 k1) fs[j].2 wr := ⟨a1, k1, by rw [hn1], h1, h2⟩
      rw [htj] at c0
      rw [hn1] at c1
      have ej : jj.toNat = j := by omega
      rw [← ej] at c0 c1
      have hj0 : 0 ≤ jj := by omega
      have hltj : jj < len := by omega
      have HJ := Lib.hid hjj
      have HD := Lib.hid hd
      have HT := Lib.hid htj
      clear hjj ej htj hn1 h1 h2 hd hln hlt
      by_cases ht : tj = tag
      · subst ht
        go_wp2
        go_ret2
        refine ⟨?_, Kp.trans HK.out (kp_alloc _ _)⟩
        unfold FindP
        rw [find_hit _ fs j hjl HZ.out HT.out]
        exact ⟨_, rfl, HD.out.kp (kp_alloc _ _)⟩
      · have htb : (tj == tag) = false := by simp; exact ht
        go_wp2
        have hjj := HJ.out
        go_roundw
        case rel =>
          refine ⟨j + 1, by omega, by congr 1; omega, Kp.trans HK.out (kp_alloc _ _), fun i hi hi' => ?_⟩
          by_cases e : i = j
          · subst e; rw [HT.out]; exact ht
          · exact HZ.out i (by omega) hi'
        case measure => simp [intOf]; omega
    · obtain rfl : j = len := by omega
      have hex : ¬ jj < j := by omega
      clear hjj
      go_wp2
      go_ret2
      refine ⟨?_, HK.out⟩
      unfold FindP
      rw [find_miss tag fs (fun i hi => HZ.out i (by have := HL.out; omega) hi)]
      rfl

/-- IS A ROW RIGHT? -/
def rightQ : Int → List (Int × List Int) → Bool
  | _, [] => true
  | last, f :: t => decide (1 ≤ f.1 ∧ f.1 ≤ 255 ∧ f.2.length ≤ 200 ∧ last < f.1) && rightQ f.1 t

set_option maxRecDepth 20000 in
theorem refRight_long (a : Option Addr) (cap len : Nat) (hl : 16 < len) (w : World) :
    Calls Tryd.prog 14 #[.slice a len cap] w fun e w' => e = .returned (.bool false) ∧ Kp w w' := by
  obtain ⟨ll, hll⟩ : ∃ ll : Int, (len : Int) = ll := ⟨_, rfl⟩
  have h : ll > 16 := by omega
  go_enter Tryd.func14, Tryd.ntmps14
  go_wp2
  go_ret
  exact ⟨rfl, Kp.refl _⟩

set_option maxRecDepth 20000 in
set_option maxHeartbeats 1000000 in
theorem refRight_any (a : Option Addr) (cap : Nat) (fs : List (Int × List Int)) (len : Nat) (hlen : fs.length = len) (hl : len ≤ 16) (w : World) (hs : SlQ (.slice a len cap) fs w) :
    Calls Tryd.prog 14 #[.slice a len cap] w fun e w' => e = .returned (.bool (rightQ 0 fs)) ∧ Kp w w' := by
  have hel : ∀ wr, Kp w wr → ∀ j (hj : j < fs.length), ∃ b off, a = some ⟨b, off, none⟩ ∧ wr.cell? ⟨b, off + j * 2, none⟩ = some (.int .i64 fs[j].1) ∧ ∃ a' c, wr.cell? ⟨b, off + j * 2 + 1, none⟩ = some (.slice a' fs[j].2.length c) ∧ SlB (.slice a' fs[j].2.length c) fs[j].2 wr ∧ InB fs[j].2 :=
    fun wr hk j hj => (hs.kp hk).at j hj
  obtain ⟨res, hres⟩ : ∃ res, rightQ 0 fs = res := ⟨_, rfl⟩
  rw [hres]
  have HRES := Lib.hid hres
  have HEL := Lib.hid hel
  have HL := Lib.hid hlen
  clear hel hs hlen hres
  go_enter Tryd.func14, Tryd.ntmps14
  go_wp2
  go_loopw [10] (fun i wr => ∃ j : Nat, j ≤ len ∧ i = .int .i64 j ∧ Kp w wr ∧ rightQ (if h : 0 < j ∧ j - 1 < fs.length then fs[j - 1].1 else 0) (fs.drop j) = res) (fun i _ => len - (intOf i).toNat)
  case atStart => exact ⟨0, Nat.zero_le _, rfl, Kp.refl _, by simpa using HRES.out⟩
  case round =>
    obtain ⟨j, hj, rfl, hk, hz⟩ := hrel
    have HK := Lib.hid hk
    have HZ := Lib.hid hz
    have hln := HL.out
    clear hk hz
    obtain ⟨jj, hjj⟩ : ∃ jj : Int, (j : Int) = jj := ⟨_, rfl⟩
    rw [hjj]
    by_cases hlt : j < len
    · have hjl : j < fs.length := by omega
      obtain ⟨b, off, rfl, c0, a1, k1, c1, h1, h2⟩ := HEL.out wr HK.out j hjl
      obtain ⟨tj, htj⟩ : ∃ tj, fs[j].1 = tj := ⟨_, rfl⟩
      obtain ⟨n1, hn1⟩ : ∃ n1, fs[j].2.length = n1 := ⟨_, rfl⟩
      rw [htj] at c0
      rw [hn1] at c1
      have ej : jj.toNat = j := by omega
      rw [← ej] at c0 c1
      have hj0 : 0 ≤ jj := by omega
      have hltj : jj < len := by omega
      have HJ := Lib.hid hjj
      have HT := Lib.hid htj
      have HN := Lib.hid hn1
      clear hjj ej htj hn1 h1 h2 hln hlt
      obtain ⟨LAST, hlast⟩ : ∃ LAST, (if h : 0 < j ∧ j - 1 < fs.length then fs[j - 1].1 else 0) = LAST := ⟨_, rfl⟩
      have hst : (decide (1 ≤ tj ∧ tj ≤ 255 ∧ n1 ≤ 200 ∧ LAST < tj) && rightQ tj (fs.drop (j + 1))) = res := by
        have h := HZ.out
        rw [hlast, List.drop_eq_getElem_cons hjl] at h
        unfold rightQ at h
        rw [HT.out, HN.out] at h
        exact h
      have STEP := Lib.hid hst
      have HLAST0 := Lib.hid hlast
      clear hst hlast
      by_cases t1 : tj < 1
      · 
        have hr : res = false := by rw [← STEP.out]; rw [decide_eq_false (by omega)]; rfl
        subst hr
        go_wp2
        go_region
        all_goals go_wp2
        all_goals go_ret
        all_goals exact ⟨rfl, Kp.trans HK.out (kp_alloc _ _).drew⟩
      · have b1 : decide (tj < 1) = false := by simp; omega
        by_cases t2 : 255 < tj
        · have b2 : decide (255 < tj) = true := by simp; omega
          have hr : res = false := by rw [← STEP.out]; rw [decide_eq_false (by omega)]; rfl
          subst hr
          go_wp2
          go_region
          all_goals go_wp2
          all_goals go_ret
          all_goals exact ⟨rfl, Kp.trans HK.out (kp_alloc _ _).drew⟩
        · have b2 : decide (255 < tj) = false := by simp; omega
          by_cases t3 : 200 < n1
          · have t3' : (200 : Int) < n1 := by omega
            have b3 : decide ((200 : Int) < n1) = true := by simp; omega
            have hr : res = false := by rw [← STEP.out]; rw [decide_eq_false (by omega)]; rfl
            subst hr
            go_wp2
            go_region
            all_goals go_wp2
            all_goals go_ret
            all_goals exact ⟨rfl, Kp.trans HK.out (kp_alloc _ _).drew⟩
          · have t3' : ¬ (200 : Int) < n1 := by omega
            have b3 : decide ((200 : Int) < n1) = false := by simp; omega
            by_cases hj00 : j = 0
            · have HLAST : Hid (LAST = 0 ∨ LAST < tj) := Lib.hid (.inl (by rw [← HLAST0.out, dif_neg (by omega)]))
              have hj1 : jj = 0 := by have := HJ.out; omega
              subst hj1
              simp only [Int.toNat_zero, Nat.zero_mul, Nat.add_zero] at c0 c1
              have b4 : decide ((0 : Int) < 0) = false := by decide
              go_wp2
              go_region
              all_goals go_wp2
              all_goals have hjj := HJ.out
              all_goals go_roundw
              case rel =>
                refine ⟨j + 1, by omega, by congr 1; omega, Kp.trans HK.out (kp_alloc _ _).drew, ?_⟩
                rw [← STEP.out, dif_pos ⟨by omega, by simpa using hjl⟩]
                have e1 : fs[j + 1 - 1] = fs[j] := by simp
                rw [e1, HT.out]
                have e2 : decide (1 ≤ tj ∧ tj ≤ 255 ∧ n1 ≤ 200 ∧ LAST < tj) = true := by simp only [decide_eq_true_eq]; exact ⟨by omega, by omega, by omega, by have := HLAST.out; omega⟩
                rw [e2, Bool.true_and]
              case measure => simp [intOf]; omega
            · have hjl1 : j - 1 < fs.length := by omega
              obtain ⟨b2, off2, hb2, cp, -⟩ := HEL.out wr HK.out (j - 1) hjl1
              injection hb2 with hb2
              injection hb2 with q1 q2
              subst q1 q2
              have hL : fs[j - 1].1 = LAST := by rw [← HLAST0.out, dif_pos ⟨by omega, hjl1⟩]
              rw [hL] at cp
              obtain ⟨pj, hpj⟩ : ∃ pj : Int, jj - 1 = pj := ⟨_, rfl⟩
              have hw1 : wrap64 (jj - 1) = pj := by unfold wrap64; omega
              have ej : pj.toNat = j - 1 := by have := HJ.out; omega
              rw [← ej] at cp
              have cp2 := kp_cell (kp_alloc wr (.cells #[.int .i64 tj, .slice a1 n1 k1] 63)) cp
              have hjp : 0 < jj := by have := HJ.out; omega
              have b4 : decide (0 < jj) = true := by simp; omega
              have hjp2 : pj < len := by omega
              have hjp3 : 0 ≤ pj := by omega
              clear ej hL
              by_cases t4 : tj ≤ LAST
              · have b5 : decide (tj ≤ LAST) = true := by simp; omega
                have hr : res = false := by rw [← STEP.out]; rw [decide_eq_false (by omega)]; rfl
                subst hr
                go_wp2
                go_region
                all_goals go_wp2
                all_goals go_ret
                all_goals exact ⟨rfl, Kp.trans HK.out (kp_alloc _ _).drew⟩
              · have HLAST : Hid (LAST = 0 ∨ LAST < tj) := Lib.hid (.inr (by omega))
                have b5 : decide (tj ≤ LAST) = false := by simp; omega
                go_wp2
                go_region
                all_goals go_wp2
                all_goals have hjj := HJ.out
                all_goals go_roundw
                case rel =>
                  refine ⟨j + 1, by omega, by congr 1; omega, Kp.trans HK.out (kp_alloc _ _).drew, ?_⟩
                  rw [← STEP.out, dif_pos ⟨by omega, by simpa using hjl⟩]
                  have e1 : fs[j + 1 - 1] = fs[j] := by simp
                  rw [e1, HT.out]
                  have e2 : decide (1 ≤ tj ∧ tj ≤ 255 ∧ n1 ≤ 200 ∧ LAST < tj) = true := by simp only [decide_eq_true_eq]; exact ⟨by omega, by omega, by omega, by have := HLAST.out; omega⟩
                  rw [e2, Bool.true_and]
                case measure => simp [intOf]; omega
    · obtain rfl : j = len := by omega
      have hex : ¬ jj < j := by omega
      have hz := HZ.out
      rw [List.drop_of_length_le (by omega)] at hz
      have hr : res = true := by rw [← hz]; rfl
      subst hr
      clear hjj hz
      go_wp2
      go_ret
      exact ⟨rfl, HK.out⟩

set_option maxRecDepth 20000 in
set_option maxHeartbeats 1000000 in
theorem refSame_true (a a2 : Option Addr) (cap cap2 : Nat) (fs : List (Int × List Int)) (len : Nat) (hlen : fs.length = len) (hl : len ≤ 100000) (w : World) (hs : SlQ (.slice a len cap) fs w) (hs2 : SlQ (.slice a2 len cap2) fs w) :
    Calls Tryd.prog 18 #[.slice a len cap, .slice a2 len cap2] w fun e w' => e = .returned (.bool true) ∧ Kp w w' := by
  have hel : ∀ wr, Kp w wr → ∀ j (hj : j < fs.length), ∃ b off, a = some ⟨b, off, none⟩ ∧ wr.cell? ⟨b, off + j * 2, none⟩ = some (.int .i64 fs[j].1) ∧ ∃ a' c, wr.cell? ⟨b, off + j * 2 + 1, none⟩ = some (.slice a' fs[j].2.length c) ∧ SlB (.slice a' fs[j].2.length c) fs[j].2 wr ∧ InB fs[j].2 :=
    fun wr hk j hj => (hs.kp hk).at j hj
  have hel2 : ∀ wr, Kp w wr → ∀ j (hj : j < fs.length), ∃ b off, a2 = some ⟨b, off, none⟩ ∧ wr.cell? ⟨b, off + j * 2, none⟩ = some (.int .i64 fs[j].1) ∧ ∃ a' c, wr.cell? ⟨b, off + j * 2 + 1, none⟩ = some (.slice a' fs[j].2.length c) ∧ SlB (.slice a' fs[j].2.length c) fs[j].2 wr ∧ InB fs[j].2 :=
    fun wr hk j hj => (hs2.kp hk).at j hj
  have HEL := Lib.hid hel
  have HEL2 := Lib.hid hel2
  have HL := Lib.hid hlen
  clear hel hel2 hs hs2 hlen
  go_enter Tryd.func18, Tryd.ntmps18
  go_wp2
  go_loopw [13] (fun i wr => ∃ j : Nat, j ≤ len ∧ i = .int .i64 j ∧ Kp w wr) (fun i _ => len - (intOf i).toNat)
  case atStart => exact ⟨0, Nat.zero_le _, rfl, Kp.refl _⟩
  case round =>
    obtain ⟨j, hj, rfl, hk⟩ := hrel
    have HK := Lib.hid hk
    have hln := HL.out
    clear hk
    obtain ⟨jj, hjj⟩ : ∃ jj : Int, (j : Int) = jj := ⟨_, rfl⟩
    rw [hjj]
    by_cases hlt : j < len
    · have hjl : j < fs.length := by omega
      obtain ⟨b, off, rfl, c0, a1, k1, c1, h1, h2⟩ := HEL.out wr.drew (Kp.trans HK.out (Kp.refl wr).drew) j hjl
      obtain ⟨b2, off2, rfl, d0, a3, k3, d1, h3, h4⟩ := HEL2.out wr.drew (Kp.trans HK.out (Kp.refl wr).drew) j hjl
      have v1 := conv_slb h1
      have v3 := conv_slb h3
      obtain ⟨tj, htj⟩ : ∃ tj, fs[j].1 = tj := ⟨_, rfl⟩
      obtain ⟨n1, hn1⟩ : ∃ n1, fs[j].2.length = n1 := ⟨_, rfl⟩
      obtain ⟨str, hstr⟩ : ∃ str, strOfNums fs[j].2 = str := ⟨_, rfl⟩
      rw [htj] at c0 d0
      rw [hn1] at c1 d1 v1 v3
      rw [hstr] at v1 v3
      have ej : jj.toNat = j := by omega
      rw [← ej] at c0 c1 d0 d1
      have hj0 : 0 ≤ jj := by omega
      have hltj : jj < len := by omega
      have HJ := Lib.hid hjj
      clear hjj ej htj hn1 h1 h2 h3 h4 hln hlt hstr
      go_wp2
      go_region
      all_goals go_wp2
      have hjj := HJ.out
      go_roundw
      case rel => exact ⟨j + 1, by omega, by congr 1; omega, Kp.trans HK.out (Kp.refl _).drew⟩
      case measure => simp [intOf]; omega
    · obtain rfl : j = len := by omega
      have hex : ¬ jj < j := by omega
      clear hjj
      go_wp2
      go_ret
      exact ⟨rfl, HK.out⟩
end Go.Proofs.YtfealdllicicnaaDoor
