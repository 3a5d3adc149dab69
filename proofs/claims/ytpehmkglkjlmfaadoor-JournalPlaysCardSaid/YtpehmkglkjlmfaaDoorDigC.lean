/-
  check.digits (own work): a sum's bytes, the high one first.
-/
import Derived.Test.YtpehmkglkjlmfaaDoorSumC
import Derived.Laws.OwnMore
namespace Go.Proofs.YtpehmkglkjlmfaaDoor
open Go.RowKit Go.ChangeShapes Go.WideShapes

def fb (n i : Nat) : Int := ((n / 256 ^ i % 256 : Nat) : Int)
/-- the n lowest bytes of x, the high one first; those that are laid behind i rounds -/
def digB (x n : Nat) : List Int := (List.range n).map fun p => fb x (n - 1 - p)
def digP (x n i : Nat) : List Value := (List.range n).map fun p => Value.int .u8 (if n - 1 - p < i then fb x (n - 1 - p) else 0)
theorem digP_len (x n i : Nat) : (digP x n i).length = n := by simp [digP]
theorem digP_full (x n : Nat) : digP x n n = (digB x n).map (Value.int .u8) := by
  unfold digP digB
  rw [List.map_map]
  refine List.map_congr_left fun p hp => ?_
  have := List.mem_range.1 hp
  simp only [Function.comp]
  rw [if_pos (by omega)]
theorem digP_next (x n i : Nat) (h : i < n) : (digP x n i).set (n - 1 - i) (.int .u8 (fb x i)) = digP x n (i + 1) := by
  refine List.ext_getElem (by simp [digP]) fun p h1 h2 => ?_
  have hp : p < n := by simpa [digP] using h2
  rw [List.getElem_set]
  split
  · rename_i e
    subst e
    have q : n - 1 - (n - 1 - i) = i := by omega
    simp [digP, q]
  · rename_i e
    simp only [digP, List.getElem_map, List.getElem_range]
    congr 1
    by_cases g : n - 1 - p < i
    · rw [if_pos g, if_pos (by omega)]
    · rw [if_neg g, if_neg (by omega)]

theorem shr_fb (x j : Nat) : (x : Int) / 2 ^ (8 * (j : Int)).toNat % 256 = fb x j := by
  have e : (8 * (j : Int)).toNat = 8 * j := by omega
  rw [e]
  have e2 : (2 : Int) ^ (8 * j) = ((256 ^ j : Nat) : Int) := by
    rw [Int.natCast_pow, show ((256 : Nat) : Int) = 2 ^ 8 from rfl, ← Int.pow_mul]
  rw [e2]
  unfold fb
  omega

theorem made_rep (z : Value) (n : Nat) : (madeCells #[z] n).toList = List.replicate n z := by
  rw [List.eq_replicate_iff]
  refine ⟨by simp [madeCells], fun b hb => ?_⟩
  simp [madeCells] at hb
  obtain ⟨p, _, h⟩ := hb
  rw [← h]
  simp [Nat.mod_one]

theorem four_dig (x : Nat) : four x = digB x 4 := by
  simp [four, digB, fb, List.range, List.range.loop]

set_option maxRecDepth 100000 in
set_option maxHeartbeats 2000000 in
theorem digits_any (x : Nat) (hx : x < 4294967296) (w : World) :
    Calls Tryd.prog 67 #[.int .u32 x] w fun e w' => e = .returned (.slice (some ⟨w.heap.size, 0, none⟩) 4 4) ∧ w'.ownsRow w.heap.size 5 1 (.slice (some ⟨w.heap.size, 0, none⟩) 4 4) 4 ((four x).map (Value.int .u8)) ∧ Kp w w' := by
  rw [four_dig]
  obtain ⟨xx, hxx⟩ : ∃ xx : Int, (x : Int) = xx := ⟨_, rfl⟩
  rw [hxx]
  obtain ⟨i0, hi, hz0, hz1, hz2⟩ := info_parts info_byte
  have hfull := digP_full x 4
  have hxb : 0 ≤ xx ∧ xx < 4294967296 := by omega
  have HI := Lib.hid (And.intro hz1 hz2)
  have HI2 := Lib.hid hi
  have HI3 := Lib.hid hz0
  have HF := Lib.hid hfull
  have HX := Lib.hid hxx
  clear hz1 hz2 hi hz0 hfull hxx hx
  go_enter Tryd.func67, Tryd.ntmps67
  go_wp2_with (first | (refine wpList_make_full _ rfl _ _ 46 rfl w.heap.size 5 i0 (.int .u8 0) 1 Tryd.underlying46 HI2.out HI3.out HI.out.1 .i64 .i64 _ _ 4 rfl rfl ?m1 ?m2 ?m3 ?m4 ?m5 ?_))
  case m1 => rfl
  case m2 => rfl
  case m3 => rw [HI.out.2]; omega
  case m4 => unfold maxLen; omega
  case m5 => exact Nat.le_refl _
  rintro w1 hown1 hgr1
  have K1 : Hid (Kp w w1) := Lib.hid ((Below.refl _ _).grown hgr1 (Nat.le_refl _) (fun k hk => by cases hk))
  have h0 : w1.ownsRow w.heap.size 5 1 (.slice (some ⟨w.heap.size, 0, none⟩) 4 4) 4 (digP x 4 0) := by
    have e : (madeCells #[.int .u8 0] 4).toList = digP x 4 0 := by
      have e1 : digP x 4 0 = List.replicate 4 (.int .u8 0) := by
        unfold digP
        rw [List.eq_replicate_iff]
        refine ⟨by simp, fun b hb => ?_⟩
        obtain ⟨p, _, rfl⟩ := List.mem_map.1 hb
        simp
      rw [e1]
      exact made_rep _ _
    rw [← e]; exact hown1
  have OW1 := Lib.hid h0
  clear hown1 hgr1 h0
  go_wp2
  go_loopw [8] (fun i wr => ∃ j : Nat, j ≤ 4 ∧ i = .int .i64 j ∧ Kp w wr ∧ wr.ownsRow w.heap.size 5 1 (.slice (some ⟨w.heap.size, 0, none⟩) 4 4) 4 (digP x 4 j)) (fun i _ => 4 - (intOf i).toNat)
  case atStart => exact ⟨0, Nat.zero_le _, rfl, K1.out, OW1.out⟩
  case round =>
    obtain ⟨j, hj, rfl, hk, hown⟩ := hrel
    have HK := Lib.hid hk
    have HO := Lib.hid hown
    clear hk hown
    obtain ⟨jj, hjj⟩ : ∃ jj : Int, (j : Int) = jj := ⟨_, rfl⟩
    rw [hjj]
    by_cases hlt : j < 4
    · obtain ⟨pp, hpp⟩ : ∃ pp : Nat, 4 - 1 - j = pp := ⟨_, rfl⟩
      have hpn : pp < 4 := by omega
      have hc : wr.cell? ⟨w.heap.size, pp, none⟩ = some (.int .u8 0) := by
        rw [HO.out.cellAt pp (by omega)]
        have hl : pp < (digP x 4 j).length := by rw [digP_len]; exact hpn
        rw [List.getElem?_eq_getElem hl]
        simp only [digP, List.getElem_map, List.getElem_range]
        rw [if_neg (by omega)]
      have hz := HO.out.frozenAt pp
      have hst := (HO.out.stored pp (.int .u8 (fb x j)))
      rw [← hpp, digP_next x 4 j hlt, hpp] at hst
      have HST := Lib.hid hst.1
      have HGR := Lib.hid (Below.grown HK.out hst.2 (Below.size HK.out) (fun k hk => by injection hk with hk; omega))
      obtain ⟨fx, hfx⟩ : ∃ fx, fb x j = fx := ⟨_, rfl⟩
      rw [hfx] at HST HGR
      have HFX := Lib.hid hfx
      obtain ⟨qq, hqq⟩ : ∃ qq : Int, (pp : Int) = qq := ⟨_, rfl⟩
      have e1 : qq.toNat = pp := by omega
      have hdiff : 3 - jj = qq := by omega
      have hq0 : 0 ≤ qq := by omega
      have hqn : qq < 4 := by omega
      have hltj : jj < 4 := by omega
      rw [← e1] at hc hz
      have HJ := Lib.hid hjj
      have HE1 := Lib.hid e1
      have hj8 : 0 ≤ jj ∧ jj < 4 := by omega
      clear hst hfx hjj hqq e1 hpp hpn hlt
      go_wp2
      have hval : xx / 2 ^ (8 * jj).toNat % 256 = fx := by rw [← HFX.out, ← HX.out, ← HJ.out]; exact shr_fb x j
      rw [hval, HE1.out]
      have hjj := HJ.out
      go_roundw
      case rel => exact ⟨j + 1, by omega, by congr 1; omega, HGR.out, HST.out⟩
      case measure => simp [intOf]; omega
    · obtain rfl : j = 4 := by omega
      obtain rfl : jj = 4 := by omega
      have HO2 := HO.out
      rw [HF.out] at HO2
      have HO3 := Lib.hid HO2
      clear HO2 hjj hlt
      go_wp2
      go_ret
      exact ⟨rfl, HO3.out, HK.out⟩
theorem digits_g (x : Nat) (hx : x < 4294967296) (w : World) :
    Calls Tryd.prog 67 #[.int .u32 x] w fun e w' => ∃ g, e = .returned (.slice (some ⟨g, 0, none⟩) 4 4) ∧ w'.ownsRow w.heap.size 5 1 (.slice (some ⟨g, 0, none⟩) 4 4) 4 ((four x).map (Value.int .u8)) ∧ Kp w w' :=
  (digits_any x hx w).mono fun _ _ h => ⟨_, h⟩
end Go.Proofs.YtpehmkglkjlmfaaDoor
