/-
  slices.Grow of nothing, slices.Concat of bytes (own work).
-/
import Derived.Test.YtpehmkglkjlmfaaDoorSumC
import Derived.Test.YtpehmkglkjlmfaaDoorClone
import Derived.Laws.OwnMore
import Derived.Lib.Walk
import Derived.Lib.AppendZerosOnto
namespace Go.Proofs.YtpehmkglkjlmfaaDoor
open Go.RowKit Go.ChangeShapes Go.WideShapes

set_option maxHeartbeats 2000000 in
set_option maxRecDepth 100000 in
theorem grow_zero (w : World) :
    Calls Tryd.prog 66 #[.slice none 0 0, .int .i64 0] w fun e w' => e = .returned (.slice none 0 0) ∧ w = w' := by
  go_enter Tryd.func66, Tryd.ntmps66
  go_wp2
  go_ret
  exact ⟨rfl, rfl⟩

set_option maxHeartbeats 2000000 in
set_option maxRecDepth 100000 in
theorem grow_nil (n : Nat) (hn : n ≤ 1000000) (nn : Int) (hnn : (n : Int) = nn) (w : World) :
    Calls Tryd.prog 66 #[.slice none 0 0, .int .i64 nn] w fun e w' => ∃ v, e = .returned v ∧ w'.ownsRow w.heap.size 5 1 v 0 [] ∧ Kp w w' := by
  by_cases h0 : n = 0
  · obtain rfl : nn = 0 := by omega
    refine (grow_zero w).mono ?_
    rintro e w' ⟨rfl, rfl⟩
    exact ⟨_, rfl, ⟨rfl, .inl ⟨rfl, rfl⟩⟩, Kp.refl _⟩
  obtain ⟨i0, hi, hz0, hz1, hz2⟩ := info_parts info_byte
  have hold : (Builtin.firstCells i0.size 0 (.slice none 0 0)).run Tryd.prog w.drew = .ok #[] w.drew := run_firstCells_none w.drew i0.size 0 0 0
  obtain ⟨G, hG⟩ : ∃ G, G = grownCap w n 0 5 := ⟨_, rfl⟩
  have hrz : ∀ ty, (Builtin.append_ #[46, 3] ty #[.slice none 0 0, .int .i64 nn]).run Tryd.prog w =
      .ok (.slice (some ⟨w.heap.size, 0, none⟩) n G) (w.drew.alloc (.cells (#[] ++ Builtin.zeroCells (Value.cells (.int .u8 0)) n ++ Builtin.zeroCells (Value.cells (.int .u8 0)) (G - n)) 5)) := fun ty => by
    have h := Lib.run_append_grow_zeros w 46 3 ty 5 i0 (.int .u8 0) .i64 .i64 Tryd.underlying46 Tryd.underlying3 hi hz0 none 0 0 [] hold n (by omega) (by omega) (by omega) (by omega) (by rw [hz2]; omega)
      (growslice_fits (by omega) (by rw [hz2]; omega))
    rw [Nat.zero_add] at h
    rw [hG, ← hnn]
    exact h
  have hGn : n ≤ G := by rw [hG]; exact grownCap_ge w _ _ _
  have hGm : G ≤ maxLen := by rw [hG]; exact grownCap_le_maxLen w n 0 5 (by unfold maxLen; omega)
  have hG63 : G ≤ 9223372036854775807 := by unfold maxLen at hGm; omega
  have hn0 : nn > 0 := by omega
  have hn2 : nn ≤ 1000000 := by omega
  have HM := Lib.hid hGm
  have HN := Lib.hid hGn
  have HNN := Lib.hid hnn
  clear hold hG hGm hi hz0 hz1 hz2
  go_enter Tryd.func66, Tryd.ntmps66
  go_wp2_with (at_builtin; refine Lib.wpList_append_run _ rfl _ _ _ _ rfl _ _ rfl rfl _ _ (hrz _) ?_)
  all_goals (go_ret; refine ⟨_, rfl, ⟨rfl, .inr ⟨w.heap.size, G, _, rfl, Nat.le_refl _, (MapKept.heap_alloc w.drew _).1, Nat.zero_le _, HM.out, ?_, rfl⟩⟩, Kp.trans (Kp.refl w).drew (kp_alloc _ _)⟩)
  have := HN.out
  simp [size_zeroCells]
  omega

set_option maxRecDepth 100000 in
set_option maxHeartbeats 2000000 in
theorem concat_any (v : Value) (bss : List (List Int)) (hm : bss.length ≤ 100) (hml : ∀ l ∈ bss, l.length ≤ 1000) (w : World) (hs : SlBB v bss w) :
    Calls Tryd.prog 48 #[v] w fun e w' => ∃ v', e = .returned v' ∧ w'.ownsRow w.heap.size 5 1 v' bss.flatten.length (bss.flatten.map (Value.int .u8)) ∧ Kp w w' := by
  obtain ⟨a, cap, rfl⟩ := hs.form
  obtain ⟨n, hn⟩ : ∃ n, bss.length = n := ⟨_, rfl⟩
  rw [hn] at hs hm ⊢
  have hel : ∀ w1, Kp w w1 → ∀ (j : Nat) (hj : j < bss.length), ∃ b off, a = some ⟨b, off, none⟩ ∧ ∃ a' c, w1.cell? ⟨b, off + j, none⟩ = some (.slice a' bss[j].length c) ∧ SlB (.slice a' bss[j].length c) bss[j] w1 := fun w1 hk j hj => by
    obtain ⟨b, off, h1, a', c, h2, h3, _⟩ := (hs.kp hk).at j hj
    exact ⟨b, off, h1, a', c, h2, h3⟩
  have hnx : ∀ j (hj : j < bss.length), (bss.take (j + 1)).flatten = (bss.take j).flatten ++ bss[j] := fun j hj => by
    rw [List.take_succ_eq_append_getElem hj, List.flatten_append]; simp
  have hbd : ∀ j, j ≤ 100 → (bss.take j).flatten.length ≤ 1000 * j := by
    intro j
    induction j with
    | zero => intro _; simp
    | succ j ih =>
      intro hj
      by_cases h : j < bss.length
      · rw [hnx j h, List.length_append]
        have h1 := hml bss[j] (List.getElem_mem _)
        have h2 := ih (by omega)
        omega
      · have h3 : bss.take (j + 1) = bss.take j := by rw [List.take_of_length_le (by omega), List.take_of_length_le (by omega)]
        rw [h3]
        have h2 := ih (by omega)
        omega
  have HEL := Lib.hid hel
  have HNX := Lib.hid hnx
  have HBD := Lib.hid hbd
  have HML := Lib.hid hml
  have HN := Lib.hid hn
  obtain ⟨F, hF⟩ : ∃ F, bss.flatten = F := ⟨_, rfl⟩
  rw [hF]
  have HFF := Lib.hid hF
  clear hel hnx hbd hml hn hs hF
  go_enter Tryd.func48, Tryd.ntmps48
  go_wp2
  go_loop [3, 11] (fun u i => ∃ j : Nat, j ≤ n ∧ i = .int .i64 j ∧ u = .int .i64 (((bss.take j).flatten.length : Nat) : Int)) (fun _ i => n - (intOf i).toNat)
  case atStart => exact ⟨0, Nat.zero_le _, rfl, rfl⟩
  case round =>
    obtain ⟨j, hj, rfl, rfl⟩ := hrel
    obtain ⟨jj, hjj⟩ : ∃ jj : Int, (j : Int) = jj := ⟨_, rfl⟩
    obtain ⟨u, hu⟩ : ∃ u, (bss.take j).flatten.length = u := ⟨_, rfl⟩
    have hub := HBD.out j (by omega)
    rw [hu] at hub
    obtain ⟨uu, huu⟩ : ∃ uu : Int, (u : Int) = uu := ⟨_, rfl⟩
    rw [hjj, hu, huu]
    have hnl := HN.out
    by_cases hlt : j < n
    · have hjl : j < bss.length := by omega
      obtain ⟨b, off, rfl, a', c, hc, -⟩ := HEL.out w (Kp.refl _) j hjl
      have hnx := HNX.out j hjl
      have hpl := HML.out bss[j] (List.getElem_mem _)
      obtain ⟨p, hp⟩ : ∃ p, bss[j].length = p := ⟨_, rfl⟩
      have hnx2 : (bss.take (j + 1)).flatten.length = u + p := by rw [hnx, List.length_append, hu, hp]
      rw [hp] at hc hpl
      obtain ⟨pp, hpp⟩ : ∃ pp : Int, (p : Int) = pp := ⟨_, rfl⟩
      have ej : jj.toNat = j := by omega
      rw [← ej] at hc
      have hj0 : 0 ≤ jj := by omega
      have hltj : jj < n := by omega
      have u0 : 0 ≤ uu := by omega
      have u1 : uu ≤ 100000 := by omega
      have p0 : 0 ≤ pp := by omega
      have p1 : pp ≤ 1000 := by omega
      have hng : ¬ uu + pp < 0 := by omega
      have hnx3 : (((bss.take (j + 1)).flatten.length : Nat) : Int) = uu + pp := by omega
      have HJ := Lib.hid hjj
      have HX := Lib.hid hnx3
      clear hjj hnx hnx2 hnx3 hp hpl huu hu hub ej hlt hjl hnl
      go_wp2
      have hjj := HJ.out
      go_round
      case rel => exact ⟨j + 1, by omega, by congr 1; omega, by rw [HX.out]⟩
      case measure => simp [intOf]; omega
    · obtain rfl : j = n := by omega
      have hex : ¬ jj < j := by omega
      have hful : bss.take j = bss := by rw [List.take_of_length_le]; omega
      rw [hful] at hu
      have hgr := grow_nil u (by omega) uu huu w
      have HG := Lib.hid hgr
      have HF := Lib.hid hful
      have HU := Lib.hid hu
      have HUB := Lib.hid hub
      clear hjj hful hnl hlt hgr hu huu hub
      go_wp2_with (go_at_call 66; (with_reducible refine HG.out.mono ?_); rintro e w1 ⟨v1, rfl, ho1, hk1⟩; have HO1 := Lib.hid ho1; have HK1 := Lib.hid hk1; clear ho1 hk1)
      go_loopw [6, 27] (fun g i wr => ∃ k : Nat, k ≤ j ∧ i = .int .i64 k ∧ Kp w wr ∧ wr.ownsRow w.heap.size 5 1 g (bss.take k).flatten.length ((bss.take k).flatten.map (Value.int .u8))) (fun _ i _ => j - (intOf i).toNat)
      case atStart => exact ⟨0, Nat.zero_le _, rfl, HK1.out, HO1.out⟩
      case round =>
        obtain ⟨k, hk, rfl, hkp, hown⟩ := hrel
        obtain ⟨kk, hkk⟩ : ∃ kk : Int, (k : Int) = kk := ⟨_, rfl⟩
        rw [hkk]
        have hnl := HN.out
        have HK := Lib.hid hkp
        have HO := Lib.hid hown
        clear hkp hown
        by_cases hlt : k < j
        · have hkl : k < bss.length := by omega
          obtain ⟨b, off, rfl, a', c, hc, hsl⟩ := HEL.out wr HK.out k hkl
          have hnx := HNX.out k hkl
          have hpl := HML.out bss[k] (List.getElem_mem _)
          have hub := HBD.out k (by omega)
          have hnl2 : (bss.take (k + 1)).flatten.length = (bss.take k).flatten.length + bss[k].length := by rw [hnx, List.length_append]
          obtain ⟨p, hp⟩ : ∃ p, bss[k] = p := ⟨_, rfl⟩
          obtain ⟨A, hA⟩ : ∃ A, (bss.take k).flatten = A := ⟨_, rfl⟩
          rw [hp] at hc hsl hnx hpl hnl2
          rw [hA] at hnx hub hnl2 HO
          obtain ⟨m, hmm⟩ : ∃ m, p.length = m := ⟨_, rfl⟩
          obtain ⟨A1, hA1⟩ : ∃ m, A.length = m := ⟨_, rfl⟩
          rw [hmm] at hc hsl hpl hnl2
          rw [hA1] at hub hnl2 HO
          have ek : kk.toNat = k := by omega
          rw [← ek] at hc
          have hk0 : 0 ≤ kk := by omega
          have hltk : kk < j := by omega
          have HSL := Lib.hid hsl
          have HX := Lib.hid hnx
          have HX2 := Lib.hid hnl2
          have HKK := Lib.hid hkk
          have hsum : A1 + m ≤ 1000000 := by omega
          clear hsl hnx hnl2 hkk hp hA hmm hA1 hpl hub ek hlt hkl hnl
          go_wp2_with (at_builtin; refine wpList_append_slb _ rfl (.tmp 31) (.tmp 32) rfl w.heap.size _ _ _ rfl HO.out _ _ _ _ rfl HSL.out ?d1 ?d2 ?_)
          case d1 => exact hsum
          case d2 => exact Below.size HK.out
          rintro v5 w5 hown5 hgr5 -
          have kp5 : Kp w w5 := row_kp HO.out hgr5 HK.out
          have HO5 := Lib.hid hown5
          have HK5 := Lib.hid kp5
          clear hown5 hgr5 kp5
          go_wp2
          have hkk := HKK.out
          go_roundw
          case rel => exact ⟨k + 1, by omega, by congr 1; omega, HK5.out, by rw [HX2.out, HX.out, List.map_append]; exact HO5.out⟩
          case measure => simp [intOf]; omega
        · obtain rfl : k = j := by omega
          have hex : ¬ kk < k := by omega
          have HO2 := HO.out
          rw [HF.out, HFF.out] at HO2
          have HO3 := Lib.hid HO2
          clear HO2 hkk hlt hnl
          go_wp2
          go_ret
          exact ⟨_, rfl, HO3.out, HK.out⟩
end Go.Proofs.YtpehmkglkjlmfaaDoor
