/-
  check.Sum (own work): the sum of parts, one behind the other.
-/
import Derived.Test.YtpehmkglkjlmfaaDoorRefC
import Derived.Test.YtpehmkglkjlmfaaDoorSlBB
namespace Go.Proofs.YtpehmkglkjlmfaaDoor
open Go.RowKit

theorem flat_in {bss : List (List Int)} (h : ∀ (j : Nat) (hj : j < bss.length), InB bss[j]) : InB bss.flatten := by
  intro x hx
  obtain ⟨l, hl, hx⟩ := List.mem_flatten.1 hx
  obtain ⟨j, hj, rfl⟩ := List.getElem_of_mem hl
  exact h j hj x hx
theorem in_append {xs ys : List Int} (hx : InB xs) (hy : InB ys) : InB (xs ++ ys) := fun z hz => (List.mem_append.1 hz).elim (hx z) (hy z)
theorem in_take {xs : List Int} (hx : InB xs) (n : Nat) : InB (xs.take n) := fun z hz => hx z (List.mem_of_mem_take hz)
theorem in_drop {xs : List Int} (hx : InB xs) (n : Nat) : InB (xs.drop n) := fun z hz => hx z (List.mem_of_mem_drop hz)

set_option maxRecDepth 100000 in
theorem sum_any (v : Value) (bss : List (List Int)) (hm : bss.length ≤ 1000000) (hml : ∀ l ∈ bss, l.length ≤ 1000000) (w : World) (ht : Tb w) (hs : SlBB v bss w) :
    Calls Tryd.prog 68 #[v] w fun e w' => e = .returned (.int .u32 (crc bss.flatten)) ∧ w = w' := by
  obtain ⟨a, cap, rfl⟩ := hs.form
  obtain ⟨n, hn⟩ : ∃ n, bss.length = n := ⟨_, rfl⟩
  rw [hn] at hs hm ⊢
  have hel : ∀ (j : Nat) (hj : j < bss.length), ∃ b off, a = some ⟨b, off, none⟩ ∧ ∃ a' c, w.cell? ⟨b, off + j, none⟩ = some (.slice a' bss[j].length c) ∧ SlB (.slice a' bss[j].length c) bss[j] w ∧ InB bss[j] := fun j hj => hs.at j hj
  have hin : ∀ j, InB (bss.take j).flatten := by
    intro j
    refine flat_in fun i hi => ?_
    have hi' : i < bss.length := by rw [List.length_take] at hi; omega
    rw [List.getElem_take]
    obtain ⟨_, _, _, _, _, _, _, h⟩ := hel i hi'
    exact h
  obtain ⟨cc, hcc⟩ : ∃ cc : Int, ((crc bss.flatten : Nat) : Int) = cc := ⟨_, rfl⟩
  rw [hcc]
  have HCC := Lib.hid hcc
  have HEL := Lib.hid hel
  have HIN := Lib.hid hin
  have HN := Lib.hid hn
  have HML := Lib.hid hml
  have HT := Lib.hid ht
  clear hel hs hin hn hcc hml ht
  go_enter Tryd.func68, Tryd.ntmps68
  go_wp2
  go_loop [3, 10] (fun u i => ∃ j : Nat, j ≤ n ∧ i = .int .i64 j ∧ u = .int .u32 ((crc (bss.take j).flatten : Nat) : Int)) (fun _ i => n - (intOf i).toNat)
  case atStart => exact ⟨0, Nat.zero_le _, rfl, by rw [List.take_zero, List.flatten_nil, crc_nil]; rfl⟩
  case round =>
    obtain ⟨j, hj, rfl, rfl⟩ := hrel
    obtain ⟨jj, hjj⟩ : ∃ jj : Int, (j : Int) = jj := ⟨_, rfl⟩
    have hnl := HN.out
    by_cases hlt : j < n
    · have hjl : j < bss.length := by omega
      obtain ⟨b, off, rfl, a', c, hc, hsl, hbb⟩ := HEL.out j hjl
      have hml := HML.out bss[j] (List.getElem_mem _)
      obtain ⟨p, hp⟩ : ∃ p, bss[j] = p := ⟨_, rfl⟩
      obtain ⟨A, hA⟩ : ∃ A, (bss.take j).flatten = A := ⟨_, rfl⟩
      have hAin := HIN.out j
      rw [hA] at hAin
      have hnx : (bss.take (j + 1)).flatten = A ++ p := by
        rw [List.take_succ_eq_append_getElem hjl, List.flatten_append, hA, hp]; simp
      rw [hp] at hc hsl hbb hml
      rw [hA, hjj]
      obtain ⟨m, hmm⟩ : ∃ m, p.length = m := ⟨_, rfl⟩
      rw [hmm] at hc hsl hml
      have ej : jj.toNat = j := by omega
      rw [← ej] at hc
      have hj0 : 0 ≤ jj := by omega
      have hltj : jj < n := by omega
      have hpe : ∀ k (hk : k < p.length), ∃ b off, a' = some ⟨b, off, none⟩ ∧ w.cell? ⟨b, off + k, none⟩ = some (.int .u8 (p.getD k 0)) := fun k hk => hsl.at k hk
      have HJ := Lib.hid hjj
      have HPE := Lib.hid hpe
      have HNX := Lib.hid hnx
      have HAI := Lib.hid hAin
      have HBB := Lib.hid hbb
      have HM := Lib.hid hmm
      obtain ⟨sA, hsA⟩ : ∃ sA : Int, ((crc A : Nat) : Int) = sA := ⟨_, rfl⟩
      rw [hsA]
      have HSA := Lib.hid hsA
      clear hjj hpe hnx hAin hbb hmm hsl hp hA ej hlt hjl hnl hsA
      go_wp2
      go_loop [3, 16] (fun u i => ∃ k : Nat, k ≤ m ∧ i = .int .i64 k ∧ u = .int .u32 ((crc (A ++ p.take k) : Nat) : Int)) (fun _ i => m - (intOf i).toNat)
      case atStart => exact ⟨0, Nat.zero_le _, rfl, by rw [List.take_zero, List.append_nil, HSA.out]⟩
      case round =>
        obtain ⟨k, hk, rfl, rfl⟩ := hrel
        obtain ⟨kk, hkk⟩ : ∃ kk : Int, (k : Int) = kk := ⟨_, rfl⟩
        obtain ⟨u, hu⟩ : ∃ u, crc (A ++ p.take k) = u := ⟨_, rfl⟩
        have hul : u < 4294967296 := hu ▸ crc_lt (in_append HAI.out (in_take HBB.out k))
        have hm' := HM.out
        by_cases hlt : k < m
        · have hkl : k < p.length := by omega
          obtain ⟨b2, off2, rfl, hc2⟩ := HPE.out k hkl
          have hbb := HBB.out p[k] (List.getElem_mem _)
          obtain ⟨y, hy⟩ : ∃ y : Nat, (y : Int) = p[k] := ⟨p[k].toNat, by omega⟩
          have hy2 : p.getD k 0 = y := by simp [List.getD, hkl, hy]
          rw [hy2] at hc2
          have hyl : y < 256 := by omega
          have hnx : crc (A ++ p.take (k + 1)) = nxt u y := by
            rw [List.take_succ_eq_append_getElem hkl, ← List.append_assoc, crc_next, hu, ← hy]; rfl
          have hcall := next_any u y hul hyl w HT.out
          rw [← hnx] at hcall
          obtain ⟨yi, hyi⟩ : ∃ yi : Int, (y : Int) = yi := ⟨_, rfl⟩
          obtain ⟨ui, hui⟩ : ∃ ui : Int, (u : Int) = ui := ⟨_, rfl⟩
          rw [hyi] at hc2 hcall
          rw [hui] at hcall
          rw [hkk, hu, hui]
          have ek : kk.toNat = k := by omega
          rw [← ek] at hc2
          have hk0 : 0 ≤ kk := by omega
          have hltk : kk < m := by omega
          have HK := Lib.hid hkk
          have HC := Lib.hid hcall
          clear hkk hu hul hy hy2 hyl hnx hcall hyi hui ek hlt hkl hm' hbb
          go_wp2_with (go_at_call 75; (with_reducible refine HC.out.mono ?_); rintro e w2 ⟨rfl, rfl⟩)
          have hkk := HK.out
          go_round
          case rel => exact ⟨k + 1, by omega, by congr 1; omega, rfl⟩
          case measure => simp [intOf]; omega
        · obtain rfl : k = m := by omega
          have hex : ¬ kk < k := by omega
          have hful : p.take k = p := by rw [List.take_of_length_le]; omega
          rw [hful, ← HNX.out] at hu
          have HU := Lib.hid hu
          rw [hful, ← HNX.out, hkk]
          have hjj := HJ.out
          clear hkk hful hm' hu hul
          go_wp2
          go_round
          case rel => exact ⟨j + 1, by omega, by congr 1; omega, rfl⟩
          case measure => simp [intOf]; omega
    · obtain rfl : j = n := by omega
      have hex : ¬ jj < j := by omega
      have hful : bss.take j = bss := by rw [List.take_of_length_le]; omega
      rw [hful, HCC.out, hjj]
      clear hjj hful hnl hlt
      go_wp2
      go_ret
      exact ⟨rfl, rfl⟩

/-- the sum of one part, its box just made -/
theorem sum_one (a : Option Addr) (n c : Nat) (bs : List Int) (hn : bs.length = n) (hl : n ≤ 1000000) (hb : InB bs) (w : World) (ht : Tb w) (hs : SlB (.slice a n c) bs w) (t : TypeId) (w1 : World) (hk : Kp (w.alloc (.cells #[.slice a n c] t)) w1) :
    Calls Tryd.prog 68 #[.slice (some ⟨w.heap.size, 0, none⟩) 1 1] w1 fun e w' => e = .returned (.int .u32 (crc bs)) ∧ w1 = w' := by
  have h := sum_any _ [bs] (by simp) (fun l hl' => by rw [List.mem_singleton.1 hl']; omega) _ (ht.kp (Kp.trans (kp_alloc w (.cells #[.slice a n c] t)) hk)) ((bb_one hs hn hb).kp hk)
  simpa using h
end Go.Proofs.YtpehmkglkjlmfaaDoor
