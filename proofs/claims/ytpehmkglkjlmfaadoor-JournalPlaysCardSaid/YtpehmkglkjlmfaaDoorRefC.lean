/-
  THE DOCUMENT's SUM (own work): liaisonref04.Register, Sum, Four.
-/
import Derived.Test.YtpehmkglkjlmfaaDoorNextC
namespace Go.Proofs.YtpehmkglkjlmfaaDoor
open Go.RowKit

set_option maxRecDepth 100000 in
theorem register_any (x b : Nat) (hx : x < 4294967296) (hb : b < 256) (w : World) :
    Calls Tryd.prog 69 #[.int .u32 x, .int .u8 b] w fun e w' => e = .returned (.int .u32 (Tn 8 (x ^^^ b))) ∧ w = w' := by
  rw [← Rg_8 x b hb]
  have hlt := Rg_lt x b hx
  obtain ⟨bb, hbb⟩ : ∃ bb : Int, (b : Int) = bb := ⟨_, rfl⟩
  have b0 : 0 ≤ bb := by omega
  have b1 : bb < 256 := by omega
  have HB := Lib.hid hbb
  have HL := Lib.hid hlt
  rw [hbb]
  clear hbb hlt
  go_enter Tryd.func69, Tryd.ntmps69
  go_wp2
  go_loop [0, 5] (fun r i => ∃ j : Nat, j ≤ 8 ∧ i = .int .i64 j ∧ r = .int .u32 ((Rg x b j : Nat) : Int)) (fun _ i => 8 - (intOf i).toNat)
  case atStart => exact ⟨0, Nat.zero_le _, rfl, rfl⟩
  case round =>
    obtain ⟨j, hj, rfl, rfl⟩ := hrel
    obtain ⟨jj, hjj⟩ : ∃ jj : Int, (j : Int) = jj := ⟨_, rfl⟩
    obtain ⟨r, hr⟩ : ∃ r, Rg x b j = r := ⟨_, rfl⟩
    have lr : r < 4294967296 := hr ▸ HL.out j
    obtain ⟨rr, hrr⟩ : ∃ rr : Int, (r : Int) = rr := ⟨_, rfl⟩
    rw [hr, hjj, hrr]
    by_cases hlt : j < 8
    · have hnx : Rg x b (j + 1) = r / 2 ^^^ ((r % 2) ^^^ (b / 2 ^ j % 2)) * 3988292384 := by
        show Rg x b j / 2 ^^^ ((Rg x b j % 2) ^^^ (b / 2 ^ j % 2)) * 3988292384 = _
        rw [hr]
      have ejn : jj.toNat = j := by omega
      have hv : ((b / 2 ^ j : Nat) : Int) = bb / 2 ^ jj.toNat := by rw [ejn, ← HB.out]; simp
      have hvl : b / 2 ^ j ≤ b := Nat.div_le_self _ _
      obtain ⟨v, hvv⟩ : ∃ v, b / 2 ^ j = v := ⟨_, rfl⟩
      rw [hvv] at hnx hv hvl
      have e1 := and32_1 r lr
      have e2 := and32_1 v (by omega)
      have lm1 : r % 2 < 2 := Nat.mod_lt _ (by decide)
      have lm2 : v % 2 < 2 := Nat.mod_lt _ (by decide)
      have e3 := u32_xor_nat (r % 2) (v % 2) (by omega) (by omega)
      obtain ⟨d, hd⟩ : ∃ d, r % 2 ^^^ v % 2 = d := ⟨_, rfl⟩
      have ld : d < 2 := hd ▸ Nat.xor_lt_two_pow (n := 1) lm1 lm2
      rw [hd] at e3 hnx
      have e4 := u32_xor_nat (r / 2) 3988292384 (by omega) (by decide)
      obtain ⟨vi, hvi⟩ : ∃ vi, bb / 2 ^ jj.toNat = vi := ⟨_, rfl⟩
      rw [hvi] at hv
      have e5 : (((r / 2 : Nat)) : Int) = rr / 2 := by omega
      rw [e5] at e4
      rw [hrr] at e1
      rw [hv] at e2
      obtain ⟨r1, hr1⟩ : ∃ r1 : Int, ((r % 2 : Nat) : Int) = r1 := ⟨_, rfl⟩
      obtain ⟨v1, hv1⟩ : ∃ v1 : Int, ((v % 2 : Nat) : Int) = v1 := ⟨_, rfl⟩
      rw [hr1] at e1 e3
      rw [hv1] at e2 e3
      have v0 : 0 ≤ vi := by omega
      have v2 : vi < 256 := by omega
      have j0 : 0 ≤ jj := by omega
      have j8 : jj < 8 := by omega
      rcases (show d = 0 ∨ d = 1 by omega) with h0 | h0
      · rw [h0] at e3 hnx
        have hn2 : ((Rg x b (j + 1) : Nat) : Int) = rr / 2 := by rw [hnx, ← e5]; simp
        have HN := Lib.hid hn2
        have HJ := Lib.hid hjj
        clear hn2 hnx e4 e5 hr1 hv1 hv hvv hvl lr hr hrr hlt ejn hjj lm1 lm2 hd ld h0 hj
        go_wp2
        go_round
        case rel => have hjj := HJ.out; exact ⟨j + 1, by omega, by congr 1; omega, by rw [HN.out]⟩
        case measure => have := HJ.out; simp [intOf]; omega
      · rw [h0] at e3 hnx
        have hn2 : ((Rg x b (j + 1) : Nat) : Int) = bits .xor .u32 (rr / 2) 3988292384 := by
          rw [hnx]
          have : ((3988292384 : Nat) : Int) = 3988292384 := rfl
          rw [← this, e4, Nat.one_mul]
        have HN := Lib.hid hn2
        have HJ := Lib.hid hjj
        clear hn2 hnx e4 e5 hr1 hv1 hv hvv hvl lr hr hrr hlt ejn hjj lm1 lm2 hd ld h0 hj
        go_wp2
        go_round
        case rel => have hjj := HJ.out; exact ⟨j + 1, by omega, by congr 1; omega, by rw [HN.out]⟩
        case measure => have := HJ.out; simp [intOf]; omega
    · obtain rfl : j = 8 := by omega
      obtain rfl : jj = 8 := by omega
      have HR := Lib.hid hr
      have HRR := Lib.hid hrr
      clear hjj hlt hj hr hrr
      go_wp2
      go_ret
      exact ⟨by rw [← HRR.out, ← HR.out]; rfl, rfl⟩

set_option maxRecDepth 100000 in
theorem rsum_any (a : Option Addr) (cap : Nat) (bs : List Int) (len : Nat) (hlen : bs.length = len) (hl : len ≤ 1000000) (hb : InB bs) (w : World) (hs : SlB (.slice a len cap) bs w) :
    Calls Tryd.prog 51 #[.slice a len cap] w fun e w' => e = .returned (.int .u32 (crc bs)) ∧ w = w' := by
  have hel : ∀ j (hj : j < bs.length), ∃ b off, a = some ⟨b, off, none⟩ ∧ w.cell? ⟨b, off + j, none⟩ = some (.int .u8 (bs.getD j 0)) := fun j hj => hs.at j hj
  have HEL := Lib.hid hel
  have HB := Lib.hid hb
  have HL := Lib.hid hlen
  obtain ⟨cc, hcc⟩ : ∃ cc : Int, ((crc bs : Nat) : Int) = cc := ⟨_, rfl⟩
  rw [hcc]
  have HCC := Lib.hid hcc
  clear hel hs hb hlen hcc
  go_enter Tryd.func51, Tryd.ntmps51
  go_wp2
  go_loop [3, 8] (fun u i => ∃ j : Nat, j ≤ len ∧ i = .int .i64 j ∧ u = .int .u32 ((reg 4294967295 (bs.take j) : Nat) : Int)) (fun _ i => len - (intOf i).toNat)
  case atStart => exact ⟨0, Nat.zero_le _, rfl, rfl⟩
  case round =>
    obtain ⟨j, hj, rfl, rfl⟩ := hrel
    obtain ⟨jj, hjj⟩ : ∃ jj : Int, (j : Int) = jj := ⟨_, rfl⟩
    obtain ⟨u, hu⟩ : ∃ u, reg 4294967295 (bs.take j) = u := ⟨_, rfl⟩
    have hul : u < 4294967296 := hu ▸ reg_lt _ _ (fun x hx => HB.out x (List.mem_of_mem_take hx)) (by decide)
    rw [hjj, hu]
    have hl' := HL.out
    by_cases hlt : j < len
    · have hjl : j < bs.length := by omega
      obtain ⟨b2, off2, rfl, hc2⟩ := HEL.out j hjl
      have hbb := HB.out bs[j] (List.getElem_mem _)
      obtain ⟨y, hy⟩ : ∃ y : Nat, (y : Int) = bs[j] := ⟨bs[j].toNat, by omega⟩
      have hy2 : bs.getD j 0 = y := by simp [List.getD, hjl, hy]
      rw [hy2] at hc2
      have hyl : y < 256 := by omega
      have hnx : reg 4294967295 (bs.take (j + 1)) = Tn 8 (u ^^^ y) := by
        rw [List.take_succ_eq_append_getElem hjl, reg_append, hu, ← hy]; rfl
      have hcall := fun w1 => register_any u y hul hyl w1
      rw [← hnx] at hcall
      obtain ⟨yi, hyi⟩ : ∃ yi : Int, (y : Int) = yi := ⟨_, rfl⟩
      obtain ⟨ui, hui⟩ : ∃ ui : Int, (u : Int) = ui := ⟨_, rfl⟩
      rw [hyi] at hc2 hcall
      rw [hui] at hcall ⊢
      have ej : jj.toNat = j := by omega
      rw [← ej] at hc2
      have hj0 : 0 ≤ jj := by omega
      have hltj : jj < len := by omega
      have HJ := Lib.hid hjj
      have HC := Lib.hid hcall
      clear hjj hu hul hy hy2 hyl hnx hcall hyi hui ej hlt hjl hl' hbb
      go_wp2_with (go_at_call 69; (with_reducible refine (HC.out _).mono ?_); rintro e w2 ⟨rfl, rfl⟩)
      have hjj := HJ.out
      go_round
      case rel => exact ⟨j + 1, by omega, by congr 1; omega, rfl⟩
      case measure => simp [intOf]; omega
    · obtain rfl : j = len := by omega
      have hex : ¬ jj < j := by omega
      have hful : bs.take j = bs := by rw [List.take_of_length_le]; omega
      rw [hful] at hu
      have e := u32_xor_nat u 4294967295 hul (by decide)
      have e2 : ((u ^^^ 4294967295 : Nat) : Int) = ((crc bs : Nat) : Int) := by rw [Nat.xor_comm, ← hu]; rfl
      rw [e2] at e
      obtain ⟨ui, hui⟩ : ∃ ui : Int, (u : Int) = ui := ⟨_, rfl⟩
      have e3 : ((4294967295 : Nat) : Int) = 4294967295 := rfl
      rw [hui, HCC.out, e3] at e
      rw [hui]
      clear hjj hful hl' hu hul e2 e3 hui
      go_wp2
      go_ret
      exact ⟨rfl, rfl⟩

set_option maxRecDepth 100000 in
/-- A sum's four bytes: a row of the call's own. -/
theorem four_any (x : Nat) (hx : x < 4294967296) (w : World) :
    Calls Tryd.prog 50 #[.int .u32 x] w fun e w' => ∃ v, e = .returned v ∧ w'.ownsRow w.heap.size 5 1 v 4 ((four x).map (Value.int .u8)) ∧ Kp w w' := by
  obtain ⟨xx, hxx⟩ : ∃ xx : Int, (x : Int) = xx := ⟨_, rfl⟩
  have x0 : 0 ≤ xx := by omega
  have x1 : xx < 4294967296 := by omega
  have HX := Lib.hid hxx
  rw [hxx]
  clear hxx
  go_enter Tryd.func50, Tryd.ntmps50
  go_wp2
  go_ret
  refine ⟨_, rfl, ?_, kp_alloc _ _⟩
  have h := World.ownsRow_lit (base := w.heap.size) (e := 5) (size := 1) w #[.int .u8 (xx / 16777216), .int .u8 (xx / 65536 % 256), .int .u8 (xx / 256 % 256), .int .u8 (xx % 256)] 4 (Nat.le_refl _) (by decide) rfl
  have e : (four x).map (Value.int .u8) = #[Value.int .u8 (xx / 16777216), .int .u8 (xx / 65536 % 256), .int .u8 (xx / 256 % 256), .int .u8 (xx % 256)].toList := by
    have e0 : xx / 16777216 = xx / 16777216 % 256 := by omega
    rw [e0, ← HX.out]
    simp [four]
  rw [e]
  exact h
end Go.Proofs.YtpehmkglkjlmfaaDoor
