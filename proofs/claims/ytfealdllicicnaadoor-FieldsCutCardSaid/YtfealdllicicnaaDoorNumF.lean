/-
  fields.Number (own work).
-/
import Derived.Test.YtfealdllicicnaaDoorLen
import Derived.Test.YtfealdllicicnaaDoorTryG
import Derived.Test.YtfealdllicicnaaDoorDig
import Derived.Test.YtfealdllicicnaaDoorVal
import Derived.Lib.ItoaNum
namespace Go.Proofs.YtfealdllicicnaaDoor
open Go.RowKit Go.ChangeShapes Go.WideShapes

/-- as many bytes as a number has -/
def nb (x : Nat) : Nat := (Lib.bitLen x + 7) / 8
theorem nb_zero : nb 0 = 0 := by decide
theorem nb_next (x : Nat) (h0 : x ≠ 0) (h : x < 18446744073709551616) : nb x = nb (x / 256) + 1 := by
  unfold nb
  rcases Nat.lt_or_ge x 256 with g | g
  · have e : x / 256 = 0 := by omega
    have h1 := Lib.bitLenAux_bounds 64 x h h0
    have h2 := Lib.bitLen_le8 ⟨x, g⟩
    have e0 : Lib.bitLen 0 = 0 := by decide
    rw [e, e0]
    unfold Lib.bitLen at h2 ⊢
    simp only at h2
    omega
  · rw [Lib.bitLen_shift8 x g h]
    omega
theorem nb_le (x : Nat) (h : x < 18446744073709551616) : nb x ≤ 8 := by
  unfold nb
  have := Lib.bitLen_le x 64 (by decide) h
  omega
theorem digB_next (x m : Nat) : digB x (m + 1) = digB (x / 256) m ++ [((x % 256 : Nat) : Int)] := by
  unfold digB
  rw [List.range_succ, List.map_append]
  congr 1
  · refine List.map_congr_left fun p hp => ?_
    have hp' := List.mem_range.1 hp
    have e : m + 1 - 1 - p = (m - 1 - p) + 1 := by omega
    rw [e]
    unfold fb
    rw [Nat.pow_succ, Nat.mul_comm, Nat.div_div_eq_div_mul]
  · simp [fb]
theorem beF_dig (k : Nat) : ∀ x, x < 256 ^ k → x < 18446744073709551616 → beF k x = digB x (nb x) := by
  induction k with
  | zero =>
    intro x h _
    obtain rfl : x = 0 := by simpa using h
    rfl
  | succ k ih =>
    intro x h h64
    by_cases h0 : x = 0
    · subst h0
      rfl
    · rw [beF, if_neg h0, nb_next x h0 h64, digB_next, ih (x / 256) (by rw [Nat.pow_succ] at h; omega) (by omega)]

theorem len64_any (x : Nat) (h : x < 18446744073709551616) (xx : Int) (hxx : (x : Int) = xx) (w : World) :
    Calls Tryd.prog 46 #[.int .u64 xx] w fun e w' => e = .returned (.int .i64 (Lib.bitLen x)) ∧ w = w' := by
  have t := Any.bits_Len64 Tryd.lays129 xx w (by omega) (by omega)
  have e : xx.toNat = x := by omega
  rw [e] at t
  refine t.mono ?_
  rintro e w' ⟨h1, h2⟩
  exact ⟨h1, h2.symm⟩

theorem number1_err (ads : List Addr) (h0 : 0 < ads.length) (p : Addr) (n : Int) (hn : n < 0) (w : World) (V : St ads w) (hp : w.cell? p = some (.int .i64 n)) :
    Calls Tryd.prog 45 #[.pointer (some p)] w fun e w' => e = .panicked [{ v := snt ads[0], recovered := false }] ∧ Kp w w' := by
  have c0 : w.cell? ⟨0, 0, none⟩ = some (snt ads[0]) := V.cell 0 (by decide)
  obtain ⟨a, ha⟩ : ∃ a, ads[0] = a := ⟨_, rfl⟩
  rw [ha] at c0 ⊢
  have hn' : ¬ n ≥ 0 := by omega
  clear ha V
  go_enter Tryd.func45, Tryd.ntmps45
  go_wp2_with (go_at_call 43; (with_reducible refine (demand_f _ _).mono ?_); rintro e w' ⟨rfl, rfl⟩)
  exact ⟨rfl, rfl, Kp.refl _⟩

set_option maxRecDepth 20000 in
theorem number1_any (ads : List Addr) (p : Addr) (n : Nat) (hn : n < 9223372036854775808) (nn : Int) (hnn : (n : Int) = nn) (w : World) (V : St ads w) (hp : w.cell? p = some (.int .i64 nn)) :
    Calls Tryd.prog 45 #[.pointer (some p)] w fun e w' => ∃ v, e = .returned v ∧ w'.ownsRow w.heap.size 5 1 v (beF 8 n).length ((beF 8 n).map (Value.int .u8)) ∧ Kp w w' := by
  have hl : 0 < ads.length := by have := V.len; simp [gs14] at this; omega
  have c0 : w.cell? ⟨0, 0, none⟩ = some (snt ads[0]) := V.cell 0 (by decide)
  have n64 : n < 18446744073709551616 := by omega
  have hd : ∀ w, Calls Tryd.prog 38 #[.int .u64 nn, .int .i64 (nb n)] w _ := fun w => digits_any n (nb n) n64 (nb_le n n64) nn _ hnn rfl w
  have hlen : ∀ w, Calls Tryd.prog 46 #[.int .u64 nn] w _ := fun w => len64_any n n64 nn hnn w
  have hb : (Lib.bitLen n) ≤ 64 := Lib.bitLen_le n 64 (by decide) n64
  obtain ⟨L, hL⟩ : ∃ L : Int, (Lib.bitLen n : Int) = L := ⟨_, rfl⟩
  have hq : (L + 7).tdiv 8 = (nb n : Int) := by
    rw [Int.tdiv_eq_ediv_of_nonneg (by omega)]
    unfold nb
    omega
  have hlb : 0 ≤ L ∧ L ≤ 64 := by omega
  simp only [hL] at hlen
  have hbe := beF_dig 8 n n64 n64
  have hdl : (digB n (nb n)).length = nb n := by simp [digB]
  rw [hbe, hdl]
  obtain ⟨nbn, hnb⟩ : ∃ k : Int, (nb n : Int) = k := ⟨_, rfl⟩
  simp only [hnb] at hd hq
  have n0 : 0 ≤ nn ∧ nn < 9223372036854775808 := by omega
  have hnb8 : 0 ≤ nbn ∧ nbn ≤ 8 := by have := nb_le n n64; omega
  have HD := Lib.hid hd
  have HLN := Lib.hid hlen
  clear hd hlen hbe hdl hb hL hnn hnb V n64 hn
  go_enter Tryd.func45, Tryd.ntmps45
  go_wp2_with (first | (go_at_call 43; (with_reducible refine (demand_t _ _).mono ?_); rintro e w' ⟨rfl, rfl⟩) | (go_at_call 46; (with_reducible refine (HLN.out _).mono ?_); rintro e w' ⟨rfl, rfl⟩) | (go_at_call 38; (with_reducible refine (HD.out _).mono ?_); rintro e w' ⟨rfl, ho, hk⟩; have HO := Lib.hid ho; have HK := Lib.hid hk; clear ho hk))
  go_ret
  exact ⟨_, rfl, HO.out, HK.out⟩

theorem number_err (ads : List Addr) (h0 : 0 < ads.length) (n : Int) (hn : n < 0) (w : World) (V : St ads w) :
    Calls Tryd.prog 22 #[.int .i64 n] w fun e w' => e = .returned (.tuple #[.slice none 0 0, snt ads[0]]) ∧ Kp w w' := by
  have hmf : ∀ (fn : Fn) (first cap : Array Value) (w : World), (Instr.makeFunc fn first cap).run Tryd.prog w = .ok (.func fn first cap) w := fun _ _ _ _ => rfl
  have kb := kp_alloc w (.cells #[.int .i64 n] 3)
  have hc := box_cell w (.int .i64 n) 3
  have HT := Lib.hid (try_bytes_err ads 0 h0 45 #[.pointer (some ⟨w.heap.size, 0, none⟩)] (w.alloc (.cells #[.int .i64 n] 3)) (V.below kb) (by intro w; simp [go_sem]) fun w1 h1 => number1_err ads h0 _ n hn w1 (V.below (Kp.trans kb h1)) (kp_cell h1 hc))
  have KB := Lib.hid kb
  clear kb hc V
  go_enter Tryd.func22, Tryd.ntmps22
  go_wp2_with (go_at_call 35; (with_reducible refine HT.out.mono ?_); rintro e w' ⟨rfl, hk⟩; have HK := Lib.hid hk; clear hk)
  go_ret2
  exact ⟨rfl, Kp.trans KB.out HK.out⟩

theorem number_any (ads : List Addr) (n : Nat) (hn : n < 9223372036854775808) (nn : Int) (hnn : (n : Int) = nn) (w : World) (V : St ads w) :
    Calls Tryd.prog 22 #[.int .i64 nn] w fun e w' => ∃ v, e = .returned (.tuple #[v, .nilIface]) ∧ w'.ownsRow w.heap.size 5 1 v (beF 8 n).length ((beF 8 n).map (Value.int .u8)) ∧ Kp w w' := by
  have hmf : ∀ (fn : Fn) (first cap : Array Value) (w : World), (Instr.makeFunc fn first cap).run Tryd.prog w = .ok (.func fn first cap) w := fun _ _ _ _ => rfl
  have kb := kp_alloc w (.cells #[.int .i64 nn] 3)
  have hc := box_cell w (.int .i64 nn) 3
  have HT := Lib.hid (try_bytes_own 45 #[.pointer (some ⟨w.heap.size, 0, none⟩)] (beF 8 n) (w.alloc (.cells #[.int .i64 nn] 3)) (by intro w; simp [go_sem]) fun w1 h1 => number1_any ads _ n hn nn hnn w1 (V.below (Kp.trans kb h1)) (kp_cell h1 hc))
  have KB := Lib.hid kb
  clear kb hc V hn
  go_enter Tryd.func22, Tryd.ntmps22
  go_wp2_with (go_at_call 35; (with_reducible refine HT.out.mono ?_); rintro e w' ⟨v, rfl, ho, hk⟩; have HK := Lib.hid hk; have HO := Lib.hid ho; clear hk ho)
  go_ret2
  exact ⟨_, rfl, own_mono HO.out (Below.size KB.out), Kp.trans KB.out HK.out⟩
end Go.Proofs.YtfealdllicicnaaDoor
