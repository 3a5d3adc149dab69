/-
  THE WALK OF FloatsLeast (own work).
-/
import Derived.Test.YtcfjecllfghkbaaDoorRows
import Derived.Test.YtcfjecllfghkbaaDoorSl
namespace Go.Proofs.YtcfjecllfghkbaaDoor
open Go.RowKit

theorem same_refl (a : Nat) (w : World) :
    Calls Tryd.prog 16 #[.float .f64 a, .float .f64 a] w fun e w' => e = .returned (.bool true) ∧ w = w' := by
  have h := same_any a a w
  rw [decide_eq_true rfl] at h
  exact h
theorem lstep_nan {x acc : Nat} (hx : Fl.isNan x = true) (ha : acc < 18446744073709551616) : lstep acc x = acc := by
  unfold lstep
  rw [if_neg]
  have h1 : Fl.place x = 18446744073709551615 := by unfold Fl.place; rw [if_pos hx]
  have h2 := Fl.place_lt ha
  have := Fl.cmpN_spec (Fl.place x) (Fl.place acc)
  unfold Fl.ord
  omega

theorem fleast_nil (a : Option Addr) (cap : Nat) (w : World) :
    Calls Tryd.prog 5 #[.slice a 0 cap] w fun e w' => e = .returned (.bool true) ∧ w = w' := by
  have hp : ∀ w, Calls Tryd.prog 17 #[.float .f64 9218868437227405312] w fun e w' => e = .returned (.float .f64 9218868437227405312) ∧ w = w' :=
    fun w => refPlain_any 9218868437227405312 w (by omega)
  go_enter Tryd.func5, Tryd.ntmps5
  go_wp2_with (first | (go_at_call 10; (with_reducible refine (alive_any _).mono ?_); rintro e w' ⟨rfl, rfl⟩) | (go_at_call 24; (with_reducible refine (inf_one _).mono ?_); rintro e w' ⟨rfl, rfl⟩))
  refine wp_loop_rounds 1 ?_
  rw [rounds_succ]
  go_wp2_with (first | (go_at_call 26; (with_reducible refine (least_nil _ _ _).mono ?_); rintro e w' ⟨rfl, rfl⟩) | (go_at_call 17; (with_reducible refine (hp _).mono ?_); rintro e w' ⟨rfl, rfl⟩) | (go_at_call 16; (with_reducible refine (same_refl _ _).mono ?_); rintro e w' ⟨rfl, rfl⟩))
  go_ret
  exact ⟨rfl, rfl⟩

theorem fleast_long (a : Option Addr) (len cap : Nat) (w : World) (h : 500 < len) :
    Calls Tryd.prog 5 #[.slice a len cap] w fun e w' => e = .returned (.bool true) ∧ w = w' := by
  obtain ⟨n, hn⟩ : ∃ n : Int, (len : Int) = n := ⟨_, rfl⟩
  have h' : 500 < n := by omega
  clear h
  go_enter Tryd.func5, Tryd.ntmps5
  go_wp2_with (first | (go_at_call 10; (with_reducible refine (alive_any _).mono ?_); rintro e w' ⟨rfl, rfl⟩))
  go_ret
  exact ⟨rfl, rfl⟩

set_option maxRecDepth 100000 in
set_option maxHeartbeats 2000000 in
theorem fleast_some (b off cap : Nat) (bs : List Nat) (w : World) (hs : bs.length ≤ 500) (h0 : 0 < bs.length) (hb : ∀ x ∈ bs, x < 18446744073709551616)
    (hc : ∀ j, j < bs.length → w.cell? ⟨b, off + j, none⟩ = some (.float .f64 (bs.getD j 0))) :
    Calls Tryd.prog 5 #[.slice (some ⟨b, off, none⟩) bs.length cap] w fun e w' => e = .returned (.bool true) ∧ w = w' := by
  have hle : ∀ w', w = w' → Calls Tryd.prog 26 #[.slice (some ⟨b, off, none⟩) bs.length cap] w' fun e w' => e = .returned (.float .f64 (Fl.plain (lst bs))) ∧ w = w' := by
    intro w' hw; subst hw
    exact least_some b off cap bs w (by unfold maxLen; omega) hb hc
  obtain ⟨len, hlen⟩ : ∃ len, bs.length = len := ⟨_, rfl⟩
  rw [hlen] at hs h0 hc hle ⊢
  have le := hle w rfl
  have rp : ∀ w, Calls Tryd.prog 17 #[.float .f64 (lst bs)] w fun e w' => e = .returned (.float .f64 (Fl.plain (lst bs))) ∧ w = w' := fun w => refPlain_any _ w (lst_lt hb)
  have HC := Lib.hid hc
  have HB := Lib.hid hb
  have HL := Lib.hid hlen
  clear hc hb hlen hle
  go_enter Tryd.func5, Tryd.ntmps5
  go_wp2_with (first | (go_at_call 10; (with_reducible refine (alive_any _).mono ?_); rintro e w' ⟨rfl, rfl⟩) | (go_at_call 24; (with_reducible refine (inf_one _).mono ?_); rintro e w' ⟨rfl, rfl⟩))
  go_loop [3, 14] (fun x i => ∃ k : Nat, k ≤ len ∧ i = .int .i64 k ∧ x = .float .f64 (lst (bs.take k))) (fun _ i => len - (intOf i).toNat)
  case atStart => exact ⟨0, Nat.zero_le _, rfl, rfl⟩
  case round =>
    obtain ⟨k, hk, rfl, rfl⟩ := hrel
    obtain ⟨acc, ha⟩ : ∃ acc, lst (bs.take k) = acc := ⟨_, rfl⟩
    have hacc : acc < 18446744073709551616 := by rw [← ha]; exact lst_lt fun x hx => HB.out x (List.mem_of_mem_take hx)
    simp only [ha]
    by_cases hlt : k < len
    · obtain ⟨x, hx⟩ : ∃ x, bs.getD k 0 = x := ⟨_, rfl⟩
      have hxl : x < 18446744073709551616 := by
        rw [← hx]; refine HB.out _ ?_
        have : k < bs.length := by have := HL.out; omega
        simp [List.getD, this]
      have hcell : w.cell? ⟨b, off + k, none⟩ = some (.float .f64 x) := by rw [← hx]; exact HC.out k hlt
      have hstep : lst (bs.take (k + 1)) = lstep acc x := by rw [← ha, ← hx]; exact lst_take (by have := HL.out; omega)
      have HS := Lib.hid hstep
      have XL := Lib.hid hxl
      have AC := Lib.hid hacc
      clear hstep hx ha hxl hacc
      cases hn : Fl.isNan x
      · obtain ⟨v, hv⟩ : ∃ v, Fl.ord x acc = v := ⟨_, rfl⟩
        have o : ∀ w, Calls Tryd.prog 12 #[.float .f64 x, .float .f64 acc] w fun e w' => e = .returned (.int .i64 v) ∧ w = w' := by
          intro w; rw [← hv]; exact refOrder_any x acc w XL.out AC.out
        have HV := Lib.hid hv
        clear hv
        by_cases hneg : v < 0
        all_goals
          go_wp2_with (first | (go_at_call 25; (with_reducible refine (refNaN_f x _ XL.out hn).mono ?_); rintro e w' ⟨rfl, rfl⟩) | (go_at_call 12; (with_reducible refine (o _).mono ?_); rintro e w' ⟨rfl, rfl⟩))
          go_round
          case rel => exact ⟨k + 1, by omega, by go_num, by rw [HS.out]; unfold lstep; rw [HV.out]; first | rw [if_pos hneg] | rw [if_neg (show ¬ v < 0 by omega)]⟩
          case measure => simp [intOf]; omega
      · go_wp2_with (go_at_call 25; (with_reducible refine (refNaN_t x _ XL.out hn).mono ?_); rintro e w' ⟨rfl, rfl⟩)
        go_round
        case rel => exact ⟨k + 1, by omega, by go_num, by rw [HS.out, lstep_nan hn AC.out]⟩
        case measure => simp [intOf]; omega
    · have hkk : k = len := by omega
      subst hkk
      have hall : lst bs = acc := by rw [← ha, List.take_of_length_le (by have := HL.out; omega)]
      rw [hall] at le rp
      clear hall ha hlt hacc
      go_wp2_with (first | (go_at_call 26; (with_reducible refine (le).mono ?_); rintro e w' ⟨rfl, rfl⟩) | (go_at_call 17; (with_reducible refine (rp _).mono ?_); rintro e w' ⟨rfl, rfl⟩) | (go_at_call 16; (with_reducible refine (same_refl _ _).mono ?_); rintro e w' ⟨rfl, rfl⟩))
      go_ret
      exact ⟨rfl, rfl⟩

theorem floatsLeast_walk (v : Value) (bs : List Nat) (W : World) (hs : SlF v bs W) (hb : ∀ x ∈ bs, x < 18446744073709551616) (_hl : bs.length ≤ maxLen) :
    Calls Tryd.prog 5 #[v] W fun e w' => e = .returned (.bool true) ∧ Below W.heap.size W w' := by
  suffices h : Calls Tryd.prog 5 #[v] W fun e w' => e = .returned (.bool true) ∧ W = w' from
    h.mono fun e w' ⟨he, hw⟩ => ⟨he, hw ▸ Below.refl _ _⟩
  rcases hs with ⟨rfl, a, cap, rfl⟩ | ⟨b, off, cap, h0, rfl, hc⟩
  · exact fleast_nil a cap W
  · by_cases h : bs.length ≤ 500
    · exact fleast_some b off cap bs W h h0 hb hc
    · exact fleast_long _ _ cap W (by omega)

end Go.Proofs.YtcfjecllfghkbaaDoor
