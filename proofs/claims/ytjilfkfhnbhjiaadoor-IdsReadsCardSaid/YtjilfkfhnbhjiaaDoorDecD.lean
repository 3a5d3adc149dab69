/-
  DECIMAL DIGITS (own work): liaisonref05.Digits.
-/
import Derived.Test.YtjilfkfhnbhjiaaDoorAppB
import Derived.Deep.RegionHeld3
import Derived.Lib.Strings
namespace Go.Proofs.YtjilfkfhnbhjiaaDoor
open Go.RowKit Go.ChangeShapes Go.WideShapes

theorem str_append (xs ys : List Int) : strOfNums xs ++ strOfNums ys = strOfNums (xs ++ ys) := by
  apply ByteArray.ext
  apply Array.ext'
  rw [ByteArray.data_append, Array.toList_append, strOfNums_data, strOfNums_data, strOfNums_data, List.map_append]
theorem str_size (xs : List Int) : (strOfNums xs).size = xs.length := by
  have h := congrArg List.length (strOfNums_data xs)
  simpa using h

/-- a number's digits, k at most -/
def decF : Nat → Nat → List Int
  | 0, _ => []
  | k + 1, n => if n < 10 then [((48 + n : Nat) : Int)] else decF k (n / 10) ++ [((48 + n % 10 : Nat) : Int)]
theorem decF_len : ∀ k n, (decF k n).length ≤ k
  | 0, _ => Nat.le_refl _
  | k + 1, n => by
    unfold decF
    split
    · simp
    · have := decF_len k (n / 10)
      simp; omega
theorem decF_any : ∀ k k' n, n < 10 ^ k → n < 10 ^ k' → 0 < k → 0 < k' → decF k n = decF k' n
  | 0, _, _, _, _, h, _ => absurd h (by decide)
  | _, 0, _, _, _, _, h => absurd h (by decide)
  | k + 1, k' + 1, n, h, h', _, _ => by
    unfold decF
    split
    · rfl
    · rename_i g
      have hk : 0 < k := by
        rcases Nat.eq_zero_or_pos k with rfl | q
        · simp at h; omega
        · exact q
      have hk' : 0 < k' := by
        rcases Nat.eq_zero_or_pos k' with rfl | q
        · simp at h'; omega
        · exact q
      rw [decF_any k k' (n / 10) (by rw [Nat.pow_succ] at h; omega) (by rw [Nat.pow_succ] at h'; omega) hk hk']
theorem decF_in : ∀ k n, InB (decF k n)
  | 0, _ => fun x hx => by cases hx
  | k + 1, n => by
    unfold decF
    split
    · intro x hx
      have := List.mem_singleton.1 hx
      omega
    · intro x hx
      rcases List.mem_append.1 hx with h | h
      · exact decF_in k _ x h
      · have := List.mem_singleton.1 h
        omega
/-- A NUMBER's DIGITS. -/
def dec (n : Nat) : List Int := decF 8 n

theorem box_byte (w : World) (x : Int) (t : TypeId) : SlB (.slice (some ⟨w.heap.size, 0, none⟩) 1 1) [x] (w.alloc (.cells #[.int .u8 x] t)) :=
  .inr ⟨w.heap.size, 0, 1, by simp, rfl, fun j hj => by
    obtain rfl : j = 0 := by simpa using hj
    exact box_cell w _ t⟩

set_option maxRecDepth 20000 in
set_option maxHeartbeats 1000000 in
theorem refDigits_F : ∀ (k : Nat) (_ : k ≤ 8) (n : Nat) (_ : n < 10 ^ k) (_ : 0 < k) (nn : Int) (_ : (n : Int) = nn) (w : World),
    Calls Tryd.prog 13 #[.int .i64 nn] w fun e w' => e = .returned (.string (strOfNums (decF k n))) ∧ Kp w w'
  | 0, _, _, _, h, _, _, _ => absurd h (by decide)
  | k + 1, hk, n, hn, _, nn, hnn, w => by
    have n0 : 0 ≤ nn := by omega
    have nb : nn < 100000000 := by
      have : (10 : Nat) ^ (k + 1) ≤ 10 ^ 8 := Nat.pow_le_pow_right (by decide) hk
      have e : (10 : Nat) ^ 8 = 100000000 := by decide
      omega
    by_cases h10 : n < 10
    · have hl : nn < 10 := by omega
      obtain ⟨dd, hdd⟩ : ∃ dd : Int, 48 + nn = dd := ⟨_, rfl⟩
      have e1 : decF (k + 1) n = [dd] := by
        unfold decF
        rw [if_pos h10, ← hdd]
        congr 1
        omega
      have d0 : 0 ≤ dd := by omega
      have d1 : dd < 256 := by omega
      have cv := conv_slb (box_byte w dd 5)
      obtain ⟨ss, hss⟩ : ∃ ss, strOfNums [dd] = ss := ⟨_, rfl⟩
      rw [e1, hss]
      rw [hss] at cv
      clear hss e1 h10 hn hnn
      go_enter Tryd.func13, Tryd.ntmps13
      go_wp2
      go_ret
      exact ⟨rfl, kp_alloc _ _⟩
    have hk0 : 0 < k := by
      rcases Nat.eq_zero_or_pos k with rfl | q
      · simp at hn; omega
      · exact q
    obtain ⟨qq, hqq⟩ : ∃ qq : Int, nn / 10 = qq := ⟨_, rfl⟩
    have IH0 := fun w1 => refDigits_F k (by omega) (n / 10) (by rw [Nat.pow_succ] at hn; omega) hk0 qq (by omega) w1
    have eq0 : IntKind.i64.wrap (nn.tdiv 10) = qq := by
      rw [Int.tdiv_eq_ediv_of_nonneg n0, IntKind.wrap_i64]; omega
    obtain ⟨rr, hrr⟩ : ∃ rr : Int, nn % 10 = rr := ⟨_, rfl⟩
    have er0 : nn.tmod 10 = rr := by rw [Int.tmod_eq_emod_of_nonneg n0]; exact hrr
    have r0 : 0 ≤ rr := by omega
    have r1 : rr < 10 := by omega
    obtain ⟨dd, hdd⟩ : ∃ dd : Int, 48 + rr = dd := ⟨_, rfl⟩
    have d0 : 0 ≤ dd := by omega
    have d1 : dd < 256 := by omega
    have hgl : ¬ nn < 10 := by omega
    have HW1 := Lib.hid (show IntKind.i64.wrap dd = dd by rw [IntKind.wrap_i64]; omega)
    have HW2 := Lib.hid (show IntKind.u8.wrap dd = dd by rw [IntKind.wrap_u8]; omega)
    have e1 : decF (k + 1) n = decF k (n / 10) ++ [dd] := by
      conv => lhs; unfold decF
      rw [if_neg h10]
      congr 2
      omega
    obtain ⟨ss, hss⟩ : ∃ ss, strOfNums (decF k (n / 10)) = ss := ⟨_, rfl⟩
    obtain ⟨tt, htt⟩ : ∃ ss, strOfNums [dd] = ss := ⟨_, rfl⟩
    obtain ⟨uu, huu⟩ : ∃ ss, strOfNums (decF (k + 1) n) = ss := ⟨_, rfl⟩
    have HCAT := Lib.hid (show ss ++ tt = uu by rw [← hss, ← htt, ← huu, e1]; exact str_append _ _)
    have HSUM := Lib.hid (show ¬ 9223372036854775807 < ss.size + tt.size by
      have := decF_len k (n / 10)
      rw [← hss, ← htt, str_size, str_size]
      simp only [List.length_singleton]
      omega)
    have HS1 := Lib.hid htt
    simp only [hss] at IH0
    rw [huu]
    have IH := Lib.hid IH0
    clear IH0 hss htt huu e1 h10 hn hnn hk0 hqq hrr hk
    go_enter Tryd.func13, Tryd.ntmps13
    go_wp2
    refine wp_region_held_drew (S := fun w' => Kp w w') (by kernel_rfl) ?_ (fun hHeld => ?_)
    · exact (Kp.refl w).drew
    refine wpAnyH_take (i := 0) (v := ?_) rfl (by kernel_rfl) (by kernel_rfl) (by kernel_rfl) (fun _ _ _ h => h) (Or.inl ⟨by rfl, ?_⟩) (by assumption) ?_
    rotate_left
    · intro w hSw; go_simp; try with_reducible rfl
    go_simp
    refine wpAnyH_take (i := 1) (v := ?_) rfl (by kernel_rfl) (by kernel_rfl) (by kernel_rfl) (fun _ _ _ h => h) (Or.inl ⟨by rfl, ?_⟩) (by assumption) ?_
    rotate_left
    · intro w hSw; go_simp; try with_reducible rfl
    go_simp
    refine wpAnyH_take (i := 3) (v := ?_) rfl (by kernel_rfl) (by kernel_rfl) (by kernel_rfl) (fun _ _ _ h => h) (Or.inl ⟨by rfl, ?_⟩) (by assumption) ?_
    rotate_left
    · intro w hSw; go_simp; try with_reducible rfl
    go_simp
    refine wpAnyH_take (i := 4) (v := ?_) rfl (by kernel_rfl) (by kernel_rfl) (by kernel_rfl) (fun _ _ _ h => h) (Or.inl ⟨by rfl, ?_⟩) (by assumption) ?_
    rotate_left
    · intro w hSw; go_simp; try with_reducible rfl
    go_simp
    refine wpAnyH_take (i := 5) (v := ?_) rfl (by kernel_rfl) (by kernel_rfl) (by kernel_rfl) (fun _ _ _ h => h) (Or.inl ⟨by rfl, ?_⟩) (by assumption) ?_
    rotate_left
    · intro w hSw; go_simp; rw [HW1.out]
    go_simp
    refine wpAnyH_take (i := 6) (v := ?_) rfl (by kernel_rfl) (by kernel_rfl) (by kernel_rfl) (fun _ _ _ h => h) (Or.inl ⟨by rfl, ?_⟩) (by assumption) ?_
    rotate_left
    · intro w hSw; go_simp; rw [HW2.out]
    go_simp
    refine wpAnyH_ready (rs := [2, 7]) (by kernel_rfl) (by simp) ?_
    refine AllReadyH.cons rfl (fun K hK => ?_) (AllReadyH.cons rfl (fun K hK => ?_) AllReadyH.nil)
    · go_simp
      go_wp2_with (go_at_call 13; (with_reducible refine (IH.out _).mono ?_); rintro e w1 ⟨rfl, hk1⟩; have K1 := Lib.hid (Kp.trans hHeld hk1); have KC := Lib.hid hk1; clear hk1)
      refine hK.out _ _ ?_ (fun hHeld => ?_)
      · exact K1.out
      clear hK K
      refine wpAnyH_ready (rs := [7]) (by kernel_rfl) (by simp) ?_
      refine AllReadyH.cons rfl (fun K hK => ?_) AllReadyH.nil
      go_simp
      refine hK.out _ _ ?_ (fun hHeld => ?_)
      · exact Kp.trans K1.out (kp_alloc _ _)
      clear hK K
      have cv := conv_slb (box_byte w1 dd 5)
      rw [HS1.out] at cv
      refine wpAnyH_ready (rs := [8]) (by kernel_rfl) (by simp) ?_
      refine AllReadyH.cons rfl (fun K hK => ?_) AllReadyH.nil
      go_simp
      refine hK.out _ _ ?_ (fun hHeld => ?_)
      · exact hHeld
      clear hK K
      refine wpAnyH_take (i := 9) (v := ?_) rfl (by kernel_rfl) (by kernel_rfl) (by kernel_rfl) (fun _ _ _ h => h) (Or.inl ⟨by rfl, ?_⟩) (by assumption) ?_
      rotate_left
      · intro w hSw; go_simp; rw [if_neg HSUM.out, HCAT.out]
      go_simp
      refine wpAnyH_take (i := 10) (v := ?_) rfl (by kernel_rfl) (by kernel_rfl) (by kernel_rfl) (fun _ _ _ h => h) (Or.inl ⟨by rfl, ?_⟩) (by assumption) ?_
      rotate_left
      · intro w hSw; go_simp; try with_reducible rfl
      go_simp
      refine wpAnyH_done (by kernel_rfl) ?_ _
      go_wp2
      go_ret
      exact ⟨rfl, hHeld⟩
    · go_simp
      refine hK.out _ _ ?_ (fun hHeld => ?_)
      · exact Kp.trans (Kp.refl w).drew (kp_alloc _ _)
      clear hK K
      refine wpAnyH_ready (rs := [2, 8]) (by kernel_rfl) (by simp) ?_
      refine AllReadyH.cons rfl (fun K hK => ?_) (AllReadyH.cons rfl (fun K hK => ?_) AllReadyH.nil)
      · go_simp
        go_wp2_with (go_at_call 13; (with_reducible refine (IH.out _).mono ?_); rintro e w1 ⟨rfl, hk1⟩; have K1 := Lib.hid (Kp.trans hHeld hk1); have KC := Lib.hid hk1; clear hk1)
        refine hK.out _ _ ?_ (fun hHeld => ?_)
        · exact K1.out
        clear hK K
        have cv := conv_slb (((box_byte w dd 5).kp (Kp.refl _).drew).kp KC.out)
        rw [HS1.out] at cv
        refine wpAnyH_ready (rs := [8]) (by kernel_rfl) (by simp) ?_
        refine AllReadyH.cons rfl (fun K hK => ?_) AllReadyH.nil
        go_simp
        refine hK.out _ _ ?_ (fun hHeld => ?_)
        · exact hHeld
        clear hK K
        refine wpAnyH_take (i := 9) (v := ?_) rfl (by kernel_rfl) (by kernel_rfl) (by kernel_rfl) (fun _ _ _ h => h) (Or.inl ⟨by rfl, ?_⟩) (by assumption) ?_
        rotate_left
        · intro w hSw; go_simp; rw [if_neg HSUM.out, HCAT.out]
        go_simp
        refine wpAnyH_take (i := 10) (v := ?_) rfl (by kernel_rfl) (by kernel_rfl) (by kernel_rfl) (fun _ _ _ h => h) (Or.inl ⟨by rfl, ?_⟩) (by assumption) ?_
        rotate_left
        · intro w hSw; go_simp; try with_reducible rfl
        go_simp
        refine wpAnyH_done (by kernel_rfl) ?_ _
        go_wp2
        go_ret
        exact ⟨rfl, hHeld⟩
      · have cv := conv_slb ((box_byte w dd 5).kp (Kp.refl _).drew)
        rw [HS1.out] at cv
        go_simp
        refine hK.out _ _ ?_ (fun hHeld => ?_)
        · exact hHeld
        clear hK K
        refine wpAnyH_ready (rs := [2]) (by kernel_rfl) (by simp) ?_
        refine AllReadyH.cons rfl (fun K hK => ?_) AllReadyH.nil
        go_simp
        go_wp2_with (go_at_call 13; (with_reducible refine (IH.out _).mono ?_); rintro e w1 ⟨rfl, hk1⟩; have K1 := Lib.hid (Kp.trans hHeld hk1); have KC := Lib.hid hk1; clear hk1)
        refine hK.out _ _ ?_ (fun hHeld => ?_)
        · exact K1.out
        clear hK K
        refine wpAnyH_take (i := 9) (v := ?_) rfl (by kernel_rfl) (by kernel_rfl) (by kernel_rfl) (fun _ _ _ h => h) (Or.inl ⟨by rfl, ?_⟩) (by assumption) ?_
        rotate_left
        · intro w hSw; go_simp; rw [if_neg HSUM.out, HCAT.out]
        go_simp
        refine wpAnyH_take (i := 10) (v := ?_) rfl (by kernel_rfl) (by kernel_rfl) (by kernel_rfl) (fun _ _ _ h => h) (Or.inl ⟨by rfl, ?_⟩) (by assumption) ?_
        rotate_left
        · intro w hSw; go_simp; try with_reducible rfl
        go_simp
        refine wpAnyH_done (by kernel_rfl) ?_ _
        go_wp2
        go_ret
        exact ⟨rfl, hHeld⟩
theorem refDigits_any (n : Nat) (hn : n < 1000000) (nn : Int) (hnn : (n : Int) = nn) (w : World) :
    Calls Tryd.prog 13 #[.int .i64 nn] w fun e w' => e = .returned (.string (strOfNums (dec n))) ∧ Kp w w' :=
  refDigits_F 8 (Nat.le_refl _) n (Nat.lt_of_lt_of_le hn (by decide)) (by decide) nn hnn w
end Go.Proofs.YtjilfkfhnbhjiaaDoor
