/-
  TEXTS (own work): liaisonref05.Right, Act, Reg, Part.
-/
import Derived.Test.YtjilfkfhnbhjiaaDoorDecD
namespace Go.Proofs.YtjilfkfhnbhjiaaDoor
open Go.RowKit Go.ChangeShapes Go.WideShapes

theorem dec_len (n : Nat) : (dec n).length ≤ 8 := decF_len 8 n
theorem dec_in (n : Nat) : InB (dec n) := decF_in 8 n
/-- HAS AN ACTIVITY A TEXT? -/
def rightA (n s : Int) : Bool := decide (0 ≤ n ∧ n < 4 ∧ 0 ≤ s ∧ s < 1000000)
def nodeT (n : Nat) : List Int := [110] ++ dec n
def actT (n s : Nat) : List Int := (([97] ++ dec n) ++ [46]) ++ dec s
def regT (n s r : Nat) : List Int := (actT n s ++ [47]) ++ dec r
def partT (n p : Nat) : List Int := (([112] ++ dec n) ++ [46]) ++ dec p

set_option maxRecDepth 20000 in
theorem refRight_any (nn si : Int) (w : World) :
    Calls Tryd.prog 8 #[.agg #[.int .i64 nn, .int .i64 si]] w fun e w' => e = .returned (.bool (rightA nn si)) ∧ Kp w w' := by
  go_enter Tryd.func8, Tryd.ntmps8
  go_wp2
  all_goals (go_ret; refine ⟨?_, kp_alloc _ _⟩; simp [rightA, *] <;> (intros; omega))

theorem c97 : (⟨#[97]⟩ : ByteArray) = strOfNums [97] := by decide
theorem c46 : (⟨#[46]⟩ : ByteArray) = strOfNums [46] := by decide
theorem c47 : (⟨#[47]⟩ : ByteArray) = strOfNums [47] := by decide
theorem c112 : (⟨#[112]⟩ : ByteArray) = strOfNums [112] := by decide
theorem c110 : (⟨#[110]⟩ : ByteArray) = strOfNums [110] := by decide

set_option maxRecDepth 20000 in
set_option maxHeartbeats 1000000 in
theorem refAct_any (n s : Nat) (hn : n < 1000000) (hs : s < 1000000) (nn si : Int) (hnn : (n : Int) = nn) (hsi : (s : Int) = si) (w : World) :
    Calls Tryd.prog 14 #[.agg #[.int .i64 nn, .int .i64 si]] w fun e w' => e = .returned (.string (strOfNums (actT n s))) ∧ Kp w w' := by
  have HD1 := fun w1 => refDigits_any n hn nn hnn w1
  have HD2 := fun w1 => refDigits_any s hs si hsi w1
  have HC1 := Lib.hid (show strOfNums ([97]) ++ strOfNums (dec n) = strOfNums ([97] ++ dec n) from str_append _ _)
  have HZ1 := Lib.hid (show ¬ 9223372036854775807 < 1 + (strOfNums (dec n)).size by rw [str_size]; have := dec_len n; have := dec_len s; omega)
  have HC2 := Lib.hid (show strOfNums ([97] ++ dec n) ++ strOfNums ([46]) = strOfNums (([97] ++ dec n) ++ [46]) from str_append _ _)
  have HZ2 := Lib.hid (show ¬ 9223372036854775807 < (strOfNums ([97] ++ dec n)).size + 1 by rw [str_size]; simp only [List.length_append, List.length_cons, List.length_nil]; have := dec_len n; have := dec_len s; omega)
  have HC3 := Lib.hid (show strOfNums (([97] ++ dec n) ++ [46]) ++ strOfNums (dec s) = strOfNums (actT n s) from str_append _ _)
  have HZ3 := Lib.hid (show ¬ 9223372036854775807 < (strOfNums (([97] ++ dec n) ++ [46])).size + (strOfNums (dec s)).size by rw [str_size, str_size]; simp only [List.length_append, List.length_cons, List.length_nil]; have := dec_len n; have := dec_len s; omega)
  rw [← c97] at HC1
  rw [← c46] at HC2
  obtain ⟨d1, hd1⟩ : ∃ x, strOfNums (dec n) = x := ⟨_, rfl⟩
  obtain ⟨d2, hd2⟩ : ∃ x, strOfNums (dec s) = x := ⟨_, rfl⟩
  obtain ⟨t1, ht1⟩ : ∃ x, strOfNums ([97] ++ dec n) = x := ⟨_, rfl⟩
  obtain ⟨t2, ht2⟩ : ∃ x, strOfNums (([97] ++ dec n) ++ [46]) = x := ⟨_, rfl⟩
  obtain ⟨t3, ht3⟩ : ∃ x, strOfNums (actT n s) = x := ⟨_, rfl⟩
  simp only [hd1, hd2, ht1, ht2, ht3] at HD1 HD2 HC1 HC2 HC3 HZ1 HZ2 HZ3 ⊢
  have HD1 := Lib.hid HD1
  have HD2 := Lib.hid HD2
  have hb := (MapKept.heap_alloc w (.cells #[.int .i64 nn, .int .i64 si] 23)).1
  have CA : (w.alloc (.cells #[.int .i64 nn, .int .i64 si] 23)).cell? ⟨w.heap.size, 0, none⟩ = some (.int .i64 nn) := by unfold World.cell?; dsimp only; rw [hb]; simp
  have CB : (w.alloc (.cells #[.int .i64 nn, .int .i64 si] 23)).cell? ⟨w.heap.size, 1, none⟩ = some (.int .i64 si) := by unfold World.cell?; dsimp only; rw [hb]; simp
  clear hd1 hd2 ht1 ht2 ht3 hn hs hnn hsi hb
  go_enter Tryd.func14, Tryd.ntmps14
  go_wp2
  refine wp_region_held_drew (S := fun w' => Kp (w.alloc (.cells #[.int .i64 nn, .int .i64 si] 23)) w') (by kernel_rfl) ?_ (fun hHeld => ?_)
  · exact (Kp.refl _).drew
  refine wpAnyH_take (i := 0) (v := ?_) rfl (by kernel_rfl) (by kernel_rfl) (by kernel_rfl) (fun _ _ _ h => h) (Or.inl ⟨by rfl, ?_⟩) (by assumption) ?_
  rotate_left
  · intro w hSw; go_simp; try with_reducible rfl
  go_simp
  refine wpAnyH_take (i := 5) (v := ?_) rfl (by kernel_rfl) (by kernel_rfl) (by kernel_rfl) (fun _ _ _ h => h) (Or.inl ⟨by rfl, ?_⟩) (by assumption) ?_
  rotate_left
  · intro w hSw; go_simp; try with_reducible rfl
  go_simp
  refine wpAnyH_take (i := 1) (v := ?_) rfl (by kernel_rfl) (by kernel_rfl) (by kernel_rfl) (fun _ _ _ h => h) (Or.inl ⟨by rfl, ?_⟩) (by assumption) ?_
  rotate_left
  · intro w hSw; have cv := kp_cell hSw CA; go_simp; try with_reducible rfl
  go_simp
  refine wpAnyH_take (i := 6) (v := ?_) rfl (by kernel_rfl) (by kernel_rfl) (by kernel_rfl) (fun _ _ _ h => h) (Or.inl ⟨by rfl, ?_⟩) (by assumption) ?_
  rotate_left
  · intro w hSw; have cv := kp_cell hSw CB; go_simp; try with_reducible rfl
  go_simp
  refine wpAnyH_ready (rs := [2]) (by kernel_rfl) (by simp) ?_
  refine AllReadyH.cons rfl (fun K hK => ?_) AllReadyH.nil
  go_simp
  go_wp2_with (go_at_call 13; (with_reducible refine (HD1.out _).mono ?_); rintro e w1 ⟨rfl, hk1⟩; have K1 := Lib.hid (Kp.trans hHeld hk1); clear hk1)
  refine hK.out _ _ ?_ (fun hHeld => ?_)
  · exact K1.out
  clear hK K
  refine wpAnyH_take (i := 3) (v := ?_) rfl (by kernel_rfl) (by kernel_rfl) (by kernel_rfl) (fun _ _ _ h => h) (Or.inl ⟨by rfl, ?_⟩) (by assumption) ?_
  rotate_left
  · intro w hSw; go_simp; rw [if_neg HZ1.out, HC1.out]
  go_simp
  refine wpAnyH_take (i := 4) (v := ?_) rfl (by kernel_rfl) (by kernel_rfl) (by kernel_rfl) (fun _ _ _ h => h) (Or.inl ⟨by rfl, ?_⟩) (by assumption) ?_
  rotate_left
  · intro w hSw; go_simp; rw [if_neg HZ2.out, HC2.out]
  go_simp
  refine wpAnyH_ready (rs := [7]) (by kernel_rfl) (by simp) ?_
  refine AllReadyH.cons rfl (fun K hK => ?_) AllReadyH.nil
  go_simp
  go_wp2_with (go_at_call 13; (with_reducible refine (HD2.out _).mono ?_); rintro e w2 ⟨rfl, hk2⟩; have K2 := Lib.hid (Kp.trans K1.out hk2); clear hk2)
  refine hK.out _ _ ?_ (fun hHeld => ?_)
  · exact K2.out
  clear hK K
  refine wpAnyH_take (i := 8) (v := ?_) rfl (by kernel_rfl) (by kernel_rfl) (by kernel_rfl) (fun _ _ _ h => h) (Or.inl ⟨by rfl, ?_⟩) (by assumption) ?_
  rotate_left
  · intro w hSw; go_simp; rw [if_neg HZ3.out, HC3.out]
  go_simp
  refine wpAnyH_take (i := 9) (v := ?_) rfl (by kernel_rfl) (by kernel_rfl) (by kernel_rfl) (fun _ _ _ h => h) (Or.inl ⟨by rfl, ?_⟩) (by assumption) ?_
  rotate_left
  · intro w hSw; go_simp; try with_reducible rfl
  go_simp
  refine wpAnyH_done (by kernel_rfl) ?_ _
  go_wp2
  go_ret
  exact ⟨rfl, Kp.trans (kp_alloc _ _) hHeld⟩

set_option maxRecDepth 20000 in
theorem refPart_any (n s : Nat) (hn : n < 1000000) (hs : s < 1000000) (nn si : Int) (hnn : (n : Int) = nn) (hsi : (s : Int) = si) (w : World) :
    Calls Tryd.prog 16 #[.int .i64 nn, .int .i64 si] w fun e w' => e = .returned (.string (strOfNums (partT n s))) ∧ Kp w w' := by
  have HD1 := fun w1 => refDigits_any n hn nn hnn w1
  have HD2 := fun w1 => refDigits_any s hs si hsi w1
  have HC1 := Lib.hid (show strOfNums ([112]) ++ strOfNums (dec n) = strOfNums ([112] ++ dec n) from str_append _ _)
  have HZ1 := Lib.hid (show ¬ 9223372036854775807 < 1 + (strOfNums (dec n)).size by rw [str_size]; have := dec_len n; have := dec_len s; omega)
  have HC2 := Lib.hid (show strOfNums ([112] ++ dec n) ++ strOfNums ([46]) = strOfNums (([112] ++ dec n) ++ [46]) from str_append _ _)
  have HZ2 := Lib.hid (show ¬ 9223372036854775807 < (strOfNums ([112] ++ dec n)).size + 1 by rw [str_size]; simp only [List.length_append, List.length_cons, List.length_nil]; have := dec_len n; have := dec_len s; omega)
  have HC3 := Lib.hid (show strOfNums (([112] ++ dec n) ++ [46]) ++ strOfNums (dec s) = strOfNums (partT n s) from str_append _ _)
  have HZ3 := Lib.hid (show ¬ 9223372036854775807 < (strOfNums (([112] ++ dec n) ++ [46])).size + (strOfNums (dec s)).size by rw [str_size, str_size]; simp only [List.length_append, List.length_cons, List.length_nil]; have := dec_len n; have := dec_len s; omega)
  rw [← c112] at HC1
  rw [← c46] at HC2
  obtain ⟨d1, hd1⟩ : ∃ x, strOfNums (dec n) = x := ⟨_, rfl⟩
  obtain ⟨d2, hd2⟩ : ∃ x, strOfNums (dec s) = x := ⟨_, rfl⟩
  obtain ⟨t1, ht1⟩ : ∃ x, strOfNums ([112] ++ dec n) = x := ⟨_, rfl⟩
  obtain ⟨t2, ht2⟩ : ∃ x, strOfNums (([112] ++ dec n) ++ [46]) = x := ⟨_, rfl⟩
  obtain ⟨t3, ht3⟩ : ∃ x, strOfNums (partT n s) = x := ⟨_, rfl⟩
  simp only [hd1, hd2, ht1, ht2, ht3] at HD1 HD2 HC1 HC2 HC3 HZ1 HZ2 HZ3 ⊢
  have HD1 := Lib.hid HD1
  have HD2 := Lib.hid HD2
  have z1 := Nat.le_of_not_lt HZ1.out
  have z2 := Nat.le_of_not_lt HZ2.out
  have z3 := Nat.le_of_not_lt HZ3.out
  have q1 := HC1.out
  have q2 := HC2.out
  have q3 := HC3.out
  clear hd1 hd2 ht1 ht2 ht3 hn hs hnn hsi
  go_enter Tryd.func16, Tryd.ntmps16
  go_wp2_with (first | (go_at_call 13; (with_reducible refine (HD1.out _).mono ?_); rintro e w1 ⟨rfl, hk1⟩; have K1 := Lib.hid hk1; clear hk1 HD1) | (go_at_call 13; (with_reducible refine (HD2.out _).mono ?_); rintro e w2 ⟨rfl, hk2⟩; have K2 := Lib.hid (Kp.trans K1.out hk2); clear hk2))
  go_ret
  exact ⟨rfl, K2.out⟩

set_option maxRecDepth 20000 in
theorem refReg_any (n s r : Nat) (hn : n < 1000000) (hs : s < 1000000) (hrr : r < 1000000) (nn si ri : Int) (hnn : (n : Int) = nn) (hsi : (s : Int) = si) (hri : (r : Int) = ri) (w : World) :
    Calls Tryd.prog 15 #[.agg #[.int .i64 nn, .int .i64 si], .int .i64 ri] w fun e w' => e = .returned (.string (strOfNums (regT n s r))) ∧ Kp w w' := by
  have HD1 := fun w1 => refAct_any n s hn hs nn si hnn hsi w1
  have HD2 := fun w1 => refDigits_any r hrr ri hri w1
  have hal : (actT n s).length ≤ 18 := by unfold actT; simp only [List.length_append, List.length_cons, List.length_nil]; have := dec_len n; have := dec_len s; omega
  have HC1 := Lib.hid (show strOfNums (actT n s) ++ strOfNums [47] = strOfNums (actT n s ++ [47]) from str_append _ _)
  have HZ1 := Lib.hid (show ¬ 9223372036854775807 < (strOfNums (actT n s)).size + 1 by rw [str_size]; omega)
  have HC2 := Lib.hid (show strOfNums (actT n s ++ [47]) ++ strOfNums (dec r) = strOfNums (regT n s r) from str_append _ _)
  have HZ2 := Lib.hid (show ¬ 9223372036854775807 < (strOfNums (actT n s ++ [47])).size + (strOfNums (dec r)).size by rw [str_size, str_size]; simp only [List.length_append, List.length_cons, List.length_nil]; have := dec_len r; omega)
  rw [← c47] at HC1
  obtain ⟨d1, hd1⟩ : ∃ x, strOfNums (actT n s) = x := ⟨_, rfl⟩
  obtain ⟨d2, hd2⟩ : ∃ x, strOfNums (dec r) = x := ⟨_, rfl⟩
  obtain ⟨t1, ht1⟩ : ∃ x, strOfNums (actT n s ++ [47]) = x := ⟨_, rfl⟩
  obtain ⟨t2, ht2⟩ : ∃ x, strOfNums (regT n s r) = x := ⟨_, rfl⟩
  simp only [hd1, hd2, ht1, ht2] at HD1 HD2 HC1 HC2 HZ1 HZ2 ⊢
  have HD1 := Lib.hid HD1
  have HD2 := Lib.hid HD2
  have z1 := Nat.le_of_not_lt HZ1.out
  have z2 := Nat.le_of_not_lt HZ2.out
  have q1 := HC1.out
  have q2 := HC2.out
  clear hd1 hd2 ht1 ht2 hn hs hnn hsi hrr hri hal
  go_enter Tryd.func15, Tryd.ntmps15
  go_wp2_with (first | (go_at_call 14; (with_reducible refine (HD1.out _).mono ?_); rintro e w1 ⟨rfl, hk1⟩; have K1 := Lib.hid (Kp.trans (kp_alloc _ _) hk1); clear hk1) | (go_at_call 13; (with_reducible refine (HD2.out _).mono ?_); rintro e w2 ⟨rfl, hk2⟩; have K2 := Lib.hid (Kp.trans K1.out hk2); clear hk2))
  go_ret
  exact ⟨rfl, K2.out⟩
end Go.Proofs.YtjilfkfhnbhjiaaDoor
