/-
  THE LAWS OF CLOCKS (own work): TimersFull.
-/
import Derived.Test.YtanbeaebdingeaaDoorTmL
import Derived.Test.YtanbeaebdingeaaDoorSlB
import Derived.Test.YtanbeaebdingeaaDoorErrI
namespace Go.Proofs.YtanbeaebdingeaaDoor
open Go.RowKit Go.ChangeShapes Go.WideShapes
variable {w w1 w2 : World} {q mb : Nat} {c : CkM} {ads : List Addr}
theorem box_byte13 (w : World) (x : Int) (t : TypeId) : SlB (.slice (some ⟨w.heap.size, 0, none⟩) 1 1) [x] (w.alloc (.cells #[.int .u8 x] t)) :=
  .inr ⟨w.heap.size, 0, 1, by simp, rfl, fun j hj => by
    obtain rfl : j = 0 := by simpa using hj
    exact cell_row (MapKept.heap_alloc w _).1 rfl⟩
theorem umod64 (x : Int) : ∃ k : Nat, k < 64 ∧ (IntKind.u64.wrap x).tmod 64 = k := by
  have h0 : 0 ≤ IntKind.u64.wrap x := by
    simp only [IntKind.wrap, IntKind.signed, IntKind.bits]
    simp
    omega
  refine ⟨((IntKind.u64.wrap x).tmod 64).toNat, ?_, ?_⟩
  · rw [Int.tmod_eq_emod_of_nonneg h0]; omega
  · rw [Int.tmod_eq_emod_of_nonneg h0]; omega
def fuK (j : Nat) : List UInt8 := [UInt8.ofNat j]
def moK : List UInt8 := [109, 111, 114, 101]
def fuC : Nat → CkM
  | 0 => ckNew
  | j + 1 => ((fuC j).set (fuK j) 4607182418800017408 4611686018427387904).2
theorem fuC_set : ∀ j : Nat, j < 64 → ((fuC j).set (fuK j) 4607182418800017408 4611686018427387904).1 = 0 := by decide +kernel
def fu1 : CkM := ((fuC 64).set moK 4607182418800017408 4611686018427387904).2
def fu2 (k : Nat) : CkM := (fu1.set (fuK k) 4613937818241073152 4616189618054758400).2
def fu3 (k : Nat) : CkM := (fu2 k).drop (fuK k)
def fu4 (k : Nat) : CkM := ((fu3 k).set moK 4607182418800017408 4611686018427387904).2
theorem fu_full : ((fuC 64).set moK 4607182418800017408 4611686018427387904).1 = 6 := by decide +kernel
theorem fu_facts : ∀ k : Nat, k < 64 → (fu1.set (fuK k) 4613937818241073152 4616189618054758400).1 = 0 ∧ (fu2 k).has (fuK k) = true ∧ ((fu3 k).set moK 4607182418800017408 4611686018427387904).1 = 0 ∧ (fu4 k).ts.length = 64 := by decide +kernel
theorem fuK_str (k : Nat) : encStr (fuK k) = .string (strOfNums [(k : Int)]) := rfl
theorem fuK_len (k : Nat) : (fuK k).length ≤ maxLen := by show 1 ≤ maxLen; decide
set_option maxRecDepth 100000 in
set_option maxHeartbeats 4000000 in
theorem full13_any (x : Int) (V : St ads w) (E : EP [0, 3, 5, 7] ads w) : Calls Tryd.prog 4 #[.int .i64 x] w fun r w' => r = .returned (.bool true) ∧ Kp w w' := by
  obtain ⟨k, hk, hkx⟩ := umod64 x
  obtain ⟨f1, f2, f3, f4⟩ := fu_facts k hk
  obtain ⟨ev, hev⟩ : ∃ e, errI ads 6 = e := ⟨_, rfl⟩
  have HAL := Lib.hid (alive13_any E)
  have HN := Lib.hid (fun w1 (h : Kp w w1) => atL_new h)
  obtain ⟨sk, hsk⟩ : ∃ s, strOfNums [(k : Int)] = s := ⟨_, rfl⟩
  have HSL := Lib.hid (fun q mb (j : Nat) (hj : j < 64) w1 (h : AtL w q mb (fuC j) w1) => (show Calls Tryd.prog 21 #[.pointer (some ⟨q, 0, none⟩), .string (strOfNums [(j : Int)]), .float .f64 4607182418800017408, .float .f64 4611686018427387904] w1 fun r w' => r = .returned .nilIface ∧ AtL w q mb (fuC (j + 1)) w' from (atL_set E h (k := fuK j) (b := 4607182418800017408) (m := 4611686018427387904) (fuK_len j) (by decide) (by decide)).mono (fun _ _ ⟨h1, h2, _⟩ => ⟨by rw [h1, fuC_set j hj, errI_nil], h2⟩)))
  have HS1 := Lib.hid (fun q mb w1 (h : AtL w q mb (fuC 64) w1) => (show Calls Tryd.prog 21 #[.pointer (some ⟨q, 0, none⟩), .string { data := #[109, 111, 114, 101] }, .float .f64 4607182418800017408, .float .f64 4611686018427387904] w1 fun r w' => r = .returned ev ∧ AtL w q mb fu1 w' from (atL_set E h (k := moK) (b := 4607182418800017408) (m := 4611686018427387904) (by decide) (by decide) (by decide)).mono (fun _ _ ⟨h1, h2, _⟩ => ⟨by rw [h1, fu_full, hev], h2⟩)))
  have HS2 := Lib.hid (fun q mb w1 (h : AtL w q mb fu1 w1) => (show Calls Tryd.prog 21 #[.pointer (some ⟨q, 0, none⟩), .string sk, .float .f64 4613937818241073152, .float .f64 4616189618054758400] w1 fun r w' => r = .returned .nilIface ∧ AtL w q mb (fu2 k) w' from by
    rw [← hsk]
    exact (atL_set E h (k := fuK k) (b := 4613937818241073152) (m := 4616189618054758400) (fuK_len k) (by decide) (by decide)).mono (fun _ _ ⟨h1, h2, _⟩ => ⟨by rw [h1, f1, errI_nil], h2⟩)))
  have HDR := Lib.hid (fun q mb w1 (h : AtL w q mb (fu2 k) w1) => (show Calls Tryd.prog 23 #[.pointer (some ⟨q, 0, none⟩), .string sk] w1 fun r w' => r = .returned (.bool true) ∧ AtL w q mb (fu3 k) w' from by
    rw [← hsk]
    exact (atL_drop h (k := fuK k) (fuK_len k)).mono (fun _ _ ⟨h1, h2, _⟩ => ⟨by rw [h1, f2], h2⟩)))
  have HS3 := Lib.hid (fun q mb w1 (h : AtL w q mb (fu3 k) w1) => (show Calls Tryd.prog 21 #[.pointer (some ⟨q, 0, none⟩), .string { data := #[109, 111, 114, 101] }, .float .f64 4607182418800017408, .float .f64 4611686018427387904] w1 fun r w' => r = .returned .nilIface ∧ AtL w q mb (fu4 k) w' from (atL_set E h (k := moK) (b := 4607182418800017408) (m := 4611686018427387904) (by decide) (by decide) (by decide)).mono (fun _ _ ⟨h1, h2, _⟩ => ⟨by rw [h1, f3, errI_nil], h2⟩)))
  have HLN := Lib.hid (fun q mb w1 (h : AtL w q mb (fu4 k) w1) => (show Calls Tryd.prog 13 #[.pointer (some ⟨q, 0, none⟩)] w1 fun r w' => r = .returned (.int .i64 64) ∧ w1 = w' from (atL_len h).mono (fun _ _ ⟨h1, h2⟩ => ⟨by rw [h1, f4]; rfl, h2⟩)))
  have HNU := Lib.hid (fun w1 (h : Kp w w1) => num_errN ads w1 (V.below h) 6 (by decide) (by decide))
  rw [hev] at HNU
  have hkk : IntKind.u64.wrap (k : Int) = k := by simp only [IntKind.wrap, IntKind.signed, IntKind.bits]; simp; omega
  have hk8 : IntKind.u8.wrap (k : Int) = k := by simp only [IntKind.wrap, IntKind.signed, IntKind.bits]; simp; omega
  have HSK := Lib.hid hsk
  have K0 := Lib.hid (Kp.refl w)
  obtain ⟨ki, hki⟩ : ∃ ki : Int, (k : Int) = ki := ⟨_, rfl⟩
  rw [hki] at hkx hkk hk8 HSK
  clear E V f1 f2 f3 f4 hev hsk hk hki
  go_enter Tryd.func4, Tryd.ntmps4
  go_wp2_with (first | (go_at_call 7; (with_reducible refine HAL.out.mono ?_); rintro e' w1 ⟨rfl, h1⟩; have K1 := Lib.hid h1; clear h1) | (go_at_call 9; (with_reducible refine (HN.out _ K1.out).mono ?_); rintro e' w2 ⟨q, mb, rfl, h2, -⟩; have Q2 := Lib.hid h2; clear h2))
  go_loopw [9, 4, 11, 12, 13, 14, 15, 16, 17, 18, 19] (fun i a4 a11 a12 a13 a14 a15 a16 a17 a18 a19 wr => ∃ j : Nat, j ≤ 64 ∧ i = .int .i64 j ∧ AtL w q mb (fuC j) wr) (fun i _ _ _ _ _ _ _ _ _ _ _ => 64 - (intOf i).toNat)
  case atStart => exact ⟨0, by omega, rfl, Q2.out⟩
  case round =>
    obtain ⟨j, hj, rfl, ha⟩ := hrel
    obtain ⟨jj, hjj⟩ : ∃ jj : Int, (j : Int) = jj := ⟨_, rfl⟩
    have HJ := Lib.hid hjj
    rw [hjj]
    by_cases hlt : j < 64
    · have hj3 : jj < 64 := by omega
      have hj0 : 0 ≤ jj := by omega
      have hw1 : wrap64 (jj + 1) = jj + 1 := IntWalk.wrap64_in _ (by omega)
      have hw8 : IntKind.u8.wrap jj = jj := by simp only [IntKind.wrap, IntKind.signed, IntKind.bits]; simp; omega
      have cv := conv_slb (box_byte13 wr jj 5)
      have hst := HSL.out q mb j hlt _ (ha.kp (kp_alloc wr (.cells #[.int .u8 jj] 5)))
      rw [hjj] at hst
      obtain ⟨ss, hss⟩ : ∃ s, strOfNums [jj] = s := ⟨_, rfl⟩
      rw [hss] at hst cv
      have HST := Lib.hid hst
      have HLT := Lib.hid hlt
      clear ha hst hss hjj hlt
      go_wp2_with (go_at_call 21; (with_reducible refine HST.out.mono ?_); rintro e' w5 ⟨rfl, h5⟩; have Q5 := Lib.hid h5; clear h5)
      go_roundw
      case rel => exact ⟨j + 1, by have := HLT.out; omega, by have := HJ.out; rw [show ((j + 1 : Nat) : Int) = jj + 1 by omega], Q5.out⟩
      case measure => have := HJ.out; have := HLT.out; simp [intOf]; omega
    · have hj3 : ¬ jj < 64 := by omega
      obtain rfl : j = 64 := by omega
      have Q3 := Lib.hid (ha.kp (kp_alloc wr (.cells #[.int .u8 ki] 5)))
      have cv := conv_slb (box_byte13 wr ki 5)
      rw [HSK.out] at cv
      clear ha hlt hj hjj
      go_wp2_with (first
        | (go_at_call 13; (with_reducible refine (HLN.out _ _ _ Q7.out).mono ?_); rintro e' w9 ⟨rfl, rfl⟩)
        | (go_at_call 21; (with_reducible refine (HS3.out _ _ _ Q6.out).mono ?_); rintro e' w8 ⟨rfl, h8⟩; have Q7 := Lib.hid h8; clear h8)
        | (go_at_call 23; (with_reducible refine (HDR.out _ _ _ Q5.out).mono ?_); rintro e' w7 ⟨rfl, h7⟩; have Q6 := Lib.hid h7; clear h7)
        | (go_at_call 21; (with_reducible refine (HS2.out _ _ _ Q4b.out).mono ?_); rintro e' w6 ⟨rfl, h6⟩; have Q5 := Lib.hid h6; clear h6)
        | (go_at_call 22; (with_reducible refine (HNU.out _ K4.out).mono ?_); rintro e' w5 ⟨rfl, h5⟩; have Q4b := Lib.hid (Q4.out.kp h5); clear h5)
        | (go_at_call 21; (with_reducible refine (HS1.out _ _ _ Q3.out).mono ?_); rintro e' w4 ⟨rfl, h4⟩; have Q4 := Lib.hid h4; have K4 := Lib.hid h4.2; clear h4))
      go_ret
      exact ⟨rfl, Q7.out.2⟩
end Go.Proofs.YtanbeaebdingeaaDoor
