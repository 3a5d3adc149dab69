/-
  THE LAWS OF CLOCKS (own work): a clock of the law's own; alive.
-/
import Derived.Test.YtanbeaebdingeaaDoorTmF
import Derived.LoopTactic
namespace Go.Proofs.YtanbeaebdingeaaDoor
open Go.RowKit Go.ChangeShapes Go.WideShapes
variable {w w1 w2 : World} {q mb : Nat} {c : CkM} {ads : List Addr}

/-- A CLOCK MADE BEHIND w -/
def AtL (w : World) (q mb : Nat) (c : CkM) (w1 : World) : Prop := Lk w q mb c w1 ∧ Kp w w1
theorem AtL.kp (h : AtL w q mb c w1) (hk : Kp w1 w2) : AtL w q mb c w2 := ⟨h.1.kp hk, Kp.trans h.2 hk⟩
theorem AtL.asd {c' : CkM} (h : AtL w q mb c w1) (hl : Lk w q mb c' w2) (ha : Asd (Ol q mb) (Ol q mb) w1 w2) : AtL w q mb c' w2 := ⟨hl, ha.kp h.2 fun b hb => (h.1.mem b hb).1⟩
theorem atL_new (hk : Kp w w1) : Calls Tryd.prog 9 #[] w1 fun r w' => ∃ q mb, r = .returned (.pointer (some ⟨q, 0, none⟩)) ∧ AtL w q mb ckNew w' ∧ Kp w1 w' :=
  (lkNew w1).mono fun _ _ ⟨q, mb, h1, h2, h3⟩ => ⟨q, mb, h1, ⟨h2.base (Below.size hk), Kp.trans hk h3⟩, h3⟩
theorem atL_set (E : EP [0, 3, 5, 7] ads w) (h : AtL w q mb c w1) {k : List UInt8} (hk : k.length ≤ maxLen) {b m : Nat} (hb : b < 18446744073709551616) (hm : m < 18446744073709551616) : Calls Tryd.prog 21 #[.pointer (some ⟨q, 0, none⟩), encStr k, .float .f64 b, .float .f64 m] w1 fun r w' => r = .returned (errI ads (c.set k b m).1) ∧ AtL w q mb (c.set k b m).2 w' ∧ Asd (Ol q mb) (Ol q mb) w1 w' :=
  (lkSet_any h.1 hk hb hm (E.kp h.2)).mono fun _ _ ⟨h1, h2, h3⟩ => ⟨h1, h.asd h2 h3, h3⟩
theorem atL_again (E : EP [0, 3, 5, 7] ads w) (h : AtL w q mb c w1) {k : List UInt8} (hk : k.length ≤ maxLen) : Calls Tryd.prog 24 #[.pointer (some ⟨q, 0, none⟩), encStr k] w1 fun r w' => r = .returned (errI ads (c.again k).1) ∧ AtL w q mb (c.again k).2 w' ∧ Asd (Ol q mb) (Ol q mb) w1 w' :=
  (lkAgain_any h.1 hk (E.kp h.2)).mono fun _ _ ⟨h1, h2, h3⟩ => ⟨h1, h.asd h2 h3, h3⟩
theorem lkTick_any (H : Lk w q mb c w1) {x : Nat} (hx : x < 18446744073709551616) (E : EP [0, 3, 5, 7] ads w1) : Calls Tryd.prog 25 #[.pointer (some ⟨q, 0, none⟩), .float .f64 x] w1 fun r w' => r = .returned (errI ads (c.tick x).1) ∧ Lk w q mb (c.tick x).2 w' ∧ Asd (Ol q mb) (Ol q mb) w1 w' := by
  unfold CkM.tick
  cases hd : Fl.dl x with
  | true =>
    rw [if_pos rfl]
    exact lkTick_ok H hd
  | false =>
    rw [if_neg (by decide)]
    exact (lkTick_no H hx hd E).mono fun _ _ ⟨q1, q2⟩ => ⟨q1, H.kp q2, Asd.of_kp _ q2⟩
theorem atL_tick (E : EP [0, 3, 5, 7] ads w) (h : AtL w q mb c w1) {x : Nat} (hx : x < 18446744073709551616) : Calls Tryd.prog 25 #[.pointer (some ⟨q, 0, none⟩), .float .f64 x] w1 fun r w' => r = .returned (errI ads (c.tick x).1) ∧ AtL w q mb (c.tick x).2 w' ∧ Asd (Ol q mb) (Ol q mb) w1 w' :=
  (lkTick_any h.1 hx (E.kp h.2)).mono fun _ _ ⟨h1, h2, h3⟩ => ⟨h1, h.asd h2 h3, h3⟩
theorem atL_drop (h : AtL w q mb c w1) {k : List UInt8} (hk : k.length ≤ maxLen) : Calls Tryd.prog 23 #[.pointer (some ⟨q, 0, none⟩), encStr k] w1 fun r w' => r = .returned (.bool (c.has k)) ∧ AtL w q mb (c.drop k) w' ∧ Asd (Ol q mb) (Ol q mb) w1 w' :=
  (lkDrop h.1 hk).mono fun _ _ ⟨h1, h2, h3⟩ => ⟨h1, h.asd h2 h3, h3⟩
theorem atL_now (h : AtL w q mb c w1) : Calls Tryd.prog 12 #[.pointer (some ⟨q, 0, none⟩)] w1 fun r w' => r = .returned (.float .f64 c.now) ∧ w1 = w' := lkNow h.1
theorem atL_len (h : AtL w q mb c w1) : Calls Tryd.prog 13 #[.pointer (some ⟨q, 0, none⟩)] w1 fun r w' => r = .returned (.int .i64 c.ts.length) ∧ w1 = w' := lkLen h.1
theorem atL_at (h : AtL w q mb c w1) {k : List UInt8} (hk : k.length ≤ maxLen) : Calls Tryd.prog 19 #[.pointer (some ⟨q, 0, none⟩), encStr k] w1 fun r w' => r = .returned (.tuple #[.float .f64 (c.getT k).a, .int .i64 (c.getT k).n, .bool (c.has k)]) ∧ AtL w q mb c w' ∧ Kp w1 w' :=
  (lkAt h.1 hk).mono fun _ _ ⟨h1, h2⟩ => ⟨h1, h.kp h2, h2⟩
theorem atL_due (h : AtL w q mb c w1) : Calls Tryd.prog 15 #[.pointer (some ⟨q, 0, none⟩)] w1 fun r w' => ∃ o cp l, r = .returned (.slice o l.length cp) ∧ DueIs c l ∧ w'.ownsRow w1.heap.size 9 1 (.slice o l.length cp) l.length (kyE.row l) ∧ AtL w q mb c w' ∧ Kp w1 w' :=
  (lkDue_any h.1).mono fun _ _ ⟨v, l, h1, h2, h3, h4⟩ => by
    obtain ⟨o, cp, rfl⟩ := own_formG h3
    exact ⟨o, cp, l, h1, h2, h3, h.kp h4, h4⟩
theorem atL_next (h : AtL w q mb c w1) : Calls Tryd.prog 17 #[.pointer (some ⟨q, 0, none⟩)] w1 fun r w' => ((c.ts = [] ∧ r = .returned (.tuple #[.float .f64 0, .bool false])) ∨ ∃ m, NextIs c m ∧ r = .returned (.tuple #[.float .f64 m, .bool true])) ∧ AtL w q mb c w' ∧ Kp w1 w' :=
  (lkNext_any h.1).mono fun _ _ ⟨h1, h2⟩ => ⟨h1, h.kp h2, h2⟩
/-- floats that are equal -/
theorem fl_eq {x : Nat} (h : x ≤ 9218868437227405312) : (FloatKind.f64.format.order x x == some .eq) = true := by
  have h1 := Fl.dl_of_le h
  have := Fl.test_eq (a := x) (b := x) (by omega) (by omega)
  rw [Fl.dl_isEq h1.1 h1.1, decide_eq_true rfl] at this
  exact this
theorem fl_ne {x : Nat} (h : x ≤ 9218868437227405312) : (FloatKind.f64.format.order x x != some .eq) = false := by
  have e := fl_eq h
  simpa [bne] using e
/-- alive's clocks -/
def aK : List UInt8 := [97]
def al1 : CkM := (ckNew.set aK 4607182418800017408 4617315517961601024).2
def al2 : CkM := (al1.tick 4607182418800017408).2
def aC : Nat → CkM
  | 0 => al2
  | j + 1 => ((aC j).again aK).2
def aW : Nat → Nat
  | 0 => 4613937818241073152
  | 1 => 4617315517961601024
  | _ => 4618441417868443648
theorem al_set : (ckNew.set aK 4607182418800017408 4617315517961601024).1 = 0 := by decide +kernel
theorem al_tick : (al1.tick 4607182418800017408).1 = 0 := by decide +kernel
theorem al_due : al2.dueT.length = 1 := by decide +kernel
theorem aC_again (j : Nat) (h : j < 3) : ((aC j).again aK).1 = 0 ∧ ((aC (j + 1)).getT aK).a = aW j ∧ (aC (j + 1)).has aK = true := by
  match j, h with
  | 0, _ => exact ⟨by decide +kernel, by decide +kernel, by decide +kernel⟩
  | 1, _ => exact ⟨by decide +kernel, by decide +kernel, by decide +kernel⟩
  | 2, _ => exact ⟨by decide +kernel, by decide +kernel, by decide +kernel⟩
theorem aW_le (j : Nat) : aW j ≤ 9218868437227405312 := by unfold aW; split <;> omega
theorem tAgain_any (E : EP [0, 3, 5, 7] ads w) (j : Nat) (hj : j < 3) (h : AtL w q mb (aC j) w1) : Calls Tryd.prog 26 #[.pointer (some ⟨q, 0, none⟩)] w1 fun r w' => ∃ nn, r = .returned (.tuple #[.float .f64 (aW j), .int .i64 nn, .bool true]) ∧ AtL w q mb (aC (j + 1)) w' ∧ Asd (Ol q mb) (Ol q mb) w1 w' := by
  obtain ⟨h1, h2, h3⟩ := aC_again j hj
  have ha := atL_again E h (k := aK) (by decide)
  rw [h1, errI_nil] at ha
  have HA := Lib.hid (show Calls Tryd.prog 24 #[.pointer (some ⟨q, 0, none⟩), .string { data := #[97] }] w1 fun r w' => r = .returned .nilIface ∧ AtL w q mb (aC (j + 1)) w' ∧ Asd (Ol q mb) (Ol q mb) w1 w' from ha)
  have HT := Lib.hid (fun w2 (hq : AtL w q mb (aC (j + 1)) w2) => (show Calls Tryd.prog 19 #[.pointer (some ⟨q, 0, none⟩), .string { data := #[97] }] w2 fun r w' => r = .returned (.tuple #[.float .f64 ((aC (j + 1)).getT aK).a, .int .i64 ((aC (j + 1)).getT aK).n, .bool ((aC (j + 1)).has aK)]) ∧ AtL w q mb (aC (j + 1)) w' ∧ Kp w2 w' from atL_at hq (k := aK) (by decide)))
  obtain ⟨nn, hnn⟩ : ∃ x, ((aC (j + 1)).getT aK).n = x := ⟨_, rfl⟩
  rw [h2, h3, hnn] at HT
  obtain ⟨xa, hxa⟩ : ∃ x, aW j = x := ⟨_, rfl⟩
  rw [hxa] at HT ⊢
  clear ha h1 h2 h3 hnn hxa h
  go_enter Tryd.func26, Tryd.ntmps26
  go_wp2_with (first | (go_at_call 24; (with_reducible refine HA.out.mono ?_); rintro e' w3 ⟨rfl, hq3, ha3⟩; have Q3 := Lib.hid hq3; have A3 := Lib.hid ha3; clear hq3 ha3) | (go_at_call 19; (with_reducible refine (HT.out _ Q3.out).mono ?_); rintro e' w4 ⟨rfl, hq4, hk4⟩))
  go_ret3
  exact ⟨_, rfl, hq4, A3.out.trans (Asd.of_kp _ hk4)⟩
set_option maxRecDepth 100000 in
set_option maxHeartbeats 2000000 in
theorem alive13_any (E : EP [0, 3, 5, 7] ads w) : Calls Tryd.prog 7 #[] w fun r w' => r = .returned (.bool true) ∧ Kp w w' := by
  have HN := Lib.hid (atL_new (Kp.refl w))
  have HS := Lib.hid (fun q mb w1 (h : AtL w q mb ckNew w1) => (show Calls Tryd.prog 21 #[.pointer (some ⟨q, 0, none⟩), .string { data := #[97] }, .float .f64 4607182418800017408, .float .f64 4617315517961601024] w1 fun r w' => r = .returned .nilIface ∧ AtL w q mb al1 w' from (atL_set E h (k := aK) (b := 4607182418800017408) (m := 4617315517961601024) (by decide) (by decide) (by decide)).mono (fun _ _ ⟨h1, h2, _⟩ => ⟨by rw [h1, al_set, errI_nil], h2⟩)))
  have HT := Lib.hid (fun q mb w1 (h : AtL w q mb al1 w1) => (show Calls Tryd.prog 25 #[.pointer (some ⟨q, 0, none⟩), .float .f64 4607182418800017408] w1 fun r w' => r = .returned .nilIface ∧ AtL w q mb al2 w' from (atL_tick E h (x := 4607182418800017408) (by decide)).mono (fun _ _ ⟨h1, h2, _⟩ => ⟨by rw [h1, al_tick, errI_nil], h2⟩)))
  have HD := Lib.hid (fun q mb w1 (h : AtL w q mb al2 w1) => (show Calls Tryd.prog 15 #[.pointer (some ⟨q, 0, none⟩)] w1 fun r w' => ∃ o cp, r = .returned (.slice o 1 cp) ∧ AtL w q mb (aC 0) w' from (atL_due h).mono (fun _ _ ⟨o, cp, l, h1, h2, _, h4, _⟩ => by
    have hl : l.length = 1 := by rw [h2.1.length_eq, List.length_map]; exact al_due
    rw [hl] at h1
    exact ⟨o, cp, h1, h4⟩)))
  have HG := Lib.hid (fun q mb w1 (j : Nat) (hj : j < 3) (h : AtL w q mb (aC j) w1) => tAgain_any E j hj h)
  clear E
  go_enter Tryd.func7, Tryd.ntmps7
  go_wp2_with (first | (go_at_call 9; (with_reducible refine HN.out.mono ?_); rintro e' w1 ⟨q, mb, rfl, h1, -⟩; have Q1 := Lib.hid h1; clear h1) | (go_at_call 21; (with_reducible refine (HS.out _ _ _ Q1.out).mono ?_); rintro e' w2 ⟨rfl, h2⟩; have Q2 := Lib.hid h2; clear h2) | (go_at_call 25; (with_reducible refine (HT.out _ _ _ Q2.out).mono ?_); rintro e' w3 ⟨rfl, h3⟩; have Q3 := Lib.hid h3; clear h3) | (go_at_call 15; (with_reducible refine (HD.out _ _ _ Q3.out).mono ?_); rintro e' w4 ⟨o4, cp4, rfl, h4⟩; have Q4 := Lib.hid h4; clear h4))
  have hk5 := kp_alloc w4 (.cells #[.float .f64 4613937818241073152, .float .f64 4617315517961601024, .float .f64 4618441417868443648] 28)
  have Q5 := Lib.hid (Q4.out.kp hk5)
  have R5 := Lib.hid (MapKept.heap_alloc w4 (.cells #[.float .f64 4613937818241073152, .float .f64 4617315517961601024, .float .f64 4618441417868443648] 28)).1
  have N5 := Lib.hid (show ¬ Ol q mb w4.heap.size from fun e => Nat.lt_irrefl _ (Q4.out.1.mem _ e).2)
  clear hk5
  go_loopw [28] (fun i wr => ∃ j : Nat, j ≤ 3 ∧ i = .int .i64 j ∧ AtL w q mb (aC j) wr ∧ wr.heap[w4.heap.size]? = some (.cells #[.float .f64 4613937818241073152, .float .f64 4617315517961601024, .float .f64 4618441417868443648] 28)) (fun i _ => 3 - (intOf i).toNat)
  case atStart => exact ⟨0, Nat.zero_le _, rfl, Q5.out, R5.out⟩
  case round =>
    obtain ⟨j, hj, rfl, ha, hr⟩ := hrel
    obtain ⟨jj, hjj⟩ : ∃ jj : Int, (j : Int) = jj := ⟨_, rfl⟩
    have HJ := Lib.hid hjj
    rw [hjj]
    by_cases hlt : j < 3
    · have hx : wr.cell? ⟨w4.heap.size, jj.toNat, none⟩ = some (.float .f64 (aW j)) := by
        refine cell_row hr ?_
        rw [show jj.toNat = j by omega]
        match j, hlt with
        | 0, _ => rfl
        | 1, _ => rfl
        | 2, _ => rfl
      have hj3 : jj < 3 := by omega
      have hj0 : 0 ≤ jj := by omega
      have hw1 : wrap64 (jj + 1) = jj + 1 := IntWalk.wrap64_in _ (by omega)
      have hta := HG.out q mb wr j hlt ha
      have hfe := fl_ne (aW_le j)
      obtain ⟨xa, hxa⟩ : ∃ x, aW j = x := ⟨_, rfl⟩
      rw [hxa] at hx hta hfe
      have HTA := Lib.hid hta
      have HLT := Lib.hid hlt
      have HR := Lib.hid hr
      have QR := Lib.hid (Asd.refl (Ol q mb) wr)
      clear ha hr hlt hj hjj hxa hta
      go_wp2_with (go_at_call 26; (with_reducible refine HTA.out.mono ?_); rintro e' w5 ⟨nn, rfl, h5, hs5⟩; have Q6 := Lib.hid h5; have R6 := Lib.hid (hs5.row HR.out N5.out); clear h5 hs5)
      go_roundw
      case rel => exact ⟨j + 1, by have := HLT.out; omega, by have := HJ.out; rw [show ((j + 1 : Nat) : Int) = jj + 1 by omega], Q6.out, R6.out⟩
      case measure => have := HJ.out; have := HLT.out; simp [intOf]; omega
    · have hj3 : ¬ jj < 3 := by omega
      have KE := Lib.hid ha.2
      clear ha hr hlt hj hjj
      go_wp2
      go_ret
      exact ⟨rfl, KE.out⟩
end Go.Proofs.YtanbeaebdingeaaDoor
