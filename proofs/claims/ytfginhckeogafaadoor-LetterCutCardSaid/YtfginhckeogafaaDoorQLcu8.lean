/-
  LetterCut: for every message that is encoded, and every number, its bytes cut short are another message, or none; and an answer to it of kind GetStatus, or Fault with a code from 1 to 5, is right. Condition: package api's errors and strconv's table of powers hold what their declarations lay.
-/
import Derived.Test.YtfginhckeogafaaDoorPkI
import Derived.Test.YtfginhckeogafaaDoorPkC
import Derived.Test.YtfginhckeogafaaDoorRows
import Derived.Test.YtfginhckeogafaaDoorPkG
import Derived.Test.YtfginhckeogafaaDoorCards
import Derived.Test.YtfginhckeogafaaDoorTie
import Derived.SevenTiedAt
import Derived.Lay
import Derived.MakeChecks

namespace Go.Proofs.YtfginhckeogafaaDoor
open Go.RowKit Go.ChangeShapes Go.WideShapes

theorem right_status (m : MM) (h : rightM m = true) : rightM (answerM m 15 0) = true := by
  obtain ⟨k, f, t, n, s, r, p, o, c⟩ := m
  unfold rightM answerM at *
  simp only [Bool.and_eq_true, decide_eq_true_eq, show ¬ (15 : Int) = 17 by decide, show ¬ (15 : Int) = 18 by decide, show ¬ (15 : Int) = 19 by decide, show ¬ (15 : Int) = 16 by decide, if_false] at h ⊢
  exact ⟨⟨⟨by omega, h.1.1.2⟩, by omega⟩, by simp⟩
theorem right_fault (m : MM) (x : Int) (hx : 1 ≤ x ∧ x ≤ 5) (h : rightM m = true) : rightM (answerM m 19 x) = true := by
  obtain ⟨k, f, t, n, s, r, p, o, c⟩ := m
  unfold rightM answerM at *
  simp only [Bool.and_eq_true, decide_eq_true_eq, show ¬ (19 : Int) = 17 by decide, show ¬ (19 : Int) = 18 by decide, if_false, if_true] at h ⊢
  exact ⟨⟨⟨by omega, h.1.1.2⟩, by omega⟩, by first | omega | (simp; omega)⟩
set_option maxRecDepth 100000 in
theorem cut_wrong (ads : List Addr) (m : MM) (x : Int) (w : World) (C : LetC ads w) (hm : rightM m = false) :
    Calls Tryd.prog 6 #[.agg m.cells, .int .i64 x] w fun e w' => e = .returned (.bool true) ∧ Kp w w' := by
  have HA := Lib.hid (fun w1 (hk : Kp w w1) => alive8_any ads w1 (LetC.kp C hk))
  have HE := fun w1 (hk : Kp w w1) => C.encBad w1 hk m hm
  obtain ⟨q4, h4⟩ := errI_some ads 4 (by decide)
  rw [h4] at HE
  obtain ⟨k, f, t, n, s, r, p, o, c⟩ := m
  dsimp only [MM.cells] at HE ⊢
  have HE := Lib.hid HE
  have kb := kp_alloc w (.cells #[.int .i64 k, .int .i64 f, .int .i64 t, .int .i64 n, .int .i64 s, .int .i64 r, .int .i64 p, .int .i64 o, .int .i64 c] 25)
  have hr := (MapKept.heap_alloc w (.cells #[.int .i64 k, .int .i64 f, .int .i64 t, .int .i64 n, .int .i64 s, .int .i64 r, .int .i64 p, .int .i64 o, .int .i64 c] 25)).1
  have KB := Lib.hid kb
  have HR := Lib.hid hr
  clear kb hr C hm h4
  go_enter Tryd.func6, Tryd.ntmps6
  go_wp2_with (first
    | (go_at_call 8; (with_reducible refine (HA.out _ KB.out).mono ?_); rintro e w1 ⟨rfl, hk⟩; have K1 := Lib.hid (Kp.trans KB.out hk); have R1 := Lib.hid (kp_row hk HR.out); obtain ⟨g0, g1, g2, g3, g4, g5, g6, g7, g8⟩ := cells9 (R1.out); clear hk)
    | (go_at_call 9; (with_reducible refine (HE.out _ K1.out).mono ?_); rintro e w2 ⟨rfl, hk⟩; have K2 := Lib.hid (Kp.trans K1.out hk); clear hk))
  go_ret
  exact ⟨rfl, K2.out⟩

set_option maxRecDepth 100000 in
set_option maxHeartbeats 4000000 in
theorem cut_bad8 (ads : List Addr) (m : MM) (x : Int) (w : World) (C : LetC ads w) (hm : rightM m = true) (K : Nat) (hK : K < (encM m).length) (hcut : wrap64 ((IntKind.u64.wrap x).tmod ((encM m).length : Nat)) = (K : Int)) (h0 : (decM ((encM m).take K)).1 ≠ 0) :
    Calls Tryd.prog 6 #[.agg m.cells, .int .i64 x] w fun e w' => e = .returned (.bool true) ∧ Kp w w' := by
  have HA := Lib.hid (fun w1 (hk : Kp w w1) => alive8_any ads w1 (LetC.kp C hk))
  have hle := encM_len m
  have HE : ∀ w1, Kp w w1 → Calls Tryd.prog 9 #[.agg m.cells] w1 fun e w' => ∃ (b off c : Nat), e = .returned (.tuple #[.slice (some ⟨b, off, none⟩) (encM m).length c, .nilIface]) ∧ (encM m).length ≤ c ∧ SlB (.slice (some ⟨b, off, none⟩) (encM m).length c) (encM m) w' ∧ Kp w1 w' := fun w1 hk => (C.encOk w1 hk m hm).mono (by
    rintro e w2 ⟨a, c, rfl, hc, hs, hk2⟩
    obtain ⟨b, off, rfl, -⟩ := hs.at 0 (by omega)
    exact ⟨b, off, c, rfl, hc, hs, hk2⟩)
  have HD := fun w1 (hk : Kp w w1) (b off c : Nat) (hc : (encM m).length ≤ c) (hs : SlB (.slice (some ⟨b, off, none⟩) (encM m).length c) (encM m) w1) => C.dec w1 hk (some ⟨b, off, none⟩) c ((encM m).take K) K (by rw [List.length_take]; omega) (fun y hy => enc_in m y (List.mem_of_mem_take hy)) (by omega) (slb_take hs (by omega))
  have hno := dec_cut K hK
  obtain ⟨R5, hR5, hcut5⟩ := cut_key x 5 (by decide) (by decide)
  have HN1 := fun w1 (hk : Kp w w1) => C.answer w1 hk m 15 0
  have HN2 := fun w1 (hk : Kp w w1) => C.answer w1 hk m 19 (1 + (R5 : Int))
  have HT1 := fun w1 (hk : Kp w w1) => C.right w1 hk (answerM m 15 0)
  have HT2 := fun w1 (hk : Kp w w1) => C.right w1 hk (answerM m 19 (1 + (R5 : Int)))
  rw [right_status m hm] at HT1
  rw [right_fault m (1 + (R5 : Int)) (by omega) hm] at HT2
  obtain ⟨q, hq4⟩ := errI_some ads _ h0
  rw [hq4] at HD
  obtain ⟨M2, hM2⟩ : ∃ x, (decM ((encM m).take K)).2 = x := ⟨_, rfl⟩
  rw [hM2] at HD
  clear hq4 hM2 h0 hno
  obtain ⟨k2, f2, t2, n2, s2, r2, p2, o2, c2⟩ := M2
  obtain ⟨xl, hxl⟩ : ∃ xl, (encM m).length = xl := ⟨_, rfl⟩
  obtain ⟨eb, heb⟩ : ∃ x, encM m = x := ⟨_, rfl⟩
  rw [hxl] at hle hcut hK
  simp only [hxl] at HE HD
  simp only [heb] at HE HD
  obtain ⟨mm, hmm⟩ : ∃ mm : Int, (K : Int) = mm := ⟨_, rfl⟩
  have hsl := fun (b off c : Nat) (hc : xl ≤ c) (w : World) => run_head (b := b) (off := off) hmm (Nat.le_of_lt hK) hc w
  have HSL := Lib.hid hsl
  obtain ⟨xi, hxi⟩ : ∃ xi : Int, (xl : Int) = xi := ⟨_, rfl⟩
  rw [hxi, hmm] at hcut
  obtain ⟨r5, hr5⟩ : ∃ r : Int, (R5 : Int) = r := ⟨_, rfl⟩
  rw [hr5] at hcut5
  replace hcut5 : wrap64 ((IntKind.u64.wrap x).tmod 5) = r5 := hcut5
  simp only [hr5] at HN2 HT2
  have hx1 : (xi == 0) = false := by simp; omega
  have hxb : 0 < xi ∧ xi ≤ 891 := by omega
  have hxn : xi ≠ 0 := by omega
  have hrb : 0 ≤ r5 ∧ r5 < 5 := by omega
  have hmb : 0 ≤ mm ∧ mm < xi := by omega
  obtain ⟨k, f, t, n, s, r, p, o, c⟩ := m
  dsimp only [MM.cells, answerM] at HE HD HN1 HN2 HT1 HT2 ⊢
  have HE := Lib.hid HE
  have HD := Lib.hid HD
  have HN1 := Lib.hid HN1
  have HN2 := Lib.hid HN2
  have HT1 := Lib.hid HT1
  have HT2 := Lib.hid HT2
  have kb := kp_alloc w (.cells #[.int .i64 k, .int .i64 f, .int .i64 t, .int .i64 n, .int .i64 s, .int .i64 r, .int .i64 p, .int .i64 o, .int .i64 c] 25)
  have hr := (MapKept.heap_alloc w (.cells #[.int .i64 k, .int .i64 f, .int .i64 t, .int .i64 n, .int .i64 s, .int .i64 r, .int .i64 p, .int .i64 o, .int .i64 c] 25)).1
  have KB := Lib.hid kb
  have HR := Lib.hid hr
  clear kb hr C hm heb hle hxl hK hR5 hsl
  go_enter Tryd.func6, Tryd.ntmps6
  go_wp2_with (first
    | (go_at_call 8; (with_reducible refine (HA.out _ KB.out).mono ?_); rintro e w1 ⟨rfl, hk⟩; have K1 := Lib.hid (Kp.trans KB.out hk); have R1 := Lib.hid (kp_row hk HR.out); obtain ⟨g0, g1, g2, g3, g4, g5, g6, g7, g8⟩ := cells9 (R1.out); clear hk)
    | (go_at_call 9; (with_reducible refine (HE.out _ K1.out).mono ?_); rintro e w2 ⟨b, off, c0, rfl, hc2, hs2, hk⟩; have K2 := Lib.hid (Kp.trans K1.out hk); have R2 := Lib.hid (kp_row hk R1.out); have S2 := Lib.hid hs2; have sl2 := HSL.out b off c0 hc2; clear hk hs2)
    | (go_at_call 13; (with_reducible refine (HD.out _ K2.out _ _ _ hc2 S2.out).mono ?_); rintro e w3 ⟨rfl, hk⟩; have KK := Lib.hid (Kp.trans K2.out (Kp.trans hk (kp_alloc w3 (.cells #[.int .i64 k2, .int .i64 f2, .int .i64 t2, .int .i64 n2, .int .i64 s2, .int .i64 r2, .int .i64 p2, .int .i64 o2, .int .i64 c2] 25)))); have R3 := Lib.hid (kp_row (Kp.trans hk (kp_alloc w3 (.cells #[.int .i64 k2, .int .i64 f2, .int .i64 t2, .int .i64 n2, .int .i64 s2, .int .i64 r2, .int .i64 p2, .int .i64 o2, .int .i64 c2] 25))) R2.out); obtain ⟨h0, h1, h2, h3, h4, h5, h6, h7, h8⟩ := cells9 (R3.out); clear hk)
    | (go_at_call 18; (with_reducible refine (HN1.out _ KK.out).mono ?_); rintro e w4 ⟨rfl, hk⟩; have KK := Lib.hid (Kp.trans KK.out hk); have R4 := Lib.hid (kp_row hk R3.out); clear hk)
    | (go_at_call 10; (with_reducible refine (HT1.out _ KK.out).mono ?_); rintro e w5 ⟨rfl, hk⟩; have KK := Lib.hid (Kp.trans KK.out hk); have R5 := Lib.hid (kp_row hk R4.out); obtain ⟨i0, i1, i2, i3, i4, i5, i6, i7, i8⟩ := cells9 (R5.out); clear hk)
    | (go_at_call 18; (with_reducible refine (HN2.out _ KK.out).mono ?_); rintro e w6 ⟨rfl, hk⟩; have KK := Lib.hid (Kp.trans KK.out hk); clear hk)
    | (go_at_call 10; (with_reducible refine (HT2.out _ KK.out).mono ?_); rintro e w7 ⟨rfl, hk⟩; have KK := Lib.hid (Kp.trans KK.out hk); clear hk))
  go_ret
  exact ⟨by first | rfl | simp, KK.out⟩

set_option maxRecDepth 100000 in
set_option maxHeartbeats 4000000 in
theorem cut_good (ads : List Addr) (m : MM) (x : Int) (w : World) (C : LetC ads w) (hm : rightM m = true) (K : Nat) (hK : K < (encM m).length) (hcut : wrap64 ((IntKind.u64.wrap x).tmod ((encM m).length : Nat)) = (K : Int)) (h0 : (decM ((encM m).take K)).1 = 0) :
    Calls Tryd.prog 6 #[.agg m.cells, .int .i64 x] w fun e w' => e = .returned (.bool true) ∧ Kp w w' := by
  have HA := Lib.hid (fun w1 (hk : Kp w w1) => alive8_any ads w1 (LetC.kp C hk))
  have hle := encM_len m
  have HE : ∀ w1, Kp w w1 → Calls Tryd.prog 9 #[.agg m.cells] w1 fun e w' => ∃ (b off c : Nat), e = .returned (.tuple #[.slice (some ⟨b, off, none⟩) (encM m).length c, .nilIface]) ∧ (encM m).length ≤ c ∧ SlB (.slice (some ⟨b, off, none⟩) (encM m).length c) (encM m) w' ∧ Kp w1 w' := fun w1 hk => (C.encOk w1 hk m hm).mono (by
    rintro e w2 ⟨a, c, rfl, hc, hs, hk2⟩
    obtain ⟨b, off, rfl, -⟩ := hs.at 0 (by omega)
    exact ⟨b, off, c, rfl, hc, hs, hk2⟩)
  have HD := fun w1 (hk : Kp w w1) (b off c : Nat) (hc : (encM m).length ≤ c) (hs : SlB (.slice (some ⟨b, off, none⟩) (encM m).length c) (encM m) w1) => C.dec w1 hk (some ⟨b, off, none⟩) c ((encM m).take K) K (by rw [List.length_take]; omega) (fun y hy => enc_in m y (List.mem_of_mem_take hy)) (by omega) (slb_take hs (by omega))
  have hno := dec_cut K hK
  obtain ⟨R5, hR5, hcut5⟩ := cut_key x 5 (by decide) (by decide)
  have HN1 := fun w1 (hk : Kp w w1) => C.answer w1 hk m 15 0
  have HN2 := fun w1 (hk : Kp w w1) => C.answer w1 hk m 19 (1 + (R5 : Int))
  have HT1 := fun w1 (hk : Kp w w1) => C.right w1 hk (answerM m 15 0)
  have HT2 := fun w1 (hk : Kp w w1) => C.right w1 hk (answerM m 19 (1 + (R5 : Int)))
  rw [right_status m hm] at HT1
  rw [right_fault m (1 + (R5 : Int)) (by omega) hm] at HT2
  obtain ⟨M2, hM2⟩ : ∃ x, (decM ((encM m).take K)).2 = x := ⟨_, rfl⟩
  have hne : M2 ≠ m := fun q => hno (Prod.ext h0 (hM2.trans q))
  simp only [h0, errI_nil, hM2] at HD
  have hq := fun (w : World) => msg_neq M2 m w
  have hg := fun (op : BinOp) (a b : Operand) (w : World) => msg_guard op a b M2 m w
  simp only [decide_eq_false hne, Bool.not_false] at hq
  clear hM2 h0 hno hne
  obtain ⟨k2, f2, t2, n2, s2, r2, p2, o2, c2⟩ := M2
  obtain ⟨xl, hxl⟩ : ∃ xl, (encM m).length = xl := ⟨_, rfl⟩
  obtain ⟨eb, heb⟩ : ∃ x, encM m = x := ⟨_, rfl⟩
  rw [hxl] at hle hcut hK
  simp only [hxl] at HE HD
  simp only [heb] at HE HD
  obtain ⟨mm, hmm⟩ : ∃ mm : Int, (K : Int) = mm := ⟨_, rfl⟩
  have hsl := fun (b off c : Nat) (hc : xl ≤ c) (w : World) => run_head (b := b) (off := off) hmm (Nat.le_of_lt hK) hc w
  have HSL := Lib.hid hsl
  obtain ⟨xi, hxi⟩ : ∃ xi : Int, (xl : Int) = xi := ⟨_, rfl⟩
  rw [hxi, hmm] at hcut
  obtain ⟨r5, hr5⟩ : ∃ r : Int, (R5 : Int) = r := ⟨_, rfl⟩
  rw [hr5] at hcut5
  replace hcut5 : wrap64 ((IntKind.u64.wrap x).tmod 5) = r5 := hcut5
  simp only [hr5] at HN2 HT2
  have hx1 : (xi == 0) = false := by simp; omega
  have hxb : 0 < xi ∧ xi ≤ 891 := by omega
  have hxn : xi ≠ 0 := by omega
  have hrb : 0 ≤ r5 ∧ r5 < 5 := by omega
  have hmb : 0 ≤ mm ∧ mm < xi := by omega
  obtain ⟨k, f, t, n, s, r, p, o, c⟩ := m
  dsimp only [MM.cells, answerM] at HE HD HN1 HN2 HT1 HT2 hq hg ⊢
  have HE := Lib.hid HE
  have HD := Lib.hid HD
  have HN1 := Lib.hid HN1
  have HN2 := Lib.hid HN2
  have HT1 := Lib.hid HT1
  have HT2 := Lib.hid HT2
  have kb := kp_alloc w (.cells #[.int .i64 k, .int .i64 f, .int .i64 t, .int .i64 n, .int .i64 s, .int .i64 r, .int .i64 p, .int .i64 o, .int .i64 c] 25)
  have hr := (MapKept.heap_alloc w (.cells #[.int .i64 k, .int .i64 f, .int .i64 t, .int .i64 n, .int .i64 s, .int .i64 r, .int .i64 p, .int .i64 o, .int .i64 c] 25)).1
  have KB := Lib.hid kb
  have HR := Lib.hid hr
  clear kb hr C hm heb hle hxl hK hR5 hsl
  go_enter Tryd.func6, Tryd.ntmps6
  go_wp2_with (first
    | (go_at_call 8; (with_reducible refine (HA.out _ KB.out).mono ?_); rintro e w1 ⟨rfl, hk⟩; have K1 := Lib.hid (Kp.trans KB.out hk); have R1 := Lib.hid (kp_row hk HR.out); obtain ⟨g0, g1, g2, g3, g4, g5, g6, g7, g8⟩ := cells9 (R1.out); clear hk)
    | (go_at_call 9; (with_reducible refine (HE.out _ K1.out).mono ?_); rintro e w2 ⟨b, off, c0, rfl, hc2, hs2, hk⟩; have K2 := Lib.hid (Kp.trans K1.out hk); have R2 := Lib.hid (kp_row hk R1.out); have S2 := Lib.hid hs2; have sl2 := HSL.out b off c0 hc2; clear hk hs2)
    | (go_at_call 13; (with_reducible refine (HD.out _ K2.out _ _ _ hc2 S2.out).mono ?_); rintro e w3 ⟨rfl, hk⟩; have KK := Lib.hid (Kp.trans K2.out (Kp.trans hk (kp_alloc w3 (.cells #[.int .i64 k2, .int .i64 f2, .int .i64 t2, .int .i64 n2, .int .i64 s2, .int .i64 r2, .int .i64 p2, .int .i64 o2, .int .i64 c2] 25)))); have R3 := Lib.hid (kp_row (Kp.trans hk (kp_alloc w3 (.cells #[.int .i64 k2, .int .i64 f2, .int .i64 t2, .int .i64 n2, .int .i64 s2, .int .i64 r2, .int .i64 p2, .int .i64 o2, .int .i64 c2] 25))) R2.out); obtain ⟨h0, h1, h2, h3, h4, h5, h6, h7, h8⟩ := cells9 (R3.out); clear hk)
    | (go_at_call 18; (with_reducible refine (HN1.out _ KK.out).mono ?_); rintro e w4 ⟨rfl, hk⟩; have KK := Lib.hid (Kp.trans KK.out hk); have R4 := Lib.hid (kp_row hk R3.out); clear hk)
    | (go_at_call 10; (with_reducible refine (HT1.out _ KK.out).mono ?_); rintro e w5 ⟨rfl, hk⟩; have KK := Lib.hid (Kp.trans KK.out hk); have R5 := Lib.hid (kp_row hk R4.out); obtain ⟨i0, i1, i2, i3, i4, i5, i6, i7, i8⟩ := cells9 (R5.out); clear hk)
    | (go_at_call 18; (with_reducible refine (HN2.out _ KK.out).mono ?_); rintro e w6 ⟨rfl, hk⟩; have KK := Lib.hid (Kp.trans KK.out hk); clear hk)
    | (go_at_call 10; (with_reducible refine (HT2.out _ KK.out).mono ?_); rintro e w7 ⟨rfl, hk⟩; have KK := Lib.hid (Kp.trans KK.out hk); clear hk))
  go_ret
  exact ⟨by first | rfl | simp, KK.out⟩

theorem cut8_any (ads : List Addr) (m : MM) (x : Int) (w : World) (C : LetC ads w) :
    Calls Tryd.prog 6 #[.agg m.cells, .int .i64 x] w fun e w' => e = .returned (.bool true) ∧ Kp w w' := by
  cases hm : rightM m with
  | false => exact cut_wrong ads m x w C hm
  | true =>
    obtain ⟨K, hK, hc⟩ := cut_key x (encM m).length (enc_pos hm) (by have := encM_len m; omega)
    by_cases h0 : (decM ((encM m).take K)).1 = 0
    · exact cut_good ads m x w C hm K hK hc h0
    · exact cut_bad8 ads m x w C hm K hK hc h0
end Go.Proofs.YtfginhckeogafaaDoor

namespace Go.Proofs.YtfginhckeogafaaDoor
open Go.RowKit

theorem letterCut_walk (m : MM) (x : Int) (W : World) (_kx : -9223372036854775808 ≤ x ∧ x ≤ 9223372036854775807) (hL : laidMetH Tryd.prog Rows.letterCutRow.laid W) :
    Calls Tryd.prog 6 #[.agg m.cells, .int .i64 x] W fun e w' => e = .returned (.bool true) ∧ Below W.heap.size W w' := by
  obtain ⟨⟨ads, V⟩, T⟩ := st_tab_of (l := Rows.letterCutRow.laid) (by kernel_rfl) (by kernel_rfl) (by kernel_rfl) hL
  have C := letC_of ads W V T
  exact cut8_any ads m x W C

end Go.Proofs.YtfginhckeogafaaDoor

namespace Go.Proofs.YtfginhckeogafaaDoor
open Go.ChangeShapes Go.WideShapes Go.ChangeAt Go.WideMaps Go.WideElems Go.RowKit


set_option maxRecDepth 100000 in
theorem letterCut_lifted (os : Os) (started : os.Started) (H : Type) (enc : TypeId × Value → H) :
    ReturnsInHanded {} Tryd.checked os 6 .any (fun w args => (Rows.letterCutSpec.pre enc Tryd.prog Tryd.f6 [] false w args ∧ laidMetH Tryd.prog Rows.letterCutRow.laid w) ∧ sizedMet enc Tryd.prog Tryd.f6 (OpenSpec.ofChange Rows.letterCutSpec) false w args)
      (Rows.letterCutSpec.post enc Tryd.prog Tryd.f6 false true false false) := by
  refine returnsInHanded_of_change_and (C := Tryd.checked) (X := fun w _ => laidMetH Tryd.prog Rows.letterCutRow.laid w) (fun _ _ _ hh h => h.of_heap hh) own started (by kernel_rfl) Tryd.func6
    (ChangeSpec.witness_shaped (enc := enc) (C := Tryd.checked) (os := os) (X := fun w _ => laidMetH Tryd.prog Rows.letterCutRow.laid w) false (World.laidAll Tryd.prog os Rows.letterCutRow.laid) #[.agg #[.int .i64 0, .int .i64 0, .int .i64 0, .int .i64 0, .int .i64 0, .int .i64 0, .int .i64 0, .int .i64 0, .int .i64 0], .int .i64 0] 8 (World.laidAll_os _ _ _) (World.shaped_of_ZipB (by kernel_rfl) (by kernel_rfl)) (by kernel_rfl) (by kernel_rfl) (by kernel_rfl) (by rw [MakeChecks.laidMetH_plain _ _ _ (by kernel_rfl)]; exact laidMet_laidAll _ (by kernel_rfl) (by kernel_rfl))) ?_
  intro W base args ds gs before hval0 hW _ hsz hL _
  have hval : ∀ (j : Nat) t v, Tryd.f6.params[j]? = some t → args[j]? = some v → Value.okWide Tryd.prog W .any base t v := hval0
  have hW' := hW
  obtain ⟨p, q, hA0, hV, rfl, hfz, hnd⟩ := hW
  have hA : DataW.TrodAll enc Tryd.prog W 0 (fun _ => true) true Tryd.f6.params.toList args.toList ds p := hA0
  rw [Tryd.params6] at hA hval
  obtain ⟨v0, vs0, d0, ds0, p0, q0, e0, rfl, rfl, h0, r0⟩ := trodAll_cons hA
  obtain ⟨v1, vs1, d1, ds1, p1, q1, e1, rfl, rfl, h1, r1⟩ := trodAll_cons r0
  obtain ⟨rfl, rfl, rfl⟩ := trodAll_nil r1
  obtain rfl : args = #[v0, v1] := by cases args; simp_all
  obtain ⟨rfl, rfl⟩ := trodVars_none hV
  obtain ⟨m, rfl⟩ := open_msg (hval 0 25 v0 rfl rfl) h0
  obtain ⟨x, rfl, rfl, rfl, hx⟩ := open_int Tryd.underlying3 (hval 1 3 v1 rfl rfl) h1
  clear hA0 hval0
  have kx : -9223372036854775808 ≤ x ∧ x ≤ 9223372036854775807 := by simpa [Lit.wf, IntKind.min, IntKind.max, IntKind.bits, IntKind.signed] using hx
  refine (letterCut_walk m x W  kx hL).mono fun e W' ⟨he, hw⟩ => ?_
  subst he
  exact ⟨_, rfl, law_post laidOut hW' rfl rfl rfl Tryd.underlying4 (par_ok (by kernel_rfl)) hw⟩

theorem letterCut_said : Rows.LetterCutSaid :=
  OpenClaim.holds_of_wide 6 Tryd.f6 rfl rfl rfl rfl rfl rfl rfl ⟨rfl, rfl, rfl, rfl, rfl⟩ rfl rfl rfl rfl rfl (by kernel_rfl) Tryd.func6 (by kernel_rfl)
    (of_decide_eq_true (by kernel_rfl)) (by unfold Func.isWrapper; first | (rw [if_pos (by decide +kernel)]; kernel_rfl) | (rw [if_neg (by decide +kernel)]; exact ⟨rfl, rfl⟩))
    (fun os started H enc _ => letterCut_lifted os started H enc)

theorem letterCut_holds : Rows.LetterCutCardSaid :=
  Claim7.holds_tied_plain_at .later [] _ _ _ _ letterCut_said (fun _ h => by cases h) (by kernel_rfl) (fun _ h => by cases h) letterCut_row_tie rfl ⟨rfl, rfl⟩ (by kernel_rfl) rfl
    (fun f fn hf hfn => by
      obtain rfl : f = 6 := Option.some.inj ((show Tryd.prog.funcNamed "liaison/liaisonlaw08.LetterCut" = some 6 by kernel_rfl).symm.trans hf) |>.symm
      obtain rfl : fn = Tryd.f6 := (Option.some.inj (Tryd.func6.symm.trans hfn)).symm
      exact ⟨by kernel_rfl, stand_ok (P := Tryd.prog) (by kernel_rfl)⟩)
    (by kernel_rfl)
end Go.Proofs.YtfginhckeogafaaDoor

