/-
  NetFull's WALK (own work).
-/
import Derived.Test.YtjffkfcokgcenaaDoorNetE
namespace Go.Proofs.YtjffkfcokgcenaaDoor
open Go.RowKit Go.Shelf Go.ChangeShapes Go.WideShapes
attribute [local go_sem] Oper.semAt_some
variable {ads : List Addr} {J : Nat → NetM → (Nat → Prop) → World → Prop} {w0 B w1 w2 : World} {g : Nat} {m : NetM}
theorem umod_in (x n : Int) (h1 : 0 < n) (h2 : n ≤ 100000) : 0 ≤ wrap64 ((IntKind.u64.wrap x).tmod n) ∧ wrap64 ((IntKind.u64.wrap x).tmod n) < n ∧ wrap64 ((IntKind.u64.wrap x).tmod n) = (IntKind.u64.wrap x).tmod n := by
  have h0 : 0 ≤ IntKind.u64.wrap x := by
    simp only [IntKind.wrap, IntKind.signed, IntKind.bits]
    simp
    omega
  have h3 : (IntKind.u64.wrap x).tmod n = IntKind.u64.wrap x % n := Int.tmod_eq_emod_of_nonneg h0
  have h4 := Int.emod_nonneg (IntKind.u64.wrap x) (show n ≠ 0 by omega)
  have h5 := Int.emod_lt_of_pos (IntKind.u64.wrap x) h1
  have h6 : wrap64 ((IntKind.u64.wrap x).tmod n) = (IntKind.u64.wrap x).tmod n := by
    rw [h3]
    unfold wrap64
    omega
  rw [h6]
  exact ⟨by omega, by omega, rfl⟩
/-- a net of one node with k letters -/
def fulN (k : Nat) : NetM := ⟨1, List.replicate k lt0, [[false]], 0⟩
theorem fulN_put (k : Nat) (h : k < 64) : (fulN k).put lt0 = ((true, 0), fulN (k + 1)) := by
  unfold NetM.put
  rw [if_neg (by show ¬ ((fulN k).has 0 && (fulN k).has 0) = false; simp [NetM.has, fulN]), if_neg (by show ¬ 1000 < 0; omega), if_neg (by show ¬ (fulN k).isCut 0 0 = true; simp [NetM.isCut, fulN]), if_neg (by show ¬ 63 < (List.replicate k lt0).length; rw [List.length_replicate]; omega)]
  show ((true, (0 : Int)), (⟨1, List.replicate k lt0 ++ [lt0], [[false]], 0⟩ : NetM)) = _
  rw [← List.replicate_succ']
  rfl
theorem fulN_full : ((fulN 64).put lt0).1 = (false, 6) := by decide +kernel
theorem fulN_same : ((fulN 64).put lt0).2 = fulN 64 := by
  unfold NetM.put
  rw [if_neg (by show ¬ ((fulN 64).has 0 && (fulN 64).has 0) = false; simp [NetM.has, fulN]), if_neg (by show ¬ 1000 < 0; omega), if_neg (by show ¬ (fulN 64).isCut 0 0 = true; simp [NetM.isCut, fulN]), if_pos (by show 63 < (List.replicate 64 lt0).length; rw [List.length_replicate]; omega)]
theorem fulN_copy (i : Int) (h0 : 0 ≤ i) (h1 : i < 64) : (fulN 64).copy i = (6, fulN 64) := by
  unfold NetM.copy
  rw [if_neg (by show ¬ (fulN 64).there i = false; simp [NetM.there, fulN, h0]; omega), if_pos (by show 63 < (List.replicate 64 lt0).length; rw [List.length_replicate]; omega)]
theorem fulN_move : ((fulN 64).move 0 63).1 = 0 := by decide +kernel
set_option maxRecDepth 100000 in
set_option maxHeartbeats 2000000 in
theorem full_any (x : Int) (w : World) (V : St ads w) (C : NetC ads w J) : Calls Tryd.prog 5 #[.int .i64 x] w fun r w' => r = .returned (.bool true) ∧ Kp w w' := by
  have HCC := Lib.hid C
  have HAL := Lib.hid (alive12_any C w (Kp.refl w))
  have HNW := Lib.hid (fun w1 (hk : Kp w w1) => (show Calls Tryd.prog 9 #[.int .i64 1] w1 fun r w' => ∃ g, r = .returned (.tuple #[.pointer (some ⟨g, 0, none⟩), .nilIface]) ∧ AtN J w w (fun _ => False) g (fulN 0) w' ∧ Kp w1 w' from atN_new C (Kp.refl w) hk 1 (by decide) (by decide)))
  have HPU := Lib.hid (fun g w1 (j : Nat) (hj : j < 64) (h : AtN J w w (fun _ => False) g (fulN j) w1) => (show Calls Tryd.prog 19 #[.pointer (some ⟨g, 0, none⟩), .agg #[.int .i64 0, .int .i64 0, .slice none 0 0]] w1 fun r w' => r = .returned (.tuple #[.bool true, .nilIface]) ∧ AtN J w w (fun _ => False) g (fulN (j + 1)) w' from (atN_put C h 0 0 none 0 0 [] rfl (.inl ⟨rfl, none, 0, rfl, fun _ => rfl⟩) (fun x hx => by cases hx)).mono (fun r w' q => by
    have e := fulN_put j hj
    unfold lt0 at e
    rw [e] at q
    exact ⟨by rw [q.1]; rw [errI_nil], q.2.1⟩)))
  obtain ⟨e6, he6⟩ : ∃ v, errI ads 6 = v := ⟨_, rfl⟩
  have HPF := Lib.hid (fun g w1 (h : AtN J w w (fun _ => False) g (fulN 64) w1) => (show Calls Tryd.prog 19 #[.pointer (some ⟨g, 0, none⟩), .agg #[.int .i64 0, .int .i64 0, .slice none 0 0]] w1 fun r w' => r = .returned (.tuple #[.bool false, e6]) ∧ AtN J w w (fun _ => False) g (fulN 64) w' from (atN_put C h 0 0 none 0 0 [] rfl (.inl ⟨rfl, none, 0, rfl, fun _ => rfl⟩) (fun x hx => by cases hx)).mono (fun r w' q => by
    have e := fulN_full
    have e2 := fulN_same
    unfold lt0 at e e2
    rw [e, e2] at q
    exact ⟨by rw [q.1]; rw [he6], q.2.1⟩)))
  have HCP := Lib.hid (fun g w1 (i : Int) (h0 : 0 ≤ i) (h1 : i < 64) (h : AtN J w w (fun _ => False) g (fulN 64) w1) => (show Calls Tryd.prog 21 #[.pointer (some ⟨g, 0, none⟩), .int .i64 i] w1 fun r w' => r = .returned e6 ∧ AtN J w w (fun _ => False) g (fulN 64) w' from (atN_copy C h i).mono (fun r w' q => by
    rw [fulN_copy i h0 h1] at q
    exact ⟨by rw [q.1]; rw [he6], q.2.1⟩)))
  have HNU := Lib.hid (fun w1 (hk : Kp w w1) => he6 ▸ num_errN ads w1 (V.below hk) 6 (by decide) (by decide))
  have HLE := Lib.hid (fun g w1 (h : AtN J w w (fun _ => False) g (fulN 64) w1) => (show Calls Tryd.prog 13 #[.pointer (some ⟨g, 0, none⟩)] w1 fun r w' => r = .returned (.int .i64 64) ∧ w1 = w' from (atN_len C h).mono (fun r w' q => ⟨by rw [q.1]; rfl, q.2⟩)))
  have HMV := Lib.hid (fun g w1 (h : AtN J w w (fun _ => False) g (fulN 64) w1) => (show Calls Tryd.prog 22 #[.pointer (some ⟨g, 0, none⟩), .int .i64 0, .int .i64 63] w1 fun r w' => r = .returned .nilIface ∧ Kp w w' from (atN_move C h 0 63).mono (fun r w' q => ⟨by rw [q.1, fulN_move, errI_nil], q.2.1.base⟩)))
  clear he6 V C
  go_enter Tryd.func5, Tryd.ntmps5
  go_wp2_with (first | (go_at_call 7; (with_reducible refine HAL.out.mono ?_); rintro e' w1 ⟨rfl, hk⟩; have K1 := Lib.hid hk; clear hk) | (go_at_call 9; (with_reducible refine (HNW.out _ K1.out).mono ?_); rintro e' w2 ⟨g, rfl, ha, hk⟩; have A2 := Lib.hid ha; clear ha hk))
  go_loopw [18] (fun i wr => ∃ j : Nat, j ≤ 64 ∧ i = .int .i64 j ∧ AtN J w w (fun _ => False) g (fulN j) wr) (fun i _ => 64 - (intOf i).toNat)
  case atStart => exact ⟨0, Nat.zero_le _, rfl, A2.out⟩
  case round =>
    obtain ⟨j, hj, rfl, ha⟩ := hrel
    obtain ⟨jj, hjj⟩ : ∃ jj : Int, (j : Int) = jj := ⟨_, rfl⟩
    have HJ := Lib.hid hjj
    rw [hjj]
    by_cases hlt : j < 64
    · have A3 := Lib.hid ha
      have HLT := Lib.hid hlt
      have hj3 : jj < 64 := by omega
      have hj0 : 0 ≤ jj := by omega
      clear ha hlt hj hjj
      go_wp2_with (go_at_call 19; (with_reducible refine (HPU.out _ _ _ HLT.out A3.out).mono ?_); rintro e' w4 ⟨rfl, ha⟩; have A4 := Lib.hid ha; clear ha)
      have hj1 : (j : Int) = jj := HJ.out
      have hlt1 : j < 64 := HLT.out
      go_roundw
      case rel => exact ⟨j + 1, hlt1, by rw [← hj1]; rfl, A4.out⟩
      case measure => simp [intOf]; omega
    · obtain rfl : j = 64 := by omega
      have hj3 : ¬ jj < 64 := by omega
      have A3 := Lib.hid ha
      clear ha hlt hj hjj
      have hum := umod_in x 64 (by decide) (by decide)
      have HU := Lib.hid hum
      clear hum
      go_wp2_with (first | (go_at_call 19; (with_reducible refine (HPF.out _ _ A3.out).mono ?_); rintro e' w4 ⟨rfl, ha⟩; have A4 := Lib.hid ha; clear ha) | (go_at_call 21; (with_reducible refine (HCP.out _ _ _ HU.out.1 HU.out.2.1 A4.out).mono ?_); rintro e' w5 ⟨rfl, ha⟩; have A5 := Lib.hid ha; clear ha) | (go_at_call 10; (with_reducible refine (HNU.out _ A6.out.base).mono ?_); rintro e' w7 ⟨rfl, hk⟩; have A7 := Lib.hid (A6.out.kp HCC.out hk); clear hk) | (go_at_call 10; (with_reducible refine (HNU.out _ A5.out.base).mono ?_); rintro e' w6 ⟨rfl, hk⟩; have A6 := Lib.hid (A5.out.kp HCC.out hk); clear hk) | (go_at_call 13; (with_reducible refine (HLE.out _ _ A7.out).mono ?_); rintro e' w8 ⟨rfl, rfl⟩) | (go_at_call 22; (with_reducible refine (HMV.out _ _ A7.out).mono ?_); rintro e' w9 ⟨rfl, hk⟩; have K9 := Lib.hid hk; clear hk))
      go_ret
      exact ⟨by first | rfl | (simp; done), K9.out⟩
end Go.Proofs.YtjffkfcokgcenaaDoor
