/-
  FloatsBackoff: for every two floats and every count the law returns true, and its arguments read as before (the listed error variables hold what the program's text lays).
-/
import Derived.Test.YtcfjecllfghkbaaDoorCards
import Derived.Test.YtcfjecllfghkbaaDoorTie
import Derived.Test.YtcfjecllfghkbaaDoorFrame
import Derived.Test.YtcfjecllfghkbaaDoorFz
import Derived.Test.YtcfjecllfghkbaaDoorLaid
import Derived.SevenTiedAt
namespace Go.Proofs.YtcfjecllfghkbaaDoor
open Go.ChangeShapes Go.WideShapes Go.ChangeAt Go.WideMaps Go.WideElems Go.RowKit

theorem same_refl (a : Nat) (w : World) :
    Calls Tryd.prog 16 #[.float .f64 a, .float .f64 a] w fun e w' => e = .returned (.bool true) ∧ w = w' := by
  have h := same_any a a w
  rw [decide_eq_true rfl] at h
  exact h

theorem back_bad (a m : Nat) (n : Int) (r : Nat) (ads : List Addr) (k : Nat) (hk : k < 14) (hka : k < ads.length) (w : World) (E : Errs gs14 ads w)
    (h1 : Calls Tryd.prog 27 #[.float .f64 a, .int .i64 n, .float .f64 m] w fun e w' => e = .returned (.tuple #[.float .f64 r, .iface 72 (.pointer (some ads[k]))]) ∧ Kp w w')
    (h2 : ∀ w, Calls Tryd.prog 28 #[.float .f64 a, .int .i64 n, .float .f64 m] w fun e w' => e = .returned (.tuple #[.float .f64 r, .int .i64 (k + 1)]) ∧ w = w') :
    Calls Tryd.prog 6 #[.float .f64 a, .int .i64 n, .float .f64 m] w fun e w' => e = .returned (.bool true) ∧ Below w.heap.size w w' := by
  go_enter Tryd.func6, Tryd.ntmps6
  go_wp2_with (first | (go_at_call 10; (with_reducible refine (alive_any _).mono ?_); rintro e w' ⟨rfl, rfl⟩) | (go_at_call 27; (with_reducible refine h1.mono ?_); rintro e w1 ⟨rfl, hk1⟩) | (go_at_call 28; (with_reducible refine (h2 _).mono ?_); rintro e w' ⟨rfl, rfl⟩) | (go_at_call 16; (with_reducible refine (same_refl _ _).mono ?_); rintro e w' ⟨rfl, rfl⟩) | (go_at_call 21; (with_reducible refine (num_err ads _ (Kp.errs hk1 E) k hk hka).mono ?_); rintro e w2 ⟨rfl, hk2⟩))
  go_ret
  exact ⟨rfl, Kp.trans hk1 hk2⟩

theorem back_good (a m : Nat) (n : Int) (r : Nat) (w : World)
    (h1 : ∀ w, Calls Tryd.prog 27 #[.float .f64 a, .int .i64 n, .float .f64 m] w fun e w' => e = .returned (.tuple #[.float .f64 r, .nilIface]) ∧ w = w')
    (h2 : ∀ w, Calls Tryd.prog 28 #[.float .f64 a, .int .i64 n, .float .f64 m] w fun e w' => e = .returned (.tuple #[.float .f64 r, .int .i64 0]) ∧ w = w') :
    Calls Tryd.prog 6 #[.float .f64 a, .int .i64 n, .float .f64 m] w fun e w' => e = .returned (.bool true) ∧ Below w.heap.size w w' := by
  go_enter Tryd.func6, Tryd.ntmps6
  go_wp2_with (first | (go_at_call 10; (with_reducible refine (alive_any _).mono ?_); rintro e w' ⟨rfl, rfl⟩) | (go_at_call 27; (with_reducible refine (h1 _).mono ?_); rintro e w' ⟨rfl, rfl⟩) | (go_at_call 28; (with_reducible refine (h2 _).mono ?_); rintro e w' ⟨rfl, rfl⟩) | (go_at_call 16; (with_reducible refine (same_refl _ _).mono ?_); rintro e w' ⟨rfl, rfl⟩) | (go_at_call 21; (with_reducible refine (num_nil _).mono ?_); rintro e w' ⟨rfl, rfl⟩))
  go_ret
  exact ⟨rfl, Kp.refl _⟩

theorem floatsBackoff_walk (a : Nat) (n : Int) (m : Nat) (W : World) (ha : a < 18446744073709551616) (hn : -9223372036854775808 ≤ n ∧ n ≤ 9223372036854775807) (hm : m < 18446744073709551616)
    (hL : laidMetH Tryd.prog Rows.floatsBackoffRow.laid W) :
    Calls Tryd.prog 6 #[.float .f64 a, .int .i64 n, .float .f64 m] W fun e w' => e = .returned (.bool true) ∧ Below W.heap.size W w' := by
  obtain ⟨ads, E⟩ := errs14_of_laid rfl hL
  have hlen : ads.length = 14 := E.len
  by_cases hd : Fl.dl a = false ∨ Fl.dl m = false
  · exact back_bad a m n 0 ads 3 (by omega) (by omega) W E (backoff_form a m n _ W ha hm hd (E.cell 3 (by decide))) (fun w => refBack_form a m n w ha hm hd)
  · have da : Fl.dl a = true := by cases g : Fl.dl a; exact absurd (Or.inl g) hd; rfl
    have dm : Fl.dl m = true := by cases g : Fl.dl m; exact absurd (Or.inr g) hd; rfl
    by_cases h0 : n < 0
    · exact back_bad a m n 0 ads 0 (by omega) (by omega) W E (backoff_range a m n _ W da dm h0 (E.cell 0 (by decide))) (fun w => refBack_range a m n w da dm h0)
    · obtain ⟨k, rfl⟩ := Int.eq_ofNat_of_zero_le (show 0 ≤ n by omega)
      exact back_good a m k (Fl.backR a k m) W (fun w => backoff_ok a m k w da dm (by omega)) (fun w => refBack_ok a m k w da dm (by omega))

theorem floatsBackoff_met (os : Os) (args : Array Value) : laidMetH Tryd.prog Rows.floatsBackoffRow.laid ((World.doorLaid Tryd.prog 4000 os).forCall (fun _ _ => 0) ⟨#[], args, []⟩).memory :=
  laidMetH_of_parts3 (fuel := 8) (laidMet_of_run' 8 (by kernel_rfl) (by kernel_rfl)) (by kernel_rfl) (by kernel_rfl)

set_option maxRecDepth 100000 in
theorem floatsBackoff_lifted (os : Os) (started : os.Started) (H : Type) (enc : TypeId × Value → H) :
    ReturnsInHanded {} Tryd.checked os 6 .any (fun w args => (Rows.floatsBackoffSpec.pre enc Tryd.prog Tryd.f6 [] false w args ∧ laidMetH Tryd.prog Rows.floatsBackoffRow.laid w) ∧ sizedMet enc Tryd.prog Tryd.f6 (OpenSpec.ofChange Rows.floatsBackoffSpec) false w args)
      (Rows.floatsBackoffSpec.post enc Tryd.prog Tryd.f6 false true false false) := by
  refine returnsInHanded_of_change_and (C := Tryd.checked) (X := fun w _ => laidMetH Tryd.prog Rows.floatsBackoffRow.laid w) (fun _ _ _ hh h => h.of_heap hh) own started (by kernel_rfl) Tryd.func6
    (ChangeSpec.witness_shaped (enc := enc) (C := Tryd.checked) (os := os) (X := fun w _ => laidMetH Tryd.prog Rows.floatsBackoffRow.laid w) false (World.doorLaid Tryd.prog 4000 os) #[.float .f64 0, .int .i64 0, .float .f64 0] 8 rfl (World.shaped_of_RefB (by kernel_rfl) (by kernel_rfl)) (by kernel_rfl) (by kernel_rfl) (by kernel_rfl) (floatsBackoff_met os _)) ?_
  intro W base args ds gs before hval0 hW _ hsz hL _
  have hval : ∀ (j : Nat) t v, Tryd.f6.params[j]? = some t → args[j]? = some v → Value.okWide Tryd.prog W .any base t v := hval0
  have hW' := hW
  obtain ⟨p, q, hA0, hV, rfl, hfz, hnd⟩ := hW
  have hA : DataW.TrodAll enc Tryd.prog W 0 (fun _ => true) true Tryd.f6.params.toList args.toList ds p := hA0
  rw [Tryd.params6] at hA hval
  obtain ⟨v0, vs0, d0, ds0, p0, q0, e0, rfl, rfl, h0, r0⟩ := trodAll_cons hA
  obtain ⟨v1, vs1, d1, ds1, p1, q1, e1, rfl, rfl, h1, r1⟩ := trodAll_cons r0
  obtain ⟨v2, vs2, d2, ds2, p2, q2, e2, rfl, rfl, h2, r2⟩ := trodAll_cons r1
  obtain ⟨rfl, rfl, rfl⟩ := trodAll_nil r2
  obtain rfl : args = #[v0, v1, v2] := by cases args; simp_all
  obtain ⟨rfl, rfl⟩ := trodVars_none hV
  obtain ⟨a, rfl, rfl, rfl, ha⟩ := open_float Tryd.underlying22 (hval 0 22 v0 rfl rfl) h0
  obtain ⟨n, rfl, rfl, rfl, hn⟩ := open_int Tryd.underlying3 (hval 1 3 v1 rfl rfl) h1
  obtain ⟨m, rfl, rfl, rfl, hm⟩ := open_float Tryd.underlying22 (hval 2 22 v2 rfl rfl) h2
  clear hA0 hval0
  have ka : a < 18446744073709551616 := by simpa [Lit.wf] using ha
  have kn : -9223372036854775808 ≤ n ∧ n ≤ 9223372036854775807 := by simpa [Lit.wf, IntKind.min, IntKind.max, IntKind.bits, IntKind.signed] using hn
  have km : m < 18446744073709551616 := by simpa [Lit.wf] using hm
  refine (floatsBackoff_walk a n m W ka kn km hL).mono fun e W' ⟨he, hw⟩ => ?_
  subst he
  exact ⟨_, rfl, law_post laidOut hW' rfl rfl rfl Tryd.underlying4 (par_ok (by kernel_rfl)) hw⟩

theorem floatsBackoff_said : Rows.FloatsBackoffSaid :=
  OpenClaim.holds_of_wide 6 Tryd.f6 rfl rfl rfl rfl rfl rfl rfl ⟨rfl, rfl, rfl, rfl, rfl⟩ rfl rfl rfl rfl rfl (by kernel_rfl) Tryd.func6 (by kernel_rfl)
    (of_decide_eq_true (by kernel_rfl)) (by unfold Func.isWrapper; first | (rw [if_pos (by decide +kernel)]; kernel_rfl) | (rw [if_neg (by decide +kernel)]; exact ⟨rfl, rfl⟩))
    (fun os started H enc _ => floatsBackoff_lifted os started H enc)

theorem floatsBackoff_holds : Rows.FloatsBackoffCardSaid :=
  Claim7.holds_tied_plain_at .later [] _ _ _ _ floatsBackoff_said (fun _ h => by cases h) (by kernel_rfl) (fun _ h => by cases h) floatsBackoff_row_tie rfl ⟨rfl, rfl⟩ (by kernel_rfl) rfl
    (fun f fn hf hfn => by
      obtain rfl : f = 6 := Option.some.inj ((show Tryd.prog.funcNamed "liaison/liaisonlaw01.FloatsBackoff" = some 6 by kernel_rfl).symm.trans hf) |>.symm
      obtain rfl : fn = Tryd.f6 := (Option.some.inj (Tryd.func6.symm.trans hfn)).symm
      exact ⟨by kernel_rfl, stand_ok (P := Tryd.prog) (by kernel_rfl)⟩)
    (by kernel_rfl)
end Go.Proofs.YtcfjecllfghkbaaDoor
