/-
  LetterAnswers: for every message, kind and code, letter.Answer makes the message that goes back with them and with protocol 0, and letter.Down and letter.Up tell which way the kind goes, as the document does, never both. Condition: package api's errors and strconv's table of powers hold what their declarations lay.
-/
import Derived.Test.YtfginhckeogafaaDoorPkI
import Derived.Test.YtfginhckeogafaaDoorRows
import Derived.Test.YtfginhckeogafaaDoorPkG
import Derived.Test.YtfginhckeogafaaDoorCards
import Derived.Test.YtfginhckeogafaaDoorTie
import Derived.SevenTiedAt
import Derived.Lay
import Derived.MakeChecks

namespace Go.Proofs.YtfginhckeogafaaDoor
open Go.RowKit Go.ChangeShapes Go.WideShapes

theorem no_both (k : Int) : (downM k && upM k) = false := by
  unfold downM upM
  by_cases h : k = 2 ∨ 9 ≤ k ∧ k ≤ 14
  · rw [decide_eq_true h, decide_eq_false (by omega)]; rfl
  · rw [decide_eq_false h]; rfl
set_option maxRecDepth 100000 in
set_option maxHeartbeats 2000000 in
theorem answers_any (ads : List Addr) (m : MM) (x y : Int) (w : World) (C : LetC ads w) :
    Calls Tryd.prog 5 #[.agg m.cells, .int .i64 x, .int .i64 y] w fun e w' => e = .returned (.bool true) ∧ Kp w w' := by
  obtain ⟨k, f, t, n, s, r, p, o, c⟩ := m
  have kb := kp_alloc w (.cells #[.int .i64 k, .int .i64 f, .int .i64 t, .int .i64 n, .int .i64 s, .int .i64 r, .int .i64 p, .int .i64 o, .int .i64 c] 25)
  have hr := (MapKept.heap_alloc w (.cells #[.int .i64 k, .int .i64 f, .int .i64 t, .int .i64 n, .int .i64 s, .int .i64 r, .int .i64 p, .int .i64 o, .int .i64 c] 25)).1
  have HA := Lib.hid (fun w1 (hk : Kp w w1) => alive8_any ads w1 (LetC.kp C hk))
  have HN := fun w1 (hk : Kp w w1) => C.answer w1 hk ⟨k, f, t, n, s, r, p, o, c⟩ x y
  have hq := fun (w : World) => msg_eql ⟨x, t, f, n, s, r, p, 0, y⟩ ⟨x, t, f, n, s, r, p, 0, y⟩ w
  have hg := fun (op : BinOp) (a b : Operand) (w : World) => msg_guard op a b ⟨x, t, f, n, s, r, p, 0, y⟩ ⟨x, t, f, n, s, r, p, 0, y⟩ w
  simp only [decide_true] at hq
  dsimp only [MM.cells, answerM] at HN hq hg ⊢
  have HN := Lib.hid HN
  have HD := Lib.hid (fun w1 (hk : Kp w w1) => C.down w1 hk x)
  have HU := Lib.hid (fun w1 (hk : Kp w w1) => C.up w1 hk x)
  have hdu := no_both x
  obtain ⟨dm, hdm⟩ : ∃ b, downM x = b := ⟨_, rfl⟩
  obtain ⟨um, hum⟩ : ∃ b, upM x = b := ⟨_, rfl⟩
  have HD8 := fun w1 => refDown8_any x w1
  have HU8 := fun w1 => refUp8_any x w1
  rw [hdm] at HD HD8 hdu
  rw [hum] at HU HU8 hdu
  have HD8 := Lib.hid HD8
  have HU8 := Lib.hid HU8
  have KB := Lib.hid kb
  have HR := Lib.hid hr
  clear kb hr C hdm hum
  cases dm
  all_goals cases um
  any_goals (cases hdu; done)
  all_goals clear hdu
  all_goals go_enter Tryd.func5, Tryd.ntmps5
  all_goals go_wp2_with (first
    | (go_at_call 8; (with_reducible refine (HA.out _ KB.out).mono ?_); rintro e w1 ⟨rfl, hk⟩; have K1 := Lib.hid (Kp.trans KB.out hk); have R1 := Lib.hid (kp_row hk HR.out); obtain ⟨g0, g1, g2, g3, g4, g5, g6, g7, g8⟩ := cells9 (R1.out); clear hk)
    | (go_at_call 18; (with_reducible refine (HN.out _ K1.out).mono ?_); rintro e w2 ⟨rfl, hk⟩; have KK := Lib.hid (Kp.trans K1.out (Kp.trans hk (Kp.trans (kp_alloc w2 (.cells #[.int .i64 x, .int .i64 t, .int .i64 f, .int .i64 n, .int .i64 s, .int .i64 r, .int .i64 p, .int .i64 0, .int .i64 y] 25)) (kp_alloc (w2.alloc (.cells #[.int .i64 x, .int .i64 t, .int .i64 f, .int .i64 n, .int .i64 s, .int .i64 r, .int .i64 p, .int .i64 0, .int .i64 y] 25)) (.cells #[.int .i64 x, .int .i64 t, .int .i64 f, .int .i64 n, .int .i64 s, .int .i64 r, .int .i64 p, .int .i64 0, .int .i64 y] 25))))); have R2 := Lib.hid (kp_row (Kp.trans hk (kp_alloc w2 (.cells #[.int .i64 x, .int .i64 t, .int .i64 f, .int .i64 n, .int .i64 s, .int .i64 r, .int .i64 p, .int .i64 0, .int .i64 y] 25))) R1.out); obtain ⟨h0, h1, h2, h3, h4, h5, h6, h7, h8⟩ := cells9 (R2.out); clear hk)
    | (go_at_call 19; (with_reducible refine (HD.out _ KK.out).mono ?_); rintro e w3 ⟨rfl, hk3⟩; have KK := Lib.hid (Kp.trans KK.out hk3); clear hk3)
    | (go_at_call 20; (with_reducible refine (HD8.out _).mono ?_); rintro e w' ⟨rfl, rfl⟩)
    | (go_at_call 21; (with_reducible refine (HU.out _ KK.out).mono ?_); rintro e w4 ⟨rfl, hk4⟩; have KK := Lib.hid (Kp.trans KK.out hk4); clear hk4)
    | (go_at_call 22; (with_reducible refine (HU8.out _).mono ?_); rintro e w' ⟨rfl, rfl⟩))
  all_goals
    go_ret
    exact ⟨by first | rfl | simp_all, KK.out⟩
end Go.Proofs.YtfginhckeogafaaDoor

namespace Go.Proofs.YtfginhckeogafaaDoor
open Go.RowKit

theorem letterAnswers_walk (m : MM) (x y : Int) (W : World) (_kx : -9223372036854775808 ≤ x ∧ x ≤ 9223372036854775807) (_ky : -9223372036854775808 ≤ y ∧ y ≤ 9223372036854775807) (hL : laidMetH Tryd.prog Rows.letterAnswersRow.laid W) :
    Calls Tryd.prog 5 #[.agg m.cells, .int .i64 x, .int .i64 y] W fun e w' => e = .returned (.bool true) ∧ Below W.heap.size W w' := by
  obtain ⟨⟨ads, V⟩, T⟩ := st_tab_of (l := Rows.letterAnswersRow.laid) (by kernel_rfl) (by kernel_rfl) (by kernel_rfl) hL
  have C := letC_of ads W V T
  exact answers_any ads m x y W C

end Go.Proofs.YtfginhckeogafaaDoor

namespace Go.Proofs.YtfginhckeogafaaDoor
open Go.ChangeShapes Go.WideShapes Go.ChangeAt Go.WideMaps Go.WideElems Go.RowKit


set_option maxRecDepth 100000 in
theorem letterAnswers_lifted (os : Os) (started : os.Started) (H : Type) (enc : TypeId × Value → H) :
    ReturnsInHanded {} Tryd.checked os 5 .any (fun w args => (Rows.letterAnswersSpec.pre enc Tryd.prog Tryd.f5 [] false w args ∧ laidMetH Tryd.prog Rows.letterAnswersRow.laid w) ∧ sizedMet enc Tryd.prog Tryd.f5 (OpenSpec.ofChange Rows.letterAnswersSpec) false w args)
      (Rows.letterAnswersSpec.post enc Tryd.prog Tryd.f5 false true false false) := by
  refine returnsInHanded_of_change_and (C := Tryd.checked) (X := fun w _ => laidMetH Tryd.prog Rows.letterAnswersRow.laid w) (fun _ _ _ hh h => h.of_heap hh) own started (by kernel_rfl) Tryd.func5
    (ChangeSpec.witness_shaped (enc := enc) (C := Tryd.checked) (os := os) (X := fun w _ => laidMetH Tryd.prog Rows.letterAnswersRow.laid w) false (World.laidAll Tryd.prog os Rows.letterAnswersRow.laid) #[.agg #[.int .i64 0, .int .i64 0, .int .i64 0, .int .i64 0, .int .i64 0, .int .i64 0, .int .i64 0, .int .i64 0, .int .i64 0], .int .i64 0, .int .i64 0] 8 (World.laidAll_os _ _ _) (World.shaped_of_ZipB (by kernel_rfl) (by kernel_rfl)) (by kernel_rfl) (by kernel_rfl) (by kernel_rfl) (by rw [MakeChecks.laidMetH_plain _ _ _ (by kernel_rfl)]; exact laidMet_laidAll _ (by kernel_rfl) (by kernel_rfl))) ?_
  intro W base args ds gs before hval0 hW _ hsz hL _
  have hval : ∀ (j : Nat) t v, Tryd.f5.params[j]? = some t → args[j]? = some v → Value.okWide Tryd.prog W .any base t v := hval0
  have hW' := hW
  obtain ⟨p, q, hA0, hV, rfl, hfz, hnd⟩ := hW
  have hA : DataW.TrodAll enc Tryd.prog W 0 (fun _ => true) true Tryd.f5.params.toList args.toList ds p := hA0
  rw [Tryd.params5] at hA hval
  obtain ⟨v0, vs0, d0, ds0, p0, q0, e0, rfl, rfl, h0, r0⟩ := trodAll_cons hA
  obtain ⟨v1, vs1, d1, ds1, p1, q1, e1, rfl, rfl, h1, r1⟩ := trodAll_cons r0
  obtain ⟨v2, vs2, d2, ds2, p2, q2, e2, rfl, rfl, h2, r2⟩ := trodAll_cons r1
  obtain ⟨rfl, rfl, rfl⟩ := trodAll_nil r2
  obtain rfl : args = #[v0, v1, v2] := by cases args; simp_all
  obtain ⟨rfl, rfl⟩ := trodVars_none hV
  obtain ⟨m, rfl⟩ := open_msg (hval 0 25 v0 rfl rfl) h0
  obtain ⟨x, rfl, rfl, rfl, hx⟩ := open_int Tryd.underlying3 (hval 1 3 v1 rfl rfl) h1
  obtain ⟨y, rfl, rfl, rfl, hy⟩ := open_int Tryd.underlying3 (hval 2 3 v2 rfl rfl) h2
  clear hA0 hval0
  have kx : -9223372036854775808 ≤ x ∧ x ≤ 9223372036854775807 := by simpa [Lit.wf, IntKind.min, IntKind.max, IntKind.bits, IntKind.signed] using hx
  have ky : -9223372036854775808 ≤ y ∧ y ≤ 9223372036854775807 := by simpa [Lit.wf, IntKind.min, IntKind.max, IntKind.bits, IntKind.signed] using hy
  refine (letterAnswers_walk m x y W  kx ky hL).mono fun e W' ⟨he, hw⟩ => ?_
  subst he
  exact ⟨_, rfl, law_post laidOut hW' rfl rfl rfl Tryd.underlying4 (par_ok (by kernel_rfl)) hw⟩

theorem letterAnswers_said : Rows.LetterAnswersSaid :=
  OpenClaim.holds_of_wide 5 Tryd.f5 rfl rfl rfl rfl rfl rfl rfl ⟨rfl, rfl, rfl, rfl, rfl⟩ rfl rfl rfl rfl rfl (by kernel_rfl) Tryd.func5 (by kernel_rfl)
    (of_decide_eq_true (by kernel_rfl)) (by unfold Func.isWrapper; first | (rw [if_pos (by decide +kernel)]; kernel_rfl) | (rw [if_neg (by decide +kernel)]; exact ⟨rfl, rfl⟩))
    (fun os started H enc _ => letterAnswers_lifted os started H enc)

theorem letterAnswers_holds : Rows.LetterAnswersCardSaid :=
  Claim7.holds_tied_plain_at .later [] _ _ _ _ letterAnswers_said (fun _ h => by cases h) (by kernel_rfl) (fun _ h => by cases h) letterAnswers_row_tie rfl ⟨rfl, rfl⟩ (by kernel_rfl) rfl
    (fun f fn hf hfn => by
      obtain rfl : f = 5 := Option.some.inj ((show Tryd.prog.funcNamed "liaison/liaisonlaw08.LetterAnswers" = some 5 by kernel_rfl).symm.trans hf) |>.symm
      obtain rfl : fn = Tryd.f5 := (Option.some.inj (Tryd.func5.symm.trans hfn)).symm
      exact ⟨by kernel_rfl, stand_ok (P := Tryd.prog) (by kernel_rfl)⟩)
    (by kernel_rfl)
end Go.Proofs.YtfginhckeogafaaDoor

