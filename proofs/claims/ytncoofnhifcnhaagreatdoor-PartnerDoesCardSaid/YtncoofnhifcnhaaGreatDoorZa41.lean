/-
 PartnerDoes: for every node, every list of facts and every two numbers, a participant does and sends again as the document says, and the facts of it fit. Condition: package api's errors and strconv's table of powers hold what their declarations lay.
-/
import Derived.Test.YtncoofnhifcnhaaGreatDoorZa40
import Derived.Test.YtncoofnhifcnhaaGreatDoorCards
import Derived.Test.YtncoofnhifcnhaaGreatDoorTie
import Derived.Lay
set_option maxRecDepth 100000
set_option maxHeartbeats 40000000
namespace Go.Proofs.YtncoofnhifcnhaaGreatDoor
open Go.RowKit
theorem partnerDoes_walk (node : Int) (v : Value) (list : List FX) (i k : Int) (W : World) (_kn : -9223372036854775808 ≤ node ∧ node ≤ 9223372036854775807) (k1 : SlFc v list W) (_k2 : list.length ≤ maxLen) (_ki : -9223372036854775808 ≤ i ∧ i ≤ 9223372036854775807) (kk : -9223372036854775808 ≤ k ∧ k ≤ 9223372036854775807) (hL : laidMetH Tryz.prog Rows.partnerDoesRow.laid W) :
  Calls Tryz.prog 4 #[.int .i64 node, v, .agg #[i, k]] W fun e w' => e = .returned (.bool true) ∧ Below W.heap.size W w' := by
 obtain ⟨⟨ads, V⟩, T⟩ := st_tab_of (l := Rows.partnerDoesRow.laid) (by kernel_rfl) (by kernel_rfl) (by kernel_rfl) hL; have C := facC_of ads W V T; have E : EP [0, 3, 4, 8, 13] ads W := ep_of_st V (by decide); have Q := parC_of ads W V T; exact does16_any V C E Q node v list k1 i k kk
open Go.ChangeShapes Go.WideShapes Go.ChangeAt Go.WideMaps Go.WideElems Go.RowKit
theorem partnerDoes_lifted (os : Os) (started : os.Started) (H : Type) (enc : TypeId × Value → H) :
  ReturnsInHanded {} Tryz.checked os 4 .any (fun w args => (Rows.partnerDoesSpec.pre enc Tryz.prog Tryz.f4 [] false w args ∧ laidMetH Tryz.prog Rows.partnerDoesRow.laid w) ∧ sizedMet enc Tryz.prog Tryz.f4 (OpenSpec.ofChange Rows.partnerDoesSpec) false w args)
   (Rows.partnerDoesSpec.post enc Tryz.prog Tryz.f4 false true false false) := by
 refine returnsInHanded_of_change_and (C := Tryz.checked) (X := fun w _ => laidMetH Tryz.prog Rows.partnerDoesRow.laid w) (fun _ _ _ hh h => h.of_heap hh) own started (by kernel_rfl) Tryz.func4
  (ChangeSpec.witness_shaped (enc := enc) (C := Tryz.checked) (os := os) (X := fun w _ => laidMetH Tryz.prog Rows.partnerDoesRow.laid w) false (World.laidAll Tryz.prog os Rows.partnerDoesRow.laid) #[.int .i64 0, .slice none 0 0, .agg #[(0:Int), (0:Int)]] 8 (World.laidAll_os _ _ _) (World.shaped_of_ZipB (by kernel_rfl) (by kernel_rfl)) (by kernel_rfl) (by kernel_rfl) (by kernel_rfl) (by rw [MakeChecks.laidMetH_plain _ _ _ (by kernel_rfl)]; exact laidMet_laidAll _ (by kernel_rfl) (by kernel_rfl))) ?_
 intro W base args ds gs before hval0 hW _ hsz hL _; have hval : ∀ (j : Nat) t v, Tryz.f4.params[j]? = some t → args[j]? = some v → Value.okWide Tryz.prog W .any base t v := hval0; have hW' := hW; obtain ⟨p, q, hA0, hV, rfl, hfz, hnd⟩ := hW; have hA : DataW.TrodAll enc Tryz.prog W 0 (fun _ => true) true Tryz.f4.params.toList args.toList ds p := hA0; rw [Tryz.params4] at hA hval; obtain ⟨v0, vs0, d0, ds0, p0, q0, e0, rfl, rfl, h0, r0⟩ := trodAll_cons hA; obtain ⟨v1, vs1, d1, ds1, p1, q1, e1, rfl, rfl, h1, r1⟩ := trodAll_cons r0; obtain ⟨v2, vs2, d2, ds2, p2, q2, e2, rfl, rfl, h2, r2⟩ := trodAll_cons r1; obtain ⟨rfl, rfl, rfl⟩ := trodAll_nil r2; obtain rfl : args = #[v0, v1, v2] := by cases args; simp_all
 obtain ⟨rfl, rfl⟩ := trodVars_none hV; obtain ⟨node, rfl, rfl, rfl, hnode⟩ := open_int Tryz.underlying3 (hval 0 3 v0 rfl rfl) h0; obtain ⟨list, klista, klistb⟩ := open_fcts (hval 1 22 v1 rfl rfl) h1; obtain ⟨two0, two1, rfl, _, _, htwo0, htwo1⟩ := open_pair (e := 3) (q := .i64) ⟨Tryz.underlying46, by kernel_rfl, by kernel_rfl, by kernel_rfl⟩ Tryz.underlying3 (hval 2 46 v2 rfl rfl) h2; clear hA0 hval0; have knode : -9223372036854775808 ≤ node ∧ node ≤ 9223372036854775807 := by simpa [Lit.wf, IntKind.min, IntKind.max, IntKind.bits, IntKind.signed] using hnode
 have ktwo0 : -9223372036854775808 ≤ two0 ∧ two0 ≤ 9223372036854775807 := by simpa [Lit.wf, IntKind.min, IntKind.max, IntKind.bits, IntKind.signed] using htwo0
 have ktwo1 : -9223372036854775808 ≤ two1 ∧ two1 ≤ 9223372036854775807 := by simpa [Lit.wf, IntKind.min, IntKind.max, IntKind.bits, IntKind.signed] using htwo1
 refine (partnerDoes_walk node v1 list two0 two1 W knode klista klistb ktwo0 ktwo1 hL).mono fun e W' ⟨he, hw⟩ => ?_
 subst he; exact ⟨_, rfl, law_post laidOut hW' rfl rfl rfl Tryz.underlying4 (par_ok (by kernel_rfl)) hw⟩
theorem partnerDoes_said : Rows.PartnerDoesSaid :=
 OpenClaim.holds_of_wide 4 Tryz.f4 rfl rfl rfl rfl rfl rfl rfl ⟨rfl, rfl, rfl, rfl, rfl⟩ rfl rfl rfl rfl rfl (by kernel_rfl) Tryz.func4 (by kernel_rfl)
  (of_decide_eq_true (by kernel_rfl)) (by unfold Func.isWrapper; first | (rw [if_pos (by decide +kernel)]; kernel_rfl) | (rw [if_neg (by decide +kernel)]; exact ⟨rfl, rfl⟩))
  (fun os started H enc _ => partnerDoes_lifted os started H enc)
theorem partnerDoes_holds : Rows.PartnerDoesCardSaid :=
 Claim7.holds_tied_plain_at .later [] _ _ _ _ partnerDoes_said (fun _ h => by cases h) (by kernel_rfl) (fun _ h => by cases h) partnerDoes_row_tie rfl ⟨rfl, rfl⟩ (by kernel_rfl) rfl
  (fun f fn hf hfn => by
   obtain rfl : f = 4 := Option.some.inj ((show Tryz.prog.funcNamed "liaison/liaisonlaw16.PartnerDoes" = some 4 by kernel_rfl).symm.trans hf) |>.symm
   obtain rfl : fn = Tryz.f4 := (Option.some.inj (Tryz.func4.symm.trans hfn)).symm; exact ⟨by kernel_rfl, stand_ok (P := Tryz.prog) (by kernel_rfl)⟩)
  (by kernel_rfl)
end Go.Proofs.YtncoofnhifcnhaaGreatDoor
