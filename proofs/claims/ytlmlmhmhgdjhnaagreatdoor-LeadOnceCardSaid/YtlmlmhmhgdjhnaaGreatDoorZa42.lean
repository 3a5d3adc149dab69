/-
 LeadOnce: for every node, every list of facts, every message and every time, what a coordinator is told twice changes nothing the second time, and lets the application do nothing. Condition: package api's errors and strconv's table of powers hold what their declarations lay.
-/
import Derived.Test.YtlmlmhmhgdjhnaaGreatDoorZa39
import Derived.Test.YtlmlmhmhgdjhnaaGreatDoorCards
import Derived.Test.YtlmlmhmhgdjhnaaGreatDoorTie
import Derived.Lay
set_option maxRecDepth 100000
set_option maxHeartbeats 40000000
namespace Go.Proofs.YtlmlmhmhgdjhnaaGreatDoor
open Go.RowKit
theorem leadOnce_walk (node : Int) (v : Value) (list : List FX) (mk mf mt mn ms mr mp mo mc : Int) (now : Nat) (W : World) (_kn : -9223372036854775808 ≤ node ∧ node ≤ 9223372036854775807) (k1 : SlFc v list W) (_k2 : list.length ≤ maxLen) (kx : now < 18446744073709551616) (hL : laidMetH Tryz.prog Rows.leadOnceRow.laid W) :
  Calls Tryz.prog 5 #[.int .i64 node, v, .agg #[mk, mf, mt, mn, ms, mr, mp, mo, mc, now]] W fun e w' => e = .returned (.bool true) ∧ Below W.heap.size W w' := by
 obtain ⟨⟨ads, V⟩, T⟩ := st_tab_of (l := Rows.leadOnceRow.laid) (by kernel_rfl) (by kernel_rfl) (by kernel_rfl) hL; have C := facC_of ads W V T; have E : EP [0, 3, 4, 8, 13] ads W := ep_of_st V (by decide); have Q := leaC_of ads W V T; exact once17_any V C E Q node v list k1 mk mf mt mn ms mr mp mo mc now kx
open Go.ChangeShapes Go.WideShapes Go.ChangeAt Go.WideMaps Go.WideElems Go.RowKit
theorem leadOnce_lifted (os : Os) (started : os.Started) (H : Type) (enc : TypeId × Value → H) :
  ReturnsInHanded {} Tryz.checked os 5 .any (fun w args => (Rows.leadOnceSpec.pre enc Tryz.prog Tryz.f5 [] false w args ∧ laidMetH Tryz.prog Rows.leadOnceRow.laid w) ∧ sizedMet enc Tryz.prog Tryz.f5 (OpenSpec.ofChange Rows.leadOnceSpec) false w args)
   (Rows.leadOnceSpec.post enc Tryz.prog Tryz.f5 false true false false) := by
 refine returnsInHanded_of_change_and (C := Tryz.checked) (X := fun w _ => laidMetH Tryz.prog Rows.leadOnceRow.laid w) (fun _ _ _ hh h => h.of_heap hh) own started (by kernel_rfl) Tryz.func5
  (ChangeSpec.witness_shaped (enc := enc) (C := Tryz.checked) (os := os) (X := fun w _ => laidMetH Tryz.prog Rows.leadOnceRow.laid w) false (World.laidAll Tryz.prog os Rows.leadOnceRow.laid) #[.int .i64 0, .slice none 0 0, .agg #[(0:Int), (0:Int), (0:Int), (0:Int), (0:Int), (0:Int), (0:Int), (0:Int), (0:Int), .float .f64 0]] 8 (World.laidAll_os _ _ _) (World.shaped_of_ZipB (by kernel_rfl) (by kernel_rfl)) (by kernel_rfl) (by kernel_rfl) (by kernel_rfl) (by rw [MakeChecks.laidMetH_plain _ _ _ (by kernel_rfl)]; exact laidMet_laidAll _ (by kernel_rfl) (by kernel_rfl))) ?_
 intro W base args ds gs before hval0 hW _ hsz hL _; have hval : ∀ (j : Nat) t v, Tryz.f5.params[j]? = some t → args[j]? = some v → Value.okWide Tryz.prog W .any base t v := hval0; have hW' := hW; obtain ⟨p, q, hA0, hV, rfl, hfz, hnd⟩ := hW; have hA : DataW.TrodAll enc Tryz.prog W 0 (fun _ => true) true Tryz.f5.params.toList args.toList ds p := hA0; rw [Tryz.params5] at hA hval; obtain ⟨v0, vs0, d0, ds0, p0, q0, e0, rfl, rfl, h0, r0⟩ := trodAll_cons hA; obtain ⟨v1, vs1, d1, ds1, p1, q1, e1, rfl, rfl, h1, r1⟩ := trodAll_cons r0; obtain ⟨v2, vs2, d2, ds2, p2, q2, e2, rfl, rfl, h2, r2⟩ := trodAll_cons r1; obtain ⟨rfl, rfl, rfl⟩ := trodAll_nil r2; obtain rfl : args = #[v0, v1, v2] := by cases args; simp_all
 obtain ⟨rfl, rfl⟩ := trodVars_none hV; obtain ⟨node, rfl, rfl, rfl, hnode⟩ := open_int Tryz.underlying3 (hval 0 3 v0 rfl rfl) h0; obtain ⟨list, klista, klistb⟩ := open_fcts (hval 1 22 v1 rfl rfl) h1; obtain ⟨x0, x1, x2, x3, x4, x5, x6, x7, x8, x9, rfl, kx⟩ := open_at17 (hval 2 82 v2 rfl rfl) h2; clear hA0 hval0; have knode : -9223372036854775808 ≤ node ∧ node ≤ 9223372036854775807 := by simpa [Lit.wf, IntKind.min, IntKind.max, IntKind.bits, IntKind.signed] using hnode
 refine (leadOnce_walk node v1 list x0 x1 x2 x3 x4 x5 x6 x7 x8 x9 W knode klista klistb kx hL).mono fun e W' ⟨he, hw⟩ => ?_
 subst he; exact ⟨_, rfl, law_post laidOut hW' rfl rfl rfl Tryz.underlying4 (par_ok (by kernel_rfl)) hw⟩
theorem leadOnce_said : Rows.LeadOnceSaid :=
 OpenClaim.holds_of_wide 5 Tryz.f5 rfl rfl rfl rfl rfl rfl rfl ⟨rfl, rfl, rfl, rfl, rfl⟩ rfl rfl rfl rfl rfl (by kernel_rfl) Tryz.func5 (by kernel_rfl)
  (of_decide_eq_true (by kernel_rfl)) (by unfold Func.isWrapper; first | (rw [if_pos (by decide +kernel)]; kernel_rfl) | (rw [if_neg (by decide +kernel)]; exact ⟨rfl, rfl⟩))
  (fun os started H enc _ => leadOnce_lifted os started H enc)
theorem leadOnce_holds : Rows.LeadOnceCardSaid :=
 Claim7.holds_tied_plain_at .later [] _ _ _ _ leadOnce_said (fun _ h => by cases h) (by kernel_rfl) (fun _ h => by cases h) leadOnce_row_tie rfl ⟨rfl, rfl⟩ (by kernel_rfl) rfl
  (fun f fn hf hfn => by
   obtain rfl : f = 5 := Option.some.inj ((show Tryz.prog.funcNamed "liaison/liaisonlaw17.LeadOnce" = some 5 by kernel_rfl).symm.trans hf) |>.symm
   obtain rfl : fn = Tryz.f5 := (Option.some.inj (Tryz.func5.symm.trans hfn)).symm; exact ⟨by kernel_rfl, stand_ok (P := Tryz.prog) (by kernel_rfl)⟩)
  (by kernel_rfl)
end Go.Proofs.YtlmlmhmhgdjhnaaGreatDoor
