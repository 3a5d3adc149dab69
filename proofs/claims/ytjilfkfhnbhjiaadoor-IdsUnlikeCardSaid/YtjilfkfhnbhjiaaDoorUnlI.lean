/-
  IdsUnlike's WALKS (own work).
-/
import Derived.Test.YtjilfkfhnbhjiaaDoorUnlA
import Derived.Test.YtjilfkfhnbhjiaaDoorUnlB
import Derived.Test.YtjilfkfhnbhjiaaDoorUnlD
namespace Go.Proofs.YtjilfkfhnbhjiaaDoor
open Go.RowKit Go.ChangeShapes Go.WideShapes

theorem cls (n s r : Int) : (regO n s r = none ∧ partO n r = none ∧ actO n s = none) ∨ (regO n s r = none ∧ partO n r = some (partT n.toNat r.toNat) ∧ actO n s = none) ∨
    (regO n s r = none ∧ partO n r = none ∧ actO n s = some (actT n.toNat s.toNat)) ∨ (regO n s r = none ∧ partO n r = some (partT n.toNat r.toNat) ∧ actO n s = some (actT n.toNat s.toNat)) ∨
    (regO n s r = some (regT n.toNat s.toNat r.toNat) ∧ partO n r = some (partT n.toNat r.toNat) ∧ actO n s = some (actT n.toNat s.toNat)) := by
  unfold regO partO actO
  by_cases hA : rightA n s = true
  · have a := hA
    simp only [rightA, decide_eq_true_eq] at a
    have hN : nodeR n = true := decide_eq_true (by omega)
    by_cases hG : regR r = true
    · have g := hG
      simp only [regR, decide_eq_true_eq] at g
      have hP : partR r = true := decide_eq_true (by omega)
      rw [hA, hG, hN, hP]
      exact .inr (.inr (.inr (.inr ⟨rfl, rfl, rfl⟩)))
    · have hG : regR r = false := by simpa using hG
      cases hP : partR r
      · rw [hA, hG, hN]; exact .inr (.inr (.inl ⟨rfl, rfl, rfl⟩))
      · rw [hA, hG, hN]; exact .inr (.inr (.inr (.inl ⟨rfl, rfl, rfl⟩)))
  · have hA : rightA n s = false := by simpa using hA
    rw [hA]
    cases hN : (nodeR n && partR r)
    · exact .inl ⟨rfl, rfl, rfl⟩
    · exact .inr (.inl ⟨rfl, rfl, rfl⟩)
/-- IdsUnlike, whatever the numbers. -/
theorem unlike_any (ads : List Addr) (nn si mm sj r0 r1 : Int) (i1 : I64 nn) (i2 : I64 si) (i3 : I64 mm) (i4 : I64 sj) (i5 : I64 r0) (i6 : I64 r1) (w : World) (V : St ads w) (I : IdsC ads w) :
    Calls Tryd.prog 6 #[.agg #[.int .i64 nn, .int .i64 si], .agg #[.int .i64 mm, .int .i64 sj], .agg #[.int .i64 r0, .int .i64 r1]] w fun e w' => e = .returned (.bool true) ∧ Kp w w' := by
  rcases cls nn si r0 with ⟨x1, x3, x5⟩ | ⟨x1, x3, x5⟩ | ⟨x1, x3, x5⟩ | ⟨x1, x3, x5⟩ | ⟨x1, x3, x5⟩ <;> rcases cls mm sj r1 with ⟨x2, x4, x6⟩ | ⟨x2, x4, x6⟩ | ⟨x2, x4, x6⟩ | ⟨x2, x4, x6⟩ | ⟨x2, x4, x6⟩
  · exact unl_nn_x ads nn si mm sj r0 r1 i1 i2 i3 i4 i5 i6 w V I x1 x2 x3 x4 x5 x6
  · exact unl_np_x ads nn si mm sj r0 r1 i1 i2 i3 i4 i5 i6 w V I x1 x2 x3 x4 x5 x6
  · exact unl_na_x ads nn si mm sj r0 r1 i1 i2 i3 i4 i5 i6 w V I x1 x2 x3 x4 x5 x6
  · exact unl_nb_x ads nn si mm sj r0 r1 i1 i2 i3 i4 i5 i6 w V I x1 x2 x3 x4 x5 x6
  · exact unl_nr_x ads nn si mm sj r0 r1 i1 i2 i3 i4 i5 i6 w V I x1 x2 x3 x4 x5 x6
  · exact unl_pn_x ads nn si mm sj r0 r1 i1 i2 i3 i4 i5 i6 w V I x1 x2 x3 x4 x5 x6
  · by_cases d1 : nn = mm
    · subst d1
      by_cases d3 : r0 = r1
      · subst d3; exact unl_pp_TxT ads nn si sj r0 i1 i2 i4 i5 w V I x1 x2 x3 x5 x6
      · exact unl_pp_TxF ads nn si sj r0 r1 i1 i2 i4 i5 i6 w V I x1 x2 x3 x4 x5 x6 d3
    · exact unl_pp_Fxx ads nn si mm sj r0 r1 i1 i2 i3 i4 i5 i6 w V I x1 x2 x3 x4 x5 x6 d1
  · exact unl_pa_x ads nn si mm sj r0 r1 i1 i2 i3 i4 i5 i6 w V I x1 x2 x3 x4 x5 x6
  · by_cases d1 : nn = mm
    · subst d1
      by_cases d3 : r0 = r1
      · subst d3; exact unl_pb_TxT ads nn si sj r0 i1 i2 i4 i5 w V I x1 x2 x3 x5 x6
      · exact unl_pb_TxF ads nn si sj r0 r1 i1 i2 i4 i5 i6 w V I x1 x2 x3 x4 x5 x6 d3
    · exact unl_pb_Fxx ads nn si mm sj r0 r1 i1 i2 i3 i4 i5 i6 w V I x1 x2 x3 x4 x5 x6 d1
  · by_cases d1 : nn = mm
    · subst d1
      by_cases d3 : r0 = r1
      · subst d3; exact unl_pr_TxT ads nn si sj r0 i1 i2 i4 i5 w V I x1 x2 x3 x5 x6
      · exact unl_pr_TxF ads nn si sj r0 r1 i1 i2 i4 i5 i6 w V I x1 x2 x3 x4 x5 x6 d3
    · exact unl_pr_Fxx ads nn si mm sj r0 r1 i1 i2 i3 i4 i5 i6 w V I x1 x2 x3 x4 x5 x6 d1
  · exact unl_an_x ads nn si mm sj r0 r1 i1 i2 i3 i4 i5 i6 w V I x1 x2 x3 x4 x5 x6
  · exact unl_ap_x ads nn si mm sj r0 r1 i1 i2 i3 i4 i5 i6 w V I x1 x2 x3 x4 x5 x6
  · by_cases d1 : nn = mm
    · subst d1
      by_cases d2 : si = sj
      · subst d2; exact unl_aa_TTx ads nn si r0 r1 i1 i2 i5 i6 w V I x1 x2 x3 x4 x5
      · exact unl_aa_TFx ads nn si sj r0 r1 i1 i2 i4 i5 i6 w V I x1 x2 x3 x4 x5 x6 d2
    · exact unl_aa_Fxx ads nn si mm sj r0 r1 i1 i2 i3 i4 i5 i6 w V I x1 x2 x3 x4 x5 x6 d1
  · by_cases d1 : nn = mm
    · subst d1
      by_cases d2 : si = sj
      · subst d2; exact unl_ab_TTx ads nn si r0 r1 i1 i2 i5 i6 w V I x1 x2 x3 x4 x5
      · exact unl_ab_TFx ads nn si sj r0 r1 i1 i2 i4 i5 i6 w V I x1 x2 x3 x4 x5 x6 d2
    · exact unl_ab_Fxx ads nn si mm sj r0 r1 i1 i2 i3 i4 i5 i6 w V I x1 x2 x3 x4 x5 x6 d1
  · by_cases d1 : nn = mm
    · subst d1
      by_cases d2 : si = sj
      · subst d2; exact unl_ar_TTx ads nn si r0 r1 i1 i2 i5 i6 w V I x1 x2 x3 x4 x5
      · exact unl_ar_TFx ads nn si sj r0 r1 i1 i2 i4 i5 i6 w V I x1 x2 x3 x4 x5 x6 d2
    · exact unl_ar_Fxx ads nn si mm sj r0 r1 i1 i2 i3 i4 i5 i6 w V I x1 x2 x3 x4 x5 x6 d1
  · exact unl_bn_x ads nn si mm sj r0 r1 i1 i2 i3 i4 i5 i6 w V I x1 x2 x3 x4 x5 x6
  · by_cases d1 : nn = mm
    · subst d1
      by_cases d3 : r0 = r1
      · subst d3; exact unl_bp_TxT ads nn si sj r0 i1 i2 i4 i5 w V I x1 x2 x3 x5 x6
      · exact unl_bp_TxF ads nn si sj r0 r1 i1 i2 i4 i5 i6 w V I x1 x2 x3 x4 x5 x6 d3
    · exact unl_bp_Fxx ads nn si mm sj r0 r1 i1 i2 i3 i4 i5 i6 w V I x1 x2 x3 x4 x5 x6 d1
  · by_cases d1 : nn = mm
    · subst d1
      by_cases d2 : si = sj
      · subst d2; exact unl_ba_TTx ads nn si r0 r1 i1 i2 i5 i6 w V I x1 x2 x3 x4 x5
      · exact unl_ba_TFx ads nn si sj r0 r1 i1 i2 i4 i5 i6 w V I x1 x2 x3 x4 x5 x6 d2
    · exact unl_ba_Fxx ads nn si mm sj r0 r1 i1 i2 i3 i4 i5 i6 w V I x1 x2 x3 x4 x5 x6 d1
  · by_cases d1 : nn = mm
    · subst d1
      by_cases d2 : si = sj <;> by_cases d3 : r0 = r1
      · subst d2 d3; exact unl_bb_TTT ads nn si r0 i1 i2 i5 w V I x1 x3 x5
      · subst d2; exact unl_bb_TTF ads nn si r0 r1 i1 i2 i5 i6 w V I x1 x2 x3 x4 x5 d3
      · subst d3; exact unl_bb_TFT ads nn si sj r0 i1 i2 i4 i5 w V I x1 x2 x3 x5 x6 d2
      · exact unl_bb_TFF ads nn si sj r0 r1 i1 i2 i4 i5 i6 w V I x1 x2 x3 x4 x5 x6 d2 d3
    · exact unl_bb_Fxx ads nn si mm sj r0 r1 i1 i2 i3 i4 i5 i6 w V I x1 x2 x3 x4 x5 x6 d1
  · by_cases d1 : nn = mm
    · subst d1
      by_cases d2 : si = sj <;> by_cases d3 : r0 = r1
      · subst d2 d3; exact unl_br_TTT ads nn si r0 i1 i2 i5 w V I x1 x2 x3 x5
      · subst d2; exact unl_br_TTF ads nn si r0 r1 i1 i2 i5 i6 w V I x1 x2 x3 x4 x5 d3
      · subst d3; exact unl_br_TFT ads nn si sj r0 i1 i2 i4 i5 w V I x1 x2 x3 x5 x6 d2
      · exact unl_br_TFF ads nn si sj r0 r1 i1 i2 i4 i5 i6 w V I x1 x2 x3 x4 x5 x6 d2 d3
    · exact unl_br_Fxx ads nn si mm sj r0 r1 i1 i2 i3 i4 i5 i6 w V I x1 x2 x3 x4 x5 x6 d1
  · exact unl_rn_x ads nn si mm sj r0 r1 i1 i2 i3 i4 i5 i6 w V I x1 x2 x3 x4 x5 x6
  · by_cases d1 : nn = mm
    · subst d1
      by_cases d3 : r0 = r1
      · subst d3; exact unl_rp_TxT ads nn si sj r0 i1 i2 i4 i5 w V I x1 x2 x3 x5 x6
      · exact unl_rp_TxF ads nn si sj r0 r1 i1 i2 i4 i5 i6 w V I x1 x2 x3 x4 x5 x6 d3
    · exact unl_rp_Fxx ads nn si mm sj r0 r1 i1 i2 i3 i4 i5 i6 w V I x1 x2 x3 x4 x5 x6 d1
  · by_cases d1 : nn = mm
    · subst d1
      by_cases d2 : si = sj
      · subst d2; exact unl_ra_TTx ads nn si r0 r1 i1 i2 i5 i6 w V I x1 x2 x3 x4 x5
      · exact unl_ra_TFx ads nn si sj r0 r1 i1 i2 i4 i5 i6 w V I x1 x2 x3 x4 x5 x6 d2
    · exact unl_ra_Fxx ads nn si mm sj r0 r1 i1 i2 i3 i4 i5 i6 w V I x1 x2 x3 x4 x5 x6 d1
  · by_cases d1 : nn = mm
    · subst d1
      by_cases d2 : si = sj <;> by_cases d3 : r0 = r1
      · subst d2 d3; exact unl_rb_TTT ads nn si r0 i1 i2 i5 w V I x1 x2 x3 x5
      · subst d2; exact unl_rb_TTF ads nn si r0 r1 i1 i2 i5 i6 w V I x1 x2 x3 x4 x5 d3
      · subst d3; exact unl_rb_TFT ads nn si sj r0 i1 i2 i4 i5 w V I x1 x2 x3 x5 x6 d2
      · exact unl_rb_TFF ads nn si sj r0 r1 i1 i2 i4 i5 i6 w V I x1 x2 x3 x4 x5 x6 d2 d3
    · exact unl_rb_Fxx ads nn si mm sj r0 r1 i1 i2 i3 i4 i5 i6 w V I x1 x2 x3 x4 x5 x6 d1
  · by_cases d1 : nn = mm
    · subst d1
      by_cases d2 : si = sj <;> by_cases d3 : r0 = r1
      · subst d2 d3; exact unl_rr_TTT ads nn si r0 i1 i2 i5 w V I x1 x3 x5
      · subst d2; exact unl_rr_TTF ads nn si r0 r1 i1 i2 i5 i6 w V I x1 x2 x3 x4 x5 d3
      · subst d3; exact unl_rr_TFT ads nn si sj r0 i1 i2 i4 i5 w V I x1 x2 x3 x5 x6 d2
      · exact unl_rr_TFF ads nn si sj r0 r1 i1 i2 i4 i5 i6 w V I x1 x2 x3 x4 x5 x6 d2 d3
    · exact unl_rr_Fxx ads nn si mm sj r0 r1 i1 i2 i3 i4 i5 i6 w V I x1 x2 x3 x4 x5 x6 d1
end Go.Proofs.YtjilfkfhnbhjiaaDoor
