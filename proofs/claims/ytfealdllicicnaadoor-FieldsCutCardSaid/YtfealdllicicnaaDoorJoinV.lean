/-
  FieldsJoin's WALKS (own work).
-/
import Derived.Test.YtfealdllicicnaaDoorSplV
import Derived.Test.YtfealdllicicnaaDoorFindF
namespace Go.Proofs.YtfealdllicicnaaDoor
open Go.RowKit Go.ChangeShapes Go.WideShapes

theorem joinl_big (ads : List Addr) (a : Option Addr) (cap : Nat) (fs : List (Int × List Int)) (len : Nat) (hlen : fs.length = len) (tag : Int) (w : World) (V : St ads w) (hs : SlQ (.slice a len cap) fs w) (hb : 40 < len ∨ wideQ fs = true) :
    Calls Tryd.prog 3 #[.slice a len cap, .int .i64 tag] w fun e w' => e = .returned (.bool true) ∧ Kp w w' := by
  have HA := Lib.hid (alive_any ads w V)
  have HB : Hid (∀ w1, Kp w w1 → Calls Tryd.prog 10 #[.slice a len cap] w1 fun e w' => e = .returned (.bool true) ∧ Kp w1 w') := Lib.hid fun w1 hk => by
    by_cases h : 40 < len
    · exact big_long a cap len h w1
    · have := big_any a cap fs len hlen (by omega) w1 (hs.kp hk)
      rw [hb.resolve_left h] at this
      exact this
  clear V hs hb hlen
  go_enter Tryd.func3, Tryd.ntmps3
  go_wp2_with (first | (go_at_call 9; (with_reducible refine HA.out.mono ?_); rintro e w1 ⟨rfl, hw1⟩; have K1 := Lib.hid hw1; clear hw1) | (go_at_call 10; (with_reducible refine (HB.out _ K1.out).mono ?_); rintro e w2 ⟨rfl, hw2⟩; have K2 := Lib.hid (Kp.trans K1.out hw2); clear hw2))
  go_ret
  exact ⟨rfl, K2.out⟩

/-- WHAT BOTH Finds ANSWER, told apart. -/
def FindV (fs : List (Int × List Int)) (tag : Int) (ds : List Int) (ok : Bool) : Prop := ∀ e w, FindP fs tag e w → ∃ a c, e = .returned (.tuple #[.slice a ds.length c, .bool ok]) ∧ SlB (.slice a ds.length c) ds w
theorem findV (fs : List (Int × List Int)) (tag : Int) : ∃ ds ok, FindV fs tag ds ok := by
  cases h : (fs.find? fun f => f.1 == tag) with
  | none =>
    refine ⟨[], false, fun e w hp => ?_⟩
    unfold FindP at hp
    rw [h] at hp
    exact ⟨none, 0, hp, .inl ⟨rfl, none, 0, rfl, fun _ => rfl⟩⟩
  | some f =>
    refine ⟨f.2, true, fun e w hp => ?_⟩
    unfold FindP at hp
    rw [h] at hp
    obtain ⟨d, he, a, c, rfl, hs, _⟩ := hp
    exact ⟨a, c, he, hs⟩

theorem wide_le {fs : List (Int × List Int)} (h : ¬ wideQ fs = true) : ∀ f ∈ fs, f.2.length ≤ 400 := by
  intro f hf
  unfold wideQ at h
  rw [List.any_eq_true] at h
  rcases Nat.lt_or_ge 400 f.2.length with g | g
  · exact absurd ⟨f, hf, decide_eq_true g⟩ h
  · exact g

set_option maxRecDepth 20000 in
set_option maxHeartbeats 1000000 in
theorem joinl_bad (ads : List Addr) (a : Option Addr) (cap : Nat) (fs : List (Int × List Int)) (len : Nat) (hlen : fs.length = len) (hl : len ≤ 40) (hw4 : ∀ f ∈ fs, f.2.length ≤ 400) (tag : Int) (w : World) (V : St ads w) (hs : SlQ (.slice a len cap) fs w) (hr : runQ 0 0 fs = false) :
    Calls Tryd.prog 3 #[.slice a len cap, .int .i64 tag] w fun e w' => e = .returned (.bool true) ∧ Kp w w' := by
  have h14 : ads.length = 14 := V.len
  have h3 : 3 < ads.length := by omega
  have hwide : wideQ fs = false := by
    unfold wideQ
    rw [List.any_eq_false]
    intro f hf
    have := hw4 f hf
    simp; omega
  obtain ⟨ds, ok, hfv⟩ := findV fs tag
  have HA := Lib.hid (alive_any ads w V)
  have hbig := fun w1 (hk : Kp w w1) => big_any a cap fs len hlen hl w1 (hs.kp hk)
  simp only [hwide] at hbig
  have HB := Lib.hid hbig
  have HF1 := Lib.hid (fun w1 (hk : Kp w w1) => (find_any a cap fs len hlen (by omega) tag w1 hw4 (hs.kp hk)).mono fun e w' ⟨h1, h2⟩ => And.intro (hfv e w' h1) h2)
  have HF2 := Lib.hid (fun w1 (hk : Kp w w1) => (refFind_any a cap fs len hlen (by omega) tag w1 (hs.kp hk)).mono fun e w' ⟨h1, h2⟩ => And.intro (hfv e w' h1) h2)
  have hj := fun w1 (hk : Kp w w1) => join_err ads h3 a cap fs len hlen (by omega) w1 (V.below hk) (hs.kp hk) hr
  have HR : Hid (∀ w1, Kp w w1 → Calls Tryd.prog 14 #[.slice a len cap] w1 fun e w' => e = .returned (.bool false) ∧ Kp w1 w') := Lib.hid fun w1 hk => by
    by_cases h : 16 < len
    · exact refRight_long a cap len h w1
    · have h2 := refRight_any a cap fs len hlen (by omega) w1 (hs.kp hk)
      rw [runQ_right _ 0 0 (by omega) (by omega), decide_eq_true (show 0 + fs.length ≤ 16 by omega), Bool.true_and] at hr
      rw [hr] at h2
      exact h2
  have hn := fun w1 (hk : Kp w w1) => num_err ads w1 (V.below hk) 3 (by decide) h3
  obtain ⟨ea, hea⟩ : ∃ ea, ads[3]'h3 = ea := ⟨_, rfl⟩
  simp only [hea] at hj hn
  have HJ := Lib.hid hj
  have HN := Lib.hid hn
  obtain ⟨dl, hdl⟩ : ∃ dl, ds.length = dl := ⟨_, rfl⟩
  simp only [hdl] at HF1 HF2
  obtain ⟨D, hD⟩ : ∃ D, strOfNums ds = D := ⟨_, rfl⟩
  have HD := Lib.hid hD
  have q1 : (D.toList == D.toList) = true := by simp
  have q2 : (ok != ok) = false := by simp
  clear V hs h14 hlen hw4 hr hwide hfv hbig hj hn hea hdl hD
  go_enter Tryd.func3, Tryd.ntmps3
  go_wp2_with (first | (go_at_call 9; (with_reducible refine HA.out.mono ?_); rintro e w1 ⟨rfl, hw1⟩; have K1 := Lib.hid hw1; clear hw1) | (go_at_call 10; (with_reducible refine (HB.out _ K1.out).mono ?_); rintro e w2 ⟨rfl, hw2⟩; have K2 := Lib.hid (Kp.trans K1.out hw2); clear hw2) | (go_at_call 11; (with_reducible refine (HF1.out _ K2.out).mono ?_); rintro e w3 ⟨⟨a3, c3, rfl, s3⟩, hw3⟩; have K3 := Lib.hid (Kp.trans K2.out hw3); have S3 := Lib.hid s3; clear hw3 s3) | (go_at_call 12; (with_reducible refine (HF2.out _ K3.out).mono ?_); rintro e w4 ⟨⟨a4, c4, rfl, s4⟩, hw4⟩; have K4 := Lib.hid (Kp.trans K3.out hw4); have cx4 := conv_slb (S3.out.kp hw4); rw [HD.out] at cx4; have cy4 := conv_slb s4; rw [HD.out] at cy4; clear hw4 s4) | (go_at_call 13; (with_reducible refine (HJ.out _ K4.out).mono ?_); rintro e w5 ⟨rfl, hw5⟩; have K5 := Lib.hid (Kp.trans K4.out hw5); clear hw5) | (go_at_call 14; (with_reducible refine (HR.out _ K5.out).mono ?_); rintro e w6 ⟨rfl, hw6⟩; have K6 := Lib.hid (Kp.trans K5.out hw6); clear hw6) | (go_at_call 15; (with_reducible refine (HN.out _ K6.out).mono ?_); rintro e w7 ⟨rfl, hw7⟩; have K7 := Lib.hid (Kp.trans K6.out hw7); clear hw7))
  go_ret
  exact ⟨rfl, K7.out⟩

/-- A RIGHT ROW is split to itself. -/
theorem split_join : ∀ (fs : List (Int × List Int)) (k f : Nat) (last : Int), runQ k last fs = true → (∀ g ∈ fs, 0 ≤ last) → fs.length ≤ f → (∀ g ∈ fs, InB g.2) → splitQ (f + 1) (joinB fs) last k = (0, fs)
  | [], k, f, last, _, _, _, _ => by
    rw [splitQ, if_pos (show (joinB []).length = 0 from rfl)]
  | g :: t, k, f, last, hr, hl, hf, hb => by
    rw [runQ, Bool.and_eq_true, decide_eq_true_eq] at hr
    obtain ⟨⟨h1, h2, h3, h4⟩, hr⟩ := hr
    have hl0 := hl g (by simp)
    obtain ⟨tag, d⟩ := g
    simp only at h2 h3 h4 hr
    have hj : joinB ((tag, d) :: t) = tag :: 0 :: (d.length : Int) :: (d ++ joinB t) := by
      show fieldB (tag, d) ++ joinB t = _
      simp [fieldB]
    rw [hj, splitQ]
    have hgd : (tag :: 0 :: (d.length : Int) :: (d ++ joinB t)).getD 0 0 = tag ∧ (tag :: 0 :: (d.length : Int) :: (d ++ joinB t)).getD 1 0 = 0 ∧ (tag :: 0 :: (d.length : Int) :: (d ++ joinB t)).getD 2 0 = (d.length : Int) := ⟨rfl, rfl, rfl⟩
    rw [hgd.1, hgd.2.1, hgd.2.2]
    have hm : (0 * 256 + (d.length : Int)).toNat = d.length := by omega
    have hd : (tag :: 0 :: (d.length : Int) :: (d ++ joinB t)).drop (3 + d.length) = joinB t := by
      rw [← List.drop_drop]
      show (d ++ joinB t).drop d.length = _
      simp
    have ht : ((tag :: 0 :: (d.length : Int) :: (d ++ joinB t)).drop 3).take d.length = d := by
      show (d ++ joinB t).take d.length = _
      simp
    rw [if_neg (by simp), if_neg (by simp), if_neg (by omega), if_neg (by simp; omega), hm, hd, ht]
    match f, hf with
    | f + 1, hf =>
      rw [split_join t (k + 1) f tag hr (fun _ _ => by omega) (by simpa using hf) (fun g hg => hb g (by simp [hg]))]
end Go.Proofs.YtfealdllicicnaaDoor
