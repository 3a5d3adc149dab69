/-
  FieldsCut's WALKS (own work): rows more than are asked, wrong rows.
-/
import Derived.Test.YtfealdllicicnaaDoorCutL
namespace Go.Proofs.YtfealdllicicnaaDoor
open Go.RowKit Go.ChangeShapes Go.WideShapes

def bigV (fs : List (Int × List Int)) : Bool := decide (40 < fs.length) || wideQ fs
theorem big_of (a : Option Addr) (cap : Nat) (fs : List (Int × List Int)) (len : Nat) (hlen : fs.length = len) (w : World) (hs : SlQ (.slice a len cap) fs w) :
    Calls Tryd.prog 10 #[.slice a len cap] w fun e w' => e = .returned (.bool (bigV fs)) ∧ Kp w w' := by
  unfold bigV
  by_cases h : 40 < len
  · rw [hlen, decide_eq_true h, Bool.true_or]
    exact big_long a cap len h w
  · rw [hlen, decide_eq_false h, Bool.false_or]
    exact big_any a cap fs len hlen (by omega) w hs

theorem cut_big (ads : List Addr) (aa : Option Addr) (ca : Nat) (fa : List (Int × List Int)) (la : Nat) (hla : fa.length = la) (ab : Option Addr) (cb : Nat) (fb : List (Int × List Int)) (lb : Nat) (hlb : fb.length = lb) (cut : Int) (w : World) (V : St ads w) (qa : SlQ (.slice aa la ca) fa w) (qb : SlQ (.slice ab lb cb) fb w) (hb : bigV fa = true ∨ bigV fb = true) : Calls Tryd.prog 7 #[.slice aa la ca, .slice ab lb cb, .int .i64 cut] w fun e w' => e = .returned (.bool true) ∧ Kp w w' := by
  have HA := Lib.hid (alive_any ads w V)
  have h1 := fun w1 (hk : Kp w w1) => big_of aa ca fa la hla w1 (qa.kp hk)
  have h2 := fun w1 (hk : Kp w w1) => big_of ab cb fb lb hlb w1 (qb.kp hk)
  cases hx : bigV fa with
  | true =>
    simp only [hx] at h1
    have HB1 := Lib.hid h1
    clear h1 h2 V qa qb hx hb hla hlb
    go_enter Tryd.func7, Tryd.ntmps7
    go_wp2_with (first | (go_at_call 9; (with_reducible refine HA.out.mono ?_); rintro e w1 ⟨rfl, hw1⟩; have K1 := Lib.hid hw1; clear hw1) | (go_at_call 10; (with_reducible refine (HB1.out _ K1.out).mono ?_); rintro e w2 ⟨rfl, hw2⟩; have K2 := Lib.hid (Kp.trans K1.out hw2); clear hw2))
    go_ret
    exact ⟨rfl, K2.out⟩
  | false =>
    have hy : bigV fb = true := hb.resolve_left (by rw [hx]; decide)
    simp only [hx] at h1
    simp only [hy] at h2
    have HB1 := Lib.hid h1
    have HB2 := Lib.hid h2
    clear h1 h2 V qa qb hx hy hb hla hlb
    go_enter Tryd.func7, Tryd.ntmps7
    go_wp2_with (first | (go_at_call 9; (with_reducible refine HA.out.mono ?_); rintro e w1 ⟨rfl, hw1⟩; have K1 := Lib.hid hw1; clear hw1) | (go_at_call 10; (with_reducible refine (HB1.out _ K1.out).mono ?_); rintro e w2 ⟨rfl, hw2⟩; have K2 := Lib.hid (Kp.trans K1.out hw2); clear hw2) | (go_at_call 10; (with_reducible refine (HB2.out _ K2.out).mono ?_); rintro e w3 ⟨rfl, hw3⟩; have K3 := Lib.hid (Kp.trans K2.out hw3); clear hw3))
    go_ret
    exact ⟨rfl, K3.out⟩

theorem cut_bad (ads : List Addr) (aa : Option Addr) (ca : Nat) (fa : List (Int × List Int)) (la : Nat) (hla : fa.length = la) (ab : Option Addr) (cb : Nat) (fb : List (Int × List Int)) (lb : Nat) (hlb : fb.length = lb) (cut : Int) (w : World) (V : St ads w) (qa : SlQ (.slice aa la ca) fa w) (qb : SlQ (.slice ab lb cb) fb w) (hba : bigV fa = false) (hbb : bigV fb = false) (hr : runQ 0 0 fa = false ∨ runQ 0 0 fb = false) : Calls Tryd.prog 7 #[.slice aa la ca, .slice ab lb cb, .int .i64 cut] w fun e w' => e = .returned (.bool true) ∧ Kp w w' := by
  have h14 : ads.length = 14 := V.len
  have h3 : 3 < ads.length := by omega
  have la4 : la ≤ 40 := by unfold bigV at hba; simp at hba; omega
  have lb4 : lb ≤ 40 := by unfold bigV at hbb; simp at hbb; omega
  have HA := Lib.hid (alive_any ads w V)
  have h1 := fun w1 (hk : Kp w w1) => big_of aa ca fa la hla w1 (qa.kp hk)
  have h2 := fun w1 (hk : Kp w w1) => big_of ab cb fb lb hlb w1 (qb.kp hk)
  simp only [hba] at h1
  simp only [hbb] at h2
  have HB1 := Lib.hid h1
  have HB2 := Lib.hid h2
  have je := fun w1 (hk : Kp w w1) => join_err ads h3 aa ca fa la hla (by omega) w1 (V.below hk) (qa.kp hk)
  have ke := fun w1 (hk : Kp w w1) => join_err ads h3 ab cb fb lb hlb (by omega) w1 (V.below hk) (qb.kp hk)
  have jo := fun w1 (hk : Kp w w1) => join_ok ads aa ca fa la hla (by omega) w1 (V.below hk) (qa.kp hk)
  have ko := fun w1 (hk : Kp w w1) => join_ok ads ab cb fb lb hlb (by omega) w1 (V.below hk) (qb.kp hk)
  obtain ⟨ea, hea⟩ : ∃ ea, ads[3]'h3 = ea := ⟨_, rfl⟩
  simp only [hea] at je ke
  cases hx : runQ 0 0 fa with
  | false =>
    have HJ := Lib.hid (fun w1 hk => je w1 hk hx)
    have HK : Hid (∀ w1, Kp w w1 → Calls Tryd.prog 13 #[.slice ab lb cb] w1 fun e w' => ∃ v E, e = .returned (.tuple #[v, E]) ∧ Kp w1 w') := Lib.hid fun w1 hk => by
      cases hy : runQ 0 0 fb with
      | true => exact (ko w1 hk hy).mono fun e w' ⟨v, h1, _, h2⟩ => ⟨_, _, h1, h2⟩
      | false => exact (ke w1 hk hy).mono fun e w' ⟨h1, h2⟩ => ⟨_, _, h1, h2⟩
    clear h1 h2 V qa qb hba hbb hr hla hlb je ke jo ko hx h14 hea la4 lb4
    go_enter Tryd.func7, Tryd.ntmps7
    go_wp2_with (first | (go_at_call 9; (with_reducible refine HA.out.mono ?_); rintro e w1 ⟨rfl, hw1⟩; have K1 := Lib.hid hw1; clear hw1) | (go_at_call 10; (with_reducible refine (HB1.out _ K1.out).mono ?_); rintro e w2 ⟨rfl, hw2⟩; have K2 := Lib.hid (Kp.trans K1.out hw2); clear hw2) | (go_at_call 10; (with_reducible refine (HB2.out _ K2.out).mono ?_); rintro e w3 ⟨rfl, hw3⟩; have K3 := Lib.hid (Kp.trans K2.out hw3); clear hw3) | (go_at_call 13; (with_reducible refine (HJ.out _ K3.out).mono ?_); rintro e w4 ⟨rfl, hw4⟩; have K4 := Lib.hid (Kp.trans K3.out hw4); clear hw4) | (go_at_call 13; (with_reducible refine (HK.out _ K4.out).mono ?_); rintro e w5 ⟨v5, E5, rfl, hw5⟩; have K5 := Lib.hid (Kp.trans K4.out hw5); clear hw5))
    go_ret
    exact ⟨rfl, K5.out⟩
  | true =>
    have hy : runQ 0 0 fb = false := hr.resolve_left (by rw [hx]; decide)
    have HJ : Hid (∀ w1, Kp w w1 → Calls Tryd.prog 13 #[.slice aa la ca] w1 fun e w' => ∃ v, e = .returned (.tuple #[v, .nilIface]) ∧ Kp w1 w') := Lib.hid fun w1 hk => (jo w1 hk hx).mono fun e w' ⟨v, h1, _, h2⟩ => ⟨_, h1, h2⟩
    have HK := Lib.hid (fun w1 hk => ke w1 hk hy)
    clear h1 h2 V qa qb hba hbb hr hla hlb je ke jo ko hx hy h14 hea la4 lb4
    go_enter Tryd.func7, Tryd.ntmps7
    go_wp2_with (first | (go_at_call 9; (with_reducible refine HA.out.mono ?_); rintro e w1 ⟨rfl, hw1⟩; have K1 := Lib.hid hw1; clear hw1) | (go_at_call 10; (with_reducible refine (HB1.out _ K1.out).mono ?_); rintro e w2 ⟨rfl, hw2⟩; have K2 := Lib.hid (Kp.trans K1.out hw2); clear hw2) | (go_at_call 10; (with_reducible refine (HB2.out _ K2.out).mono ?_); rintro e w3 ⟨rfl, hw3⟩; have K3 := Lib.hid (Kp.trans K2.out hw3); clear hw3) | (go_at_call 13; (with_reducible refine (HJ.out _ K3.out).mono ?_); rintro e w4 ⟨v4, rfl, hw4⟩; have K4 := Lib.hid (Kp.trans K3.out hw4); clear hw4) | (go_at_call 13; (with_reducible refine (HK.out _ K4.out).mono ?_); rintro e w5 ⟨rfl, hw5⟩; have K5 := Lib.hid (Kp.trans K4.out hw5); clear hw5))
    go_ret
    exact ⟨rfl, K5.out⟩

theorem own_pos {w : World} {base : Nat} {e : TypeId} {n : Nat} {v : Value} {xs : List Value} (h : w.ownsRow base e 1 v n xs) (hn : 0 < n) : ∃ g c, v = .slice (some ⟨g, 0, none⟩) n c ∧ n ≤ c := by
  obtain ⟨h1, h2⟩ := h
  rcases h2 with ⟨rfl, hx⟩ | ⟨g, cap, cur, rfl, _, _, hc, _⟩
  · omega
  · exact ⟨_, cap, rfl, hc⟩
theorem joinB_zero {fs : List (Int × List Int)} : (joinB fs).length = 0 ↔ fs.length = 0 := by
  cases fs with
  | nil => simp [joinB]
  | cons g t => rw [joinB_cons]; simp
theorem cut_key (n : Int) (m : Nat) (hm : 0 < m) (h5 : m ≤ 5000) : ∃ D : Nat, D < m ∧ wrap64 ((IntKind.u64.wrap n).tmod m) = (D : Int) := by
  have h1 : 0 ≤ IntKind.u64.wrap n := by unfold IntKind.wrap; simp [IntKind.bits, IntKind.signed]; omega
  have h2 : (IntKind.u64.wrap n).tmod m = IntKind.u64.wrap n % m := Int.tmod_eq_emod_of_nonneg h1
  rw [h2]
  have h3 := Int.emod_nonneg (IntKind.u64.wrap n) (show (m : Int) ≠ 0 by omega)
  have h4 := Int.emod_lt_of_pos (IntKind.u64.wrap n) (show (0 : Int) < m by omega)
  refine ⟨(IntKind.u64.wrap n % m).toNat, by omega, ?_⟩
  unfold wrap64
  omega
end Go.Proofs.YtfealdllicicnaaDoor
