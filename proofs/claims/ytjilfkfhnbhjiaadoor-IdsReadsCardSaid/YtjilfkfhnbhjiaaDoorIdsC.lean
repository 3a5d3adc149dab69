/-
  WHAT PACKAGE ids ANSWERS (own work), as the laws of layer 5 want it; the laws' alive.
-/
import Derived.Test.YtjilfkfhnbhjiaaDoorNumsR
namespace Go.Proofs.YtjilfkfhnbhjiaaDoor
open Go.RowKit Go.ChangeShapes Go.WideShapes

/-- the error of a number (0: none) -/
def errI (ads : List Addr) (k : Int) : Value := if k = 0 then .nilIface else .iface 132 (.pointer (ads[(k - 1).toNat]?))
/-- a text, or ErrRange -/
def textR (ads : List Addr) : Option (List Int) → Value
  | some t => .tuple #[.string (strOfNums t), .nilIface]
  | none => .tuple #[.string ⟨#[]⟩, errI ads 1]
def nodeR (n : Int) : Bool := decide (0 ≤ n ∧ n < 4)
def nodeO (n : Int) : Option (List Int) := if nodeR n = true then some (nodeT n.toNat) else none
def actO (n s : Int) : Option (List Int) := if rightA n s = true then some (actT n.toNat s.toNat) else none
def regR (r : Int) : Bool := decide (0 ≤ r ∧ r < 6)
def partR (p : Int) : Bool := decide (0 ≤ p ∧ p < 8)
def regO (n s r : Int) : Option (List Int) := if (rightA n s && regR r) = true then some (regT n.toNat s.toNat r.toNat) else none
def partO (n p : Int) : Option (List Int) := if (nodeR n && partR p) = true then some (partT n.toNat p.toNat) else none
def nodeP : List Int := [110, 35]
def actP : List Int := [97, 35, 46, 35]
def regP : List Int := [97, 35, 46, 35, 47, 35]
def partP : List Int := [112, 35, 46, 35]
def nodeN (S : List Int) : List Int × Int := numM S nodeP [4]
def actN (S : List Int) : List Int × Int := numM S actP [4, 1000000]
def regN (S : List Int) : List Int × Int := numM S regP [4, 1000000, 6]
def partN (S : List Int) : List Int × Int := numM S partP [4, 8]
/-- a number of an int -/
abbrev I64 (n : Int) : Prop := -9223372036854775808 ≤ n ∧ n ≤ 9223372036854775807

/-- PACKAGE ids' CONTRACTS behind a world. -/
structure IdsC (ads : List Addr) (w : World) : Prop where
  node : ∀ w1, Kp w w1 → ∀ n, I64 n → Calls Tryd.prog 9 #[.int .i64 n] w1 fun e w' => e = .returned (textR ads (nodeO n)) ∧ Kp w1 w'
  act : ∀ w1, Kp w w1 → ∀ n s, I64 n → I64 s → Calls Tryd.prog 10 #[.agg #[.int .i64 n, .int .i64 s]] w1 fun e w' => e = .returned (textR ads (actO n s)) ∧ Kp w1 w'
  reg : ∀ w1, Kp w w1 → ∀ n s r, I64 n → I64 s → I64 r → Calls Tryd.prog 11 #[.agg #[.int .i64 n, .int .i64 s], .int .i64 r] w1 fun e w' => e = .returned (textR ads (regO n s r)) ∧ Kp w1 w'
  part : ∀ w1, Kp w w1 → ∀ n p, I64 n → I64 p → Calls Tryd.prog 12 #[.int .i64 n, .int .i64 p] w1 fun e w' => e = .returned (textR ads (partO n p)) ∧ Kp w1 w'
  right : ∀ w1, Kp w w1 → ∀ n s, I64 n → I64 s → Calls Tryd.prog 17 #[.agg #[.int .i64 n, .int .i64 s]] w1 fun e w' => e = .returned (.bool (rightA n s)) ∧ Kp w1 w'
  toNode : ∀ w1, Kp w w1 → ∀ s : ByteArray, s.size ≤ 200 → Calls Tryd.prog 19 #[.string s] w1 fun e w' => e = .returned (.tuple #[.int .i64 ((nodeN (strB s)).1.getD 0 0), errI ads (nodeN (strB s)).2]) ∧ Kp w1 w'
  toAct : ∀ w1, Kp w w1 → ∀ s : ByteArray, s.size ≤ 200 → Calls Tryd.prog 20 #[.string s] w1 fun e w' => e = .returned (.tuple #[.agg #[.int .i64 ((actN (strB s)).1.getD 0 0), .int .i64 ((actN (strB s)).1.getD 1 0)], errI ads (actN (strB s)).2]) ∧ Kp w1 w'
  toReg : ∀ w1, Kp w w1 → ∀ s : ByteArray, s.size ≤ 200 → Calls Tryd.prog 21 #[.string s] w1 fun e w' => e = .returned (.tuple #[.agg #[.int .i64 ((regN (strB s)).1.getD 0 0), .int .i64 ((regN (strB s)).1.getD 1 0)], .int .i64 ((regN (strB s)).1.getD 2 0), errI ads (regN (strB s)).2]) ∧ Kp w1 w'
  toPart : ∀ w1, Kp w w1 → ∀ s : ByteArray, s.size ≤ 200 → Calls Tryd.prog 22 #[.string s] w1 fun e w' => e = .returned (.tuple #[.int .i64 ((partN (strB s)).1.getD 0 0), .int .i64 ((partN (strB s)).1.getD 1 0), errI ads (partN (strB s)).2]) ∧ Kp w1 w'

theorem IdsC.kp {ads : List Addr} {w w' : World} (h : IdsC ads w) (hk : Kp w w') : IdsC ads w' :=
  ⟨fun w1 k => h.node w1 (Kp.trans hk k), fun w1 k => h.act w1 (Kp.trans hk k), fun w1 k => h.reg w1 (Kp.trans hk k), fun w1 k => h.part w1 (Kp.trans hk k), fun w1 k => h.right w1 (Kp.trans hk k),
   fun w1 k => h.toNode w1 (Kp.trans hk k), fun w1 k => h.toAct w1 (Kp.trans hk k), fun w1 k => h.toReg w1 (Kp.trans hk k), fun w1 k => h.toPart w1 (Kp.trans hk k)⟩

/-- Num of such an error -/
theorem num_errI (ads : List Addr) (w : World) (V : St ads w) (k : Int) (hk : k = 0 ∨ k = 1 ∨ k = 4) :
    Calls Tryd.prog 24 #[errI ads k] w fun e w' => e = .returned (.int .i64 k) ∧ Kp w w' := by
  have h14 : ads.length = 14 := V.len
  rcases hk with rfl | rfl | rfl
  · refine (num_nil w).mono ?_
    rintro e w' ⟨h, rfl⟩
    exact ⟨h, Kp.refl _⟩
  · have h := num_err ads w V 0 (by decide) (by omega)
    have e : errI ads 1 = .iface 132 (.pointer (some ads[0])) := by
      unfold errI
      rw [if_neg (by decide), show ((1 : Int) - 1).toNat = 0 from rfl, List.getElem?_eq_getElem (by omega)]
    rw [e]
    exact h
  · have h := num_err ads w V 3 (by decide) (by omega)
    have e : errI ads 4 = .iface 132 (.pointer (some ads[3])) := by
      unfold errI
      rw [if_neg (by decide), show ((4 : Int) - 1).toNat = 3 from rfl, List.getElem?_eq_getElem (by omega)]
    rw [e]
    exact h
theorem numM_three (S P lims : List Int) : (numM S P lims).2 = 0 ∨ (numM S P lims).2 = 1 ∨ (numM S P lims).2 = 4 := by
  unfold numM
  split
  · exact .inr (.inr rfl)
  · split
    · split
      · exact .inl rfl
      · exact .inr (.inl rfl)
    · exact .inr (.inr rfl)

set_option maxRecDepth 20000 in
theorem alive_any (ads : List Addr) (w : World) (V : St ads w) (I : IdsC ads w) : Calls Tryd.prog 7 #[] w fun e w' => e = .returned (.bool true) ∧ Kp w w' := by
  have HA := I.act w (Kp.refl _) 2 17 (by decide) (by decide)
  have e1 : textR ads (actO 2 17) = .tuple #[.string ⟨#[97, 50, 46, 49, 55]⟩, .nilIface] := by
    have : actO 2 17 = some [97, 50, 46, 49, 55] := by decide
    rw [this]
    rfl
  rw [e1] at HA
  have HA := Lib.hid HA
  have HT := fun w1 (hk : Kp w w1) => I.toNode w1 hk ⟨#[110, 52]⟩ (by decide)
  have e2 : nodeN (strB ⟨#[110, 52]⟩) = ([], 1) := by decide
  simp only [e2] at HT
  have HT := Lib.hid HT
  have HN := Lib.hid (fun w1 (hk : Kp w w1) => num_errI ads w1 (V.below hk) 1 (.inr (.inl rfl)))
  obtain ⟨er, her⟩ : ∃ e, errI ads 1 = e := ⟨_, rfl⟩
  rw [her] at HT HN
  clear V I her e1 e2
  go_enter Tryd.func7, Tryd.ntmps7
  go_wp2_with (first | (go_at_call 10; (with_reducible refine HA.out.mono ?_); rintro e w1 ⟨rfl, hk1⟩; have K1 := Lib.hid hk1; clear hk1) | (go_at_call 19; (with_reducible refine (HT.out _ K1.out).mono ?_); rintro e w2 ⟨rfl, hk2⟩; have K2 := Lib.hid (Kp.trans K1.out hk2); clear hk2) | (go_at_call 24; (with_reducible refine (HN.out _ K2.out).mono ?_); rintro e w3 ⟨rfl, hk3⟩; have K3 := Lib.hid (Kp.trans K2.out hk3); clear hk3))
  go_ret
  exact ⟨rfl, K3.out⟩
end Go.Proofs.YtjilfkfhnbhjiaaDoor
