/-
  bytes.Clone (own work).
-/
import Derived.Test.YtjffkfcokgcenaaDoorAppB
import Derived.Laws.Bits64b
import Derived.Lib.SliceRun
namespace Go.Proofs.YtjffkfcokgcenaaDoor
open Go.RowKit Go.ChangeShapes Go.WideShapes

set_option maxRecDepth 20000 in
theorem clone_nil (w : World) : Calls Tryd.prog 45 #[.slice none 0 0] w fun e w' => e = .returned (.slice none 0 0) ∧ w = w' := by
  have hq : (binOp .eql 33 (.slice none 0 0) (.slice none 0 0)).run Tryd.prog w = .ok (.bool true) w := by
    rw [run_eql_nil_slice w 33 5 none 0 0 0 0 Tryd.underlying33]; rfl
  go_enter Tryd.func45, Tryd.ntmps45
  go_wp2
  go_ret
  exact ⟨rfl, rfl⟩

set_option maxRecDepth 20000 in
theorem clone_any (v : Value) (bs : List Int) (hl : bs.length ≤ 1000000) (w : World) (hs : SlB v bs w) :
    Calls Tryd.prog 45 #[v] w fun e w' => ∃ v', e = .returned v' ∧ w'.ownsRow w.heap.size 5 1 v' bs.length (bs.map (Value.int .u8)) ∧ Kp w w' := by
  obtain ⟨a, cap, rfl⟩ := hs.form
  cases a with
  | none =>
    obtain ⟨h0, rfl⟩ := hs.app.1 rfl
    have hbs : bs = [] := List.length_eq_zero_iff.1 h0
    subst hbs
    refine (clone_nil w).mono ?_
    rintro e w' ⟨rfl, rfl⟩
    exact ⟨_, rfl, ⟨by simp, .inl ⟨rfl, rfl⟩⟩, Kp.refl _⟩
  | some ad =>
    obtain ⟨len, hlen⟩ : ∃ n, bs.length = n := ⟨_, rfl⟩
    rw [hlen] at hs hl ⊢
    have OW0 := Lib.hid (own_empty w 5)
    have HS0 := Lib.hid (hs.kp (kp_alloc w (.cells #[] 5)))
    have K0 := Lib.hid (kp_alloc w (.cells #[] 5))
    have hq : (binOp .eql 33 (.slice (some ad) len cap) (.slice none 0 0)).run Tryd.prog w = .ok (.bool false) w := by
      rw [Lib.run_eql_slice_nil w 33 5 (some ad) len cap 0 0 Tryd.underlying33]; rfl
    clear hs
    go_enter Tryd.func45, Tryd.ntmps45
    go_wp2_with (at_builtin; refine wpList_append_slb _ rfl (.tmp 5) (.tmp 6) rfl w.heap.size _ _ _ rfl OW0.out (some ad) len cap bs rfl HS0.out ?d1 ?d2 ?_)
    case d1 => omega
    case d2 => exact Below.size K0.out
    rintro v5 w5 hown5 hgr5 -
    have kp5 : Kp w w5 := row_kp OW0.out hgr5 K0.out
    have HO := Lib.hid hown5
    have HK := Lib.hid kp5
    clear hown5 hgr5 kp5
    go_wp2
    go_ret
    refine ⟨_, rfl, ?_, HK.out⟩
    simpa using HO.out

end Go.Proofs.YtjffkfcokgcenaaDoor
