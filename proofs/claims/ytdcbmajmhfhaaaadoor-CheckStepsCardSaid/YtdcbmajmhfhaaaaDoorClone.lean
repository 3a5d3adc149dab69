/-
  bytes.Clone, bytes.Equal (own work).
-/
import Derived.Test.YtdcbmajmhfhaaaaDoorAppB
import Derived.Laws.Bits64b
import Derived.Lib.SliceRun
namespace Go.Proofs.YtdcbmajmhfhaaaaDoor
open Go.RowKit Go.ChangeShapes Go.WideShapes

set_option maxRecDepth 20000 in
theorem clone_nil (w : World) : Calls Tryd.prog 22 #[.slice none 0 0] w fun e w' => e = .returned (.slice none 0 0) ∧ w = w' := by
  have hq : (binOp .eql 24 (.slice none 0 0) (.slice none 0 0)).run Tryd.prog w = .ok (.bool true) w := by
    rw [run_eql_nil_slice w 24 5 none 0 0 0 0 Tryd.underlying24]; rfl
  go_enter Tryd.func22, Tryd.ntmps22
  go_wp2
  go_ret
  exact ⟨rfl, rfl⟩

set_option maxRecDepth 20000 in
theorem clone_any (v : Value) (bs : List Int) (hl : bs.length ≤ 1000000) (w : World) (hs : SlB v bs w) :
    Calls Tryd.prog 22 #[v] w fun e w' => ∃ v', e = .returned v' ∧ w'.ownsRow w.heap.size 5 1 v' bs.length (bs.map (Value.int .u8)) ∧ Kp w w' := by
  obtain ⟨a, cap, rfl⟩ := hs.form
  cases a with
  | none =>
    obtain ⟨h0, rfl⟩ := hs.app.1 rfl
    have hbs : bs = [] := List.length_eq_zero_iff.1 h0
    subst hbs
    refine (clone_nil w).mono ?_
    rintro e w' ⟨rfl, rfl⟩
    exact ⟨_, rfl, ⟨by simp, .inl ⟨rfl, rfl⟩⟩, Kp.refl _⟩
  | some ad =>
    obtain ⟨len, hlen⟩ : ∃ n, bs.length = n := ⟨_, rfl⟩
    rw [hlen] at hs hl ⊢
    have OW0 := Lib.hid (own_empty w 5)
    have HS0 := Lib.hid (hs.kp (kp_alloc w (.cells #[] 5)))
    have K0 := Lib.hid (kp_alloc w (.cells #[] 5))
    have hq : (binOp .eql 24 (.slice (some ad) len cap) (.slice none 0 0)).run Tryd.prog w = .ok (.bool false) w := by
      rw [Lib.run_eql_slice_nil w 24 5 (some ad) len cap 0 0 Tryd.underlying24]; rfl
    clear hs
    go_enter Tryd.func22, Tryd.ntmps22
    go_wp2_with (at_builtin; refine wpList_append_slb _ rfl (.tmp 5) (.tmp 6) rfl w.heap.size _ _ _ rfl OW0.out (some ad) len cap bs rfl HS0.out ?d1 ?d2 ?_)
    case d1 => omega
    case d2 => exact Below.size K0.out
    rintro v5 w5 hown5 hgr5 -
    have kp5 : Kp w w5 := row_kp OW0.out hgr5 K0.out
    have HO := Lib.hid hown5
    have HK := Lib.hid kp5
    clear hown5 hgr5 kp5
    go_wp2
    go_ret
    refine ⟨_, rfl, ?_, HK.out⟩
    simpa using HO.out

theorem strs_ne {a b : ByteArray} (h : ¬ a = b) : (a.toList == b.toList) = false := by
  rw [beq_eq_false_iff_ne]
  intro e
  rw [Lib.toList_data, Lib.toList_data] at e
  apply h
  obtain ⟨⟨x⟩⟩ := a
  obtain ⟨⟨y⟩⟩ := b
  simp at e
  rw [e]
theorem strs_eq {xs ys : List Int} (hx : InB xs) (hy : InB ys) : (strOfNums xs = strOfNums ys) ↔ xs = ys := ⟨str_inj hx hy, fun h => by rw [h]⟩

set_option maxRecDepth 20000 in
theorem equal_t (a a2 : Option Addr) (n c n2 c2 : Nat) (xs : List Int) (w : World) (h1 : SlB (.slice a n c) xs w) (h2 : SlB (.slice a2 n2 c2) xs w) :
    Calls Tryd.prog 21 #[.slice a n c, .slice a2 n2 c2] w fun e w' => e = .returned (.bool true) ∧ Kp w w' := by
  have v1 := conv_slb (h1.kp (Kp.refl w).drew)
  have v2 := conv_slb (h2.kp (Kp.refl w).drew)
  have v3 := conv_slb h1
  have v4 := conv_slb h2
  obtain ⟨ss, hss⟩ : ∃ ss, strOfNums xs = ss := ⟨_, rfl⟩
  rw [hss] at v1 v2 v3 v4
  clear h1 h2 hss
  go_enter Tryd.func21, Tryd.ntmps21
  go_wp2
  go_ret
  exact ⟨by simp, Kp.refl _⟩
set_option maxRecDepth 20000 in
theorem equal_f (a a2 : Option Addr) (n c n2 c2 : Nat) (xs ys : List Int) (hx : InB xs) (hy : InB ys) (hne : xs ≠ ys) (w : World) (h1 : SlB (.slice a n c) xs w) (h2 : SlB (.slice a2 n2 c2) ys w) :
    Calls Tryd.prog 21 #[.slice a n c, .slice a2 n2 c2] w fun e w' => e = .returned (.bool false) ∧ Kp w w' := by
  have hns : ¬ strOfNums xs = strOfNums ys := fun h => hne (str_inj hx hy h)
  have v1 := conv_slb (h1.kp (Kp.refl w).drew)
  have v2 := conv_slb (h2.kp (Kp.refl w).drew)
  have v3 := conv_slb h1
  have v4 := conv_slb h2
  obtain ⟨ss, hss⟩ : ∃ ss, strOfNums xs = ss := ⟨_, rfl⟩
  obtain ⟨tt, htt⟩ : ∃ ss, strOfNums ys = ss := ⟨_, rfl⟩
  rw [hss] at v1 v3 hns
  rw [htt] at v2 v4 hns
  clear h1 h2 hss htt hne
  go_enter Tryd.func21, Tryd.ntmps21
  go_wp2
  go_ret
  exact ⟨by rw [strs_ne hns]; rfl, Kp.refl _⟩
end Go.Proofs.YtdcbmajmhfhaaaaDoor
