/-
  fields.Join (own work): the whole call.
-/
import Derived.Test.YtfealdllicicnaaDoorJoinF
namespace Go.Proofs.YtfealdllicicnaaDoor
open Go.RowKit Go.ChangeShapes Go.WideShapes

theorem join_ok (ads : List Addr) (a : Option Addr) (cap : Nat) (fs : List (Int × List Int)) (len : Nat) (hlen : fs.length = len) (hl : len ≤ 100000) (w : World) (V : St ads w) (hs : SlQ (.slice a len cap) fs w) (hr : runQ 0 0 fs = true) :
    Calls Tryd.prog 13 #[.slice a len cap] w fun e w' => ∃ v, e = .returned (.tuple #[v, .nilIface]) ∧ w'.ownsRow w.heap.size 5 1 v (joinB fs).length ((joinB fs).map (Value.int .u8)) ∧ Kp w w' := by
  have hmf : ∀ (fn : Fn) (first cap : Array Value) (w : World), (Instr.makeFunc fn first cap).run Tryd.prog w = .ok (.func fn first cap) w := fun _ _ _ _ => rfl
  have h3 : 3 < ads.length := by rw [V.len]; decide
  have kb := kp_alloc w (.cells #[.slice a len cap] 22)
  have hc := box_cell w (.slice a len cap) 22
  have HT := Lib.hid (try_bytes_own 36 #[.pointer (some ⟨w.heap.size, 0, none⟩)] (joinB fs) (w.alloc (.cells #[.slice a len cap] 22)) (by intro w; simp [go_sem]) fun w1 h1 => by
    refine (join1_any ads h3 ⟨w.heap.size, 0, none⟩ a cap fs len hlen hl w1 (V.below (Kp.trans kb h1)) (kp_cell h1 hc) (hs.kp (Kp.trans kb h1))).mono ?_
    rintro e w2 ⟨⟨_, v, rfl, ho⟩ | ⟨hf, _⟩, hk⟩
    · exact ⟨v, rfl, ho, hk⟩
    · rw [hr] at hf; cases hf)
  have KB := Lib.hid kb
  clear kb hc V hs hl hr
  go_enter Tryd.func13, Tryd.ntmps13
  go_wp2_with (go_at_call 35; (with_reducible refine HT.out.mono ?_); rintro e w' ⟨v, rfl, ho, hk⟩; have HK := Lib.hid hk; have HO := Lib.hid ho; clear hk ho)
  go_ret2
  exact ⟨_, rfl, own_mono HO.out (Below.size KB.out), Kp.trans KB.out HK.out⟩

theorem join_err (ads : List Addr) (h3 : 3 < ads.length) (a : Option Addr) (cap : Nat) (fs : List (Int × List Int)) (len : Nat) (hlen : fs.length = len) (hl : len ≤ 100000) (w : World) (V : St ads w) (hs : SlQ (.slice a len cap) fs w) (hr : runQ 0 0 fs = false) :
    Calls Tryd.prog 13 #[.slice a len cap] w fun e w' => e = .returned (.tuple #[.slice none 0 0, snt (ads[3]'h3)]) ∧ Kp w w' := by
  have hmf : ∀ (fn : Fn) (first cap : Array Value) (w : World), (Instr.makeFunc fn first cap).run Tryd.prog w = .ok (.func fn first cap) w := fun _ _ _ _ => rfl
  have kb := kp_alloc w (.cells #[.slice a len cap] 22)
  have hc := box_cell w (.slice a len cap) 22
  have HT := Lib.hid (try_bytes_err ads 3 h3 36 #[.pointer (some ⟨w.heap.size, 0, none⟩)] (w.alloc (.cells #[.slice a len cap] 22)) (V.below kb) (by intro w; simp [go_sem]) fun w1 h1 => by
    refine (join1_any ads h3 ⟨w.heap.size, 0, none⟩ a cap fs len hlen hl w1 (V.below (Kp.trans kb h1)) (kp_cell h1 hc) (hs.kp (Kp.trans kb h1))).mono ?_
    rintro e w2 ⟨⟨hf, _⟩ | ⟨_, rfl⟩, hk⟩
    · rw [hr] at hf; cases hf
    · exact ⟨rfl, hk⟩)
  have KB := Lib.hid kb
  clear kb hc V hs hl hr
  go_enter Tryd.func13, Tryd.ntmps13
  go_wp2_with (go_at_call 35; (with_reducible refine HT.out.mono ?_); rintro e w' ⟨rfl, hk⟩; have HK := Lib.hid hk; clear hk)
  go_ret2
  exact ⟨rfl, Kp.trans KB.out HK.out⟩
end Go.Proofs.YtfealdllicicnaaDoor
