/-
  liaisonnum.SameLists (own work): two lists of bytes' lists.
-/
import Derived.Test.YtpehmkglkjlmfaaDoorSlBB
import Derived.BigQuiet
namespace Go.Proofs.YtpehmkglkjlmfaaDoor
open Go.RowKit

theorem sl_ne {a b : ByteArray} (h : ¬ a = b) : (a.toList == b.toList) = false := by
  rw [beq_eq_false_iff_ne]
  intro e
  rw [Lib.toList_data, Lib.toList_data] at e
  apply h
  obtain ⟨⟨x⟩⟩ := a
  obtain ⟨⟨y⟩⟩ := b
  simp at e
  rw [e]

theorem Kp.drewN {a b : World} (h : Kp a b) (n : Nat) : Kp a (b.drewN n) := ⟨h.os, h.tape, h.output, h.size, h.block⟩

set_option maxRecDepth 100000 in
theorem same_any (u v : Value) (xs ys : List (List Int)) (hl : xs.length ≤ 1000000) (w : World) (hx : SlBB u xs w) (hy : SlBB v ys w) :
    Calls Tryd.prog 16 #[u, v] w fun e w' => e = .returned (.bool (decide (xs = ys))) ∧ Kp w w' := by
  obtain ⟨a, ca, rfl⟩ := hx.form
  obtain ⟨b, cb, rfl⟩ := hy.form
  obtain ⟨n, hn⟩ : ∃ n, xs.length = n := ⟨_, rfl⟩
  obtain ⟨n2, hn2⟩ : ∃ n, ys.length = n := ⟨_, rfl⟩
  rw [hn] at hx hl ⊢
  rw [hn2] at hy ⊢
  by_cases hlen : n = n2
  · subst hlen
    have HX := Lib.hid (fun w1 (hk : Kp w w1) (j : Nat) (hj : j < xs.length) => (hx.kp hk).at j hj)
    have HY := Lib.hid (fun w1 (hk : Kp w w1) (j : Nat) (hj : j < ys.length) => (hy.kp hk).at j hj)
    have HN := Lib.hid hn
    have HN2 := Lib.hid hn2
    obtain ⟨B, hB⟩ : ∃ B, decide (xs = ys) = B := ⟨_, rfl⟩
    rw [hB]
    have HB := Lib.hid hB
    clear hx hy hn hn2 hB
    go_enter Tryd.func16, Tryd.ntmps16
    go_wp2
    go_loopw [13] (fun i wr => ∃ j : Nat, j ≤ n ∧ i = .int .i64 j ∧ Kp w wr ∧ xs.take j = ys.take j) (fun i _ => n - (intOf i).toNat)
    case atStart => exact ⟨0, Nat.zero_le _, rfl, Kp.refl _, by simp⟩
    case round =>
      obtain ⟨j, hj, rfl, hk, heq⟩ := hrel
      obtain ⟨jj, hjj⟩ : ∃ jj : Int, (j : Int) = jj := ⟨_, rfl⟩
      have K := Lib.hid hk
      have EQ := Lib.hid heq
      rw [hjj]
      have hnl := HN.out
      have hnl2 := HN2.out
      by_cases hlt : j < n
      · have hjx : j < xs.length := by omega
        have hjy : j < ys.length := by omega
        obtain ⟨bx, ox, rfl, ax, cx, hcx, hsx, hbx⟩ := HX.out wr hk j hjx
        obtain ⟨by', oy, rfl, ay, cy, hcy, hsy, hby⟩ := HY.out wr hk j hjy
        have ej : jj.toNat = j := by omega
        have hj0 : 0 ≤ jj := by omega
        have hltj : jj < n := by omega
        have v1 := fun k => conv_slb (hsx.kp ((Kp.refl wr).drewN k))
        have v2 := fun k => conv_slb (hsy.kp ((Kp.refl wr).drewN k))
        have SX := Lib.hid (show xs.take (j + 1) = xs.take j ++ [xs[j]] from List.take_succ_eq_append_getElem hjx)
        have SY := Lib.hid (show ys.take (j + 1) = ys.take j ++ [ys[j]] from List.take_succ_eq_append_getElem hjy)
        obtain ⟨px, hpx⟩ : ∃ p, xs[j] = p := ⟨_, rfl⟩
        obtain ⟨py, hpy⟩ : ∃ p, ys[j] = p := ⟨_, rfl⟩
        rw [hpx] at hcx hsx hbx v1 SX
        rw [hpy] at hcy hsy hby v2 SY
        obtain ⟨lx, hlx⟩ : ∃ l, px.length = l := ⟨_, rfl⟩
        obtain ⟨ly, hly⟩ : ∃ l, py.length = l := ⟨_, rfl⟩
        rw [hlx] at hcx v1
        rw [hly] at hcy v2
        rw [← ej] at hcx hcy
        have HJ := Lib.hid hjj
        have BX := Lib.hid hbx
        have BY := Lib.hid hby
        by_cases he : px = py
        · subst he
          clear hsx hsy hbx hby hk heq hjx hjy hlx hly hnl hnl2 hlt ej hjj hpx hpy
          go_wp2
          go_quiet (fail)
          go_wp2
          have hjj := HJ.out
          go_round
          case rel => exact ⟨j + 1, by omega, by congr 1; omega, by first | exact K.out | exact Kp.drewN K.out _, by rw [SX.out, SY.out, EQ.out]⟩
          case measure => simp [intOf]; omega
        · have hd : decide (xs = ys) = false := decide_eq_false (fun e => he (by subst e; rw [← hpx, ← hpy]))
          have HD := Lib.hid hd
          have hns : ¬ strOfNums px = strOfNums py := fun h => he (str_inj hbx hby h)
          obtain ⟨sx, hsx'⟩ : ∃ s, strOfNums px = s := ⟨_, rfl⟩
          obtain ⟨sy, hsy'⟩ : ∃ s, strOfNums py = s := ⟨_, rfl⟩
          rw [hsx'] at v1 hns
          rw [hsy'] at v2 hns
          have hne := sl_ne hns
          clear hsx hsy hbx hby hk heq hjx hjy hlx hly hnl hnl2 hlt ej hjj hpx hpy hd he hsx' hsy' hns
          go_wp2
          go_quiet (fail)
          go_wp2
          go_ret
          exact ⟨by rw [← HB.out, HD.out]; rfl, by first | exact K.out | exact Kp.drewN K.out _⟩
      · have e1 : j = n := by omega
        subst e1
        have hd : decide (xs = ys) = true := decide_eq_true (by
          have h1 := heq
          rw [List.take_of_length_le (by omega), List.take_of_length_le (by omega)] at h1
          exact h1)
        have HD := Lib.hid hd
        have hex : ¬ jj < j := by omega
        clear hk heq hlt hd hnl hnl2 hjj
        go_wp2
        go_ret
        exact ⟨by rw [← HB.out, HD.out]; rfl, K.out⟩
  · have hd : decide (xs = ys) = false := decide_eq_false (fun e => hlen (by rw [← hn, ← hn2, e]))
    rw [hd]
    have g1 : ¬ (n : Int) = (n2 : Int) := by omega
    clear hx hy hn hn2 hd
    go_enter Tryd.func16, Tryd.ntmps16
    go_wp2
    go_ret
    exact ⟨rfl, Kp.refl _⟩
end Go.Proofs.YtpehmkglkjlmfaaDoor
