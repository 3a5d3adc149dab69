/-
  slices.Clone, Grow and Concat OF FLIGHTS (own work).
-/
import Derived.Test.YtghjnhdepeiloaaDoorFlyA
import Derived.Lib.Walk
import Derived.Lib.AppendZerosOnto
import Derived.Lib.Hide
import Derived.LoopTactic
import Derived.LoopN
namespace Go.Proofs.YtghjnhdepeiloaaDoor
open Go.RowKit Go.ChangeShapes Go.WideShapes

theorem row_kpF {w0 w w' : World} {base n : Nat} {e : TypeId} {v : Value} {xs : List Value} (h : w.ownsRow base e 2 v n xs) (hg : w.grownBy w' v.ownBlock) (hk : Kp w0 w) (hb : w0.heap.size ≤ base) : Kp w0 w' :=
  Below.grown hk hg (Below.size hk) (fun k hk => Nat.le_trans hb (h.lt k hk).1)
set_option maxHeartbeats 2000000 in
set_option maxRecDepth 100000 in
theorem growF_zero (w : World) :
    Calls Tryd.prog 82 #[.slice none 0 0, .int .i64 0] w fun e w' => e = .returned (.slice none 0 0) ∧ w = w' := by
  go_enter Tryd.func82, Tryd.ntmps82
  go_wp2
  go_ret
  exact ⟨rfl, rfl⟩

set_option maxHeartbeats 2000000 in
set_option maxRecDepth 100000 in
theorem growF_nil (n : Nat) (hn : n ≤ 1000000) (nn : Int) (hnn : (n : Int) = nn) (w : World) :
    Calls Tryd.prog 82 #[.slice none 0 0, .int .i64 nn] w fun e w' => ∃ v, e = .returned v ∧ w'.ownsRow w.heap.size 58 2 v 0 [] ∧ Kp w w' := by
  by_cases h0 : n = 0
  · obtain rfl : nn = 0 := by omega
    refine (growF_zero w).mono ?_
    rintro e w' ⟨rfl, rfl⟩
    exact ⟨_, rfl, ⟨rfl, .inl ⟨rfl, rfl⟩⟩, Kp.refl _⟩
  obtain ⟨i0, hi, hz0, hz1, hz2⟩ := info_flyT
  have hold : (Builtin.firstCells i0.size 0 (.slice none 0 0)).run Tryd.prog w.drew = .ok #[] w.drew := run_firstCells_none w.drew i0.size 0 0 0
  obtain ⟨G, hG⟩ : ∃ G, G = grownCap w n 0 58 := ⟨_, rfl⟩
  have hrz : ∀ ty, (Builtin.append_ #[54, 3] ty #[.slice none 0 0, .int .i64 nn]).run Tryd.prog w =
      .ok (.slice (some ⟨w.heap.size, 0, none⟩) n G) (w.drew.alloc (.cells (#[] ++ Builtin.zeroCells (Value.cells (.agg #[.int .i64 0, .int .i64 0])) n ++ Builtin.zeroCells (Value.cells (.agg #[.int .i64 0, .int .i64 0])) (G - n)) 58)) := fun ty => by
    have h := Lib.run_append_grow_zeros w 54 3 ty 58 i0 (.agg #[.int .i64 0, .int .i64 0]) .i64 .i64 Tryd.underlying54 Tryd.underlying3 hi hz0 none 0 0 [] hold n (by omega) (by omega) (by omega) (by omega) (by rw [hz2]; omega)
      (growslice_fits (by omega) (by rw [hz2]; omega))
    rw [Nat.zero_add] at h
    rw [hG, ← hnn]
    exact h
  have hGn : n ≤ G := by rw [hG]; exact grownCap_ge w _ _ _
  have hGm : G ≤ maxLen := by rw [hG]; exact grownCap_le_maxLen w n 0 58 (by unfold maxLen; omega)
  have hG63 : G ≤ 9223372036854775807 := by unfold maxLen at hGm; omega
  have hn0 : nn > 0 := by omega
  have hn2 : nn ≤ 1000000 := by omega
  have HM := Lib.hid hGm
  have HN := Lib.hid hGn
  have HNN := Lib.hid hnn
  clear hold hG hGm hi hz0 hz1 hz2
  go_enter Tryd.func82, Tryd.ntmps82
  go_wp2_with (at_builtin; refine Lib.wpList_append_run _ rfl _ _ _ _ rfl _ _ rfl rfl _ _ (hrz _) ?_)
  all_goals (go_ret; refine ⟨_, rfl, ⟨rfl, .inr ⟨w.heap.size, G, _, rfl, Nat.le_refl _, (MapKept.heap_alloc w.drew _).1, Nat.zero_le _, HM.out, ?_, rfl⟩⟩, Kp.trans (Kp.refl w).drew (kp_alloc _ _)⟩)
  have := HN.out
  simp [size_zeroCells]
  omega

set_option maxRecDepth 100000 in
set_option maxHeartbeats 2000000 in
/-- TWO PARTS, one behind the other, in a new row -/
theorem concatF_any (b cap n1 n2 : Nat) (a1 a2 : Option Addr) (c1 c2 : Nat) (f1 f2 : List (Int × Int)) (hl1 : f1.length = n1) (hl2 : f2.length = n2) (hb1 : n1 ≤ 100) (hb2 : n2 ≤ 100) (w : World)
    (e0 : w.cell? ⟨b, 0, none⟩ = some (.slice a1 n1 c1)) (e1 : w.cell? ⟨b, 1, none⟩ = some (.slice a2 n2 c2)) (p1 : PartF (.slice a1 n1 c1) f1 w) (p2 : PartF (.slice a2 n2 c2) f2 w) :
    Calls Tryd.prog 74 #[.slice (some ⟨b, 0, none⟩) 2 cap] w fun e w' => ∃ v', e = .returned v' ∧ w'.ownsRow w.heap.size 58 2 v' (f1 ++ f2).length (flyB (f1 ++ f2)) ∧ Kp w w' := by
  have P1 := Lib.hid p1
  have P2 := Lib.hid p2
  have E0 := Lib.hid e0
  have E1 := Lib.hid e1
  have L1 := Lib.hid hl1
  have L2 := Lib.hid hl2
  obtain ⟨m1, hm1⟩ : ∃ m : Int, (n1 : Int) = m := ⟨_, rfl⟩
  obtain ⟨m2, hm2⟩ : ∃ m : Int, (n2 : Int) = m := ⟨_, rfl⟩
  have g1 : 0 ≤ m1 := by omega
  have g2 : m1 ≤ 100 := by omega
  have g3 : 0 ≤ m2 := by omega
  have g4 : m2 ≤ 100 := by omega
  have hgr := growF_nil (n1 + n2) (by omega) (m1 + m2) (by omega) w
  have HG := Lib.hid hgr
  have n0 : ¬ m1 < 0 := by omega
  have n00 : ¬ m1 + m2 < 0 := by omega
  have M1 := Lib.hid hm1
  have M2 := Lib.hid hm2
  have B1 := Lib.hid hb1
  have B2 := Lib.hid hb2
  clear p1 p2 hl1 hl2 hgr hb1 hb2
  go_enter Tryd.func74, Tryd.ntmps74
  go_wp2
  refine wp_loop_rounds 3 ?_
  rw [rounds_succ]
  go_wp2
  rw [rounds_succ]
  go_wp2
  rw [rounds_succ]
  clear e0 e1
  go_wp2_with (go_at_call 82; (with_reducible refine HG.out.mono ?_); rintro e w1 ⟨v1, rfl, ho1, hk1⟩; have O1 := Lib.hid ho1; have K1 := Lib.hid hk1; have S1 := Lib.hid (Below.size hk1); have d0 := kp_cell hk1 E0.out; have d1 := kp_cell hk1 E1.out; clear ho1 hk1)
  refine wp_loop_rounds 3 ?_
  rw [rounds_succ]
  go_wp2_with (at_builtin; refine wpList_append_fly _ rfl (.tmp 31) (.tmp 32) rfl w.heap.size _ _ _ rfl O1.out _ f1 rfl (P1.out.kp K1.out) ?f1 ?f2 ?_)
  case f1 => have := L1.out; have := B1.out; omega
  case f2 => exact S1.out
  rintro v2 w2 ho2 hgr2
  have hk2 : Kp w w2 := row_kpF O1.out hgr2 K1.out (Nat.le_refl _)
  have O2 := Lib.hid ho2
  have K2 := Lib.hid hk2
  have q0 := kp_cell hk2 E0.out
  have q1 := kp_cell hk2 E1.out
  clear ho2 hgr2 hk2 d0 d1
  go_wp2
  rw [rounds_succ]
  go_wp2_with (at_builtin; refine wpList_append_fly _ rfl (.tmp 31) (.tmp 32) rfl w.heap.size _ _ _ rfl O2.out _ f2 rfl (P2.out.kp K2.out) ?f3 ?f4 ?_)
  case f3 => have := L1.out; have := L2.out; have := B1.out; have := B2.out; omega
  case f4 => exact Below.size K2.out
  rintro v3 w3 ho3 hgr3
  have hk3 : Kp w w3 := row_kpF O2.out hgr3 K2.out (Nat.le_refl _)
  have O3 := Lib.hid ho3
  have K3 := Lib.hid hk3
  clear ho3 hgr3 hk3 q0 q1
  go_wp2
  rw [rounds_succ]
  go_wp2
  go_ret
  refine ⟨_, rfl, ?_, K3.out⟩
  have := O3.out
  rw [flyB_app, List.length_append]
  simpa using this
set_option maxRecDepth 100000 in
set_option maxHeartbeats 2000000 in
theorem cloneF_any (v : Value) (f : List (Int × Int)) (hl : f.length ≤ 100) (w : World) (hp : PartF v f w) :
    Calls Tryd.prog 49 #[v] w fun e w' => ∃ v', e = .returned v' ∧ w'.ownsRow w.heap.size 58 2 v' f.length (flyB f) ∧ Kp w w' := by
  obtain ⟨a, cap, rfl, hno, hc⟩ := hp
  cases a with
  | none =>
    obtain ⟨h0, rfl⟩ := hno rfl
    have hf : f = [] := List.length_eq_zero_iff.1 h0
    subst hf
    have heqn := Lib.run_eql_slice_nil (P := Tryd.prog) w 54 58 none 0 0 0 0 Tryd.underlying54
    clear hno hc
    go_enter Tryd.func49, Tryd.ntmps49
    go_wp2
    go_ret
    exact ⟨_, rfl, World.ownsRow_nil _ _ _ _, Kp.refl _⟩
  | some ad =>
    have HP := Lib.hid (show PartF (.slice (some ad) f.length cap) f w from ⟨some ad, cap, rfl, hno, hc⟩)
    have K1 := Lib.hid (kp_alloc w (.cells #[] 58))
    have O1 := Lib.hid (show (w.alloc (.cells #[] 58)).ownsRow w.heap.size 58 2 (.slice (some ⟨w.heap.size, 0, none⟩) 0 0) 0 [] from ⟨by simp, Or.inr ⟨w.heap.size, 0, #[], rfl, Nat.le_refl _, (MapKept.heap_alloc w _).1, Nat.le_refl _, by omega, by simp, by simp⟩⟩)
    have HL := Lib.hid hl
    have heqn := Lib.run_eql_slice_nil (P := Tryd.prog) w 54 58 (some ad) f.length cap 0 0 Tryd.underlying54
    clear hno hc hl
    go_enter Tryd.func49, Tryd.ntmps49
    go_wp2_with (at_builtin; refine wpList_append_fly _ rfl (.tmp 5) (.tmp 6) rfl w.heap.size _ _ _ rfl O1.out _ f rfl (HP.out.kp K1.out) ?f1 ?f2 ?_)
    case f1 => have := HL.out; omega
    case f2 => exact Below.size K1.out
    rintro v2 w2 ho2 hgr2
    have hk2 : Kp w w2 := row_kpF O1.out hgr2 K1.out (Nat.le_refl _)
    have O2 := Lib.hid ho2
    have K2 := Lib.hid hk2
    clear ho2 hgr2 hk2
    go_wp2
    go_ret
    exact ⟨_, rfl, by have := O2.out; simpa using this, K2.out⟩
end Go.Proofs.YtghjnhdepeiloaaDoor
