/-
  A TAPE's CODE KEEPS ITS CONTRACTS, the smaller calls (own work).
-/
import Derived.Test.YtpehmkglkjlmfaaDoorTapP
namespace Go.Proofs.YtpehmkglkjlmfaaDoor
open Go.RowKit Go.ChangeShapes Go.WideShapes
variable {B g : Nat} {m m' : TM} {O : Nat → Prop} {w w' : World} {v v' : Value}





theorem tap_off (h1 : TaC g v m w) : Calls Tryd.prog 41 #[.pointer (some ⟨g, 0, none⟩)] w fun e w' => e = .returned (.bool m.off) ∧ Kp w w' := by
  have c0 := h1.c0
  clear h1
  go_enter Tryd.func41, Tryd.ntmps41
  go_wp2
  go_ret
  exact ⟨rfl, Kp.refl _⟩


set_option maxRecDepth 20000 in
theorem tap_setRoom0 (ads : List Addr) (h1 : TaC g v m w) (c1 : w.cell? ⟨1, 0, none⟩ = some (errI ads 1)) (n : Int) (n0 : -9223372036854775808 ≤ n) (n1 : n ≤ 9223372036854775807) :
    Calls Tryd.prog 32 #[.pointer (some ⟨g, 0, none⟩), .int .i64 n] w fun e w' => e = .returned (errI ads (roomM m n).1) ∧ TaC g v (roomM m n).2 w' ∧ On g w w' := by
  have c5 := h1.c5
  have z := h1.z
  have HH := Lib.hid h1
  by_cases hr : 0 ≤ n ∧ n ≤ 65536
  · have e : roomM m n = (0, { m with room := n }) := by unfold roomM; rw [if_pos hr]
    rw [e, errI_nil]
    have x1 : ¬ n < 0 := by omega
    have x2 : ¬ n > 65536 := by omega
    clear e h1 c1
    go_enter Tryd.func32, Tryd.ntmps32
    go_wp2
    go_ret
    exact ⟨rfl, (Joins.block_setCell HH.out _).trans rfl, (On.refl _ _).set _ _⟩
  · have e : roomM m n = (1, m) := by unfold roomM; rw [if_neg hr]
    rw [e]
    obtain ⟨e1, he1⟩ : ∃ x, errI ads 1 = x := ⟨_, rfl⟩
    rw [he1] at c1
    dsimp only
    rw [he1]
    clear e h1 he1
    by_cases hn : n < 0
    · go_enter Tryd.func32, Tryd.ntmps32
      go_wp2
      go_ret
      exact ⟨rfl, HH.out, On.refl _ _⟩
    · have x2 : n > 65536 := by omega
      go_enter Tryd.func32, Tryd.ntmps32
      go_wp2
      go_ret
      exact ⟨rfl, HH.out, On.refl _ _⟩

theorem tap_setRoom (ads : List Addr) (h1 : TaC g v m w) (h2 : w.ownsRow B 5 1 v m.all.length (m.all.map (Value.int .u8))) (hO : ∀ b, O b ↔ b = g ∨ v.ownBlock = some b) (hne : v.ownBlock ≠ some g) (hB : B ≤ g) (c1 : w.cell? ⟨1, 0, none⟩ = some (errI ads 1)) (n : Int) (n0 : -9223372036854775808 ≤ n) (n1 : n ≤ 9223372036854775807) :
    Calls Tryd.prog 32 #[.pointer (some ⟨g, 0, none⟩), .int .i64 n] w fun e w' => e = .returned (errI ads (roomM m n).1) ∧ ∃ O', TapR B g (roomM m n).2 O' w' ∧ Asd O O' w w' := by
  refine (tap_setRoom0 ads h1 c1 n n0 n1).mono ?_
  rintro e w2 ⟨rfl, ht, ho⟩
  exact ⟨rfl, tap_on h2 hO hne hB ht (by unfold roomM TM.all; split <;> rfl) ho⟩

set_option maxRecDepth 20000 in
theorem tap_arm (h1 : TaC g v m w) (h2 : w.ownsRow B 5 1 v m.all.length (m.all.map (Value.int .u8))) (hO : ∀ b, O b ↔ b = g ∨ v.ownBlock = some b) (hne : v.ownBlock ≠ some g) (hB : B ≤ g) (n : Int) (n0 : -9223372036854775808 ≤ n) (n1 : n ≤ 9223372036854775807) :
    Calls Tryd.prog 29 #[.pointer (some ⟨g, 0, none⟩), .int .i64 n] w fun e w' => e = .returned (.tuple #[]) ∧ ∃ O', TapR B g (armM m n) O' w' ∧ Asd O O' w w' := by
  have c1 := h1.c1
  have c2 := h1.c2
  have _u := And.intro n0 n1
  clear _u
  have z := h1.z
  have HH := Lib.hid h1
  have H2 := Lib.hid h2
  have HO := Lib.hid hO
  have HNE := Lib.hid hne
  clear h1 h2 hO hne
  go_enter Tryd.func29, Tryd.ntmps29
  go_wp2
  (try simp only [Exit.inBlock, Exit.then]); refine bodyPost_end (results_none rfl _ _ _) rfl ?_
  refine ⟨rfl, tap_on H2.out HO.out HNE.out hB (m' := armM m n) ?_ rfl (((On.refl _ _).set _ _).set _ _)⟩
  have q1 : (w.setCell ⟨g, 1, none⟩ (.bool (decide (0 ≤ n)))).heap[g]? = some (.cells #[.bool m.off, .bool (decide (0 ≤ n)), .int .i64 (max m.left 0), v, .int .i64 m.sure.length, .int .i64 m.room] 72 (0, 0)) := (Joins.block_setCell HH.out _).trans rfl
  refine (Joins.block_setCell q1 _).trans ?_
  unfold objT armM
  dsimp only
  by_cases hr : n < 0
  · rw [if_pos hr, decide_eq_false (show ¬ 0 ≤ n by omega), show max n 0 = 0 by omega]
    rfl
  · rw [if_neg hr]
    rfl

set_option maxRecDepth 20000 in
set_option maxHeartbeats 2000000 in
theorem tap_sync (ads : List Addr) (h1 : TaC g v m w) (h2 : w.ownsRow B 5 1 v m.all.length (m.all.map (Value.int .u8))) (hO : ∀ b, O b ↔ b = g ∨ v.ownBlock = some b) (hne : v.ownBlock ≠ some g) (hB : B ≤ g) (hm : Mok m) (c7 : ∀ w', On g w w' → w'.cell? ⟨6, 0, none⟩ = some (errI ads 7)) :
    Calls Tryd.prog 26 #[.pointer (some ⟨g, 0, none⟩)] w fun e w' => e = .returned (errI ads (syncM m).1) ∧ ∃ O', TapR B g (syncM m).2 O' w' ∧ Asd O O' w w' := by
  obtain ⟨N, hN⟩ : ∃ N, m.all.length = N := ⟨_, rfl⟩
  rw [hN] at h2
  obtain ⟨a0, cp, rfl⟩ : ∃ a0 cp, v = .slice a0 N cp := by
    rcases h2.2 with ⟨rfl, q⟩ | ⟨gb, cap, cur, rfl, _⟩
    · exact ⟨none, 0, by rw [q]⟩
    · exact ⟨_, _, rfl⟩
  have H2 := Lib.hid h2
  have HO := Lib.hid hO
  have HNE := Lib.hid hne
  have HAL := Lib.hid hN
  have HST := tap_step ads hm h1 c7
  obtain ⟨es, et, er⟩ := stepM_same m
  rcases stepM_two m with hk | hk
  · have e : syncM m = (0, { (stepM m).2 with sure := m.sure ++ m.tail, tail := [] }) := by unfold syncM; rw [if_pos hk]
    rw [e]
    have HA2 := Lib.hid (show TM.all { (stepM m).2 with sure := m.sure ++ m.tail, tail := [] } = m.all by unfold TM.all; rw [List.append_nil])
    simp only [hk, errI_nil] at HST
    have HST := Lib.hid HST
    have HSE := Lib.hid (fun w2 (t : TaC g (.slice a0 N cp) (stepM m).2 w2) => tap_settle (m' := { (stepM m).2 with sure := m.sure ++ m.tail, tail := [] }) t a0 N cp hN rfl rfl rfl)
    dsimp only
    rw [errI_nil]
    clear e h1 h2 hm hN c7 hO hne hk es et er
    go_enter Tryd.func26, Tryd.ntmps26
    go_wp2_with (first
      | (go_at_call 53; (with_reducible refine HST.out.mono ?_); rintro e w2 ⟨rfl, ht2, ho2⟩; have T2 := Lib.hid ht2; have O2 := Lib.hid ho2; have d3 := ht2.c3; clear ht2 ho2)
      | (go_at_call 54; (with_reducible refine (HSE.out _ T2.out).mono ?_); rintro e w3 ⟨rfl, ht3, ho3⟩; have T3 := Lib.hid ht3; have O3 := Lib.hid ho3; clear ht3 ho3))
    go_ret
    exact ⟨rfl, tap_on (by rw [HAL.out]; exact H2.out) HO.out HNE.out hB T3.out HA2.out (O2.out.trans O3.out)⟩
  · have e : syncM m = stepM m := by unfold syncM; rw [if_neg (by rw [hk]; decide)]
    rw [e]
    have HA2 := Lib.hid (show TM.all (stepM m).2 = m.all by unfold TM.all; rw [es, et])
    obtain ⟨o7, ho7⟩ := errI_iface ads 7 (by decide)
    simp only [hk, ho7] at HST ⊢
    have HST := Lib.hid HST
    clear e h1 h2 hm hN c7 hO hne hk es et er ho7
    go_enter Tryd.func26, Tryd.ntmps26
    go_wp2_with (go_at_call 53; (with_reducible refine HST.out.mono ?_); rintro e w2 ⟨rfl, ht2, ho2⟩; have T2 := Lib.hid ht2; have O2 := Lib.hid ho2; clear ht2 ho2)
    go_ret
    exact ⟨rfl, tap_on (by rw [HAL.out]; exact H2.out) HO.out HNE.out hB T2.out HA2.out O2.out⟩
end Go.Proofs.YtpehmkglkjlmfaaDoor
