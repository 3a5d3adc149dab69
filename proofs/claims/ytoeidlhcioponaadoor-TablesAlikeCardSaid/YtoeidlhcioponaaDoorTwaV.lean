/-
  THE WALK OF TablesWaits (own work); (Side).right.
-/
import Derived.Test.YtoeidlhcioponaaDoorTabC
namespace Go.Proofs.YtoeidlhcioponaaDoor
open Go.RowKit Go.ChangeShapes Go.WideShapes

theorem sideRight_any (p e : Int) (w : World) : Calls Tryd.prog 17 #[.agg #[.int .i64 p, .int .i64 e]] w fun e' w' => e' = .returned (.bool (rightT p e)) ∧ Kp w w' := by
  by_cases h1 : 1 ≤ p
  · by_cases h2 : p ≤ 2
    · by_cases h3 : 1 ≤ e
      · by_cases h4 : e ≤ 2
        · rw [show rightT p e = true from decide_eq_true (by omega)]
          (go_enter Tryd.func17, Tryd.ntmps17; go_wp2; go_ret; exact ⟨rfl, kp_alloc _ _⟩)
        · rw [show rightT p e = false from decide_eq_false (by omega)]
          (go_enter Tryd.func17, Tryd.ntmps17; go_wp2; go_ret; exact ⟨rfl, kp_alloc _ _⟩)
      · rw [show rightT p e = false from decide_eq_false (by omega)]
        (go_enter Tryd.func17, Tryd.ntmps17; go_wp2; go_ret; exact ⟨rfl, kp_alloc _ _⟩)
    · rw [show rightT p e = false from decide_eq_false (by omega)]
      (go_enter Tryd.func17, Tryd.ntmps17; go_wp2; go_ret; exact ⟨rfl, kp_alloc _ _⟩)
  · rw [show rightT p e = false from decide_eq_false (by omega)]
    (go_enter Tryd.func17, Tryd.ntmps17; go_wp2; go_ret; exact ⟨rfl, kp_alloc _ _⟩)
set_option maxRecDepth 100000 in
theorem twaits_right (ads : List Addr) (p e s : Int) (hp : i64T p) (he : i64T e) (hs : i64T s) (w : World) (V : St ads w) (C : TabC ads w) (h : rightT p e = false) :
    Calls Tryd.prog 5 #[.agg #[.int .i64 p, .int .i64 e], .int .i64 s] w fun e' w' => e' = .returned (.bool true) ∧ Kp w w' := by
  have HL := fun w1 (hk : Kp w w1) => C.waits w1 hk p e s hp he hs
  have HG := fun w1 => sideRight_any p e w1
  rw [h] at HG
  have HN := fun w1 (hk : Kp w w1) => num_errN ads w1 (V.below hk) 14 (by decide) (by decide)
  rw [show waitsT p e s = (14, 0) by unfold waitsT; rw [h]; rfl] at HL
  dsimp only at HL
  obtain ⟨ev, hev⟩ : ∃ v, errI ads 14 = v := ⟨_, rfl⟩
  rw [hev] at HL HN
  have HN := Lib.hid HN
  clear hev
  have HL := Lib.hid HL
  have HG := Lib.hid HG
  have HA := Lib.hid (fun w1 (hk : Kp w w1) => alive10_any ads w1 (TabC.kp C hk))
  have kb := kp_alloc w (.cells #[.int .i64 p, .int .i64 e] 23)
  have KB := Lib.hid kb
  have HR := Lib.hid (MapKept.heap_alloc w (.cells #[.int .i64 p, .int .i64 e] 23)).1
  clear V C hp he hs h kb
  go_enter Tryd.func5, Tryd.ntmps5
  go_wp2_with (first
    | (go_at_call 10; (with_reducible refine (HA.out _ KB.out).mono ?_); rintro e' w1 ⟨rfl, hk⟩; have K1 := Lib.hid (Kp.trans KB.out hk); have R1 := Lib.hid (kp_row hk HR.out); obtain ⟨g0, g1⟩ := sides2 R1.out; clear hk)
    | (go_at_call 16; (with_reducible refine (HL.out _ K1.out).mono ?_); rintro e' w2 ⟨rfl, hk⟩; have K2 := Lib.hid (Kp.trans K1.out hk); have R2 := Lib.hid (kp_row hk R1.out); obtain ⟨h0, h1⟩ := sides2 R2.out; clear hk)
    | (go_at_call 17; (with_reducible refine (HG.out _).mono ?_); rintro e' w3 ⟨rfl, hk⟩; have K3 := Lib.hid (Kp.trans K2.out hk); have R3 := Lib.hid (kp_row hk R2.out); obtain ⟨i0, i1⟩ := sides2 R3.out; clear hk)
    | (go_at_call 13; (with_reducible refine (HN.out _ K3.out).mono ?_); rintro e' w5 ⟨rfl, hk⟩; have K5 := Lib.hid (Kp.trans K3.out hk); clear hk))
  go_ret
  exact ⟨by first | rfl | simp, K5.out⟩
set_option maxRecDepth 100000 in
theorem twaits_has (ads : List Addr) (p e s : Int) (hp : i64T p) (he : i64T e) (hs : i64T s) (w : World) (V : St ads w) (C : TabC ads w) (h : rightT p e = true) (h2 : hasT p e s = false) :
    Calls Tryd.prog 5 #[.agg #[.int .i64 p, .int .i64 e], .int .i64 s] w fun e' w' => e' = .returned (.bool true) ∧ Kp w w' := by
  have HL := fun w1 (hk : Kp w w1) => C.waits w1 hk p e s hp he hs
  have HG := fun w1 => sideRight_any p e w1
  rw [h] at HG
  have HN := fun w1 (hk : Kp w w1) => num_errN ads w1 (V.below hk) 1 (by decide) (by decide)
  have HH := fun w => refHas_any p e s w
  rw [h2] at HH
  rw [show waitsT p e s = (1, 0) by unfold waitsT; rw [h, h2]; rfl] at HL
  dsimp only at HL
  obtain ⟨ev, hev⟩ : ∃ v, errI ads 1 = v := ⟨_, rfl⟩
  rw [hev] at HL HN
  have HN := Lib.hid HN
  have HH := Lib.hid HH
  clear hev h2
  have HL := Lib.hid HL
  have HG := Lib.hid HG
  have HA := Lib.hid (fun w1 (hk : Kp w w1) => alive10_any ads w1 (TabC.kp C hk))
  have kb := kp_alloc w (.cells #[.int .i64 p, .int .i64 e] 23)
  have KB := Lib.hid kb
  have HR := Lib.hid (MapKept.heap_alloc w (.cells #[.int .i64 p, .int .i64 e] 23)).1
  clear V C hp he hs h kb
  go_enter Tryd.func5, Tryd.ntmps5
  go_wp2_with (first
    | (go_at_call 10; (with_reducible refine (HA.out _ KB.out).mono ?_); rintro e' w1 ⟨rfl, hk⟩; have K1 := Lib.hid (Kp.trans KB.out hk); have R1 := Lib.hid (kp_row hk HR.out); obtain ⟨g0, g1⟩ := sides2 R1.out; clear hk)
    | (go_at_call 16; (with_reducible refine (HL.out _ K1.out).mono ?_); rintro e' w2 ⟨rfl, hk⟩; have K2 := Lib.hid (Kp.trans K1.out hk); have R2 := Lib.hid (kp_row hk R1.out); obtain ⟨h0, h1⟩ := sides2 R2.out; clear hk)
    | (go_at_call 17; (with_reducible refine (HG.out _).mono ?_); rintro e' w3 ⟨rfl, hk⟩; have K3 := Lib.hid (Kp.trans K2.out hk); have R3 := Lib.hid (kp_row hk R2.out); obtain ⟨i0, i1⟩ := sides2 R3.out; clear hk)
    | (go_at_call 18; (with_reducible refine (HH.out _).mono ?_); rintro e' w' ⟨rfl, rfl⟩)
    | (go_at_call 13; (with_reducible refine (HN.out _ K3.out).mono ?_); rintro e' w5 ⟨rfl, hk⟩; have K5 := Lib.hid (Kp.trans K3.out hk); clear hk))
  go_ret
  exact ⟨by first | rfl | simp, K5.out⟩
set_option maxRecDepth 100000 in
theorem twaits_ok (ads : List Addr) (p e s : Int) (hp : i64T p) (he : i64T e) (hs : i64T s) (w : World) (C : TabC ads w) (h : rightT p e = true) (h2 : hasT p e s = true) :
    Calls Tryd.prog 5 #[.agg #[.int .i64 p, .int .i64 e], .int .i64 s] w fun e' w' => e' = .returned (.bool true) ∧ Kp w w' := by
  have HL := fun w1 (hk : Kp w w1) => C.waits w1 hk p e s hp he hs
  have HG := fun w1 => sideRight_any p e w1
  rw [h] at HG
  have HH := fun w => refHas_any p e s w
  rw [h2] at HH
  have HW := fun w => refWaits_any e s w
  rw [show waitsT p e s = (0, waitT e s) by unfold waitsT; rw [h, h2]; rfl] at HL
  simp only [errI_nil] at HL
  obtain ⟨n, hn⟩ : ∃ n, waitT e s = n := ⟨_, rfl⟩
  rw [hn] at HL HW
  have HH := Lib.hid HH
  have HW := Lib.hid HW
  clear hn h2
  have HL := Lib.hid HL
  have HG := Lib.hid HG
  have HA := Lib.hid (fun w1 (hk : Kp w w1) => alive10_any ads w1 (TabC.kp C hk))
  have kb := kp_alloc w (.cells #[.int .i64 p, .int .i64 e] 23)
  have KB := Lib.hid kb
  have HR := Lib.hid (MapKept.heap_alloc w (.cells #[.int .i64 p, .int .i64 e] 23)).1
  clear C hp he hs h kb
  go_enter Tryd.func5, Tryd.ntmps5
  go_wp2_with (first
    | (go_at_call 10; (with_reducible refine (HA.out _ KB.out).mono ?_); rintro e' w1 ⟨rfl, hk⟩; have K1 := Lib.hid (Kp.trans KB.out hk); have R1 := Lib.hid (kp_row hk HR.out); obtain ⟨g0, g1⟩ := sides2 R1.out; clear hk)
    | (go_at_call 16; (with_reducible refine (HL.out _ K1.out).mono ?_); rintro e' w2 ⟨rfl, hk⟩; have K2 := Lib.hid (Kp.trans K1.out hk); have R2 := Lib.hid (kp_row hk R1.out); obtain ⟨h0, h1⟩ := sides2 R2.out; clear hk)
    | (go_at_call 17; (with_reducible refine (HG.out _).mono ?_); rintro e' w3 ⟨rfl, hk⟩; have K3 := Lib.hid (Kp.trans K2.out hk); have R3 := Lib.hid (kp_row hk R2.out); obtain ⟨i0, i1⟩ := sides2 R3.out; clear hk)
    | (go_at_call 18; (with_reducible refine (HH.out _).mono ?_); rintro e' w' ⟨rfl, rfl⟩)
    | (go_at_call 19; (with_reducible refine (HW.out _).mono ?_); rintro e' w' ⟨rfl, rfl⟩))
  go_ret
  exact ⟨by first | rfl | simp, K3.out⟩
theorem twaits_any (ads : List Addr) (p e s : Int) (hp : i64T p) (he : i64T e) (hs : i64T s) (w : World) (V : St ads w) (C : TabC ads w) :
    Calls Tryd.prog 5 #[.agg #[.int .i64 p, .int .i64 e], .int .i64 s] w fun e' w' => e' = .returned (.bool true) ∧ Kp w w' := by
  cases h : rightT p e with
  | false => exact twaits_right ads p e s hp he hs w V C h
  | true =>
    cases h2 : hasT p e s with
    | false => exact twaits_has ads p e s hp he hs w V C h h2
    | true => exact twaits_ok ads p e s hp he hs w C h h2
end Go.Proofs.YtoeidlhcioponaaDoor
