/-
  THE WALKS OF TablesLook, TablesSteps (own work).
-/
import Derived.Test.YtoeidlhcioponaaDoorTabC
import Derived.Test.YtoeidlhcioponaaDoorRefL
namespace Go.Proofs.YtoeidlhcioponaaDoor
open Go.RowKit Go.ChangeShapes Go.WideShapes

set_option maxRecDepth 100000 in
theorem tlook_any (ads : List Addr) (p e k s : Int) (hp : i64T p) (he : i64T e) (hk0 : i64T k) (hs : i64T s) (w : World) (V : St ads w) (C : TabC ads w) :
    Calls Tryd.prog 3 #[.agg #[.int .i64 p, .int .i64 e], .int .i64 k, .int .i64 s] w fun e' w' => e' = .returned (.bool true) ∧ Kp w w' := by
  have HL := fun w1 (hk : Kp w w1) => C.look w1 hk p e k s hp he hk0 hs
  have HF := fun w1 => refLook_any p e k s w1
  have hrg := lookT_rng p e k s
  have HN := fun w1 (hk : Kp w w1) => num_errN ads w1 (V.below hk) (lookT p e k s).1 hrg.1 hrg.2
  obtain ⟨⟨n, c0, c1, c2⟩, hm⟩ : ∃ y, lookT p e k s = y := ⟨_, rfl⟩
  rw [hm] at HL HF HN
  dsimp only [cellV] at HL HF HN
  obtain ⟨ev, hev⟩ : ∃ v, errI ads n = v := ⟨_, rfl⟩
  rw [hev] at HL HN
  have hq := rcell_eql c0 c1 c2 c0 c1 c2
  have hg := fun (op : BinOp) (x y : Operand) (w : World) => rcell_guard op x y c0 c1 c2 c0 c1 c2 w
  simp only [and_self, decide_true] at hq
  have HL := Lib.hid HL
  have HF := Lib.hid HF
  have HN := Lib.hid HN
  have HA := Lib.hid (fun w1 (hk : Kp w w1) => alive10_any ads w1 (TabC.kp C hk))
  have kb := kp_alloc w (.cells #[.int .i64 p, .int .i64 e] 23)
  have KB := Lib.hid kb
  have HR := Lib.hid (MapKept.heap_alloc w (.cells #[.int .i64 p, .int .i64 e] 23)).1
  clear V C hp he hk0 hs hm hev hrg kb
  go_enter Tryd.func3, Tryd.ntmps3
  go_wp2_with (first
    | (go_at_call 10; (with_reducible refine (HA.out _ KB.out).mono ?_); rintro e' w1 ⟨rfl, hk⟩; have K1 := Lib.hid (Kp.trans KB.out hk); have R1 := Lib.hid (kp_row hk HR.out); obtain ⟨g0, g1⟩ := sides2 R1.out; clear hk)
    | (go_at_call 11; (with_reducible refine (HL.out _ K1.out).mono ?_); rintro e' w2 ⟨rfl, hk⟩; have K2 := Lib.hid (Kp.trans K1.out (Kp.trans hk (kp_alloc w2 (.cells #[.int .i64 c0, .int .i64 c1, .int .i64 c2] 26)))); have R2 := Lib.hid (kp_row (Kp.trans hk (kp_alloc w2 (.cells #[.int .i64 c0, .int .i64 c1, .int .i64 c2] 26))) R1.out); have B2 := Lib.hid (MapKept.heap_alloc w2 (.cells #[.int .i64 c0, .int .i64 c1, .int .i64 c2] 26)).1; obtain ⟨h0, h1⟩ := sides2 R2.out; clear hk)
    | (go_at_call 12; (with_reducible refine (HF.out _).mono ?_); rintro e' w3 ⟨rfl, hk⟩; have K3 := Lib.hid (Kp.trans K2.out (Kp.trans hk (kp_alloc w3 (.cells #[.int .i64 c0, .int .i64 c1, .int .i64 c2] 31)))); have B3 := Lib.hid (kp_row (Kp.trans hk (kp_alloc w3 (.cells #[.int .i64 c0, .int .i64 c1, .int .i64 c2] 31))) B2.out); obtain ⟨b0, b1, b2⟩ := cells3 B3.out; clear hk)
    | (go_at_call 13; (with_reducible refine (HN.out _ K3.out).mono ?_); rintro e' w5 ⟨rfl, hk⟩; have K5 := Lib.hid (Kp.trans K3.out hk); clear hk))
  go_ret
  exact ⟨by first | rfl | simp, K5.out⟩
set_option maxRecDepth 100000 in
theorem tsteps_any (ads : List Addr) (p e k s : Int) (hp : i64T p) (he : i64T e) (hk0 : i64T k) (hs : i64T s) (w : World) (V : St ads w) (C : TabC ads w) (S : TabS ads w) :
    Calls Tryd.prog 4 #[.agg #[.int .i64 p, .int .i64 e], .int .i64 k, .int .i64 s] w fun e' w' => e' = .returned (.bool true) ∧ Kp w w' := by
  have HL := fun w1 (hk : Kp w w1) => S.step w1 hk p e k s hp he hk0 hs
  have HF := fun w1 => refStep_any p e k s w1
  have hrg := stepT_rng p e k s
  have HN := fun w1 (hk : Kp w w1) => num_errN ads w1 (V.below hk) (stepT p e k s).1 hrg.1 hrg.2
  obtain ⟨⟨n, c0⟩, hm⟩ : ∃ y, stepT p e k s = y := ⟨_, rfl⟩
  rw [hm] at HL HF HN
  dsimp only at HL HF HN
  obtain ⟨ev, hev⟩ : ∃ v, errI ads n = v := ⟨_, rfl⟩
  rw [hev] at HL HN
  have HL := Lib.hid HL
  have HF := Lib.hid HF
  have HN := Lib.hid HN
  have HA := Lib.hid (fun w1 (hk : Kp w w1) => alive10_any ads w1 (TabC.kp C hk))
  have kb := kp_alloc w (.cells #[.int .i64 p, .int .i64 e] 23)
  have KB := Lib.hid kb
  have HR := Lib.hid (MapKept.heap_alloc w (.cells #[.int .i64 p, .int .i64 e] 23)).1
  clear V C S hp he hk0 hs hm hev hrg kb
  go_enter Tryd.func4, Tryd.ntmps4
  go_wp2_with (first
    | (go_at_call 10; (with_reducible refine (HA.out _ KB.out).mono ?_); rintro e' w1 ⟨rfl, hk⟩; have K1 := Lib.hid (Kp.trans KB.out hk); have R1 := Lib.hid (kp_row hk HR.out); obtain ⟨g0, g1⟩ := sides2 R1.out; clear hk)
    | (go_at_call 14; (with_reducible refine (HL.out _ K1.out).mono ?_); rintro e' w2 ⟨rfl, hk⟩; have K2 := Lib.hid (Kp.trans K1.out hk); have R2 := Lib.hid (kp_row hk R1.out); obtain ⟨h0, h1⟩ := sides2 R2.out; clear hk)
    | (go_at_call 15; (with_reducible refine (HF.out _).mono ?_); rintro e' w' ⟨rfl, rfl⟩)
    | (go_at_call 13; (with_reducible refine (HN.out _ K2.out).mono ?_); rintro e' w5 ⟨rfl, hk⟩; have K5 := Lib.hid (Kp.trans K2.out hk); clear hk))
  go_ret
  exact ⟨by first | rfl | simp, K5.out⟩
end Go.Proofs.YtoeidlhcioponaaDoor
