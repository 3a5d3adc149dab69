/-
  ScopeNews' WALK (own work).
-/
import Derived.Test.YtldamfpoemgkpaaDoorSalV
namespace Go.Proofs.YtldamfpoemgkpaaDoor
open Go.RowKit Go.ChangeShapes Go.WideShapes

set_option maxRecDepth 100000 in
set_option maxHeartbeats 4000000 in
theorem news_ok (ads : List Addr) (an aw oc : Int) (t l : Nat) (ht : t < 18446744073709551616) (hl : l < 18446744073709551616) (w : World) (V : St ads w) (S : ScoC ads w) (h0 : (newX an aw oc t l).1 = 0) :
    Calls Tryd.prog 3 #[.agg #[.int .i64 an, .int .i64 aw], .int .i64 oc, .agg #[.float .f64 t, .float .f64 l]] w fun e w' => e = .returned (.bool true) ∧ Kp w w' := by
  have HA := Lib.hid (fun w1 (hk : Kp w w1) => alive9_any ads w1 (ScoC.kp S hk))
  have HN := fun w1 (hk : Kp w w1) => S.new w1 hk an aw oc t l ht hl
  have HF := fun w1 => refNew9_any an aw oc t l ht hl w1
  have hwf := new_wf9 an aw oc t l
  have hrg := new_num9 an aw oc t l
  have HU := fun w1 (hk : Kp w w1) => num_errN ads w1 (V.below hk) (newX an aw oc t l).1 hrg.1 hrg.2
  have hrt := new_right9 h0
  obtain ⟨M, hM⟩ : ∃ y, (newX an aw oc t l).2 = y := ⟨_, rfl⟩
  obtain ⟨k, hk0⟩ : ∃ y, (newX an aw oc t l).1 = y := ⟨_, rfl⟩
  rw [hM] at HN HF hwf hrt
  rw [hk0] at HN HF HU h0
  subst h0
  rw [errI_nil] at HN HU
  have HS := fun w1 => refSame9_any M M hwf hwf w1
  rw [same_refl9] at HS
  have HR := fun w1 (hk : Kp w w1) => S.right w1 hk M hwf
  rw [hrt] at HR
  obtain ⟨n, s, o, d, x⟩ := M
  dsimp only [CX.cells] at HN HF HS HR
  have HN := Lib.hid HN
  have HF := Lib.hid HF
  have HS := Lib.hid HS
  have HR := Lib.hid HR
  have HU := Lib.hid HU
  have kb := Kp.trans (kp_alloc w (.cells #[.int .i64 an, .int .i64 aw] 23)) (kp_alloc (w.alloc (.cells #[.int .i64 an, .int .i64 aw] 23)) (.cells #[.float .f64 t, .float .f64 l] 26))
  have KB := Lib.hid kb
  have HAc := Lib.hid (new5_0 w (.cells #[.int .i64 an, .int .i64 aw] 23) (.cells #[.float .f64 t, .float .f64 l] 26))
  have HTm := Lib.hid (new5_1 w (.cells #[.int .i64 an, .int .i64 aw] 23) (.cells #[.float .f64 t, .float .f64 l] 26))
  clear kb hwf hrg hM hk0 hrt V S
  have hsf := store_fl
  go_enter Tryd.func3, Tryd.ntmps3
  go_wp2_with (first
    | (go_at_call 7; (with_reducible refine (HA.out _ KB.out).mono ?_); rintro e w1 ⟨rfl, hk⟩; have KK := Lib.hid (Kp.trans KB.out hk); have A1 := Lib.hid (kp_row hk HAc.out); have T1 := Lib.hid (kp_row hk HTm.out); have a0 := two9_0 A1.out; have a1 := two9_1 A1.out; have t0 := two9_0 T1.out; have t1 := two9_1 T1.out; clear hk)
    | (go_at_call 8; (with_reducible refine (HN.out _ KK.out).mono ?_); rintro e w2 ⟨rfl, hk⟩; have KK := Lib.hid (Kp.trans KK.out (Kp.trans hk (kp_alloc w2 (.cells #[.int .i64 n, .int .i64 s, .int .i64 o, .int .i64 d, .float .f64 x] 29)))); have A2 := Lib.hid (kp_row (Kp.trans hk (kp_alloc w2 (.cells #[.int .i64 n, .int .i64 s, .int .i64 o, .int .i64 d, .float .f64 x] 29))) A1.out); have T2 := Lib.hid (kp_row (Kp.trans hk (kp_alloc w2 (.cells #[.int .i64 n, .int .i64 s, .int .i64 o, .int .i64 d, .float .f64 x] 29))) T1.out); have B2 := Lib.hid (MapKept.heap_alloc w2 (.cells #[.int .i64 n, .int .i64 s, .int .i64 o, .int .i64 d, .float .f64 x] 29)).1; have a0 := two9_0 A2.out; have a1 := two9_1 A2.out; have t0 := two9_0 T2.out; have t1 := two9_1 T2.out; clear hk)
    | (go_at_call 9; (with_reducible refine (HF.out _).mono ?_); rintro e w3 ⟨rfl, hk⟩; have KK := Lib.hid (Kp.trans KK.out (Kp.trans hk (kp_alloc w3 (.cells #[.int .i64 n, .int .i64 s, .int .i64 o, .int .i64 d, .float .f64 x] 29)))); have B3 := Lib.hid (kp_row (Kp.trans hk (kp_alloc w3 (.cells #[.int .i64 n, .int .i64 s, .int .i64 o, .int .i64 d, .float .f64 x] 29))) B2.out); obtain ⟨b0, b1, b2, b3, b4⟩ := cells5 (B3.out); clear hk)
    | (go_at_call 10; (with_reducible refine (HS.out _).mono ?_); rintro e w4 ⟨rfl, hk⟩; have KK := Lib.hid (Kp.trans KK.out hk); have B4 := Lib.hid (kp_row hk B3.out); clear hk)
    | (go_at_call 11; (with_reducible refine (HU.out _ KK.out).mono ?_); rintro e w5 ⟨rfl, hk⟩; have KK := Lib.hid (Kp.trans KK.out hk); have B5 := Lib.hid (kp_row hk B4.out); obtain ⟨c0, c1, c2, c3, c4⟩ := cells5 (B5.out); clear hk)
    | (go_at_call 12; (with_reducible refine (HR.out _ KK.out).mono ?_); rintro e w6 ⟨rfl, hk⟩; have KK := Lib.hid (Kp.trans KK.out hk); clear hk))
  go_ret
  exact ⟨by first | rfl | simp, KK.out⟩
set_option maxRecDepth 100000 in
set_option maxHeartbeats 4000000 in
theorem news_bad (ads : List Addr) (an aw oc : Int) (t l : Nat) (ht : t < 18446744073709551616) (hl : l < 18446744073709551616) (w : World) (V : St ads w) (S : ScoC ads w) (h0 : (newX an aw oc t l).1 ≠ 0) :
    Calls Tryd.prog 3 #[.agg #[.int .i64 an, .int .i64 aw], .int .i64 oc, .agg #[.float .f64 t, .float .f64 l]] w fun e w' => e = .returned (.bool true) ∧ Kp w w' := by
  have HA := Lib.hid (fun w1 (hk : Kp w w1) => alive9_any ads w1 (ScoC.kp S hk))
  have HN := fun w1 (hk : Kp w w1) => S.new w1 hk an aw oc t l ht hl
  have HF := fun w1 => refNew9_any an aw oc t l ht hl w1
  have hwf := new_wf9 an aw oc t l
  have hrg := new_num9 an aw oc t l
  have HU := fun w1 (hk : Kp w w1) => num_errN ads w1 (V.below hk) (newX an aw oc t l).1 hrg.1 hrg.2
  obtain ⟨q, hq⟩ := errI_some9 ads _ h0
  rw [hq] at HN HU
  obtain ⟨M, hM⟩ : ∃ y, (newX an aw oc t l).2 = y := ⟨_, rfl⟩
  obtain ⟨k, hk0⟩ : ∃ y, (newX an aw oc t l).1 = y := ⟨_, rfl⟩
  rw [hM] at HN HF hwf
  rw [hk0] at HF HU h0
  have HS := fun w1 => refSame9_any M M hwf hwf w1
  rw [same_refl9] at HS
  have HR := fun w1 (hk : Kp w w1) => S.right w1 hk M hwf
  obtain ⟨n, s, o, d, x⟩ := M
  dsimp only [CX.cells] at HN HF HS HR
  have HN := Lib.hid HN
  have HF := Lib.hid HF
  have HS := Lib.hid HS
  have HR := Lib.hid HR
  have HU := Lib.hid HU
  have kb := Kp.trans (kp_alloc w (.cells #[.int .i64 an, .int .i64 aw] 23)) (kp_alloc (w.alloc (.cells #[.int .i64 an, .int .i64 aw] 23)) (.cells #[.float .f64 t, .float .f64 l] 26))
  have KB := Lib.hid kb
  have HAc := Lib.hid (new5_0 w (.cells #[.int .i64 an, .int .i64 aw] 23) (.cells #[.float .f64 t, .float .f64 l] 26))
  have HTm := Lib.hid (new5_1 w (.cells #[.int .i64 an, .int .i64 aw] 23) (.cells #[.float .f64 t, .float .f64 l] 26))
  clear kb hwf hrg hM hq hk0 V S
  have hsf := store_fl
  go_enter Tryd.func3, Tryd.ntmps3
  go_wp2_with (first
    | (go_at_call 7; (with_reducible refine (HA.out _ KB.out).mono ?_); rintro e w1 ⟨rfl, hk⟩; have KK := Lib.hid (Kp.trans KB.out hk); have A1 := Lib.hid (kp_row hk HAc.out); have T1 := Lib.hid (kp_row hk HTm.out); have a0 := two9_0 A1.out; have a1 := two9_1 A1.out; have t0 := two9_0 T1.out; have t1 := two9_1 T1.out; clear hk)
    | (go_at_call 8; (with_reducible refine (HN.out _ KK.out).mono ?_); rintro e w2 ⟨rfl, hk⟩; have KK := Lib.hid (Kp.trans KK.out (Kp.trans hk (kp_alloc w2 (.cells #[.int .i64 n, .int .i64 s, .int .i64 o, .int .i64 d, .float .f64 x] 29)))); have A2 := Lib.hid (kp_row (Kp.trans hk (kp_alloc w2 (.cells #[.int .i64 n, .int .i64 s, .int .i64 o, .int .i64 d, .float .f64 x] 29))) A1.out); have T2 := Lib.hid (kp_row (Kp.trans hk (kp_alloc w2 (.cells #[.int .i64 n, .int .i64 s, .int .i64 o, .int .i64 d, .float .f64 x] 29))) T1.out); have B2 := Lib.hid (MapKept.heap_alloc w2 (.cells #[.int .i64 n, .int .i64 s, .int .i64 o, .int .i64 d, .float .f64 x] 29)).1; have a0 := two9_0 A2.out; have a1 := two9_1 A2.out; have t0 := two9_0 T2.out; have t1 := two9_1 T2.out; clear hk)
    | (go_at_call 9; (with_reducible refine (HF.out _).mono ?_); rintro e w3 ⟨rfl, hk⟩; have KK := Lib.hid (Kp.trans KK.out (Kp.trans hk (kp_alloc w3 (.cells #[.int .i64 n, .int .i64 s, .int .i64 o, .int .i64 d, .float .f64 x] 29)))); have B3 := Lib.hid (kp_row (Kp.trans hk (kp_alloc w3 (.cells #[.int .i64 n, .int .i64 s, .int .i64 o, .int .i64 d, .float .f64 x] 29))) B2.out); obtain ⟨b0, b1, b2, b3, b4⟩ := cells5 (B3.out); clear hk)
    | (go_at_call 10; (with_reducible refine (HS.out _).mono ?_); rintro e w4 ⟨rfl, hk⟩; have KK := Lib.hid (Kp.trans KK.out hk); have B4 := Lib.hid (kp_row hk B3.out); clear hk)
    | (go_at_call 11; (with_reducible refine (HU.out _ KK.out).mono ?_); rintro e w5 ⟨rfl, hk⟩; have KK := Lib.hid (Kp.trans KK.out hk); have B5 := Lib.hid (kp_row hk B4.out); obtain ⟨c0, c1, c2, c3, c4⟩ := cells5 (B5.out); clear hk)
    | (go_at_call 12; (with_reducible refine (HR.out _ KK.out).mono ?_); rintro e w6 ⟨rfl, hk⟩; have KK := Lib.hid (Kp.trans KK.out hk); clear hk))
  go_ret
  exact ⟨by first | rfl | simp, KK.out⟩
theorem news_any (ads : List Addr) (an aw oc : Int) (t l : Nat) (ht : t < 18446744073709551616) (hl : l < 18446744073709551616) (w : World) (V : St ads w) (S : ScoC ads w) :
    Calls Tryd.prog 3 #[.agg #[.int .i64 an, .int .i64 aw], .int .i64 oc, .agg #[.float .f64 t, .float .f64 l]] w fun e w' => e = .returned (.bool true) ∧ Kp w w' := by
  by_cases h0 : (newX an aw oc t l).1 = 0
  · exact news_ok ads an aw oc t l ht hl w V S h0
  · exact news_bad ads an aw oc t l ht hl w V S h0
end Go.Proofs.YtldamfpoemgkpaaDoor
