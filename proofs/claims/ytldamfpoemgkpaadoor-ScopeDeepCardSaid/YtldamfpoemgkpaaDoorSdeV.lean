/-
  ScopeDeep's WALK (own work).
-/
import Derived.Test.YtldamfpoemgkpaaDoorSalV
namespace Go.Proofs.YtldamfpoemgkpaaDoor
open Go.RowKit Go.ChangeShapes Go.WideShapes

theorem new_is9 {an aw o : Int} {t l : Nat} (h : (newX an aw o t l).1 = 0) : ∃ X, (newX an aw o t l).2 = ⟨an, aw, o, 0, X⟩ ∧ tmX X = true ∧ rightA an aw = true := by
  have hr := new_right9 h
  unfold newX at h hr ⊢
  split at h
  · cases h
  split at h
  · cases h
  rename_i g1 g2
  rw [if_neg g1, if_neg g2] at hr ⊢
  refine ⟨_, rfl, rightX_tm hr, ?_⟩
  cases q : rightA an aw with
  | true => rfl
  | false => exact absurd q g1
theorem right_in9 {an aw o d : Int} {X : Nat} (ha : rightA an aw = true) (ht : tmX X = true) (ho : o = 1 ∨ o = 2) (hd : 0 ≤ d ∧ d ≤ 3) : rightX ⟨an, aw, o, d, X⟩ = true := by
  unfold rightX outX
  dsimp only
  rw [ha, ht, decide_eq_true ho, decide_eq_true hd]
  rfl
theorem child_step9 {an aw o d : Int} {X : Nat} (ha : rightA an aw = true) (ht : tmX X = true) (ho : o = 1 ∨ o = 2) (hd : 0 ≤ d ∧ d ≤ 2) : childX ⟨an, aw, o, d, X⟩ an aw 1 = (0, ⟨an, aw, 1, d + 1, X⟩) := by
  unfold childX
  rw [right_in9 ha ht ho ⟨hd.1, by omega⟩, ha]
  rw [if_neg (by decide), if_neg (by decide), if_neg (by decide)]
  dsimp only
  rw [if_neg (by omega)]
theorem child_deep9 {an aw o : Int} {X : Nat} (ha : rightA an aw = true) (ht : tmX X = true) (ho : o = 1 ∨ o = 2) : childX ⟨an, aw, o, 3, X⟩ an aw 1 = (11, noX) := by
  unfold childX
  rw [right_in9 ha ht ho (by decide), ha]
  rw [if_neg (by decide), if_neg (by decide), if_neg (by decide)]
  dsimp only
  rw [if_pos (by decide)]
theorem open_in9 {an aw o d : Int} {X nw : Nat} (ha : rightA an aw = true) (ht : tmX X = true) (ho : o = 1 ∨ o = 2) (hd : 0 ≤ d ∧ d ≤ 3) : openX ⟨an, aw, o, d, X⟩ nw = (Fl.dl nw && decide (Fl.plain nw < X)) := by
  unfold openX
  rw [right_in9 ha ht ho hd]
  rfl
set_option maxRecDepth 100000 in
set_option maxHeartbeats 4000000 in
theorem deep_bad (ads : List Addr) (an aw : Int) (t l nw : Nat) (ht : t < 18446744073709551616) (hl : l < 18446744073709551616) (w : World) (S : ScoC ads w) (h0 : (newX an aw 2 t l).1 ≠ 0) :
    Calls Tryd.prog 5 #[.agg #[.int .i64 an, .int .i64 aw], .agg #[.float .f64 t, .float .f64 l], .float .f64 nw] w fun e w' => e = .returned (.bool true) ∧ Kp w w' := by
  have HN := fun w1 (hk : Kp w w1) => S.new w1 hk an aw 2 t l ht hl
  obtain ⟨q, hq⟩ := errI_some9 ads _ h0
  rw [hq] at HN
  obtain ⟨M, hM⟩ : ∃ y, (newX an aw 2 t l).2 = y := ⟨_, rfl⟩
  rw [hM] at HN
  obtain ⟨n, s, o, d, x⟩ := M
  dsimp only [CX.cells] at HN
  have HN := Lib.hid HN
  have HA := Lib.hid (fun w1 (hk : Kp w w1) => alive9_any ads w1 (ScoC.kp S hk))
  have KB := Lib.hid (Kp.trans (kp_alloc w (.cells #[.int .i64 an, .int .i64 aw] 23)) (kp_alloc (w.alloc (.cells #[.int .i64 an, .int .i64 aw] 23)) (.cells #[.float .f64 t, .float .f64 l] 26)))
  have HAc := Lib.hid (new5_0 w (.cells #[.int .i64 an, .int .i64 aw] 23) (.cells #[.float .f64 t, .float .f64 l] 26))
  have HTm := Lib.hid (new5_1 w (.cells #[.int .i64 an, .int .i64 aw] 23) (.cells #[.float .f64 t, .float .f64 l] 26))
  clear hq hM h0 S ht hl
  have hsf := store_fl
  go_enter Tryd.func5, Tryd.ntmps5
  go_wp2_with (first
    | (go_at_call 7; (with_reducible refine (HA.out _ KB.out).mono ?_); rintro e w1 ⟨rfl, hk⟩; have KK := Lib.hid (Kp.trans KB.out hk); have A1 := Lib.hid (kp_row hk HAc.out); have T1 := Lib.hid (kp_row hk HTm.out); have a0 := two9_0 A1.out; have a1 := two9_1 A1.out; have t0 := two9_0 T1.out; have t1 := two9_1 T1.out; clear hk)
    | (go_at_call 8; (with_reducible refine (HN.out _ KK.out).mono ?_); rintro e w2 ⟨rfl, hk⟩; have KK := Lib.hid (Kp.trans KK.out (Kp.trans hk (kp_alloc w2 (.cells #[.int .i64 n, .int .i64 s, .int .i64 o, .int .i64 d, .float .f64 x] 29)))); clear hk))
  go_ret
  exact ⟨by first | rfl | simp, KK.out⟩
set_option maxRecDepth 100000 in
set_option maxHeartbeats 8000000 in
theorem deep_ok (ads : List Addr) (an aw : Int) (t l nw : Nat) (ht : t < 18446744073709551616) (hl : l < 18446744073709551616) (hn : nw < 18446744073709551616) (w : World) (V : St ads w) (S : ScoC ads w) (X : Nat) (hX : newX an aw 2 t l = (0, ⟨an, aw, 2, 0, X⟩)) (hA : rightA an aw = true) (hT : tmX X = true) :
    Calls Tryd.prog 5 #[.agg #[.int .i64 an, .int .i64 aw], .agg #[.float .f64 t, .float .f64 l], .float .f64 nw] w fun e w' => e = .returned (.bool true) ∧ Kp w w' := by
  have hXw : X < 18446744073709551616 := by have := tmX_le hT; omega
  have HN := fun w1 (hk : Kp w w1) => S.new w1 hk an aw 2 t l ht hl
  rw [hX] at HN
  simp only [errI_nil] at HN
  have HCH := fun (o d : Int) (ho : o = 1 ∨ o = 2) (hd : 0 ≤ d ∧ d ≤ 2) (w1 : World) (hk : Kp w w1) => (by
    have := S.child w1 hk ⟨an, aw, o, d, X⟩ an aw 1 hXw
    rw [child_step9 hA hT ho hd] at this
    simp only [errI_nil] at this
    exact this : Calls Tryd.prog 13 #[.agg #[.int .i64 an, .int .i64 aw, .int .i64 o, .int .i64 d, .float .f64 X], .agg #[.int .i64 an, .int .i64 aw], .int .i64 1] w1 fun e w' => e = .returned (.tuple #[.agg #[.int .i64 an, .int .i64 aw, .int .i64 1, .int .i64 (d + 1), .float .f64 X], .nilIface]) ∧ Kp w1 w')
  obtain ⟨q11, h11⟩ := errI_some9 ads 11 (by decide)
  have HCD := fun (o : Int) (ho : o = 1 ∨ o = 2) (w1 : World) (hk : Kp w w1) => (by
    have := S.child w1 hk ⟨an, aw, o, 3, X⟩ an aw 1 hXw
    rw [child_deep9 hA hT ho] at this
    simp only [h11] at this
    exact this : Calls Tryd.prog 13 #[.agg #[.int .i64 an, .int .i64 aw, .int .i64 o, .int .i64 3, .float .f64 X], .agg #[.int .i64 an, .int .i64 aw], .int .i64 1] w1 fun e w' => e = .returned (.tuple #[.agg #[.int .i64 0, .int .i64 0, .int .i64 0, .int .i64 0, .float .f64 0], .iface 115 (.pointer q11)]) ∧ Kp w1 w')
  have HU := fun w1 (hk : Kp w w1) => num_errN ads w1 (V.below hk) 11 (by decide) (by decide)
  rw [h11] at HU
  obtain ⟨ob, hob⟩ : ∃ y, (Fl.dl nw && decide (Fl.plain nw < X)) = y := ⟨_, rfl⟩
  have HO := fun (o d : Int) (ho : o = 1 ∨ o = 2) (hd : 0 ≤ d ∧ d ≤ 3) (w1 : World) (hk : Kp w w1) => (by
    have := S.opn w1 hk ⟨an, aw, o, d, X⟩ nw hXw hn
    rw [open_in9 hA hT ho hd, hob] at this
    exact this : Calls Tryd.prog 16 #[.agg #[.int .i64 an, .int .i64 aw, .int .i64 o, .int .i64 d, .float .f64 X], .float .f64 nw] w1 fun e w' => e = .returned (.bool ob) ∧ Kp w1 w')
  dsimp only [CX.cells] at HN
  have HO1 := Lib.hid (HO 2 0 (.inr rfl) (by decide))
  have HN := Lib.hid HN
  have HCH := Lib.hid HCH
  have HCD := Lib.hid HCD
  have HU := Lib.hid HU
  have HO := Lib.hid HO
  have HA := Lib.hid (fun w1 (hk : Kp w w1) => alive9_any ads w1 (ScoC.kp S hk))
  have KB := Lib.hid (Kp.trans (kp_alloc w (.cells #[.int .i64 an, .int .i64 aw] 23)) (kp_alloc (w.alloc (.cells #[.int .i64 an, .int .i64 aw] 23)) (.cells #[.float .f64 t, .float .f64 l] 26)))
  have HAc := Lib.hid (new5_0 w (.cells #[.int .i64 an, .int .i64 aw] 23) (.cells #[.float .f64 t, .float .f64 l] 26))
  have HTm := Lib.hid (new5_1 w (.cells #[.int .i64 an, .int .i64 aw] 23) (.cells #[.float .f64 t, .float .f64 l] 26))
  clear hX hA hT hob h11 V S ht hl hn hXw
  have hsf := store_fl
  go_enter Tryd.func5, Tryd.ntmps5
  go_wp2_with (first
    | (go_at_call 7; (with_reducible refine (HA.out _ KB.out).mono ?_); rintro e w1 ⟨rfl, hk⟩; have KK := Lib.hid (Kp.trans KB.out hk); have A1 := Lib.hid (kp_row hk HAc.out); have T1 := Lib.hid (kp_row hk HTm.out); have a0 := two9_0 A1.out; have a1 := two9_1 A1.out; have t0 := two9_0 T1.out; have t1 := two9_1 T1.out; clear hk)
    | (go_at_call 8; (with_reducible refine (HN.out _ KK.out).mono ?_); rintro e w2 ⟨rfl, hk⟩; have hk2 := Kp.trans hk (kp_alloc w2 (.cells #[.int .i64 an, .int .i64 aw, .int .i64 2, .int .i64 0, .float .f64 X] 29)); have hsz := Below.size (Kp.trans KK.out hk); have KK := Lib.hid (Kp.trans KK.out hk2); have A2 := Lib.hid (kp_row hk2 A1.out); have B2 := Lib.hid (MapKept.heap_alloc w2 (.cells #[.int .i64 an, .int .i64 aw, .int .i64 2, .int .i64 0, .float .f64 X] 29)).1; obtain ⟨b0, b1, b2, b3, b4⟩ := cells5 (B2.out); clear hk hk2)
    | (go_at_call 16; (with_reducible refine (HO1.out _ KK.out).mono ?_); rintro e w3 ⟨rfl, hk⟩; have K3 := Lib.hid (Kp.trans KK.out hk); have A3 := Lib.hid (kp_row hk A2.out); have B3 := Lib.hid (kp_row hk B2.out); clear hk))
  clear a0 a1 t0 t1 b0 b1 b2 b3 b4
  obtain ⟨pc, hpc⟩ : ∃ y, w2.heap.size = y := ⟨_, rfl⟩
  rw [hpc] at B3 hsz ⊢
  have HSZ := Lib.hid hsz
  have hne : w.heap.size ≠ pc := by
    have h1 := old_of_row A1.out
    have h2 := old_of_row HAc.out
    intro q
    have h3 := (MapKept.heap_alloc w2 (.cells #[.int .i64 an, .int .i64 aw, .int .i64 2, .int .i64 0, .float .f64 X] 29)).1
    rw [hpc, ← q] at h3
    have h4 := A2.out
    rw [h4] at h3
    cases h3
  have HNE := Lib.hid hne
  clear hpc hsz hne
  go_loopw [26] (fun i wr => ∃ (j : Nat) (o : Int), j ≤ 3 ∧ i = .int .i64 j ∧ (o = 1 ∨ o = 2) ∧ Kp w wr ∧ wr.heap[w.heap.size]? = some (.cells #[.int .i64 an, .int .i64 aw] 23) ∧ wr.heap[pc]? = some (.cells #[.int .i64 an, .int .i64 aw, .int .i64 o, .int .i64 j, .float .f64 X] 29)) (fun i _ => 3 - (intOf i).toNat)
  case atStart => exact ⟨0, 2, by decide, rfl, .inr rfl, K3.out, A3.out, B3.out⟩
  case round =>
    obtain ⟨j, o, hj, rfl, ho, hk, hra, hrb⟩ := hrel
    obtain ⟨jj, hjj⟩ : ∃ jj : Int, (j : Int) = jj := ⟨_, rfl⟩
    rw [hjj] at hrb ⊢
    have a0 := two9_0 hra
    have a1 := two9_1 hra
    obtain ⟨b0, b1, b2, b3, b4⟩ := cells5 (hrb)
    have HK := Lib.hid hk
    have HRA := Lib.hid hra
    have HRB := Lib.hid hrb
    by_cases hlt : j < 3
    · have hltj : jj < 3 := by omega
      have j0 : 0 ≤ jj := by omega
      have HC1 := Lib.hid (HCH.out o jj ho ⟨by omega, by omega⟩)
      have HO2 := Lib.hid (HO.out 1 (jj + 1) (.inl rfl) ⟨by omega, by omega⟩)
      have HJ := Lib.hid hjj
      clear hk hra hrb hlt hjj ho
      go_wp2_with (first
        | (go_at_call 13; (with_reducible refine (HC1.out _ HK.out).mono ?_); rintro e w5 ⟨rfl, hk⟩; have Z5 := kp_row hk HRB.out; have RA5 := Lib.hid (show (((((w5.setCell ⟨pc, 0, none⟩ (.int .i64 an)).setCell ⟨pc, 1, none⟩ (.int .i64 aw)).setCell ⟨pc, 2, none⟩ (.int .i64 1)).setCell ⟨pc, 3, none⟩ (.int .i64 (jj + 1))).setCell ⟨pc, 4, none⟩ (.float .f64 X)).heap[w.heap.size]? = some (.cells #[.int .i64 an, .int .i64 aw] 23) by rw [Below.heap_setCell _ _ _ _ HNE.out, Below.heap_setCell _ _ _ _ HNE.out, Below.heap_setCell _ _ _ _ HNE.out, Below.heap_setCell _ _ _ _ HNE.out, Below.heap_setCell _ _ _ _ HNE.out]; exact kp_row hk HRA.out); have RB5 := Lib.hid (set5 (.int .i64 an) (.int .i64 aw) (.int .i64 1) (.int .i64 (jj + 1)) (.float .f64 X) Z5); obtain ⟨z0, z1, z2, z3, z4⟩ := cells5 (Z5); have fz := froz5 Z5; obtain ⟨e0, e1, e2, e3, e4⟩ := cells5 (RB5.out); have K5 := Lib.hid (set5_kp (Kp.trans HK.out hk) HSZ.out (.int .i64 an) (.int .i64 aw) (.int .i64 1) (.int .i64 (jj + 1)) (.float .f64 X)); clear hk Z5)
        | (go_at_call 16; (with_reducible refine (HO2.out _ K5.out).mono ?_); rintro e w6 ⟨rfl, hk⟩; have K6 := Lib.hid (Kp.trans K5.out hk); have RA6 := Lib.hid (kp_row hk RA5.out); have RB6 := Lib.hid (kp_row hk RB5.out); clear hk))
      have hjj := HJ.out
      go_roundw
      case rel => exact ⟨j + 1, 1, by omega, by congr 1; omega, .inl rfl, K6.out, RA6.out, by rw [show ((j + 1 : Nat) : Int) = jj + 1 by omega]; exact RB6.out⟩
      case measure => simp [intOf]; omega
    · obtain rfl : j = 3 := by omega
      obtain rfl : jj = 3 := by omega
      have HC2 := Lib.hid (HCD.out o ho)
      clear hk hra hrb hlt hjj ho
      go_wp2_with (first
        | (go_at_call 13; (with_reducible refine (HC2.out _ HK.out).mono ?_); rintro e w5 ⟨rfl, hk⟩; have K5 := Lib.hid (Kp.trans HK.out hk); have RB5 := Lib.hid (kp_row hk HRB.out); clear hk)
        | (go_at_call 11; (with_reducible refine (HU.out _ K5.out).mono ?_); rintro e w6 ⟨rfl, hk⟩; have K6 := Lib.hid (Kp.trans K5.out hk); have RB6 := Lib.hid (kp_row hk RB5.out); obtain ⟨g0, g1, g2, g3, g4⟩ := cells5 (RB6.out); clear hk))
      go_ret
      exact ⟨by first | rfl | simp, K6.out⟩
theorem deep_any (ads : List Addr) (an aw : Int) (t l nw : Nat) (ht : t < 18446744073709551616) (hl : l < 18446744073709551616) (hn : nw < 18446744073709551616) (w : World) (V : St ads w) (S : ScoC ads w) :
    Calls Tryd.prog 5 #[.agg #[.int .i64 an, .int .i64 aw], .agg #[.float .f64 t, .float .f64 l], .float .f64 nw] w fun e w' => e = .returned (.bool true) ∧ Kp w w' := by
  by_cases h0 : (newX an aw 2 t l).1 = 0
  · obtain ⟨X, h1, h2, h3⟩ := new_is9 h0
    exact deep_ok ads an aw t l nw ht hl hn w V S X (Prod.ext h0 h1) h3 h2
  · exact deep_bad ads an aw t l nw ht hl w S h0
end Go.Proofs.YtldamfpoemgkpaaDoor
