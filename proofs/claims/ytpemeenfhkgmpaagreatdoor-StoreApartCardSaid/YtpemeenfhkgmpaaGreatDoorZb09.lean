/-
  PARTS OF THIS PROOF (own work): FacV, FacX, OpX, TabM, MovM, StoM, StoP.
-/
import Derived.Test.YtpemeenfhkgmpaaGreatDoorZb08
import Derived.Test.YtpemeenfhkgmpaaGreatDoorZb03
import Derived.Test.YtpemeenfhkgmpaaGreatDoorZb02
import Derived.Test.YtpemeenfhkgmpaaGreatDoorZb01
import Derived.Laws.AppendOwnNone
import Derived.Laws.OwnMore
import Derived.Laws.Bits64b
import Derived.Lib.SliceRun
import Derived.StillTailTactics
import Derived.Test.YtpemeenfhkgmpaaGreatDoorZb04
import Derived.Lib.SmallJoins
import Derived.ChangeSame
namespace Go.Proofs.YtpemeenfhkgmpaaGreatDoor
open Go.RowKit Go.ChangeShapes Go.WideShapes

theorem rules_any (k : Int) (h : 1 ≤ k ∧ k ≤ 8) (B : Nat) (w : World) (hB : B < w.heap.size) : Calls Tryz.prog 63 #[.int .i64 k] w fun e w' => ∃ v, e = .returned v ∧ RuL B v (rulesM k) w' ∧ Kp w w' := by
  have hk : k = 1 ∨ k = 2 ∨ k = 3 ∨ k = 4 ∨ k = 5 ∨ k = 6 ∨ k = 7 ∨ k = 8 := by omega
  rcases hk with rfl | rfl | rfl | rfl | rfl | rfl | rfl | rfl
  · exact rules_1 B w hB
  · exact rules_2 B w hB
  · exact rules_3 B w hB
  · exact rules_4 B w hB
  · exact rules_5 B w hB
  · exact rules_6 B w hB
  · exact rules_7 B w hB
  · exact rules_8 B w hB
theorem rulesM_len (k : Int) : (rulesM k).length ≤ 5 := by
  unfold rulesM
  split
  · decide
  split
  · decide
  split
  · decide
  split
  · decide
  split
  · decide
  split
  · decide
  split
  · decide
  split <;> decide
theorem seat_call (B : Nat) (k n s r u p q o d a t hh c : Int) (x : Nat) (w : World) (hB : w.heap[B]? = some (.cells #[.int .i64 k, .int .i64 n, .int .i64 s, .int .i64 r, .int .i64 u, .int .i64 p, .int .i64 q, .int .i64 o, .int .i64 d, .int .i64 a, .int .i64 t, .int .i64 hh, .int .i64 c, .float .f64 x] 39 (0, 0))) :
    Calls Tryz.prog 105 #[.pointer (some ⟨B, 0, none⟩)] w fun e w' => e = .returned (.bool (seatX t hh)) ∧ w'.heap[B]? = some (.cells #[.int .i64 k, .int .i64 n, .int .i64 s, .int .i64 r, .int .i64 u, .int .i64 p, .int .i64 q, .int .i64 o, .int .i64 d, .int .i64 a, .int .i64 0, .int .i64 0, .int .i64 c, .float .f64 x] 39 (0, 0)) ∧ Xb B w w' := by
  by_cases h : 1 ≤ t ∧ t ≤ 14
  · exact seat_t B k n s r u p q o d a t hh c x w hB h
  · exact seat_f B k n s r u p q o d a t hh c x w hB h
/-- the rules of a list of numbers -/
theorem act_ru (ads : List Addr) (w0 : World) (V : St ads w0) (T : Tab w0) (B : Nat) (hB0 : w0.heap.size ≤ B) (l : List Int) (hl : l.length = 13) (y : Nat) (w : World) (K : Kp w0 w) (hB : w.heap[B]? = some (.cells (numsF l y) 39 (0, 0))) :
    Calls Tryz.prog 104 #[.pointer (some ⟨B, 0, none⟩)] w fun e w' => e = .returned (.bool (RuM.ok .act l y)) ∧ w'.heap[B]? = some (.cells (numsF (RuM.tkL .act l) y) 39 (0, 0)) ∧ Xb B w w' := by
  obtain ⟨k, n, s, r, u, p, q, o, d, a, t, hh, c, rfl⟩ := thirteen hl
  exact act_call ads w0 V T B hB0 k n s r u p q o d a t hh c y w K hB
theorem ctx_ru (ads : List Addr) (w0 : World) (V : St ads w0) (T : Tab w0) (B : Nat) (hB0 : w0.heap.size ≤ B) (l : List Int) (hl : l.length = 13) (y : Nat) (hy : y < 18446744073709551616) (w : World) (K : Kp w0 w) (hB : w.heap[B]? = some (.cells (numsF l y) 39 (0, 0))) :
    Calls Tryz.prog 103 #[.pointer (some ⟨B, 0, none⟩)] w fun e w' => e = .returned (.bool (RuM.ok .ctx l y)) ∧ w'.heap[B]? = some (.cells (numsF (RuM.tkL .ctx l) 0) 39 (0, 0)) ∧ Xb B w w' := by
  obtain ⟨k, n, s, r, u, p, q, o, d, a, t, hh, c, rfl⟩ := thirteen hl
  exact ctx_call ads w0 V T B hB0 k n s r u p q o d a t hh c y w K hB hy
theorem seat_ru (B : Nat) (l : List Int) (hl : l.length = 13) (y : Nat) (w : World) (hB : w.heap[B]? = some (.cells (numsF l y) 39 (0, 0))) :
    Calls Tryz.prog 105 #[.pointer (some ⟨B, 0, none⟩)] w fun e w' => e = .returned (.bool (RuM.ok .seat l y)) ∧ w'.heap[B]? = some (.cells (numsF (RuM.tkL .seat l) y) 39 (0, 0)) ∧ Xb B w w' := by
  obtain ⟨k, n, s, r, u, p, q, o, d, a, t, hh, c, rfl⟩ := thirteen hl
  exact seat_call B k n s r u p q o d a t hh c y w hB
def RuM.safe : RuM → Prop
  | .rg tag _ _ => 2 ≤ tag
  | _ => True
theorem rulesM_safe (k : Int) : ∀ r ∈ rulesM k, r.safe := by
  have hs : ∀ (l : List RuM), (l.all fun r => match r with | .rg tag _ _ => decide (2 ≤ tag) | _ => true) = true → ∀ r ∈ l, r.safe := by
    intro l h r hr
    have := List.all_eq_true.1 h r hr
    cases r with
    | rg tag lo hi => exact (of_decide_eq_true this : 2 ≤ tag)
    | act => trivial
    | ctx => trivial
    | seat => trivial
  refine hs _ ?_
  unfold rulesM
  split
  · decide
  split
  · decide
  split
  · decide
  split
  · decide
  split
  · decide
  split
  · decide
  split
  · decide
  split <;> decide
theorem safe_head {r : RuM} (h : r.safe) (l : List Int) : (r.tkL l).getD 0 0 = l.getD 0 0 := by
  cases r with
  | rg tag lo hi =>
    have h2 : 2 ≤ tag := h
    simp only [RuM.tkL, List.getD]
    rw [List.getElem?_set_ne (by omega)]
  | act => simp [RuM.tkL, List.getD]
  | ctx => simp [RuM.tkL, List.getD]
  | seat => simp [RuM.tkL, List.getD]
/-- where Right stands between two rules -/
structure RiS (k : Int) (w0 : World) (B : Nat) (g : Nat) (rs : List RuM) (o : Option (List Int × Nat)) (j : Nat) (wr : World) : Prop where
  kW : Kp w0 wr
  lst : RuL B (.slice (some ⟨g, 0, none⟩) rs.length rs.length) rs wr
  ex : ∃ l x, l.length = 13 ∧ l.getD 0 0 = k ∧ x < 18446744073709551616 ∧ wr.heap[B]? = some (.cells (numsF l x) 39 (0, 0)) ∧ o = runR (rs.drop j) l x
set_option maxRecDepth 100000 in
theorem facRight_far (f : FX) (w : World) (hk : ¬ (1 ≤ f.k ∧ f.k ≤ 8)) : Calls Tryz.prog 27 #[.agg f.cells] w fun e w' => e = .returned (.bool (rightF f)) ∧ Kp w w' := by
  rw [right_far hk]
  obtain ⟨k, n, s, r, u, p, q, o, d, a, t, hh, c, x⟩ := f
  dsimp only [FX.cells] at hk ⊢
  have HR := Lib.hid (MapKept.heap_alloc w (.cells #[.int .i64 k, .int .i64 n, .int .i64 s, .int .i64 r, .int .i64 u, .int .i64 p, .int .i64 q, .int .i64 o, .int .i64 d, .int .i64 a, .int .i64 t, .int .i64 hh, .int .i64 c, .float .f64 x] 39)).1
  obtain ⟨b0, b1, b2, b3, b4, b5, b6, b7, b8, b9, b10, b11, b12, b13⟩ := cells14 HR.out
  have K := Lib.hid (kp_alloc w (.cells #[.int .i64 k, .int .i64 n, .int .i64 s, .int .i64 r, .int .i64 u, .int .i64 p, .int .i64 q, .int .i64 o, .int .i64 d, .int .i64 a, .int .i64 t, .int .i64 hh, .int .i64 c, .float .f64 x] 39))
  have h1 : decide (1 ≤ k ∧ k ≤ 8) = false := decide_eq_false hk
  have HW := Lib.hid (fun w1 => within_any k 1 8 w1)
  simp only [h1] at HW
  clear hk h1
  go_enter Tryz.func27, Tryz.ntmps27
  go_wp2_with (go_at_call 62; (with_reducible refine (HW.out _).mono ?_); rintro e w' ⟨rfl, rfl⟩)
  go_ret
  exact ⟨rfl, K.out⟩
set_option maxRecDepth 100000 in
set_option maxHeartbeats 4000000 in
theorem facRight_in (ads : List Addr) (f : FX) (hf : f.wf) (w : World) (V : St ads w) (T : Tab w) (hk : 1 ≤ f.k ∧ f.k ≤ 8) : Calls Tryz.prog 27 #[.agg f.cells] w fun e w' => e = .returned (.bool (rightF f)) ∧ Kp w w' := by
  rw [right_rules hk]
  obtain ⟨B, hB⟩ : ∃ y, w.heap.size = y := ⟨_, rfl⟩
  have hr := (MapKept.heap_alloc w (.cells f.cells 39)).1
  have kb := kp_alloc w (.cells f.cells 39)
  have hs : B < (w.alloc (.cells f.cells 39)).heap.size := by rw [← hB]; simp
  rw [hB] at hr
  obtain ⟨nl, hnl⟩ : ∃ y, f.nums = y := ⟨_, rfl⟩
  have hll : nl.length = 13 := by rw [← hnl]; rfl
  have HNL := Lib.hid hnl
  obtain ⟨k, n, s, r, u, p, q, o, d, a, t, hh, c, x⟩ := f
  dsimp only [FX.cells] at hk hr kb hs ⊢
  have hr1 := hr.trans (show some (Obj.cells #[.int .i64 k, .int .i64 n, .int .i64 s, .int .i64 r, .int .i64 u, .int .i64 p, .int .i64 q, .int .i64 o, .int .i64 d, .int .i64 a, .int .i64 t, .int .i64 hh, .int .i64 c, .float .f64 x] 39 (0, 0)) = some (Obj.cells (numsF nl x) 39 (0, 0)) by rw [← hnl]; rfl)
  rw [hnl]
  obtain ⟨b0, b1, b2, b3, b4, b5, b6, b7, b8, b9, b10, b11, b12, b13⟩ := cells14 hr
  have h1 : decide (1 ≤ k ∧ k ≤ 8) = true := decide_eq_true hk
  have HW := Lib.hid (fun w1 => within_any k 1 8 w1)
  simp only [h1] at HW
  have HRU := rules_any k hk B _ hs
  have h5 := rulesM_len k
  have hsafe := rulesM_safe k
  obtain ⟨rs, hrs⟩ : ∃ y, rulesM k = y := ⟨_, rfl⟩
  rw [hrs] at HRU h5 hsafe ⊢
  have HSA := Lib.hid hsafe
  obtain ⟨nn, hn⟩ : ∃ y, rs.length = y := ⟨_, rfl⟩
  rw [hn] at h5
  have HN := Lib.hid hn
  have HRU2 : Calls Tryz.prog 63 #[.int .i64 k] (w.alloc (.cells #[.int .i64 k, .int .i64 n, .int .i64 s, .int .i64 r, .int .i64 u, .int .i64 p, .int .i64 q, .int .i64 o, .int .i64 d, .int .i64 a, .int .i64 t, .int .i64 hh, .int .i64 c, .float .f64 x] 39)) fun e w' => ∃ g, e = .returned (.slice (some ⟨g, 0, none⟩) nn nn) ∧ RuL B (.slice (some ⟨g, 0, none⟩) rs.length rs.length) rs w' ∧ Kp (w.alloc (.cells #[.int .i64 k, .int .i64 n, .int .i64 s, .int .i64 r, .int .i64 u, .int .i64 p, .int .i64 q, .int .i64 o, .int .i64 d, .int .i64 a, .int .i64 t, .int .i64 hh, .int .i64 c, .float .f64 x] 39)) w' :=
    HRU.mono (by
      rintro e w2 ⟨v, rfl, hv, hk2⟩
      obtain ⟨g, vs, rfl, h6⟩ := hv
      exact ⟨g, by rw [hn], ⟨g, vs, rfl, h6⟩, hk2⟩)
  have HRU2 := Lib.hid HRU2
  clear HRU
  have HR1 := Lib.hid hr1
  have KB := Lib.hid kb
  have HB := Lib.hid hB
  have V0 := Lib.hid V
  have T0 := Lib.hid T
  have HF := Lib.hid (show x < 18446744073709551616 from hf)
  have HLL := Lib.hid hll
  have HHD := Lib.hid (show nl.getD 0 0 = k by rw [← hnl]; rfl)
  clear hk h1 hnl hr hr1 kb hs hf V T hrs hn hll hsafe
  go_enter Tryz.func27, Tryz.ntmps27
  go_wp2_with (go_at_call 62; (with_reducible refine (HW.out _).mono ?_); rintro e w' ⟨rfl, rfl⟩)
  with_reducible refine HRU2.out.mono ?_
  rintro e w2 ⟨g, rfl, hv, hk2⟩
  have K2 := Lib.hid (Kp.trans KB.out hk2)
  have R2 := Lib.hid (kp_row hk2 HR1.out)
  have HV := Lib.hid hv
  clear hk2 hv
  go_wp2
  have HL : RiS k w B g rs (runR rs nl x) 0 w2 := ⟨K2.out, HV.out, nl, x, HLL.out, HHD.out, HF.out, R2.out, rfl⟩
  have HL := Lib.hid HL
  clear HRU2 R2 HV K2
  go_loopw [13] (fun i wr => ∃ j : Nat, j ≤ nn ∧ i = .int .i64 j ∧ RiS k w B g rs (runR rs nl x) j wr) (fun i _ => nn - (intOf i).toNat)
  case atStart => exact ⟨0, Nat.zero_le _, rfl, HL.out⟩
  case round =>
    obtain ⟨j, hj, rfl, hi⟩ := hrel
    obtain ⟨jj, hjj⟩ : ∃ jj : Int, (j : Int) = jj := ⟨_, rfl⟩
    rw [hjj]
    obtain ⟨kW, lst, l, y, hl, hk0, hy, hrow, hex⟩ := hi
    have KW := Lib.hid kW
    have LST := Lib.hid lst
    by_cases hlt : j < nn
    · have hjr : j < rs.length := by rw [HN.out]; exact hlt
      obtain ⟨g', vs, hv, hgB, hvl, ⟨ty, fr, hg⟩, hru⟩ := lst
      injection hv with hv1 _ _
      injection hv1 with hv2
      injection hv2 with hv3 _ _
      subst hv3
      have hjv : j < vs.length := by omega
      have hru1 := hru j vs[j] rs[j] (List.getElem?_eq_getElem hjv) (List.getElem?_eq_getElem hjr)
      have hdr : rs.drop j = rs[j] :: rs.drop (j + 1) := List.drop_eq_getElem_cons hjr
      rw [hdr, runR] at hex
      have hst := HSA.out rs[j] (List.getElem_mem hjr)
      have cv : wr.cell? ⟨g, j, none⟩ = some vs[j] := by
        unfold World.cell?
        dsimp only
        rw [hg]
        simp [hjv]
      obtain ⟨vj, hvj⟩ : ∃ z, vs[j] = z := ⟨_, rfl⟩
      obtain ⟨r0, hr0⟩ : ∃ z, rs[j] = z := ⟨_, rfl⟩
      rw [hvj] at cv hru1
      rw [hr0] at hru1 hex hst hdr
      have ej : jj.toNat = j := by omega
      rw [← ej] at cv
      have j0 : 0 ≤ jj := by omega
      have hltj : jj < nn := by omega
      clear hru hg hvl hgB hjv hvj hr0
      cases r0 with
      | rg tag lo hi =>
        obtain ⟨p0, q0, s0, rfl, hn0, ht0, hp0, hq0, hs0⟩ := hru1
        cases hok : RuM.ok (.rg tag lo hi) l y with
        | false =>
          rw [if_neg (by rw [hok]; decide)] at hex
          have HFA := Lib.hid (show leftF k (runR rs nl x) = false by rw [hex]; rfl)
          have HC := rg_call tag (tag : Int) lo hi rfl ht0 B p0 q0 s0 l y hl wr hrow hn0 hp0 hq0 hs0
          rw [hok] at HC
          have HC := Lib.hid HC
          clear hok hex hrow kW hjr hlt ej hjj hdr hl hy hk0 hst
          go_wp2_with (go_at_call 142; (with_reducible refine HC.out.mono ?_); rintro e w5 ⟨rfl, hb5, hx5⟩; have HX5 := Lib.hid hx5; clear hb5 hx5)
          go_ret
          exact ⟨by rw [HFA.out]; rfl, HX5.out.below (Nat.le_of_eq HB.out) KW.out⟩
        | true =>
          rw [if_pos hok] at hex
          have HEX := Lib.hid hex
          have HC := rg_call tag (tag : Int) lo hi rfl ht0 B p0 q0 s0 l y hl wr hrow hn0 hp0 hq0 hs0
          rw [hok] at HC
          have HC := Lib.hid HC
          have HJ := Lib.hid hjj
          have HH2 := Lib.hid (show (RuM.tkL (.rg tag lo hi) l).getD 0 0 = k by rw [safe_head hst]; exact hk0)
          have HL2 := Lib.hid (show (RuM.tkL (.rg tag lo hi) l).length = 13 by rw [RuM.tkL_len]; exact hl)
          have HY2 := Lib.hid (RuM.tkX_wf (.rg tag lo hi) hy)
          clear hok hex hrow kW hjr ej hjj hdr hl hy hk0 hst
          go_wp2_with (go_at_call 142; (with_reducible refine HC.out.mono ?_); rintro e w5 ⟨rfl, hb5, hx5⟩; have HX5 := Lib.hid hx5; have HB5 := Lib.hid hb5; clear hb5 hx5)
          have hjj := HJ.out
          go_roundw
          case rel => exact ⟨j + 1, by omega, by congr 1; omega, HX5.out.below (Nat.le_of_eq HB.out) KW.out, LST.out.xb HX5.out, _, _, HL2.out, HH2.out, HY2.out, HB5.out, HEX.out⟩
          case measure => simp [intOf]; omega
      | act =>
        obtain rfl : vj = _ := hru1
        cases hok : RuM.ok .act l y with
        | false =>
          rw [if_neg (by rw [hok]; decide)] at hex
          have HFA := Lib.hid (show leftF k (runR rs nl x) = false by rw [hex]; rfl)
          have HC := act_ru ads w V0.out T0.out B (Nat.le_of_eq HB.out) l hl y wr kW hrow
          rw [hok] at HC
          have HC := Lib.hid HC
          clear hok hex hrow kW hjr hlt ej hjj hdr hl hy hk0 hst
          go_wp2_with (go_at_call 104; (with_reducible refine HC.out.mono ?_); rintro e w5 ⟨rfl, hb5, hx5⟩; have HX5 := Lib.hid hx5; clear hb5 hx5)
          go_ret
          exact ⟨by rw [HFA.out]; rfl, HX5.out.below (Nat.le_of_eq HB.out) KW.out⟩
        | true =>
          rw [if_pos hok] at hex
          have HEX := Lib.hid hex
          have HC := act_ru ads w V0.out T0.out B (Nat.le_of_eq HB.out) l hl y wr kW hrow
          rw [hok] at HC
          have HC := Lib.hid HC
          have HJ := Lib.hid hjj
          have HH2 := Lib.hid (show (RuM.tkL .act l).getD 0 0 = k by rw [safe_head hst]; exact hk0)
          have HL2 := Lib.hid (show (RuM.tkL .act l).length = 13 by rw [RuM.tkL_len]; exact hl)
          have HY2 := Lib.hid (RuM.tkX_wf .act hy)
          clear hok hex hrow kW hjr ej hjj hdr hl hy hk0 hst
          go_wp2_with (go_at_call 104; (with_reducible refine HC.out.mono ?_); rintro e w5 ⟨rfl, hb5, hx5⟩; have HX5 := Lib.hid hx5; have HB5 := Lib.hid hb5; clear hb5 hx5)
          have hjj := HJ.out
          go_roundw
          case rel => exact ⟨j + 1, by omega, by congr 1; omega, HX5.out.below (Nat.le_of_eq HB.out) KW.out, LST.out.xb HX5.out, _, _, HL2.out, HH2.out, HY2.out, HB5.out, HEX.out⟩
          case measure => simp [intOf]; omega
      | ctx =>
        obtain rfl : vj = _ := hru1
        cases hok : RuM.ok .ctx l y with
        | false =>
          rw [if_neg (by rw [hok]; decide)] at hex
          have HFA := Lib.hid (show leftF k (runR rs nl x) = false by rw [hex]; rfl)
          have HC := ctx_ru ads w V0.out T0.out B (Nat.le_of_eq HB.out) l hl y hy wr kW hrow
          rw [hok] at HC
          have HC := Lib.hid HC
          clear hok hex hrow kW hjr hlt ej hjj hdr hl hy hk0 hst
          go_wp2_with (go_at_call 103; (with_reducible refine HC.out.mono ?_); rintro e w5 ⟨rfl, hb5, hx5⟩; have HX5 := Lib.hid hx5; clear hb5 hx5)
          go_ret
          exact ⟨by rw [HFA.out]; rfl, HX5.out.below (Nat.le_of_eq HB.out) KW.out⟩
        | true =>
          rw [if_pos hok] at hex
          have HEX := Lib.hid hex
          have HC := ctx_ru ads w V0.out T0.out B (Nat.le_of_eq HB.out) l hl y hy wr kW hrow
          rw [hok] at HC
          have HC := Lib.hid HC
          have HJ := Lib.hid hjj
          have HH2 := Lib.hid (show (RuM.tkL .ctx l).getD 0 0 = k by rw [safe_head hst]; exact hk0)
          have HL2 := Lib.hid (show (RuM.tkL .ctx l).length = 13 by rw [RuM.tkL_len]; exact hl)
          have HY2 := Lib.hid (RuM.tkX_wf .ctx hy)
          clear hok hex hrow kW hjr ej hjj hdr hl hy hk0 hst
          go_wp2_with (go_at_call 103; (with_reducible refine HC.out.mono ?_); rintro e w5 ⟨rfl, hb5, hx5⟩; have HX5 := Lib.hid hx5; have HB5 := Lib.hid hb5; clear hb5 hx5)
          have hjj := HJ.out
          go_roundw
          case rel => exact ⟨j + 1, by omega, by congr 1; omega, HX5.out.below (Nat.le_of_eq HB.out) KW.out, LST.out.xb HX5.out, _, _, HL2.out, HH2.out, HY2.out, HB5.out, HEX.out⟩
          case measure => simp [intOf]; omega
      | seat =>
        obtain rfl : vj = _ := hru1
        cases hok : RuM.ok .seat l y with
        | false =>
          rw [if_neg (by rw [hok]; decide)] at hex
          have HFA := Lib.hid (show leftF k (runR rs nl x) = false by rw [hex]; rfl)
          have HC := seat_ru B l hl y wr hrow
          rw [hok] at HC
          have HC := Lib.hid HC
          clear hok hex hrow kW hjr hlt ej hjj hdr hl hy hk0 hst
          go_wp2_with (go_at_call 105; (with_reducible refine HC.out.mono ?_); rintro e w5 ⟨rfl, hb5, hx5⟩; have HX5 := Lib.hid hx5; clear hb5 hx5)
          go_ret
          exact ⟨by rw [HFA.out]; rfl, HX5.out.below (Nat.le_of_eq HB.out) KW.out⟩
        | true =>
          rw [if_pos hok] at hex
          have HEX := Lib.hid hex
          have HC := seat_ru B l hl y wr hrow
          rw [hok] at HC
          have HC := Lib.hid HC
          have HJ := Lib.hid hjj
          have HH2 := Lib.hid (show (RuM.tkL .seat l).getD 0 0 = k by rw [safe_head hst]; exact hk0)
          have HL2 := Lib.hid (show (RuM.tkL .seat l).length = 13 by rw [RuM.tkL_len]; exact hl)
          have HY2 := Lib.hid (RuM.tkX_wf .seat hy)
          clear hok hex hrow kW hjr ej hjj hdr hl hy hk0 hst
          go_wp2_with (go_at_call 105; (with_reducible refine HC.out.mono ?_); rintro e w5 ⟨rfl, hb5, hx5⟩; have HX5 := Lib.hid hx5; have HB5 := Lib.hid hb5; clear hb5 hx5)
          have hjj := HJ.out
          go_roundw
          case rel => exact ⟨j + 1, by omega, by congr 1; omega, HX5.out.below (Nat.le_of_eq HB.out) KW.out, LST.out.xb HX5.out, _, _, HL2.out, HH2.out, HY2.out, HB5.out, HEX.out⟩
          case measure => simp [intOf]; omega
    · obtain rfl : j = nn := by omega
      rw [List.drop_of_length_le (by rw [HN.out]; omega), runR] at hex
      obtain ⟨k1, n1, s1, r1, u1, p1, q1, o1, d1, a1, t1, hh1, c1, rfl⟩ := thirteen hl
      obtain rfl : k1 = k := hk0
      have HEX := Lib.hid hex
      obtain ⟨m0, m1, m2, m3, m4, m5, m6, m7, m8, m9, m10, m11, m12, m13⟩ := cells14 (show wr.heap[B]? = some (.cells #[.int .i64 k1, .int .i64 n1, .int .i64 s1, .int .i64 r1, .int .i64 u1, .int .i64 p1, .int .i64 q1, .int .i64 o1, .int .i64 d1, .int .i64 a1, .int .i64 t1, .int .i64 hh1, .int .i64 c1, .float .f64 y] 39 (0, 0)) from hrow)
      have hq := fun w1 => fct_eql ⟨k1, n1, s1, r1, u1, p1, q1, o1, d1, a1, t1, hh1, c1, y⟩ ⟨k1, 0, 0, 0, 0, 0, 0, 0, 0, 0, 0, 0, 0, 0⟩ w1
      have hgd := fun (op : BinOp) (xx yy : Operand) w1 => fct_guard op xx yy ⟨k1, n1, s1, r1, u1, p1, q1, o1, d1, a1, t1, hh1, c1, y⟩ ⟨k1, 0, 0, 0, 0, 0, 0, 0, 0, 0, 0, 0, 0, 0⟩ w1
      dsimp only [FX.cells] at hq hgd
      have e1 := ext_bits
      have HV : leftF k1 (runR rs nl x) = ((decide (FX.nums ⟨k1, n1, s1, r1, u1, p1, q1, o1, d1, a1, t1, hh1, c1, y⟩ = FX.nums ⟨k1, 0, 0, 0, 0, 0, 0, 0, 0, 0, 0, 0, 0, 0⟩) && feqF y 0) && ((y : Int) == 0)) := by
        rw [HEX.out]
        unfold leftF
        dsimp only [FX.nums]
        by_cases y0 : y = 0
        · subst y0
          rw [feqF_00]
          simp
        · have g1 : decide (y = 0) = false := decide_eq_false y0
          have g2 : ((y : Int) == 0) = false := by simpa using y0
          rw [g1, g2, Bool.and_false, Bool.and_false]
      obtain ⟨bb, hbb⟩ : ∃ z, (decide (FX.nums ⟨k1, n1, s1, r1, u1, p1, q1, o1, d1, a1, t1, hh1, c1, y⟩ = FX.nums ⟨k1, 0, 0, 0, 0, 0, 0, 0, 0, 0, 0, 0, 0, 0⟩) && feqF y 0) = z := ⟨_, rfl⟩
      rw [hbb] at hq HV
      have HVH := Lib.hid HV
      have hex2 : ¬ jj < j := by omega
      clear HV hbb hex hrow kW lst hl hy hlt hjj
      cases bb with
      | false =>
        go_wp2
        go_ret
        exact ⟨by rw [HVH.out]; rfl, KW.out⟩
      | true =>
        go_wp2
        go_ret
        exact ⟨by rw [HVH.out]; rfl, KW.out⟩
theorem facRight_any (ads : List Addr) (f : FX) (hf : f.wf) (w : World) (V : St ads w) (T : Tab w) : Calls Tryz.prog 27 #[.agg f.cells] w fun e w' => e = .returned (.bool (rightF f)) ∧ Kp w w' := by
  by_cases hk : 1 ≤ f.k ∧ f.k ≤ 8
  · exact facRight_in ads f hf w V T hk
  · exact facRight_far f w hk
open Go.RowKit Go.ChangeShapes Go.WideShapes

theorem facC_of (ads : List Addr) (W : World) (V : St ads W) (T : Tab W) : FacC ads W where
  right := fun w1 hk f hf => facRight_any ads f hf w1 (V.below hk) (T.kp hk)
open Go.RowKit Go.ChangeShapes Go.WideShapes

set_option maxRecDepth 100000 in
theorem one_int9 {H : Type} {enc : TypeId × Value → H} {W : World} {n : Nat} {cs : List Value} {y : DataW H × List MemPlace} {v : Value} (h : DataW.trod enc Tryz.prog W 0 (fun _ => true) true n 3 cs = some y) (hc : cs = [v]) : ∃ x : Int, v = .int .i64 x := by
  obtain ⟨x, e, _, _⟩ := DataW.trod_int Tryz.underlying3 h
  rw [hc] at e
  exact ⟨x, by simpa using e⟩
set_option maxRecDepth 100000 in
theorem one_float9 {H : Type} {enc : TypeId × Value → H} {W : World} {n : Nat} {cs : List Value} {y : DataW H × List MemPlace} {v : Value} (h : DataW.trod enc Tryz.prog W 0 (fun _ => true) true n 37 cs = some y) (hc : cs = [v]) : ∃ x : Nat, v = .float .f64 x ∧ x < 18446744073709551616 := by
  rw [hc] at h
  cases n with
  | zero => simp [DataW.trod] at h
  | succ n =>
    unfold DataW.trod at h
    rw [Tryz.underlying37] at h
    split at h <;> simp_all
    rename_i hk
    subst hk
    simpa [Lit.wf] using h.1.2
open Go.RowKit

def rightT (p e : Int) : Bool := decide ((p = 1 ∨ p = 2) ∧ (e = 1 ∨ e = 2))
def hasT (p e s : Int) : Bool := if s = 4 ∨ s = 10 then decide (p = 2) else if s = 3 then decide (p = 2 ∧ e = 1) else decide (1 ≤ s ∧ s ≤ 14)
def failT (s : Int) : Bool := decide (8 ≤ s ∧ s ≤ 11)
def waitT (e s : Int) : Int :=
  if e = 1 then (if s = 2 ∨ s = 3 then 10 else if s = 4 then 2 else if s = 6 then 9 else if s = 7 then 11 else 0)
  else (if s = 5 then 3 else if failT s then 4 else if s = 12 then 5 else if s = 13 then 1 else 0)
def waitsT (p e s : Int) : Int × Int :=
  if rightT p e = false then (14, 0) else if hasT p e s = false then (1, 0) else (0, waitT e s)
open Go.RowKit

structure SeatM where
  (p e s h : Int)
deriving DecidableEq
def SeatM.right (z : SeatM) : Bool := rightT z.p z.e && hasT z.p z.e z.s && (if z.s = 14 then decide (z.h = 1 ∨ (4 ≤ z.h ∧ z.h ≤ 8)) else decide (z.h = 0))
structure RS where
  (c x : Int × Int) (h : List (Int × Int)) (w : List Int) (d : Bool)
deriving DecidableEq
open Go.RowKit

structure RgM where
  (node part : Int) (z : SeatM)
deriving DecidableEq
structure AcM where
  (c : CX) (par dec : Int) (regs : List RgM)
deriving DecidableEq
structure PaM where
  (n s reg : Int) (z : SeatM)
deriving DecidableEq
structure StM where
  (node next : Int) (acts : List AcM) (parts : List PaM)
deriving DecidableEq
def newSt (node : Int) : StM := ⟨node, 0, [], []⟩
def findS (l : List AcM) (n s : Int) : Option Nat := l.findIdx? fun a => decide (a.c.n = n ∧ a.c.s = s)
def childS (l : List AcM) (p : Int) : Option Nat := if p < 0 then none else l.findIdx? fun a => decide (a.par = p + 1)
/-- a seat with another state; none: it may not have it -/
def turnS (z : SeatM) (t h : Int) : Option SeatM := if z.s ≠ 14 ∧ SeatM.right ⟨z.p, z.e, t, h⟩ = true then some ⟨z.p, z.e, t, h⟩ else none
/-- what is about an activity; none: it may not -/
def actS (m : StM) (i : Nat) (a : AcM) (f : FX) : Option StM :=
  if f.k = 2 then
    if f.r ≠ a.regs.length ∨ a.dec ≠ 0 ∨ a.regs.any (fun g => decide (g.node = f.e ∧ g.part = f.p)) then none
    else some { m with acts := m.acts.set i { a with regs := a.regs ++ [⟨f.e, f.p, ⟨f.q, 1, 1, 0⟩⟩] } }
  else if f.k = 3 then
    match a.regs[f.r.toNat]? with
    | none => none
    | some g => (turnS g.z f.t f.h).map fun z => { m with acts := m.acts.set i { a with regs := a.regs.set f.r.toNat { g with z := z } } }
  else if f.k = 4 then
    if a.c.o ≠ 1 ∨ a.dec ≠ 0 then none else some { m with acts := m.acts.set i { a with dec := f.c } }
  else if f.k = 5 then
    if a.regs.any (fun g => decide (g.z.s ≠ 14)) then none else some { m with acts := m.acts.eraseIdx i }
  else some m
/-- WHAT A RIGHT FACT DOES; none: ErrState -/
def doS (m : StM) (f : FX) : Option StM :=
  if f.k = 1 then
    if f.n ≠ m.node ∨ f.s < m.next ∨ 8 ≤ m.acts.length ∨ (0 < f.a ∧ (m.parts.length < f.a ∨ (childS m.acts (f.a - 1)).isSome)) then none
    else some { m with acts := m.acts ++ [⟨ctxF f, f.a, 0, []⟩], next := f.s + 1 }
  else if f.k = 6 then
    if f.p ≠ m.parts.length then none else some { m with parts := m.parts ++ [⟨f.n, f.s, -1, ⟨f.q, 2, 1, 0⟩⟩] }
  else if f.k = 7 then
    match m.parts[f.p.toNat]? with
    | none => none
    | some x => if 0 ≤ x.reg then none else some { m with parts := m.parts.set f.p.toNat { x with reg := f.r } }
  else if f.k = 8 then
    match m.parts[f.p.toNat]? with
    | none => none
    | some x => (turnS x.z f.t f.h).map fun z => { m with parts := m.parts.set f.p.toNat { x with z := z } }
  else match findS m.acts f.n f.s with
    | none => none
    | some i => match m.acts[i]? with
      | none => none
      | some a => actS m i a f
def lastS (l : List AcM) : Int := (l.getLast?.map (·.c.s)).getD (-1)
open Go.RowKit

/-- a right seat of a side -/
def OkZ (z : SeatM) (e : Int) : Prop := z.right = true ∧ z.e = e
theorem OkZ.p {z : SeatM} {e : Int} (h : OkZ z e) : z.p = 1 ∨ z.p = 2 := by
  have := h.1
  simp [SeatM.right, rightT] at this
  exact this.1.1.1
def OkP (x : PaM) : Prop := rightA x.n x.s = true ∧ -1 ≤ x.reg ∧ x.reg ≤ 5 ∧ OkZ x.z 2
/-- a right registration -/
def OkG (g : RgM) : Prop := 0 ≤ g.node ∧ g.node ≤ 3 ∧ 0 ≤ g.part ∧ g.part ≤ 7 ∧ OkZ g.z 1
theorem rightX_act {c : CX} (h : rightX c = true) : rightA c.n c.s = true := by
  unfold rightX at h
  rw [Bool.and_eq_true] at h
  exact h.1
/-- a right activity of a node's -/
structure OkA (node : Int) (a : AcM) : Prop where
  n : a.c.n = node
  c : rightX a.c = true
  p0 : 0 ≤ a.par
  p8 : a.par ≤ 8
  l : a.regs.length ≤ 6
  g : ∀ g ∈ a.regs, OkG g
  d : a.regs.Pairwise (fun g h => ¬ (g.node = h.node ∧ g.part = h.part))
  e : a.dec = 0 ∨ ((a.dec = 1 ∨ a.dec = 2) ∧ a.c.o = 1)
def seqS : Int → List AcM → Prop
  | _, [] => True
  | nx, a :: l => nx ≤ a.c.s ∧ seqS (a.c.s + 1) l
def nextS : Int → List AcM → Int
  | nx, [] => nx
  | _, a :: l => nextS (a.c.s + 1) l
theorem nextS_last : ∀ (l : List AcM) (nx : Int), nextS nx l = if l = [] then nx else lastS l + 1
  | [], _ => rfl
  | [a], _ => rfl
  | a :: b :: l, nx => by
    have := nextS_last (b :: l) (a.c.s + 1)
    show nextS (a.c.s + 1) (b :: l) = _
    rw [this]
    simp [lastS]
/-- WHAT A STORE IS THAT CAME OF FACTS -/
structure OkS (m : StM) : Prop where
  n : 0 ≤ m.node ∧ m.node ≤ 3
  a : ∀ a ∈ m.acts, OkA m.node a
  par : ∀ a ∈ m.acts, a.par ≤ m.parts.length
  seq : seqS 0 m.acts
  dis : m.acts.Pairwise (fun x y => y.par ≠ 0 → x.par ≠ y.par)
  l8 : m.acts.length ≤ 8
  p : ∀ x ∈ m.parts, OkP x
  p8 : m.parts.length ≤ 8
  nx : lastS m.acts + 1 ≤ m.next
  last : lastS m.acts = m.next - 1 ∨ (m.acts.length ≤ 7 ∧ rightA m.node (m.next - 1) = true)
theorem seqS_lt : ∀ (l : List AcM) (nx : Int), seqS nx l → ∀ x ∈ l, x.c.s < nextS nx l
  | a :: l, nx, h, x, hx => by
    have hm : a.c.s + 1 ≤ nextS (a.c.s + 1) l := seqS_le l _ h.2
    rcases List.mem_cons.1 hx with rfl | hx
    · show _ < nextS (_ + 1) l
      omega
    · exact seqS_lt l _ h.2 x hx
 where seqS_le : ∀ (l : List AcM) (nx : Int), seqS nx l → nx ≤ nextS nx l
  | [], _, _ => Int.le_refl _
  | a :: l, nx, h => by
    have h1 := seqS_le l _ h.2
    have h2 := h.1
    show nx ≤ nextS (a.c.s + 1) l
    omega
end Go.Proofs.YtpemeenfhkgmpaaGreatDoor
