/-
  THE DOCUMENT's CLOCK (own work): Next.
-/
import Derived.Test.YtanbeaebdingeaaDoorRkA
namespace Go.Proofs.YtanbeaebdingeaaDoor
open Go.RowKit Go.ChangeShapes Go.WideShapes
variable {w0 w w' W w3 : World} {q : Nat} {c : CkM} {v v' : Value}

set_option maxRecDepth 100000 in
theorem rkNext_nil (H : Rk w0 q c v w) (h0 : c.ts = []) : Calls Tryd.prog 18 #[.pointer (some ⟨q, 0, none⟩)] w fun r w' => r = .returned (.tuple #[.float .f64 0, .bool false]) ∧ Kp w w' := by
  obtain ⟨av, cv, rfl⟩ := H.form
  have e1 : w.cell? ⟨q, 1, none⟩ = some (.slice av c.ts.length cv) := cell_row (i := 1) H.row rfl
  have KW := Lib.hid (Kp.refl w)
  rw [h0, List.length_nil] at e1
  clear H h0
  go_enter Tryd.func18, Tryd.ntmps18
  go_wp2
  go_ret2
  exact ⟨rfl, KW.out⟩
/-- an element's cells, as the walk meets them -/
theorem Rk.at5 (H : Rk w0 q c v w) {g cp m j : Nat} {jj : Int} (hv : v = .slice (some ⟨g, 0, none⟩) m cp) (hjj : jj.toNat = j) (hj : j < c.ts.length) {tk : List UInt8} {ta : Nat} {tn : Int} {tb tm : Nat} (ht : c.ts[j] = ⟨tk, ta, tn, tb, tm⟩) {s : ByteArray} (hs : (⟨tk.toArray⟩ : ByteArray) = s) :
    w.cell? ⟨g, jj.toNat * 5, none⟩ = some (.string s) ∧ w.cell? ⟨g, jj.toNat * 5 + 1, none⟩ = some (.float .f64 ta) ∧ w.cell? ⟨g, jj.toNat * 5 + 2, none⟩ = some (.int .i64 tn) ∧ w.cell? ⟨g, jj.toNat * 5 + 3, none⟩ = some (.float .f64 tb) ∧ w.cell? ⟨g, jj.toNat * 5 + 4, none⟩ = some (.float .f64 tm) := by
  obtain ⟨g', cp', ev, hc⟩ := H.cell hj
  rw [hv] at ev
  injection ev with ev _ _
  injection ev with ev
  injection ev with ev
  subst ev
  rw [ht] at hc
  subst hjj
  subst hs
  exact ⟨hc 0 _ (by decide) rfl, hc 1 _ (by decide) rfl, hc 2 _ (by decide) rfl, hc 3 _ (by decide) rfl, hc 4 _ (by decide) rfl⟩
set_option maxRecDepth 100000 in
set_option maxHeartbeats 1000000 in
theorem rkNext_some (H : Rk w0 q c v w) (ok : CkOk c) (h0 : c.ts ≠ []) : Calls Tryd.prog 18 #[.pointer (some ⟨q, 0, none⟩)] w fun r w' => ∃ m, NextIs c m ∧ r = .returned (.tuple #[.float .f64 m, .bool true]) ∧ Kp w w' := by
  have hpos : 0 < c.ts.length := List.length_pos_iff.2 h0
  obtain ⟨g, cp, ev, hc0⟩ := H.cell hpos
  subst ev
  have e1 : w.cell? ⟨q, 1, none⟩ = some (.slice (some ⟨g, 0, none⟩) c.ts.length cp) := cell_row (i := 1) H.row rfl
  obtain ⟨m, hm⟩ : ∃ m, c.ts.length = m := ⟨_, rfl⟩
  obtain ⟨L, hL⟩ : ∃ L : Int, (m : Int) = L := ⟨_, rfl⟩
  have h64 := ok.len
  obtain ⟨l0, hl0⟩ : ∃ x, (c.ts[0]).a = x := ⟨_, rfl⟩
  have t1 : w.cell? ⟨g, 1, none⟩ = some (.float .f64 l0) := by
    have := hc0 1 (.float .f64 (c.ts[0]).a) (by decide) rfl
    rw [hl0] at this
    simpa using this
  rw [hm] at e1
  have HH := Lib.hid H
  have OK := Lib.hid ok
  have HM := Lib.hid hm
  have HML := Lib.hid hL
  have HL0 := Lib.hid hl0
  have HP := Lib.hid hpos
  have L0 : (0 : Int) < L := by omega
  have b0 : (L == 0) = false := by rw [beq_eq_false_iff_ne]; omega
  have b1 : ¬ L = 0 := by omega
  have hLm : L ≤ 64 := by omega
  have hsf := store_fl
  clear H hm hc0 h0 h64 hl0 ok
  go_enter Tryd.func18, Tryd.ntmps18
  go_wp2
  go_loopw [4, 25] (fun x i wr => ∃ (j lm : Nat), j ≤ m ∧ i = .int .i64 j ∧ x = .float .f64 lm ∧ (∃ t ∈ c.ts, t.a = lm) ∧ (∀ p (hp : p < c.ts.length), p < j → lm ≤ (c.ts[p]).a) ∧ Kp w wr) (fun _ i _ => m - (intOf i).toNat)
  case atStart => exact ⟨0, l0, Nat.zero_le _, rfl, rfl, ⟨_, List.getElem_mem HP.out, HL0.out⟩, fun p _ h => by omega, Kp.refl _⟩
  case round =>
    obtain ⟨j, lm, hj, rfl, rfl, hmem, hq, hk⟩ := hrel
    have hlm : lm ≤ 9218868437227405312 := by
      obtain ⟨t, h1, rfl⟩ := hmem
      exact (OK.out.each t h1).a
    have KR := Lib.hid hk
    have HQ := Lib.hid hq
    have HMM := Lib.hid hmem
    obtain ⟨jj, hjj⟩ : ∃ jj : Int, (j : Int) = jj := ⟨_, rfl⟩
    rw [hjj]
    have HJ := Lib.hid hjj
    by_cases hlt : j < m
    · have hjl : jj < L := by omega
      have hj0 : 0 ≤ jj := by omega
      have htn : jj.toNat = j := by omega
      have hjo : j < c.ts.length := by rw [HM.out]; exact hlt
      obtain ⟨⟨tk, ta, tn, tb, tm⟩, ht⟩ : ∃ t, c.ts[j] = t := ⟨_, rfl⟩
      obtain ⟨s1, hs1⟩ : ∃ s, (⟨tk.toArray⟩ : ByteArray) = s := ⟨_, rfl⟩
      obtain ⟨x0, x1, x2, x3, x4⟩ := (HH.out.kp hk).at5 (m := m) (by rw [HM.out]) htn hjo ht hs1
      have hta : ta ≤ 9218868437227405312 := by
        have := (OK.out.each _ (List.getElem_mem hjo)).a
        rw [ht] at this
        exact this
      have y1 : (wr.alloc (.cells #[.string s1, .float .f64 ta, .int .i64 tn, .float .f64 tb, .float .f64 tm] 47)).cell? ⟨wr.heap.size, 1, none⟩ = some (.float .f64 ta) := cell_row (i := 1) (MapKept.heap_alloc wr (.cells #[.string s1, .float .f64 ta, .int .i64 tn, .float .f64 tb, .float .f64 tm] 47)).1 rfl
      have HTA := Lib.hid (show (c.ts[j]).a = ta by rw [ht])
      have KN := Lib.hid (Kp.trans hk (kp_alloc wr (.cells #[.string s1, .float .f64 ta, .int .i64 tn, .float .f64 tb, .float .f64 tm] 47)))
      have HLT := Lib.hid hlt
      have HJO := Lib.hid hjo
      have hw1 : wrap64 (jj + 1) = jj + 1 := IntWalk.wrap64_in _ (by omega)
      have hor := fun w1 : World => refOrder_any ta lm w1 (by omega) (by omega)
      rw [Fl.ord_of_le hta hlm] at hor
      obtain ⟨od, hod⟩ : ∃ z, Fl.cmpN ta lm = z := ⟨_, rfl⟩
      rw [hod] at hor
      have HOR := Lib.hid hor
      have hcs := Fl.cmpN_spec ta lm
      rw [hod] at hcs
      by_cases hneg : ta < lm
      · have g1 : decide (od < 0) = true := decide_eq_true (by omega)
        have HNG := Lib.hid hneg
        clear hmem ht hk hq hjj hj hlt hs1 htn hor hod hcs hneg hta hlm
        go_wp2_with (go_at_call 38; (with_reducible refine (HOR.out _).mono ?_); rintro e' w5 ⟨rfl, rfl⟩)
        go_roundw
        case rel => exact ⟨j + 1, ta, by have := HLT.out; omega, by have := HJ.out; rw [show ((j + 1 : Nat) : Int) = jj + 1 by omega], rfl, ⟨_, List.getElem_mem HJO.out, HTA.out⟩, fun p hp hp2 => by
          rcases Nat.lt_or_eq_of_le (Nat.le_of_lt_succ hp2) with g | rfl
          · exact Nat.le_trans (Nat.le_of_lt HNG.out) (HQ.out p hp g)
          · exact Nat.le_of_eq HTA.out.symm, KN.out⟩
        case measure => have := HJ.out; have := HLT.out; simp [intOf]; omega
      · have g1 : decide (od < 0) = false := decide_eq_false (by omega)
        have HNG := Lib.hid hneg
        clear hmem ht hk hq hjj hj hlt hs1 htn hor hod hcs hneg hta hlm
        go_wp2_with (go_at_call 38; (with_reducible refine (HOR.out _).mono ?_); rintro e' w5 ⟨rfl, rfl⟩)
        go_roundw
        case rel => exact ⟨j + 1, lm, by have := HLT.out; omega, by have := HJ.out; rw [show ((j + 1 : Nat) : Int) = jj + 1 by omega], rfl, HMM.out, fun p hp hp2 => by
          rcases Nat.lt_or_eq_of_le (Nat.le_of_lt_succ hp2) with g | rfl
          · exact HQ.out p hp g
          · rw [HTA.out]; have := HNG.out; omega, KN.out⟩
        case measure => have := HJ.out; have := HLT.out; simp [intOf]; omega
    · have hje : ¬ jj < L := by omega
      have HN := Lib.hid (show NextIs c lm from ⟨hmem, fun t ht => by
        obtain ⟨p, hp, rfl⟩ := List.getElem_of_mem ht
        exact hq p hp (by have := HM.out; omega)⟩)
      clear hk hq hjj hj hlt hmem hlm
      go_wp2
      go_ret2
      exact ⟨_, HN.out, rfl, KR.out⟩
theorem rkNext_any (H : Rk w0 q c v w) (ok : CkOk c) : Calls Tryd.prog 18 #[.pointer (some ⟨q, 0, none⟩)] w fun r w' => ((c.ts = [] ∧ r = .returned (.tuple #[.float .f64 0, .bool false])) ∨ ∃ m, NextIs c m ∧ r = .returned (.tuple #[.float .f64 m, .bool true])) ∧ Kp w w' := by
  by_cases h0 : c.ts = []
  · exact (rkNext_nil H h0).mono fun r w' ⟨q1, q2⟩ => ⟨.inl ⟨h0, q1⟩, q2⟩
  · exact (rkNext_some H ok h0).mono fun r w' ⟨m, q1, q2, q3⟩ => ⟨.inr ⟨m, q1, q2⟩, q3⟩
end Go.Proofs.YtanbeaebdingeaaDoor
