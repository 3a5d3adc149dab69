/-
  ACTS (own work): the law's own errorOf, catch.Check, catch.Must, and 'does' at every kind: it counts, and panics as its kind says.
-/
import Derived.Test.YtcgcliglcdfijaaDoorTry
import Derived.Test.YtcgcliglcdfijaaDoorAtoiT
namespace Go.Proofs.YtcgcliglcdfijaaDoor
open Go.RowKit Go.Extern.Stop Go.Stop Go.Extern

def errV (ads : List Addr) : Nat → Value
  | 0 => .nilIface
  | k + 1 => (ads[k]?.map snt).getD .nilIface

theorem cells_new15 (w : World) (l : List Addr) (t : TypeId) (j : Nat) (h : j ≤ l.length) :
    (w.alloc (.cells (.nilIface :: l.map fun a => Value.iface 95 (.pointer (some a))).toArray t)).cell? ⟨w.heap.size, j, none⟩ = some (errV l j) := by
  have e : (w.alloc (.cells (.nilIface :: l.map fun a => Value.iface 95 (.pointer (some a))).toArray t)).heap[w.heap.size]? = some (.cells (.nilIface :: l.map fun a => Value.iface 95 (.pointer (some a))).toArray t) := (MapKept.heap_alloc w _).1
  unfold World.cell?
  dsimp only
  rw [e]
  match j, h with
  | 0, _ => simp [errV]
  | j + 1, h => 
    have hj : j < l.length := by omega
    simp [errV, hj]

/-- THE LAW's errorOf: the error of a number from 0 to 14. -/
theorem lawErr (ads : List Addr) (w : World) (E : Errs gs14 ads w) (n : Nat) (hn : n ≤ 14) :
    Calls Tryd.prog 19 #[.int .i64 n] w fun e w' => e = .returned (errV ads n) ∧ Kp w w' := by
  match ads, E with
  | [a0, a1, a2, a3, a4, a5, a6, a7, a8, a9, a10, a11, a12, a13], E =>
    have c0 : w.cell? ⟨1, 0, none⟩ = some (.iface 95 (.pointer (some a0))) := E.cell 0 (by decide)
    have c1 : w.cell? ⟨2, 0, none⟩ = some (.iface 95 (.pointer (some a1))) := E.cell 1 (by decide)
    have c2 : w.cell? ⟨3, 0, none⟩ = some (.iface 95 (.pointer (some a2))) := E.cell 2 (by decide)
    have c3 : w.cell? ⟨4, 0, none⟩ = some (.iface 95 (.pointer (some a3))) := E.cell 3 (by decide)
    have c4 : w.cell? ⟨5, 0, none⟩ = some (.iface 95 (.pointer (some a4))) := E.cell 4 (by decide)
    have c5 : w.cell? ⟨0, 0, none⟩ = some (.iface 95 (.pointer (some a5))) := E.cell 5 (by decide)
    have c6 : w.cell? ⟨6, 0, none⟩ = some (.iface 95 (.pointer (some a6))) := E.cell 6 (by decide)
    have c7 : w.cell? ⟨7, 0, none⟩ = some (.iface 95 (.pointer (some a7))) := E.cell 7 (by decide)
    have c8 : w.cell? ⟨8, 0, none⟩ = some (.iface 95 (.pointer (some a8))) := E.cell 8 (by decide)
    have c9 : w.cell? ⟨9, 0, none⟩ = some (.iface 95 (.pointer (some a9))) := E.cell 9 (by decide)
    have c10 : w.cell? ⟨10, 0, none⟩ = some (.iface 95 (.pointer (some a10))) := E.cell 10 (by decide)
    have c11 : w.cell? ⟨11, 0, none⟩ = some (.iface 95 (.pointer (some a11))) := E.cell 11 (by decide)
    have c12 : w.cell? ⟨12, 0, none⟩ = some (.iface 95 (.pointer (some a12))) := E.cell 12 (by decide)
    have c13 : w.cell? ⟨13, 0, none⟩ = some (.iface 95 (.pointer (some a13))) := E.cell 13 (by decide)
    have hnew : Kp w (w.alloc (.cells #[.nilIface, .iface 95 (.pointer (some a0)), .iface 95 (.pointer (some a1)), .iface 95 (.pointer (some a2)), .iface 95 (.pointer (some a3)), .iface 95 (.pointer (some a4)), .iface 95 (.pointer (some a5)), .iface 95 (.pointer (some a6)), .iface 95 (.pointer (some a7)), .iface 95 (.pointer (some a8)), .iface 95 (.pointer (some a9)), .iface 95 (.pointer (some a10)), .iface 95 (.pointer (some a11)), .iface 95 (.pointer (some a12)), .iface 95 (.pointer (some a13))] 28)) := (Below.refl _ _).alloc (Nat.le_refl _) _
    obtain ⟨x, hx⟩ : ∃ x, errV [a0, a1, a2, a3, a4, a5, a6, a7, a8, a9, a10, a11, a12, a13] n = x := ⟨_, rfl⟩
    have hel : (w.alloc (.cells #[.nilIface, .iface 95 (.pointer (some a0)), .iface 95 (.pointer (some a1)), .iface 95 (.pointer (some a2)), .iface 95 (.pointer (some a3)), .iface 95 (.pointer (some a4)), .iface 95 (.pointer (some a5)), .iface 95 (.pointer (some a6)), .iface 95 (.pointer (some a7)), .iface 95 (.pointer (some a8)), .iface 95 (.pointer (some a9)), .iface 95 (.pointer (some a10)), .iface 95 (.pointer (some a11)), .iface 95 (.pointer (some a12)), .iface 95 (.pointer (some a13))] 28)).cell? ⟨w.heap.size, n, none⟩ = some x := by
      rw [← hx]; exact cells_new15 w [a0, a1, a2, a3, a4, a5, a6, a7, a8, a9, a10, a11, a12, a13] 28 n (by simpa using hn)
    rw [hx]
    have hag : ∀ (cs : Array Value), x ≠ .agg cs := by
      intro cs h
      rw [h] at hx
      match n, hn with
      | 0, _ => simp [errV] at hx
      | k + 1, hk =>
        have : k < 14 := by omega
        simp only [errV] at hx
        cases hg : ([a0, a1, a2, a3, a4, a5, a6, a7, a8, a9, a10, a11, a12, a13] : List Addr)[k]? with
        | none => simp [hg] at hx
        | some a => simp [hg] at hx
    have HE := Lib.hid E
    have HX := Lib.hid hx
    have HN := Lib.hid hnew
    clear E hx hnew
    go_enter Tryd.func19, Tryd.ntmps19
    go_wp2
    go_ret
    exact ⟨rfl, HN.out⟩

/-- A panic of the text's own, with an error. -/
theorem run_panic_some {P : Program} (t : TypeId) (v : Value) (w : World) : (Instr.panic (.iface t v)).run P w = .halt (.panic (.iface t v)) w := rfl

theorem check_nil (w : World) : Calls Tryd.prog 23 #[.nilIface] w fun e w' => e = .returned (.tuple #[]) ∧ w = w' := by
  go_enter Tryd.func23, Tryd.ntmps23
  go_wp2
  go_end0
  exact ⟨rfl, rfl⟩

theorem check_some (T : TypeId) (x : Value) (w : World) : Calls Tryd.prog 23 #[.iface T x] w fun e w' => e = .panicked [{ v := .iface T x, recovered := false }] ∧ w = w' := by
  have hpn := run_panic_some (P := Tryd.prog) T x w
  go_enter Tryd.func23, Tryd.ntmps23
  go_wp2
  exact ⟨rfl, rfl, rfl⟩

theorem must_nil (x : Int) (w : World) : Calls Tryd.prog 21 #[.int .i64 x, .nilIface] w fun e w' => e = .returned (.int .i64 x) ∧ w = w' := by
  go_enter Tryd.func21, Tryd.ntmps21
  go_wp2_with (go_at_call 23; (with_reducible refine (check_nil _).mono ?_); rintro e w' ⟨rfl, rfl⟩)
  go_ret
  exact ⟨rfl, rfl⟩

theorem must_some (n : Int) (T : TypeId) (x : Value) (w : World) : Calls Tryd.prog 21 #[.int .i64 n, .iface T x] w fun e w' => e = .panicked [{ v := .iface T x, recovered := false }] ∧ w = w' := by
  go_enter Tryd.func21, Tryd.ntmps21
  go_wp2_with (go_at_call 23; (with_reducible refine (check_some _ _ _).mono ?_); rintro e w' ⟨rfl, rfl⟩)
  exact ⟨rfl, rfl, rfl⟩

theorem bounds_ex (code : BoundsCode) (x m : Int) (h0 : 0 ≤ x) (h31 : x ≤ 31) (W : World) : ∃ v, ∀ {α : Type}, (boundsPanic (α := α) .i64 x m code).run Tryd.prog W = .halt (.panic (.iface 8 v)) W.drew := by
  have hb : Tryd.prog.rt.boundsError = 8 := by kernel_rfl
  refine ⟨.agg #[.int .i64 (IntKind.i64.wrap x), .int .i64 m, .bool (W.tape W.drawn (.extern "runtime.boundsError.signed" 2) % 2 == 1), .int .u8 code.toNat], ?_⟩
  intro α
  rw [← hb]
  simp [boundsPanic, Question.forced, Question.cut, runtimePanic, goPanic, h0, h31]

/-- WHICH ERROR of the table an act's kind has. -/
def idx (k : Nat) : Nat := if k ≤ 14 then k - 1 else 12
/-- HOW AN ACT ENDS. -/
def Fin (ads : List Addr) (so : Option Addr) (r : Value) (k : Nat) (e : Ending) (w : World) : Prop :=
  if k = 0 then e = .returned r else ∃ v, e = .panicked [{ v, recovered := false }] ∧ Pv ads so w v (idx k)
/-- WHAT IT DOES: its counter goes up. -/
def DW (p : Addr) (c : Int) (w w' : World) : Prop := Kp (w.setCell p (.int .i64 (wrap64 (c + 1)))) w'

theorem does_0 (p : Addr) (c : Int) (w : World) (hc : w.cell? p = some (.int .i64 c)) (hz : w.frozen? p = false) :
    Calls Tryd.prog 10 #[.int .i64 0, .pointer (some p)] w fun e w' => e = .returned (.tuple #[]) ∧ DW p c w w' := by
  go_enter Tryd.func10, Tryd.ntmps10
  go_wp2
  go_end0
  exact ⟨rfl, Kp.refl _⟩

def RtV (v : Value) : Prop := ∃ x, v = .iface 8 x ∨ v = .iface 10 x ∨ v = .iface 11 x


set_option maxRecDepth 20000 in
theorem does_16 (p : Addr) (c : Int) (w : World) (hc : w.cell? p = some (.int .i64 c)) (hz : w.frozen? p = false) :
    Calls Tryd.prog 10 #[.int .i64 16, .pointer (some p)] w fun e w' => (∃ v, e = .panicked [{ v, recovered := false }] ∧ RtV v) ∧ DW p c w w' := by
  obtain ⟨v, hb⟩ := bounds_ex .index 0 0 (by decide) (by decide) (w.setCell p (.int .i64 (wrap64 (c + 1))))
  go_enter Tryd.func10, Tryd.ntmps10
  go_wp2
  exact ⟨rfl, ⟨_, rfl, _, .inl rfl⟩, (Kp.refl _).drew⟩


set_option maxRecDepth 20000 in
theorem does_17 (p : Addr) (c : Int) (w : World) (hc : w.cell? p = some (.int .i64 c)) (hz : w.frozen? p = false) :
    Calls Tryd.prog 10 #[.int .i64 17, .pointer (some p)] w fun e w' => (∃ v, e = .panicked [{ v, recovered := false }] ∧ RtV v) ∧ DW p c w w' := by
  go_enter Tryd.func10, Tryd.ntmps10
  go_wp2
  exact ⟨rfl, ⟨_, rfl, _, .inr (.inl rfl)⟩, Kp.refl _⟩


set_option maxRecDepth 20000 in
theorem does_18 (p : Addr) (c : Int) (w : World) (hc : w.cell? p = some (.int .i64 c)) (hz : w.frozen? p = false) :
    Calls Tryd.prog 10 #[.int .i64 18, .pointer (some p)] w fun e w' => (∃ v, e = .panicked [{ v, recovered := false }] ∧ RtV v) ∧ DW p c w w' := by
  go_enter Tryd.func10, Tryd.ntmps10
  go_wp2
  exact ⟨rfl, ⟨_, rfl, _, .inr (.inr rfl)⟩, Kp.refl _⟩


set_option maxRecDepth 20000 in
theorem does_19 (p : Addr) (c : Int) (w : World) (hc : w.cell? p = some (.int .i64 c)) (hz : w.frozen? p = false) :
    Calls Tryd.prog 10 #[.int .i64 19, .pointer (some p)] w fun e w' => (∃ v, e = .panicked [{ v, recovered := false }] ∧ RtV v) ∧ DW p c w w' := by
  go_enter Tryd.func10, Tryd.ntmps10
  go_wp2
  exact ⟨rfl, ⟨_, rfl, _, .inr (.inl rfl)⟩, Kp.refl _⟩


set_option maxRecDepth 20000 in
theorem does_20 (p : Addr) (c : Int) (w : World) (hc : w.cell? p = some (.int .i64 c)) (hz : w.frozen? p = false) :
    Calls Tryd.prog 10 #[.int .i64 20, .pointer (some p)] w fun e w' => (∃ v, e = .panicked [{ v, recovered := false }] ∧ RtV v) ∧ DW p c w w' := by
  obtain ⟨v, hb⟩ := bounds_ex .sliceB 1 0 (by decide) (by decide) (w.setCell p (.int .i64 (wrap64 (c + 1))))
  go_enter Tryd.func10, Tryd.ntmps10
  go_wp2
  exact ⟨rfl, ⟨_, rfl, _, .inl rfl⟩, (Kp.refl _).drew⟩


theorem lawErr_int (ads : List Addr) (w : World) (E : Errs gs14 ads w) (k : Nat) (hk : k < 14) (hka : k < ads.length) (n : Int) (hn : n = k + 1) :
    Calls Tryd.prog 19 #[.int .i64 n] w fun e w' => e = .returned (snt ads[k]) ∧ Kp w w' := by
  have h := lawErr ads w E (k + 1) (by omega)
  have e1 : errV ads (k + 1) = snt ads[k] := by simp [errV, hka]
  rw [e1] at h
  have e2 : ((k + 1 : Nat) : Int) = n := by omega
  rw [e2] at h
  exact h

theorem does_err (ads : List Addr) (so : Option Addr) (B : Nat) (w : World) (V : StB ads so B w) (p : Addr) (hp : B ≤ p.block) (c : Int) (hc : w.cell? p = some (.int .i64 c)) (hz : w.frozen? p = false) (k : Nat) (hk : k < 14) (hka : k < ads.length) (n : Int) (hn : n = k + 1) :
    Calls Tryd.prog 10 #[.int .i64 n, .pointer (some p)] w fun e w' => e = .panicked [{ v := snt ads[k], recovered := false }] ∧ DW p c w w' := by
  have V1 : StB ads so B (w.setCell p (.int .i64 (wrap64 (c + 1)))) := V.below ((Below.refl _ _).setCell hp _)
  have he := lawErr_int ads _ V1.st.E k hk hka n hn
  obtain ⟨a, ha⟩ : ∃ a, ads[k] = a := ⟨_, rfl⟩
  rw [ha] at he ⊢
  have h1 : 1 ≤ n := by omega
  have h14 : n ≤ 14 := by omega
  have HE := Lib.hid he
  clear he ha V V1 hn hk hka hp
  go_enter Tryd.func10, Tryd.ntmps10
  go_wp2_with (first | (go_at_call 19; (with_reducible refine HE.out.mono ?_); rintro e w' ⟨rfl, hw⟩) | (go_at_call 23; (with_reducible refine (check_some _ _ _).mono ?_); rintro e w' ⟨rfl, rfl⟩))
  exact ⟨rfl, rfl, hw⟩

theorem does_15 (ads : List Addr) (s : Addr) (B : Nat) (w : World) (V : StB ads (some s) B w) (p : Addr) (hp : B ≤ p.block) (c : Int) (hc : w.cell? p = some (.int .i64 c)) (hz : w.frozen? p = false) :
    Calls Tryd.prog 10 #[.int .i64 15, .pointer (some p)] w fun e w' => (∃ v, e = .panicked [{ v, recovered := false }] ∧ Pv ads (some s) w' v 12) ∧ DW p c w w' := by
  have V1 : StB ads (some s) B (w.setCell p (.int .i64 (wrap64 (c + 1)))) := V.below ((Below.refl _ _).setCell hp _)
  have HE := Lib.hid (atoi_text ads s _ V1.st)
  clear V V1 hp
  go_enter Tryd.func10, Tryd.ntmps10
  go_wp2_with (first | (go_at_call 30; (with_reducible refine HE.out.mono ?_); rintro e w' ⟨N, rfl, hN, hw⟩) | (go_at_call 23; (with_reducible refine (check_some _ _ _).mono ?_); rintro e w' ⟨rfl, rfl⟩))
  exact ⟨rfl, ⟨_, rfl, .inr (.inl ⟨rfl, s, N, rfl, rfl, hN⟩)⟩, hw⟩

/-- AN ACT, OF WHATEVER KIND. -/
theorem does_any (ads : List Addr) (s : Addr) (B : Nat) (w : World) (V : StB ads (some s) B w) (p : Addr) (hp : B ≤ p.block) (c : Int) (hc : w.cell? p = some (.int .i64 c)) (hz : w.frozen? p = false) (k : Nat) (hk : k ≤ 20) (n : Int) (hn : (k : Int) = n) :
    Calls Tryd.prog 10 #[.int .i64 n, .pointer (some p)] w fun e w' => Fin ads (some s) (.tuple #[]) k e w' ∧ DW p c w w' := by
  subst hn
  have hl := V.st.len
  rcases Nat.lt_or_ge k 15 with h | h
  · rcases Nat.eq_zero_or_pos k with rfl | h0
    · refine (does_0 p c w hc hz).mono ?_
      rintro e w' ⟨rfl, hw⟩
      exact ⟨by simp [Fin], hw⟩
    · have hka : k - 1 < ads.length := by omega
      refine (does_err ads (some s) B w V p hp c hc hz (k - 1) (by omega) hka k (by omega)).mono ?_
      rintro e w' ⟨rfl, hw⟩
      refine ⟨?_, hw⟩
      have : idx k = k - 1 := by simp [idx]; omega
      simp only [Fin, this]
      rw [if_neg (by omega)]
      exact ⟨_, rfl, .inl ⟨hka, rfl⟩⟩
  · have rt : ∀ e w', ((∃ v, e = .panicked [{ v, recovered := false }] ∧ RtV v) ∧ DW p c w w') → k ≠ 0 → idx k = 12 → Fin ads (some s) (.tuple #[]) k e w' ∧ DW p c w w' := by
      rintro e w' ⟨⟨v, rfl, hv⟩, hw⟩ h0 h1
      refine ⟨?_, hw⟩
      simp only [Fin, h1]
      rw [if_neg h0]
      exact ⟨v, rfl, .inr (.inr ⟨rfl, hv⟩)⟩
    obtain rfl | rfl | rfl | rfl | rfl | rfl : k = 15 ∨ k = 16 ∨ k = 17 ∨ k = 18 ∨ k = 19 ∨ k = 20 := by omega
    · refine (does_15 ads s B w V p hp c hc hz).mono ?_
      rintro e w' ⟨⟨v, rfl, hv⟩, hw⟩
      exact ⟨⟨v, rfl, hv⟩, hw⟩
    · exact (does_16 p c w hc hz).mono fun e w' h => rt e w' h (by decide) rfl
    · exact (does_17 p c w hc hz).mono fun e w' h => rt e w' h (by decide) rfl
    · exact (does_18 p c w hc hz).mono fun e w' h => rt e w' h (by decide) rfl
    · exact (does_19 p c w hc hz).mono fun e w' h => rt e w' h (by decide) rfl
    · exact (does_20 p c w hc hz).mono fun e w' h => rt e w' h (by decide) rfl

end Go.Proofs.YtcgcliglcdfijaaDoor
