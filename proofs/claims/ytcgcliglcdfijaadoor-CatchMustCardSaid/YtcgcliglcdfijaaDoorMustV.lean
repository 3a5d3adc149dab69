/-
  CatchMust's WALK (own work).
-/
import Derived.Test.YtcgcliglcdfijaaDoorTriesV
import Derived.LoopTactic
import Derived.Laws.EntriesVeiled
namespace Go.Proofs.YtcgcliglcdfijaaDoor
open Go.RowKit Go.Extern.Stop Go.Stop Go.Extern

/-- HOW IT ENDS: it answers x, or it panics with the error at a. -/
def FinM (x : Int) : Option Addr → Ending → Prop
  | none, e => e = .returned (.int .i64 x)
  | some a, e => e = .panicked [{ v := snt a, recovered := false }]

/-- A FUNCTION THAT ENDS SO, in this world and in whatever comes of it. -/
def Good (x : Int) (r : Option Addr) (v : Value) (w : World) : Prop :=
  ∃ (f : FuncId) (caps : Array Value), v = .func (.func f) #[] caps ∧ (∀ w, (callFunc f caps).run Tryd.prog w = .ok (.enter f caps) w) ∧
    ∀ w1, Kp w w1 → Calls Tryd.prog f caps w1 fun e w2 => FinM x r e ∧ Kp w1 w2

theorem Good.kp {x : Int} {r : Option Addr} {v : Value} {w w1 : World} (h : Good x r v w) (hk : Kp w w1) : Good x r v w1 := by
  obtain ⟨f, caps, hv, hf, hc⟩ := h
  exact ⟨f, caps, hv, hf, fun w2 h2 => hc w2 (Kp.trans hk h2)⟩

theorem must_base_none (x : Int) (p q : Addr) (w : World) (hp : w.cell? p = some (.int .i64 x)) (hq : w.cell? q = some .nilIface) : Good x none (.func (.func 20) #[] #[.pointer (some p), .pointer (some q)]) w := by
  refine ⟨_, _, rfl, fun w => by simp [go_sem], fun w1 h => ?_⟩
  have hp1 := kp_cell h hp
  have hq1 := kp_cell h hq
  clear hp hq h
  go_enter Tryd.func20, Tryd.ntmps20
  go_wp2_with (go_at_call 21; (with_reducible refine (must_nil _ _).mono ?_); rintro e w' ⟨rfl, rfl⟩)
  go_ret
  exact ⟨rfl, Kp.refl _⟩

theorem must_base_some (x : Int) (a : Addr) (p q : Addr) (w : World) (hp : w.cell? p = some (.int .i64 x)) (hq : w.cell? q = some (snt a)) : Good x (some a) (.func (.func 20) #[] #[.pointer (some p), .pointer (some q)]) w := by
  refine ⟨_, _, rfl, fun w => by simp [go_sem], fun w1 h => ?_⟩
  have hp1 := kp_cell h hp
  have hq1 := kp_cell h hq
  clear hp hq h
  go_enter Tryd.func20, Tryd.ntmps20
  go_wp2_with (go_at_call 21; (with_reducible refine (must_some _ _ _ _).mono ?_); rintro e w' ⟨rfl, rfl⟩)
  exact ⟨rfl, rfl, Kp.refl _⟩

theorem must_try_none (x : Int) (v : Value) (w : World) (hg : Good x none v w) : Calls Tryd.prog 11 #[v] w fun e w' => e = .returned (.tuple #[.int .i64 x, .nilIface]) ∧ Kp w w' := by
  obtain ⟨f, caps, rfl, hf, hc⟩ := hg
  refine (try_int_ret f caps x w Kp hf fun w1 h1 => (hc w1 h1).mono ?_).mono ?_
  · rintro e w2 ⟨he, hw⟩
    exact ⟨he, Past.of_kp hw, hw⟩
  · rintro e w' ⟨rfl, hm⟩
    exact ⟨rfl, hm.kp⟩

theorem must_try_some (ads : List Addr) (so : Option Addr) (k : Nat) (hk : k < ads.length) (a : Addr) (ha : ads[k] = a) (x : Int) (v : Value) (w : World) (V : St ads so w) (hg : Good x (some a) v w) :
    Calls Tryd.prog 11 #[v] w fun e w' => e = .returned (.tuple #[.int .i64 0, snt a]) ∧ Kp w w' := by
  obtain ⟨f, caps, rfl, hf, hc⟩ := hg
  subst ha
  refine (try_int_panic ads so k hk f caps w Kp hf fun w1 h1 => (hc w1 h1).mono ?_).mono ?_
  · rintro e w2 ⟨he, hw⟩
    exact ⟨⟨_, he, .inl ⟨hk, rfl⟩, (V.kp h1).kp hw⟩, Past.of_kp hw, hw⟩
  · rintro e w' ⟨rfl, hm⟩
    exact ⟨rfl, hm.kp⟩

theorem must_step_none (x : Int) (v : Value) (b : Addr) (w : World) (hb : w.cell? b = some v) (hg : Good x none v w) : Good x none (.func (.func 22) #[] #[.pointer (some b)]) w := by
  refine ⟨_, _, rfl, fun w => by simp [go_sem], fun w1 h => ?_⟩
  have hb1 := kp_cell h hb
  have hg1 := hg.kp h
  clear hb h hg
  obtain ⟨f, caps, rfl, hf, hc⟩ := hg1
  have HT := Lib.hid (must_try_none x _ w1 ⟨f, caps, rfl, hf, hc⟩)
  clear hf hc
  go_enter Tryd.func22, Tryd.ntmps22
  go_wp2_with (first | (go_at_call 11; (with_reducible refine HT.out.mono ?_); rintro e w' ⟨rfl, hw⟩) | (go_at_call 23; (with_reducible refine (check_nil _).mono ?_); rintro e w' ⟨rfl, rfl⟩))
  go_ret
  exact ⟨rfl, hw⟩

theorem must_step_some (ads : List Addr) (so : Option Addr) (k : Nat) (hk : k < ads.length) (a : Addr) (ha : ads[k] = a) (x : Int) (v : Value) (b : Addr) (w : World) (V : St ads so w) (hb : w.cell? b = some v) (hg : Good x (some a) v w) : Good x (some a) (.func (.func 22) #[] #[.pointer (some b)]) w := by
  refine ⟨_, _, rfl, fun w => by simp [go_sem], fun w1 h => ?_⟩
  have hb1 := kp_cell h hb
  have hg1 := hg.kp h
  have V1 := V.kp h
  clear hb h hg V
  obtain ⟨f, caps, rfl, hf, hc⟩ := hg1
  have HT := Lib.hid (must_try_some ads so k hk a ha x _ w1 V1 ⟨f, caps, rfl, hf, hc⟩)
  clear hf hc ha V1
  go_enter Tryd.func22, Tryd.ntmps22
  go_wp2_with (first | (go_at_call 11; (with_reducible refine HT.out.mono ?_); rintro e w' ⟨rfl, hw⟩) | (go_at_call 23; (with_reducible refine (check_some _ _ _).mono ?_); rintro e w' ⟨rfl, rfl⟩))
  exact ⟨rfl, rfl, hw⟩


set_option maxRecDepth 20000 in
set_option maxHeartbeats 1000000 in
theorem must_0 (n x dp : Int) (ads : List Addr) (so : Option Addr) (w : World) (V : St ads so w) (D : Nat) (dd : Int) (hD : (D : Int) = dd) (hd6 : D < 6) (heq : wrap64 ((IntKind.u64.wrap n).tmod 15) = 0) (heqd : wrap64 ((IntKind.u64.wrap dp).tmod 6) = dd) :
    Calls Tryd.prog 5 #[.int .i64 n, .int .i64 x, .int .i64 dp] w fun e w' => e = .returned (.bool true) ∧ Kp w w' := by
  have hmf : ∀ (fn : Fn) (first cap : Array Value) (w : World), (Instr.makeFunc fn first cap).run Tryd.prog w = .ok (.func fn first cap) w := fun _ _ _ _ => rfl
  have EE : ∀ w, St ads so w → Calls Tryd.prog 19 #[.int .i64 0] w fun e w' => e = .returned .nilIface ∧ Kp w w' := by
    intro w V; exact lawErr ads w V.E 0 (by decide)
  have TT : ∀ w v, St ads so w → Good x none v w → Calls Tryd.prog 11 #[v] w fun e w' => e = .returned (.tuple #[.int .i64 x, .nilIface]) ∧ Kp w w' := by
    intro w v _ hg; exact must_try_none x v w hg
  have SS : ∀ w v b, St ads so w → w.cell? b = some v → Good x none v w → Good x none (.func (.func 22) #[] #[.pointer (some b)]) w := by
    intro w v b _ hc hg; exact must_step_none x v b w hc hg
  have HE := Lib.hid EE
  have HT := Lib.hid TT
  have HS := Lib.hid SS
  have HD := Lib.hid hD
  have HV := Lib.hid V
  have K0 := Lib.hid (kp_alloc w (.cells #[.int .i64 x] 3))
  have HA := Lib.hid (alive_any ads so _ (V.kp K0.out))
  have HC := Lib.hid (box_cell w (.int .i64 x) 3)
  clear EE TT SS V hD 
  go_enter Tryd.func5, Tryd.ntmps5
  go_wp2_with (go_at_call 8; (with_reducible refine HA.out.mono ?_); rintro e w1 ⟨rfl, hw1⟩)
  have K1 := Lib.hid (Kp.trans K0.out hw1)
  have C1 := Lib.hid (kp_cell hw1 HC.out)
  clear hw1
  with_reducible refine (HE.out _ (HV.out.kp K1.out)).mono ?_
  rintro e w2 ⟨rfl, hw2⟩
  have K2 := Lib.hid (Kp.trans K1.out hw2)
  have C2 := Lib.hid (kp_cell hw2 C1.out)
  clear hw2
  go_wp2
  have K3 := Lib.hid (Kp.trans K2.out (kp_alloc w2 (.cells #[.nilIface] 28)))
  have C3 := Lib.hid (kp_cell (kp_alloc w2 (.cells #[.nilIface] 28)) C2.out)
  have G3 := Lib.hid (must_base_none x ⟨w.heap.size, 0, none⟩ ⟨w2.heap.size, 0, none⟩ _ C3.out (box_cell w2 (.nilIface) 28))
  go_loopw [8, 26] (fun v i wr => ∃ j : Nat, j ≤ D ∧ i = .int .i64 j ∧ Good x none v wr ∧ Kp w wr ∧ wr.cell? ⟨w.heap.size, 0, none⟩ = some (.int .i64 x)) (fun _ i _ => 6 - (intOf i).toNat)
  case atStart => exact ⟨0, Nat.zero_le _, rfl, G3.out, K3.out, C3.out⟩
  case round =>
    obtain ⟨j, hj, rfl, hg, hk, hcx⟩ := hrel
    have HG := Lib.hid hg
    have HK := Lib.hid hk
    obtain ⟨jj, hjj⟩ : ∃ jj : Int, (j : Int) = jj := ⟨_, rfl⟩
    rw [hjj]
    have HJ := Lib.hid hjj
    have HX := Lib.hid hcx
    obtain ⟨f, caps, rfl, -, -⟩ := hg
    clear hk hjj
    by_cases hlt : jj < dd
    · clear hcx
      go_wp2
      have hj1 := HJ.out
      have hd1 := HD.out
      have KA := kp_alloc wr (.cells #[.func (.func f) #[] caps] 26)
      go_roundw
      case rel => exact ⟨j + 1, by omega, by congr 1; unfold wrap64; omega, HS.out _ _ _ ((HV.out.kp HK.out).kp KA) (box_cell _ _ _) (HG.out.kp KA), Kp.trans HK.out KA, kp_cell KA HX.out⟩
      case measure => simp [intOf]; unfold wrap64; omega
    · go_wp2_with (go_at_call 11; (with_reducible refine (HT.out _ _ (HV.out.kp HK.out) HG.out).mono ?_); rintro e w6 ⟨rfl, hw6⟩; have hcx6 := kp_cell hw6 HX.out; have KF := Lib.hid (Kp.trans HK.out hw6))
      go_ret
      exact ⟨rfl, KF.out⟩


set_option maxRecDepth 20000 in
set_option maxHeartbeats 1000000 in
theorem must_k (n x dp : Int) (ads : List Addr) (so : Option Addr) (w : World) (V : St ads so w) (k : Nat) (h0 : 0 < k) (hk : k ≤ 14) (nn : Int) (hnn : (k : Int) = nn) (D : Nat) (dd : Int) (hD : (D : Int) = dd) (hd6 : D < 6) (heq : wrap64 ((IntKind.u64.wrap n).tmod 15) = nn) (heqd : wrap64 ((IntKind.u64.wrap dp).tmod 6) = dd) :
    Calls Tryd.prog 5 #[.int .i64 n, .int .i64 x, .int .i64 dp] w fun e w' => e = .returned (.bool true) ∧ Kp w w' := by
  have hmf : ∀ (fn : Fn) (first cap : Array Value) (w : World), (Instr.makeFunc fn first cap).run Tryd.prog w = .ok (.func fn first cap) w := fun _ _ _ _ => rfl
  have hl := V.len
  have hka : k - 1 < ads.length := by omega
  obtain ⟨a, ha⟩ : ∃ a, ads[k - 1] = a := ⟨_, rfl⟩
  have EE : ∀ w, St ads so w → Calls Tryd.prog 19 #[.int .i64 nn] w fun e w' => e = .returned (snt a) ∧ Kp w w' := by
    intro w V; rw [← ha]; exact lawErr_int ads w V.E (k - 1) (by omega) hka nn (by omega)
  have NN : ∀ w, St ads so w → Calls Tryd.prog 13 #[snt a] w fun e w' => e = .returned (.int .i64 nn) ∧ Kp w w' := by
    intro w V; rw [← ha]; exact num_int ads w V.E (k - 1) (by omega) hka nn (by omega)
  have TT : ∀ w v, St ads so w → Good x (some a) v w → Calls Tryd.prog 11 #[v] w fun e w' => e = .returned (.tuple #[.int .i64 0, snt a]) ∧ Kp w w' := by
    intro w v V hg; exact must_try_some ads so (k - 1) hka a ha x v w V hg
  have SS : ∀ w v b, St ads so w → w.cell? b = some v → Good x (some a) v w → Good x (some a) (.func (.func 22) #[] #[.pointer (some b)]) w := by
    intro w v b V hc hg; exact must_step_some ads so (k - 1) hka a ha x v b w V hc hg
  have hne0 : (nn == 0) = false := by simp; omega
  have HN := Lib.hid NN
  have HE := Lib.hid EE
  have HT := Lib.hid TT
  have HS := Lib.hid SS
  have HD := Lib.hid hD
  have HV := Lib.hid V
  have K0 := Lib.hid (kp_alloc w (.cells #[.int .i64 x] 3))
  have HA := Lib.hid (alive_any ads so _ (V.kp K0.out))
  have HC := Lib.hid (box_cell w (.int .i64 x) 3)
  clear EE TT SS V hD NN ha hnn 
  go_enter Tryd.func5, Tryd.ntmps5
  go_wp2_with (go_at_call 8; (with_reducible refine HA.out.mono ?_); rintro e w1 ⟨rfl, hw1⟩)
  have K1 := Lib.hid (Kp.trans K0.out hw1)
  have C1 := Lib.hid (kp_cell hw1 HC.out)
  clear hw1
  with_reducible refine (HE.out _ (HV.out.kp K1.out)).mono ?_
  rintro e w2 ⟨rfl, hw2⟩
  have K2 := Lib.hid (Kp.trans K1.out hw2)
  have C2 := Lib.hid (kp_cell hw2 C1.out)
  clear hw2
  go_wp2
  have K3 := Lib.hid (Kp.trans K2.out (kp_alloc w2 (.cells #[snt a] 28)))
  have C3 := Lib.hid (kp_cell (kp_alloc w2 (.cells #[snt a] 28)) C2.out)
  have G3 := Lib.hid (must_base_some x a ⟨w.heap.size, 0, none⟩ ⟨w2.heap.size, 0, none⟩ _ C3.out (box_cell w2 (snt a) 28))
  go_loopw [8, 26] (fun v i wr => ∃ j : Nat, j ≤ D ∧ i = .int .i64 j ∧ Good x (some a) v wr ∧ Kp w wr ∧ wr.cell? ⟨w.heap.size, 0, none⟩ = some (.int .i64 x)) (fun _ i _ => 6 - (intOf i).toNat)
  case atStart => exact ⟨0, Nat.zero_le _, rfl, G3.out, K3.out, C3.out⟩
  case round =>
    obtain ⟨j, hj, rfl, hg, hk, hcx⟩ := hrel
    have HG := Lib.hid hg
    have HK := Lib.hid hk
    obtain ⟨jj, hjj⟩ : ∃ jj : Int, (j : Int) = jj := ⟨_, rfl⟩
    rw [hjj]
    have HJ := Lib.hid hjj
    have HX := Lib.hid hcx
    obtain ⟨f, caps, rfl, -, -⟩ := hg
    clear hk hjj
    by_cases hlt : jj < dd
    · clear hcx
      go_wp2
      have hj1 := HJ.out
      have hd1 := HD.out
      have KA := kp_alloc wr (.cells #[.func (.func f) #[] caps] 26)
      go_roundw
      case rel => exact ⟨j + 1, by omega, by congr 1; unfold wrap64; omega, HS.out _ _ _ ((HV.out.kp HK.out).kp KA) (box_cell _ _ _) (HG.out.kp KA), Kp.trans HK.out KA, kp_cell KA HX.out⟩
      case measure => simp [intOf]; unfold wrap64; omega
    · go_wp2_with (go_at_call 11; (with_reducible refine (HT.out _ _ (HV.out.kp HK.out) HG.out).mono ?_); rintro e w6 ⟨rfl, hw6⟩; have hcx6 := kp_cell hw6 HX.out; have KF := Lib.hid (Kp.trans HK.out hw6))
      with_reducible refine (HN.out _ (HV.out.kp KF.out)).mono ?_
      rintro e w7 ⟨rfl, hw7⟩
      go_wp2
      go_ret
      exact ⟨rfl, Kp.trans KF.out hw7⟩

end Go.Proofs.YtcgcliglcdfijaaDoor
