/-
  CatchTries' WALKS (own work): an act that answers; one that panics; none at all.
-/
import Derived.Test.YtcgcliglcdfijaaDoorTriesK
namespace Go.Proofs.YtcgcliglcdfijaaDoor
open Go.RowKit Go.Extern.Stop Go.Stop Go.Extern

/-- THE NUMBER of an act's error. -/
def ek (k : Nat) : Int := if k = 0 then 0 else idx k + 1

theorem refErr_low (n : Int) (h1 : 1 ≤ n) (h2 : n ≤ 14) (w : World) : Calls Tryd.prog 12 #[.int .i64 n] w fun e w' => e = .returned (.int .i64 n) ∧ w = w' := by
  go_enter Tryd.func12, Tryd.ntmps12
  go_wp2
  go_ret
  exact ⟨rfl, rfl⟩
theorem refErr_high (n : Int) (h1 : 14 < n) (h2 : n < 22) (w : World) : Calls Tryd.prog 12 #[.int .i64 n] w fun e w' => e = .returned (.int .i64 13) ∧ w = w' := by
  have h3 : ¬ n ≤ 14 := by omega
  go_enter Tryd.func12, Tryd.ntmps12
  go_wp2
  go_ret
  exact ⟨rfl, rfl⟩
theorem refErr_0 (w : World) : Calls Tryd.prog 12 #[.int .i64 0] w fun e w' => e = .returned (.int .i64 0) ∧ w = w' := by
  go_enter Tryd.func12, Tryd.ntmps12
  go_wp2
  go_ret
  exact ⟨rfl, rfl⟩
theorem refErr_any (k : Nat) (hk : k ≤ 21) (n : Int) (hn : (k : Int) = n) (w : World) : Calls Tryd.prog 12 #[.int .i64 n] w fun e w' => e = .returned (.int .i64 (ek k)) ∧ w = w' := by
  subst hn
  rcases Nat.eq_zero_or_pos k with rfl | h0
  · exact refErr_0 w
  · rcases Nat.lt_or_ge k 15 with h | h
    · have hi : idx k = k - 1 := by simp only [idx]; rw [if_pos (by omega)]
      have : ek k = k := by simp only [ek, hi]; rw [if_neg (by omega)]; omega
      rw [this]
      exact refErr_low k (by omega) (by omega) w
    · have : ek k = 13 := by simp only [ek, idx]; rw [if_neg (by omega), if_neg (by omega)]; rfl
      rw [this]
      exact refErr_high k (by omega) (by omega) w

/-- THE LAW's ACT, at a kind below 21: it answers x. -/
theorem tries_do (ads : List Addr) (s : Addr) (B : Nat) (w : World) (V : StB ads (some s) B w) (pk pc px : Addr) (hp : B ≤ pc.block) (k : Nat) (hk : k ≤ 20) (n x c : Int) (hn : (k : Int) = n)
    (ck : w.cell? pk = some (.int .i64 n)) (cc : w.cell? pc = some (.int .i64 c)) (zc : w.frozen? pc = false) (cx : w.cell? px = some (.int .i64 x)) (hne : px.block ≠ pc.block) :
    Calls Tryd.prog 9 #[.pointer (some pk), .pointer (some pc), .pointer (some px)] w fun e w' => Fin ads (some s) (.int .i64 x) k e w' ∧ DW pc c w w' := by
  have hd := does_any ads s B w V pc hp c cc zc k hk n hn
  rcases Nat.eq_zero_or_pos k with rfl | h0
  · have HD := Lib.hid hd
    clear hd V hn
    go_enter Tryd.func9, Tryd.ntmps9
    go_wp2_with (go_at_call 10; (with_reducible refine HD.out.mono ?_); rintro e w' ⟨he, hw⟩; obtain rfl : e = .returned (.tuple #[]) := he; have cx' := dw_other hw hne cx)
    go_ret
    exact ⟨rfl, hw⟩
  · have hd' : Calls Tryd.prog 10 #[.int .i64 n, .pointer (some pc)] w fun e w' => ∃ v, e = .panicked [{ v, recovered := false }] ∧ Pv ads (some s) w' v (idx k) ∧ DW pc c w w' := by
      refine hd.mono ?_
      rintro e w' ⟨he, hw⟩
      simp only [Fin] at he
      rw [if_neg (by omega)] at he
      obtain ⟨v, h1, h2⟩ := he
      exact ⟨v, h1, h2, hw⟩
    have HD := Lib.hid hd'
    clear hd hd' V
    go_enter Tryd.func9, Tryd.ntmps9
    go_wp2_with (go_at_call 10; (with_reducible refine HD.out.mono ?_); rintro e w' ⟨v, rfl, hv, hw⟩)
    refine ⟨rfl, ?_, hw⟩
    simp only [Fin]
    rw [if_neg (by omega)]
    exact ⟨v, rfl, hv⟩

/-- Try OF THE LAW's ACT. -/
theorem tries_try (ads : List Addr) (s : Addr) (B : Nat) (w : World) (V : StB ads (some s) B w) (pk pc px : Addr) (hp : B ≤ pc.block) (k : Nat) (hk : k ≤ 20) (n x c : Int) (hn : (k : Int) = n)
    (ck : w.cell? pk = some (.int .i64 n)) (cc : w.cell? pc = some (.int .i64 c)) (zc : w.frozen? pc = false) (cx : w.cell? px = some (.int .i64 x)) (hne : px.block ≠ pc.block) :
    Calls Tryd.prog 11 #[.func (.func 9) #[] #[.pointer (some pk), .pointer (some pc), .pointer (some px)]] w fun e w' =>
      e = .returned (.tuple #[.int .i64 (if k = 0 then x else 0), errV ads (if k = 0 then 0 else idx k + 1)]) ∧ DW pc c w w' := by
  have hB := V.le
  have hl := V.st.len
  have H : ∀ w1, Below w.heap.size w w1 → Calls Tryd.prog 9 #[.pointer (some pk), .pointer (some pc), .pointer (some px)] w1 fun e w2 => Fin ads (some s) (.int .i64 x) k e w2 ∧ DW pc c w1 w2 := fun w1 h1 =>
    tries_do ads s B w1 (V.below (Below.mono h1 hB)) pk pc px hp k hk n x c hn (kp_cell h1 ck) (kp_cell h1 cc) (kp_frozen h1 cc zc) (kp_cell h1 cx) hne
  rcases Nat.eq_zero_or_pos k with rfl | h0
  · refine (try_int_ret 9 _ x w (DW pc c) (fun w => by simp [go_sem]) fun w1 h1 => (H w1 h1).mono ?_).mono ?_
    · rintro e w2 ⟨he, hw⟩
      exact ⟨he, dw_past hw (old_of_cell cc), hw⟩
    · rintro e w' ⟨rfl, hm⟩
      exact ⟨by simp [errV], mid_dw hm⟩
  · have hki : idx k < ads.length := by simp only [idx]; split <;> omega
    refine (try_int_panic ads (some s) (idx k) hki 9 _ w (DW pc c) (fun w => by simp [go_sem]) fun w1 h1 => (H w1 h1).mono ?_).mono ?_
    · rintro e w2 ⟨he, hw⟩
      simp only [Fin] at he
      rw [if_neg (by omega)] at he
      obtain ⟨v, h2, h3⟩ := he
      exact ⟨⟨v, h2, h3, ((V.below (Below.mono h1 hB)).below (dw_below hw hp (Nat.le_trans hB h1.size))).st⟩, dw_past hw (old_of_cell cc), hw⟩
    · rintro e w' ⟨rfl, hm⟩
      refine ⟨?_, mid_dw hm⟩
      rw [if_neg (by omega), if_neg (by omega)]
      simp [errV, hki]
end Go.Proofs.YtcgcliglcdfijaaDoor
