/-
  PARTS OF THIS PROOF (own work): FacP, FacR, FacU, FacE, FacV.
-/
import Derived.Test.YtahdoniggipmmaaGreatDoorPkH
import Derived.Test.YtahdoniggipmmaaGreatDoorPkI
import Derived.Test.YtahdoniggipmmaaGreatDoorPkE
import Derived.Test.YtahdoniggipmmaaGreatDoorPkG
import Derived.Deep.RegionHeld3
import Derived.Laws.StructEq

namespace Go.Proofs.YtahdoniggipmmaaGreatDoor
open Go.RowKit Go.ChangeShapes Go.WideShapes

theorem fdemand_t (v : Value) (w : World) : Calls Tryz.prog 22 #[.bool true, v] w fun e w' => e = .returned (.tuple #[]) ∧ w = w' := by
  go_enter Tryz.func22, Tryz.ntmps22
  go_wp2
  go_end0
  exact ⟨rfl, rfl⟩
theorem fdemand_f (a : Addr) (w : World) : Calls Tryz.prog 22 #[.bool false, snt a] w fun e w' => e = .panicked [{ v := snt a, recovered := false }] ∧ w = w' := by
  have hpn := panic_some (P := Tryz.prog) 166 (.pointer (some a)) w
  go_enter Tryz.func22, Tryz.ntmps22
  go_wp2
  exact ⟨rfl, rfl, rfl⟩
set_option maxRecDepth 20000 in
theorem fnumber_ok (ads : List Addr) (a : Option Addr) (cap : Nat) (bs : List Int) (len : Nat) (hlen : bs.length = len) (hb : InB bs) (w : World) (V : St ads w) (hs : SlB (.slice a len cap) bs w) (x : Int) (hx : toNum bs = (x, 0)) (h0 : x ≠ 0) :
    Calls Tryz.prog 44 #[.slice a len cap] w fun e w' => e = .returned (.int .i64 x) ∧ Kp w w' := by
  have HT := toNumber_any ads a cap bs len hlen hb w V hs
  have h3 : 3 < ads.length := by rw [V.len]; decide
  obtain ⟨e3, c3⟩ : ∃ e3, w.cell? ⟨0, 0, none⟩ = some (snt e3) := ⟨ads[3]'h3, V.cell 3 (by decide)⟩
  rw [hx] at HT
  simp only [errN_nil] at HT
  have CE := Lib.hid c3
  have HT := Lib.hid HT
  have hz : (x != 0) = true := by simpa using h0
  clear V hs hb c3 hx
  go_enter Tryz.func44, Tryz.ntmps44
  go_wp2_with (go_at_call 81; (with_reducible refine HT.out.mono ?_); rintro e w1 ⟨rfl, hk⟩; have K1 := Lib.hid hk; have cE := kp_cell hk CE.out; clear hk)
  refine wp_region_held_drew (S := fun w' => Kp w1 w') (by kernel_rfl) ?_ (fun hHeld => ?_)
  · exact (Kp.refl w1).drew
  refine wpAnyH_take (i := 0) (v := ?_) rfl (by kernel_rfl) (by kernel_rfl) (by kernel_rfl) (fun _ _ _ h => h) (Or.inl ⟨by rfl, ?_⟩) (by assumption) ?_
  rotate_left
  · intro w hSw; go_simp; try with_reducible rfl
  go_simp
  refine wpAnyH_take (i := 1) (v := ?_) rfl (by kernel_rfl) (by kernel_rfl) (by kernel_rfl) (fun _ _ _ h => h) (Or.inl ⟨by rfl, ?_⟩) (by assumption) ?_
  rotate_left
  · intro w hSw; go_simp; try with_reducible rfl
  go_simp
  refine wpAnyH_take (i := 2) (v := ?_) rfl (by kernel_rfl) (by kernel_rfl) (by kernel_rfl) (fun _ _ _ h => h) (Or.inl ⟨by rfl, ?_⟩) (by assumption) ?_
  rotate_left
  · intro w hSw; go_simp; try with_reducible rfl
  go_simp
  refine wpAnyH_take (i := 3) (v := ?_) rfl (by kernel_rfl) (by kernel_rfl) (by kernel_rfl) (fun _ _ _ h => h) (Or.inl ⟨by rfl, ?_⟩) (by assumption) ?_
  rotate_left
  · intro w hSw; go_simp; try with_reducible rfl
  go_simp
  refine wpAnyH_take (i := 4) (v := ?_) rfl (by kernel_rfl) (by kernel_rfl) (by kernel_rfl) (fun _ _ _ h => h) (Or.inl ⟨by rfl, ?_⟩) (by assumption) ?_
  rotate_left
  · intro w hSw; go_simp; try with_reducible rfl
  go_simp
  refine wpAnyH_take (i := 5) (v := ?_) rfl (by kernel_rfl) (by kernel_rfl) (by kernel_rfl) (fun _ _ _ h => h) (Or.inl ⟨by rfl, ?_⟩) (by assumption) ?_
  rotate_left
  · intro w hSw; go_simp; try with_reducible rfl
  go_simp
  refine wpAnyH_take (i := 6) (v := ?_) rfl (by kernel_rfl) (by kernel_rfl) (by kernel_rfl) (fun _ _ _ h => h) (Or.inl ⟨by rfl, ?_⟩) (by assumption) ?_
  rotate_left
  · intro w hSw; have q := kp_cell hSw cE; go_simp; try with_reducible rfl
  go_simp
  refine wpAnyH_ready (rs := [7]) (by kernel_rfl) (by simp) ?_
  refine AllReadyH.cons rfl (fun K hK => ?_) AllReadyH.nil
  go_simp
  go_wp2_with (go_at_call 22; (with_reducible refine (fdemand_t _ _).mono ?_); rintro e w' ⟨rfl, rfl⟩)
  refine hK.out _ _ ?_ (fun hHeld => ?_)
  · exact hHeld
  clear hK K
  refine wpAnyH_done (by kernel_rfl) ?_ _
  go_wp2
  go_ret
  exact ⟨rfl, Kp.trans K1.out hHeld⟩
set_option maxRecDepth 20000 in
theorem fnumber_zero (ads : List Addr) (h3 : 3 < ads.length) (a : Option Addr) (cap : Nat) (bs : List Int) (len : Nat) (hlen : bs.length = len) (hb : InB bs) (w : World) (V : St ads w) (hs : SlB (.slice a len cap) bs w) (hx : toNum bs = (0, 0)) :
    Calls Tryz.prog 44 #[.slice a len cap] w fun e w' => e = .panicked [{ v := snt (ads[3]'h3), recovered := false }] ∧ Kp w w' := by
  have HT := toNumber_any ads a cap bs len hlen hb w V hs
  have h0 : 0 < ads.length := by omega
  have c3 : w.cell? ⟨0, 0, none⟩ = some (snt (ads[3]'h3)) := V.cell 3 (by decide)
  rw [hx] at HT
  simp only [errN_nil] at HT
  clear hx
  obtain ⟨a3, ha3⟩ : ∃ a, ads[3]'h3 = a := ⟨_, rfl⟩
  rw [ha3] at c3 ⊢
  have CE := Lib.hid c3
  have HT := Lib.hid HT
  clear V hs hb c3 ha3
  go_enter Tryz.func44, Tryz.ntmps44
  go_wp2_with (go_at_call 81; (with_reducible refine HT.out.mono ?_); rintro e w1 ⟨rfl, hk⟩; have K1 := Lib.hid hk; have cE := kp_cell hk CE.out; clear hk)
  refine wp_region_held_drew (S := fun w' => Kp w1 w') (by kernel_rfl) ?_ (fun hHeld => ?_)
  · exact (Kp.refl w1).drew
  refine wpAnyH_take (i := 0) (v := ?_) rfl (by kernel_rfl) (by kernel_rfl) (by kernel_rfl) (fun _ _ _ h => h) (Or.inl ⟨by rfl, ?_⟩) (by assumption) ?_
  rotate_left
  · intro w hSw; go_simp; try with_reducible rfl
  go_simp
  refine wpAnyH_take (i := 1) (v := ?_) rfl (by kernel_rfl) (by kernel_rfl) (by kernel_rfl) (fun _ _ _ h => h) (Or.inl ⟨by rfl, ?_⟩) (by assumption) ?_
  rotate_left
  · intro w hSw; go_simp; try with_reducible rfl
  go_simp
  refine wpAnyH_take (i := 2) (v := ?_) rfl (by kernel_rfl) (by kernel_rfl) (by kernel_rfl) (fun _ _ _ h => h) (Or.inl ⟨by rfl, ?_⟩) (by assumption) ?_
  rotate_left
  · intro w hSw; go_simp; try with_reducible rfl
  go_simp
  refine wpAnyH_take (i := 3) (v := ?_) rfl (by kernel_rfl) (by kernel_rfl) (by kernel_rfl) (fun _ _ _ h => h) (Or.inl ⟨by rfl, ?_⟩) (by assumption) ?_
  rotate_left
  · intro w hSw; go_simp; try with_reducible rfl
  go_simp
  refine wpAnyH_take (i := 4) (v := ?_) rfl (by kernel_rfl) (by kernel_rfl) (by kernel_rfl) (fun _ _ _ h => h) (Or.inl ⟨by rfl, ?_⟩) (by assumption) ?_
  rotate_left
  · intro w hSw; go_simp; try with_reducible rfl
  go_simp
  refine wpAnyH_take (i := 5) (v := ?_) rfl (by kernel_rfl) (by kernel_rfl) (by kernel_rfl) (fun _ _ _ h => h) (Or.inl ⟨by rfl, ?_⟩) (by assumption) ?_
  rotate_left
  · intro w hSw; go_simp; try with_reducible rfl
  go_simp
  refine wpAnyH_take (i := 6) (v := ?_) rfl (by kernel_rfl) (by kernel_rfl) (by kernel_rfl) (fun _ _ _ h => h) (Or.inl ⟨by rfl, ?_⟩) (by assumption) ?_
  rotate_left
  · intro w hSw; have q := kp_cell hSw cE; go_simp; try with_reducible rfl
  go_simp
  refine wpAnyH_ready (rs := [7]) (by kernel_rfl) (by simp) ?_
  refine AllReadyH.cons rfl (fun K hK => ?_) AllReadyH.nil
  go_simp
  go_wp2_with (go_at_call 22; (with_reducible refine (fdemand_f _ _).mono ?_); rintro e w' ⟨rfl, rfl⟩)
  exact ⟨rfl, rfl, Kp.trans K1.out hHeld⟩
set_option maxRecDepth 20000 in
theorem fnumber_form (ads : List Addr) (h3 : 3 < ads.length) (a : Option Addr) (cap : Nat) (bs : List Int) (len : Nat) (hlen : bs.length = len) (hb : InB bs) (w : World) (V : St ads w) (hs : SlB (.slice a len cap) bs w) (x : Int) (hx : toNum bs = (x, 4)) :
    Calls Tryz.prog 44 #[.slice a len cap] w fun e w' => e = .panicked [{ v := snt (ads[3]'h3), recovered := false }] ∧ Kp w w' := by
  have HT := toNumber_any ads a cap bs len hlen hb w V hs
  have h0 : 0 < ads.length := by omega
  have c3 : w.cell? ⟨0, 0, none⟩ = some (snt (ads[3]'h3)) := V.cell 3 (by decide)
  rw [hx] at HT
  simp only [errN_4 ads h3] at HT
  clear hx
  obtain ⟨a3, ha3⟩ : ∃ a, ads[3]'h3 = a := ⟨_, rfl⟩
  rw [ha3] at c3 HT ⊢
  have CE := Lib.hid c3
  have HT := Lib.hid HT
  clear V hs hb c3 ha3
  go_enter Tryz.func44, Tryz.ntmps44
  go_wp2_with (go_at_call 81; (with_reducible refine HT.out.mono ?_); rintro e w1 ⟨rfl, hk⟩; have K1 := Lib.hid hk; have cE := kp_cell hk CE.out; clear hk)
  refine wp_region_held_drew (S := fun w' => Kp w1 w') (by kernel_rfl) ?_ (fun hHeld => ?_)
  · exact (Kp.refl w1).drew
  refine wpAnyH_take (i := 0) (v := ?_) rfl (by kernel_rfl) (by kernel_rfl) (by kernel_rfl) (fun _ _ _ h => h) (Or.inl ⟨by rfl, ?_⟩) (by assumption) ?_
  rotate_left
  · intro w hSw; go_simp; try with_reducible rfl
  go_simp
  refine wpAnyH_take (i := 1) (v := ?_) rfl (by kernel_rfl) (by kernel_rfl) (by kernel_rfl) (fun _ _ _ h => h) (Or.inl ⟨by rfl, ?_⟩) (by assumption) ?_
  rotate_left
  · intro w hSw; go_simp; try with_reducible rfl
  go_simp
  refine wpAnyH_take (i := 2) (v := ?_) rfl (by kernel_rfl) (by kernel_rfl) (by kernel_rfl) (fun _ _ _ h => h) (Or.inl ⟨by rfl, ?_⟩) (by assumption) ?_
  rotate_left
  · intro w hSw; go_simp; try with_reducible rfl
  go_simp
  refine wpAnyH_take (i := 3) (v := undef) rfl (by kernel_rfl) (by kernel_rfl) (by kernel_rfl) (fun _ _ _ h => h) (Or.inr ⟨by rfl, rfl⟩) (by assumption) ?_
  go_simp
  refine wpAnyH_take (i := 4) (v := undef) rfl (by kernel_rfl) (by kernel_rfl) (by kernel_rfl) (fun _ _ _ h => h) (Or.inr ⟨by rfl, rfl⟩) (by assumption) ?_
  go_simp
  refine wpAnyH_take (i := 5) (v := ?_) rfl (by kernel_rfl) (by kernel_rfl) (by kernel_rfl) (fun _ _ _ h => h) (Or.inl ⟨by rfl, ?_⟩) (by assumption) ?_
  rotate_left
  · intro w hSw; go_simp; try with_reducible rfl
  go_simp
  refine wpAnyH_take (i := 6) (v := ?_) rfl (by kernel_rfl) (by kernel_rfl) (by kernel_rfl) (fun _ _ _ h => h) (Or.inl ⟨by rfl, ?_⟩) (by assumption) ?_
  rotate_left
  · intro w hSw; have q := kp_cell hSw cE; go_simp; try with_reducible rfl
  go_simp
  refine wpAnyH_ready (rs := [7]) (by kernel_rfl) (by simp) ?_
  refine AllReadyH.cons rfl (fun K hK => ?_) AllReadyH.nil
  go_simp
  go_wp2_with (go_at_call 22; (with_reducible refine (fdemand_f _ _).mono ?_); rintro e w' ⟨rfl, rfl⟩)
  exact ⟨rfl, rfl, Kp.trans K1.out hHeld⟩
set_option maxRecDepth 20000 in
theorem fnumber_range (ads : List Addr) (h3 : 3 < ads.length) (a : Option Addr) (cap : Nat) (bs : List Int) (len : Nat) (hlen : bs.length = len) (hb : InB bs) (w : World) (V : St ads w) (hs : SlB (.slice a len cap) bs w) (x : Int) (hx : toNum bs = (x, 1)) :
    Calls Tryz.prog 44 #[.slice a len cap] w fun e w' => e = .panicked [{ v := snt (ads[3]'h3), recovered := false }] ∧ Kp w w' := by
  have HT := toNumber_any ads a cap bs len hlen hb w V hs
  have h0 : 0 < ads.length := by omega
  have c3 : w.cell? ⟨0, 0, none⟩ = some (snt (ads[3]'h3)) := V.cell 3 (by decide)
  rw [hx] at HT
  simp only [errN_1 ads h0] at HT
  obtain ⟨a0, ha0⟩ : ∃ a, ads[0]'h0 = a := ⟨_, rfl⟩
  rw [ha0] at HT
  clear hx ha0
  obtain ⟨a3, ha3⟩ : ∃ a, ads[3]'h3 = a := ⟨_, rfl⟩
  rw [ha3] at c3 ⊢
  have CE := Lib.hid c3
  have HT := Lib.hid HT
  clear V hs hb c3 ha3
  go_enter Tryz.func44, Tryz.ntmps44
  go_wp2_with (go_at_call 81; (with_reducible refine HT.out.mono ?_); rintro e w1 ⟨rfl, hk⟩; have K1 := Lib.hid hk; have cE := kp_cell hk CE.out; clear hk)
  refine wp_region_held_drew (S := fun w' => Kp w1 w') (by kernel_rfl) ?_ (fun hHeld => ?_)
  · exact (Kp.refl w1).drew
  refine wpAnyH_take (i := 0) (v := ?_) rfl (by kernel_rfl) (by kernel_rfl) (by kernel_rfl) (fun _ _ _ h => h) (Or.inl ⟨by rfl, ?_⟩) (by assumption) ?_
  rotate_left
  · intro w hSw; go_simp; try with_reducible rfl
  go_simp
  refine wpAnyH_take (i := 1) (v := ?_) rfl (by kernel_rfl) (by kernel_rfl) (by kernel_rfl) (fun _ _ _ h => h) (Or.inl ⟨by rfl, ?_⟩) (by assumption) ?_
  rotate_left
  · intro w hSw; go_simp; try with_reducible rfl
  go_simp
  refine wpAnyH_take (i := 2) (v := ?_) rfl (by kernel_rfl) (by kernel_rfl) (by kernel_rfl) (fun _ _ _ h => h) (Or.inl ⟨by rfl, ?_⟩) (by assumption) ?_
  rotate_left
  · intro w hSw; go_simp; try with_reducible rfl
  go_simp
  refine wpAnyH_take (i := 3) (v := undef) rfl (by kernel_rfl) (by kernel_rfl) (by kernel_rfl) (fun _ _ _ h => h) (Or.inr ⟨by rfl, rfl⟩) (by assumption) ?_
  go_simp
  refine wpAnyH_take (i := 4) (v := undef) rfl (by kernel_rfl) (by kernel_rfl) (by kernel_rfl) (fun _ _ _ h => h) (Or.inr ⟨by rfl, rfl⟩) (by assumption) ?_
  go_simp
  refine wpAnyH_take (i := 5) (v := ?_) rfl (by kernel_rfl) (by kernel_rfl) (by kernel_rfl) (fun _ _ _ h => h) (Or.inl ⟨by rfl, ?_⟩) (by assumption) ?_
  rotate_left
  · intro w hSw; go_simp; try with_reducible rfl
  go_simp
  refine wpAnyH_take (i := 6) (v := ?_) rfl (by kernel_rfl) (by kernel_rfl) (by kernel_rfl) (fun _ _ _ h => h) (Or.inl ⟨by rfl, ?_⟩) (by assumption) ?_
  rotate_left
  · intro w hSw; have q := kp_cell hSw cE; go_simp; try with_reducible rfl
  go_simp
  refine wpAnyH_ready (rs := [7]) (by kernel_rfl) (by simp) ?_
  refine AllReadyH.cons rfl (fun K hK => ?_) AllReadyH.nil
  go_simp
  go_wp2_with (go_at_call 22; (with_reducible refine (fdemand_f _ _).mono ?_); rintro e w' ⟨rfl, rfl⟩)
  exact ⟨rfl, rfl, Kp.trans K1.out hHeld⟩
theorem fnumber_bad (ads : List Addr) (h3 : 3 < ads.length) (a : Option Addr) (cap : Nat) (bs : List Int) (len : Nat) (hlen : bs.length = len) (hb : InB bs) (w : World) (V : St ads w) (hs : SlB (.slice a len cap) bs w) (hx : (toNum bs).2 ≠ 0 ∨ (toNum bs).1 = 0) :
    Calls Tryz.prog 44 #[.slice a len cap] w fun e w' => e = .panicked [{ v := snt (ads[3]'h3), recovered := false }] ∧ Kp w w' := by
  rcases toNum_err bs with h | h | h
  · exact fnumber_zero ads h3 a cap bs len hlen hb w V hs (Prod.ext (hx.elim (fun q => absurd h q) id) h)
  · exact fnumber_range ads h3 a cap bs len hlen hb w V hs _ (Prod.ext rfl h)
  · exact fnumber_form ads h3 a cap bs len hlen hb w V hs _ (Prod.ext rfl h)

theorem within_any (n lo hi : Int) (w : World) : Calls Tryz.prog 28 #[.int .i64 n, .int .i64 lo, .int .i64 hi] w fun e w' => e = .returned (.bool (decide (lo ≤ n ∧ n ≤ hi))) ∧ w = w' := by
  by_cases h : lo ≤ n
  · have h1 : decide (lo ≤ n) = true := decide_eq_true h
    have e : decide (lo ≤ n ∧ n ≤ hi) = decide (n ≤ hi) := by simp [h]
    rw [e]
    clear h e
    go_enter Tryz.func28, Tryz.ntmps28
    go_wp2
    go_ret
    exact ⟨rfl, rfl⟩
  · have h1 : decide (lo ≤ n) = false := decide_eq_false h
    have e : decide (lo ≤ n ∧ n ≤ hi) = false := by simp [h]
    rw [e]
    clear h e
    go_enter Tryz.func28, Tryz.ntmps28
    go_wp2
    go_ret
    exact ⟨rfl, rfl⟩
/-- a seat that isn't over, and one that is -/
def howX (t h : Int) : Bool := if t = 14 then decide (h = 1 ∨ 4 ≤ h ∧ h ≤ 8) else decide (h = 0)
theorem seat_how (t h : Int) : seatX t h = (decide (1 ≤ t ∧ t ≤ 14) && howX t h) := by
  unfold seatX howX
  split
  · rename_i q
    subst q
    rw [decide_eq_true (show (1 : Int) ≤ 14 ∧ (14 : Int) ≤ 14 by omega), Bool.true_and]
  · rename_i q
    rw [Bool.eq_iff_iff]
    simp
    omega
theorem rightHow_any (t h : Int) (w : World) : Calls Tryz.prog 91 #[.int .i64 t, .int .i64 h] w fun e w' => e = .returned (.bool (howX t h)) ∧ w = w' := by
  unfold howX
  by_cases q : t = 14
  · subst q
    rw [if_pos rfl]
    by_cases g : h = 1
    · subst g
      rw [decide_eq_true (.inl rfl)]
      go_enter Tryz.func91, Tryz.ntmps91
      go_wp2
      go_ret
      exact ⟨rfl, rfl⟩
    · have g1 : (h == 1) = false := by simpa using g
      have e : decide (h = 1 ∨ 4 ≤ h ∧ h ≤ 8) = decide (4 ≤ h ∧ h ≤ 8) := by simp [g]
      rw [e]
      clear g e
      go_enter Tryz.func91, Tryz.ntmps91
      go_wp2_with (go_at_call 28; (with_reducible refine (within_any _ _ _ _).mono ?_); rintro e w' ⟨rfl, rfl⟩)
      go_ret
      exact ⟨by simp, rfl⟩
  · rw [if_neg q]
    have q1 : (t != 14) = true := by simpa using q
    have e : decide (h = 0) = (h == 0) := by rw [Bool.eq_iff_iff]; simp
    rw [e]
    clear q e
    go_enter Tryz.func91, Tryz.ntmps91
    go_wp2
    go_ret
    exact ⟨rfl, rfl⟩
/-- where the numbers of a fact stand, by their tags -/
def plF (b : Nat) : Array Value := #[.pointer none, .pointer (some ⟨b, 0, none⟩), .pointer (some ⟨b, 1, none⟩), .pointer (some ⟨b, 2, none⟩), .pointer (some ⟨b, 3, none⟩), .pointer (some ⟨b, 4, none⟩), .pointer (some ⟨b, 5, none⟩), .pointer (some ⟨b, 6, none⟩), .pointer (some ⟨b, 7, none⟩), .pointer (some ⟨b, 8, none⟩), .pointer (some ⟨b, 9, none⟩), .pointer (some ⟨b, 10, none⟩), .pointer (some ⟨b, 11, none⟩), .pointer (some ⟨b, 12, none⟩)]
set_option maxRecDepth 100000 in
set_option maxHeartbeats 4000000 in
theorem placesF_any (b : Nat) (w : World) : Calls Tryz.prog 23 #[.pointer (some ⟨b, 0, none⟩)] w fun e w' => e = .returned (.agg (plF b)) ∧ Kp w w' := by
  have hr := (MapKept.heap_alloc w (.cells #[.pointer none, .pointer none, .pointer none, .pointer none, .pointer none, .pointer none, .pointer none, .pointer none, .pointer none, .pointer none, .pointer none, .pointer none, .pointer none, .pointer none] 58)).1
  have HR := Lib.hid hr
  have K0 := Lib.hid (kp_alloc w (.cells #[.pointer none, .pointer none, .pointer none, .pointer none, .pointer none, .pointer none, .pointer none, .pointer none, .pointer none, .pointer none, .pointer none, .pointer none, .pointer none, .pointer none] 58))
  clear hr
  go_enter Tryz.func23, Tryz.ntmps23
  go_wp2
  refine wp_region_any (by kernel_rfl) ?_
  change wpAny _ _ _ _ _ _ _ (World.drew _)
  refine wpAny_take (i := 0) (v := ?_) rfl (by kernel_rfl) (by kernel_rfl) (by kernel_rfl) (fun _ _ _ h => h) (Or.inl ⟨by rfl, ?_⟩) ?_
  rotate_left
  · intro w; go_simp; try with_reducible rfl
  go_simp
  refine wpAny_take (i := 1) (v := ?_) rfl (by kernel_rfl) (by kernel_rfl) (by kernel_rfl) (fun _ _ _ h => h) (Or.inl ⟨by rfl, ?_⟩) ?_
  rotate_left
  · intro w; go_simp; try with_reducible rfl
  go_simp
  refine wpAny_take (i := 2) (v := ?_) rfl (by kernel_rfl) (by kernel_rfl) (by kernel_rfl) (fun _ _ _ h => h) (Or.inl ⟨by rfl, ?_⟩) ?_
  rotate_left
  · intro w; go_simp; try with_reducible rfl
  go_simp
  refine wpAny_take (i := 3) (v := ?_) rfl (by kernel_rfl) (by kernel_rfl) (by kernel_rfl) (fun _ _ _ h => h) (Or.inl ⟨by rfl, ?_⟩) ?_
  rotate_left
  · intro w; go_simp; try with_reducible rfl
  go_simp
  refine wpAny_take (i := 4) (v := ?_) rfl (by kernel_rfl) (by kernel_rfl) (by kernel_rfl) (fun _ _ _ h => h) (Or.inl ⟨by rfl, ?_⟩) ?_
  rotate_left
  · intro w; go_simp; try with_reducible rfl
  go_simp
  refine wpAny_take (i := 5) (v := ?_) rfl (by kernel_rfl) (by kernel_rfl) (by kernel_rfl) (fun _ _ _ h => h) (Or.inl ⟨by rfl, ?_⟩) ?_
  rotate_left
  · intro w; go_simp; try with_reducible rfl
  go_simp
  refine wpAny_take (i := 6) (v := ?_) rfl (by kernel_rfl) (by kernel_rfl) (by kernel_rfl) (fun _ _ _ h => h) (Or.inl ⟨by rfl, ?_⟩) ?_
  rotate_left
  · intro w; go_simp; try with_reducible rfl
  go_simp
  refine wpAny_take (i := 7) (v := ?_) rfl (by kernel_rfl) (by kernel_rfl) (by kernel_rfl) (fun _ _ _ h => h) (Or.inl ⟨by rfl, ?_⟩) ?_
  rotate_left
  · intro w; go_simp; try with_reducible rfl
  go_simp
  refine wpAny_take (i := 8) (v := ?_) rfl (by kernel_rfl) (by kernel_rfl) (by kernel_rfl) (fun _ _ _ h => h) (Or.inl ⟨by rfl, ?_⟩) ?_
  rotate_left
  · intro w; go_simp; try with_reducible rfl
  go_simp
  refine wpAny_take (i := 9) (v := ?_) rfl (by kernel_rfl) (by kernel_rfl) (by kernel_rfl) (fun _ _ _ h => h) (Or.inl ⟨by rfl, ?_⟩) ?_
  rotate_left
  · intro w; go_simp; try with_reducible rfl
  go_simp
  refine wpAny_take (i := 10) (v := ?_) rfl (by kernel_rfl) (by kernel_rfl) (by kernel_rfl) (fun _ _ _ h => h) (Or.inl ⟨by rfl, ?_⟩) ?_
  rotate_left
  · intro w; go_simp; try with_reducible rfl
  go_simp
  refine wpAny_take (i := 11) (v := ?_) rfl (by kernel_rfl) (by kernel_rfl) (by kernel_rfl) (fun _ _ _ h => h) (Or.inl ⟨by rfl, ?_⟩) ?_
  rotate_left
  · intro w; go_simp; try with_reducible rfl
  go_simp
  refine wpAny_take (i := 12) (v := ?_) rfl (by kernel_rfl) (by kernel_rfl) (by kernel_rfl) (fun _ _ _ h => h) (Or.inl ⟨by rfl, ?_⟩) ?_
  rotate_left
  · intro w; go_simp; try with_reducible rfl
  go_simp
  refine wpAny_take (i := 13) (v := ?_) rfl (by kernel_rfl) (by kernel_rfl) (by kernel_rfl) (fun _ _ _ h => h) (Or.inl ⟨by rfl, ?_⟩) ?_
  rotate_left
  · intro w; go_simp; try with_reducible rfl
  go_simp
  refine wpAny_take (i := 14) (v := ?_) rfl (by kernel_rfl) (by kernel_rfl) (by kernel_rfl) (fun _ _ _ h => h) (Or.inl ⟨by rfl, ?_⟩) ?_
  rotate_left
  · intro w; go_simp; try with_reducible rfl
  go_simp
  refine wpAny_take (i := 15) (v := ?_) rfl (by kernel_rfl) (by kernel_rfl) (by kernel_rfl) (fun _ _ _ h => h) (Or.inl ⟨by rfl, ?_⟩) ?_
  rotate_left
  · intro w; go_simp; try with_reducible rfl
  go_simp
  refine wpAny_take (i := 16) (v := ?_) rfl (by kernel_rfl) (by kernel_rfl) (by kernel_rfl) (fun _ _ _ h => h) (Or.inl ⟨by rfl, ?_⟩) ?_
  rotate_left
  · intro w; go_simp; try with_reducible rfl
  go_simp
  refine wpAny_take (i := 17) (v := ?_) rfl (by kernel_rfl) (by kernel_rfl) (by kernel_rfl) (fun _ _ _ h => h) (Or.inl ⟨by rfl, ?_⟩) ?_
  rotate_left
  · intro w; go_simp; try with_reducible rfl
  go_simp
  refine wpAny_take (i := 18) (v := ?_) rfl (by kernel_rfl) (by kernel_rfl) (by kernel_rfl) (fun _ _ _ h => h) (Or.inl ⟨by rfl, ?_⟩) ?_
  rotate_left
  · intro w; go_simp; try with_reducible rfl
  go_simp
  refine wpAny_take (i := 19) (v := ?_) rfl (by kernel_rfl) (by kernel_rfl) (by kernel_rfl) (fun _ _ _ h => h) (Or.inl ⟨by rfl, ?_⟩) ?_
  rotate_left
  · intro w; go_simp; try with_reducible rfl
  go_simp
  refine wpAny_take (i := 20) (v := ?_) rfl (by kernel_rfl) (by kernel_rfl) (by kernel_rfl) (fun _ _ _ h => h) (Or.inl ⟨by rfl, ?_⟩) ?_
  rotate_left
  · intro w; go_simp; try with_reducible rfl
  go_simp
  refine wpAny_take (i := 21) (v := ?_) rfl (by kernel_rfl) (by kernel_rfl) (by kernel_rfl) (fun _ _ _ h => h) (Or.inl ⟨by rfl, ?_⟩) ?_
  rotate_left
  · intro w; go_simp; try with_reducible rfl
  go_simp
  refine wpAny_take (i := 22) (v := ?_) rfl (by kernel_rfl) (by kernel_rfl) (by kernel_rfl) (fun _ _ _ h => h) (Or.inl ⟨by rfl, ?_⟩) ?_
  rotate_left
  · intro w; go_simp; try with_reducible rfl
  go_simp
  refine wpAny_take (i := 23) (v := ?_) rfl (by kernel_rfl) (by kernel_rfl) (by kernel_rfl) (fun _ _ _ h => h) (Or.inl ⟨by rfl, ?_⟩) ?_
  rotate_left
  · intro w; go_simp; try with_reducible rfl
  go_simp
  refine wpAny_take (i := 24) (v := ?_) rfl (by kernel_rfl) (by kernel_rfl) (by kernel_rfl) (fun _ _ _ h => h) (Or.inl ⟨by rfl, ?_⟩) ?_
  rotate_left
  · intro w; go_simp; try with_reducible rfl
  go_simp
  refine wpAny_take (i := 25) (v := ?_) rfl (by kernel_rfl) (by kernel_rfl) (by kernel_rfl) (fun _ _ _ h => h) (Or.inl ⟨by rfl, ?_⟩) ?_
  rotate_left
  · intro w; go_simp; try with_reducible rfl
  go_simp
  refine wpAny_take (i := 26) (v := ?_) rfl (by kernel_rfl) (by kernel_rfl) (by kernel_rfl) (fun _ _ _ h => h) (Or.inl ⟨by rfl, ?_⟩) ?_
  rotate_left
  · intro w; go_simp; try with_reducible rfl
  go_simp
  refine wpAny_take (i := 27) (v := ?_) rfl (by kernel_rfl) (by kernel_rfl) (by kernel_rfl) (fun _ _ _ h => h) (Or.inl ⟨by rfl, ?_⟩) ?_
  rotate_left
  · intro w; go_simp; try with_reducible rfl
  go_simp
  refine wpAny_take (i := 28) (v := ?_) rfl (by kernel_rfl) (by kernel_rfl) (by kernel_rfl) (fun _ _ _ h => h) (Or.inl ⟨by rfl, ?_⟩) ?_
  rotate_left
  · intro w; go_simp; try with_reducible rfl
  go_simp
  refine wpAny_take (i := 29) (v := ?_) rfl (by kernel_rfl) (by kernel_rfl) (by kernel_rfl) (fun _ _ _ h => h) (Or.inl ⟨by rfl, ?_⟩) ?_
  rotate_left
  · intro w; go_simp; try with_reducible rfl
  go_simp
  refine wpAny_take (i := 30) (v := ?_) rfl (by kernel_rfl) (by kernel_rfl) (by kernel_rfl) (fun _ _ _ h => h) (Or.inl ⟨by rfl, ?_⟩) ?_
  rotate_left
  · intro w; go_simp; try with_reducible rfl
  go_simp
  refine wpAny_take (i := 31) (v := ?_) rfl (by kernel_rfl) (by kernel_rfl) (by kernel_rfl) (fun _ _ _ h => h) (Or.inl ⟨by rfl, ?_⟩) ?_
  rotate_left
  · intro w; go_simp; try with_reducible rfl
  go_simp
  refine wpAny_take (i := 32) (v := ?_) rfl (by kernel_rfl) (by kernel_rfl) (by kernel_rfl) (fun _ _ _ h => h) (Or.inl ⟨by rfl, ?_⟩) ?_
  rotate_left
  · intro w; go_simp; try with_reducible rfl
  go_simp
  refine wpAny_take (i := 33) (v := ?_) rfl (by kernel_rfl) (by kernel_rfl) (by kernel_rfl) (fun _ _ _ h => h) (Or.inl ⟨by rfl, ?_⟩) ?_
  rotate_left
  · intro w; go_simp; try with_reducible rfl
  go_simp
  refine wpAny_take (i := 34) (v := ?_) rfl (by kernel_rfl) (by kernel_rfl) (by kernel_rfl) (fun _ _ _ h => h) (Or.inl ⟨by rfl, ?_⟩) ?_
  rotate_left
  · intro w; go_simp; try with_reducible rfl
  go_simp
  refine wpAny_take (i := 35) (v := ?_) rfl (by kernel_rfl) (by kernel_rfl) (by kernel_rfl) (fun _ _ _ h => h) (Or.inl ⟨by rfl, ?_⟩) ?_
  rotate_left
  · intro w; go_simp; try with_reducible rfl
  go_simp
  refine wpAny_take (i := 36) (v := ?_) rfl (by kernel_rfl) (by kernel_rfl) (by kernel_rfl) (fun _ _ _ h => h) (Or.inl ⟨by rfl, ?_⟩) ?_
  rotate_left
  · intro w; go_simp; try with_reducible rfl
  go_simp
  refine wpAny_take (i := 37) (v := ?_) rfl (by kernel_rfl) (by kernel_rfl) (by kernel_rfl) (fun _ _ _ h => h) (Or.inl ⟨by rfl, ?_⟩) ?_
  rotate_left
  · intro w; go_simp; try with_reducible rfl
  go_simp
  refine wpAny_take (i := 38) (v := ?_) rfl (by kernel_rfl) (by kernel_rfl) (by kernel_rfl) (fun _ _ _ h => h) (Or.inl ⟨by rfl, ?_⟩) ?_
  rotate_left
  · intro w; go_simp; try with_reducible rfl
  go_simp
  refine wpAny_take (i := 39) (v := ?_) rfl (by kernel_rfl) (by kernel_rfl) (by kernel_rfl) (fun _ _ _ h => h) (Or.inl ⟨by rfl, ?_⟩) ?_
  rotate_left
  · intro w; go_simp; try with_reducible rfl
  go_simp
  refine wpAny_take (i := 40) (v := ?_) rfl (by kernel_rfl) (by kernel_rfl) (by kernel_rfl) (fun _ _ _ h => h) (Or.inl ⟨by rfl, ?_⟩) ?_
  rotate_left
  · intro w; go_simp; try with_reducible rfl
  go_simp
  refine wpAny_take (i := 41) (v := ?_) rfl (by kernel_rfl) (by kernel_rfl) (by kernel_rfl) (fun _ _ _ h => h) (Or.inl ⟨by rfl, ?_⟩) ?_
  rotate_left
  · intro w; go_simp; try with_reducible rfl
  go_simp
  refine wpAny_ready (rs := [42]) (by kernel_rfl) (by simp) ?_
  refine AllReady.cons rfl (fun K hK => ?_) AllReady.nil
  go_simp
  refine hK _ _ ?_
  clear hK K
  refine wpAny_done (by kernel_rfl) ?_ _
  go_wp2
  refine bodyPost_ret (results_cell_row (p := 2) rfl _ _ w.heap.size 58 (plF b) (0, 0) _ rfl (MapKept.heap_alloc w (.cells (plF b) 58)).1 Tryz.underlying58 rfl (by kernel_rfl)) rfl ?_
  exact ⟨rfl, (kp_alloc w (.cells (plF b) 58)).drew⟩
theorem plF_at (B : Nat) (j : Nat) (hj : j < 13) (jj : Int) (hjj : (j : Int) + 1 = jj) (w : World) : (Instr.index 58 (.agg (plF B)) (.int .i64 jj)).run Tryz.prog w = .ok (.pointer (some ⟨B, j, none⟩)) w := by
  subst hjj
  have hc : (plF B)[j + 1]? = some (.pointer (some ⟨B, j, none⟩)) := by
    unfold plF
    match j, hj with
    | 0, _ | 1, _ | 2, _ | 3, _ | 4, _ | 5, _ | 6, _ | 7, _ | 8, _ | 9, _ | 10, _ | 11, _ | 12, _ => rfl
  have h1 : ((j : Int) + 1).toNat = j + 1 := by omega
  have h2 : 0 ≤ (j : Int) + 1 ∧ (j : Int) + 1 < 14 := by omega
  simp [Instr.index, run_underlying Tryz.underlying58, asIntOf, go_sem, hc, h1, h2]
theorem plF_cell {w : World} {A B : Nat} (h : w.heap[A]? = some (.cells (plF B) 58 (0, 0))) (j : Nat) (hj : j < 13) : w.cell? ⟨A, j + 1, none⟩ = some (.pointer (some ⟨B, j, none⟩)) := by
  unfold World.cell?
  dsimp only
  rw [h]
  unfold plF
  match j, hj with
  | 0, _ | 1, _ | 2, _ | 3, _ | 4, _ | 5, _ | 6, _ | 7, _ | 8, _ | 9, _ | 10, _ | 11, _ | 12, _ => rfl
end Go.Proofs.YtahdoniggipmmaaGreatDoor

namespace Go.Proofs.YtahdoniggipmmaaGreatDoor
open Go.RowKit Go.ChangeShapes Go.WideShapes

/-- ALL MEMORY BUT ONE BLOCK IS AS IT WAS. -/
structure Xb (p : Nat) (w w' : World) : Prop where
  os : w'.os = w.os
  tape : w'.tape = w.tape
  output : w'.output = w.output
  size : w.heap.size ≤ w'.heap.size
  block : ∀ k, k < w.heap.size → k ≠ p → w'.heap[k]? = w.heap[k]?
theorem Xb.of_kp {p : Nat} {w w' : World} (h : Kp w w') : Xb p w w' := ⟨h.os, h.tape, h.output, h.size, fun k hk _ => h.block k hk⟩
theorem Xb.trans {p : Nat} {a b c : World} (h : Xb p a b) (k : Xb p b c) : Xb p a c :=
  ⟨k.os.trans h.os, k.tape.trans h.tape, k.output.trans h.output, Nat.le_trans h.size k.size, fun i hi h1 => (k.block i (Nat.lt_of_lt_of_le hi h.size) h1).trans (h.block i hi h1)⟩
theorem Xb.kp {p : Nat} {a b c : World} (h : Xb p a b) (k : Kp b c) : Xb p a c := h.trans (Xb.of_kp k)
theorem Xb.set {p : Nat} {w w' : World} (h : Xb p w w') (i : Nat) (v : Value) : Xb p w (w'.setCell ⟨p, i, none⟩ v) :=
  ⟨h.os, h.tape, h.output, by simp; exact h.size, fun k hk h1 => by rw [Below.heap_setCell _ _ _ _ h1]; exact h.block k hk h1⟩
theorem Xb.below {p : Nat} {w0 w w' : World} (h : Xb p w w') (hp : w0.heap.size ≤ p) (hk : Kp w0 w) : Kp w0 w' :=
  Below.trans hk ⟨h.os, h.tape, h.output, h.size, fun k q => h.block k (Nat.lt_of_lt_of_le q hk.size) (by omega)⟩
theorem Xb.row {p b : Nat} {w w' : World} {o : Obj} (h : Xb p w w') (hb : b ≠ p) (hr : w.heap[b]? = some o) : w'.heap[b]? = some o := by
  rw [h.block b (old_of_row hr) hb]; exact hr
theorem Xb.cell {p : Nat} {w w' : World} {q : Addr} {v : Value} (h : Xb p w w') (hp : q.block ≠ p) (hc : w.cell? q = some v) : w'.cell? q = some v := by
  rw [← hc]; exact World.cell?_of_block (h.block _ (old_of_cell hc) hp)
/-- A RULE AS A VALUE -/
def RuV (B : Nat) (w : World) (v : Value) : RuM → Prop
  | .rg tag lo hi => ∃ p q r : Nat, v = .func (.func 88) #[] #[.pointer (some ⟨p, 0, none⟩), .pointer (some ⟨q, 0, none⟩), .pointer (some ⟨r, 0, none⟩)] ∧ (p ≠ B ∧ q ≠ B ∧ r ≠ B) ∧ (1 ≤ tag ∧ tag ≤ 13) ∧ w.heap[p]? = some (boxI tag) ∧ w.heap[q]? = some (boxI lo) ∧ w.heap[r]? = some (boxI hi)
  | .act => v = .func (.func 67) #[] #[]
  | .ctx => v = .func (.func 66) #[] #[]
  | .seat => v = .func (.func 68) #[] #[]
theorem RuV.xb {B : Nat} {w w' : World} {v : Value} {r : RuM} (h : RuV B w v r) (hk : Xb B w w') : RuV B w' v r := by
  cases r with
  | rg tag lo hi =>
    obtain ⟨p, q, r, e, hn, ht, h1, h2, h3⟩ := h
    exact ⟨p, q, r, e, hn, ht, hk.row hn.1 h1, hk.row hn.2.1 h2, hk.row hn.2.2 h3⟩
  | act => exact h
  | ctx => exact h
  | seat => exact h
set_option maxRecDepth 20000 in
theorem ranged_any (tag : Nat) (tg lo hi : Int) (htg : (tag : Int) = tg) (ht : 1 ≤ tag ∧ tag ≤ 13) (B : Nat) (w : World) (hB : B < w.heap.size) :
    Calls Tryz.prog 65 #[.int .i64 tg, .int .i64 lo, .int .i64 hi] w fun e w' => ∃ v, e = .returned v ∧ RuV B w' v (.rg tag lo hi) ∧ Kp w w' := by
  have hmf : ∀ (fn : Fn) (first cap : Array Value) (w : World), (Instr.makeFunc fn first cap).run Tryz.prog w = .ok (.func fn first cap) w := fun _ _ _ _ => rfl
  have b0 := (MapKept.heap_alloc w (boxI tg)).1
  have b1 := (MapKept.heap_alloc (w.alloc (boxI tg)) (boxI lo)).1
  have b2 := (MapKept.heap_alloc ((w.alloc (boxI tg)).alloc (boxI lo)) (boxI hi)).1
  have k1 := kp_alloc (w.alloc (boxI tg)) (boxI lo)
  have k2 := kp_alloc ((w.alloc (boxI tg)).alloc (boxI lo)) (boxI hi)
  have H0 := Lib.hid (kp_row (Kp.trans k1 k2) b0)
  have H1 := Lib.hid (kp_row k2 b1)
  have H2 := Lib.hid b2
  have K := Lib.hid (Kp.trans (kp_alloc w (boxI tg)) (Kp.trans k1 k2))
  clear b0 b1 b2 k1 k2
  go_enter Tryz.func65, Tryz.ntmps65
  go_wp2
  go_ret
  subst htg
  have e1 : (w.alloc (boxI (tag : Int))).heap.size = w.heap.size + 1 := by simp
  have e2 : ((w.alloc (boxI (tag : Int))).alloc (boxI lo)).heap.size = w.heap.size + 1 + 1 := by simp
  have h1 := H1.out
  have h2 := H2.out
  rw [e1] at h1
  rw [e2] at h2
  exact ⟨_, rfl, ⟨_, _, _, rfl, ⟨by omega, by omega, by omega⟩, ht, H0.out, h1, h2⟩, K.out⟩
set_option maxRecDepth 20000 in
theorem rg_call (tag : Nat) (tg lo hi : Int) (htg : (tag : Int) = tg) (ht : 1 ≤ tag ∧ tag ≤ 13) (B p q r : Nat) (l : List Int) (x : Nat) (hl : l.length = 13) (w : World) (hB : w.heap[B]? = some (.cells (numsF l x) 26 (0, 0))) (hn : p ≠ B ∧ q ≠ B ∧ r ≠ B) (hp : w.heap[p]? = some (boxI tg)) (hq : w.heap[q]? = some (boxI lo)) (hr : w.heap[r]? = some (boxI hi)) :
    Calls Tryz.prog 88 #[.pointer (some ⟨B, 0, none⟩), .pointer (some ⟨p, 0, none⟩), .pointer (some ⟨q, 0, none⟩), .pointer (some ⟨r, 0, none⟩)] w fun e w' => e = .returned (.bool (RuM.ok (.rg tag lo hi) l x)) ∧ w'.heap[B]? = some (.cells (numsF (RuM.tkL (.rg tag lo hi) l) x) 26 (0, 0)) ∧ Xb B w w' := by
  have cp := cell_of_one hp
  have hj : tag - 1 < 13 := by omega
  have hjt : ((tag - 1 : Nat) : Int) + 1 = tg := by omega
  have hwp : IntKind.i64.wrap tg = tg := IntWalk.i64_in tg (by omega)
  have HQ := Lib.hid hq
  have HR := Lib.hid hr
  have HB := Lib.hid hB
  clear hp hB hq hr
  go_enter Tryz.func88, Tryz.ntmps88
  go_wp2
  refine wp_region_held_drew (S := fun w' => Kp w w') (by kernel_rfl) ?_ (fun hHeld => ?_)
  · exact (Kp.refl w).drew
  refine wpAnyH_take (i := 0) (v := ?_) rfl (by kernel_rfl) (by kernel_rfl) (by kernel_rfl) (fun _ _ _ h => h) (Or.inl ⟨by rfl, ?_⟩) (by assumption) ?_
  rotate_left
  · intro w hSw; go_simp; try with_reducible rfl
  go_simp
  refine wpAnyH_take (i := 2) (v := ?_) rfl (by kernel_rfl) (by kernel_rfl) (by kernel_rfl) (fun _ _ _ h => h) (Or.inl ⟨by rfl, ?_⟩) (by assumption) ?_
  rotate_left
  · intro w hSw; have q := kp_cell hSw cp; go_simp; try with_reducible rfl
  go_simp
  refine wpAnyH_ready (rs := [1]) (by kernel_rfl) (by simp) ?_
  refine AllReadyH.cons rfl (fun K hK => ?_) AllReadyH.nil
  go_simp
  go_wp2_with (go_at_call 23; (with_reducible refine (placesF_any B _).mono ?_); rintro e w4 ⟨rfl, hk4⟩; have K4 := Lib.hid (Kp.trans hHeld hk4); clear hk4)
  refine hK.out _ _ ?_ (fun hHeld => ?_)
  · exact K4.out
  clear hK K
  refine wpAnyH_take (i := 3) (v := ?_) rfl (by kernel_rfl) (by kernel_rfl) (by kernel_rfl) (fun _ _ _ h => h) (Or.inl ⟨by rfl, ?_⟩) (by assumption) ?_
  rotate_left
  · intro w hSw; have q := plF_at B (tag - 1) hj tg hjt w; go_simp; try with_reducible rfl
  go_simp
  refine wpAnyH_take (i := 4) (v := ?_) rfl (by kernel_rfl) (by kernel_rfl) (by kernel_rfl) (fun _ _ _ h => h) (Or.inl ⟨by rfl, ?_⟩) (by assumption) ?_
  rotate_left
  · intro w hSw; go_simp; try with_reducible rfl
  go_simp
  refine wpAnyH_done (by kernel_rfl) ?_ _
  have hL := kp_row hHeld HB.out
  have hjl : tag - 1 < l.length := by omega
  have ct := numsF_cell hL (tag - 1) hjl
  have zt := froz14 hL (tag - 1)
  have hgd : l.getD (tag - 1) 0 = l[tag - 1] := by simp [List.getD, hjl]
  obtain ⟨y, hy⟩ : ∃ y, l[tag - 1] = y := ⟨_, rfl⟩
  have LQ := Lib.hid (kp_row hHeld HQ.out)
  have LR := Lib.hid (kp_row hHeld HR.out)
  have cq : (w4.setCell ⟨B, tag - 1, none⟩ (.int .i64 0)).cell? ⟨q, 0, none⟩ = some (.int .i64 lo) := cell_of_one (by rw [Below.heap_setCell _ _ _ _ hn.2.1]; exact LQ.out)
  have cr : (w4.setCell ⟨B, tag - 1, none⟩ (.int .i64 0)).cell? ⟨r, 0, none⟩ = some (.int .i64 hi) := cell_of_one (by rw [Below.heap_setCell _ _ _ _ hn.2.2]; exact LR.out)
  have HS := Lib.hid (numsF_set hL (tag - 1) hjl 0)
  have HXB := Lib.hid ((Xb.of_kp (p := B) K4.out).set (tag - 1) (.int .i64 0))
  have HOK : Hid (RuM.ok (.rg tag lo hi) l x = decide (lo ≤ y ∧ y ≤ hi)) := Lib.hid (by show decide (lo ≤ l.getD (tag - 1) 0 ∧ l.getD (tag - 1) 0 ≤ hi) = _; rw [hgd, hy])
  rw [hy] at ct
  clear hgd hy hL hjl hl hjt htg ht hn cp
  go_wp2_with (go_at_call 28; (with_reducible refine (within_any _ _ _ _).mono ?_); rintro e w' ⟨rfl, rfl⟩)
  go_ret
  exact ⟨by rw [HOK.out]; simp, HS.out, HXB.out⟩
set_option maxRecDepth 100000 in
set_option maxHeartbeats 2000000 in
theorem act_call (ads : List Addr) (w0 : World) (V : St ads w0) (T : Tab w0) (B : Nat) (hB0 : w0.heap.size ≤ B) (k n s r u p q o d a t hh c : Int) (x : Nat) (w : World) (K : Kp w0 w) (hB : w.heap[B]? = some (.cells #[.int .i64 k, .int .i64 n, .int .i64 s, .int .i64 r, .int .i64 u, .int .i64 p, .int .i64 q, .int .i64 o, .int .i64 d, .int .i64 a, .int .i64 t, .int .i64 hh, .int .i64 c, .float .f64 x] 26 (0, 0))) :
    Calls Tryz.prog 67 #[.pointer (some ⟨B, 0, none⟩)] w fun e w' => e = .returned (.bool (rightA n s)) ∧ w'.heap[B]? = some (.cells #[.int .i64 k, .int .i64 0, .int .i64 0, .int .i64 r, .int .i64 u, .int .i64 p, .int .i64 q, .int .i64 o, .int .i64 d, .int .i64 a, .int .i64 t, .int .i64 hh, .int .i64 c, .float .f64 x] 26 (0, 0)) ∧ Xb B w w' := by
  have hne : w.heap.size ≠ B := fun q => by have := old_of_row hB; omega
  obtain ⟨W0, hW0⟩ : ∃ y, w.alloc (.cells #[.int .i64 n, .int .i64 s] 23) = y := ⟨_, rfl⟩
  have kb : Kp w W0 := by rw [← hW0]; exact kp_alloc w (.cells #[.int .i64 n, .int .i64 s] 23)
  have hr : W0.heap[w.heap.size]? = some (.cells #[.int .i64 n, .int .i64 s] 23) := by rw [← hW0]; exact (MapKept.heap_alloc w (.cells #[.int .i64 n, .int .i64 s] 23)).1
  have g0 := kp_row kb hB
  have g1 : (W0.setCell ⟨B, 1, none⟩ (.int .i64 0)).heap[B]? = some (.cells #[.int .i64 k, .int .i64 0, .int .i64 s, .int .i64 r, .int .i64 u, .int .i64 p, .int .i64 q, .int .i64 o, .int .i64 d, .int .i64 a, .int .i64 t, .int .i64 hh, .int .i64 c, .float .f64 x] 26 (0, 0)) := (Joins.block_setCell g0 _).trans rfl
  have g2 : ((W0.setCell ⟨B, 1, none⟩ (.int .i64 0)).setCell ⟨B, 2, none⟩ (.int .i64 0)).heap[B]? = some (.cells #[.int .i64 k, .int .i64 0, .int .i64 0, .int .i64 r, .int .i64 u, .int .i64 p, .int .i64 q, .int .i64 o, .int .i64 d, .int .i64 a, .int .i64 t, .int .i64 hh, .int .i64 c, .float .f64 x] 26 (0, 0)) := (Joins.block_setCell g1 _).trans rfl
  have xb : Xb B w ((W0.setCell ⟨B, 1, none⟩ (.int .i64 0)).setCell ⟨B, 2, none⟩ (.int .i64 0)) := Xb.set (Xb.set (Xb.of_kp kb) 1 (.int .i64 0)) 2 (.int .i64 0)
  have kw := xb.below hB0 K
  have HA := Lib.hid (right_any ads ((W0.setCell ⟨B, 1, none⟩ (.int .i64 0)).setCell ⟨B, 2, none⟩ (.int .i64 0)) (V.below kw) (T.kp kw) n s)
  have hr2 : ((W0.setCell ⟨B, 1, none⟩ (.int .i64 0)).setCell ⟨B, 2, none⟩ (.int .i64 0)).heap[w.heap.size]? = some (.cells #[.int .i64 n, .int .i64 s] 23) := by rw [Below.heap_setCell _ _ _ _ hne, Below.heap_setCell _ _ _ _ hne]; exact hr
  obtain ⟨e0, e1⟩ := two_cells hr2
  obtain ⟨b0, b1, b2, b3, b4, b5, b6, b7, b8, b9, b10, b11, b12, b13⟩ := cells14 hB
  obtain ⟨c0, c1, c2, c3, c4, c5, c6, c7, c8, c9, c10, c11, c12, c13⟩ := cells14 g0
  have z0 := froz14 g0
  have c2' : (W0.setCell ⟨B, 1, none⟩ (.int .i64 0)).cell? ⟨B, 2, none⟩ = some (.int .i64 s) := (cells14 g1).2.2.1
  have z1 := froz14 g1
  have G := Lib.hid g2
  have XB := Lib.hid xb
  clear V T K hB hr g0 g1 g2 xb kw hr2 kb
  go_enter Tryz.func67, Tryz.ntmps67
  go_wp2_with (go_at_call 90; (with_reducible refine HA.out.mono ?_); rintro e w5 ⟨rfl, hk5⟩; have HK5 := Lib.hid hk5; clear hk5)
  go_ret
  exact ⟨rfl, kp_row HK5.out G.out, XB.out.kp HK5.out⟩
set_option maxRecDepth 100000 in
set_option maxHeartbeats 2000000 in
theorem ctx_call (ads : List Addr) (w0 : World) (V : St ads w0) (T : Tab w0) (B : Nat) (hB0 : w0.heap.size ≤ B) (k n s r u p q o d a t hh c : Int) (x : Nat) (w : World) (K : Kp w0 w) (hB : w.heap[B]? = some (.cells #[.int .i64 k, .int .i64 n, .int .i64 s, .int .i64 r, .int .i64 u, .int .i64 p, .int .i64 q, .int .i64 o, .int .i64 d, .int .i64 a, .int .i64 t, .int .i64 hh, .int .i64 c, .float .f64 x] 26 (0, 0))) (hx : x < 18446744073709551616) :
    Calls Tryz.prog 66 #[.pointer (some ⟨B, 0, none⟩)] w fun e w' => e = .returned (.bool (rightX ⟨n, s, o, d, x⟩)) ∧ w'.heap[B]? = some (.cells #[.int .i64 k, .int .i64 0, .int .i64 0, .int .i64 r, .int .i64 u, .int .i64 p, .int .i64 q, .int .i64 0, .int .i64 0, .int .i64 a, .int .i64 t, .int .i64 hh, .int .i64 c, .float .f64 0] 26 (0, 0)) ∧ Xb B w w' := by
  have hne : w.heap.size ≠ B := fun q => by have := old_of_row hB; omega
  have hsf := store_fl
  obtain ⟨W0, hW0⟩ : ∃ y, (w.alloc (.cells #[.int .i64 n, .int .i64 s, .int .i64 o, .int .i64 d, .float .f64 x] 79)).drew = y := ⟨_, rfl⟩
  have kb : Kp w W0 := by rw [← hW0]; exact (kp_alloc w (.cells #[.int .i64 n, .int .i64 s, .int .i64 o, .int .i64 d, .float .f64 x] 79)).drew
  have hr : W0.heap[w.heap.size]? = some (.cells #[.int .i64 n, .int .i64 s, .int .i64 o, .int .i64 d, .float .f64 x] 79) := by rw [← hW0]; exact (MapKept.heap_alloc w (.cells #[.int .i64 n, .int .i64 s, .int .i64 o, .int .i64 d, .float .f64 x] 79)).1
  have g0 := kp_row kb hB
  have g1 : (W0.setCell ⟨B, 1, none⟩ (.int .i64 0)).heap[B]? = some (.cells #[.int .i64 k, .int .i64 0, .int .i64 s, .int .i64 r, .int .i64 u, .int .i64 p, .int .i64 q, .int .i64 o, .int .i64 d, .int .i64 a, .int .i64 t, .int .i64 hh, .int .i64 c, .float .f64 x] 26 (0, 0)) := (Joins.block_setCell g0 _).trans rfl
  have g2 : ((W0.setCell ⟨B, 1, none⟩ (.int .i64 0)).setCell ⟨B, 2, none⟩ (.int .i64 0)).heap[B]? = some (.cells #[.int .i64 k, .int .i64 0, .int .i64 0, .int .i64 r, .int .i64 u, .int .i64 p, .int .i64 q, .int .i64 o, .int .i64 d, .int .i64 a, .int .i64 t, .int .i64 hh, .int .i64 c, .float .f64 x] 26 (0, 0)) := (Joins.block_setCell g1 _).trans rfl
  have g3 : (((W0.setCell ⟨B, 1, none⟩ (.int .i64 0)).setCell ⟨B, 2, none⟩ (.int .i64 0)).setCell ⟨B, 7, none⟩ (.int .i64 0)).heap[B]? = some (.cells #[.int .i64 k, .int .i64 0, .int .i64 0, .int .i64 r, .int .i64 u, .int .i64 p, .int .i64 q, .int .i64 0, .int .i64 d, .int .i64 a, .int .i64 t, .int .i64 hh, .int .i64 c, .float .f64 x] 26 (0, 0)) := (Joins.block_setCell g2 _).trans rfl
  have g4 : ((((W0.setCell ⟨B, 1, none⟩ (.int .i64 0)).setCell ⟨B, 2, none⟩ (.int .i64 0)).setCell ⟨B, 7, none⟩ (.int .i64 0)).setCell ⟨B, 8, none⟩ (.int .i64 0)).heap[B]? = some (.cells #[.int .i64 k, .int .i64 0, .int .i64 0, .int .i64 r, .int .i64 u, .int .i64 p, .int .i64 q, .int .i64 0, .int .i64 0, .int .i64 a, .int .i64 t, .int .i64 hh, .int .i64 c, .float .f64 x] 26 (0, 0)) := (Joins.block_setCell g3 _).trans rfl
  have g5 : (((((W0.setCell ⟨B, 1, none⟩ (.int .i64 0)).setCell ⟨B, 2, none⟩ (.int .i64 0)).setCell ⟨B, 7, none⟩ (.int .i64 0)).setCell ⟨B, 8, none⟩ (.int .i64 0)).setCell ⟨B, 13, none⟩ (.float .f64 0)).heap[B]? = some (.cells #[.int .i64 k, .int .i64 0, .int .i64 0, .int .i64 r, .int .i64 u, .int .i64 p, .int .i64 q, .int .i64 0, .int .i64 0, .int .i64 a, .int .i64 t, .int .i64 hh, .int .i64 c, .float .f64 0] 26 (0, 0)) := (Joins.block_setCell g4 _).trans rfl
  have xb : Xb B w (((((W0.setCell ⟨B, 1, none⟩ (.int .i64 0)).setCell ⟨B, 2, none⟩ (.int .i64 0)).setCell ⟨B, 7, none⟩ (.int .i64 0)).setCell ⟨B, 8, none⟩ (.int .i64 0)).setCell ⟨B, 13, none⟩ (.float .f64 0)) := Xb.set (Xb.set (Xb.set (Xb.set (Xb.set (Xb.of_kp kb) 1 (.int .i64 0)) 2 (.int .i64 0)) 7 (.int .i64 0)) 8 (.int .i64 0)) 13 (.float .f64 0)
  have kw := xb.below hB0 K
  have HA := Lib.hid (scoRight_any ads ⟨n, s, o, d, x⟩ hx (((((W0.setCell ⟨B, 1, none⟩ (.int .i64 0)).setCell ⟨B, 2, none⟩ (.int .i64 0)).setCell ⟨B, 7, none⟩ (.int .i64 0)).setCell ⟨B, 8, none⟩ (.int .i64 0)).setCell ⟨B, 13, none⟩ (.float .f64 0)) (V.below kw) (T.kp kw))
  dsimp only [CX.cells] at HA
  have hr2 : (((((W0.setCell ⟨B, 1, none⟩ (.int .i64 0)).setCell ⟨B, 2, none⟩ (.int .i64 0)).setCell ⟨B, 7, none⟩ (.int .i64 0)).setCell ⟨B, 8, none⟩ (.int .i64 0)).setCell ⟨B, 13, none⟩ (.float .f64 0)).heap[w.heap.size]? = some (.cells #[.int .i64 n, .int .i64 s, .int .i64 o, .int .i64 d, .float .f64 x] 79) := by rw [Below.heap_setCell _ _ _ _ hne, Below.heap_setCell _ _ _ _ hne, Below.heap_setCell _ _ _ _ hne, Below.heap_setCell _ _ _ _ hne, Below.heap_setCell _ _ _ _ hne]; exact hr
  obtain ⟨e0, e1, e2, e3, e4⟩ := cells5 hr2
  obtain ⟨b0, b1, b2, b3, b4, b5, b6, b7, b8, b9, b10, b11, b12, b13⟩ := cells14 hB
  obtain ⟨c0, c1, c2, c3, c4, c5, c6, c7, c8, c9, c10, c11, c12, c13⟩ := cells14 g0
  obtain ⟨m0, m1, m2, m3, m4, m5, m6, m7, m8, m9, m10, m11, m12, m13⟩ := cells14 (kp_row (kp_alloc w (.cells #[.int .i64 0, .int .i64 0, .int .i64 0, .int .i64 0, .float .f64 0] 79)) hB)
  have hz := (MapKept.heap_alloc w (.cells #[.int .i64 0, .int .i64 0, .int .i64 0, .int .i64 0, .float .f64 0] 79)).1
  have z0 := froz14 g0
  have y1 : (W0.setCell ⟨B, 1, none⟩ (.int .i64 0)).cell? ⟨B, 2, none⟩ = some (.int .i64 s) := (cells14 g1).2.2.1
  have z1 := froz14 g1
  have y2 : ((W0.setCell ⟨B, 1, none⟩ (.int .i64 0)).setCell ⟨B, 2, none⟩ (.int .i64 0)).cell? ⟨B, 7, none⟩ = some (.int .i64 o) := (cells14 g2).2.2.2.2.2.2.2.1
  have z2 := froz14 g2
  have y3 : (((W0.setCell ⟨B, 1, none⟩ (.int .i64 0)).setCell ⟨B, 2, none⟩ (.int .i64 0)).setCell ⟨B, 7, none⟩ (.int .i64 0)).cell? ⟨B, 8, none⟩ = some (.int .i64 d) := (cells14 g3).2.2.2.2.2.2.2.2.1
  have z3 := froz14 g3
  have y4 : ((((W0.setCell ⟨B, 1, none⟩ (.int .i64 0)).setCell ⟨B, 2, none⟩ (.int .i64 0)).setCell ⟨B, 7, none⟩ (.int .i64 0)).setCell ⟨B, 8, none⟩ (.int .i64 0)).cell? ⟨B, 13, none⟩ = some (.float .f64 x) := (cells14 g4).2.2.2.2.2.2.2.2.2.2.2.2.2
  have z4 := froz14 g4
  have G := Lib.hid g5
  have XB := Lib.hid xb
  clear V T K hB hr g0 g1 g2 g3 g4 g5 xb kw hr2 kb hx
  go_enter Tryz.func66, Tryz.ntmps66
  go_wp2
  go_region
  try rw [hW0]
  clear hW0
  go_wp2_with (go_at_call 89; (with_reducible refine HA.out.mono ?_); rintro e w5 ⟨rfl, hk5⟩; have HK5 := Lib.hid hk5; clear hk5)
  go_ret
  exact ⟨rfl, kp_row HK5.out G.out, XB.out.kp HK5.out⟩
set_option maxRecDepth 100000 in
set_option maxHeartbeats 2000000 in
theorem seat_t (B : Nat) (k n s r u p q o d a t hh c : Int) (x : Nat) (w : World) (hB : w.heap[B]? = some (.cells #[.int .i64 k, .int .i64 n, .int .i64 s, .int .i64 r, .int .i64 u, .int .i64 p, .int .i64 q, .int .i64 o, .int .i64 d, .int .i64 a, .int .i64 t, .int .i64 hh, .int .i64 c, .float .f64 x] 26 (0, 0))) (ht : 1 ≤ t ∧ t ≤ 14) :
    Calls Tryz.prog 68 #[.pointer (some ⟨B, 0, none⟩)] w fun e w' => e = .returned (.bool (seatX t hh)) ∧ w'.heap[B]? = some (.cells #[.int .i64 k, .int .i64 n, .int .i64 s, .int .i64 r, .int .i64 u, .int .i64 p, .int .i64 q, .int .i64 o, .int .i64 d, .int .i64 a, .int .i64 0, .int .i64 0, .int .i64 c, .float .f64 x] 26 (0, 0)) ∧ Xb B w w' := by
  rw [seat_how]
  obtain ⟨W0, hW0⟩ : ∃ y, w.drew = y := ⟨_, rfl⟩
  have kb : Kp w W0 := by rw [← hW0]; exact (Kp.refl w).drew
  have g0 := kp_row kb hB
  have g1 : (W0.setCell ⟨B, 10, none⟩ (.int .i64 0)).heap[B]? = some (.cells #[.int .i64 k, .int .i64 n, .int .i64 s, .int .i64 r, .int .i64 u, .int .i64 p, .int .i64 q, .int .i64 o, .int .i64 d, .int .i64 a, .int .i64 0, .int .i64 hh, .int .i64 c, .float .f64 x] 26 (0, 0)) := (Joins.block_setCell g0 _).trans rfl
  have g2 : ((W0.setCell ⟨B, 10, none⟩ (.int .i64 0)).setCell ⟨B, 11, none⟩ (.int .i64 0)).heap[B]? = some (.cells #[.int .i64 k, .int .i64 n, .int .i64 s, .int .i64 r, .int .i64 u, .int .i64 p, .int .i64 q, .int .i64 o, .int .i64 d, .int .i64 a, .int .i64 0, .int .i64 0, .int .i64 c, .float .f64 x] 26 (0, 0)) := (Joins.block_setCell g1 _).trans rfl
  have xb : Xb B w ((W0.setCell ⟨B, 10, none⟩ (.int .i64 0)).setCell ⟨B, 11, none⟩ (.int .i64 0)) := Xb.set (Xb.set (Xb.of_kp kb) 10 (.int .i64 0)) 11 (.int .i64 0)
  obtain ⟨b0, b1, b2, b3, b4, b5, b6, b7, b8, b9, b10, b11, b12, b13⟩ := cells14 hB
  obtain ⟨c0, c1, c2, c3, c4, c5, c6, c7, c8, c9, c10, c11, c12, c13⟩ := cells14 g0
  have z0 := froz14 g0
  have y1 : (W0.setCell ⟨B, 10, none⟩ (.int .i64 0)).cell? ⟨B, 11, none⟩ = some (.int .i64 hh) := (cells14 g1).2.2.2.2.2.2.2.2.2.2.2.1
  have z1 := froz14 g1
  have G := Lib.hid g2
  have XB := Lib.hid xb
  have h1 : decide (1 ≤ t ∧ t ≤ 14) = true := decide_eq_true ht
  rw [h1, Bool.true_and]
  clear ht
  clear hB g0 g1 g2 xb kb
  go_enter Tryz.func68, Tryz.ntmps68
  go_wp2
  go_region
  try rw [hW0]
  clear hW0
  go_wp2_with (first | (go_at_call 28; (with_reducible refine (within_any _ _ _ _).mono ?_); rintro e w' ⟨rfl, rfl⟩) | (go_at_call 91; (with_reducible refine (rightHow_any _ _ _).mono ?_); rintro e w' ⟨rfl, rfl⟩))
  go_ret
  exact ⟨rfl, G.out, XB.out⟩
set_option maxRecDepth 100000 in
set_option maxHeartbeats 2000000 in
theorem seat_f (B : Nat) (k n s r u p q o d a t hh c : Int) (x : Nat) (w : World) (hB : w.heap[B]? = some (.cells #[.int .i64 k, .int .i64 n, .int .i64 s, .int .i64 r, .int .i64 u, .int .i64 p, .int .i64 q, .int .i64 o, .int .i64 d, .int .i64 a, .int .i64 t, .int .i64 hh, .int .i64 c, .float .f64 x] 26 (0, 0))) (ht : ¬ (1 ≤ t ∧ t ≤ 14)) :
    Calls Tryz.prog 68 #[.pointer (some ⟨B, 0, none⟩)] w fun e w' => e = .returned (.bool (seatX t hh)) ∧ w'.heap[B]? = some (.cells #[.int .i64 k, .int .i64 n, .int .i64 s, .int .i64 r, .int .i64 u, .int .i64 p, .int .i64 q, .int .i64 o, .int .i64 d, .int .i64 a, .int .i64 0, .int .i64 0, .int .i64 c, .float .f64 x] 26 (0, 0)) ∧ Xb B w w' := by
  rw [seat_how]
  obtain ⟨W0, hW0⟩ : ∃ y, w.drew = y := ⟨_, rfl⟩
  have kb : Kp w W0 := by rw [← hW0]; exact (Kp.refl w).drew
  have g0 := kp_row kb hB
  have g1 : (W0.setCell ⟨B, 10, none⟩ (.int .i64 0)).heap[B]? = some (.cells #[.int .i64 k, .int .i64 n, .int .i64 s, .int .i64 r, .int .i64 u, .int .i64 p, .int .i64 q, .int .i64 o, .int .i64 d, .int .i64 a, .int .i64 0, .int .i64 hh, .int .i64 c, .float .f64 x] 26 (0, 0)) := (Joins.block_setCell g0 _).trans rfl
  have g2 : ((W0.setCell ⟨B, 10, none⟩ (.int .i64 0)).setCell ⟨B, 11, none⟩ (.int .i64 0)).heap[B]? = some (.cells #[.int .i64 k, .int .i64 n, .int .i64 s, .int .i64 r, .int .i64 u, .int .i64 p, .int .i64 q, .int .i64 o, .int .i64 d, .int .i64 a, .int .i64 0, .int .i64 0, .int .i64 c, .float .f64 x] 26 (0, 0)) := (Joins.block_setCell g1 _).trans rfl
  have xb : Xb B w ((W0.setCell ⟨B, 10, none⟩ (.int .i64 0)).setCell ⟨B, 11, none⟩ (.int .i64 0)) := Xb.set (Xb.set (Xb.of_kp kb) 10 (.int .i64 0)) 11 (.int .i64 0)
  obtain ⟨b0, b1, b2, b3, b4, b5, b6, b7, b8, b9, b10, b11, b12, b13⟩ := cells14 hB
  obtain ⟨c0, c1, c2, c3, c4, c5, c6, c7, c8, c9, c10, c11, c12, c13⟩ := cells14 g0
  have z0 := froz14 g0
  have y1 : (W0.setCell ⟨B, 10, none⟩ (.int .i64 0)).cell? ⟨B, 11, none⟩ = some (.int .i64 hh) := (cells14 g1).2.2.2.2.2.2.2.2.2.2.2.1
  have z1 := froz14 g1
  have G := Lib.hid g2
  have XB := Lib.hid xb
  have h1 : decide (1 ≤ t ∧ t ≤ 14) = false := decide_eq_false ht
  rw [h1, Bool.false_and]
  clear ht
  clear hB g0 g1 g2 xb kb
  go_enter Tryz.func68, Tryz.ntmps68
  go_wp2
  go_region
  try rw [hW0]
  clear hW0
  go_wp2_with (first | (go_at_call 28; (with_reducible refine (within_any _ _ _ _).mono ?_); rintro e w' ⟨rfl, rfl⟩))
  go_ret
  exact ⟨rfl, G.out, XB.out⟩
end Go.Proofs.YtahdoniggipmmaaGreatDoor

namespace Go.Proofs.YtahdoniggipmmaaGreatDoor
open Go.RowKit Go.ChangeShapes Go.WideShapes

/-- A SLICE OF RULES -/
def RuL (B : Nat) (v : Value) (rs : List RuM) (w : World) : Prop :=
  ∃ (b : Nat) (vs : List Value), v = .slice (some ⟨b, 0, none⟩) rs.length rs.length ∧ b ≠ B ∧ vs.length = rs.length ∧ (∃ t fr, w.heap[b]? = some (.cells vs.toArray t fr)) ∧ ∀ (j : Nat) (u : Value) (r : RuM), vs[j]? = some u → rs[j]? = some r → RuV B w u r
theorem RuL.xb {B : Nat} {v : Value} {rs : List RuM} {w w' : World} (h : RuL B v rs w) (hk : Xb B w w') : RuL B v rs w' := by
  obtain ⟨b, vs, h1, h2, h3, ⟨t, fr, h4⟩, h5⟩ := h
  exact ⟨b, vs, h1, h2, h3, ⟨t, fr, hk.row h2 h4⟩, fun j u r hu hr => (h5 j u r hu hr).xb hk⟩
set_option maxRecDepth 100000 in
set_option maxHeartbeats 2000000 in
theorem rules_1 (B : Nat) (w : World) (hB : B < w.heap.size) : Calls Tryz.prog 29 #[.int .i64 1] w fun e w' => ∃ v, e = .returned v ∧ RuL B v (rulesM 1) w' ∧ Kp w w' := by
  have HS0 := Lib.hid hB
  clear hB
  go_enter Tryz.func29, Tryz.ntmps29
  go_wp2_with (first
    | (go_at_call 65; (with_reducible refine (ranged_any 4 4 0 5 rfl (by omega) B _ HS0.out).mono ?_); rintro e w1 ⟨v1, rfl, hv1, hk1⟩; obtain ⟨p1, q1, r1, rfl, hn1⟩ := hv1; have HV1 := Lib.hid hn1; have HK1 := Lib.hid hk1; have HS1 := Lib.hid (Nat.lt_of_lt_of_le HS0.out hk1.size); clear hn1 hk1)
    | (go_at_call 65; (with_reducible refine (ranged_any 6 6 0 7 rfl (by omega) B _ HS1.out).mono ?_); rintro e w2 ⟨v2, rfl, hv2, hk2⟩; obtain ⟨p2, q2, r2, rfl, hn2⟩ := hv2; have HV2 := Lib.hid hn2; have HK2 := Lib.hid hk2; have HS2 := Lib.hid (Nat.lt_of_lt_of_le HS1.out hk2.size); clear hn2 hk2)
    | (go_at_call 65; (with_reducible refine (ranged_any 7 7 1 2 rfl (by omega) B _ HS2.out).mono ?_); rintro e w3 ⟨v3, rfl, hv3, hk3⟩; obtain ⟨p3, q3, r3, rfl, hn3⟩ := hv3; have HV3 := Lib.hid hn3; have HK3 := Lib.hid hk3; have HS3 := Lib.hid (Nat.lt_of_lt_of_le HS2.out hk3.size); clear hn3 hk3)
    | (go_at_call 65; (with_reducible refine (ranged_any 10 10 0 8 rfl (by omega) B _ HS3.out).mono ?_); rintro e w4 ⟨v4, rfl, hv4, hk4⟩; obtain ⟨p4, q4, r4, rfl, hn4⟩ := hv4; have HV4 := Lib.hid hn4; have HK4 := Lib.hid hk4; have HS4 := Lib.hid (Nat.lt_of_lt_of_le HS3.out hk4.size); clear hn4 hk4))
  go_ret
  have KA := kp_alloc w4 (.cells #[.func (.func 66) #[] #[], .func (.func 88) #[] #[.pointer (some ⟨p4, 0, none⟩), .pointer (some ⟨q4, 0, none⟩), .pointer (some ⟨r4, 0, none⟩)]] 72)
  have hs := HS4.out
  refine ⟨_, rfl, ⟨w4.heap.size, [.func (.func 66) #[] #[], .func (.func 88) #[] #[.pointer (some ⟨p4, 0, none⟩), .pointer (some ⟨q4, 0, none⟩), .pointer (some ⟨r4, 0, none⟩)]], rfl, by omega, rfl, ⟨_, _, (MapKept.heap_alloc w4 _).1⟩, ?_⟩, Kp.trans (Kp.trans (Kp.trans (Kp.trans (HK1.out) HK2.out) HK3.out) HK4.out) KA⟩
  intro j u r hu hr
  match j, u, r, hu, hr with
  | 0, u, r, hu, hr =>
    obtain rfl : .func (.func 66) #[] #[] = u := by simpa using hu
    obtain rfl : .ctx = r := by simpa [rulesM] using hr
    exact rfl
  | 1, u, r, hu, hr =>
    obtain rfl : .func (.func 88) #[] #[.pointer (some ⟨p4, 0, none⟩), .pointer (some ⟨q4, 0, none⟩), .pointer (some ⟨r4, 0, none⟩)] = u := by simpa using hu
    obtain rfl : (.rg 10 0 8) = r := by simpa [rulesM] using hr
    exact RuV.xb (show RuV B w4 _ (.rg _ _ _) from ⟨p4, q4, r4, rfl, HV4.out⟩) (Xb.of_kp (KA))
  | j + 2, u, r, hu, hr => simp at hu
set_option maxRecDepth 100000 in
set_option maxHeartbeats 2000000 in
theorem rules_2 (B : Nat) (w : World) (hB : B < w.heap.size) : Calls Tryz.prog 29 #[.int .i64 2] w fun e w' => ∃ v, e = .returned v ∧ RuL B v (rulesM 2) w' ∧ Kp w w' := by
  have HS0 := Lib.hid hB
  clear hB
  go_enter Tryz.func29, Tryz.ntmps29
  go_wp2_with (first
    | (go_at_call 65; (with_reducible refine (ranged_any 4 4 0 5 rfl (by omega) B _ HS0.out).mono ?_); rintro e w1 ⟨v1, rfl, hv1, hk1⟩; obtain ⟨p1, q1, r1, rfl, hn1⟩ := hv1; have HV1 := Lib.hid hn1; have HK1 := Lib.hid hk1; have HS1 := Lib.hid (Nat.lt_of_lt_of_le HS0.out hk1.size); clear hn1 hk1)
    | (go_at_call 65; (with_reducible refine (ranged_any 6 6 0 7 rfl (by omega) B _ HS1.out).mono ?_); rintro e w2 ⟨v2, rfl, hv2, hk2⟩; obtain ⟨p2, q2, r2, rfl, hn2⟩ := hv2; have HV2 := Lib.hid hn2; have HK2 := Lib.hid hk2; have HS2 := Lib.hid (Nat.lt_of_lt_of_le HS1.out hk2.size); clear hn2 hk2)
    | (go_at_call 65; (with_reducible refine (ranged_any 7 7 1 2 rfl (by omega) B _ HS2.out).mono ?_); rintro e w3 ⟨v3, rfl, hv3, hk3⟩; obtain ⟨p3, q3, r3, rfl, hn3⟩ := hv3; have HV3 := Lib.hid hn3; have HK3 := Lib.hid hk3; have HS3 := Lib.hid (Nat.lt_of_lt_of_le HS2.out hk3.size); clear hn3 hk3)
    | (go_at_call 65; (with_reducible refine (ranged_any 5 5 0 3 rfl (by omega) B _ HS3.out).mono ?_); rintro e w4 ⟨v4, rfl, hv4, hk4⟩; obtain ⟨p4, q4, r4, rfl, hn4⟩ := hv4; have HV4 := Lib.hid hn4; have HK4 := Lib.hid hk4; have HS4 := Lib.hid (Nat.lt_of_lt_of_le HS3.out hk4.size); clear hn4 hk4))
  go_ret
  have KA := kp_alloc w4 (.cells #[.func (.func 67) #[] #[], .func (.func 88) #[] #[.pointer (some ⟨p1, 0, none⟩), .pointer (some ⟨q1, 0, none⟩), .pointer (some ⟨r1, 0, none⟩)], .func (.func 88) #[] #[.pointer (some ⟨p4, 0, none⟩), .pointer (some ⟨q4, 0, none⟩), .pointer (some ⟨r4, 0, none⟩)], .func (.func 88) #[] #[.pointer (some ⟨p2, 0, none⟩), .pointer (some ⟨q2, 0, none⟩), .pointer (some ⟨r2, 0, none⟩)], .func (.func 88) #[] #[.pointer (some ⟨p3, 0, none⟩), .pointer (some ⟨q3, 0, none⟩), .pointer (some ⟨r3, 0, none⟩)]] 72)
  have hs := HS4.out
  refine ⟨_, rfl, ⟨w4.heap.size, [.func (.func 67) #[] #[], .func (.func 88) #[] #[.pointer (some ⟨p1, 0, none⟩), .pointer (some ⟨q1, 0, none⟩), .pointer (some ⟨r1, 0, none⟩)], .func (.func 88) #[] #[.pointer (some ⟨p4, 0, none⟩), .pointer (some ⟨q4, 0, none⟩), .pointer (some ⟨r4, 0, none⟩)], .func (.func 88) #[] #[.pointer (some ⟨p2, 0, none⟩), .pointer (some ⟨q2, 0, none⟩), .pointer (some ⟨r2, 0, none⟩)], .func (.func 88) #[] #[.pointer (some ⟨p3, 0, none⟩), .pointer (some ⟨q3, 0, none⟩), .pointer (some ⟨r3, 0, none⟩)]], rfl, by omega, rfl, ⟨_, _, (MapKept.heap_alloc w4 _).1⟩, ?_⟩, Kp.trans (Kp.trans (Kp.trans (Kp.trans (HK1.out) HK2.out) HK3.out) HK4.out) KA⟩
  intro j u r hu hr
  match j, u, r, hu, hr with
  | 0, u, r, hu, hr =>
    obtain rfl : .func (.func 67) #[] #[] = u := by simpa using hu
    obtain rfl : .act = r := by simpa [rulesM] using hr
    exact rfl
  | 1, u, r, hu, hr =>
    obtain rfl : .func (.func 88) #[] #[.pointer (some ⟨p1, 0, none⟩), .pointer (some ⟨q1, 0, none⟩), .pointer (some ⟨r1, 0, none⟩)] = u := by simpa using hu
    obtain rfl : (.rg 4 0 5) = r := by simpa [rulesM] using hr
    exact RuV.xb (show RuV B w1 _ (.rg _ _ _) from ⟨p1, q1, r1, rfl, HV1.out⟩) (Xb.of_kp (Kp.trans (Kp.trans (Kp.trans (HK2.out) (HK3.out)) (HK4.out)) (KA)))
  | 2, u, r, hu, hr =>
    obtain rfl : .func (.func 88) #[] #[.pointer (some ⟨p4, 0, none⟩), .pointer (some ⟨q4, 0, none⟩), .pointer (some ⟨r4, 0, none⟩)] = u := by simpa using hu
    obtain rfl : (.rg 5 0 3) = r := by simpa [rulesM] using hr
    exact RuV.xb (show RuV B w4 _ (.rg _ _ _) from ⟨p4, q4, r4, rfl, HV4.out⟩) (Xb.of_kp (KA))
  | 3, u, r, hu, hr =>
    obtain rfl : .func (.func 88) #[] #[.pointer (some ⟨p2, 0, none⟩), .pointer (some ⟨q2, 0, none⟩), .pointer (some ⟨r2, 0, none⟩)] = u := by simpa using hu
    obtain rfl : (.rg 6 0 7) = r := by simpa [rulesM] using hr
    exact RuV.xb (show RuV B w2 _ (.rg _ _ _) from ⟨p2, q2, r2, rfl, HV2.out⟩) (Xb.of_kp (Kp.trans (Kp.trans (HK3.out) (HK4.out)) (KA)))
  | 4, u, r, hu, hr =>
    obtain rfl : .func (.func 88) #[] #[.pointer (some ⟨p3, 0, none⟩), .pointer (some ⟨q3, 0, none⟩), .pointer (some ⟨r3, 0, none⟩)] = u := by simpa using hu
    obtain rfl : (.rg 7 1 2) = r := by simpa [rulesM] using hr
    exact RuV.xb (show RuV B w3 _ (.rg _ _ _) from ⟨p3, q3, r3, rfl, HV3.out⟩) (Xb.of_kp (Kp.trans (HK4.out) (KA)))
  | j + 5, u, r, hu, hr => simp at hu
set_option maxRecDepth 100000 in
set_option maxHeartbeats 2000000 in
theorem rules_3 (B : Nat) (w : World) (hB : B < w.heap.size) : Calls Tryz.prog 29 #[.int .i64 3] w fun e w' => ∃ v, e = .returned v ∧ RuL B v (rulesM 3) w' ∧ Kp w w' := by
  have HS0 := Lib.hid hB
  clear hB
  go_enter Tryz.func29, Tryz.ntmps29
  go_wp2_with (first
    | (go_at_call 65; (with_reducible refine (ranged_any 4 4 0 5 rfl (by omega) B _ HS0.out).mono ?_); rintro e w1 ⟨v1, rfl, hv1, hk1⟩; obtain ⟨p1, q1, r1, rfl, hn1⟩ := hv1; have HV1 := Lib.hid hn1; have HK1 := Lib.hid hk1; have HS1 := Lib.hid (Nat.lt_of_lt_of_le HS0.out hk1.size); clear hn1 hk1)
    | (go_at_call 65; (with_reducible refine (ranged_any 6 6 0 7 rfl (by omega) B _ HS1.out).mono ?_); rintro e w2 ⟨v2, rfl, hv2, hk2⟩; obtain ⟨p2, q2, r2, rfl, hn2⟩ := hv2; have HV2 := Lib.hid hn2; have HK2 := Lib.hid hk2; have HS2 := Lib.hid (Nat.lt_of_lt_of_le HS1.out hk2.size); clear hn2 hk2)
    | (go_at_call 65; (with_reducible refine (ranged_any 7 7 1 2 rfl (by omega) B _ HS2.out).mono ?_); rintro e w3 ⟨v3, rfl, hv3, hk3⟩; obtain ⟨p3, q3, r3, rfl, hn3⟩ := hv3; have HV3 := Lib.hid hn3; have HK3 := Lib.hid hk3; have HS3 := Lib.hid (Nat.lt_of_lt_of_le HS2.out hk3.size); clear hn3 hk3))
  go_ret
  have KA := kp_alloc w3 (.cells #[.func (.func 67) #[] #[], .func (.func 88) #[] #[.pointer (some ⟨p1, 0, none⟩), .pointer (some ⟨q1, 0, none⟩), .pointer (some ⟨r1, 0, none⟩)], .func (.func 68) #[] #[]] 72)
  have hs := HS3.out
  refine ⟨_, rfl, ⟨w3.heap.size, [.func (.func 67) #[] #[], .func (.func 88) #[] #[.pointer (some ⟨p1, 0, none⟩), .pointer (some ⟨q1, 0, none⟩), .pointer (some ⟨r1, 0, none⟩)], .func (.func 68) #[] #[]], rfl, by omega, rfl, ⟨_, _, (MapKept.heap_alloc w3 _).1⟩, ?_⟩, Kp.trans (Kp.trans (Kp.trans (HK1.out) HK2.out) HK3.out) KA⟩
  intro j u r hu hr
  match j, u, r, hu, hr with
  | 0, u, r, hu, hr =>
    obtain rfl : .func (.func 67) #[] #[] = u := by simpa using hu
    obtain rfl : .act = r := by simpa [rulesM] using hr
    exact rfl
  | 1, u, r, hu, hr =>
    obtain rfl : .func (.func 88) #[] #[.pointer (some ⟨p1, 0, none⟩), .pointer (some ⟨q1, 0, none⟩), .pointer (some ⟨r1, 0, none⟩)] = u := by simpa using hu
    obtain rfl : (.rg 4 0 5) = r := by simpa [rulesM] using hr
    exact RuV.xb (show RuV B w1 _ (.rg _ _ _) from ⟨p1, q1, r1, rfl, HV1.out⟩) (Xb.of_kp (Kp.trans (Kp.trans (HK2.out) (HK3.out)) (KA)))
  | 2, u, r, hu, hr =>
    obtain rfl : .func (.func 68) #[] #[] = u := by simpa using hu
    obtain rfl : .seat = r := by simpa [rulesM] using hr
    exact rfl
  | j + 3, u, r, hu, hr => simp at hu
set_option maxRecDepth 100000 in
set_option maxHeartbeats 2000000 in
theorem rules_4 (B : Nat) (w : World) (hB : B < w.heap.size) : Calls Tryz.prog 29 #[.int .i64 4] w fun e w' => ∃ v, e = .returned v ∧ RuL B v (rulesM 4) w' ∧ Kp w w' := by
  have HS0 := Lib.hid hB
  clear hB
  go_enter Tryz.func29, Tryz.ntmps29
  go_wp2_with (first
    | (go_at_call 65; (with_reducible refine (ranged_any 4 4 0 5 rfl (by omega) B _ HS0.out).mono ?_); rintro e w1 ⟨v1, rfl, hv1, hk1⟩; obtain ⟨p1, q1, r1, rfl, hn1⟩ := hv1; have HV1 := Lib.hid hn1; have HK1 := Lib.hid hk1; have HS1 := Lib.hid (Nat.lt_of_lt_of_le HS0.out hk1.size); clear hn1 hk1)
    | (go_at_call 65; (with_reducible refine (ranged_any 6 6 0 7 rfl (by omega) B _ HS1.out).mono ?_); rintro e w2 ⟨v2, rfl, hv2, hk2⟩; obtain ⟨p2, q2, r2, rfl, hn2⟩ := hv2; have HV2 := Lib.hid hn2; have HK2 := Lib.hid hk2; have HS2 := Lib.hid (Nat.lt_of_lt_of_le HS1.out hk2.size); clear hn2 hk2)
    | (go_at_call 65; (with_reducible refine (ranged_any 7 7 1 2 rfl (by omega) B _ HS2.out).mono ?_); rintro e w3 ⟨v3, rfl, hv3, hk3⟩; obtain ⟨p3, q3, r3, rfl, hn3⟩ := hv3; have HV3 := Lib.hid hn3; have HK3 := Lib.hid hk3; have HS3 := Lib.hid (Nat.lt_of_lt_of_le HS2.out hk3.size); clear hn3 hk3)
    | (go_at_call 65; (with_reducible refine (ranged_any 13 13 1 2 rfl (by omega) B _ HS3.out).mono ?_); rintro e w4 ⟨v4, rfl, hv4, hk4⟩; obtain ⟨p4, q4, r4, rfl, hn4⟩ := hv4; have HV4 := Lib.hid hn4; have HK4 := Lib.hid hk4; have HS4 := Lib.hid (Nat.lt_of_lt_of_le HS3.out hk4.size); clear hn4 hk4))
  go_ret
  have KA := kp_alloc w4 (.cells #[.func (.func 67) #[] #[], .func (.func 88) #[] #[.pointer (some ⟨p4, 0, none⟩), .pointer (some ⟨q4, 0, none⟩), .pointer (some ⟨r4, 0, none⟩)]] 72)
  have hs := HS4.out
  refine ⟨_, rfl, ⟨w4.heap.size, [.func (.func 67) #[] #[], .func (.func 88) #[] #[.pointer (some ⟨p4, 0, none⟩), .pointer (some ⟨q4, 0, none⟩), .pointer (some ⟨r4, 0, none⟩)]], rfl, by omega, rfl, ⟨_, _, (MapKept.heap_alloc w4 _).1⟩, ?_⟩, Kp.trans (Kp.trans (Kp.trans (Kp.trans (HK1.out) HK2.out) HK3.out) HK4.out) KA⟩
  intro j u r hu hr
  match j, u, r, hu, hr with
  | 0, u, r, hu, hr =>
    obtain rfl : .func (.func 67) #[] #[] = u := by simpa using hu
    obtain rfl : .act = r := by simpa [rulesM] using hr
    exact rfl
  | 1, u, r, hu, hr =>
    obtain rfl : .func (.func 88) #[] #[.pointer (some ⟨p4, 0, none⟩), .pointer (some ⟨q4, 0, none⟩), .pointer (some ⟨r4, 0, none⟩)] = u := by simpa using hu
    obtain rfl : (.rg 13 1 2) = r := by simpa [rulesM] using hr
    exact RuV.xb (show RuV B w4 _ (.rg _ _ _) from ⟨p4, q4, r4, rfl, HV4.out⟩) (Xb.of_kp (KA))
  | j + 2, u, r, hu, hr => simp at hu
set_option maxRecDepth 100000 in
set_option maxHeartbeats 2000000 in
theorem rules_5 (B : Nat) (w : World) (hB : B < w.heap.size) : Calls Tryz.prog 29 #[.int .i64 5] w fun e w' => ∃ v, e = .returned v ∧ RuL B v (rulesM 5) w' ∧ Kp w w' := by
  have HS0 := Lib.hid hB
  clear hB
  go_enter Tryz.func29, Tryz.ntmps29
  go_wp2_with (first
    | (go_at_call 65; (with_reducible refine (ranged_any 4 4 0 5 rfl (by omega) B _ HS0.out).mono ?_); rintro e w1 ⟨v1, rfl, hv1, hk1⟩; obtain ⟨p1, q1, r1, rfl, hn1⟩ := hv1; have HV1 := Lib.hid hn1; have HK1 := Lib.hid hk1; have HS1 := Lib.hid (Nat.lt_of_lt_of_le HS0.out hk1.size); clear hn1 hk1)
    | (go_at_call 65; (with_reducible refine (ranged_any 6 6 0 7 rfl (by omega) B _ HS1.out).mono ?_); rintro e w2 ⟨v2, rfl, hv2, hk2⟩; obtain ⟨p2, q2, r2, rfl, hn2⟩ := hv2; have HV2 := Lib.hid hn2; have HK2 := Lib.hid hk2; have HS2 := Lib.hid (Nat.lt_of_lt_of_le HS1.out hk2.size); clear hn2 hk2)
    | (go_at_call 65; (with_reducible refine (ranged_any 7 7 1 2 rfl (by omega) B _ HS2.out).mono ?_); rintro e w3 ⟨v3, rfl, hv3, hk3⟩; obtain ⟨p3, q3, r3, rfl, hn3⟩ := hv3; have HV3 := Lib.hid hn3; have HK3 := Lib.hid hk3; have HS3 := Lib.hid (Nat.lt_of_lt_of_le HS2.out hk3.size); clear hn3 hk3))
  go_ret
  have KA := kp_alloc w3 (.cells #[.func (.func 67) #[] #[]] 72)
  have hs := HS3.out
  refine ⟨_, rfl, ⟨w3.heap.size, [.func (.func 67) #[] #[]], rfl, by omega, rfl, ⟨_, _, (MapKept.heap_alloc w3 _).1⟩, ?_⟩, Kp.trans (Kp.trans (Kp.trans (HK1.out) HK2.out) HK3.out) KA⟩
  intro j u r hu hr
  match j, u, r, hu, hr with
  | 0, u, r, hu, hr =>
    obtain rfl : .func (.func 67) #[] #[] = u := by simpa using hu
    obtain rfl : .act = r := by simpa [rulesM] using hr
    exact rfl
  | j + 1, u, r, hu, hr => simp at hu
set_option maxRecDepth 100000 in
set_option maxHeartbeats 2000000 in
theorem rules_6 (B : Nat) (w : World) (hB : B < w.heap.size) : Calls Tryz.prog 29 #[.int .i64 6] w fun e w' => ∃ v, e = .returned v ∧ RuL B v (rulesM 6) w' ∧ Kp w w' := by
  have HS0 := Lib.hid hB
  clear hB
  go_enter Tryz.func29, Tryz.ntmps29
  go_wp2_with (first
    | (go_at_call 65; (with_reducible refine (ranged_any 4 4 0 5 rfl (by omega) B _ HS0.out).mono ?_); rintro e w1 ⟨v1, rfl, hv1, hk1⟩; obtain ⟨p1, q1, r1, rfl, hn1⟩ := hv1; have HV1 := Lib.hid hn1; have HK1 := Lib.hid hk1; have HS1 := Lib.hid (Nat.lt_of_lt_of_le HS0.out hk1.size); clear hn1 hk1)
    | (go_at_call 65; (with_reducible refine (ranged_any 6 6 0 7 rfl (by omega) B _ HS1.out).mono ?_); rintro e w2 ⟨v2, rfl, hv2, hk2⟩; obtain ⟨p2, q2, r2, rfl, hn2⟩ := hv2; have HV2 := Lib.hid hn2; have HK2 := Lib.hid hk2; have HS2 := Lib.hid (Nat.lt_of_lt_of_le HS1.out hk2.size); clear hn2 hk2)
    | (go_at_call 65; (with_reducible refine (ranged_any 7 7 1 2 rfl (by omega) B _ HS2.out).mono ?_); rintro e w3 ⟨v3, rfl, hv3, hk3⟩; obtain ⟨p3, q3, r3, rfl, hn3⟩ := hv3; have HV3 := Lib.hid hn3; have HK3 := Lib.hid hk3; have HS3 := Lib.hid (Nat.lt_of_lt_of_le HS2.out hk3.size); clear hn3 hk3))
  go_ret
  have KA := kp_alloc w3 (.cells #[.func (.func 88) #[] #[.pointer (some ⟨p2, 0, none⟩), .pointer (some ⟨q2, 0, none⟩), .pointer (some ⟨r2, 0, none⟩)], .func (.func 67) #[] #[], .func (.func 88) #[] #[.pointer (some ⟨p3, 0, none⟩), .pointer (some ⟨q3, 0, none⟩), .pointer (some ⟨r3, 0, none⟩)]] 72)
  have hs := HS3.out
  refine ⟨_, rfl, ⟨w3.heap.size, [.func (.func 88) #[] #[.pointer (some ⟨p2, 0, none⟩), .pointer (some ⟨q2, 0, none⟩), .pointer (some ⟨r2, 0, none⟩)], .func (.func 67) #[] #[], .func (.func 88) #[] #[.pointer (some ⟨p3, 0, none⟩), .pointer (some ⟨q3, 0, none⟩), .pointer (some ⟨r3, 0, none⟩)]], rfl, by omega, rfl, ⟨_, _, (MapKept.heap_alloc w3 _).1⟩, ?_⟩, Kp.trans (Kp.trans (Kp.trans (HK1.out) HK2.out) HK3.out) KA⟩
  intro j u r hu hr
  match j, u, r, hu, hr with
  | 0, u, r, hu, hr =>
    obtain rfl : .func (.func 88) #[] #[.pointer (some ⟨p2, 0, none⟩), .pointer (some ⟨q2, 0, none⟩), .pointer (some ⟨r2, 0, none⟩)] = u := by simpa using hu
    obtain rfl : (.rg 6 0 7) = r := by simpa [rulesM] using hr
    exact RuV.xb (show RuV B w2 _ (.rg _ _ _) from ⟨p2, q2, r2, rfl, HV2.out⟩) (Xb.of_kp (Kp.trans (HK3.out) (KA)))
  | 1, u, r, hu, hr =>
    obtain rfl : .func (.func 67) #[] #[] = u := by simpa using hu
    obtain rfl : .act = r := by simpa [rulesM] using hr
    exact rfl
  | 2, u, r, hu, hr =>
    obtain rfl : .func (.func 88) #[] #[.pointer (some ⟨p3, 0, none⟩), .pointer (some ⟨q3, 0, none⟩), .pointer (some ⟨r3, 0, none⟩)] = u := by simpa using hu
    obtain rfl : (.rg 7 1 2) = r := by simpa [rulesM] using hr
    exact RuV.xb (show RuV B w3 _ (.rg _ _ _) from ⟨p3, q3, r3, rfl, HV3.out⟩) (Xb.of_kp (KA))
  | j + 3, u, r, hu, hr => simp at hu
set_option maxRecDepth 100000 in
set_option maxHeartbeats 2000000 in
theorem rules_7 (B : Nat) (w : World) (hB : B < w.heap.size) : Calls Tryz.prog 29 #[.int .i64 7] w fun e w' => ∃ v, e = .returned v ∧ RuL B v (rulesM 7) w' ∧ Kp w w' := by
  have HS0 := Lib.hid hB
  clear hB
  go_enter Tryz.func29, Tryz.ntmps29
  go_wp2_with (first
    | (go_at_call 65; (with_reducible refine (ranged_any 4 4 0 5 rfl (by omega) B _ HS0.out).mono ?_); rintro e w1 ⟨v1, rfl, hv1, hk1⟩; obtain ⟨p1, q1, r1, rfl, hn1⟩ := hv1; have HV1 := Lib.hid hn1; have HK1 := Lib.hid hk1; have HS1 := Lib.hid (Nat.lt_of_lt_of_le HS0.out hk1.size); clear hn1 hk1)
    | (go_at_call 65; (with_reducible refine (ranged_any 6 6 0 7 rfl (by omega) B _ HS1.out).mono ?_); rintro e w2 ⟨v2, rfl, hv2, hk2⟩; obtain ⟨p2, q2, r2, rfl, hn2⟩ := hv2; have HV2 := Lib.hid hn2; have HK2 := Lib.hid hk2; have HS2 := Lib.hid (Nat.lt_of_lt_of_le HS1.out hk2.size); clear hn2 hk2)
    | (go_at_call 65; (with_reducible refine (ranged_any 7 7 1 2 rfl (by omega) B _ HS2.out).mono ?_); rintro e w3 ⟨v3, rfl, hv3, hk3⟩; obtain ⟨p3, q3, r3, rfl, hn3⟩ := hv3; have HV3 := Lib.hid hn3; have HK3 := Lib.hid hk3; have HS3 := Lib.hid (Nat.lt_of_lt_of_le HS2.out hk3.size); clear hn3 hk3))
  go_ret
  have KA := kp_alloc w3 (.cells #[.func (.func 88) #[] #[.pointer (some ⟨p2, 0, none⟩), .pointer (some ⟨q2, 0, none⟩), .pointer (some ⟨r2, 0, none⟩)], .func (.func 88) #[] #[.pointer (some ⟨p1, 0, none⟩), .pointer (some ⟨q1, 0, none⟩), .pointer (some ⟨r1, 0, none⟩)]] 72)
  have hs := HS3.out
  refine ⟨_, rfl, ⟨w3.heap.size, [.func (.func 88) #[] #[.pointer (some ⟨p2, 0, none⟩), .pointer (some ⟨q2, 0, none⟩), .pointer (some ⟨r2, 0, none⟩)], .func (.func 88) #[] #[.pointer (some ⟨p1, 0, none⟩), .pointer (some ⟨q1, 0, none⟩), .pointer (some ⟨r1, 0, none⟩)]], rfl, by omega, rfl, ⟨_, _, (MapKept.heap_alloc w3 _).1⟩, ?_⟩, Kp.trans (Kp.trans (Kp.trans (HK1.out) HK2.out) HK3.out) KA⟩
  intro j u r hu hr
  match j, u, r, hu, hr with
  | 0, u, r, hu, hr =>
    obtain rfl : .func (.func 88) #[] #[.pointer (some ⟨p2, 0, none⟩), .pointer (some ⟨q2, 0, none⟩), .pointer (some ⟨r2, 0, none⟩)] = u := by simpa using hu
    obtain rfl : (.rg 6 0 7) = r := by simpa [rulesM] using hr
    exact RuV.xb (show RuV B w2 _ (.rg _ _ _) from ⟨p2, q2, r2, rfl, HV2.out⟩) (Xb.of_kp (Kp.trans (HK3.out) (KA)))
  | 1, u, r, hu, hr =>
    obtain rfl : .func (.func 88) #[] #[.pointer (some ⟨p1, 0, none⟩), .pointer (some ⟨q1, 0, none⟩), .pointer (some ⟨r1, 0, none⟩)] = u := by simpa using hu
    obtain rfl : (.rg 4 0 5) = r := by simpa [rulesM] using hr
    exact RuV.xb (show RuV B w1 _ (.rg _ _ _) from ⟨p1, q1, r1, rfl, HV1.out⟩) (Xb.of_kp (Kp.trans (Kp.trans (HK2.out) (HK3.out)) (KA)))
  | j + 2, u, r, hu, hr => simp at hu
set_option maxRecDepth 100000 in
set_option maxHeartbeats 2000000 in
theorem rules_8 (B : Nat) (w : World) (hB : B < w.heap.size) : Calls Tryz.prog 29 #[.int .i64 8] w fun e w' => ∃ v, e = .returned v ∧ RuL B v (rulesM 8) w' ∧ Kp w w' := by
  have HS0 := Lib.hid hB
  clear hB
  go_enter Tryz.func29, Tryz.ntmps29
  go_wp2_with (first
    | (go_at_call 65; (with_reducible refine (ranged_any 4 4 0 5 rfl (by omega) B _ HS0.out).mono ?_); rintro e w1 ⟨v1, rfl, hv1, hk1⟩; obtain ⟨p1, q1, r1, rfl, hn1⟩ := hv1; have HV1 := Lib.hid hn1; have HK1 := Lib.hid hk1; have HS1 := Lib.hid (Nat.lt_of_lt_of_le HS0.out hk1.size); clear hn1 hk1)
    | (go_at_call 65; (with_reducible refine (ranged_any 6 6 0 7 rfl (by omega) B _ HS1.out).mono ?_); rintro e w2 ⟨v2, rfl, hv2, hk2⟩; obtain ⟨p2, q2, r2, rfl, hn2⟩ := hv2; have HV2 := Lib.hid hn2; have HK2 := Lib.hid hk2; have HS2 := Lib.hid (Nat.lt_of_lt_of_le HS1.out hk2.size); clear hn2 hk2)
    | (go_at_call 65; (with_reducible refine (ranged_any 7 7 1 2 rfl (by omega) B _ HS2.out).mono ?_); rintro e w3 ⟨v3, rfl, hv3, hk3⟩; obtain ⟨p3, q3, r3, rfl, hn3⟩ := hv3; have HV3 := Lib.hid hn3; have HK3 := Lib.hid hk3; have HS3 := Lib.hid (Nat.lt_of_lt_of_le HS2.out hk3.size); clear hn3 hk3))
  go_ret
  have KA := kp_alloc w3 (.cells #[.func (.func 88) #[] #[.pointer (some ⟨p2, 0, none⟩), .pointer (some ⟨q2, 0, none⟩), .pointer (some ⟨r2, 0, none⟩)], .func (.func 68) #[] #[]] 72)
  have hs := HS3.out
  refine ⟨_, rfl, ⟨w3.heap.size, [.func (.func 88) #[] #[.pointer (some ⟨p2, 0, none⟩), .pointer (some ⟨q2, 0, none⟩), .pointer (some ⟨r2, 0, none⟩)], .func (.func 68) #[] #[]], rfl, by omega, rfl, ⟨_, _, (MapKept.heap_alloc w3 _).1⟩, ?_⟩, Kp.trans (Kp.trans (Kp.trans (HK1.out) HK2.out) HK3.out) KA⟩
  intro j u r hu hr
  match j, u, r, hu, hr with
  | 0, u, r, hu, hr =>
    obtain rfl : .func (.func 88) #[] #[.pointer (some ⟨p2, 0, none⟩), .pointer (some ⟨q2, 0, none⟩), .pointer (some ⟨r2, 0, none⟩)] = u := by simpa using hu
    obtain rfl : (.rg 6 0 7) = r := by simpa [rulesM] using hr
    exact RuV.xb (show RuV B w2 _ (.rg _ _ _) from ⟨p2, q2, r2, rfl, HV2.out⟩) (Xb.of_kp (Kp.trans (HK3.out) (KA)))
  | 1, u, r, hu, hr =>
    obtain rfl : .func (.func 68) #[] #[] = u := by simpa using hu
    obtain rfl : .seat = r := by simpa [rulesM] using hr
    exact rfl
  | j + 2, u, r, hu, hr => simp at hu
end Go.Proofs.YtahdoniggipmmaaGreatDoor

namespace Go.Proofs.YtahdoniggipmmaaGreatDoor
open Go.RowKit Go.ChangeShapes Go.WideShapes

theorem fct_fields : Tryz.prog.underlying 26 = some (.struct (Tryz.prog.fieldsOf 26)) := by
  unfold Program.fieldsOf
  rw [Tryz.underlying26]
theorem actF_fields : Tryz.prog.underlying 23 = some (.struct (Tryz.prog.fieldsOf 23)) := by
  unfold Program.fieldsOf
  rw [Tryz.underlying23]
/-- two floats are equal as numbers -/
def feqF (x y : Nat) : Bool := FloatKind.f64.format.order x y == some .eq
theorem feqF_00 : feqF 0 0 = true := by decide
theorem run_equalIn_f64 (d : Nat) (t : TypeId) (x y : Nat) (w : World) (h : Tryz.prog.underlying t = some (.float .f64)) : (Op.equalIn (d + 1) t (.float .f64 x) (.float .f64 y)).run Tryz.prog w = .ok (feqF x y) w := by
  simp [Op.equalIn, run_underlying h, go_sem, feqF, Op.floatEq]
set_option maxRecDepth 100000 in
set_option maxHeartbeats 4000000 in
theorem fct_eq (a b : FX) (w : World) : (Op.equalIn 10000 26 (.agg a.cells) (.agg b.cells)).run Tryz.prog w = .ok (decide (a.nums = b.nums) && feqF a.x b.x) w := by
  obtain ⟨k, n, s, r, u, p, q, o, d, a, t, hh, c, x⟩ := a
  obtain ⟨k', n', s', r', u', p', q', o', d', a', t', hh', c', x'⟩ := b
  have hm : Tryz.prog.stoodInHeld 26 = false := by kernel_rfl
  have ha : Tryz.prog.stoodInHeld 23 = false := by kernel_rfl
  have hq := run_equalIn_f64 9998 24 x x' w Tryz.underlying24
  obtain ⟨fq, hfq⟩ : ∃ y, feqF x x' = y := ⟨_, rfl⟩
  rw [hfq] at hq
  dsimp only [FX.cells, FX.nums]
  rw [hfq]
  rw [show (10000 : Nat) = 9998 + 1 + 1 from rfl, run_equalIn_agg w (9998 + 1) 26 _ _ fct_fields hm]
  simp [Program.fieldsOf, Tryz.underlying26, Tryz.underlying23, Op.eqFields, part, go_sem]
  by_cases h0 : k = k'
  rotate_left
  · simp [h0]
  subst h0
  by_cases h1 : n = n'
  rotate_left
  · simp [h1]
  subst h1
  by_cases h2 : s = s'
  rotate_left
  · simp [h2]
  subst h2
  by_cases h3 : r = r'
  rotate_left
  · simp [h3]
  subst h3
  by_cases h4 : u = u'
  rotate_left
  · simp [h4]
  subst h4
  by_cases h5 : p = p'
  rotate_left
  · simp [h5]
  subst h5
  by_cases h6 : q = q'
  rotate_left
  · simp [h6]
  subst h6
  by_cases h7 : o = o'
  rotate_left
  · simp [h7]
  subst h7
  by_cases h8 : d = d'
  rotate_left
  · simp [h8]
  subst h8
  by_cases h9 : a = a'
  rotate_left
  · simp [h9]
  subst h9
  by_cases h10 : t = t'
  rotate_left
  · simp [h10]
  subst h10
  by_cases h11 : hh = hh'
  rotate_left
  · simp [h11]
  subst h11
  by_cases h12 : c = c'
  rotate_left
  · simp [h12]
  subst h12
  simp [hq]
  cases fq <;> rfl
/-- as the walk meets it -/
theorem fct_eql (a b : FX) (w : World) : (binOp .eql 26 (.agg a.cells) (.agg b.cells)).run Tryz.prog w = .ok (.bool (decide (a.nums = b.nums) && feqF a.x b.x)) w := by
  rw [run_eql_struct, fct_eq]; rfl
theorem fct_guard (op : BinOp) (x y : Operand) (a b : FX) (w : World) : (eqGuard op 26 x y (.agg a.cells) (.agg b.cells)).run Tryz.prog w = .ok () w := run_eqGuard_agg w op 26 x y _ _ (by kernel_rfl)
end Go.Proofs.YtahdoniggipmmaaGreatDoor

namespace Go.Proofs.YtahdoniggipmmaaGreatDoor
open Go.RowKit Go.ChangeShapes Go.WideShapes

theorem rules_any (k : Int) (h : 1 ≤ k ∧ k ≤ 8) (B : Nat) (w : World) (hB : B < w.heap.size) : Calls Tryz.prog 29 #[.int .i64 k] w fun e w' => ∃ v, e = .returned v ∧ RuL B v (rulesM k) w' ∧ Kp w w' := by
  have hk : k = 1 ∨ k = 2 ∨ k = 3 ∨ k = 4 ∨ k = 5 ∨ k = 6 ∨ k = 7 ∨ k = 8 := by omega
  rcases hk with rfl | rfl | rfl | rfl | rfl | rfl | rfl | rfl
  · exact rules_1 B w hB
  · exact rules_2 B w hB
  · exact rules_3 B w hB
  · exact rules_4 B w hB
  · exact rules_5 B w hB
  · exact rules_6 B w hB
  · exact rules_7 B w hB
  · exact rules_8 B w hB
theorem rulesM_len (k : Int) : (rulesM k).length ≤ 5 := by
  unfold rulesM
  split
  · decide
  split
  · decide
  split
  · decide
  split
  · decide
  split
  · decide
  split
  · decide
  split
  · decide
  split <;> decide
theorem seat_call (B : Nat) (k n s r u p q o d a t hh c : Int) (x : Nat) (w : World) (hB : w.heap[B]? = some (.cells #[.int .i64 k, .int .i64 n, .int .i64 s, .int .i64 r, .int .i64 u, .int .i64 p, .int .i64 q, .int .i64 o, .int .i64 d, .int .i64 a, .int .i64 t, .int .i64 hh, .int .i64 c, .float .f64 x] 26 (0, 0))) :
    Calls Tryz.prog 68 #[.pointer (some ⟨B, 0, none⟩)] w fun e w' => e = .returned (.bool (seatX t hh)) ∧ w'.heap[B]? = some (.cells #[.int .i64 k, .int .i64 n, .int .i64 s, .int .i64 r, .int .i64 u, .int .i64 p, .int .i64 q, .int .i64 o, .int .i64 d, .int .i64 a, .int .i64 0, .int .i64 0, .int .i64 c, .float .f64 x] 26 (0, 0)) ∧ Xb B w w' := by
  by_cases h : 1 ≤ t ∧ t ≤ 14
  · exact seat_t B k n s r u p q o d a t hh c x w hB h
  · exact seat_f B k n s r u p q o d a t hh c x w hB h
/-- the rules of a list of numbers -/
theorem act_ru (ads : List Addr) (w0 : World) (V : St ads w0) (T : Tab w0) (B : Nat) (hB0 : w0.heap.size ≤ B) (l : List Int) (hl : l.length = 13) (y : Nat) (w : World) (K : Kp w0 w) (hB : w.heap[B]? = some (.cells (numsF l y) 26 (0, 0))) :
    Calls Tryz.prog 67 #[.pointer (some ⟨B, 0, none⟩)] w fun e w' => e = .returned (.bool (RuM.ok .act l y)) ∧ w'.heap[B]? = some (.cells (numsF (RuM.tkL .act l) y) 26 (0, 0)) ∧ Xb B w w' := by
  obtain ⟨k, n, s, r, u, p, q, o, d, a, t, hh, c, rfl⟩ := thirteen hl
  exact act_call ads w0 V T B hB0 k n s r u p q o d a t hh c y w K hB
theorem ctx_ru (ads : List Addr) (w0 : World) (V : St ads w0) (T : Tab w0) (B : Nat) (hB0 : w0.heap.size ≤ B) (l : List Int) (hl : l.length = 13) (y : Nat) (hy : y < 18446744073709551616) (w : World) (K : Kp w0 w) (hB : w.heap[B]? = some (.cells (numsF l y) 26 (0, 0))) :
    Calls Tryz.prog 66 #[.pointer (some ⟨B, 0, none⟩)] w fun e w' => e = .returned (.bool (RuM.ok .ctx l y)) ∧ w'.heap[B]? = some (.cells (numsF (RuM.tkL .ctx l) 0) 26 (0, 0)) ∧ Xb B w w' := by
  obtain ⟨k, n, s, r, u, p, q, o, d, a, t, hh, c, rfl⟩ := thirteen hl
  exact ctx_call ads w0 V T B hB0 k n s r u p q o d a t hh c y w K hB hy
theorem seat_ru (B : Nat) (l : List Int) (hl : l.length = 13) (y : Nat) (w : World) (hB : w.heap[B]? = some (.cells (numsF l y) 26 (0, 0))) :
    Calls Tryz.prog 68 #[.pointer (some ⟨B, 0, none⟩)] w fun e w' => e = .returned (.bool (RuM.ok .seat l y)) ∧ w'.heap[B]? = some (.cells (numsF (RuM.tkL .seat l) y) 26 (0, 0)) ∧ Xb B w w' := by
  obtain ⟨k, n, s, r, u, p, q, o, d, a, t, hh, c, rfl⟩ := thirteen hl
  exact seat_call B k n s r u p q o d a t hh c y w hB
def RuM.safe : RuM → Prop
  | .rg tag _ _ => 2 ≤ tag
  | _ => True
theorem rulesM_safe (k : Int) : ∀ r ∈ rulesM k, r.safe := by
  have hs : ∀ (l : List RuM), (l.all fun r => match r with | .rg tag _ _ => decide (2 ≤ tag) | _ => true) = true → ∀ r ∈ l, r.safe := by
    intro l h r hr
    have := List.all_eq_true.1 h r hr
    cases r with
    | rg tag lo hi => exact (of_decide_eq_true this : 2 ≤ tag)
    | act => trivial
    | ctx => trivial
    | seat => trivial
  refine hs _ ?_
  unfold rulesM
  split
  · decide
  split
  · decide
  split
  · decide
  split
  · decide
  split
  · decide
  split
  · decide
  split
  · decide
  split <;> decide
theorem safe_head {r : RuM} (h : r.safe) (l : List Int) : (r.tkL l).getD 0 0 = l.getD 0 0 := by
  cases r with
  | rg tag lo hi =>
    have h2 : 2 ≤ tag := h
    simp only [RuM.tkL, List.getD]
    rw [List.getElem?_set_ne (by omega)]
  | act => simp [RuM.tkL, List.getD]
  | ctx => simp [RuM.tkL, List.getD]
  | seat => simp [RuM.tkL, List.getD]
/-- where Right stands between two rules -/
structure RiS (k : Int) (w0 : World) (B : Nat) (g : Nat) (rs : List RuM) (o : Option (List Int × Nat)) (j : Nat) (wr : World) : Prop where
  kW : Kp w0 wr
  lst : RuL B (.slice (some ⟨g, 0, none⟩) rs.length rs.length) rs wr
  ex : ∃ l x, l.length = 13 ∧ l.getD 0 0 = k ∧ x < 18446744073709551616 ∧ wr.heap[B]? = some (.cells (numsF l x) 26 (0, 0)) ∧ o = runR (rs.drop j) l x
set_option maxRecDepth 100000 in
theorem facRight_far (f : FX) (w : World) (hk : ¬ (1 ≤ f.k ∧ f.k ≤ 8)) : Calls Tryz.prog 9 #[.agg f.cells] w fun e w' => e = .returned (.bool (rightF f)) ∧ Kp w w' := by
  rw [right_far hk]
  obtain ⟨k, n, s, r, u, p, q, o, d, a, t, hh, c, x⟩ := f
  dsimp only [FX.cells] at hk ⊢
  have HR := Lib.hid (MapKept.heap_alloc w (.cells #[.int .i64 k, .int .i64 n, .int .i64 s, .int .i64 r, .int .i64 u, .int .i64 p, .int .i64 q, .int .i64 o, .int .i64 d, .int .i64 a, .int .i64 t, .int .i64 hh, .int .i64 c, .float .f64 x] 26)).1
  obtain ⟨b0, b1, b2, b3, b4, b5, b6, b7, b8, b9, b10, b11, b12, b13⟩ := cells14 HR.out
  have K := Lib.hid (kp_alloc w (.cells #[.int .i64 k, .int .i64 n, .int .i64 s, .int .i64 r, .int .i64 u, .int .i64 p, .int .i64 q, .int .i64 o, .int .i64 d, .int .i64 a, .int .i64 t, .int .i64 hh, .int .i64 c, .float .f64 x] 26))
  have h1 : decide (1 ≤ k ∧ k ≤ 8) = false := decide_eq_false hk
  have HW := Lib.hid (fun w1 => within_any k 1 8 w1)
  simp only [h1] at HW
  clear hk h1
  go_enter Tryz.func9, Tryz.ntmps9
  go_wp2_with (go_at_call 28; (with_reducible refine (HW.out _).mono ?_); rintro e w' ⟨rfl, rfl⟩)
  go_ret
  exact ⟨rfl, K.out⟩
set_option maxRecDepth 100000 in
set_option maxHeartbeats 4000000 in
theorem facRight_in (ads : List Addr) (f : FX) (hf : f.wf) (w : World) (V : St ads w) (T : Tab w) (hk : 1 ≤ f.k ∧ f.k ≤ 8) : Calls Tryz.prog 9 #[.agg f.cells] w fun e w' => e = .returned (.bool (rightF f)) ∧ Kp w w' := by
  rw [right_rules hk]
  obtain ⟨B, hB⟩ : ∃ y, w.heap.size = y := ⟨_, rfl⟩
  have hr := (MapKept.heap_alloc w (.cells f.cells 26)).1
  have kb := kp_alloc w (.cells f.cells 26)
  have hs : B < (w.alloc (.cells f.cells 26)).heap.size := by rw [← hB]; simp
  rw [hB] at hr
  obtain ⟨nl, hnl⟩ : ∃ y, f.nums = y := ⟨_, rfl⟩
  have hll : nl.length = 13 := by rw [← hnl]; rfl
  have HNL := Lib.hid hnl
  obtain ⟨k, n, s, r, u, p, q, o, d, a, t, hh, c, x⟩ := f
  dsimp only [FX.cells] at hk hr kb hs ⊢
  have hr1 := hr.trans (show some (Obj.cells #[.int .i64 k, .int .i64 n, .int .i64 s, .int .i64 r, .int .i64 u, .int .i64 p, .int .i64 q, .int .i64 o, .int .i64 d, .int .i64 a, .int .i64 t, .int .i64 hh, .int .i64 c, .float .f64 x] 26 (0, 0)) = some (Obj.cells (numsF nl x) 26 (0, 0)) by rw [← hnl]; rfl)
  rw [hnl]
  obtain ⟨b0, b1, b2, b3, b4, b5, b6, b7, b8, b9, b10, b11, b12, b13⟩ := cells14 hr
  have h1 : decide (1 ≤ k ∧ k ≤ 8) = true := decide_eq_true hk
  have HW := Lib.hid (fun w1 => within_any k 1 8 w1)
  simp only [h1] at HW
  have HRU := rules_any k hk B _ hs
  have h5 := rulesM_len k
  have hsafe := rulesM_safe k
  obtain ⟨rs, hrs⟩ : ∃ y, rulesM k = y := ⟨_, rfl⟩
  rw [hrs] at HRU h5 hsafe ⊢
  have HSA := Lib.hid hsafe
  obtain ⟨nn, hn⟩ : ∃ y, rs.length = y := ⟨_, rfl⟩
  rw [hn] at h5
  have HN := Lib.hid hn
  have HRU2 : Calls Tryz.prog 29 #[.int .i64 k] (w.alloc (.cells #[.int .i64 k, .int .i64 n, .int .i64 s, .int .i64 r, .int .i64 u, .int .i64 p, .int .i64 q, .int .i64 o, .int .i64 d, .int .i64 a, .int .i64 t, .int .i64 hh, .int .i64 c, .float .f64 x] 26)) fun e w' => ∃ g, e = .returned (.slice (some ⟨g, 0, none⟩) nn nn) ∧ RuL B (.slice (some ⟨g, 0, none⟩) rs.length rs.length) rs w' ∧ Kp (w.alloc (.cells #[.int .i64 k, .int .i64 n, .int .i64 s, .int .i64 r, .int .i64 u, .int .i64 p, .int .i64 q, .int .i64 o, .int .i64 d, .int .i64 a, .int .i64 t, .int .i64 hh, .int .i64 c, .float .f64 x] 26)) w' :=
    HRU.mono (by
      rintro e w2 ⟨v, rfl, hv, hk2⟩
      obtain ⟨g, vs, rfl, h6⟩ := hv
      exact ⟨g, by rw [hn], ⟨g, vs, rfl, h6⟩, hk2⟩)
  have HRU2 := Lib.hid HRU2
  clear HRU
  have HR1 := Lib.hid hr1
  have KB := Lib.hid kb
  have HB := Lib.hid hB
  have V0 := Lib.hid V
  have T0 := Lib.hid T
  have HF := Lib.hid (show x < 18446744073709551616 from hf)
  have HLL := Lib.hid hll
  have HHD := Lib.hid (show nl.getD 0 0 = k by rw [← hnl]; rfl)
  clear hk h1 hnl hr hr1 kb hs hf V T hrs hn hll hsafe
  go_enter Tryz.func9, Tryz.ntmps9
  go_wp2_with (go_at_call 28; (with_reducible refine (HW.out _).mono ?_); rintro e w' ⟨rfl, rfl⟩)
  with_reducible refine HRU2.out.mono ?_
  rintro e w2 ⟨g, rfl, hv, hk2⟩
  have K2 := Lib.hid (Kp.trans KB.out hk2)
  have R2 := Lib.hid (kp_row hk2 HR1.out)
  have HV := Lib.hid hv
  clear hk2 hv
  go_wp2
  have HL : RiS k w B g rs (runR rs nl x) 0 w2 := ⟨K2.out, HV.out, nl, x, HLL.out, HHD.out, HF.out, R2.out, rfl⟩
  have HL := Lib.hid HL
  clear HRU2 R2 HV K2
  go_loopw [13] (fun i wr => ∃ j : Nat, j ≤ nn ∧ i = .int .i64 j ∧ RiS k w B g rs (runR rs nl x) j wr) (fun i _ => nn - (intOf i).toNat)
  case atStart => exact ⟨0, Nat.zero_le _, rfl, HL.out⟩
  case round =>
    obtain ⟨j, hj, rfl, hi⟩ := hrel
    obtain ⟨jj, hjj⟩ : ∃ jj : Int, (j : Int) = jj := ⟨_, rfl⟩
    rw [hjj]
    obtain ⟨kW, lst, l, y, hl, hk0, hy, hrow, hex⟩ := hi
    have KW := Lib.hid kW
    have LST := Lib.hid lst
    by_cases hlt : j < nn
    · have hjr : j < rs.length := by rw [HN.out]; exact hlt
      obtain ⟨g', vs, hv, hgB, hvl, ⟨ty, fr, hg⟩, hru⟩ := lst
      injection hv with hv1 _ _
      injection hv1 with hv2
      injection hv2 with hv3 _ _
      subst hv3
      have hjv : j < vs.length := by omega
      have hru1 := hru j vs[j] rs[j] (List.getElem?_eq_getElem hjv) (List.getElem?_eq_getElem hjr)
      have hdr : rs.drop j = rs[j] :: rs.drop (j + 1) := List.drop_eq_getElem_cons hjr
      rw [hdr, runR] at hex
      have hst := HSA.out rs[j] (List.getElem_mem hjr)
      have cv : wr.cell? ⟨g, j, none⟩ = some vs[j] := by
        unfold World.cell?
        dsimp only
        rw [hg]
        simp [hjv]
      obtain ⟨vj, hvj⟩ : ∃ z, vs[j] = z := ⟨_, rfl⟩
      obtain ⟨r0, hr0⟩ : ∃ z, rs[j] = z := ⟨_, rfl⟩
      rw [hvj] at cv hru1
      rw [hr0] at hru1 hex hst hdr
      have ej : jj.toNat = j := by omega
      rw [← ej] at cv
      have j0 : 0 ≤ jj := by omega
      have hltj : jj < nn := by omega
      clear hru hg hvl hgB hjv hvj hr0
      cases r0 with
      | rg tag lo hi =>
        obtain ⟨p0, q0, s0, rfl, hn0, ht0, hp0, hq0, hs0⟩ := hru1
        cases hok : RuM.ok (.rg tag lo hi) l y with
        | false =>
          rw [if_neg (by rw [hok]; decide)] at hex
          have HFA := Lib.hid (show leftF k (runR rs nl x) = false by rw [hex]; rfl)
          have HC := rg_call tag (tag : Int) lo hi rfl ht0 B p0 q0 s0 l y hl wr hrow hn0 hp0 hq0 hs0
          rw [hok] at HC
          have HC := Lib.hid HC
          clear hok hex hrow kW hjr hlt ej hjj hdr hl hy hk0 hst
          go_wp2_with (go_at_call 88; (with_reducible refine HC.out.mono ?_); rintro e w5 ⟨rfl, hb5, hx5⟩; have HX5 := Lib.hid hx5; clear hb5 hx5)
          go_ret
          exact ⟨by rw [HFA.out]; rfl, HX5.out.below (Nat.le_of_eq HB.out) KW.out⟩
        | true =>
          rw [if_pos hok] at hex
          have HEX := Lib.hid hex
          have HC := rg_call tag (tag : Int) lo hi rfl ht0 B p0 q0 s0 l y hl wr hrow hn0 hp0 hq0 hs0
          rw [hok] at HC
          have HC := Lib.hid HC
          have HJ := Lib.hid hjj
          have HH2 := Lib.hid (show (RuM.tkL (.rg tag lo hi) l).getD 0 0 = k by rw [safe_head hst]; exact hk0)
          have HL2 := Lib.hid (show (RuM.tkL (.rg tag lo hi) l).length = 13 by rw [RuM.tkL_len]; exact hl)
          have HY2 := Lib.hid (RuM.tkX_wf (.rg tag lo hi) hy)
          clear hok hex hrow kW hjr ej hjj hdr hl hy hk0 hst
          go_wp2_with (go_at_call 88; (with_reducible refine HC.out.mono ?_); rintro e w5 ⟨rfl, hb5, hx5⟩; have HX5 := Lib.hid hx5; have HB5 := Lib.hid hb5; clear hb5 hx5)
          have hjj := HJ.out
          go_roundw
          case rel => exact ⟨j + 1, by omega, by congr 1; omega, HX5.out.below (Nat.le_of_eq HB.out) KW.out, LST.out.xb HX5.out, _, _, HL2.out, HH2.out, HY2.out, HB5.out, HEX.out⟩
          case measure => simp [intOf]; omega
      | act =>
        obtain rfl : vj = _ := hru1
        cases hok : RuM.ok .act l y with
        | false =>
          rw [if_neg (by rw [hok]; decide)] at hex
          have HFA := Lib.hid (show leftF k (runR rs nl x) = false by rw [hex]; rfl)
          have HC := act_ru ads w V0.out T0.out B (Nat.le_of_eq HB.out) l hl y wr kW hrow
          rw [hok] at HC
          have HC := Lib.hid HC
          clear hok hex hrow kW hjr hlt ej hjj hdr hl hy hk0 hst
          go_wp2_with (go_at_call 67; (with_reducible refine HC.out.mono ?_); rintro e w5 ⟨rfl, hb5, hx5⟩; have HX5 := Lib.hid hx5; clear hb5 hx5)
          go_ret
          exact ⟨by rw [HFA.out]; rfl, HX5.out.below (Nat.le_of_eq HB.out) KW.out⟩
        | true =>
          rw [if_pos hok] at hex
          have HEX := Lib.hid hex
          have HC := act_ru ads w V0.out T0.out B (Nat.le_of_eq HB.out) l hl y wr kW hrow
          rw [hok] at HC
          have HC := Lib.hid HC
          have HJ := Lib.hid hjj
          have HH2 := Lib.hid (show (RuM.tkL .act l).getD 0 0 = k by rw [safe_head hst]; exact hk0)
          have HL2 := Lib.hid (show (RuM.tkL .act l).length = 13 by rw [RuM.tkL_len]; exact hl)
          have HY2 := Lib.hid (RuM.tkX_wf .act hy)
          clear hok hex hrow kW hjr ej hjj hdr hl hy hk0 hst
          go_wp2_with (go_at_call 67; (with_reducible refine HC.out.mono ?_); rintro e w5 ⟨rfl, hb5, hx5⟩; have HX5 := Lib.hid hx5; have HB5 := Lib.hid hb5; clear hb5 hx5)
          have hjj := HJ.out
          go_roundw
          case rel => exact ⟨j + 1, by omega, by congr 1; omega, HX5.out.below (Nat.le_of_eq HB.out) KW.out, LST.out.xb HX5.out, _, _, HL2.out, HH2.out, HY2.out, HB5.out, HEX.out⟩
          case measure => simp [intOf]; omega
      | ctx =>
        obtain rfl : vj = _ := hru1
        cases hok : RuM.ok .ctx l y with
        | false =>
          rw [if_neg (by rw [hok]; decide)] at hex
          have HFA := Lib.hid (show leftF k (runR rs nl x) = false by rw [hex]; rfl)
          have HC := ctx_ru ads w V0.out T0.out B (Nat.le_of_eq HB.out) l hl y hy wr kW hrow
          rw [hok] at HC
          have HC := Lib.hid HC
          clear hok hex hrow kW hjr hlt ej hjj hdr hl hy hk0 hst
          go_wp2_with (go_at_call 66; (with_reducible refine HC.out.mono ?_); rintro e w5 ⟨rfl, hb5, hx5⟩; have HX5 := Lib.hid hx5; clear hb5 hx5)
          go_ret
          exact ⟨by rw [HFA.out]; rfl, HX5.out.below (Nat.le_of_eq HB.out) KW.out⟩
        | true =>
          rw [if_pos hok] at hex
          have HEX := Lib.hid hex
          have HC := ctx_ru ads w V0.out T0.out B (Nat.le_of_eq HB.out) l hl y hy wr kW hrow
          rw [hok] at HC
          have HC := Lib.hid HC
          have HJ := Lib.hid hjj
          have HH2 := Lib.hid (show (RuM.tkL .ctx l).getD 0 0 = k by rw [safe_head hst]; exact hk0)
          have HL2 := Lib.hid (show (RuM.tkL .ctx l).length = 13 by rw [RuM.tkL_len]; exact hl)
          have HY2 := Lib.hid (RuM.tkX_wf .ctx hy)
          clear hok hex hrow kW hjr ej hjj hdr hl hy hk0 hst
          go_wp2_with (go_at_call 66; (with_reducible refine HC.out.mono ?_); rintro e w5 ⟨rfl, hb5, hx5⟩; have HX5 := Lib.hid hx5; have HB5 := Lib.hid hb5; clear hb5 hx5)
          have hjj := HJ.out
          go_roundw
          case rel => exact ⟨j + 1, by omega, by congr 1; omega, HX5.out.below (Nat.le_of_eq HB.out) KW.out, LST.out.xb HX5.out, _, _, HL2.out, HH2.out, HY2.out, HB5.out, HEX.out⟩
          case measure => simp [intOf]; omega
      | seat =>
        obtain rfl : vj = _ := hru1
        cases hok : RuM.ok .seat l y with
        | false =>
          rw [if_neg (by rw [hok]; decide)] at hex
          have HFA := Lib.hid (show leftF k (runR rs nl x) = false by rw [hex]; rfl)
          have HC := seat_ru B l hl y wr hrow
          rw [hok] at HC
          have HC := Lib.hid HC
          clear hok hex hrow kW hjr hlt ej hjj hdr hl hy hk0 hst
          go_wp2_with (go_at_call 68; (with_reducible refine HC.out.mono ?_); rintro e w5 ⟨rfl, hb5, hx5⟩; have HX5 := Lib.hid hx5; clear hb5 hx5)
          go_ret
          exact ⟨by rw [HFA.out]; rfl, HX5.out.below (Nat.le_of_eq HB.out) KW.out⟩
        | true =>
          rw [if_pos hok] at hex
          have HEX := Lib.hid hex
          have HC := seat_ru B l hl y wr hrow
          rw [hok] at HC
          have HC := Lib.hid HC
          have HJ := Lib.hid hjj
          have HH2 := Lib.hid (show (RuM.tkL .seat l).getD 0 0 = k by rw [safe_head hst]; exact hk0)
          have HL2 := Lib.hid (show (RuM.tkL .seat l).length = 13 by rw [RuM.tkL_len]; exact hl)
          have HY2 := Lib.hid (RuM.tkX_wf .seat hy)
          clear hok hex hrow kW hjr ej hjj hdr hl hy hk0 hst
          go_wp2_with (go_at_call 68; (with_reducible refine HC.out.mono ?_); rintro e w5 ⟨rfl, hb5, hx5⟩; have HX5 := Lib.hid hx5; have HB5 := Lib.hid hb5; clear hb5 hx5)
          have hjj := HJ.out
          go_roundw
          case rel => exact ⟨j + 1, by omega, by congr 1; omega, HX5.out.below (Nat.le_of_eq HB.out) KW.out, LST.out.xb HX5.out, _, _, HL2.out, HH2.out, HY2.out, HB5.out, HEX.out⟩
          case measure => simp [intOf]; omega
    · obtain rfl : j = nn := by omega
      rw [List.drop_of_length_le (by rw [HN.out]; omega), runR] at hex
      obtain ⟨k1, n1, s1, r1, u1, p1, q1, o1, d1, a1, t1, hh1, c1, rfl⟩ := thirteen hl
      obtain rfl : k1 = k := hk0
      have HEX := Lib.hid hex
      obtain ⟨m0, m1, m2, m3, m4, m5, m6, m7, m8, m9, m10, m11, m12, m13⟩ := cells14 (show wr.heap[B]? = some (.cells #[.int .i64 k1, .int .i64 n1, .int .i64 s1, .int .i64 r1, .int .i64 u1, .int .i64 p1, .int .i64 q1, .int .i64 o1, .int .i64 d1, .int .i64 a1, .int .i64 t1, .int .i64 hh1, .int .i64 c1, .float .f64 y] 26 (0, 0)) from hrow)
      have hq := fun w1 => fct_eql ⟨k1, n1, s1, r1, u1, p1, q1, o1, d1, a1, t1, hh1, c1, y⟩ ⟨k1, 0, 0, 0, 0, 0, 0, 0, 0, 0, 0, 0, 0, 0⟩ w1
      have hgd := fun (op : BinOp) (xx yy : Operand) w1 => fct_guard op xx yy ⟨k1, n1, s1, r1, u1, p1, q1, o1, d1, a1, t1, hh1, c1, y⟩ ⟨k1, 0, 0, 0, 0, 0, 0, 0, 0, 0, 0, 0, 0, 0⟩ w1
      dsimp only [FX.cells] at hq hgd
      have e1 := ext_bits
      have HV : leftF k1 (runR rs nl x) = ((decide (FX.nums ⟨k1, n1, s1, r1, u1, p1, q1, o1, d1, a1, t1, hh1, c1, y⟩ = FX.nums ⟨k1, 0, 0, 0, 0, 0, 0, 0, 0, 0, 0, 0, 0, 0⟩) && feqF y 0) && ((y : Int) == 0)) := by
        rw [HEX.out]
        unfold leftF
        dsimp only [FX.nums]
        by_cases y0 : y = 0
        · subst y0
          rw [feqF_00]
          simp
        · have g1 : decide (y = 0) = false := decide_eq_false y0
          have g2 : ((y : Int) == 0) = false := by simpa using y0
          rw [g1, g2, Bool.and_false, Bool.and_false]
      obtain ⟨bb, hbb⟩ : ∃ z, (decide (FX.nums ⟨k1, n1, s1, r1, u1, p1, q1, o1, d1, a1, t1, hh1, c1, y⟩ = FX.nums ⟨k1, 0, 0, 0, 0, 0, 0, 0, 0, 0, 0, 0, 0, 0⟩) && feqF y 0) = z := ⟨_, rfl⟩
      rw [hbb] at hq HV
      have HVH := Lib.hid HV
      have hex2 : ¬ jj < j := by omega
      clear HV hbb hex hrow kW lst hl hy hlt hjj
      cases bb with
      | false =>
        go_wp2
        go_ret
        exact ⟨by rw [HVH.out]; rfl, KW.out⟩
      | true =>
        go_wp2
        go_ret
        exact ⟨by rw [HVH.out]; rfl, KW.out⟩
theorem facRight_any (ads : List Addr) (f : FX) (hf : f.wf) (w : World) (V : St ads w) (T : Tab w) : Calls Tryz.prog 9 #[.agg f.cells] w fun e w' => e = .returned (.bool (rightF f)) ∧ Kp w w' := by
  by_cases hk : 1 ≤ f.k ∧ f.k ≤ 8
  · exact facRight_in ads f hf w V T hk
  · exact facRight_far f w hk
end Go.Proofs.YtahdoniggipmmaaGreatDoor

