/-
  PARTS OF THIS PROOF (own work): FacP.
-/
import Derived.Test.YtpemeenfhkgmpaaGreatDoorZs01
import Derived.Test.YtpemeenfhkgmpaaGreatDoorZs09
import Derived.Test.YtpemeenfhkgmpaaGreatDoorZs07
import Derived.Deep.RegionHeld3
namespace Go.Proofs.YtpemeenfhkgmpaaGreatDoor
open Go.RowKit Go.ChangeShapes Go.WideShapes

theorem fdemand_t (v : Value) (w : World) : Calls Tryz.prog 86 #[.bool true, v] w fun e w' => e = .returned (.tuple #[]) ∧ w = w' := by
  go_enter Tryz.func86, Tryz.ntmps86
  go_wp2
  go_end0
  exact ⟨rfl, rfl⟩
theorem fdemand_f (a : Addr) (w : World) : Calls Tryz.prog 86 #[.bool false, snt a] w fun e w' => e = .panicked [{ v := snt a, recovered := false }] ∧ w = w' := by
  have hpn := panic_some (P := Tryz.prog) 240 (.pointer (some a)) w
  go_enter Tryz.func86, Tryz.ntmps86
  go_wp2
  exact ⟨rfl, rfl, rfl⟩
set_option maxRecDepth 20000 in
theorem fnumber_ok (ads : List Addr) (a : Option Addr) (cap : Nat) (bs : List Int) (len : Nat) (hlen : bs.length = len) (hb : InB bs) (w : World) (V : St ads w) (hs : SlB (.slice a len cap) bs w) (x : Int) (hx : toNum bs = (x, 0)) (h0 : x ≠ 0) :
    Calls Tryz.prog 97 #[.slice a len cap] w fun e w' => e = .returned (.int .i64 x) ∧ Kp w w' := by
  have HT := toNumber_any ads a cap bs len hlen hb w V hs
  have h3 : 3 < ads.length := by rw [V.len]; decide
  obtain ⟨e3, c3⟩ : ∃ e3, w.cell? ⟨3, 0, none⟩ = some (snt e3) := ⟨ads[3]'h3, V.cell 3 (by decide)⟩
  rw [hx] at HT
  simp only [errN_nil] at HT
  have CE := Lib.hid c3
  have HT := Lib.hid HT
  have hz : (x != 0) = true := by simpa using h0
  clear V hs hb c3 hx
  go_enter Tryz.func97, Tryz.ntmps97
  go_wp2_with (go_at_call 140; (with_reducible refine HT.out.mono ?_); rintro e w1 ⟨rfl, hk⟩; have K1 := Lib.hid hk; have cE := kp_cell hk CE.out; clear hk)
  refine wp_region_held_drew (S := fun w' => Kp w1 w') (by kernel_rfl) ?_ (fun hHeld => ?_)
  · exact (Kp.refl w1).drew
  refine tkW ?_ 0 ?_ ?_; rotate_left
  · intro w hSw; go_simp; try rfl
  go_simp
  refine tkW ?_ 1 ?_ ?_; rotate_left
  · intro w hSw; go_simp; try rfl
  go_simp
  refine tkW ?_ 2 ?_ ?_; rotate_left
  · intro w hSw; go_simp; try rfl
  go_simp
  refine tkW ?_ 3 ?_ ?_; rotate_left
  · intro w hSw; go_simp; try rfl
  go_simp
  refine tkW ?_ 4 ?_ ?_; rotate_left
  · intro w hSw; go_simp; try rfl
  go_simp
  refine tkW ?_ 5 ?_ ?_; rotate_left
  · intro w hSw; go_simp; try rfl
  go_simp
  refine tkW ?_ 6 ?_ ?_; rotate_left
  · intro w hSw; have q := kp_cell hSw cE; go_simp; try rfl
  go_simp
  refine wpAnyH_ready (rs := [7]) (by kernel_rfl) (by simp) ?_
  refine AllReadyH.cons rfl (fun K hK => ?_) AllReadyH.nil
  go_simp
  go_wp2_with (go_at_call 86; (with_reducible refine (fdemand_t _ _).mono ?_); rintro e w' ⟨rfl, rfl⟩)
  refine hK.out _ _ ?_ (fun hHeld => ?_)
  · exact hHeld
  clear hK K
  refine wpAnyH_done (by kernel_rfl) ?_ _
  go_wp2
  go_ret
  exact ⟨rfl, Kp.trans K1.out hHeld⟩
set_option maxRecDepth 20000 in
theorem fnumber_zero (ads : List Addr) (h3 : 3 < ads.length) (a : Option Addr) (cap : Nat) (bs : List Int) (len : Nat) (hlen : bs.length = len) (hb : InB bs) (w : World) (V : St ads w) (hs : SlB (.slice a len cap) bs w) (hx : toNum bs = (0, 0)) :
    Calls Tryz.prog 97 #[.slice a len cap] w fun e w' => e = .panicked [{ v := snt (ads[3]'h3), recovered := false }] ∧ Kp w w' := by
  have HT := toNumber_any ads a cap bs len hlen hb w V hs
  have h0 : 0 < ads.length := by omega
  have c3 : w.cell? ⟨3, 0, none⟩ = some (snt (ads[3]'h3)) := V.cell 3 (by decide)
  rw [hx] at HT
  simp only [errN_nil] at HT
  clear hx
  obtain ⟨a3, ha3⟩ : ∃ a, ads[3]'h3 = a := ⟨_, rfl⟩
  rw [ha3] at c3 ⊢
  have CE := Lib.hid c3
  have HT := Lib.hid HT
  clear V hs hb c3 ha3
  go_enter Tryz.func97, Tryz.ntmps97
  go_wp2_with (go_at_call 140; (with_reducible refine HT.out.mono ?_); rintro e w1 ⟨rfl, hk⟩; have K1 := Lib.hid hk; have cE := kp_cell hk CE.out; clear hk)
  refine wp_region_held_drew (S := fun w' => Kp w1 w') (by kernel_rfl) ?_ (fun hHeld => ?_)
  · exact (Kp.refl w1).drew
  refine tkW ?_ 0 ?_ ?_; rotate_left
  · intro w hSw; go_simp; try rfl
  go_simp
  refine tkW ?_ 1 ?_ ?_; rotate_left
  · intro w hSw; go_simp; try rfl
  go_simp
  refine tkW ?_ 2 ?_ ?_; rotate_left
  · intro w hSw; go_simp; try rfl
  go_simp
  refine tkW ?_ 3 ?_ ?_; rotate_left
  · intro w hSw; go_simp; try rfl
  go_simp
  refine tkW ?_ 4 ?_ ?_; rotate_left
  · intro w hSw; go_simp; try rfl
  go_simp
  refine tkW ?_ 5 ?_ ?_; rotate_left
  · intro w hSw; go_simp; try rfl
  go_simp
  refine tkW ?_ 6 ?_ ?_; rotate_left
  · intro w hSw; have q := kp_cell hSw cE; go_simp; try rfl
  go_simp
  refine wpAnyH_ready (rs := [7]) (by kernel_rfl) (by simp) ?_
  refine AllReadyH.cons rfl (fun K hK => ?_) AllReadyH.nil
  go_simp
  go_wp2_with (go_at_call 86; (with_reducible refine (fdemand_f _ _).mono ?_); rintro e w' ⟨rfl, rfl⟩)
  exact ⟨rfl, rfl, Kp.trans K1.out hHeld⟩
set_option maxRecDepth 20000 in
theorem fnumber_form (ads : List Addr) (h3 : 3 < ads.length) (a : Option Addr) (cap : Nat) (bs : List Int) (len : Nat) (hlen : bs.length = len) (hb : InB bs) (w : World) (V : St ads w) (hs : SlB (.slice a len cap) bs w) (x : Int) (hx : toNum bs = (x, 4)) :
    Calls Tryz.prog 97 #[.slice a len cap] w fun e w' => e = .panicked [{ v := snt (ads[3]'h3), recovered := false }] ∧ Kp w w' := by
  have HT := toNumber_any ads a cap bs len hlen hb w V hs
  have h0 : 0 < ads.length := by omega
  have c3 : w.cell? ⟨3, 0, none⟩ = some (snt (ads[3]'h3)) := V.cell 3 (by decide)
  rw [hx] at HT
  simp only [errN_4 ads h3] at HT
  clear hx
  obtain ⟨a3, ha3⟩ : ∃ a, ads[3]'h3 = a := ⟨_, rfl⟩
  rw [ha3] at c3 HT ⊢
  have CE := Lib.hid c3
  have HT := Lib.hid HT
  clear V hs hb c3 ha3
  go_enter Tryz.func97, Tryz.ntmps97
  go_wp2_with (go_at_call 140; (with_reducible refine HT.out.mono ?_); rintro e w1 ⟨rfl, hk⟩; have K1 := Lib.hid hk; have cE := kp_cell hk CE.out; clear hk)
  refine wp_region_held_drew (S := fun w' => Kp w1 w') (by kernel_rfl) ?_ (fun hHeld => ?_)
  · exact (Kp.refl w1).drew
  refine tkW ?_ 0 ?_ ?_; rotate_left
  · intro w hSw; go_simp; try rfl
  go_simp
  refine tkW ?_ 1 ?_ ?_; rotate_left
  · intro w hSw; go_simp; try rfl
  go_simp
  refine tkW ?_ 2 ?_ ?_; rotate_left
  · intro w hSw; go_simp; try rfl
  go_simp
  refine skW 3 ?_
  go_simp
  refine skW 4 ?_
  go_simp
  refine tkW ?_ 5 ?_ ?_; rotate_left
  · intro w hSw; go_simp; try rfl
  go_simp
  refine tkW ?_ 6 ?_ ?_; rotate_left
  · intro w hSw; have q := kp_cell hSw cE; go_simp; try rfl
  go_simp
  refine wpAnyH_ready (rs := [7]) (by kernel_rfl) (by simp) ?_
  refine AllReadyH.cons rfl (fun K hK => ?_) AllReadyH.nil
  go_simp
  go_wp2_with (go_at_call 86; (with_reducible refine (fdemand_f _ _).mono ?_); rintro e w' ⟨rfl, rfl⟩)
  exact ⟨rfl, rfl, Kp.trans K1.out hHeld⟩
set_option maxRecDepth 20000 in
theorem fnumber_range (ads : List Addr) (h3 : 3 < ads.length) (a : Option Addr) (cap : Nat) (bs : List Int) (len : Nat) (hlen : bs.length = len) (hb : InB bs) (w : World) (V : St ads w) (hs : SlB (.slice a len cap) bs w) (x : Int) (hx : toNum bs = (x, 1)) :
    Calls Tryz.prog 97 #[.slice a len cap] w fun e w' => e = .panicked [{ v := snt (ads[3]'h3), recovered := false }] ∧ Kp w w' := by
  have HT := toNumber_any ads a cap bs len hlen hb w V hs
  have h0 : 0 < ads.length := by omega
  have c3 : w.cell? ⟨3, 0, none⟩ = some (snt (ads[3]'h3)) := V.cell 3 (by decide)
  rw [hx] at HT
  simp only [errN_1 ads h0] at HT
  obtain ⟨a0, ha0⟩ : ∃ a, ads[0]'h0 = a := ⟨_, rfl⟩
  rw [ha0] at HT
  clear hx ha0
  obtain ⟨a3, ha3⟩ : ∃ a, ads[3]'h3 = a := ⟨_, rfl⟩
  rw [ha3] at c3 ⊢
  have CE := Lib.hid c3
  have HT := Lib.hid HT
  clear V hs hb c3 ha3
  go_enter Tryz.func97, Tryz.ntmps97
  go_wp2_with (go_at_call 140; (with_reducible refine HT.out.mono ?_); rintro e w1 ⟨rfl, hk⟩; have K1 := Lib.hid hk; have cE := kp_cell hk CE.out; clear hk)
  refine wp_region_held_drew (S := fun w' => Kp w1 w') (by kernel_rfl) ?_ (fun hHeld => ?_)
  · exact (Kp.refl w1).drew
  refine tkW ?_ 0 ?_ ?_; rotate_left
  · intro w hSw; go_simp; try rfl
  go_simp
  refine tkW ?_ 1 ?_ ?_; rotate_left
  · intro w hSw; go_simp; try rfl
  go_simp
  refine tkW ?_ 2 ?_ ?_; rotate_left
  · intro w hSw; go_simp; try rfl
  go_simp
  refine skW 3 ?_
  go_simp
  refine skW 4 ?_
  go_simp
  refine tkW ?_ 5 ?_ ?_; rotate_left
  · intro w hSw; go_simp; try rfl
  go_simp
  refine tkW ?_ 6 ?_ ?_; rotate_left
  · intro w hSw; have q := kp_cell hSw cE; go_simp; try rfl
  go_simp
  refine wpAnyH_ready (rs := [7]) (by kernel_rfl) (by simp) ?_
  refine AllReadyH.cons rfl (fun K hK => ?_) AllReadyH.nil
  go_simp
  go_wp2_with (go_at_call 86; (with_reducible refine (fdemand_f _ _).mono ?_); rintro e w' ⟨rfl, rfl⟩)
  exact ⟨rfl, rfl, Kp.trans K1.out hHeld⟩
theorem fnumber_bad (ads : List Addr) (h3 : 3 < ads.length) (a : Option Addr) (cap : Nat) (bs : List Int) (len : Nat) (hlen : bs.length = len) (hb : InB bs) (w : World) (V : St ads w) (hs : SlB (.slice a len cap) bs w) (hx : (toNum bs).2 ≠ 0 ∨ (toNum bs).1 = 0) :
    Calls Tryz.prog 97 #[.slice a len cap] w fun e w' => e = .panicked [{ v := snt (ads[3]'h3), recovered := false }] ∧ Kp w w' := by
  rcases toNum_err bs with h | h | h
  · exact fnumber_zero ads h3 a cap bs len hlen hb w V hs (Prod.ext (hx.elim (fun q => absurd h q) id) h)
  · exact fnumber_range ads h3 a cap bs len hlen hb w V hs _ (Prod.ext rfl h)
  · exact fnumber_form ads h3 a cap bs len hlen hb w V hs _ (Prod.ext rfl h)

theorem within_any (n lo hi : Int) (w : World) : Calls Tryz.prog 62 #[.int .i64 n, .int .i64 lo, .int .i64 hi] w fun e w' => e = .returned (.bool (decide (lo ≤ n ∧ n ≤ hi))) ∧ w = w' := by
  by_cases h : lo ≤ n
  · have h1 : decide (lo ≤ n) = true := decide_eq_true h
    have e : decide (lo ≤ n ∧ n ≤ hi) = decide (n ≤ hi) := by simp [h]
    rw [e]
    clear h e
    go_enter Tryz.func62, Tryz.ntmps62
    go_wp2
    go_ret
    exact ⟨rfl, rfl⟩
  · have h1 : decide (lo ≤ n) = false := decide_eq_false h
    have e : decide (lo ≤ n ∧ n ≤ hi) = false := by simp [h]
    rw [e]
    clear h e
    go_enter Tryz.func62, Tryz.ntmps62
    go_wp2
    go_ret
    exact ⟨rfl, rfl⟩
/-- a seat that isn't over, and one that is -/
def howX (t h : Int) : Bool := if t = 14 then decide (h = 1 ∨ 4 ≤ h ∧ h ≤ 8) else decide (h = 0)
theorem seat_how (t h : Int) : seatX t h = (decide (1 ≤ t ∧ t ≤ 14) && howX t h) := by
  unfold seatX howX
  split
  · rename_i q
    subst q
    rw [decide_eq_true (show (1 : Int) ≤ 14 ∧ (14 : Int) ≤ 14 by omega), Bool.true_and]
  · rename_i q
    rw [Bool.eq_iff_iff]
    simp
    omega
theorem rightHow_any (t h : Int) (w : World) : Calls Tryz.prog 145 #[.int .i64 t, .int .i64 h] w fun e w' => e = .returned (.bool (howX t h)) ∧ w = w' := by
  unfold howX
  by_cases q : t = 14
  · subst q
    rw [if_pos rfl]
    by_cases g : h = 1
    · subst g
      rw [decide_eq_true (.inl rfl)]
      go_enter Tryz.func145, Tryz.ntmps145
      go_wp2
      go_ret
      exact ⟨rfl, rfl⟩
    · have g1 : (h == 1) = false := by simpa using g
      have e : decide (h = 1 ∨ 4 ≤ h ∧ h ≤ 8) = decide (4 ≤ h ∧ h ≤ 8) := by simp [g]
      rw [e]
      clear g e
      go_enter Tryz.func145, Tryz.ntmps145
      go_wp2_with (go_at_call 62; (with_reducible refine (within_any _ _ _ _).mono ?_); rintro e w' ⟨rfl, rfl⟩)
      go_ret
      exact ⟨by simp, rfl⟩
  · rw [if_neg q]
    have q1 : (t != 14) = true := by simpa using q
    have e : decide (h = 0) = (h == 0) := by rw [Bool.eq_iff_iff]; simp
    rw [e]
    clear q e
    go_enter Tryz.func145, Tryz.ntmps145
    go_wp2
    go_ret
    exact ⟨rfl, rfl⟩
/-- where the numbers of a fact stand, by their tags -/
def plF (b : Nat) : Array Value := #[.pointer none, .pointer (some ⟨b, 0, none⟩), .pointer (some ⟨b, 1, none⟩), .pointer (some ⟨b, 2, none⟩), .pointer (some ⟨b, 3, none⟩), .pointer (some ⟨b, 4, none⟩), .pointer (some ⟨b, 5, none⟩), .pointer (some ⟨b, 6, none⟩), .pointer (some ⟨b, 7, none⟩), .pointer (some ⟨b, 8, none⟩), .pointer (some ⟨b, 9, none⟩), .pointer (some ⟨b, 10, none⟩), .pointer (some ⟨b, 11, none⟩), .pointer (some ⟨b, 12, none⟩)]
set_option maxRecDepth 100000 in
set_option maxHeartbeats 4000000 in
theorem placesF_any (b : Nat) (w : World) : Calls Tryz.prog 87 #[.pointer (some ⟨b, 0, none⟩)] w fun e w' => e = .returned (.agg (plF b)) ∧ Kp w w' := by
  have hr := (MapKept.heap_alloc w (.cells #[.pointer none, .pointer none, .pointer none, .pointer none, .pointer none, .pointer none, .pointer none, .pointer none, .pointer none, .pointer none, .pointer none, .pointer none, .pointer none, .pointer none] 153)).1
  have HR := Lib.hid hr
  have K0 := Lib.hid (kp_alloc w (.cells #[.pointer none, .pointer none, .pointer none, .pointer none, .pointer none, .pointer none, .pointer none, .pointer none, .pointer none, .pointer none, .pointer none, .pointer none, .pointer none, .pointer none] 153))
  clear hr
  go_enter Tryz.func87, Tryz.ntmps87
  go_wp2
  refine wp_region_any (by kernel_rfl) ?_
  change wpAny _ _ _ _ _ _ _ (World.drew _)
  refine wpAny_take (i := 0) (v := ?_) rfl (by kernel_rfl) (by kernel_rfl) (by kernel_rfl) (fun _ _ _ h => h) (Or.inl ⟨by rfl, ?_⟩) ?_
  rotate_left
  · intro w; go_simp; try with_reducible rfl
  go_simp
  refine wpAny_take (i := 1) (v := ?_) rfl (by kernel_rfl) (by kernel_rfl) (by kernel_rfl) (fun _ _ _ h => h) (Or.inl ⟨by rfl, ?_⟩) ?_
  rotate_left
  · intro w; go_simp; try with_reducible rfl
  go_simp
  refine wpAny_take (i := 2) (v := ?_) rfl (by kernel_rfl) (by kernel_rfl) (by kernel_rfl) (fun _ _ _ h => h) (Or.inl ⟨by rfl, ?_⟩) ?_
  rotate_left
  · intro w; go_simp; try with_reducible rfl
  go_simp
  refine wpAny_take (i := 3) (v := ?_) rfl (by kernel_rfl) (by kernel_rfl) (by kernel_rfl) (fun _ _ _ h => h) (Or.inl ⟨by rfl, ?_⟩) ?_
  rotate_left
  · intro w; go_simp; try with_reducible rfl
  go_simp
  refine wpAny_take (i := 4) (v := ?_) rfl (by kernel_rfl) (by kernel_rfl) (by kernel_rfl) (fun _ _ _ h => h) (Or.inl ⟨by rfl, ?_⟩) ?_
  rotate_left
  · intro w; go_simp; try with_reducible rfl
  go_simp
  refine wpAny_take (i := 5) (v := ?_) rfl (by kernel_rfl) (by kernel_rfl) (by kernel_rfl) (fun _ _ _ h => h) (Or.inl ⟨by rfl, ?_⟩) ?_
  rotate_left
  · intro w; go_simp; try with_reducible rfl
  go_simp
  refine wpAny_take (i := 6) (v := ?_) rfl (by kernel_rfl) (by kernel_rfl) (by kernel_rfl) (fun _ _ _ h => h) (Or.inl ⟨by rfl, ?_⟩) ?_
  rotate_left
  · intro w; go_simp; try with_reducible rfl
  go_simp
  refine wpAny_take (i := 7) (v := ?_) rfl (by kernel_rfl) (by kernel_rfl) (by kernel_rfl) (fun _ _ _ h => h) (Or.inl ⟨by rfl, ?_⟩) ?_
  rotate_left
  · intro w; go_simp; try with_reducible rfl
  go_simp
  refine wpAny_take (i := 8) (v := ?_) rfl (by kernel_rfl) (by kernel_rfl) (by kernel_rfl) (fun _ _ _ h => h) (Or.inl ⟨by rfl, ?_⟩) ?_
  rotate_left
  · intro w; go_simp; try with_reducible rfl
  go_simp
  refine wpAny_take (i := 9) (v := ?_) rfl (by kernel_rfl) (by kernel_rfl) (by kernel_rfl) (fun _ _ _ h => h) (Or.inl ⟨by rfl, ?_⟩) ?_
  rotate_left
  · intro w; go_simp; try with_reducible rfl
  go_simp
  refine wpAny_take (i := 10) (v := ?_) rfl (by kernel_rfl) (by kernel_rfl) (by kernel_rfl) (fun _ _ _ h => h) (Or.inl ⟨by rfl, ?_⟩) ?_
  rotate_left
  · intro w; go_simp; try with_reducible rfl
  go_simp
  refine wpAny_take (i := 11) (v := ?_) rfl (by kernel_rfl) (by kernel_rfl) (by kernel_rfl) (fun _ _ _ h => h) (Or.inl ⟨by rfl, ?_⟩) ?_
  rotate_left
  · intro w; go_simp; try with_reducible rfl
  go_simp
  refine wpAny_take (i := 12) (v := ?_) rfl (by kernel_rfl) (by kernel_rfl) (by kernel_rfl) (fun _ _ _ h => h) (Or.inl ⟨by rfl, ?_⟩) ?_
  rotate_left
  · intro w; go_simp; try with_reducible rfl
  go_simp
  refine wpAny_take (i := 13) (v := ?_) rfl (by kernel_rfl) (by kernel_rfl) (by kernel_rfl) (fun _ _ _ h => h) (Or.inl ⟨by rfl, ?_⟩) ?_
  rotate_left
  · intro w; go_simp; try with_reducible rfl
  go_simp
  refine wpAny_take (i := 14) (v := ?_) rfl (by kernel_rfl) (by kernel_rfl) (by kernel_rfl) (fun _ _ _ h => h) (Or.inl ⟨by rfl, ?_⟩) ?_
  rotate_left
  · intro w; go_simp; try with_reducible rfl
  go_simp
  refine wpAny_take (i := 15) (v := ?_) rfl (by kernel_rfl) (by kernel_rfl) (by kernel_rfl) (fun _ _ _ h => h) (Or.inl ⟨by rfl, ?_⟩) ?_
  rotate_left
  · intro w; go_simp; try with_reducible rfl
  go_simp
  refine wpAny_take (i := 16) (v := ?_) rfl (by kernel_rfl) (by kernel_rfl) (by kernel_rfl) (fun _ _ _ h => h) (Or.inl ⟨by rfl, ?_⟩) ?_
  rotate_left
  · intro w; go_simp; try with_reducible rfl
  go_simp
  refine wpAny_take (i := 17) (v := ?_) rfl (by kernel_rfl) (by kernel_rfl) (by kernel_rfl) (fun _ _ _ h => h) (Or.inl ⟨by rfl, ?_⟩) ?_
  rotate_left
  · intro w; go_simp; try with_reducible rfl
  go_simp
  refine wpAny_take (i := 18) (v := ?_) rfl (by kernel_rfl) (by kernel_rfl) (by kernel_rfl) (fun _ _ _ h => h) (Or.inl ⟨by rfl, ?_⟩) ?_
  rotate_left
  · intro w; go_simp; try with_reducible rfl
  go_simp
  refine wpAny_take (i := 19) (v := ?_) rfl (by kernel_rfl) (by kernel_rfl) (by kernel_rfl) (fun _ _ _ h => h) (Or.inl ⟨by rfl, ?_⟩) ?_
  rotate_left
  · intro w; go_simp; try with_reducible rfl
  go_simp
  refine wpAny_take (i := 20) (v := ?_) rfl (by kernel_rfl) (by kernel_rfl) (by kernel_rfl) (fun _ _ _ h => h) (Or.inl ⟨by rfl, ?_⟩) ?_
  rotate_left
  · intro w; go_simp; try with_reducible rfl
  go_simp
  refine wpAny_take (i := 21) (v := ?_) rfl (by kernel_rfl) (by kernel_rfl) (by kernel_rfl) (fun _ _ _ h => h) (Or.inl ⟨by rfl, ?_⟩) ?_
  rotate_left
  · intro w; go_simp; try with_reducible rfl
  go_simp
  refine wpAny_take (i := 22) (v := ?_) rfl (by kernel_rfl) (by kernel_rfl) (by kernel_rfl) (fun _ _ _ h => h) (Or.inl ⟨by rfl, ?_⟩) ?_
  rotate_left
  · intro w; go_simp; try with_reducible rfl
  go_simp
  refine wpAny_take (i := 23) (v := ?_) rfl (by kernel_rfl) (by kernel_rfl) (by kernel_rfl) (fun _ _ _ h => h) (Or.inl ⟨by rfl, ?_⟩) ?_
  rotate_left
  · intro w; go_simp; try with_reducible rfl
  go_simp
  refine wpAny_take (i := 24) (v := ?_) rfl (by kernel_rfl) (by kernel_rfl) (by kernel_rfl) (fun _ _ _ h => h) (Or.inl ⟨by rfl, ?_⟩) ?_
  rotate_left
  · intro w; go_simp; try with_reducible rfl
  go_simp
  refine wpAny_take (i := 25) (v := ?_) rfl (by kernel_rfl) (by kernel_rfl) (by kernel_rfl) (fun _ _ _ h => h) (Or.inl ⟨by rfl, ?_⟩) ?_
  rotate_left
  · intro w; go_simp; try with_reducible rfl
  go_simp
  refine wpAny_take (i := 26) (v := ?_) rfl (by kernel_rfl) (by kernel_rfl) (by kernel_rfl) (fun _ _ _ h => h) (Or.inl ⟨by rfl, ?_⟩) ?_
  rotate_left
  · intro w; go_simp; try with_reducible rfl
  go_simp
  refine wpAny_take (i := 27) (v := ?_) rfl (by kernel_rfl) (by kernel_rfl) (by kernel_rfl) (fun _ _ _ h => h) (Or.inl ⟨by rfl, ?_⟩) ?_
  rotate_left
  · intro w; go_simp; try with_reducible rfl
  go_simp
  refine wpAny_take (i := 28) (v := ?_) rfl (by kernel_rfl) (by kernel_rfl) (by kernel_rfl) (fun _ _ _ h => h) (Or.inl ⟨by rfl, ?_⟩) ?_
  rotate_left
  · intro w; go_simp; try with_reducible rfl
  go_simp
  refine wpAny_take (i := 29) (v := ?_) rfl (by kernel_rfl) (by kernel_rfl) (by kernel_rfl) (fun _ _ _ h => h) (Or.inl ⟨by rfl, ?_⟩) ?_
  rotate_left
  · intro w; go_simp; try with_reducible rfl
  go_simp
  refine wpAny_take (i := 30) (v := ?_) rfl (by kernel_rfl) (by kernel_rfl) (by kernel_rfl) (fun _ _ _ h => h) (Or.inl ⟨by rfl, ?_⟩) ?_
  rotate_left
  · intro w; go_simp; try with_reducible rfl
  go_simp
  refine wpAny_take (i := 31) (v := ?_) rfl (by kernel_rfl) (by kernel_rfl) (by kernel_rfl) (fun _ _ _ h => h) (Or.inl ⟨by rfl, ?_⟩) ?_
  rotate_left
  · intro w; go_simp; try with_reducible rfl
  go_simp
  refine wpAny_take (i := 32) (v := ?_) rfl (by kernel_rfl) (by kernel_rfl) (by kernel_rfl) (fun _ _ _ h => h) (Or.inl ⟨by rfl, ?_⟩) ?_
  rotate_left
  · intro w; go_simp; try with_reducible rfl
  go_simp
  refine wpAny_take (i := 33) (v := ?_) rfl (by kernel_rfl) (by kernel_rfl) (by kernel_rfl) (fun _ _ _ h => h) (Or.inl ⟨by rfl, ?_⟩) ?_
  rotate_left
  · intro w; go_simp; try with_reducible rfl
  go_simp
  refine wpAny_take (i := 34) (v := ?_) rfl (by kernel_rfl) (by kernel_rfl) (by kernel_rfl) (fun _ _ _ h => h) (Or.inl ⟨by rfl, ?_⟩) ?_
  rotate_left
  · intro w; go_simp; try with_reducible rfl
  go_simp
  refine wpAny_take (i := 35) (v := ?_) rfl (by kernel_rfl) (by kernel_rfl) (by kernel_rfl) (fun _ _ _ h => h) (Or.inl ⟨by rfl, ?_⟩) ?_
  rotate_left
  · intro w; go_simp; try with_reducible rfl
  go_simp
  refine wpAny_take (i := 36) (v := ?_) rfl (by kernel_rfl) (by kernel_rfl) (by kernel_rfl) (fun _ _ _ h => h) (Or.inl ⟨by rfl, ?_⟩) ?_
  rotate_left
  · intro w; go_simp; try with_reducible rfl
  go_simp
  refine wpAny_take (i := 37) (v := ?_) rfl (by kernel_rfl) (by kernel_rfl) (by kernel_rfl) (fun _ _ _ h => h) (Or.inl ⟨by rfl, ?_⟩) ?_
  rotate_left
  · intro w; go_simp; try with_reducible rfl
  go_simp
  refine wpAny_take (i := 38) (v := ?_) rfl (by kernel_rfl) (by kernel_rfl) (by kernel_rfl) (fun _ _ _ h => h) (Or.inl ⟨by rfl, ?_⟩) ?_
  rotate_left
  · intro w; go_simp; try with_reducible rfl
  go_simp
  refine wpAny_take (i := 39) (v := ?_) rfl (by kernel_rfl) (by kernel_rfl) (by kernel_rfl) (fun _ _ _ h => h) (Or.inl ⟨by rfl, ?_⟩) ?_
  rotate_left
  · intro w; go_simp; try with_reducible rfl
  go_simp
  refine wpAny_take (i := 40) (v := ?_) rfl (by kernel_rfl) (by kernel_rfl) (by kernel_rfl) (fun _ _ _ h => h) (Or.inl ⟨by rfl, ?_⟩) ?_
  rotate_left
  · intro w; go_simp; try with_reducible rfl
  go_simp
  refine wpAny_take (i := 41) (v := ?_) rfl (by kernel_rfl) (by kernel_rfl) (by kernel_rfl) (fun _ _ _ h => h) (Or.inl ⟨by rfl, ?_⟩) ?_
  rotate_left
  · intro w; go_simp; try with_reducible rfl
  go_simp
  refine wpAny_ready (rs := [42]) (by kernel_rfl) (by simp) ?_
  refine AllReady.cons rfl (fun K hK => ?_) AllReady.nil
  go_simp
  refine hK _ _ ?_
  clear hK K
  refine wpAny_done (by kernel_rfl) ?_ _
  go_wp2
  refine bodyPost_ret (results_cell_row (p := 2) rfl _ _ w.heap.size 153 (plF b) (0, 0) _ rfl (MapKept.heap_alloc w (.cells (plF b) 153)).1 Tryz.underlying153 rfl (by kernel_rfl)) rfl ?_
  exact ⟨rfl, (kp_alloc w (.cells (plF b) 153)).drew⟩
theorem plF_at (B : Nat) (j : Nat) (hj : j < 13) (jj : Int) (hjj : (j : Int) + 1 = jj) (w : World) : (Instr.index 153 (.agg (plF B)) (.int .i64 jj)).run Tryz.prog w = .ok (.pointer (some ⟨B, j, none⟩)) w := by
  subst hjj
  have hc : (plF B)[j + 1]? = some (.pointer (some ⟨B, j, none⟩)) := by
    unfold plF
    match j, hj with
    | 0, _ | 1, _ | 2, _ | 3, _ | 4, _ | 5, _ | 6, _ | 7, _ | 8, _ | 9, _ | 10, _ | 11, _ | 12, _ => rfl
  have h1 : ((j : Int) + 1).toNat = j + 1 := by omega
  have h2 : 0 ≤ (j : Int) + 1 ∧ (j : Int) + 1 < 14 := by omega
  simp [Instr.index, run_underlying Tryz.underlying153, asIntOf, go_sem, hc, h1, h2]
theorem plF_cell {w : World} {A B : Nat} (h : w.heap[A]? = some (.cells (plF B) 153 (0, 0))) (j : Nat) (hj : j < 13) : w.cell? ⟨A, j + 1, none⟩ = some (.pointer (some ⟨B, j, none⟩)) := by
  unfold World.cell?
  dsimp only
  rw [h]
  unfold plF
  match j, hj with
  | 0, _ | 1, _ | 2, _ | 3, _ | 4, _ | 5, _ | 6, _ | 7, _ | 8, _ | 9, _ | 10, _ | 11, _ | 12, _ => rfl
end Go.Proofs.YtpemeenfhkgmpaaGreatDoor
