/-
  PACKAGE scope (own work): Decode.
-/
import Derived.Test.YtldamfpoemgkpaaGreatDoorPkH
import Derived.Test.YtldamfpoemgkpaaGreatDoorPkE
import Derived.Test.YtldamfpoemgkpaaGreatDoorPkA
import Derived.Lib.SmallJoins
import Derived.Test.YtldamfpoemgkpaaGreatDoorPkF
import Derived.Test.YtldamfpoemgkpaaGreatDoorPkD

namespace Go.Proofs.YtldamfpoemgkpaaGreatDoor
open Go.RowKit Go.ChangeShapes Go.WideShapes

theorem errN_nil (ads : List Addr) : errN ads 0 = .nilIface := rfl
theorem errN_1 (ads : List Addr) (h0 : 0 < ads.length) : errN ads 1 = snt (ads[0]'h0) := by unfold errN; simp [List.getElem?_eq_getElem h0]
theorem errN_4 (ads : List Addr) (h3 : 3 < ads.length) : errN ads 4 = snt (ads[3]'h3) := by unfold errN; simp [List.getElem?_eq_getElem h3]
theorem toNum_err (bs : List Int) : (toNum bs).2 = 0 ∨ (toNum bs).2 = 1 ∨ (toNum bs).2 = 4 := by
  unfold toNum
  split
  · exact .inr (.inr rfl)
  split
  · exact .inr (.inl rfl)
  split
  · exact .inr (.inl rfl)
  · exact .inl rfl
set_option maxRecDepth 20000 in
theorem snumber_ok (ads : List Addr) (a : Option Addr) (cap : Nat) (bs : List Int) (len : Nat) (hlen : bs.length = len) (hb : InB bs) (w : World) (V : St ads w) (hs : SlB (.slice a len cap) bs w) (x : Int) (hx : toNum bs = (x, 0)) (h0 : x ≠ 0) :
    Calls Tryz.prog 34 #[.slice a len cap] w fun e w' => e = .returned (.int .i64 x) ∧ Kp w w' := by
  have HT := toNumber_any ads a cap bs len hlen hb w V hs
  have h3 : 3 < ads.length := by rw [V.len]; decide
  obtain ⟨e3, c3⟩ : ∃ e3, w.cell? ⟨0, 0, none⟩ = some (snt e3) := ⟨ads[3]'h3, V.cell 3 (by decide)⟩
  rw [hx] at HT
  simp only [errN_nil] at HT
  have CE := Lib.hid c3
  have HT := Lib.hid HT
  have hz : (x != 0) = true := by simpa using h0
  clear V hs hb c3 hx
  go_enter Tryz.func34, Tryz.ntmps34
  go_wp2_with (go_at_call 72; (with_reducible refine HT.out.mono ?_); rintro e w1 ⟨rfl, hk⟩; have K1 := Lib.hid hk; have cE := kp_cell hk CE.out; clear hk)
  refine wp_region_held_drew (S := fun w' => Kp w1 w') (by kernel_rfl) ?_ (fun hHeld => ?_)
  · exact (Kp.refl w1).drew
  refine wpAnyH_take (i := 0) (v := ?_) rfl (by kernel_rfl) (by kernel_rfl) (by kernel_rfl) (fun _ _ _ h => h) (Or.inl ⟨by rfl, ?_⟩) (by assumption) ?_
  rotate_left
  · intro w hSw; go_simp; try with_reducible rfl
  go_simp
  refine wpAnyH_take (i := 1) (v := ?_) rfl (by kernel_rfl) (by kernel_rfl) (by kernel_rfl) (fun _ _ _ h => h) (Or.inl ⟨by rfl, ?_⟩) (by assumption) ?_
  rotate_left
  · intro w hSw; go_simp; try with_reducible rfl
  go_simp
  refine wpAnyH_take (i := 2) (v := ?_) rfl (by kernel_rfl) (by kernel_rfl) (by kernel_rfl) (fun _ _ _ h => h) (Or.inl ⟨by rfl, ?_⟩) (by assumption) ?_
  rotate_left
  · intro w hSw; go_simp; try with_reducible rfl
  go_simp
  refine wpAnyH_take (i := 3) (v := ?_) rfl (by kernel_rfl) (by kernel_rfl) (by kernel_rfl) (fun _ _ _ h => h) (Or.inl ⟨by rfl, ?_⟩) (by assumption) ?_
  rotate_left
  · intro w hSw; go_simp; try with_reducible rfl
  go_simp
  refine wpAnyH_take (i := 4) (v := ?_) rfl (by kernel_rfl) (by kernel_rfl) (by kernel_rfl) (fun _ _ _ h => h) (Or.inl ⟨by rfl, ?_⟩) (by assumption) ?_
  rotate_left
  · intro w hSw; go_simp; try with_reducible rfl
  go_simp
  refine wpAnyH_take (i := 5) (v := ?_) rfl (by kernel_rfl) (by kernel_rfl) (by kernel_rfl) (fun _ _ _ h => h) (Or.inl ⟨by rfl, ?_⟩) (by assumption) ?_
  rotate_left
  · intro w hSw; go_simp; try with_reducible rfl
  go_simp
  refine wpAnyH_take (i := 6) (v := ?_) rfl (by kernel_rfl) (by kernel_rfl) (by kernel_rfl) (fun _ _ _ h => h) (Or.inl ⟨by rfl, ?_⟩) (by assumption) ?_
  rotate_left
  · intro w hSw; have q := kp_cell hSw cE; go_simp; try with_reducible rfl
  go_simp
  refine wpAnyH_ready (rs := [7]) (by kernel_rfl) (by simp) ?_
  refine AllReadyH.cons rfl (fun K hK => ?_) AllReadyH.nil
  go_simp
  go_wp2_with (go_at_call 18; (with_reducible refine (sdemand_t _ _).mono ?_); rintro e w' ⟨rfl, rfl⟩)
  refine hK.out _ _ ?_ (fun hHeld => ?_)
  · exact hHeld
  clear hK K
  refine wpAnyH_done (by kernel_rfl) ?_ _
  go_wp2
  go_ret
  exact ⟨rfl, Kp.trans K1.out hHeld⟩
set_option maxRecDepth 20000 in
theorem snumber_zero (ads : List Addr) (h3 : 3 < ads.length) (a : Option Addr) (cap : Nat) (bs : List Int) (len : Nat) (hlen : bs.length = len) (hb : InB bs) (w : World) (V : St ads w) (hs : SlB (.slice a len cap) bs w) (hx : toNum bs = (0, 0)) :
    Calls Tryz.prog 34 #[.slice a len cap] w fun e w' => e = .panicked [{ v := snt (ads[3]'h3), recovered := false }] ∧ Kp w w' := by
  have HT := toNumber_any ads a cap bs len hlen hb w V hs
  have h0 : 0 < ads.length := by omega
  have c3 : w.cell? ⟨0, 0, none⟩ = some (snt (ads[3]'h3)) := V.cell 3 (by decide)
  rw [hx] at HT
  simp only [errN_nil] at HT
  clear hx
  obtain ⟨a3, ha3⟩ : ∃ a, ads[3]'h3 = a := ⟨_, rfl⟩
  rw [ha3] at c3 ⊢
  have CE := Lib.hid c3
  have HT := Lib.hid HT
  clear V hs hb c3 ha3
  go_enter Tryz.func34, Tryz.ntmps34
  go_wp2_with (go_at_call 72; (with_reducible refine HT.out.mono ?_); rintro e w1 ⟨rfl, hk⟩; have K1 := Lib.hid hk; have cE := kp_cell hk CE.out; clear hk)
  refine wp_region_held_drew (S := fun w' => Kp w1 w') (by kernel_rfl) ?_ (fun hHeld => ?_)
  · exact (Kp.refl w1).drew
  refine wpAnyH_take (i := 0) (v := ?_) rfl (by kernel_rfl) (by kernel_rfl) (by kernel_rfl) (fun _ _ _ h => h) (Or.inl ⟨by rfl, ?_⟩) (by assumption) ?_
  rotate_left
  · intro w hSw; go_simp; try with_reducible rfl
  go_simp
  refine wpAnyH_take (i := 1) (v := ?_) rfl (by kernel_rfl) (by kernel_rfl) (by kernel_rfl) (fun _ _ _ h => h) (Or.inl ⟨by rfl, ?_⟩) (by assumption) ?_
  rotate_left
  · intro w hSw; go_simp; try with_reducible rfl
  go_simp
  refine wpAnyH_take (i := 2) (v := ?_) rfl (by kernel_rfl) (by kernel_rfl) (by kernel_rfl) (fun _ _ _ h => h) (Or.inl ⟨by rfl, ?_⟩) (by assumption) ?_
  rotate_left
  · intro w hSw; go_simp; try with_reducible rfl
  go_simp
  refine wpAnyH_take (i := 3) (v := ?_) rfl (by kernel_rfl) (by kernel_rfl) (by kernel_rfl) (fun _ _ _ h => h) (Or.inl ⟨by rfl, ?_⟩) (by assumption) ?_
  rotate_left
  · intro w hSw; go_simp; try with_reducible rfl
  go_simp
  refine wpAnyH_take (i := 4) (v := ?_) rfl (by kernel_rfl) (by kernel_rfl) (by kernel_rfl) (fun _ _ _ h => h) (Or.inl ⟨by rfl, ?_⟩) (by assumption) ?_
  rotate_left
  · intro w hSw; go_simp; try with_reducible rfl
  go_simp
  refine wpAnyH_take (i := 5) (v := ?_) rfl (by kernel_rfl) (by kernel_rfl) (by kernel_rfl) (fun _ _ _ h => h) (Or.inl ⟨by rfl, ?_⟩) (by assumption) ?_
  rotate_left
  · intro w hSw; go_simp; try with_reducible rfl
  go_simp
  refine wpAnyH_take (i := 6) (v := ?_) rfl (by kernel_rfl) (by kernel_rfl) (by kernel_rfl) (fun _ _ _ h => h) (Or.inl ⟨by rfl, ?_⟩) (by assumption) ?_
  rotate_left
  · intro w hSw; have q := kp_cell hSw cE; go_simp; try with_reducible rfl
  go_simp
  refine wpAnyH_ready (rs := [7]) (by kernel_rfl) (by simp) ?_
  refine AllReadyH.cons rfl (fun K hK => ?_) AllReadyH.nil
  go_simp
  go_wp2_with (go_at_call 18; (with_reducible refine (sdemand_f _ _).mono ?_); rintro e w' ⟨rfl, rfl⟩)
  exact ⟨rfl, rfl, Kp.trans K1.out hHeld⟩
set_option maxRecDepth 20000 in
theorem snumber_form (ads : List Addr) (h3 : 3 < ads.length) (a : Option Addr) (cap : Nat) (bs : List Int) (len : Nat) (hlen : bs.length = len) (hb : InB bs) (w : World) (V : St ads w) (hs : SlB (.slice a len cap) bs w) (x : Int) (hx : toNum bs = (x, 4)) :
    Calls Tryz.prog 34 #[.slice a len cap] w fun e w' => e = .panicked [{ v := snt (ads[3]'h3), recovered := false }] ∧ Kp w w' := by
  have HT := toNumber_any ads a cap bs len hlen hb w V hs
  have h0 : 0 < ads.length := by omega
  have c3 : w.cell? ⟨0, 0, none⟩ = some (snt (ads[3]'h3)) := V.cell 3 (by decide)
  rw [hx] at HT
  simp only [errN_4 ads h3] at HT
  clear hx
  obtain ⟨a3, ha3⟩ : ∃ a, ads[3]'h3 = a := ⟨_, rfl⟩
  rw [ha3] at c3 HT ⊢
  have CE := Lib.hid c3
  have HT := Lib.hid HT
  clear V hs hb c3 ha3
  go_enter Tryz.func34, Tryz.ntmps34
  go_wp2_with (go_at_call 72; (with_reducible refine HT.out.mono ?_); rintro e w1 ⟨rfl, hk⟩; have K1 := Lib.hid hk; have cE := kp_cell hk CE.out; clear hk)
  refine wp_region_held_drew (S := fun w' => Kp w1 w') (by kernel_rfl) ?_ (fun hHeld => ?_)
  · exact (Kp.refl w1).drew
  refine wpAnyH_take (i := 0) (v := ?_) rfl (by kernel_rfl) (by kernel_rfl) (by kernel_rfl) (fun _ _ _ h => h) (Or.inl ⟨by rfl, ?_⟩) (by assumption) ?_
  rotate_left
  · intro w hSw; go_simp; try with_reducible rfl
  go_simp
  refine wpAnyH_take (i := 1) (v := ?_) rfl (by kernel_rfl) (by kernel_rfl) (by kernel_rfl) (fun _ _ _ h => h) (Or.inl ⟨by rfl, ?_⟩) (by assumption) ?_
  rotate_left
  · intro w hSw; go_simp; try with_reducible rfl
  go_simp
  refine wpAnyH_take (i := 2) (v := ?_) rfl (by kernel_rfl) (by kernel_rfl) (by kernel_rfl) (fun _ _ _ h => h) (Or.inl ⟨by rfl, ?_⟩) (by assumption) ?_
  rotate_left
  · intro w hSw; go_simp; try with_reducible rfl
  go_simp
  refine wpAnyH_take (i := 3) (v := undef) rfl (by kernel_rfl) (by kernel_rfl) (by kernel_rfl) (fun _ _ _ h => h) (Or.inr ⟨by rfl, rfl⟩) (by assumption) ?_
  go_simp
  refine wpAnyH_take (i := 4) (v := undef) rfl (by kernel_rfl) (by kernel_rfl) (by kernel_rfl) (fun _ _ _ h => h) (Or.inr ⟨by rfl, rfl⟩) (by assumption) ?_
  go_simp
  refine wpAnyH_take (i := 5) (v := ?_) rfl (by kernel_rfl) (by kernel_rfl) (by kernel_rfl) (fun _ _ _ h => h) (Or.inl ⟨by rfl, ?_⟩) (by assumption) ?_
  rotate_left
  · intro w hSw; go_simp; try with_reducible rfl
  go_simp
  refine wpAnyH_take (i := 6) (v := ?_) rfl (by kernel_rfl) (by kernel_rfl) (by kernel_rfl) (fun _ _ _ h => h) (Or.inl ⟨by rfl, ?_⟩) (by assumption) ?_
  rotate_left
  · intro w hSw; have q := kp_cell hSw cE; go_simp; try with_reducible rfl
  go_simp
  refine wpAnyH_ready (rs := [7]) (by kernel_rfl) (by simp) ?_
  refine AllReadyH.cons rfl (fun K hK => ?_) AllReadyH.nil
  go_simp
  go_wp2_with (go_at_call 18; (with_reducible refine (sdemand_f _ _).mono ?_); rintro e w' ⟨rfl, rfl⟩)
  exact ⟨rfl, rfl, Kp.trans K1.out hHeld⟩
set_option maxRecDepth 20000 in
theorem snumber_range (ads : List Addr) (h3 : 3 < ads.length) (a : Option Addr) (cap : Nat) (bs : List Int) (len : Nat) (hlen : bs.length = len) (hb : InB bs) (w : World) (V : St ads w) (hs : SlB (.slice a len cap) bs w) (x : Int) (hx : toNum bs = (x, 1)) :
    Calls Tryz.prog 34 #[.slice a len cap] w fun e w' => e = .panicked [{ v := snt (ads[3]'h3), recovered := false }] ∧ Kp w w' := by
  have HT := toNumber_any ads a cap bs len hlen hb w V hs
  have h0 : 0 < ads.length := by omega
  have c3 : w.cell? ⟨0, 0, none⟩ = some (snt (ads[3]'h3)) := V.cell 3 (by decide)
  rw [hx] at HT
  simp only [errN_1 ads h0] at HT
  obtain ⟨a0, ha0⟩ : ∃ a, ads[0]'h0 = a := ⟨_, rfl⟩
  rw [ha0] at HT
  clear hx ha0
  obtain ⟨a3, ha3⟩ : ∃ a, ads[3]'h3 = a := ⟨_, rfl⟩
  rw [ha3] at c3 ⊢
  have CE := Lib.hid c3
  have HT := Lib.hid HT
  clear V hs hb c3 ha3
  go_enter Tryz.func34, Tryz.ntmps34
  go_wp2_with (go_at_call 72; (with_reducible refine HT.out.mono ?_); rintro e w1 ⟨rfl, hk⟩; have K1 := Lib.hid hk; have cE := kp_cell hk CE.out; clear hk)
  refine wp_region_held_drew (S := fun w' => Kp w1 w') (by kernel_rfl) ?_ (fun hHeld => ?_)
  · exact (Kp.refl w1).drew
  refine wpAnyH_take (i := 0) (v := ?_) rfl (by kernel_rfl) (by kernel_rfl) (by kernel_rfl) (fun _ _ _ h => h) (Or.inl ⟨by rfl, ?_⟩) (by assumption) ?_
  rotate_left
  · intro w hSw; go_simp; try with_reducible rfl
  go_simp
  refine wpAnyH_take (i := 1) (v := ?_) rfl (by kernel_rfl) (by kernel_rfl) (by kernel_rfl) (fun _ _ _ h => h) (Or.inl ⟨by rfl, ?_⟩) (by assumption) ?_
  rotate_left
  · intro w hSw; go_simp; try with_reducible rfl
  go_simp
  refine wpAnyH_take (i := 2) (v := ?_) rfl (by kernel_rfl) (by kernel_rfl) (by kernel_rfl) (fun _ _ _ h => h) (Or.inl ⟨by rfl, ?_⟩) (by assumption) ?_
  rotate_left
  · intro w hSw; go_simp; try with_reducible rfl
  go_simp
  refine wpAnyH_take (i := 3) (v := undef) rfl (by kernel_rfl) (by kernel_rfl) (by kernel_rfl) (fun _ _ _ h => h) (Or.inr ⟨by rfl, rfl⟩) (by assumption) ?_
  go_simp
  refine wpAnyH_take (i := 4) (v := undef) rfl (by kernel_rfl) (by kernel_rfl) (by kernel_rfl) (fun _ _ _ h => h) (Or.inr ⟨by rfl, rfl⟩) (by assumption) ?_
  go_simp
  refine wpAnyH_take (i := 5) (v := ?_) rfl (by kernel_rfl) (by kernel_rfl) (by kernel_rfl) (fun _ _ _ h => h) (Or.inl ⟨by rfl, ?_⟩) (by assumption) ?_
  rotate_left
  · intro w hSw; go_simp; try with_reducible rfl
  go_simp
  refine wpAnyH_take (i := 6) (v := ?_) rfl (by kernel_rfl) (by kernel_rfl) (by kernel_rfl) (fun _ _ _ h => h) (Or.inl ⟨by rfl, ?_⟩) (by assumption) ?_
  rotate_left
  · intro w hSw; have q := kp_cell hSw cE; go_simp; try with_reducible rfl
  go_simp
  refine wpAnyH_ready (rs := [7]) (by kernel_rfl) (by simp) ?_
  refine AllReadyH.cons rfl (fun K hK => ?_) AllReadyH.nil
  go_simp
  go_wp2_with (go_at_call 18; (with_reducible refine (sdemand_f _ _).mono ?_); rintro e w' ⟨rfl, rfl⟩)
  exact ⟨rfl, rfl, Kp.trans K1.out hHeld⟩
theorem snumber_bad (ads : List Addr) (h3 : 3 < ads.length) (a : Option Addr) (cap : Nat) (bs : List Int) (len : Nat) (hlen : bs.length = len) (hb : InB bs) (w : World) (V : St ads w) (hs : SlB (.slice a len cap) bs w) (hx : (toNum bs).2 ≠ 0 ∨ (toNum bs).1 = 0) :
    Calls Tryz.prog 34 #[.slice a len cap] w fun e w' => e = .panicked [{ v := snt (ads[3]'h3), recovered := false }] ∧ Kp w w' := by
  rcases toNum_err bs with h | h | h
  · exact snumber_zero ads h3 a cap bs len hlen hb w V hs (Prod.ext (hx.elim (fun q => absurd h q) id) h)
  · exact snumber_range ads h3 a cap bs len hlen hb w V hs _ (Prod.ext rfl h)
  · exact snumber_form ads h3 a cap bs len hlen hb w V hs _ (Prod.ext rfl h)

/-- the places of a context's numbers -/
def plX (b : Nat) : Array Value := #[.pointer (some ⟨b, 0, none⟩), .pointer (some ⟨b, 1, none⟩), .pointer (some ⟨b, 2, none⟩), .pointer (some ⟨b, 3, none⟩)]
set_option maxRecDepth 100000 in
theorem places4_any (b : Nat) (w : World) : Calls Tryz.prog 20 #[.pointer (some ⟨b, 0, none⟩)] w fun e w' => e = .returned (.agg (plX b)) ∧ Kp w w' := by
  have hr := (MapKept.heap_alloc w (.cells #[.pointer none, .pointer none, .pointer none, .pointer none] 49)).1
  have HR := Lib.hid hr
  have K0 := Lib.hid (kp_alloc w (.cells #[.pointer none, .pointer none, .pointer none, .pointer none] 49))
  clear hr
  go_enter Tryz.func20, Tryz.ntmps20
  go_wp2
  refine wp_region_any (by kernel_rfl) ?_
  change wpAny _ _ _ _ _ _ _ (World.drew _)
  refine wpAny_take (i := 0) (v := ?_) rfl (by kernel_rfl) (by kernel_rfl) (by kernel_rfl) (fun _ _ _ h => h) (Or.inl ⟨by rfl, ?_⟩) ?_
  rotate_left
  · intro w; go_simp; try with_reducible rfl
  go_simp
  refine wpAny_take (i := 1) (v := ?_) rfl (by kernel_rfl) (by kernel_rfl) (by kernel_rfl) (fun _ _ _ h => h) (Or.inl ⟨by rfl, ?_⟩) ?_
  rotate_left
  · intro w; go_simp; try with_reducible rfl
  go_simp
  refine wpAny_take (i := 2) (v := ?_) rfl (by kernel_rfl) (by kernel_rfl) (by kernel_rfl) (fun _ _ _ h => h) (Or.inl ⟨by rfl, ?_⟩) ?_
  rotate_left
  · intro w; go_simp; try with_reducible rfl
  go_simp
  refine wpAny_take (i := 3) (v := ?_) rfl (by kernel_rfl) (by kernel_rfl) (by kernel_rfl) (fun _ _ _ h => h) (Or.inl ⟨by rfl, ?_⟩) ?_
  rotate_left
  · intro w; go_simp; try with_reducible rfl
  go_simp
  refine wpAny_take (i := 4) (v := ?_) rfl (by kernel_rfl) (by kernel_rfl) (by kernel_rfl) (fun _ _ _ h => h) (Or.inl ⟨by rfl, ?_⟩) ?_
  rotate_left
  · intro w; go_simp; try with_reducible rfl
  go_simp
  refine wpAny_take (i := 5) (v := ?_) rfl (by kernel_rfl) (by kernel_rfl) (by kernel_rfl) (fun _ _ _ h => h) (Or.inl ⟨by rfl, ?_⟩) ?_
  rotate_left
  · intro w; go_simp; try with_reducible rfl
  go_simp
  refine wpAny_take (i := 6) (v := ?_) rfl (by kernel_rfl) (by kernel_rfl) (by kernel_rfl) (fun _ _ _ h => h) (Or.inl ⟨by rfl, ?_⟩) ?_
  rotate_left
  · intro w; go_simp; try with_reducible rfl
  go_simp
  refine wpAny_take (i := 7) (v := ?_) rfl (by kernel_rfl) (by kernel_rfl) (by kernel_rfl) (fun _ _ _ h => h) (Or.inl ⟨by rfl, ?_⟩) ?_
  rotate_left
  · intro w; go_simp; try with_reducible rfl
  go_simp
  refine wpAny_take (i := 8) (v := ?_) rfl (by kernel_rfl) (by kernel_rfl) (by kernel_rfl) (fun _ _ _ h => h) (Or.inl ⟨by rfl, ?_⟩) ?_
  rotate_left
  · intro w; go_simp; try with_reducible rfl
  go_simp
  refine wpAny_take (i := 9) (v := ?_) rfl (by kernel_rfl) (by kernel_rfl) (by kernel_rfl) (fun _ _ _ h => h) (Or.inl ⟨by rfl, ?_⟩) ?_
  rotate_left
  · intro w; go_simp; try with_reducible rfl
  go_simp
  refine wpAny_take (i := 10) (v := ?_) rfl (by kernel_rfl) (by kernel_rfl) (by kernel_rfl) (fun _ _ _ h => h) (Or.inl ⟨by rfl, ?_⟩) ?_
  rotate_left
  · intro w; go_simp; try with_reducible rfl
  go_simp
  refine wpAny_take (i := 11) (v := ?_) rfl (by kernel_rfl) (by kernel_rfl) (by kernel_rfl) (fun _ _ _ h => h) (Or.inl ⟨by rfl, ?_⟩) ?_
  rotate_left
  · intro w; go_simp; try with_reducible rfl
  go_simp
  refine wpAny_take (i := 12) (v := ?_) rfl (by kernel_rfl) (by kernel_rfl) (by kernel_rfl) (fun _ _ _ h => h) (Or.inl ⟨by rfl, ?_⟩) ?_
  rotate_left
  · intro w; go_simp; try with_reducible rfl
  go_simp
  refine wpAny_take (i := 13) (v := ?_) rfl (by kernel_rfl) (by kernel_rfl) (by kernel_rfl) (fun _ _ _ h => h) (Or.inl ⟨by rfl, ?_⟩) ?_
  rotate_left
  · intro w; go_simp; try with_reducible rfl
  go_simp
  refine wpAny_take (i := 14) (v := ?_) rfl (by kernel_rfl) (by kernel_rfl) (by kernel_rfl) (fun _ _ _ h => h) (Or.inl ⟨by rfl, ?_⟩) ?_
  rotate_left
  · intro w; go_simp; try with_reducible rfl
  go_simp
  refine wpAny_ready (rs := [15]) (by kernel_rfl) (by simp) ?_
  refine AllReady.cons rfl (fun K hK => ?_) AllReady.nil
  go_simp
  refine hK _ _ ?_
  clear hK K
  refine wpAny_done (by kernel_rfl) ?_ _
  go_wp2
  refine bodyPost_ret (results_cell_row (p := 2) rfl _ _ w.heap.size 49 (plX b) (0, 0) _ rfl (MapKept.heap_alloc w (.cells (plX b) 49)).1 Tryz.underlying49 rfl (by kernel_rfl)) rfl ?_
  exact ⟨rfl, (kp_alloc w (.cells (plX b) 49)).drew⟩
theorem plX_at (B : Nat) (j : Nat) (hj : j < 4) (jj : Int) (hjj : (j : Int) = jj) (w : World) : (Instr.index 49 (.agg (plX B)) (.int .i64 jj)).run Tryz.prog w = .ok (.pointer (some ⟨B, j, none⟩)) w := by
  subst hjj
  have hc : (plX B)[j]? = some (.pointer (some ⟨B, j, none⟩)) := by
    unfold plX
    match j, hj with
    | 0, _ | 1, _ | 2, _ | 3, _ => rfl
  simp [Instr.index, run_underlying Tryz.underlying49, asIntOf, go_sem, hc, hj]
theorem plX_cell {w : World} {A B : Nat} (h : w.heap[A]? = some (.cells (plX B) 49 (0, 0))) (j : Nat) (hj : j < 4) : w.cell? ⟨A, j, none⟩ = some (.pointer (some ⟨B, j, none⟩)) := by
  unfold World.cell?
  dsimp only
  rw [h]
  unfold plX
  match j, hj with
  | 0, _ | 1, _ | 2, _ | 3, _ => rfl
theorem ctx_cell {w : World} {B : Nat} {c : CX} (h : w.heap[B]? = some (.cells c.cells 26 (0, 0))) (j : Nat) (hj : j < c.nums.length) : w.cell? ⟨B, j, none⟩ = some (.int .i64 c.nums[j]) := by
  obtain ⟨n, s, o, d, x⟩ := c
  unfold World.cell?
  dsimp only
  rw [h]
  have hj : j < 4 := hj
  match j, hj with
  | 0, _ | 1, _ | 2, _ | 3, _ => rfl
end Go.Proofs.YtldamfpoemgkpaaGreatDoor

namespace Go.Proofs.YtldamfpoemgkpaaGreatDoor
open Go.RowKit Go.ChangeShapes Go.WideShapes

theorem own_nilQ (w : World) (base : Nat) (e : TypeId) (size : Nat) : w.ownsRow base e size (.slice none 0 0) 0 [] := ⟨by simp, .inl ⟨rfl, rfl⟩⟩
set_option maxRecDepth 100000 in
theorem sencode1_bad (ads : List Addr) (h3 : 3 < ads.length) (c : CX) (hc : c.wf) (B : Nat) (w : World) (V : St ads w) (T : Tab w) (hB : w.heap[B]? = some (.cells c.cells 26 (0, 0))) (hr : rightX c = false) :
    Calls Tryz.prog 17 #[.pointer (some ⟨B, 0, none⟩)] w fun e w' => e = .panicked [{ v := snt (ads[3]'h3), recovered := false }] ∧ Kp w w' := by
  have c3 : w.cell? ⟨0, 0, none⟩ = some (snt (ads[3]'h3)) := V.cell 3 (by decide)
  obtain ⟨a3, ha3⟩ : ∃ a, ads[3]'h3 = a := ⟨_, rfl⟩
  rw [ha3] at c3 ⊢
  have HR := Lib.hid (fun w1 (hk : Kp w w1) => scoRight_any ads c hc w1 (V.below hk) (T.kp hk))
  simp only [hr] at HR
  obtain ⟨n, s, o, d, x⟩ := c
  dsimp only [CX.cells] at HR hB
  obtain ⟨b0, b1, b2, b3, b4⟩ := cells5 (hB)
  clear V T hB hr ha3 hc
  go_enter Tryz.func17, Tryz.ntmps17
  go_wp2
  refine wp_region_held_drew (S := fun w' => Kp w w') (by kernel_rfl) ?_ (fun hHeld => ?_)
  · exact (Kp.refl w).drew
  refine wpAnyH_take (i := 0) (v := ?_) rfl (by kernel_rfl) (by kernel_rfl) (by kernel_rfl) (fun _ _ _ h => h) (Or.inl ⟨by rfl, ?_⟩) (by assumption) ?_
  rotate_left
  · intro w hSw; have q0 := kp_cell hSw b0; have q1 := kp_cell hSw b1; have q2 := kp_cell hSw b2; have q3 := kp_cell hSw b3; have q4 := kp_cell hSw b4; go_simp; try with_reducible rfl
  go_simp
  refine wpAnyH_take (i := 2) (v := ?_) rfl (by kernel_rfl) (by kernel_rfl) (by kernel_rfl) (fun _ _ _ h => h) (Or.inl ⟨by rfl, ?_⟩) (by assumption) ?_
  rotate_left
  · intro w hSw; have q := kp_cell hSw c3; go_simp; try with_reducible rfl
  go_simp
  refine wpAnyH_ready (rs := [1]) (by kernel_rfl) (by simp) ?_
  refine AllReadyH.cons rfl (fun K hK => ?_) AllReadyH.nil
  go_simp
  go_wp2_with (go_at_call 19; (with_reducible refine (HR.out _ hHeld).mono ?_); rintro e w2 ⟨rfl, hk2⟩; have K2 := Lib.hid (Kp.trans hHeld hk2); clear hk2)
  refine hK.out _ _ ?_ (fun hHeld => ?_)
  · exact K2.out
  clear hK K
  refine wpAnyH_ready (rs := [3]) (by kernel_rfl) (by simp) ?_
  refine AllReadyH.cons rfl (fun K hK => ?_) AllReadyH.nil
  go_simp
  go_wp2_with (go_at_call 18; (with_reducible refine (sdemand_f _ _).mono ?_); rintro e w' ⟨rfl, rfl⟩)
  exact ⟨rfl, rfl, hHeld⟩

set_option maxRecDepth 100000 in
set_option maxHeartbeats 4000000 in
theorem sencode1_ok (ads : List Addr) (h3 : 3 < ads.length) (c : CX) (B : Nat) (w : World) (V : St ads w) (T : Tab w) (hB : w.heap[B]? = some (.cells c.cells 26 (0, 0))) (hr : rightX c = true) :
    Calls Tryz.prog 17 #[.pointer (some ⟨B, 0, none⟩)] w fun e w' => ∃ v, e = .returned v ∧ w'.ownsRow w.heap.size 5 1 v (encX c).length ((encX c).map (Value.int .u8)) ∧ Kp w w' := by
  have c3 : w.cell? ⟨0, 0, none⟩ = some (snt (ads[3]'h3)) := V.cell 3 (by decide)
  obtain ⟨a3, ha3⟩ : ∃ a, ads[3]'h3 = a := ⟨_, rfl⟩
  rw [ha3] at c3
  obtain ⟨hpl, hc⟩ := rightX_plain hr
  have HR := Lib.hid (fun w1 (hk : Kp w w1) => scoRight_any ads c hc w1 (V.below hk) (T.kp hk))
  simp only [hr] at HR
  have hml : c.nums.length = 4 := rfl
  have hm := rightX_okn hr
  have hjo := fun (a : Option Addr) (cap len : Nat) (hl : (rowX c).length = len) (w1 : World) (hk : Kp w w1) (hs : SlQ (.slice a len cap) (rowX c) w1) => join_ok ads a cap (rowX c) len hl (by have := rowX_len c; omega) w1 (V.below hk) hs (rowX_run c)
  have hcell := fun (w1 : World) (hk : Kp w w1) (j : Nat) (hj : j < c.nums.length) => kp_cell hk (ctx_cell hB j hj)
  have hnb := fun (n : Nat) (hn : n < 9223372036854775808) (nn : Int) (hnn : (n : Int) = nn) (w1 : World) (hk : Kp w w1) => number_any ads n hn nn hnn w1 (V.below hk)
  have hfl := fun w1 => float_any c.x hc w1
  unfold encX
  have hrx : rowX c = rowF 1 c.nums ++ [(5, f8 (Fl.plain c.x))] := rfl
  obtain ⟨RX, hRX⟩ : ∃ y, rowX c = y := ⟨_, rfl⟩
  rw [hRX] at hjo hrx ⊢
  obtain ⟨n, s, o, d, x⟩ := c
  obtain ⟨ns, hns⟩ : ∃ y, CX.nums ⟨n, s, o, d, x⟩ = y := ⟨_, rfl⟩
  have hcell2 : ∀ (w1 : World), Kp w w1 → ∀ (j : Nat) (hj : j < ns.length), w1.cell? ⟨B, j, none⟩ = some (.int .i64 ns[j]) := by subst hns; exact hcell
  rw [hns] at hml hm hrx
  dsimp only [CX.cells] at HR hB hrx hfl
  obtain ⟨fx, hfx⟩ : ∃ y, f8 (Fl.plain x) = y := ⟨_, rfl⟩
  have hfi : InB fx := by rw [← hfx]; exact f8_in _
  have hf8 : fx.length = 8 := by rw [← hfx]; rfl
  rw [hfx] at hfl hrx
  obtain ⟨b0, b1, b2, b3, b4⟩ := cells5 (hB)
  have HB4 := Lib.hid b4
  have HOK := Lib.hid hm
  have HML := Lib.hid hml
  have HC := Lib.hid hcell2
  have HJO := Lib.hid hjo
  have HNB := Lib.hid hnb
  have HFL := Lib.hid hfl
  have HRX := Lib.hid hrx
  have HFI := Lib.hid (And.intro hfi hf8)
  have HIF := Lib.hid (info_parts info_fieldT)
  have HPL := Lib.hid (plX_at B)
  clear V T hB hr ha3 hm hml hns hcell hcell2 hjo hnb hfl hrx hRX hfx hfi hf8 hpl hc
  go_enter Tryz.func17, Tryz.ntmps17
  go_wp2
  refine wp_region_held_drew (S := fun w' => Kp w w') (by kernel_rfl) ?_ (fun hHeld => ?_)
  · exact (Kp.refl w).drew
  refine wpAnyH_take (i := 0) (v := ?_) rfl (by kernel_rfl) (by kernel_rfl) (by kernel_rfl) (fun _ _ _ h => h) (Or.inl ⟨by rfl, ?_⟩) (by assumption) ?_
  rotate_left
  · intro w hSw; have q0 := kp_cell hSw b0; have q1 := kp_cell hSw b1; have q2 := kp_cell hSw b2; have q3 := kp_cell hSw b3; have q4 := kp_cell hSw b4; go_simp; try with_reducible rfl
  go_simp
  refine wpAnyH_take (i := 2) (v := ?_) rfl (by kernel_rfl) (by kernel_rfl) (by kernel_rfl) (fun _ _ _ h => h) (Or.inl ⟨by rfl, ?_⟩) (by assumption) ?_
  rotate_left
  · intro w hSw; have q := kp_cell hSw c3; go_simp; try with_reducible rfl
  go_simp
  refine wpAnyH_ready (rs := [1]) (by kernel_rfl) (by simp) ?_
  refine AllReadyH.cons rfl (fun K hK => ?_) AllReadyH.nil
  go_simp
  go_wp2_with (go_at_call 19; (with_reducible refine (HR.out _ hHeld).mono ?_); rintro e w2 ⟨rfl, hk2⟩; have K2 := Lib.hid (Kp.trans hHeld hk2); clear hk2)
  refine hK.out _ _ ?_ (fun hHeld => ?_)
  · exact K2.out
  clear hK K
  refine wpAnyH_ready (rs := [3]) (by kernel_rfl) (by simp) ?_
  refine AllReadyH.cons rfl (fun K hK => ?_) AllReadyH.nil
  go_simp
  go_wp2_with (go_at_call 18; (with_reducible refine (sdemand_t _ _).mono ?_); rintro e w' ⟨rfl, rfl⟩)
  refine hK.out _ _ ?_ (fun hHeld => ?_)
  · exact hHeld
  clear hK K
  refine wpAnyH_done (by kernel_rfl) ?_ _
  clear b0 b1 b2 b3 b4 c3
  go_wp2_with (go_at_call 20; (with_reducible refine (places4_any B _).mono ?_); rintro e w3 ⟨rfl, hk3⟩; have K3 := Lib.hid (Kp.trans K2.out hk3); clear hk3)
  go_loopw [2, 10] (fun v i wr => ∃ (j : Nat) (gs : List (Int × List Int × Value)), j ≤ 4 ∧ i = .int .i64 j ∧ Kp w wr ∧ wr.ownsRow w.heap.size 55 2 v gs.length (gs.flatMap cellQ) ∧ OwnD w.heap.size gs wr ∧ gs.map fldQ = rowF 1 (ns.take j)) (fun _ i _ => 4 - (intOf i).toNat)
  case atStart => exact ⟨0, [], Nat.zero_le _, rfl, K3.out, own_nilQ _ _ _ _, (fun g hg => by cases hg), rfl⟩
  case round =>
    obtain ⟨j, gs, hj, rfl, hk, hown, hod, hrow⟩ := hrel
    obtain ⟨jj, hjj⟩ : ∃ jj : Int, (j : Int) = jj := ⟨_, rfl⟩
    rw [hjj]
    have HK := Lib.hid hk
    have HOW := Lib.hid hown
    have HOD := Lib.hid hod
    have HROW := Lib.hid hrow
    have hml := HML.out
    by_cases hlt : j < 4
    · have hjl : j < ns.length := by omega
      have hcj := HC.out wr hk j hjl
      have hx := HOK.out ns[j] (List.getElem_mem hjl)
      have hpl := HPL.out j hlt jj hjj
      have SN := rowF_snoc (ns.take j) 1 ns[j]
      rw [← List.take_succ_eq_append_getElem hjl, List.length_take, Nat.min_eq_left (by omega)] at SN
      obtain ⟨x, hxx⟩ : ∃ x, ns[j] = x := ⟨_, rfl⟩
      rw [hxx] at hcj hx SN
      obtain ⟨x0, x1⟩ := hx
      have j0 : 0 ≤ jj := by omega
      have hltj : jj < 4 := by omega
      have HJ := Lib.hid hjj
      by_cases hz : x = 0
      · subst hz
        rw [if_pos rfl, List.append_nil] at SN
        have HSN := Lib.hid SN
        clear hk hown hod hrow SN hxx hjl hml hlt x0 x1 hjj
        go_wp2
        have hjj := HJ.out
        go_roundw
        case rel => exact ⟨j + 1, gs, by omega, by congr 1; omega, HK.out, HOW.out, HOD.out, by rw [HSN.out]; exact HROW.out⟩
        case measure => simp [intOf]; omega
      · rw [if_neg hz] at SN
        have HSN := Lib.hid SN
        have hxn : ((x.toNat : Nat) : Int) = x := by omega
        have HNU := Lib.hid (HNB.out x.toNat (by omega) x hxn wr hk)
        obtain ⟨bs, hbs⟩ : ∃ b, beF 8 x.toNat = b := ⟨_, rfl⟩
        have hbi : InB bs := by rw [← hbs]; exact beF_inB _ _
        rw [hbs] at HNU HSN
        have HBI := Lib.hid hbi
        obtain ⟨av, cv, hv⟩ := (own_slq rfl hown hod).form
        rw [List.length_map] at hv
        subst hv
        obtain ⟨kl, hkl⟩ : ∃ x, gs.length = x := ⟨_, rfl⟩
        have hk9 : kl ≤ 4 := by
          have h1 := congrArg List.length hrow
          have h2 := rowF_len (ns.take j) 1
          rw [List.length_map] at h1
          rw [List.length_take] at h2
          omega
        rw [hkl] at hown HOW ⊢
        have HKL := Lib.hid hkl
        obtain ⟨i0, hi, hz0, hz1, hz2⟩ := HIF.out
        have HI := Lib.hid (And.intro hz1 hz2)
        have HI2 := Lib.hid hi
        have HI3 := Lib.hid hz0
        clear hk hown hod hrow SN hxx hjl hml hlt x0 x1 hxn hbs hbi hi hz0 hz1 hz2 hkl hjj
        go_wp2_with (first
          | (go_at_call 22; (with_reducible refine HNU.out.mono ?_); rintro e w5 ⟨v5, rfl, ho5, hk5⟩; obtain ⟨a5, c5, rfl, -⟩ := enc_len ho5; have HO5 := Lib.hid ho5; have K5 := Lib.hid hk5; have K6 := Lib.hid (Kp.trans hk5 (kp_alloc w5 (.cells #[.int .i64 (jj + 1), .slice a5 bs.length c5] 55))); have OW6 := Lib.hid (own_kp HOW.out K6.out); clear ho5 hk5)
          | (go_at_call 21; (with_reducible refine (must_bytes_t _ _).mono ?_); rintro e w' ⟨rfl, rfl⟩)
          | (at_builtin; refine wpList_append_own _ rfl (.tmp 18) (.tmp 29) 47 rfl w.heap.size 55 i0 (.agg #[.int .i64 0, .slice none 0 0]) 2 32 Tryz.underlying47 HI2.out HI3.out HI.out.1 HI.out.2 rfl (by decide) _ _ _ rfl OW6.out ⟨w5.heap.size, 0, none⟩ 1 1 [.int .i64 (jj + 1), .slice a5 bs.length c5] rfl ?c1 ?c2 ?c3 ?c4 ?c5 ?c6 ?_))
        case c1 => rfl
        case c2 =>
          intro i u hi
          rw [add_plain]
          unfold World.cell?
          dsimp only
          rw [(MapKept.heap_alloc w5 _).1]
          have hi3 : i < 2 := by
            rcases Nat.lt_or_ge i 2 with q | q
            · exact q
            · rw [List.getElem?_eq_none (by simpa using q)] at hi; cases hi
          match i, hi3, hi with
          | 0, _, hi | 1, _, hi => simpa using hi
        case c3 => intro u hu; simp at hu; rcases hu with rfl | rfl <;> rfl
        case c4 => unfold maxLen; omega
        case c5 => omega
        case c6 => exact Below.size (Kp.trans HK.out K6.out)
        rintro v6 w6 hown6 hgr6 -
        have hsz := Below.size HK.out
        have kp6 : Kp w w6 := rows_kp OW6.out hgr6 (Kp.trans HK.out K6.out)
        have od6 : OwnD w.heap.size (gs ++ [(jj + 1, bs, Value.slice a5 bs.length c5)]) w6 := by
          intro g hg
          rcases List.mem_append.1 hg with hg | hg
          · exact ((HOD.out.kp K6.out).grows OW6.out hgr6) g hg
          · have : g = (jj + 1, bs, Value.slice a5 bs.length c5) := by simpa using hg
            subst this
            exact ⟨own_grows OW6.out hgr6 (own_kp (own_mono HO5.out hsz) (kp_alloc w5 _)) (by decide), HBI.out⟩
        have own6 : w6.ownsRow w.heap.size 55 2 v6 (gs ++ [(jj + 1, bs, Value.slice a5 bs.length c5)]).length ((gs ++ [(jj + 1, bs, Value.slice a5 bs.length c5)]).flatMap cellQ) := by
          rw [List.length_append, List.length_singleton, HKL.out, List.flatMap_append]
          exact hown6
        have O6 := Lib.hid own6
        have D6 := Lib.hid od6
        have KQ6 := Lib.hid kp6
        clear own6 od6 kp6 hown6 hgr6 hsz
        go_wp2
        have hjj := HJ.out
        go_roundw
        case rel =>
          refine ⟨j + 1, gs ++ [(jj + 1, bs, Value.slice a5 bs.length c5)], by omega, by congr 1; omega, KQ6.out, O6.out, D6.out, ?_⟩
          rw [HSN.out, List.map_append, HROW.out, ← hjj, show (1 : Int) + (j : Int) = (j : Int) + 1 by omega]
          rfl
        case measure => simp [intOf]; omega
    · obtain rfl : j = 4 := by omega
      have hful : ns.take 4 = ns := List.take_of_length_le (by omega)
      rw [hful] at hrow
      obtain ⟨av, cv, hv⟩ := (own_slq rfl hown hod).form
      rw [List.length_map] at hv
      subst hv
      obtain ⟨kl, hkl⟩ : ∃ x, gs.length = x := ⟨_, rfl⟩
      have hk9 : kl ≤ 4 := by
        have h1 := congrArg List.length hrow
        have h2 := rowF_len ns 1
        rw [List.length_map] at h1
        omega
      rw [hkl] at hown HOW ⊢
      have HKL := Lib.hid hkl
      obtain ⟨i0, hi, hz0, hz1, hz2⟩ := HIF.out
      have HI := Lib.hid (And.intro hz1 hz2)
      have HI2 := Lib.hid hi
      have HI3 := Lib.hid hz0
      have hex : ¬ jj < 4 := by omega
      have c4 := kp_cell hk HB4.out
      have H8 := HFI.out.2
      clear hk hown hod hrow hful hml hlt hi hz0 hz1 hz2 hkl hjj
      go_wp2_with (first
        | (go_at_call 23; (with_reducible refine (HFL.out _).mono ?_); rintro e w5 ⟨v5, rfl, ho5, hk5⟩; obtain ⟨a5, c5, rfl, -⟩ := enc_len ho5; have HO5 := Lib.hid ho5; have K5 := Lib.hid hk5; have K6 := Lib.hid (Kp.trans hk5 (kp_alloc w5 (.cells #[.int .i64 5, .slice a5 8 c5] 55))); have OW6 := Lib.hid (own_kp HOW.out K6.out); clear ho5 hk5)
        | (at_builtin; refine wpList_append_own _ rfl (.tmp 32) (.tmp 37) 47 rfl w.heap.size 55 i0 (.agg #[.int .i64 0, .slice none 0 0]) 2 32 Tryz.underlying47 HI2.out HI3.out HI.out.1 HI.out.2 rfl (by decide) _ _ _ rfl OW6.out ⟨w5.heap.size, 0, none⟩ 1 1 [.int .i64 5, .slice a5 8 c5] rfl ?c1 ?c2 ?c3 ?c4 ?c5 ?c6 ?_))
      case c1 => rfl
      case c2 =>
        intro i u hi
        rw [add_plain]
        unfold World.cell?
        dsimp only
        rw [(MapKept.heap_alloc w5 _).1]
        have hi3 : i < 2 := by
          rcases Nat.lt_or_ge i 2 with q | q
          · exact q
          · rw [List.getElem?_eq_none (by simpa using q)] at hi; cases hi
        match i, hi3, hi with
        | 0, _, hi | 1, _, hi => simpa using hi
      case c3 => intro u hu; simp at hu; rcases hu with rfl | rfl <;> rfl
      case c4 => unfold maxLen; omega
      case c5 => omega
      case c6 => exact Below.size (Kp.trans HK.out K6.out)
      rintro v6 w6 hown6 hgr6 -
      have hsz := Below.size HK.out
      have kp6 : Kp w w6 := rows_kp OW6.out hgr6 (Kp.trans HK.out K6.out)
      have od6 : OwnD w.heap.size (gs ++ [(5, fx, Value.slice a5 8 c5)]) w6 := by
        intro g hg
        rcases List.mem_append.1 hg with hg | hg
        · exact ((HOD.out.kp K6.out).grows OW6.out hgr6) g hg
        · have : g = (5, fx, Value.slice a5 8 c5) := by simpa using hg
          subst this
          refine ⟨?_, HFI.out.1⟩
          have := own_grows OW6.out hgr6 (own_kp (own_mono HO5.out hsz) (kp_alloc w5 _)) (by decide)
          rw [H8]
          exact this
      have own6 : w6.ownsRow w.heap.size 55 2 v6 (gs ++ [(5, fx, Value.slice a5 8 c5)]).length ((gs ++ [(5, fx, Value.slice a5 8 c5)]).flatMap cellQ) := by
        rw [List.length_append, List.length_singleton, HKL.out, List.flatMap_append]
        have e : [((5 : Int), fx, Value.slice a5 8 c5)].flatMap cellQ = [.int .i64 5, .slice a5 8 c5] := rfl
        rw [e]
        exact hown6
      have hsq := own_slq rfl own6 od6
      have hrow2 : (gs ++ [((5 : Int), fx, Value.slice a5 8 c5)]).map fldQ = RX := by
        have hful : ns.take 4 = ns := List.take_of_length_le (by have := HML.out; omega)
        have h := HROW.out
        rw [hful] at h
        rw [List.map_append, h, HRX.out]
        rfl
      rw [hrow2] at hsq
      obtain ⟨av6, cv6, hv6⟩ := hsq.form
      subst hv6
      have hj := Lib.hid (HJO.out av6 cv6 _ rfl w6 kp6 hsq)
      have K8 := Lib.hid kp6
      clear own6 od6 kp6 hown6 hgr6 hsz hsq hrow2
      go_wp2_with (first
        | (go_at_call 24; (with_reducible refine hj.out.mono ?_); rintro e w7 ⟨v7, rfl, hs7, hk7⟩; have K7 := Lib.hid (Kp.trans K8.out hk7); have S7 := Lib.hid (own_mono hs7 (Below.size K8.out)); clear hs7 hk7)
        | (go_at_call 21; (with_reducible refine (must_bytes_t _ _).mono ?_); rintro e w' ⟨rfl, rfl⟩))
      go_ret
      exact ⟨_, rfl, S7.out, K7.out⟩
set_option maxRecDepth 20000 in
theorem sencode_bad (ads : List Addr) (h3 : 3 < ads.length) (m : CX) (hm : m.wf) (w : World) (V : St ads w) (T : Tab w) (hr : rightX m = false) :
    Calls Tryz.prog 5 #[.agg m.cells] w fun e w' => e = .returned (.tuple #[.slice none 0 0, snt (ads[3]'h3)]) ∧ Kp w w' := by
  have hmf : ∀ (fn : Fn) (first cap : Array Value) (w : World), (Instr.makeFunc fn first cap).run Tryz.prog w = .ok (.func fn first cap) w := fun _ _ _ _ => rfl
  have kb := kp_alloc w (.cells m.cells 26)
  have hc := (MapKept.heap_alloc w (.cells m.cells 26)).1
  have HT := Lib.hid (try_bytes_err ads 3 h3 17 #[.pointer (some ⟨w.heap.size, 0, none⟩)] (w.alloc (.cells m.cells 26)) (V.below kb) (by intro w; simp [go_sem]) fun w1 h1 => sencode1_bad ads h3 m hm w.heap.size w1 (V.below (Kp.trans kb h1)) (T.kp (Kp.trans kb h1)) (kp_row h1 hc) hr)
  have KB := Lib.hid kb
  clear kb hc V T hr
  obtain ⟨n, s, o, d, x⟩ := m
  dsimp only [CX.cells] at HT KB ⊢
  go_enter Tryz.func5, Tryz.ntmps5
  go_wp2_with (go_at_call 16; (with_reducible refine HT.out.mono ?_); rintro e w' ⟨rfl, hk⟩; have HK := Lib.hid hk; clear hk)
  go_ret2
  exact ⟨rfl, Kp.trans KB.out HK.out⟩

set_option maxRecDepth 20000 in
theorem sencode_ok (ads : List Addr) (m : CX) (w : World) (V : St ads w) (T : Tab w) (hr : rightX m = true) :
    Calls Tryz.prog 5 #[.agg m.cells] w fun e w' => ∃ v, e = .returned (.tuple #[v, .nilIface]) ∧ w'.ownsRow w.heap.size 5 1 v (encX m).length ((encX m).map (Value.int .u8)) ∧ Kp w w' := by
  have hmf : ∀ (fn : Fn) (first cap : Array Value) (w : World), (Instr.makeFunc fn first cap).run Tryz.prog w = .ok (.func fn first cap) w := fun _ _ _ _ => rfl
  have h3 : 3 < ads.length := by rw [V.len]; decide
  have kb := kp_alloc w (.cells m.cells 26)
  have hc := (MapKept.heap_alloc w (.cells m.cells 26)).1
  have HT := Lib.hid (try_bytes_own 17 #[.pointer (some ⟨w.heap.size, 0, none⟩)] (encX m) (w.alloc (.cells m.cells 26)) (by intro w; simp [go_sem]) fun w1 h1 => (sencode1_ok ads h3 m w.heap.size w1 (V.below (Kp.trans kb h1)) (T.kp (Kp.trans kb h1)) (kp_row h1 hc) hr).mono (by
    rintro e w2 ⟨v, rfl, ho, hk⟩
    exact ⟨v, rfl, ho, hk⟩))
  obtain ⟨eb, heb⟩ : ∃ x, encX m = x := ⟨_, rfl⟩
  rw [heb] at HT ⊢
  clear heb
  have KB := Lib.hid kb
  clear kb hc V T hr
  obtain ⟨n, s, o, d, x⟩ := m
  dsimp only [CX.cells] at HT KB ⊢
  go_enter Tryz.func5, Tryz.ntmps5
  go_wp2_with (go_at_call 16; (with_reducible refine HT.out.mono ?_); rintro e w' ⟨v, rfl, ho, hk⟩; have HK := Lib.hid hk; have HO := Lib.hid ho; clear hk ho)
  go_ret2
  exact ⟨_, rfl, own_mono HO.out (Below.size KB.out), Kp.trans KB.out HK.out⟩
end Go.Proofs.YtldamfpoemgkpaaGreatDoor

namespace Go.Proofs.YtldamfpoemgkpaaGreatDoor
open Go.RowKit Go.ChangeShapes Go.WideShapes

theorem kb_cell {p : Nat} {w w' : World} {q : Addr} {v : Value} (h : Kb p w w') (hp : q.block ≠ p) (hc : w.cell? q = some v) : w'.cell? q = some v := by
  have hl := old_of_cell hc
  have e : w'.heap[q.block]? = w.heap[q.block]? := h.2 _ hp hl
  unfold World.cell? at hc ⊢
  rw [e]
  exact hc
theorem kb_set {p : Nat} {w w1 : World} (h : Kb p w w1) (i : Nat) (v : Value) : Kb p w (w1.setCell ⟨p, i, none⟩ v) := ⟨by simp; exact h.1, fun b hb hl => by rw [Below.heap_setCell _ _ _ _ hb]; exact h.2 b hb hl⟩
theorem kb_drew {p : Nat} {w w' : World} (h : Kb p w w') : Kb p w w'.drew := h
/-- a context's cells -/
def numsX (l : List Int) (x : Nat) : Array Value := (l.map (Value.int .i64) ++ [Value.float .f64 x]).toArray
/-- WHERE Decode STANDS between two fields: its answer's block R, its context's B with the numbers l and the time x, the places' A, the fields' rows from L on -/
structure DxS (w : World) (R B A L : Nat) (v : Value) (kl : Nat) (gs : List (Int × List Int × Value)) (l : List Int) (x : Nat) (wr : World) : Prop where
  kW : Kp w wr
  bR : wr.heap[R]? = some (.cells #[.int .i64 0, .int .i64 0, .int .i64 0, .int .i64 0, .float .f64 0] 26 (0, 0))
  bB : wr.heap[B]? = some (.cells (numsX l x) 26 (0, 0))
  bA : wr.heap[A]? = some (.cells (plX B) 49 (0, 0))
  own : wr.ownsRow L 55 2 v kl (gs.flatMap cellQ)
  od : OwnD L gs wr
theorem DxS.kp {w wr wr' : World} {R B A L kl x : Nat} {v : Value} {gs : List (Int × List Int × Value)} {l : List Int} (h : DxS w R B A L v kl gs l x wr) (hk : Kp wr wr') : DxS w R B A L v kl gs l x wr' :=
  ⟨Kp.trans h.kW hk, kp_row hk h.bR, kp_row hk h.bB, kp_row hk h.bA, own_kp h.own hk, h.od.kp hk⟩
/-- its numbers are at one block, the rows at lower ones or higher -/
structure Apt (w : World) (R B A L : Nat) (v : Value) (gs : List (Int × List Int × Value)) : Prop where
  wB : w.heap.size ≤ B
  RB : R ≠ B
  AB : A ≠ B
  vB : v.ownBlock ≠ some B
  dB : ∀ g ∈ gs, g.2.2.ownBlock ≠ some B
theorem own_apart {w : World} {base n size B : Nat} {e : TypeId} {v : Value} {xs : List Value} (h : w.ownsRow base e size v n xs) (hB : v.ownBlock ≠ some B) (i : Nat) (u : Value) : (w.setCell ⟨B, i, none⟩ u).ownsRow base e size v n xs := by
  obtain ⟨h1, h2⟩ := h
  refine ⟨h1, ?_⟩
  rcases h2 with h2 | ⟨g, cap, cur, hv, hg, hh, r⟩
  · exact .inl h2
  · refine .inr ⟨g, cap, cur, hv, hg, ?_, r⟩
    have hne : g ≠ B := by
      intro q
      subst q
      subst hv
      exact hB rfl
    rw [Below.heap_setCell _ _ _ _ hne]
    exact hh
theorem DxS.set {w wr : World} {R B A L kl x : Nat} {v : Value} {gs : List (Int × List Int × Value)} {l : List Int} (h : DxS w R B A L v kl gs l x wr) (P : Apt w R B A L v gs) (i : Nat) (hi : i < l.length) (y : Int) : DxS w R B A L v kl gs (l.set i y) x (wr.setCell ⟨B, i, none⟩ (.int .i64 y)) := by
  refine ⟨Below.setCell h.kW P.wB _, by rw [Below.heap_setCell _ _ _ _ P.RB]; exact h.bR, ?_, by rw [Below.heap_setCell _ _ _ _ P.AB]; exact h.bA, own_apart h.own P.vB _ _, fun g hg => ⟨own_apart (h.od g hg).1 (P.dB g hg) _ _, (h.od g hg).2⟩⟩
  rw [Joins.block_setCell h.bB]
  congr 2
  simp [numsX, List.set_append_left, hi, List.map_set]
theorem DxS.setF {w wr : World} {R B A L kl x : Nat} {v : Value} {gs : List (Int × List Int × Value)} {l : List Int} (h : DxS w R B A L v kl gs l x wr) (P : Apt w R B A L v gs) (hl : l.length = 4) (y : Nat) : DxS w R B A L v kl gs l y (wr.setCell ⟨B, 4, none⟩ (.float .f64 y)) := by
  refine ⟨Below.setCell h.kW P.wB _, by rw [Below.heap_setCell _ _ _ _ P.RB]; exact h.bR, ?_, by rw [Below.heap_setCell _ _ _ _ P.AB]; exact h.bA, own_apart h.own P.vB _ _, fun g hg => ⟨own_apart (h.od g hg).1 (P.dB g hg) _ _, (h.od g hg).2⟩⟩
  rw [Joins.block_setCell h.bB]
  congr 2
  match l, hl with
  | [n, s, o, d], _ => rfl
theorem numsX_cell {w : World} {B x : Nat} {l : List Int} (h : w.heap[B]? = some (.cells (numsX l x) 26 (0, 0))) (j : Nat) (hj : j < l.length) : w.cell? ⟨B, j, none⟩ = some (.int .i64 l[j]) := by
  unfold World.cell?
  dsimp only
  rw [h]
  simp [numsX, List.getElem?_append_left, hj]
theorem numsX_last {w : World} {B x : Nat} {l : List Int} (h : w.heap[B]? = some (.cells (numsX l x) 26 (0, 0))) (hl : l.length = 4) : w.cell? ⟨B, 4, none⟩ = some (.float .f64 x) := by
  unfold World.cell?
  dsimp only
  rw [h]
  match l, hl with
  | [n, s, o, d], _ => rfl
theorem four9 {l : List Int} (h : l.length = 4) : ∃ n s o d, l = [n, s, o, d] := by
  match l, h with
  | [n, s, o, d], _ => exact ⟨n, s, o, d, rfl⟩
theorem fields_sl : Tryz.prog.underlying 47 = some (.slice (Tryz.prog.elem 47)) := by simp [Program.elem, Tryz.underlying47]
theorem fields_elem : Tryz.prog.elem 47 = 55 := by simp [Program.elem, Tryz.underlying47]
theorem fields_sz : ∀ w, (Go.sizeOf 55).run Tryz.prog w = .ok 2 w := by
  obtain ⟨i0, hi, -, hz1, -⟩ := info_parts info_fieldT
  intro w
  simp [sizeOf, typeInfo, hi, hz1]
theorem run_init {a : Option Addr} {n c m : Nat} {mm : Int} (ha : ∃ b off, a = some ⟨b, off, none⟩) (hmm : (m : Int) = mm) (hm : m ≤ n) (hnc : n ≤ c) (w : World) :
    (Instr.slice 47 (.slice a n c) none (some (.int .i64 mm)) none).run Tryz.prog w = .ok (.slice a m c) w := by
  obtain ⟨b, off, rfl⟩ := ha
  rw [run_slice_h w 47 _ _ _ fields_sl .i64 _ (by omega) (by omega), fields_elem, fields_sz]
  have e : mm.toNat = m := by omega
  simp [Result.andThen, sliced, Addr.add, e]
/-- a row of the call's own is old -/
theorem own_old {w : World} {base n size : Nat} {e : TypeId} {v : Value} {xs : List Value} (h : w.ownsRow base e size v n xs) : ∀ B, v.ownBlock = some B → B < w.heap.size := by
  intro B hB
  rcases h.2 with ⟨rfl, _⟩ | ⟨g, cap, cur, rfl, _, hh, _⟩
  · simp [Value.ownBlock] at hB
  · simp [Value.ownBlock] at hB
    subst hB
    exact old_of_row hh
theorem own_cap {w : World} {base n size : Nat} {e : TypeId} {a : Option Addr} {k c : Nat} {xs : List Value} (h : w.ownsRow base e size (.slice a k c) n xs) : n ≤ c := by
  rcases h.2 with ⟨hv, rfl⟩ | ⟨g, cap, cur, hv, _, _, hc, _⟩
  · exact Nat.zero_le _
  · injection hv with _ _ h3
    omega
/-- what Split answers, in the words of Decode -/
theorem split_row9 (ads : List Addr) (h1 : 1 < ads.length) (h3 : 3 < ads.length) (a : Option Addr) (cap : Nat) (bs : List Int) (len : Nat) (hlen : bs.length = len) (hl : len ≤ 1000) (hlc : len ≤ cap) (hb : InB bs) (kl : Nat) (hkl : (splitQ 17 bs 0 0).2.length = kl) (w : World) (V : St ads w) (hs : SlB (.slice a len cap) bs w) (h0 : (splitQ 17 bs 0 0).1 = 0) :
    Calls Tryz.prog 33 #[.slice a len cap] w fun e w' => ∃ av cv gs, e = .returned (.tuple #[.slice av kl cv, .nilIface]) ∧ kl ≤ cv ∧ (splitQ 17 bs 0 0).2 = gs.map fldQ ∧ w'.ownsRow w.heap.size 55 2 (.slice av kl cv) kl (gs.flatMap cellQ) ∧ OwnD w.heap.size gs w' ∧ Kp w w' :=
  (split_own ads h1 h3 a cap bs len hlen (by omega) hlc hb w V hs h0).mono (by
    rintro e w' ⟨v, gs, rfl, hgs, ho, hd, hk⟩
    have hg : gs.length = kl := by rw [← hkl, hgs, List.length_map]
    obtain ⟨av, cv, hv⟩ := (own_slq rfl ho hd).form
    rw [List.length_map, hg] at hv
    subst hv
    rw [hg] at ho
    exact ⟨av, cv, gs, rfl, own_cap ho, hgs, ho, hd, hk⟩)
set_option maxRecDepth 100000 in
theorem sdecode1_err (ads : List Addr) (h1' : 1 < ads.length) (h3' : 3 < ads.length) (P : Addr) (a : Option Addr) (cap : Nat) (bs : List Int) (len : Nat) (hlen : bs.length = len) (hb : InB bs) (hlc : len ≤ cap) (w : World) (V : St ads w) (hp : w.cell? P = some (.slice a len cap)) (hs : SlB (.slice a len cap) bs w) (hl : len ≤ 1000) (k : Nat) (hk : k < ads.length) (hk2 : (splitQ 17 bs 0 0).1 = (k : Int) + 1) :
    Calls Tryz.prog 31 #[.pointer (some P)] w fun e w' => e = .panicked [{ v := snt (ads[k]'hk), recovered := false }] ∧ Kp w w' := by
  have HS := fun (w1 : World) (hk1 : Kp w w1) => split_any ads h1' h3' a cap bs len hlen (by omega) hlc hb w1 (V.below hk1) (hs.kp hk1)
  have HS2 : ∀ (w1 : World), Kp w w1 → Calls Tryz.prog 33 #[.slice a len cap] w1 fun e w' => e = .returned (.tuple #[.slice none 0 0, snt (ads[k]'hk)]) ∧ Kp w1 w' := fun w1 hk1 => (HS w1 hk1).mono (by
    rintro e w' ⟨⟨h, -⟩ | ⟨h, rfl⟩ | ⟨h, rfl⟩, hk3⟩
    · omega
    · obtain rfl : k = 1 := by omega
      exact ⟨rfl, hk3⟩
    · obtain rfl : k = 3 := by omega
      exact ⟨rfl, hk3⟩)
  obtain ⟨ak, hak⟩ : ∃ a, ads[k]'hk = a := ⟨_, rfl⟩
  rw [hak] at HS2 ⊢
  have kb := kp_alloc w (.cells #[.int .i64 0, .int .i64 0, .int .i64 0, .int .i64 0, .float .f64 0] 26)
  have dp := kp_cell kb hp
  have KB := Lib.hid kb
  have HS2 := Lib.hid HS2
  clear V hs hb hp kb HS hak
  go_enter Tryz.func31, Tryz.ntmps31
  go_wp2_with (first
    | (go_at_call 33; (with_reducible refine (HS2.out _ KB.out).mono ?_); rintro e w5 ⟨rfl, hk5⟩; have K5 := Lib.hid (Kp.trans KB.out hk5); clear hk5)
    | (go_at_call 32; (with_reducible refine (must_fields_f _ _ _).mono ?_); rintro e w' ⟨rfl, rfl⟩))
  exact ⟨rfl, rfl, K5.out⟩
set_option maxRecDepth 100000 in
theorem sdecode1_nil (ads : List Addr) (h1' : 1 < ads.length) (h3' : 3 < ads.length) (P : Addr) (a : Option Addr) (cap : Nat) (bs : List Int) (len : Nat) (hlen : bs.length = len) (hb : InB bs) (hlc : len ≤ cap) (w : World) (V : St ads w) (hp : w.cell? P = some (.slice a len cap)) (hs : SlB (.slice a len cap) bs w) (hl : len ≤ 1000) (h0 : (splitQ 17 bs 0 0).1 = 0) (hn : (splitQ 17 bs 0 0).2 = []) :
    Calls Tryz.prog 31 #[.pointer (some P)] w fun e w' => e = .panicked [{ v := snt (ads[3]'h3'), recovered := false }] ∧ Kp w w' := by
  have c3 : w.cell? ⟨0, 0, none⟩ = some (snt (ads[3]'h3')) := V.cell 3 (by decide)
  obtain ⟨a3, ha3⟩ : ∃ x, ads[3]'h3' = x := ⟨_, rfl⟩
  obtain ⟨kl, hkl⟩ : ∃ x, (splitQ 17 bs 0 0).2.length = x := ⟨_, rfl⟩
  have HS := Lib.hid (fun (w1 : World) (hk1 : Kp w w1) => split_row9 ads h1' h3' a cap bs len hlen hl hlc hb kl hkl w1 (V.below hk1) (hs.kp hk1) h0)
  rw [ha3] at c3 ⊢
  have kl0 : kl = 0 := by rw [← hkl, hn]; rfl
  subst kl0
  have kb := kp_alloc w (.cells #[.int .i64 0, .int .i64 0, .int .i64 0, .int .i64 0, .float .f64 0] 26)
  have dp := kp_cell kb hp
  have d3 := kp_cell kb c3
  have C3 := Lib.hid d3
  have KB := Lib.hid kb
  clear V hs hb hp kb ha3 c3 d3 hkl hn h0
  go_enter Tryz.func31, Tryz.ntmps31
  go_wp2_with (first
    | (go_at_call 33; (with_reducible refine (HS.out _ KB.out).mono ?_); rintro e w5 ⟨av, cv, gs, rfl, hcv, hgs, ho, hd, hk5⟩; have K5 := Lib.hid hk5; have HO := Lib.hid ho; have HD := Lib.hid hd; have HGS := Lib.hid hgs; have HCV := Lib.hid hcv; clear hk5 ho hd hgs hcv)
    | (go_at_call 32; (with_reducible refine (must_fields_t _ _).mono ?_); rintro e w' ⟨rfl, rfl⟩))
  have e3 := kp_cell K5.out C3.out
  refine wp_region_held_drew (S := fun w' => Kp w5 w') (by kernel_rfl) ?_ (fun hHeld => ?_)
  · exact (Kp.refl w5).drew
  refine wpAnyH_take (i := 0) (v := ?_) rfl (by kernel_rfl) (by kernel_rfl) (by kernel_rfl) (fun _ _ _ h => h) (Or.inl ⟨by rfl, ?_⟩) (by assumption) ?_
  rotate_left
  · intro w hSw; go_simp; try with_reducible rfl
  go_simp
  refine wpAnyH_take (i := 1) (v := ?_) rfl (by kernel_rfl) (by kernel_rfl) (by kernel_rfl) (fun _ _ _ h => h) (Or.inl ⟨by rfl, ?_⟩) (by assumption) ?_
  rotate_left
  · intro w hSw; go_simp; try with_reducible rfl
  go_simp
  refine wpAnyH_take (i := 2) (v := ?_) rfl (by kernel_rfl) (by kernel_rfl) (by kernel_rfl) (fun _ _ _ h => h) (Or.inl ⟨by rfl, ?_⟩) (by assumption) ?_
  rotate_left
  · intro w hSw; go_simp; try with_reducible rfl
  go_simp
  refine wpAnyH_take (i := 3) (v := undef) rfl (by kernel_rfl) (by kernel_rfl) (by kernel_rfl) (fun _ _ _ h => h) (Or.inr ⟨by rfl, rfl⟩) (by assumption) ?_
  go_simp
  refine wpAnyH_take (i := 4) (v := undef) rfl (by kernel_rfl) (by kernel_rfl) (by kernel_rfl) (fun _ _ _ h => h) (Or.inr ⟨by rfl, rfl⟩) (by assumption) ?_
  go_simp
  refine wpAnyH_take (i := 5) (v := undef) rfl (by kernel_rfl) (by kernel_rfl) (by kernel_rfl) (fun _ _ _ h => h) (Or.inr ⟨by rfl, rfl⟩) (by assumption) ?_
  go_simp
  refine wpAnyH_take (i := 6) (v := undef) rfl (by kernel_rfl) (by kernel_rfl) (by kernel_rfl) (fun _ _ _ h => h) (Or.inr ⟨by rfl, rfl⟩) (by assumption) ?_
  go_simp
  refine wpAnyH_take (i := 7) (v := undef) rfl (by kernel_rfl) (by kernel_rfl) (by kernel_rfl) (fun _ _ _ h => h) (Or.inr ⟨by rfl, rfl⟩) (by assumption) ?_
  go_simp
  refine wpAnyH_take (i := 8) (v := undef) rfl (by kernel_rfl) (by kernel_rfl) (by kernel_rfl) (fun _ _ _ h => h) (Or.inr ⟨by rfl, rfl⟩) (by assumption) ?_
  go_simp
  refine wpAnyH_take (i := 9) (v := ?_) rfl (by kernel_rfl) (by kernel_rfl) (by kernel_rfl) (fun _ _ _ h => h) (Or.inl ⟨by rfl, ?_⟩) (by assumption) ?_
  rotate_left
  · intro w hSw; go_simp; try with_reducible rfl
  go_simp
  refine wpAnyH_take (i := 10) (v := ?_) rfl (by kernel_rfl) (by kernel_rfl) (by kernel_rfl) (fun _ _ _ h => h) (Or.inl ⟨by rfl, ?_⟩) (by assumption) ?_
  rotate_left
  · intro w hSw; have q := kp_cell hSw e3; go_simp; try with_reducible rfl
  go_simp
  refine wpAnyH_ready (rs := [11]) (by kernel_rfl) (by simp) ?_
  refine AllReadyH.cons rfl (fun K hK => ?_) AllReadyH.nil
  go_simp
  go_wp2_with (go_at_call 18; (with_reducible refine (sdemand_f _ _).mono ?_); rintro e w' ⟨rfl, rfl⟩)
  exact ⟨rfl, rfl, Kp.trans (Kp.trans KB.out K5.out) hHeld⟩
set_option maxRecDepth 100000 in
theorem sdecode1_far (ads : List Addr) (h1' : 1 < ads.length) (h3' : 3 < ads.length) (P : Addr) (a : Option Addr) (cap : Nat) (bs : List Int) (len : Nat) (hlen : bs.length = len) (hb : InB bs) (hlc : len ≤ cap) (w : World) (V : St ads w) (hp : w.cell? P = some (.slice a len cap)) (hs : SlB (.slice a len cap) bs w) (hl : len ≤ 1000) (h0 : (splitQ 17 bs 0 0).1 = 0) (ar : List (Int × List Int)) (tg : Int) (dt : List Int) (hn : (splitQ 17 bs 0 0).2 = ar ++ [(tg, dt)]) (h5 : tg ≠ 5) :
    Calls Tryz.prog 31 #[.pointer (some P)] w fun e w' => e = .panicked [{ v := snt (ads[3]'h3'), recovered := false }] ∧ Kp w w' := by
  have c3 : w.cell? ⟨0, 0, none⟩ = some (snt (ads[3]'h3')) := V.cell 3 (by decide)
  obtain ⟨a3, ha3⟩ : ∃ x, ads[3]'h3' = x := ⟨_, rfl⟩
  obtain ⟨kl, hkl⟩ : ∃ x, (splitQ 17 bs 0 0).2.length = x := ⟨_, rfl⟩
  have HS := Lib.hid (fun (w1 : World) (hk1 : Kp w w1) => split_row9 ads h1' h3' a cap bs len hlen hl hlc hb kl hkl w1 (V.below hk1) (hs.kp hk1) h0)
  rw [ha3] at c3 ⊢
  obtain ⟨ll, hll⟩ : ∃ x : Int, (kl : Int) = x := ⟨_, rfl⟩
  have hla : ar.length + 1 = kl := by rw [← hkl, hn, List.length_append, List.length_singleton]
  have h17 := splitQ_len 17 bs 0 0
  rw [hkl] at h17
  have l1 : 1 ≤ ll := by omega
  have l17 : ll ≤ 17 := by omega
  have hb5 : (tg == 5) = false := by simpa using h5
  have kb := kp_alloc w (.cells #[.int .i64 0, .int .i64 0, .int .i64 0, .int .i64 0, .float .f64 0] 26)
  have dp := kp_cell kb hp
  have d3 := kp_cell kb c3
  have C3 := Lib.hid d3
  have KB := Lib.hid kb
  have HN := Lib.hid hn
  have HLA := Lib.hid hla
  clear V hs hb hp kb ha3 c3 d3 hkl hn h0 hla h17 h5
  go_enter Tryz.func31, Tryz.ntmps31
  go_wp2_with (first
    | (go_at_call 33; (with_reducible refine (HS.out _ KB.out).mono ?_); rintro e w5 ⟨av, cv, gs, rfl, hcv, hgs, ho, hd, hk5⟩; have K5 := Lib.hid hk5; have HO := Lib.hid ho; have HD := Lib.hid hd; have HGS := Lib.hid hgs; have HCV := Lib.hid hcv; clear hk5 ho hd hgs hcv)
    | (go_at_call 32; (with_reducible refine (must_fields_t _ _).mono ?_); rintro e w' ⟨rfl, rfl⟩))
  have e3 := kp_cell K5.out C3.out
  have hla := HLA.out
  obtain ⟨pj, hpj⟩ : ∃ x, ll - 1 = x := ⟨_, rfl⟩
  rw [hpj]
  have pj0 : 0 ≤ pj := by omega
  have pjb : decide (0 ≤ pj) = true := decide_eq_true pj0
  have pjl : pj < ll := by omega
  have epj : pj.toNat = ar.length := by omega
  have hgl : gs.length = kl := by have := congrArg List.length HGS.out; rw [List.length_map, HN.out, List.length_append, List.length_singleton] at this; omega
  have hsq : SlQ (.slice av kl cv) (ar ++ [(tg, dt)]) w5 := by rw [← HN.out, HGS.out]; exact own_slq hgl HO.out HD.out
  obtain ⟨b, off, rfl, ct, -⟩ := hsq.at ar.length (by simp)
  rw [List.getElem_append_right (Nat.le_refl _)] at ct
  simp only [Nat.sub_self, List.getElem_cons_zero] at ct
  rw [← epj] at ct
  clear hsq hgl epj hla
  refine wp_region_held_drew (S := fun w' => Kp w5 w') (by kernel_rfl) ?_ (fun hHeld => ?_)
  · exact (Kp.refl w5).drew
  refine wpAnyH_take (i := 0) (v := ?_) rfl (by kernel_rfl) (by kernel_rfl) (by kernel_rfl) (fun _ _ _ h => h) (Or.inl ⟨by rfl, ?_⟩) (by assumption) ?_
  rotate_left
  · intro w hSw; go_simp; try with_reducible rfl
  go_simp
  refine wpAnyH_take (i := 1) (v := ?_) rfl (by kernel_rfl) (by kernel_rfl) (by kernel_rfl) (fun _ _ _ h => h) (Or.inl ⟨by rfl, ?_⟩) (by assumption) ?_
  rotate_left
  · intro w hSw; go_simp; try with_reducible rfl
  go_simp
  refine wpAnyH_take (i := 2) (v := ?_) rfl (by kernel_rfl) (by kernel_rfl) (by kernel_rfl) (fun _ _ _ h => h) (Or.inl ⟨by rfl, ?_⟩) (by assumption) ?_
  rotate_left
  · intro w hSw; go_simp; try with_reducible rfl
  go_simp
  refine wpAnyH_take (i := 3) (v := ?_) rfl (by kernel_rfl) (by kernel_rfl) (by kernel_rfl) (fun _ _ _ h => h) (Or.inl ⟨by rfl, ?_⟩) (by assumption) ?_
  rotate_left
  · intro w hSw; go_simp; try with_reducible rfl
  go_simp
  refine wpAnyH_take (i := 4) (v := ?_) rfl (by kernel_rfl) (by kernel_rfl) (by kernel_rfl) (fun _ _ _ h => h) (Or.inl ⟨by rfl, ?_⟩) (by assumption) ?_
  rotate_left
  · intro w hSw; go_simp; try with_reducible rfl
  go_simp
  refine wpAnyH_take (i := 5) (v := ?_) rfl (by kernel_rfl) (by kernel_rfl) (by kernel_rfl) (fun _ _ _ h => h) (Or.inl ⟨by rfl, ?_⟩) (by assumption) ?_
  rotate_left
  · intro w hSw; go_simp; try with_reducible rfl
  go_simp
  refine wpAnyH_take (i := 6) (v := ?_) rfl (by kernel_rfl) (by kernel_rfl) (by kernel_rfl) (fun _ _ _ h => h) (Or.inl ⟨by rfl, ?_⟩) (by assumption) ?_
  rotate_left
  · intro w hSw; go_simp; try with_reducible rfl
  go_simp
  refine wpAnyH_take (i := 7) (v := ?_) rfl (by kernel_rfl) (by kernel_rfl) (by kernel_rfl) (fun _ _ _ h => h) (Or.inl ⟨by rfl, ?_⟩) (by assumption) ?_
  rotate_left
  · intro w hSw; have q := kp_cell hSw ct; go_simp; try with_reducible rfl
  go_simp
  refine wpAnyH_take (i := 8) (v := ?_) rfl (by kernel_rfl) (by kernel_rfl) (by kernel_rfl) (fun _ _ _ h => h) (Or.inl ⟨by rfl, ?_⟩) (by assumption) ?_
  rotate_left
  · intro w hSw; go_simp; try with_reducible rfl
  go_simp
  refine wpAnyH_take (i := 9) (v := ?_) rfl (by kernel_rfl) (by kernel_rfl) (by kernel_rfl) (fun _ _ _ h => h) (Or.inl ⟨by rfl, ?_⟩) (by assumption) ?_
  rotate_left
  · intro w hSw; go_simp; try with_reducible rfl
  go_simp
  refine wpAnyH_take (i := 10) (v := ?_) rfl (by kernel_rfl) (by kernel_rfl) (by kernel_rfl) (fun _ _ _ h => h) (Or.inl ⟨by rfl, ?_⟩) (by assumption) ?_
  rotate_left
  · intro w hSw; have q := kp_cell hSw e3; go_simp; try with_reducible rfl
  go_simp
  refine wpAnyH_ready (rs := [11]) (by kernel_rfl) (by simp) ?_
  refine AllReadyH.cons rfl (fun K hK => ?_) AllReadyH.nil
  go_simp
  go_wp2_with (go_at_call 18; (with_reducible refine (sdemand_f _ _).mono ?_); rintro e w' ⟨rfl, rfl⟩)
  exact ⟨rfl, rfl, Kp.trans (Kp.trans KB.out K5.out) hHeld⟩
set_option maxRecDepth 100000 in
set_option maxHeartbeats 8000000 in
theorem sdecode1_row (ads : List Addr) (h1' : 1 < ads.length) (h3' : 3 < ads.length) (P : Addr) (a : Option Addr) (cap : Nat) (bs : List Int) (len : Nat) (hlen : bs.length = len) (hb : InB bs) (hlc : len ≤ cap) (w : World) (V : St ads w) (hp : w.cell? P = some (.slice a len cap)) (hs : SlB (.slice a len cap) bs w) (hl : len ≤ 1000) (T : Tab w) (h0 : (splitQ 17 bs 0 0).1 = 0) (ar : List (Int × List Int)) (d : List Int) (hn : (splitQ 17 bs 0 0).2 = ar ++ [(5, d)]) :
    Calls Tryz.prog 31 #[.pointer (some P)] w fun e w' => (((decX bs).1 = 0 ∧ e = .returned (.agg (decX bs).2.cells)) ∨ ((decX bs).1 = 4 ∧ e = .panicked [{ v := snt (ads[3]'h3'), recovered := false }])) ∧ Kp w w' := by
  obtain ⟨q1, q2⟩ := splitQ_back 17 bs 0 0 hb (by decide) h0
  have hin := splitQ_in hb q2
  rw [hn] at q1 hin
  have hdm : decX bs = match putN 4 (List.replicate 4 0) ar with
      | none => (4, noX)
      | some l => if (toFl d).2 = 0 then (if rightX (of4 l (toFl d).1) = true then (0, of4 l (toFl d).1) else (4, noX)) else (4, noX) := by
    unfold decX
    rw [if_neg (fun q => q h0), hn, fin_five q1]
    rfl
  obtain ⟨DD, hDD⟩ : ∃ x, decX bs = x := ⟨_, rfl⟩
  rw [hDD] at hdm ⊢
  have hlq := runQ_last ar (5, d) 0 0 q1
  have hmq := runQ_mem _ _ _ hlq.1
  have hdi : InB d := hin (5, d) (by simp)
  have h200 : ∀ x ∈ (splitQ 17 bs 0 0).2, x.2.length ≤ 200 := fun x hx => (splitQ_tags 17 bs 0 0 hb x hx).2.2
  rw [hn] at h200
  have c3 : w.cell? ⟨0, 0, none⟩ = some (snt (ads[3]'h3')) := V.cell 3 (by decide)
  obtain ⟨a3, ha3⟩ : ∃ x, ads[3]'h3' = x := ⟨_, rfl⟩
  obtain ⟨kl, hkl⟩ : ∃ x, (splitQ 17 bs 0 0).2.length = x := ⟨_, rfl⟩
  have HS := Lib.hid (fun (w1 : World) (hk1 : Kp w w1) => split_row9 ads h1' h3' a cap bs len hlen hl hlc hb kl hkl w1 (V.below hk1) (hs.kp hk1) h0)
  obtain ⟨ll, hll⟩ : ∃ x : Int, (kl : Int) = x := ⟨_, rfl⟩
  have hla : ar.length + 1 = kl := by rw [← hkl, hn, List.length_append, List.length_singleton]
  have h17 := splitQ_len 17 bs 0 0
  rw [hkl] at h17
  have l1 : 1 ≤ ll := by omega
  have l17 : ll ≤ 17 := by omega
  have HNB := Lib.hid (fun (ad : Option Addr) (cd : Nat) (dt : List Int) (dl : Nat) (hdl : dt.length = dl) (hbd : InB dt) (w1 : World) (hk : Kp w w1) (hsd : SlB (.slice ad dl cd) dt w1) => snumber_bad ads h3' ad cd dt dl hdl hbd w1 (V.below hk) hsd)
  have HNO := Lib.hid (fun (ad : Option Addr) (cd : Nat) (dt : List Int) (dl : Nat) (hdl : dt.length = dl) (hbd : InB dt) (w1 : World) (hk : Kp w w1) (hsd : SlB (.slice ad dl cd) dt w1) => snumber_ok ads ad cd dt dl hdl hbd w1 (V.below hk) hsd)
  have HPL := Lib.hid (fun (B : Nat) (w1 : World) => (show Calls Tryz.prog 20 #[.pointer (some ⟨B, 0, none⟩)] w1 fun e w' => e = .returned (.agg #[.pointer (some ⟨B, 0, none⟩), .pointer (some ⟨B, 1, none⟩), .pointer (some ⟨B, 2, none⟩), .pointer (some ⟨B, 3, none⟩)]) ∧ Kp w1 w' from places4_any B w1))
  have HTF := Lib.hid (fun (ad : Option Addr) (cd : Nat) (dl : Nat) (hdl : d.length = dl) (w1 : World) (hk : Kp w w1) (hsd : SlB (.slice ad dl cd) d w1) => toFloat_any ads h3' ad cd d dl hdl hdi w1 (V.below hk) hsd)
  have HRT := Lib.hid (fun (c : CX) (hc : c.wf) (w1 : World) (hk : Kp w w1) => scoRight_any ads c hc w1 (V.below hk) (T.kp hk))
  rw [ha3] at c3 HNB HTF ⊢
  have kb := kp_alloc w (.cells #[.int .i64 0, .int .i64 0, .int .i64 0, .int .i64 0, .float .f64 0] 26)
  have dp := kp_cell kb hp
  have d3 := kp_cell kb c3
  have C3 := Lib.hid c3
  have D3 := Lib.hid d3
  have KB := Lib.hid kb
  have HZ := Lib.hid (MapKept.heap_alloc w (.cells #[.int .i64 0, .int .i64 0, .int .i64 0, .int .i64 0, .float .f64 0] 26)).1
  have HN := Lib.hid hn
  have HLA := Lib.hid hla
  have HDM := Lib.hid hdm
  have HMQ := Lib.hid hmq
  have HLQ := Lib.hid hlq.2
  have H200 := Lib.hid h200
  have HDI := Lib.hid hdi
  have hsf := store_fl
  clear V T hs hb hp kb ha3 c3 d3 hkl hn h0 hla h17 hdm hmq hlq h200 hDD q1 q2 hin hdi
  go_enter Tryz.func31, Tryz.ntmps31
  go_wp2_with (first
    | (go_at_call 33; (with_reducible refine (HS.out _ KB.out).mono ?_); rintro e w5 ⟨av, cv, gs, rfl, hcv, hgs, ho, hd, hk5⟩; have K5 := Lib.hid hk5; have HO := Lib.hid ho; have HD := Lib.hid hd; have HGS := Lib.hid hgs; have HCV := Lib.hid hcv; clear hk5 ho hd hgs hcv)
    | (go_at_call 32; (with_reducible refine (must_fields_t _ _).mono ?_); rintro e w' ⟨rfl, rfl⟩))
  have e3 := kp_cell K5.out D3.out
  have hla := HLA.out
  obtain ⟨pj, hpj⟩ : ∃ x, ll - 1 = x := ⟨_, rfl⟩
  rw [hpj]
  have pj0 : 0 ≤ pj := by omega
  have pjb : decide (0 ≤ pj) = true := decide_eq_true pj0
  have pjl : pj < ll := by omega
  have epj : pj.toNat = ar.length := by omega
  have hgl : gs.length = kl := by have := congrArg List.length HGS.out; rw [List.length_map, HN.out, List.length_append, List.length_singleton] at this; omega
  have hsq : SlQ (.slice av kl cv) (ar ++ [(5, d)]) w5 := by rw [← HN.out, HGS.out]; exact own_slq hgl HO.out HD.out
  obtain ⟨b, off, hav, ct, -⟩ := hsq.at ar.length (by simp)
  rw [List.getElem_append_right (Nat.le_refl _)] at ct
  simp only [Nat.sub_self, List.getElem_cons_zero] at ct
  rw [← epj] at ct
  obtain ⟨kf, hkf⟩ : ∃ x, ar.length = x := ⟨_, rfl⟩
  have hkp : (kf : Int) = pj := by omega
  have HSLI := run_init (c := cv) ⟨b, off, hav⟩ hkp (by omega : kf ≤ kl) HCV.out
  have HAV := Lib.hid hav
  have HGL := Lib.hid hgl
  have EPJ := Lib.hid epj
  subst hav
  clear hsq hgl epj hla
  refine wp_region_held_drew (S := fun w' => Kp w5 w') (by kernel_rfl) ?_ (fun hHeld => ?_)
  · exact (Kp.refl w5).drew
  refine wpAnyH_take (i := 0) (v := ?_) rfl (by kernel_rfl) (by kernel_rfl) (by kernel_rfl) (fun _ _ _ h => h) (Or.inl ⟨by rfl, ?_⟩) (by assumption) ?_
  rotate_left
  · intro w hSw; go_simp; try with_reducible rfl
  go_simp
  refine wpAnyH_take (i := 1) (v := ?_) rfl (by kernel_rfl) (by kernel_rfl) (by kernel_rfl) (fun _ _ _ h => h) (Or.inl ⟨by rfl, ?_⟩) (by assumption) ?_
  rotate_left
  · intro w hSw; go_simp; try with_reducible rfl
  go_simp
  refine wpAnyH_take (i := 2) (v := ?_) rfl (by kernel_rfl) (by kernel_rfl) (by kernel_rfl) (fun _ _ _ h => h) (Or.inl ⟨by rfl, ?_⟩) (by assumption) ?_
  rotate_left
  · intro w hSw; go_simp; try with_reducible rfl
  go_simp
  refine wpAnyH_take (i := 3) (v := ?_) rfl (by kernel_rfl) (by kernel_rfl) (by kernel_rfl) (fun _ _ _ h => h) (Or.inl ⟨by rfl, ?_⟩) (by assumption) ?_
  rotate_left
  · intro w hSw; go_simp; try with_reducible rfl
  go_simp
  refine wpAnyH_take (i := 4) (v := ?_) rfl (by kernel_rfl) (by kernel_rfl) (by kernel_rfl) (fun _ _ _ h => h) (Or.inl ⟨by rfl, ?_⟩) (by assumption) ?_
  rotate_left
  · intro w hSw; go_simp; try with_reducible rfl
  go_simp
  refine wpAnyH_take (i := 5) (v := ?_) rfl (by kernel_rfl) (by kernel_rfl) (by kernel_rfl) (fun _ _ _ h => h) (Or.inl ⟨by rfl, ?_⟩) (by assumption) ?_
  rotate_left
  · intro w hSw; go_simp; try with_reducible rfl
  go_simp
  refine wpAnyH_take (i := 6) (v := ?_) rfl (by kernel_rfl) (by kernel_rfl) (by kernel_rfl) (fun _ _ _ h => h) (Or.inl ⟨by rfl, ?_⟩) (by assumption) ?_
  rotate_left
  · intro w hSw; go_simp; try with_reducible rfl
  go_simp
  refine wpAnyH_take (i := 7) (v := ?_) rfl (by kernel_rfl) (by kernel_rfl) (by kernel_rfl) (fun _ _ _ h => h) (Or.inl ⟨by rfl, ?_⟩) (by assumption) ?_
  rotate_left
  · intro w hSw; have q := kp_cell hSw ct; go_simp; try with_reducible rfl
  go_simp
  refine wpAnyH_take (i := 8) (v := ?_) rfl (by kernel_rfl) (by kernel_rfl) (by kernel_rfl) (fun _ _ _ h => h) (Or.inl ⟨by rfl, ?_⟩) (by assumption) ?_
  rotate_left
  · intro w hSw; go_simp; try with_reducible rfl
  go_simp
  refine wpAnyH_take (i := 9) (v := ?_) rfl (by kernel_rfl) (by kernel_rfl) (by kernel_rfl) (fun _ _ _ h => h) (Or.inl ⟨by rfl, ?_⟩) (by assumption) ?_
  rotate_left
  · intro w hSw; go_simp; try with_reducible rfl
  go_simp
  refine wpAnyH_take (i := 10) (v := ?_) rfl (by kernel_rfl) (by kernel_rfl) (by kernel_rfl) (fun _ _ _ h => h) (Or.inl ⟨by rfl, ?_⟩) (by assumption) ?_
  rotate_left
  · intro w hSw; have q := kp_cell hSw e3; go_simp; try with_reducible rfl
  go_simp
  refine wpAnyH_ready (rs := [11]) (by kernel_rfl) (by simp) ?_
  refine AllReadyH.cons rfl (fun K hK => ?_) AllReadyH.nil
  go_simp
  go_wp2_with ((go_at_call 18; (with_reducible refine (sdemand_t _ _).mono ?_); rintro e w' ⟨rfl, rfl⟩))
  refine hK.out _ _ ?_ (fun hHeld => ?_)
  · exact hHeld
  clear hK K
  refine wpAnyH_done (by kernel_rfl) ?_ _
  obtain ⟨wd, hwd⟩ : ∃ y, w5.drew = y := ⟨_, rfl⟩
  have kd : Kp w5 wd := by rw [← hwd]; exact (Kp.refl w5).drew
  have KD := Lib.hid kd
  rw [hwd]
  clear hwd kd ct e3
  go_wp2_with (go_at_call 20; (with_reducible refine (HPL.out _ _).mono ?_); rintro e w6 ⟨rfl, hk6⟩; have K6 := Lib.hid hk6; clear hk6)
  obtain ⟨A, hAA⟩ : ∃ x, w6.heap.size = x := ⟨_, rfl⟩
  obtain ⟨B, hBB⟩ : ∃ x, wd.heap.size = x := ⟨_, rfl⟩
  have KA := Lib.hid (kp_alloc w6 (.cells #[.pointer (some ⟨B, 0, none⟩), .pointer (some ⟨B, 1, none⟩), .pointer (some ⟨B, 2, none⟩), .pointer (some ⟨B, 3, none⟩)] 49))
  have KC := Lib.hid (kp_alloc wd (.cells #[.int .i64 0, .int .i64 0, .int .i64 0, .int .i64 0, .float .f64 0] 26))
  have KT := Lib.hid (Kp.trans KC.out (Kp.trans K6.out KA.out))
  obtain ⟨L, hLL⟩ : ∃ x, (w.alloc (.cells #[.int .i64 0, .int .i64 0, .int .i64 0, .int .i64 0, .float .f64 0] 26)).heap.size = x := ⟨_, rfl⟩
  have hL2 : L = w.heap.size + 1 := by rw [← hLL]; simp
  have hB5 : w5.heap.size ≤ B := by rw [← hBB]; exact Below.size KD.out
  have hBA : B < A := by
    have := Below.size K6.out
    rw [hAA] at this
    simp at this
    omega
  have hho := HO.out
  have hhd := HD.out
  rw [hLL] at hho hhd
  have h5L : w.heap.size + 1 ≤ w5.heap.size := by rw [← hL2, ← hLL]; exact Below.size K5.out
  have hkW : Kp w (w6.alloc (.cells #[.pointer (some ⟨B, 0, none⟩), .pointer (some ⟨B, 1, none⟩), .pointer (some ⟨B, 2, none⟩), .pointer (some ⟨B, 3, none⟩)] 49)) := Kp.trans KB.out (Kp.trans K5.out (Kp.trans KD.out KT.out))
  have DS : DxS w w.heap.size B A L (.slice (some ⟨b, off, none⟩) kl cv) kl gs (List.replicate 4 0) 0 (w6.alloc (.cells #[.pointer (some ⟨B, 0, none⟩), .pointer (some ⟨B, 1, none⟩), .pointer (some ⟨B, 2, none⟩), .pointer (some ⟨B, 3, none⟩)] 49)) :=
    ⟨hkW, kp_row (Kp.trans K5.out (Kp.trans KD.out KT.out)) HZ.out, kp_row (Kp.trans K6.out KA.out) (by rw [← hBB]; exact (MapKept.heap_alloc wd (.cells #[.int .i64 0, .int .i64 0, .int .i64 0, .int .i64 0, .float .f64 0] 26)).1), by rw [← hAA]; exact (MapKept.heap_alloc w6 _).1, own_kp hho (Kp.trans KD.out KT.out), hhd.kp (Kp.trans KD.out KT.out)⟩
  have hAP : Apt w w.heap.size B A L (.slice (some ⟨b, off, none⟩) kl cv) gs := by
    refine ⟨by omega, by omega, by omega, ?_, ?_⟩
    · intro q
      have := own_old hho
      exact absurd (this B q) (by omega)
    · intro g hg q
      have := own_old (hhd g hg).1
      exact absurd (this B q) (by omega)
  rw [hBB] at *
  rw [hAA] at *
  have HAP := Lib.hid hAP
  have HDS := Lib.hid DS
  have hAB : A ≠ B := by omega
  have NA := Lib.hid hAB
  have NQ := Lib.hid (And.intro h5L hB5)
  have HKF := Lib.hid hkf
  clear DS hAP hho hhd hkW hAB hBA hB5 h5L hL2 hLL hAA hBB hkf
  go_loopw [33] (fun i wr => ∃ (j : Nat) (l : List Int), j ≤ kf ∧ i = .int .i64 j ∧ l.length = 4 ∧ DxS w w.heap.size B A L (.slice (some ⟨b, off, none⟩) kl cv) kl gs l 0 wr ∧ putN 4 (List.replicate 4 0) ar = putN 4 l (ar.drop j)) (fun i _ => kf - (intOf i).toNat)
  case atStart => exact ⟨0, _, Nat.zero_le _, rfl, rfl, HDS.out, rfl⟩
  case round =>
    obtain ⟨j, l, hj, rfl, hl4, hds, hput⟩ := hrel
    obtain ⟨jj, hjj⟩ : ∃ jj : Int, (j : Int) = jj := ⟨_, rfl⟩
    rw [hjj]
    have HD2 := Lib.hid hds
    have HL4 := Lib.hid hl4
    have hkl := HKF.out
    have hsq : SlQ (.slice (some ⟨b, off, none⟩) kl cv) (ar ++ [(5, d)]) wr := by rw [← HN.out, HGS.out]; exact own_slq HGL.out hds.own hds.od
    by_cases hlt : j < kf
    · have hja : j < ar.length := by omega
      have hjl : j < (ar ++ [((5 : Int), d)]).length := by rw [List.length_append]; omega
      obtain ⟨b2, off2, hb2, ct, ad, cd, cdt, hsd, hbd⟩ := hsq.at j hjl
      injection hb2 with hb2
      injection hb2 with hb3 hb4
      subst hb3 hb4
      have t2 := H200.out _ (List.getElem_mem hjl)
      rw [List.getElem_append_left hja] at ct cdt hsd hbd t2
      have t0 := (HMQ.out ar[j] (List.getElem_mem hja)).1
      have t1 := HLQ.out ar[j] (List.getElem_mem hja)
      have hdr : ar.drop j = ar[j] :: ar.drop (j + 1) := List.drop_eq_getElem_cons hja
      rw [hdr, putN] at hput
      obtain ⟨y, hy⟩ : ∃ y, ar[j] = y := ⟨_, rfl⟩
      rw [hy] at ct cdt hsd hbd t0 t1 t2 hput
      obtain ⟨tg, dt⟩ := y
      dsimp only at ct cdt hsd hbd t0 t1 t2 hput
      obtain ⟨dl, hdl⟩ : ∃ x, dt.length = x := ⟨_, rfl⟩
      rw [hdl] at cdt hsd t2 hput
      have ej : jj.toNat = j := by omega
      rw [← ej] at ct cdt
      have j0 : 0 ≤ jj := by omega
      have hltj : jj < pj := by omega
      have HJ := Lib.hid hjj
      have HNN := Lib.hid (fun (q : ((4 : Nat) : Int) < tg ∨ dl = 0 ∨ (toNum dt).2 ≠ 0) => show DD = (4, noX) by rw [HDM.out, hput, if_pos q])
      have KX := Lib.hid (Kp.trans hds.kW (kp_alloc wr (.cells #[.int .i64 tg, .slice ad dl cd] 55)))
      obtain ⟨tk, htk⟩ : ∃ x, tg - 1 = x := ⟨_, rfl⟩
      have tk0 : 0 ≤ tk := by omega
      have tk9 : tk < 4 := by omega
      have hkn : tk.toNat < 4 := by omega
      have hwp : IntKind.i64.wrap tk = tk := IntWalk.i64_in tk (by omega)
      have hr := (MapKept.heap_alloc wr (.cells #[.int .i64 tg, .slice ad dl cd] 55)).1
      have DX := Lib.hid (hds.kp (kp_alloc wr (.cells #[.int .i64 tg, .slice ad dl cd] 55)))
      have SX := Lib.hid (hsd.kp (kp_alloc wr (.cells #[.int .i64 tg, .slice ad dl cd] 55)))
      have hlw := old_of_row hds.bB
      have HTK := Lib.hid htk
      have HPUT := Lib.hid hput
      have HBD := Lib.hid hbd
      have HDL := Lib.hid hdl
      clear hsq hsd hput hdr hy hl4 hkl hjl hja hlt ej hjj hds hbd hdl t2
      go_wp2
      obtain ⟨wX, hwX⟩ : ∃ x, wr.alloc (.cells #[.int .i64 tg, .slice ad dl cd] 55) = x := ⟨_, rfl⟩
      obtain ⟨X, hXX⟩ : ∃ x, wr.heap.size = x := ⟨_, rfl⟩
      rw [hwX] at DX SX KX hr ⊢
      rw [hXX] at hr hlw ⊢
      have NXB : X ≠ B := by omega
      have NAB := NA.out
      have xt : wX.cell? ⟨X, 0, none⟩ = some (.int .i64 tg) := by unfold World.cell?; dsimp only; rw [hr]; rfl
      have xd : wX.cell? ⟨X, 1, none⟩ = some (.slice ad dl cd) := by unfold World.cell?; dsimp only; rw [hr]; rfl
      have xa := plX_cell DX.out.bA tk.toNat hkn
      have DXD := Lib.hid (DX.out.kp (Kp.refl wX).drew)
      have SXD := Lib.hid (SX.out.kp (Kp.refl wX).drew)
      have hL4 := HL4.out
      by_cases q2 : (toNum dt).2 ≠ 0 ∨ (toNum dt).1 = 0
      · have HNUM := Lib.hid (HNB.out ad cd dt dl HDL.out HBD.out wX.drew (Kp.trans KX.out (Kp.refl wX).drew) SXD.out q2)
        have DN := Lib.hid (HNN.out (by
          by_cases q3 : (toNum dt).2 = 0
          · right; left
            refine Classical.byContradiction fun q => ?_
            exact toNum_pos HBD.out q3 (by rw [HDL.out]; exact q) (q2.resolve_left (fun g => g q3))
          · exact .inr (.inr q3)))
        clear hwX hXX hr q2 ct cdt HNN
        refine wp_region_held_drew (S := fun w' => Kb B wX w') (by kernel_rfl) ?_ (fun hHeld => ?_)
        · exact kb_drew (Kb.refl B wX)
        refine wpAnyH_take (i := 0) (v := ?_) rfl (by kernel_rfl) (by kernel_rfl) (by kernel_rfl) (fun _ _ _ h => h) (Or.inl ⟨by rfl, ?_⟩) (by assumption) ?_
        rotate_left
        · intro w hSw; go_simp; try with_reducible rfl
        go_simp
        refine wpAnyH_take (i := 1) (v := ?_) rfl (by kernel_rfl) (by kernel_rfl) (by kernel_rfl) (fun _ _ _ h => h) (Or.inl ⟨by rfl, ?_⟩) (by assumption) ?_
        rotate_left
        · intro w hSw; have q := kb_cell hSw NXB xt; go_simp; try with_reducible rfl
        go_simp
        refine wpAnyH_take (i := 2) (v := ?_) rfl (by kernel_rfl) (by kernel_rfl) (by kernel_rfl) (fun _ _ _ h => h) (Or.inl ⟨by rfl, ?_⟩) (by assumption) ?_
        rotate_left
        · intro w hSw; go_simp; try with_reducible rfl
        go_simp
        refine wpAnyH_take (i := 3) (v := ?_) rfl (by kernel_rfl) (by kernel_rfl) (by kernel_rfl) (fun _ _ _ h => h) (Or.inl ⟨by rfl, ?_⟩) (by assumption) ?_
        rotate_left
        · intro w hSw; go_simp; try with_reducible rfl
        go_simp
        refine wpAnyH_take (i := 4) (v := ?_) rfl (by kernel_rfl) (by kernel_rfl) (by kernel_rfl) (fun _ _ _ h => h) (Or.inl ⟨by rfl, ?_⟩) (by assumption) ?_
        rotate_left
        · intro w hSw; have q := kb_cell hSw NAB xa; go_simp; try with_reducible rfl
        go_simp
        refine wpAnyH_take (i := 5) (v := ?_) rfl (by kernel_rfl) (by kernel_rfl) (by kernel_rfl) (fun _ _ _ h => h) (Or.inl ⟨by rfl, ?_⟩) (by assumption) ?_
        rotate_left
        · intro w hSw; go_simp; try with_reducible rfl
        go_simp
        refine wpAnyH_take (i := 6) (v := ?_) rfl (by kernel_rfl) (by kernel_rfl) (by kernel_rfl) (fun _ _ _ h => h) (Or.inl ⟨by rfl, ?_⟩) (by assumption) ?_
        rotate_left
        · intro w hSw; have q := kb_cell hSw NXB xd; go_simp; try with_reducible rfl
        go_simp
        refine wpAnyH_ready (rs := [7]) (by kernel_rfl) (by simp) ?_
        refine AllReadyH.cons rfl (fun K hK => ?_) AllReadyH.nil
        go_simp
        go_wp2_with (go_at_call 34; (with_reducible refine HNUM.out.mono ?_); rintro e w6 ⟨rfl, hk6⟩)
        rw [DN.out]
        exact ⟨rfl, .inr ⟨rfl, rfl⟩, Kp.trans KX.out (Kp.trans (Kp.refl wX).drew hk6)⟩
      · obtain ⟨tn, htn⟩ : ∃ x, (toNum dt).1 = x := ⟨_, rfl⟩
        have h20 : (toNum dt).2 = 0 := Classical.byContradiction fun q => q2 (.inl q)
        have tn0 : tn ≠ 0 := fun q => q2 (.inr (htn.trans q))
        have hdt : toNum dt = (tn, 0) := Prod.ext htn h20
        have HNUM := Lib.hid (HNO.out ad cd dt dl HDL.out HBD.out wX.drew (Kp.trans KX.out (Kp.refl wX).drew) SXD.out tn hdt tn0)
        have dl0 : dl ≠ 0 := fun q => by
          have : dt = [] := List.length_eq_zero_iff.1 (by rw [HDL.out]; exact q)
          subst this
          exact tn0 (htn.symm.trans rfl)
        have HPT : Hid (putN 4 (List.replicate 4 0) ar = putN 4 (l.set tk.toNat tn) (ar.drop (j + 1))) := Lib.hid (by
          rw [HPUT.out, if_neg (by rw [hdt]; simp only []; omega), htn, HTK.out])
        clear hwX hXX hr q2 ct cdt HNN htn h20 hdt HPUT
        refine wp_region_held_drew (S := fun w' => Kb B wX w') (by kernel_rfl) ?_ (fun hHeld => ?_)
        · exact kb_drew (Kb.refl B wX)
        refine wpAnyH_take (i := 0) (v := ?_) rfl (by kernel_rfl) (by kernel_rfl) (by kernel_rfl) (fun _ _ _ h => h) (Or.inl ⟨by rfl, ?_⟩) (by assumption) ?_
        rotate_left
        · intro w hSw; go_simp; try with_reducible rfl
        go_simp
        refine wpAnyH_take (i := 1) (v := ?_) rfl (by kernel_rfl) (by kernel_rfl) (by kernel_rfl) (fun _ _ _ h => h) (Or.inl ⟨by rfl, ?_⟩) (by assumption) ?_
        rotate_left
        · intro w hSw; have q := kb_cell hSw NXB xt; go_simp; try with_reducible rfl
        go_simp
        refine wpAnyH_take (i := 2) (v := ?_) rfl (by kernel_rfl) (by kernel_rfl) (by kernel_rfl) (fun _ _ _ h => h) (Or.inl ⟨by rfl, ?_⟩) (by assumption) ?_
        rotate_left
        · intro w hSw; go_simp; try with_reducible rfl
        go_simp
        refine wpAnyH_take (i := 3) (v := ?_) rfl (by kernel_rfl) (by kernel_rfl) (by kernel_rfl) (fun _ _ _ h => h) (Or.inl ⟨by rfl, ?_⟩) (by assumption) ?_
        rotate_left
        · intro w hSw; go_simp; try with_reducible rfl
        go_simp
        refine wpAnyH_take (i := 4) (v := ?_) rfl (by kernel_rfl) (by kernel_rfl) (by kernel_rfl) (fun _ _ _ h => h) (Or.inl ⟨by rfl, ?_⟩) (by assumption) ?_
        rotate_left
        · intro w hSw; have q := kb_cell hSw NAB xa; go_simp; try with_reducible rfl
        go_simp
        refine wpAnyH_take (i := 5) (v := ?_) rfl (by kernel_rfl) (by kernel_rfl) (by kernel_rfl) (fun _ _ _ h => h) (Or.inl ⟨by rfl, ?_⟩) (by assumption) ?_
        rotate_left
        · intro w hSw; go_simp; try with_reducible rfl
        go_simp
        refine wpAnyH_take (i := 6) (v := ?_) rfl (by kernel_rfl) (by kernel_rfl) (by kernel_rfl) (fun _ _ _ h => h) (Or.inl ⟨by rfl, ?_⟩) (by assumption) ?_
        rotate_left
        · intro w hSw; have q := kb_cell hSw NXB xd; go_simp; try with_reducible rfl
        go_simp
        refine wpAnyH_ready (rs := [7]) (by kernel_rfl) (by simp) ?_
        refine AllReadyH.cons rfl (fun K hK => ?_) AllReadyH.nil
        go_simp
        go_wp2_with (go_at_call 34; (with_reducible refine HNUM.out.mono ?_); rintro e w6 ⟨rfl, hk6⟩; have K6 := Lib.hid hk6; have D6 := Lib.hid (DXD.out.kp hk6); have cB := numsX_cell D6.out.bB tk.toNat (by rw [hL4]; exact hkn); have zB := froz5 D6.out.bB tk.toNat; clear hk6)
        refine hK.out _ _ ?_ (fun hHeld => ?_)
        · exact Kb.kp (kb_drew (Kb.refl B wX)) K6.out
        clear hK K
        refine wpAnyH_take (i := 8) (v := ?_) rfl (by kernel_rfl) (by kernel_rfl) (by kernel_rfl) (fun _ _ _ h => h) (Or.inl ⟨by rfl, ?_⟩) (by assumption) ?_
        rotate_left
        · intro w hSw; go_simp; try with_reducible rfl
        go_simp
        refine wpAnyH_ready (rs := [9]) (by kernel_rfl) (by simp) ?_
        refine AllReadyH.cons rfl (fun K hK => ?_) AllReadyH.nil
        go_simp
        refine hK.out _ _ ?_ (fun hHeld => ?_)
        · exact kb_set (Kb.kp (kb_drew (Kb.refl B wX)) K6.out) _ _
        clear hK K
        refine wpAnyH_done (by kernel_rfl) ?_ _
        go_wp2
        have hjj := HJ.out
        go_roundw
        case rel => exact ⟨j + 1, l.set tk.toNat tn, by omega, by congr 1; omega, by rw [List.length_set]; exact HL4.out, D6.out.set HAP.out _ (by rw [hL4]; exact hkn) _, HPT.out⟩
        case measure => simp [intOf]; omega
    · obtain rfl : j = kf := by omega
      rw [← hkl, List.drop_length, putN] at hput
      have HDE : DD = if (toFl d).2 = 0 then (if rightX (of4 l (toFl d).1) = true then (0, of4 l (toFl d).1) else (4, noX)) else (4, noX) := by rw [HDM.out, hput]
      obtain ⟨b2, off2, hb2, ct, ad, cd, cdt, hsd, hbd⟩ := hsq.at ar.length (by simp)
      injection hb2 with hb2
      injection hb2 with hb3 hb4
      subst hb3 hb4
      rw [List.getElem_append_right (Nat.le_refl _)] at ct cdt hsd
      simp only [Nat.sub_self, List.getElem_cons_zero] at ct cdt hsd
      rw [← EPJ.out] at ct cdt
      obtain ⟨dl, hdl⟩ : ∃ x, d.length = x := ⟨_, rfl⟩
      rw [hdl] at cdt hsd
      have htf := fun w1 (hk : Kp wr w1) => HTF.out ad cd dl hdl w1 (Kp.trans hds.kW hk) (hsd.kp hk)
      have hex : ¬ jj < pj := by omega
      have HBK := Lib.hid (fun q => (f8_back HDI.out q).2.2)
      obtain ⟨fx, hfx⟩ : ∃ x, (toFl d).1 = x := ⟨_, rfl⟩
      obtain ⟨fe, hfe⟩ : ∃ x, (toFl d).2 = x := ⟨_, rfl⟩
      simp only [hfx, hfe] at htf HBK HDE
      by_cases he : fe = 0
      · subst he
        rw [if_pos rfl] at HDE
        have hfw := HBK.out rfl
        have HTV := Lib.hid (fun (w1 : World) (hk : Kp wr w1) => (show Calls Tryz.prog 36 #[.slice ad dl cd] w1 fun e w' => e = .returned (.tuple #[.float .f64 fx, .nilIface]) ∧ Kp w1 w' from (htf w1 hk).mono (by
          rintro e w' ⟨⟨-, rfl⟩ | ⟨h, -⟩, hk2⟩
          · exact ⟨rfl, hk2⟩
          · cases h)))
        obtain ⟨n, s, o, p, rfl⟩ := four9 hl4
        have hol : of4 [n, s, o, p] fx = ⟨n, s, o, p, fx⟩ := rfl
        rw [hol] at HDE
        have HRR := fun w1 (hk : Kp wr w1) => HRT.out ⟨n, s, o, p, fx⟩ hfw w1 (Kp.trans hds.kW hk)
        have HDEQ := Lib.hid HDE
        clear htf hput hkl hlt hjj hds hl4 hsd hsq hfx hfe HBK HDE hol
        go_wp2_with (first
          | (go_at_call 36; (with_reducible refine (HTV.out _ (Kp.refl _)).mono ?_); rintro e w8 ⟨rfl, hk8⟩; have K8 := Lib.hid hk8; have D8 := Lib.hid (HD2.out.kp hk8); have xB := numsX_last D8.out.bB HL4.out; have zB := froz5 D8.out.bB 4; clear hk8)
          | (go_at_call 35; (with_reducible refine (must_f64_t _ _).mono ?_); rintro e w' ⟨rfl, rfl⟩))
        have D9 := Lib.hid (D8.out.setF HAP.out HL4.out fx)
        obtain ⟨w9, hw9⟩ : ∃ y, w8.setCell ⟨B, 4, none⟩ (.float .f64 fx) = y := ⟨_, rfl⟩
        rw [hw9] at D9 ⊢
        have HRR := fun w1 (hk : Kp w9 w1) => HRT.out ⟨n, s, o, p, fx⟩ hfw w1 (Kp.trans D9.out.kW hk)
        clear hw9 xB zB
        obtain ⟨g0, g1, g2, g3, g4⟩ := cells5 (x0 := .int .i64 n) (x1 := .int .i64 s) (x2 := .int .i64 o) (x3 := .int .i64 p) (x4 := .float .f64 fx) D9.out.bB
        have x3 := kp_cell D9.out.kW C3.out
        cases hrm : rightX ⟨n, s, o, p, fx⟩ with
        | true =>
          have hde := HDEQ.out
          rw [hrm] at hde
          simp only [hrm] at HRR
          rw [if_pos rfl] at hde
          have HDE := Lib.hid hde
          dsimp only [CX.cells] at HRR
          have HRR := Lib.hid HRR
          clear hrm hde
          refine wp_region_held_drew (S := fun w' => Kp w9 w') (by kernel_rfl) ?_ (fun hHeld => ?_)
          · exact (Kp.refl w9).drew
          refine wpAnyH_take (i := 0) (v := ?_) rfl (by kernel_rfl) (by kernel_rfl) (by kernel_rfl) (fun _ _ _ h => h) (Or.inl ⟨by rfl, ?_⟩) (by assumption) ?_
          rotate_left
          · intro w hSw; have q0 := kp_cell hSw g0; have q1 := kp_cell hSw g1; have q2 := kp_cell hSw g2; have q3 := kp_cell hSw g3; have q4 := kp_cell hSw g4; go_simp; try with_reducible rfl
          go_simp
          refine wpAnyH_take (i := 2) (v := ?_) rfl (by kernel_rfl) (by kernel_rfl) (by kernel_rfl) (fun _ _ _ h => h) (Or.inl ⟨by rfl, ?_⟩) (by assumption) ?_
          rotate_left
          · intro w hSw; have q := kp_cell hSw x3; go_simp; try with_reducible rfl
          go_simp
          refine wpAnyH_ready (rs := [1]) (by kernel_rfl) (by simp) ?_
          refine AllReadyH.cons rfl (fun K hK => ?_) AllReadyH.nil
          go_simp
          go_wp2_with (go_at_call 19; (with_reducible refine (HRR.out _ hHeld).mono ?_); rintro e w7 ⟨rfl, hk7⟩; have K7 := Lib.hid (Kp.trans hHeld hk7); clear hk7)
          refine hK.out _ _ ?_ (fun hHeld => ?_)
          · exact K7.out
          clear hK K
          refine wpAnyH_ready (rs := [3]) (by kernel_rfl) (by simp) ?_
          refine AllReadyH.cons rfl (fun K hK => ?_) AllReadyH.nil
          go_simp
          go_wp2_with ((go_at_call 18; (with_reducible refine (sdemand_t _ _).mono ?_); rintro e w' ⟨rfl, rfl⟩))
          refine hK.out _ _ ?_ (fun hHeld => ?_)
          · exact hHeld
          clear hK K
          refine wpAnyH_done (by kernel_rfl) ?_ _
          have D7 := Lib.hid (D9.out.kp K7.out)
          obtain ⟨u0, u1, u2, u3, u4⟩ := cells5 (D7.out.bR)
          obtain ⟨v0, v1, v2, v3, v4⟩ := cells5 (x0 := .int .i64 n) (x1 := .int .i64 s) (x2 := .int .i64 o) (x3 := .int .i64 p) (x4 := .float .f64 fx) D7.out.bB
          have fz := froz5 D7.out.bR
          go_wp2
          have hz5 := set5 (.int .i64 n) (.int .i64 s) (.int .i64 o) (.int .i64 p) (.float .f64 fx) D7.out.bR
          refine bodyPost_ret (results_cell_row (p := 1) rfl _ _ w.heap.size 26 _ (0, 0) _ rfl hz5 Tryz.underlying26 rfl (by kernel_rfl)) rfl ?_
          rw [HDE.out]
          exact ⟨.inl ⟨rfl, rfl⟩, set5_kp (Kp.trans D9.out.kW K7.out) (Nat.le_refl _) _ _ _ _ _⟩
        | false =>
          have hde := HDEQ.out
          rw [hrm] at hde
          simp only [hrm] at HRR
          rw [if_neg (by decide)] at hde
          have HDE := Lib.hid hde
          dsimp only [CX.cells] at HRR
          have HRR := Lib.hid HRR
          clear hrm hde
          refine wp_region_held_drew (S := fun w' => Kp w9 w') (by kernel_rfl) ?_ (fun hHeld => ?_)
          · exact (Kp.refl w9).drew
          refine wpAnyH_take (i := 0) (v := ?_) rfl (by kernel_rfl) (by kernel_rfl) (by kernel_rfl) (fun _ _ _ h => h) (Or.inl ⟨by rfl, ?_⟩) (by assumption) ?_
          rotate_left
          · intro w hSw; have q0 := kp_cell hSw g0; have q1 := kp_cell hSw g1; have q2 := kp_cell hSw g2; have q3 := kp_cell hSw g3; have q4 := kp_cell hSw g4; go_simp; try with_reducible rfl
          go_simp
          refine wpAnyH_take (i := 2) (v := ?_) rfl (by kernel_rfl) (by kernel_rfl) (by kernel_rfl) (fun _ _ _ h => h) (Or.inl ⟨by rfl, ?_⟩) (by assumption) ?_
          rotate_left
          · intro w hSw; have q := kp_cell hSw x3; go_simp; try with_reducible rfl
          go_simp
          refine wpAnyH_ready (rs := [1]) (by kernel_rfl) (by simp) ?_
          refine AllReadyH.cons rfl (fun K hK => ?_) AllReadyH.nil
          go_simp
          go_wp2_with (go_at_call 19; (with_reducible refine (HRR.out _ hHeld).mono ?_); rintro e w7 ⟨rfl, hk7⟩; have K7 := Lib.hid (Kp.trans hHeld hk7); clear hk7)
          refine hK.out _ _ ?_ (fun hHeld => ?_)
          · exact K7.out
          clear hK K
          refine wpAnyH_ready (rs := [3]) (by kernel_rfl) (by simp) ?_
          refine AllReadyH.cons rfl (fun K hK => ?_) AllReadyH.nil
          go_simp
          go_wp2_with (go_at_call 18; (with_reducible refine (sdemand_f _ _).mono ?_); rintro e w' ⟨rfl, rfl⟩)
          rw [HDE.out]
          exact ⟨rfl, .inr ⟨rfl, rfl⟩, Kp.trans D9.out.kW K7.out⟩
      · rw [if_neg he] at HDE
        have HTV := Lib.hid (fun (w1 : World) (hk : Kp wr w1) => (show Calls Tryz.prog 36 #[.slice ad dl cd] w1 fun e w' => e = .returned (.tuple #[.float .f64 0, snt a3]) ∧ Kp w1 w' from (htf w1 hk).mono (by
          rintro e w' ⟨⟨h, -⟩ | ⟨-, -, rfl⟩, hk2⟩
          · exact absurd h he
          · exact ⟨rfl, hk2⟩)))
        have KWr := Lib.hid hds.kW
        have HDE := Lib.hid HDE
        clear htf hput hkl hlt hjj hds hl4 hsd hsq hfx hfe HBK
        go_wp2_with (first
          | (go_at_call 36; (with_reducible refine (HTV.out _ (Kp.refl _)).mono ?_); rintro e w8 ⟨rfl, hk8⟩; have K8 := Lib.hid hk8; clear hk8)
          | (go_at_call 35; (with_reducible refine (must_f64_f _ _ _).mono ?_); rintro e w' ⟨rfl, rfl⟩))
        rw [HDE.out]
        exact ⟨rfl, .inr ⟨rfl, rfl⟩, Kp.trans KWr.out K8.out⟩
end Go.Proofs.YtldamfpoemgkpaaGreatDoor

namespace Go.Proofs.YtldamfpoemgkpaaGreatDoor
open Go.RowKit Go.ChangeShapes Go.WideShapes

set_option maxRecDepth 100000 in
theorem sdecode_val  (a : Option Addr) (cap : Nat) (len : Nat) (w : World) (n s o p : Int) (x : Nat)
    (H : ∀ w1, Kp w w1 → w1.cell? ⟨w.heap.size, 0, none⟩ = some (.slice a len cap) → Calls Tryz.prog 31 #[.pointer (some ⟨w.heap.size, 0, none⟩)] w1 fun e w' => e = .returned (.agg #[.int .i64 n, .int .i64 s, .int .i64 o, .int .i64 p, .float .f64 x]) ∧ Kp w1 w') :
    Calls Tryz.prog 8 #[.slice a len cap] w fun e w' => e = .returned (.tuple #[.agg #[.int .i64 n, .int .i64 s, .int .i64 o, .int .i64 p, .float .f64 x], .nilIface]) ∧ Kp w w' := by
  have hmf : ∀ (fn : Fn) (first cap : Array Value) (w : World), (Instr.makeFunc fn first cap).run Tryz.prog w = .ok (.func fn first cap) w := fun _ _ _ _ => rfl
  have hsf := store_fl
  have kb := Kp.trans (kp_alloc w (.cells #[.slice a len cap] 27)) (kp_alloc (w.alloc (.cells #[.slice a len cap] 27)) (.cells #[.int .i64 0, .int .i64 0, .int .i64 0, .int .i64 0, .float .f64 0] 26))
  have hc := kp_cell (kp_alloc (w.alloc (.cells #[.slice a len cap] 27)) (.cells #[.int .i64 0, .int .i64 0, .int .i64 0, .int .i64 0, .float .f64 0] 26)) (box_cell w (.slice a len cap) 27)
  have hz := new5_1 w (.cells #[.slice a len cap] 27) (.cells #[.int .i64 0, .int .i64 0, .int .i64 0, .int .i64 0, .float .f64 0] 26)
  have HT := Lib.hid (try_ctx_val 31 #[.pointer (some ⟨w.heap.size, 0, none⟩)] n s o p x ((w.alloc (.cells #[.slice a len cap] 27)).alloc (.cells #[.int .i64 0, .int .i64 0, .int .i64 0, .int .i64 0, .float .f64 0] 26)) (by intro w; simp [go_sem]) fun w1 hk => H w1 (Kp.trans kb hk) (kp_cell hk hc))
  have KB := Lib.hid kb
  have HZ := Lib.hid hz
  clear H hc kb hz
  go_enter Tryz.func8, Tryz.ntmps8
  go_wp2_with (go_at_call 30; (with_reducible refine HT.out.mono ?_); rintro e w5 ⟨rfl, hk⟩; have HK := Lib.hid hk; have HR := Lib.hid (kp_row hk HZ.out); obtain ⟨b0, b1, b2, b3, b4⟩ := cells5 (HR.out); have fz := froz5 HR.out; clear hk)
  have hz5 := set5 (.int .i64 n) (.int .i64 s) (.int .i64 o) (.int .i64 p) (.float .f64 x) HR.out
  refine bodyPost_ret (results_row_tmp9 (p := 2) (u := 3) rfl _ _ (w.heap.size + 1) 26 _ (0, 0) _ rfl hz5 Tryz.underlying26 rfl (by kernel_rfl)) rfl ?_
  exact ⟨rfl, set5_kp (Kp.trans KB.out HK.out) (by omega) _ _ _ _ _⟩
set_option maxRecDepth 100000 in
theorem sdecode_err (ads : List Addr) (a : Option Addr) (cap : Nat) (len : Nat) (w : World) (V : St ads w) (k : Nat) (hk : k < ads.length)
    (H : ∀ w1, Kp w w1 → w1.cell? ⟨w.heap.size, 0, none⟩ = some (.slice a len cap) → Calls Tryz.prog 31 #[.pointer (some ⟨w.heap.size, 0, none⟩)] w1 fun e w' => e = .panicked [{ v := snt (ads[k]'hk), recovered := false }] ∧ Kp w1 w') :
    Calls Tryz.prog 8 #[.slice a len cap] w fun e w' => e = .returned (.tuple #[.agg #[.int .i64 0, .int .i64 0, .int .i64 0, .int .i64 0, .float .f64 0], snt (ads[k]'hk)]) ∧ Kp w w' := by
  have hmf : ∀ (fn : Fn) (first cap : Array Value) (w : World), (Instr.makeFunc fn first cap).run Tryz.prog w = .ok (.func fn first cap) w := fun _ _ _ _ => rfl
  have hsf := store_fl
  have kb := Kp.trans (kp_alloc w (.cells #[.slice a len cap] 27)) (kp_alloc (w.alloc (.cells #[.slice a len cap] 27)) (.cells #[.int .i64 0, .int .i64 0, .int .i64 0, .int .i64 0, .float .f64 0] 26))
  have hc := kp_cell (kp_alloc (w.alloc (.cells #[.slice a len cap] 27)) (.cells #[.int .i64 0, .int .i64 0, .int .i64 0, .int .i64 0, .float .f64 0] 26)) (box_cell w (.slice a len cap) 27)
  have hz := new5_1 w (.cells #[.slice a len cap] 27) (.cells #[.int .i64 0, .int .i64 0, .int .i64 0, .int .i64 0, .float .f64 0] 26)
  have HT := Lib.hid (try_ctx_err ads k hk 31 #[.pointer (some ⟨w.heap.size, 0, none⟩)] ((w.alloc (.cells #[.slice a len cap] 27)).alloc (.cells #[.int .i64 0, .int .i64 0, .int .i64 0, .int .i64 0, .float .f64 0] 26)) (V.below kb) (by intro w; simp [go_sem]) fun w1 hk => H w1 (Kp.trans kb hk) (kp_cell hk hc))
  have KB := Lib.hid kb
  have HZ := Lib.hid hz
  clear H hc kb hz
  go_enter Tryz.func8, Tryz.ntmps8
  go_wp2_with (go_at_call 30; (with_reducible refine HT.out.mono ?_); rintro e w5 ⟨rfl, hk⟩; have HK := Lib.hid hk; have HR := Lib.hid (kp_row hk HZ.out); obtain ⟨b0, b1, b2, b3, b4⟩ := cells5 (HR.out); have fz := froz5 HR.out; clear hk)
  have hz5 := set5 (.int .i64 0) (.int .i64 0) (.int .i64 0) (.int .i64 0) (.float .f64 0) HR.out
  refine bodyPost_ret (results_row_tmp9 (p := 2) (u := 3) rfl _ _ (w.heap.size + 1) 26 _ (0, 0) _ rfl hz5 Tryz.underlying26 rfl (by kernel_rfl)) rfl ?_
  exact ⟨rfl, set5_kp (Kp.trans KB.out HK.out) (by omega) _ _ _ _ _⟩
/-- WHAT Decode ANSWERS. -/
theorem sdecode_any (ads : List Addr) (a : Option Addr) (cap : Nat) (bs : List Int) (len : Nat) (hlen : bs.length = len) (hl : len ≤ 1000) (hb : InB bs) (hlc : len ≤ cap) (w : World) (V : St ads w) (T : Tab w) (hs : SlB (.slice a len cap) bs w) :
    Calls Tryz.prog 8 #[.slice a len cap] w fun e w' => e = .returned (.tuple #[.agg (decX bs).2.cells, errI ads (decX bs).1]) ∧ Kp w w' := by
  have h14 : ads.length = 14 := V.len
  have h1 : 1 < ads.length := by omega
  have h3 : 3 < ads.length := by omega
  have h4 : ∀ (H : ∀ w1, Kp w w1 → w1.cell? ⟨w.heap.size, 0, none⟩ = some (.slice a len cap) → Calls Tryz.prog 31 #[.pointer (some ⟨w.heap.size, 0, none⟩)] w1 fun e w' => e = .panicked [{ v := snt (ads[3]'h3), recovered := false }] ∧ Kp w1 w'), Calls Tryz.prog 8 #[.slice a len cap] w fun e w' => e = .returned (.tuple #[.agg noX.cells, errI ads 4]) ∧ Kp w w' := by
    intro H
    have := sdecode_err ads a cap len w V 3 h3 H
    rw [← errI_at ads 3 h3] at this
    exact this
  by_cases h0 : (splitQ 17 bs 0 0).1 = 0
  · obtain ⟨q1, -⟩ := splitQ_back 17 bs 0 0 hb (by decide) h0
    rcases List.eq_nil_or_concat (splitQ 17 bs 0 0).2 with hn | ⟨ar, y, hn⟩
    · have e : decX bs = (4, noX) := by unfold decX; rw [if_neg (fun q => q h0), hn]; rfl
      rw [e]
      exact h4 fun w1 hk hc => sdecode1_nil ads h1 h3 _ a cap bs len hlen hb hlc w1 (V.below hk) hc (hs.kp hk) hl h0 hn
    · rw [List.concat_eq_append] at hn
      obtain ⟨tg, d⟩ := y
      by_cases h5 : tg = 5
      · subst h5
        have HR := fun w1 (hk : Kp w w1) hc => sdecode1_row ads h1 h3 ⟨w.heap.size, 0, none⟩ a cap bs len hlen hb hlc w1 (V.below hk) hc (hs.kp hk) hl (T.kp hk) h0 ar d hn
        by_cases hd : (decX bs).1 = 0
        · rw [hd, errI_nil]
          obtain ⟨M, hM⟩ : ∃ M, (decX bs).2 = M := ⟨_, rfl⟩
          rw [hM] at HR ⊢
          obtain ⟨n, s, o, p, x⟩ := M
          exact sdecode_val a cap len w n s o p x fun w1 hk hc => (HR w1 hk hc).mono (by
            rintro e w2 ⟨⟨_, rfl⟩ | ⟨h, _⟩, hk2⟩
            · exact ⟨rfl, hk2⟩
            · rw [hd] at h; cases h)
        · have e : decX bs = (4, noX) := by
            unfold decX at hd ⊢
            rw [if_neg (fun q => q h0)] at hd ⊢
            rw [hn] at hd ⊢
            unfold finX at hd ⊢
            split at hd
            · split at hd
              · exact absurd rfl hd
              · rename_i h; rw [if_neg h]
            · rfl
          rw [e]
          exact h4 fun w1 hk hc => (HR w1 hk hc).mono (by
            rintro e w2 ⟨⟨h, _⟩ | ⟨_, rfl⟩, hk2⟩
            · exact absurd h hd
            · exact ⟨rfl, hk2⟩)
      · rw [hn] at q1
        have e : decX bs = (4, noX) := by unfold decX; rw [if_neg (fun q => q h0), hn, fin_far q1 h5]
        rw [e]
        exact h4 fun w1 hk hc => sdecode1_far ads h1 h3 _ a cap bs len hlen hb hlc w1 (V.below hk) hc (hs.kp hk) hl h0 ar tg d hn h5
  · have e : decX bs = ((splitQ 17 bs 0 0).1, noX) := by unfold decX; rw [if_pos h0]
    rw [e]
    rcases splitQ_num 17 bs 0 0 with h | h | h
    · exact absurd h h0
    · have := sdecode_err ads a cap len w V 1 h1 fun w1 hk hc => sdecode1_err ads h1 h3 ⟨w.heap.size, 0, none⟩ a cap bs len hlen hb hlc w1 (V.below hk) hc (hs.kp hk) hl 1 h1 h
      rw [← errI_at ads 1 h1] at this
      dsimp only
      rw [h]
      exact this
    · have := sdecode_err ads a cap len w V 3 h3 fun w1 hk hc => sdecode1_err ads h1 h3 ⟨w.heap.size, 0, none⟩ a cap bs len hlen hb hlc w1 (V.below hk) hc (hs.kp hk) hl 3 h3 h
      rw [← errI_at ads 3 h3] at this
      dsimp only
      rw [h]
      exact this
end Go.Proofs.YtldamfpoemgkpaaGreatDoor

