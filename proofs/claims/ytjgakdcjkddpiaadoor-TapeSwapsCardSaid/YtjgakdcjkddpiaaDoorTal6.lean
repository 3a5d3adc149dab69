/-
  THE LAWS' alive OF LAYER 6 (own work).
-/
import Derived.Test.YtjgakdcjkddpiaaDoorTapC
import Derived.Lib.SlBytesConst
import Derived.Lib.Strings
import Derived.BigQuiet
namespace Go.Proofs.YtjgakdcjkddpiaaDoor
open Go.RowKit Go.ChangeShapes Go.WideShapes

/-- A TAPE OF THE LAW's OWN (g, its own blocks O). -/
structure OneO (R : Nat → TM → (Nat → Prop) → World → Prop) (W : World) (g : Nat) (m : TM) (O : Nat → Prop) (w : World) : Prop where
  r : R g m O w
  kW : Kp W w
variable {ads : List Addr} {R : Nat → TM → (Nat → Prop) → World → Prop} {W : World} {g : Nat} {m m' : TM} {O O' : Nat → Prop} {w w' : World}
theorem OneO.kp (C : TapC ads W R) (h : OneO R W g m O w) (hk : Kp w w') : OneO R W g m O w' :=
  ⟨C.stay h.r (Below.size hk) (fun b hb => Below.block hk b (C.mem h.r b hb).2), Kp.trans h.kW hk⟩
theorem OneO.tape (C : TapC ads W R) (h : OneO R W g m O w) (r : R g m' O' w') (ha : Asd O O' w w') : OneO R W g m' O' w' :=
  ⟨r, ha.kp h.kW (fun b hb => (C.mem h.r b hb).1)⟩
theorem OneO.new (C : TapC ads W R) (h : OneO R W g m O w) : ¬ O w.heap.size := fun q => Nat.lt_irrefl _ (C.mem h.r _ q).2
theorem two_row (w : World) (x y : Int) (fr : Nat × Nat) : SlB (.slice (some ⟨w.heap.size, 0, none⟩) 2 2) [x, y] (w.alloc (.cells #[.int .u8 x, .int .u8 y] 5 fr)) := by
  refine .inr ⟨w.heap.size, 0, 2, by simp, rfl, fun j hj => ?_⟩
  have hr := (MapKept.heap_alloc w (.cells #[.int .u8 x, .int .u8 y] 5 fr)).1
  unfold World.cell?
  dsimp only
  rw [hr]
  have hj2 : j < 2 := hj
  match j, hj2 with
  | 0, _ | 1, _ => rfl
theorem in_two {x y : Int} (hx : 0 ≤ x ∧ x < 256) (hy : 0 ≤ y ∧ y < 256) : InB [x, y] := fun z hz => by
  rcases List.mem_cons.1 hz with rfl | hz
  · exact hx
  · have := List.mem_singleton.1 hz
    subst this
    exact hy

/-- bytes in old memory are none of the tape's -/
theorem OneO.old (C : TapC ads W R) (h : OneO R W g m O w) {a : Option Addr} {n c : Nat} {bs : List Int} (hs : SlB (.slice a n c) bs W) : 0 < n → ∀ ad, a = some ad → ¬ O ad.block := by
  intro hn ad ha hO
  subst ha
  have hB := (C.mem h.r _ hO).1
  rcases hs with ⟨_, a', cap, e, _⟩ | ⟨b, off, cap, hp, e, hc⟩
  · injection e with _ e2 _
    omega
  · injection e with e1 _ _
    injection e1 with e1
    subst e1
    have := old_of_cell (hc 0 hp)
    have h2 : b < W.heap.size := this
    have h3 : W.heap.size ≤ b := hB
    omega

set_option maxRecDepth 20000 in
set_option maxHeartbeats 2000000 in
theorem alive6 (C : TapC ads W R) : Calls Tryd.prog 7 #[] W fun e w' => e = .returned (.bool true) ∧ Kp W w' := by
  have HC := Lib.hid C
  have e1 : appM (newM 9) [97, 98] = (0, { sure := [], tail := [97, 98], room := 9, left := -1, off := false }) := rfl
  have e2 : syncM { sure := [], tail := [97, 98], room := 9, left := -1, off := false } = (0, { sure := [97, 98], tail := [], room := 9, left := -1, off := false }) := rfl
  have e3 : appM { sure := [97, 98], tail := [], room := 9, left := -1, off := false } [99, 100] = (0, { sure := [97, 98], tail := [99, 100], room := 9, left := -1, off := false }) := rfl
  have e4 : crashM { sure := [97, 98], tail := [99, 100], room := 9, left := -1, off := false } 1 = { sure := [97, 98, 99], tail := [], room := 9, left := -1, off := false } := rfl
  have k0 : Mok (newM 9) := Mok.new (by decide) (by decide)
  have k1 := k0.app (in_two (x := 97) (y := 98) (by decide) (by decide))
  rw [e1] at k1
  have k2 := k1.sync
  rw [e2] at k2
  have k3 := k2.app (in_two (x := 99) (y := 100) (by decide) (by decide))
  rw [e3] at k3
  have k4 := k3.crash 1
  rw [e4] at k4
  have H0 := Lib.hid (C.new_ok W (Kp.refl _) 9 (by decide) (by decide))
  have H1 := fun w1 (hk : Kp W w1) g O (r : R g (newM 9) O w1) gg (q : SlB (.slice (some ⟨gg, 0, none⟩) 2 2) [97, 98] w1) (hno : ¬ O gg) => C.append w1 hk g _ O r k0 (some ⟨gg, 0, none⟩) 2 2 [97, 98] q rfl (by decide) (in_two (by decide) (by decide)) (by decide) (fun _ ad e => by injection e with e; subst e; exact hno)
  have H2 := fun w1 (hk : Kp W w1) g O (r : R g _ O w1) => C.sync w1 hk g _ O r k1
  have H3 := fun w1 (hk : Kp W w1) g O (r : R g _ O w1) gg (q : SlB (.slice (some ⟨gg, 0, none⟩) 2 2) [99, 100] w1) (hno : ¬ O gg) => C.append w1 hk g _ O r k2 (some ⟨gg, 0, none⟩) 2 2 [99, 100] q rfl (by decide) (in_two (by decide) (by decide)) (by decide) (fun _ ad e => by injection e with e; subst e; exact hno)
  have H4 := fun w1 (hk : Kp W w1) g O (r : R g _ O w1) => C.crash w1 hk g _ O r k3 1 (by decide) (by decide)
  have H5 := fun w1 (hk : Kp W w1) g O (r : R g _ O w1) => C.bytes w1 hk g _ O r k4
  have H6 := fun w1 (hk : Kp W w1) g O (r : R g _ O w1) => C.sure w1 hk g _ O r k4
  simp only [e1, errI_nil] at H1
  simp only [e2, errI_nil] at H2
  simp only [e3, errI_nil] at H3
  simp only [e4] at H4
  have hall : TM.all { sure := [97, 98, 99], tail := [], room := 9, left := -1, off := false } = [97, 98, 99] := rfl
  simp only [hall, show [(97 : Int), 98, 99].length = 3 from rfl] at H5 H6
  obtain ⟨sv, hsv⟩ : ∃ x, strOfNums [97, 98, 99] = x := ⟨_, rfl⟩
  have hlist : sv.toList = [97, 98, 99] := by rw [← hsv, Lib.toList_data]; rfl
  have HSV := Lib.hid hsv
  have H1 := Lib.hid H1
  have H2 := Lib.hid H2
  have H3 := Lib.hid H3
  have H4 := Lib.hid H4
  have H5 := Lib.hid H5
  have H6 := Lib.hid H6
  have hcs := fun (w : World) (C : Array Value) (n c : Nat) => Lib.run_convert_bytes_const (P := Tryd.prog) w 33 5 C n c Tryd.underlying33 Tryd.underlying5
  clear k0 k1 k2 k3 k4 e1 e2 e3 e4 hall hsv C
  go_enter Tryd.func7, Tryd.ntmps7
  go_wp2_with (first
    | (go_at_call 9; (with_reducible refine H0.out.mono ?_); rintro e w1 ⟨g, O1, rfl, r, hn, hk⟩; have T1 := Lib.hid (OneO.mk r hk : OneO R W g _ O1 w1); have A1 := Lib.hid (T1.out.kp HC.out (kp_alloc w1 (.cells #[.int .u8 97, .int .u8 98] 5 (2, 3)))); have S1 := Lib.hid (two_row w1 97 98 (2, 3)); have N1 := Lib.hid (T1.out.new HC.out); clear r hn hk)
    | (go_at_call 17; (with_reducible refine (H1.out _ A1.out.kW _ _ A1.out.r _ S1.out N1.out).mono ?_); rintro e w2 ⟨rfl, O2, r, ha⟩; have T2 := Lib.hid (A1.out.tape HC.out r ha); clear r ha)
    | (go_at_call 18; (with_reducible refine (H2.out _ T2.out.kW _ _ T2.out.r).mono ?_); rintro e w3 ⟨rfl, O3, r, ha⟩; have T3 := Lib.hid (T2.out.tape HC.out r ha); have A3 := Lib.hid (T3.out.kp HC.out (kp_alloc w3 (.cells #[.int .u8 99, .int .u8 100] 5 (2, 3)))); have S3 := Lib.hid (two_row w3 99 100 (2, 3)); have N3 := Lib.hid (T3.out.new HC.out); clear r ha)
    | (go_at_call 17; (with_reducible refine (H3.out _ A3.out.kW _ _ A3.out.r _ S3.out N3.out).mono ?_); rintro e w4 ⟨rfl, O4, r, ha⟩; have T4 := Lib.hid (A3.out.tape HC.out r ha); clear r ha)
    | (go_at_call 19; (with_reducible refine (H4.out _ T4.out.kW _ _ T4.out.r).mono ?_); rintro e w5 ⟨rfl, O5, r, ha⟩; have T5 := Lib.hid (T4.out.tape HC.out r ha); clear r ha)
    | (go_at_call 13; (with_reducible refine (H5.out _ T5.out.kW _ _ T5.out.r).mono ?_); rintro e w6 ⟨a6, c6, rfl, hs, hk⟩; have T6 := Lib.hid (T5.out.kp HC.out hk); have cv := conv_slb hs; rw [HSV.out] at cv; clear hs hk)
    | (go_at_call 14; (with_reducible refine (H6.out _ T6.out.kW _ _ T6.out.r).mono ?_); rintro e w7 ⟨rfl, hk⟩; have T7 := Lib.hid (T6.out.kp HC.out hk); clear hk))
  go_ret
  exact ⟨by first | rfl | simp, T7.out.kW⟩
end Go.Proofs.YtjgakdcjkddpiaaDoor
