/-
  THE LAWS' alive OF LAYER 7 (own work).
-/
import Derived.Test.YtpehmkglkjlmfaaDoorJouL
import Derived.Test.YtpehmkglkjlmfaaDoorSamL
import Derived.Lib.SlBytesConst
import Derived.Lib.Strings
import Derived.BigQuiet
namespace Go.Proofs.YtpehmkglkjlmfaaDoor
open Go.RowKit Go.ChangeShapes Go.WideShapes

variable {ads : List Addr} {R : Nat → TM → (Nat → Prop) → World → Prop} {J : Nat → Nat → JM → (Nat → Prop) → World → Prop} {W w w' : World} {q g : Nat} {j j' : JM} {m m' : TM} {OJ OJ' O O' : Nat → Prop}

/-- a row of bytes that is a block -/
theorem row_slb {b c : Nat} {bs : List Int} {t : TypeId} {fr : Nat × Nat} {arr : Array Value} (h : w.heap[b]? = some (.cells arr t fr)) (ha : arr.toList = bs.map (Value.int .u8)) : SlB (.slice (some ⟨b, 0, none⟩) bs.length c) bs w := by
  by_cases h0 : bs = []
  · subst h0
    exact .inl ⟨rfl, _, _, rfl, fun e => by cases e⟩
  · have hp : 0 < bs.length := by rcases bs with _ | _ <;> simp at h0 ⊢
    refine .inr ⟨b, 0, c, hp, rfl, fun j hj => ?_⟩
    unfold World.cell?
    dsimp only
    rw [h]
    have e : arr[0 + j]? = (arr.toList)[j]? := by rw [Nat.zero_add]; simp
    show arr[0 + j]? = _
    rw [e, ha, List.getElem?_map, List.getElem?_eq_getElem hj]
    simp [List.getD, hj]
/-- two of them in a box -/
theorem box_two {b b1 b2 c1 c2 c : Nat} {x y : List Int} {t t1 t2 : TypeId} {fr1 fr2 : Nat × Nat} {a1 a2 : Array Value} (h1 : w.heap[b1]? = some (.cells a1 t1 fr1)) (e1 : a1.toList = x.map (Value.int .u8)) (h2 : w.heap[b2]? = some (.cells a2 t2 fr2)) (e2 : a2.toList = y.map (Value.int .u8)) (i1 : InB x) (i2 : InB y)
    (h : w.heap[b]? = some (.cells #[.slice (some ⟨b1, 0, none⟩) x.length c1, .slice (some ⟨b2, 0, none⟩) y.length c2] t)) : SlBB (.slice (some ⟨b, 0, none⟩) 2 c) [x, y] w := by
  refine .inr ⟨b, 0, c, by simp, rfl, fun j hj => ?_⟩
  have hj2 : j < 2 := hj
  have hc := cell_two h
  match j, hj2 with
  | 0, _ => exact ⟨_, _, hc.1, row_slb h1 e1, i1⟩
  | 1, _ => exact ⟨_, _, hc.2, row_slb h2 e2, i2⟩
theorem sfe_two {P : Nat → Prop} {b b1 b2 c1 c2 c : Nat} {x y : List Int} {t t1 t2 : TypeId} {fr1 fr2 : Nat × Nat} {a1 a2 : Array Value} (hP : ¬ P b ∧ ¬ P b1 ∧ ¬ P b2) (h1 : w.heap[b1]? = some (.cells a1 t1 fr1)) (e1 : a1.toList = x.map (Value.int .u8)) (h2 : w.heap[b2]? = some (.cells a2 t2 fr2)) (e2 : a2.toList = y.map (Value.int .u8)) (i1 : InB x) (i2 : InB y)
    (h : w.heap[b]? = some (.cells #[.slice (some ⟨b1, 0, none⟩) x.length c1, .slice (some ⟨b2, 0, none⟩) y.length c2] t)) : Sfe P (.slice (some ⟨b, 0, none⟩) 2 c) [x, y] w := fun w2 ha =>
  box_two (w := w2) ((ha.block b1 (old_of_row h1) hP.2.1).trans h1) e1 ((ha.block b2 (old_of_row h2) hP.2.2).trans h2) e2 i1 i2 ((ha.block b (old_of_row h) hP.1).trans h)

theorem alloc_up (w : World) (o : Obj) : (w.alloc o).heap.size = w.heap.size + 1 := by simp
theorem conv_const2 (w : World) (o : Obj) (C : Array Value) (n c : Nat) :
    (convert 46 46 (.slice (some ⟨w.heap.size + 1, 0, none⟩) n c)).run Tryd.prog ((w.alloc o).alloc (.cells C 5)) = .ok (.slice (some ⟨w.heap.size + 1, 0, none⟩) n c) ((w.alloc o).alloc (.cells C 5 (C.size, C.size + 1))) := by
  have h := Lib.run_convert_bytes_const (P := Tryd.prog) (w.alloc o) 46 5 C n c Tryd.underlying46 Tryd.underlying5
  have e := alloc_up w o
  rw [e] at h
  exact h
/-- the law's own two rows -/
def rs0 : List (List Int) := [[97], [98, 99]]
theorem rs0_ok : okRs rs0 := by decide
theorem rs0_in : ∀ r ∈ rs0, InB r := by
  intro r hr
  rcases List.mem_cons.1 hr with rfl | hr
  · intro x hx
    obtain rfl := List.mem_singleton.1 hx
    decide
  · obtain rfl := List.mem_singleton.1 hr
    intro x hx
    rcases List.mem_cons.1 hx with rfl | hx
    · decide
    · obtain rfl := List.mem_singleton.1 hx
      decide
/-- the world behind their making -/
abbrev wrs0 (w : World) : World := ((w.alloc (.cells #[.int .u8 97] 5 (1, 2))).alloc (.cells #[.int .u8 98, .int .u8 99] 5 (2, 3))).alloc (.cells #[.slice (some ⟨w.heap.size, 0, none⟩) 1 1, .slice (some ⟨w.heap.size + 1, 0, none⟩) 2 2] 46)
theorem wrs0_kp (w : World) : Kp w (wrs0 w) := Kp.trans (Kp.trans (kp_alloc _ _) (kp_alloc _ _)) (kp_alloc _ _)
theorem wrs0_sfe (w : World) {P : Nat → Prop} (hP : ∀ b, P b → b < w.heap.size) : Sfe P (.slice (some ⟨w.heap.size + 1 + 1, 0, none⟩) 2 2) rs0 (wrs0 w) := by
  have r1 := kp_row (Kp.trans (kp_alloc (w.alloc (.cells #[.int .u8 97] 5 (1, 2))) (.cells #[.int .u8 98, .int .u8 99] 5 (2, 3))) (kp_alloc _ (.cells #[.slice (some ⟨w.heap.size, 0, none⟩) 1 1, .slice (some ⟨w.heap.size + 1, 0, none⟩) 2 2] 46))) (MapKept.heap_alloc w _).1
  have r2 := kp_row (kp_alloc _ (.cells #[.slice (some ⟨w.heap.size, 0, none⟩) 1 1, .slice (some ⟨w.heap.size + 1, 0, none⟩) 2 2] 46)) (MapKept.heap_alloc (w.alloc (.cells #[.int .u8 97] 5 (1, 2))) (.cells #[.int .u8 98, .int .u8 99] 5 (2, 3))).1
  have r3 := (MapKept.heap_alloc ((w.alloc (.cells #[.int .u8 97] 5 (1, 2))).alloc (.cells #[.int .u8 98, .int .u8 99] 5 (2, 3))) (.cells #[.slice (some ⟨w.heap.size, 0, none⟩) 1 1, .slice (some ⟨w.heap.size + 1, 0, none⟩) 2 2] 46)).1
  rw [alloc_up] at r2
  rw [alloc_up, alloc_up] at r3
  exact sfe_two (x := [97]) (y := [98, 99]) ⟨fun q => by have := hP _ q; omega, fun q => by have := hP _ q; omega, fun q => by have := hP _ q; omega⟩ r1 rfl r2 rfl (rs0_in _ (by simp [rs0])) (rs0_in _ (by simp [rs0])) r3
theorem rs0_len : (allF rs0).length = 15 := by simp [allF, rs0, frm_len]

set_option maxRecDepth 20000 in
set_option maxHeartbeats 2000000 in
theorem alive7 (T : TapC ads W R) (C : JouC ads W R J) : Calls Tryd.prog 8 #[] W fun e w' => e = .returned (.bool true) ∧ Kp W w' := by
  have HC := Lib.hid C
  have HT := Lib.hid T
  have k0 : Mok (liv (allF []) 100) := liv_ok (by decide) (fun r hr => by cases hr) (by decide) (by decide) (by decide)
  have k1 : Mok (liv (allF rs0) 100) := liv_ok rs0_ok rs0_in (by rw [rs0_len]; decide) (by decide) (by decide)
  have j0 : JI ⟨[], false⟩ (liv (allF []) 100) := liv_ji (by decide) (fun r hr => by cases hr)
  have j1 : JI ⟨rs0, false⟩ (liv (allF rs0) 100) := liv_ji rs0_ok rs0_in
  have o0 := open_liv (rs := []) (room := 100) (by decide)
  have o1 := open_liv (rs := rs0) (room := 100) rs0_ok
  have H0 := T.new_ok W (Kp.refl _) 100 (by decide) (by decide)
  rw [liv_new] at H0
  have H0 := Lib.hid H0
  have H1 := fun w1 (hk : Kp W w1) g O (r : R g (liv (allF []) 100) O w1) => C.open_ok w1 hk g _ O r k0 (by rw [o0.1])
  simp only [o0.1, o0.2] at H1
  have H1 := Lib.hid H1
  have H2 := fun w1 q g OJ O (h : JL R J W q g 100 [] OJ O w1) b (s : Sfe (Un OJ O) (.slice (some ⟨b, 0, none⟩) 2 2) rs0 w1) => C.put w1 h.kW q g _ OJ _ O h.jr h.r h.dis h.ok h.inv (some ⟨b, 0, none⟩) 2 2 rs0 s rfl (by decide) (fun r hr => ⟨rs0_in r hr, by have := (rs0_ok r hr).2; omega⟩)
  have e2 : putJ ⟨[], false⟩ (liv (allF []) 100) rs0 = (0, ⟨rs0, false⟩, liv (allF rs0) 100) := put_liv rs0_ok (by rw [rs0_len]; decide)
  simp only [e2, errI_nil] at H2
  have H2 := Lib.hid H2
  have H3 := fun w1 (hk : Kp W w1) g O (r : R g (liv (allF rs0) 100) O w1) => T.crash w1 hk g _ O r k1 0 (by decide) (by decide)
  simp only [crash_liv] at H3
  have H3 := Lib.hid H3
  have H4 := fun w1 (hk : Kp W w1) g O (r : R g (liv (allF rs0) 100) O w1) => C.open_ok w1 hk g _ O r k1 (by rw [o1.1])
  simp only [o1.1, o1.2] at H4
  have H4 := Lib.hid H4
  have H5 := Lib.hid (fun w1 q g OJ O (h : JL R J W q g 100 rs0 OJ O w1) => C.len w1 h.kW q g _ OJ _ O h.jr h.r h.dis h.ok h.inv)
  have H6 := Lib.hid (fun w1 q g OJ O (h : JL R J W q g 100 rs0 OJ O w1) => C.rows w1 h.kW q g _ OJ _ O h.jr h.r h.dis h.ok h.inv)
  have hcs := fun (w : World) (C : Array Value) (n c : Nat) => Lib.run_convert_bytes_const (P := Tryd.prog) w 46 5 C n c Tryd.underlying46 Tryd.underlying5
  have hc2 := conv_const2
  have K0 := Lib.hid (And.intro k0 j0)
  have K1' := Lib.hid (And.intro k1 j1)
  clear k0 k1 j0 j1 o0 o1 T C e2
  go_enter Tryd.func8, Tryd.ntmps8
  go_wp2_with (first
    | (go_at_call 10; (with_reducible refine H0.out.mono ?_); rintro e w1 ⟨g, O1, rfl, r, hn, hk⟩; have K1 := Lib.hid hk; have R1 := Lib.hid r; clear r hn hk)
    | (go_at_call 11; (with_reducible refine (H1.out _ K1.out _ _ R1.out).mono ?_); rintro e w2 ⟨q, OJ, O2, rfl, r, jr, hn, hd, ha⟩; have J2 := Lib.hid (show JL R J W q g 100 [] OJ O2 w2 from ⟨jr, r, hd, K0.out.1, K0.out.2, ha.kp K1.out (fun b hb => (HT.out.mem R1.out b hb).1)⟩); have J3 := Lib.hid (J2.out.kp HT.out HC.out (wrs0_kp w2)); have S3 := Lib.hid (wrs0_sfe w2 (P := Un OJ O2) (fun b hb => (J2.out.mem HT.out HC.out b hb).2)); clear r hn ha hd jr)
    | (go_at_call 28; (with_reducible refine (H2.out _ _ _ _ _ J3.out _ S3.out).mono ?_); rintro e w3 ⟨rfl, OJ3, O3, jr, r, hd, ha⟩; have J4 := Lib.hid (show JL R J W q g 100 rs0 OJ3 O3 w3 from J3.out.call HT.out HC.out jr r hd K1'.out.1 K1'.out.2 ha); clear jr r hd ha)
    | (go_at_call 30; (with_reducible refine (H3.out _ J4.out.kW _ _ J4.out.r).mono ?_); rintro e w4 ⟨rfl, O4, r, ha⟩; have J5 := Lib.hid (J4.out.tape HT.out HC.out r K1'.out.1 K1'.out.2 ha); clear r ha)
    | (go_at_call 11; (with_reducible refine (H4.out _ J5.out.kW _ _ J5.out.r).mono ?_); rintro e w5 ⟨q5, OJ5, O5, rfl, r, jr, hn, hd, ha⟩; have J6 := Lib.hid (show JL R J W q5 g 100 rs0 OJ5 O5 w5 from ⟨jr, r, hd, K1'.out.1, K1'.out.2, ha.kp J5.out.kW (fun b hb => (HT.out.mem J5.out.r b hb).1)⟩); clear r hn ha hd jr)
    | (go_at_call 18; (with_reducible refine (H5.out _ _ _ _ _ J6.out).mono ?_); rintro e w6 ⟨rfl, hk⟩; have J7 := Lib.hid (J6.out.kp HT.out HC.out hk); clear hk)
    | (go_at_call 17; (with_reducible refine (H6.out _ _ _ _ _ J7.out).mono ?_); rintro e w7 ⟨a7, c7, rfl, hs, -, hk⟩; have J8 := Lib.hid (J7.out.kp HT.out HC.out hk); obtain ⟨b7, f7, rfl, a8, c8, hcell, hs8, -⟩ := hs.at 1 (by decide); have cv := conv_slb hs8; clear hs hk hs8))
  have hl : ((strOfNums (rs0[1]'(by decide))).toList == [98, 99]) = true := by rw [Lib.toList_data]; rfl
  rw [hl]
  go_ret
  exact ⟨rfl, J8.out.kW⟩
end Go.Proofs.YtpehmkglkjlmfaaDoor
