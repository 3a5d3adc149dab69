/-
  PARTS OF THIS PROOF (own work): LsG, SdD, SdE, SdH.
-/
import Derived.Test.YtpemeenfhkgmpaaGreatDoorZs01
import Derived.Test.YtpemeenfhkgmpaaGreatDoorZs23
import Derived.Test.YtpemeenfhkgmpaaGreatDoorZs21
import Derived.Test.YtpemeenfhkgmpaaGreatDoorZs09
import Derived.ArgAppend
import Derived.OwnWalk
import Derived.LoopTactic
import Derived.Lib.Hide
import Derived.BigQuiet
import Derived.Deep.RegionHeld3
import Derived.Test.YtpemeenfhkgmpaaGreatDoorZs08
import Derived.Test.YtpemeenfhkgmpaaGreatDoorZs03
import Derived.Laws.OwnMore
namespace Go.Proofs.YtpemeenfhkgmpaaGreatDoor
open Go.RowKit Go.ChangeShapes Go.WideShapes

variable {w0 w w' W w3 : World} {B q : Nat} {m : StM} {gs : List AcG} {va vp : Value}

variable {ads : List Addr}
set_option maxRecDepth 100000 in
set_option maxHeartbeats 4000000 in
theorem lsSits (E : EP [0, 3, 4, 8, 13] ads w) {g off : Nat} {zp ze zt zh : Int} (c0 : w.cell? ⟨g, off, none⟩ = some (.int .i64 zp)) (c1 : w.cell? ⟨g, off + 1, none⟩ = some (.int .i64 ze)) (c2 : w.cell? ⟨g, off + 2, none⟩ = some (.int .i64 zt)) (fk : Int) (fn fs fr fe fp fq fo fd fa ft fh fc : Int) (fx : Nat) (hz : SeatM.ok ⟨zp, ze, ft, fh⟩) :
    Calls Tryz.prog 113 #[.agg #[.int .i64 fk, .int .i64 fn, .int .i64 fs, .int .i64 fr, .int .i64 fe, .int .i64 fp, .int .i64 fq, .int .i64 fo, .int .i64 fd, .int .i64 fa, .int .i64 ft, .int .i64 fh, .int .i64 fc, .float .f64 fx], .pointer (some ⟨g, off, none⟩)] w fun r w' => ∃ v, r = .returned v ∧ Kp w w' ∧ (turnOk ⟨zp, ze, zt, zh⟩ ft fh = false → v = .nilFunc) ∧ (turnOk ⟨zp, ze, zt, zh⟩ ft fh = true → ∃ b5 b3, v = .func (.func 149) #[] #[.pointer (some ⟨b5, 0, none⟩), .pointer (some ⟨b3, 0, none⟩)] ∧ w'.heap[b5]? = some (.cells #[.int .i64 zp, .int .i64 ze, .int .i64 ft, .int .i64 fh] 67) ∧ w'.heap[b3]? = some (.cells #[.pointer (some ⟨g, off, none⟩)] 189) ∧ w.heap.size ≤ b5 ∧ w.heap.size ≤ b3) := by
  have k1 : Kp w ((w.alloc (.cells #[.int .i64 fk, .int .i64 fn, .int .i64 fs, .int .i64 fr, .int .i64 fe, .int .i64 fp, .int .i64 fq, .int .i64 fo, .int .i64 fd, .int .i64 fa, .int .i64 ft, .int .i64 fh, .int .i64 fc, .float .f64 fx] 39)).alloc (.cells #[.pointer (some ⟨g, off, none⟩)] 189)) := Kp.trans (kp_alloc _ _) (kp_alloc _ _)
  have r1 := new14_0 w (.cells #[.int .i64 fk, .int .i64 fn, .int .i64 fs, .int .i64 fr, .int .i64 fe, .int .i64 fp, .int .i64 fq, .int .i64 fo, .int .i64 fd, .int .i64 fa, .int .i64 ft, .int .i64 fh, .int .i64 fc, .float .f64 fx] 39) (.cells #[.pointer (some ⟨g, off, none⟩)] 189)
  have r2 := new14_1 w (.cells #[.int .i64 fk, .int .i64 fn, .int .i64 fs, .int .i64 fr, .int .i64 fe, .int .i64 fp, .int .i64 fq, .int .i64 fo, .int .i64 fd, .int .i64 fa, .int .i64 ft, .int .i64 fh, .int .i64 fc, .float .f64 fx] 39) (.cells #[.pointer (some ⟨g, off, none⟩)] 189)
  obtain ⟨W, hW⟩ : ∃ W, ((w.alloc (.cells #[.int .i64 fk, .int .i64 fn, .int .i64 fs, .int .i64 fr, .int .i64 fe, .int .i64 fp, .int .i64 fq, .int .i64 fo, .int .i64 fd, .int .i64 fa, .int .i64 ft, .int .i64 fh, .int .i64 fc, .float .f64 fx] 39)).alloc (.cells #[.pointer (some ⟨g, off, none⟩)] 189)) = W := ⟨_, rfl⟩
  have hsz : w.heap.size ≤ W.heap.size := by rw [← hW]; simp; omega
  rw [hW] at k1 r1 r2
  have f10 : W.cell? ⟨w.heap.size, 10, none⟩ = some (.int .i64 ft) := cellU (i := 10) r1 rfl
  have f11 : W.cell? ⟨w.heap.size, 11, none⟩ = some (.int .i64 fh) := cellU (i := 11) r1 rfl
  have b3 : W.cell? ⟨w.heap.size + 1, 0, none⟩ = some (.pointer (some ⟨g, off, none⟩)) := cellU (i := 0) r2 rfl
  have x0 := kp_cell k1 c0
  have x1 := kp_cell k1 c1
  have x2 := kp_cell k1 c2
  have hri := fun w1 (hk : Kp w w1) => msRight_any (ads := ads) ⟨zp, ze, ft, fh⟩ hz w1 (tabC_of ads w1 ((E.kp hk).sub (by decide)))
  dsimp only [seatV] at hri
  obtain ⟨rt, hrt⟩ : ∃ b, SeatM.right ⟨zp, ze, ft, fh⟩ = b := ⟨_, rfl⟩
  rw [hrt] at hri
  have htk : turnOk ⟨zp, ze, zt, zh⟩ ft fh = (decide (zt ≠ 14) && rt) := by unfold turnOk; rw [hrt]
  rw [htk]
  have HRI := Lib.hid hri
  have K1 := Lib.hid k1
  have R2 := Lib.hid r2
  have HSZ := Lib.hid hsz
  clear E c0 c1 c2 hz hri k1 r1 r2 hsz htk hrt
  go_enter Tryz.func113, Tryz.ntmps113
  go_wp2_with fail
  obtain ⟨WD, hWD⟩ : ∃ x, W.drew = x := ⟨_, rfl⟩
  have kD : Kp W WD := by rw [← hWD]; exact drewQ (Kp.refl W)
  have HWD := Lib.hid hWD
  clear hWD
  refine wp_region_held_drew (S := fun w' => Kp W w') (by kernel_rfl) ?_ (fun hHeld => ?_)
  · exact by rw [HWD.out]; exact kD
  rw [HWD.out] at hHeld ⊢
  have hDD : Kp W WD := hHeld
  refine tkW ?_ 0 ?_ ?_; rotate_left
  · intro w hSw; have a0 := kp_cell hSw x0; have a1 := kp_cell hSw x1; have a2 := kp_cell hSw b3; have a3 := kp_cell hSw f10; have a4 := kp_cell hSw f11; go_simp; try rfl
  go_simp
  refine tkW ?_ 1 ?_ ?_; rotate_left
  · intro w hSw; go_simp; try rfl
  go_simp
  refine tkW ?_ 2 ?_ ?_; rotate_left
  · intro w hSw; go_simp; try rfl
  go_simp
  refine tkW ?_ 3 ?_ ?_; rotate_left
  · intro w hSw; have a0 := kp_cell hSw x0; have a1 := kp_cell hSw x1; have a2 := kp_cell hSw b3; have a3 := kp_cell hSw f10; have a4 := kp_cell hSw f11; go_simp; try rfl
  go_simp
  refine tkW ?_ 4 ?_ ?_; rotate_left
  · intro w hSw; have a0 := kp_cell hSw x0; have a1 := kp_cell hSw x1; have a2 := kp_cell hSw b3; have a3 := kp_cell hSw f10; have a4 := kp_cell hSw f11; go_simp; try rfl
  go_simp
  refine tkW ?_ 5 ?_ ?_; rotate_left
  · intro w hSw; go_simp; try rfl
  go_simp
  refine tkW ?_ 6 ?_ ?_; rotate_left
  · intro w hSw; go_simp; try rfl
  go_simp
  refine tkW ?_ 7 ?_ ?_; rotate_left
  · intro w hSw; have a0 := kp_cell hSw x0; have a1 := kp_cell hSw x1; have a2 := kp_cell hSw b3; have a3 := kp_cell hSw f10; have a4 := kp_cell hSw f11; go_simp; try rfl
  go_simp
  refine tkW ?_ 8 ?_ ?_; rotate_left
  · intro w hSw; go_simp; try rfl
  go_simp
  refine tkW ?_ 9 ?_ ?_; rotate_left
  · intro w hSw; have a0 := kp_cell hSw x0; have a1 := kp_cell hSw x1; have a2 := kp_cell hSw b3; have a3 := kp_cell hSw f10; have a4 := kp_cell hSw f11; go_simp; try rfl
  go_simp
  refine tkW ?_ 10 ?_ ?_; rotate_left
  · intro w hSw; go_simp; try rfl
  go_simp
  refine tkW ?_ 11 ?_ ?_; rotate_left
  · intro w hSw; have a0 := kp_cell hSw x0; have a1 := kp_cell hSw x1; have a2 := kp_cell hSw b3; have a3 := kp_cell hSw f10; have a4 := kp_cell hSw f11; go_simp; try rfl
  go_simp
  refine tkW ?_ 12 ?_ ?_; rotate_left
  · intro w hSw; go_simp; try rfl
  go_simp
  refine wpAnyH_ready (rs := [13]) (by kernel_rfl) (by simp) ?_
  refine AllReadyH.cons rfl (fun K hK => ?_) AllReadyH.nil
  go_simp
  refine hK.out _ _ ?_ (fun hHeld => ?_)
  · exact Kp.trans hHeld (kp_alloc _ _)
  clear hK K
  obtain ⟨Y13, hY13⟩ : ∃ x, WD.alloc (.cells #[.int .i64 0, .int .i64 0, .int .i64 0, .int .i64 0] 67) = x := ⟨_, rfl⟩
  have r13 : Y13.heap[WD.heap.size]? = some (.cells #[.int .i64 0, .int .i64 0, .int .i64 0, .int .i64 0] 67) := by rw [← hY13]; exact (MapKept.heap_alloc WD (.cells #[.int .i64 0, .int .i64 0, .int .i64 0, .int .i64 0] 67)).1
  have b13 : W.heap.size ≤ WD.heap.size := kp_size hDD
  obtain ⟨p13, hp13⟩ : ∃ x, WD.heap.size = x := ⟨_, rfl⟩
  rw [hp13] at r13 b13
  rw [hY13] at hHeld ⊢
  try rw [hp13]
  clear hY13 hp13
  refine wpAnyH_ready (rs := [14]) (by kernel_rfl) (by simp) ?_
  refine AllReadyH.cons rfl (fun K hK => ?_) AllReadyH.nil
  obtain ⟨v0, v1, v2, v3⟩ := cells_4 r13
  have fz5 := frozQ r13
  go_simp
  refine hK.out _ _ ?_ (fun hHeld => ?_)
  · exact set_4_kp hHeld b13 _ _ _ _
  clear hK K
  obtain ⟨w6, hw6⟩ : ∃ x, (((Y13.setCell ⟨p13, 0, none⟩ (.int .i64 zp)).setCell ⟨p13, 1, none⟩ (.int .i64 ze)).setCell ⟨p13, 2, none⟩ (.int .i64 ft)).setCell ⟨p13, 3, none⟩ (.int .i64 fh) = x := ⟨_, rfl⟩
  have r10 : w6.heap[p13]? = some (.cells #[.int .i64 zp, .int .i64 ze, .int .i64 ft, .int .i64 fh] 67) := by rw [← hw6]; exact set_4 _ _ _ _ r13
  rw [hw6] at hHeld ⊢
  have kw6 : Kp W w6 := hHeld
  clear hw6 v0 v1 v2 v3 fz5
  refine wpAnyH_done (by kernel_rfl) ?_ _
  have x2 := kp_cell kw6 x2
  have b3 := kp_cell kw6 b3
  obtain ⟨s0, s1, s2, s3⟩ := cells_4 r10
  have KW6 := Lib.hid kw6
  have R10 := Lib.hid r10
  have B13 := Lib.hid b13
  clear kw6 hHeld hDD r13 r10
  by_cases h14 : zt = 14
  · subst h14
    go_wp2
    go_ret
    exact ⟨_, rfl, Kp.trans K1.out KW6.out, fun _ => rfl, fun e => by (simp at e)⟩
  · have g1 : (zt == 14) = false := by simpa using h14
    have g2 : decide (zt ≠ 14) = true := decide_eq_true h14
    have G2 := Lib.hid g2
    clear g2 h14
    cases rt with
    | false =>
      go_wp2_with (go_at_call 148; (with_reducible refine (HRI.out _ (Kp.trans K1.out KW6.out)).mono ?_); rintro e' w7 ⟨rfl, hk⟩; have K7 := Lib.hid (Kp.trans K1.out (Kp.trans KW6.out hk)); clear hk)
      go_ret
      exact ⟨_, rfl, K7.out, fun _ => rfl, fun e => by (simp at e)⟩
    | true =>
      go_wp2_with (go_at_call 148; (with_reducible refine (HRI.out _ (Kp.trans K1.out KW6.out)).mono ?_); rintro e' w7 ⟨rfl, hk⟩; have K7 := Lib.hid (Kp.trans K1.out (Kp.trans KW6.out hk)); have R7 := Lib.hid (kp_row hk R10.out); have Q7 := Lib.hid (kp_row (Kp.trans KW6.out hk) R2.out); clear hk)
      go_ret
      exact ⟨_, rfl, K7.out, fun e => by (rw [G2.out] at e; cases e), fun _ => ⟨p13, w.heap.size + 1, rfl, R7.out, Q7.out, Nat.le_trans HSZ.out B13.out, Nat.le_succ _⟩⟩
set_option maxRecDepth 100000 in
theorem lsSit1 {b5 b3 g off : Nat} {zp ze ft fh : Int} {u0 u1 u2 u3 : Value} (r5 : w.heap[b5]? = some (.cells #[.int .i64 zp, .int .i64 ze, .int .i64 ft, .int .i64 fh] 67)) (r3 : w.heap[b3]? = some (.cells #[.pointer (some ⟨g, off, none⟩)] 189))
    (c0 : w.cell? ⟨g, off, none⟩ = some u0) (c1 : w.cell? ⟨g, off + 1, none⟩ = some u1) (c2 : w.cell? ⟨g, off + 2, none⟩ = some u2) (c3 : w.cell? ⟨g, off + 3, none⟩ = some u3) (hz : ∀ i, w.frozen? ⟨g, i, none⟩ = false) :
    Calls Tryz.prog 149 #[.pointer (some ⟨b5, 0, none⟩), .pointer (some ⟨b3, 0, none⟩)] w fun r w' => r = .returned (.tuple #[]) ∧ w' = set4Q w g off ⟨zp, ze, ft, fh⟩ := by
  obtain ⟨y0, y1, y2, y3⟩ := cells_4 r5
  have p0 : w.cell? ⟨b3, 0, none⟩ = some (.pointer (some ⟨g, off, none⟩)) := cellU (i := 0) r3 rfl
  have z0 := hz off
  have z1 := hz (off + 1)
  have z2 := hz (off + 2)
  have z3 := hz (off + 3)
  clear r5 r3
  go_enter Tryz.func149, Tryz.ntmps149
  go_wp2
  go_end0
  exact ⟨rfl, rfl⟩
open Go.RowKit Go.ChangeShapes Go.WideShapes

theorem erase_at {α : Type} {l : List α} {i k : Nat} {x : α} (h : (l.eraseIdx i)[k]? = some x) : l[if k < i then k else k + 1]? = some x := by
  rw [List.getElem?_eraseIdx] at h
  split at h
  · rename_i e; rw [if_pos e]; exact h
  · rename_i e; rw [if_neg e]; exact h
theorem dis_erase {gs : List AcG} {i : Nat} (hd : ∀ (i j : Nat) (g h : AcG), gs[i]? = some g → gs[j]? = some h → i ≠ j → ∀ b, g.v.ownBlock = some b → h.v.ownBlock ≠ some b) :
    ∀ (k j : Nat) (g h : AcG), (gs.eraseIdx i)[k]? = some g → (gs.eraseIdx i)[j]? = some h → k ≠ j → ∀ b, g.v.ownBlock = some b → h.v.ownBlock ≠ some b := by
  intro k j g h hk hj hne
  exact hd _ _ g h (erase_at hk) (erase_at hj) (by split <;> split <;> omega)
theorem take_drop {α : Type} (l : List α) (i : Nat) : l.take i ++ l.drop (i + 1) = l.eraseIdx i := (List.eraseIdx_eq_take_drop_succ l i).symm
variable {w0 w w' W w3 : World} {B q : Nat} {m : StM} {gs : List AcG} {va vp : Value}

open Go.RowKit Go.ChangeShapes Go.WideShapes

/-- WHAT Apply ANSWERS: the error's number, the store -/
def applyQ (m : StM) (f : FX) : Int × StM :=
  if rightF f = false then (4, m) else match doS m f with
    | none => (9, m)
    | some m2 => (0, m2)
theorem applyQ_some {m m2 : StM} {f : FX} (hr : rightF f = true) (h : doS m f = some m2) : applyQ m f = (0, m2) := by unfold applyQ; rw [if_neg (by rw [hr]; decide), h]
theorem applyQ_none {m : StM} {f : FX} (hr : rightF f = true) (h : doS m f = none) : applyQ m f = (9, m) := by unfold applyQ; rw [if_neg (by rw [hr]; decide), h]
theorem applyQ_bad {m : StM} {f : FX} (hr : rightF f = false) : applyQ m f = (4, m) := by unfold applyQ; rw [if_pos hr]
theorem applyQ_ok {m : StM} {f : FX} (h : OkS m) : OkS (applyQ m f).2 := by
  cases hr : rightF f with
  | false => rw [applyQ_bad hr]; exact h
  | true =>
    cases hd : doS m f with
    | none => rw [applyQ_none hr hd]; exact h
    | some m2 => rw [applyQ_some hr hd]; exact keepS h hr hd
theorem doS_act0 {m : StM} {f : FX} (hk : f.k = 2 ∨ f.k = 3 ∨ f.k = 4 ∨ f.k = 5) (h : findS m.acts f.n f.s = none) : doS m f = none := by
  unfold doS
  rw [if_neg (by omega), if_neg (by omega), if_neg (by omega), if_neg (by omega), h]
theorem doS_act1 {m : StM} {f : FX} {i : Nat} {a : AcM} (hk : f.k = 2 ∨ f.k = 3 ∨ f.k = 4 ∨ f.k = 5) (h : findS m.acts f.n f.s = some i) (ha : m.acts[i]? = some a) : doS m f = actS m i a f := by
  unfold doS
  rw [if_neg (by omega), if_neg (by omega), if_neg (by omega), if_neg (by omega), h]
  dsimp only
  rw [ha]
theorem right_wf {f : FX} (h : rightF f = true) : f.wf := by
  have h2 := h
  unfold rightF at h2
  simp only [Bool.and_eq_true, decide_eq_true_eq] at h2
  unfold FX.wf
  rcases h2.2.2 with q | q
  · have := (inv_open h q).1
    unfold rightX at this
    simp only [Bool.and_eq_true] at this
    have := tmX_le this.2.2.2
    have e : (ctxF f).x = f.x := rfl
    omega
  · omega
variable {w0 w w' W w3 : World} {B q : Nat} {m : StM} {gs : List AcG} {va vp : Value}

open Go.RowKit Go.ChangeShapes Go.WideShapes

theorem dis_app {gs : List AcG} {g' : AcG} (hd : ∀ (i j : Nat) (g h : AcG), gs[i]? = some g → gs[j]? = some h → i ≠ j → ∀ b, g.v.ownBlock = some b → h.v.ownBlock ≠ some b) (hn : g'.v.ownBlock = none) :
    ∀ (k j : Nat) (g h : AcG), (gs ++ [g'])[k]? = some g → (gs ++ [g'])[j]? = some h → k ≠ j → ∀ b, g.v.ownBlock = some b → h.v.ownBlock ≠ some b := by
  have at' : ∀ (k : Nat) (x : AcG), (gs ++ [g'])[k]? = some x → gs[k]? = some x ∨ x = g' := by
    intro k x h
    rw [List.getElem?_append] at h
    split at h
    · exact .inl h
    · right
      have := List.mem_of_getElem? h
      simpa using this
  intro k j g h hk hj hne b e1 e2
  rcases at' k g hk with hk2 | rfl
  · rcases at' j h hj with hj2 | rfl
    · exact hd k j g h hk2 hj2 hne b e1 e2
    · rw [hn] at e2; cases e2
  · rw [hn] at e1; cases e1
theorem mem_app {gs : List AcG} {g' : AcG} (hn : g'.a.regs = [] ∧ g'.o = none ∧ g'.c = 0) : ∀ g ∈ gs ++ [g'], g ∈ gs ∨ (g.a.regs = [] ∧ g.o = none ∧ g.c = 0) := by
  intro g hg
  rcases List.mem_append.1 hg with h | h
  · exact .inl h
  · obtain rfl := List.mem_singleton.1 h
    exact .inr hn
variable {w0 w w' W w3 : World} {B q : Nat} {m : StM} {gs : List AcG} {va vp : Value}

end Go.Proofs.YtpemeenfhkgmpaaGreatDoor
