/-
  THE LANDED CLOCK (own work): the order in which due timers come; the closure that tells it.
-/
import Derived.Test.YtanbeaebdingeaaDoorTmC
import Derived.Shelf.SlSortCmp.NoneTotal
import Derived.Deep.RegionHeld3
namespace Go.Proofs.YtanbeaebdingeaaDoor
open Go.RowKit Go.ChangeShapes Go.WideShapes Go.Sort
variable {w0 w w' W w3 : World} {q mb : Nat} {c : CkM}

/-- keys, by their bytes -/
def cmpK (x y : List UInt8) : Int := if x < y then -1 else if y < x then 1 else 0
theorem bytesLess_is : ∀ (x y : List UInt8), Op.bytesLess x y = decide (x < y)
  | [], [] => by simp [Op.bytesLess]
  | _ :: _, [] => by simp [Op.bytesLess]
  | [], _ :: _ => by simp [Op.bytesLess]
  | a :: x, b :: y => by
    rw [Op.bytesLess, bytesLess_is x y]
    simp only [List.cons_lt_cons_iff]
    by_cases h1 : a < b <;> by_cases h2 : a = b <;> by_cases h3 : x < y <;> simp [h1, h2, h3]
theorem bytesLess_str {x y : List UInt8} {s t : ByteArray} (hs : (⟨x.toArray⟩ : ByteArray) = s) (ht : (⟨y.toArray⟩ : ByteArray) = t) : Op.bytesLess s.toList t.toList = decide (x < y) := by
  rw [← hs, ← ht, bytesLess_is, Lib.toList_data, Lib.toList_data]
theorem isNaNS_any (s : ByteArray) (w : World) : Calls Tryd.prog 52 #[.string s] w fun r w' => r = .returned (.bool false) ∧ w = w' := by
  go_enter Tryd.func52, Tryd.ntmps52
  go_wp2
  go_ret
  exact ⟨by simp, rfl⟩
theorem lt_asymmK {x y : List UInt8} (h : x < y) : ¬ y < x := fun g => List.lt_irrefl x (List.lt_trans h g)
set_option maxRecDepth 100000 in
theorem cmpS_any (x y : List UInt8) (w : World) : Calls Tryd.prog 37 #[encStr x, encStr y] w fun r w' => r = .returned (.int .i64 (cmpK x y)) ∧ w = w' := by
  unfold cmpK
  obtain ⟨s, hs⟩ : ∃ s, (⟨x.toArray⟩ : ByteArray) = s := ⟨_, rfl⟩
  obtain ⟨t, ht⟩ : ∃ s, (⟨y.toArray⟩ : ByteArray) = s := ⟨_, rfl⟩
  have e1 := bytesLess_str hs ht
  have e2 := bytesLess_str ht hs
  unfold encStr
  rw [hs, ht]
  by_cases h1 : x < y
  · have h2 := lt_asymmK h1
    rw [if_pos h1]
    rw [decide_eq_true h1] at e1
    rw [decide_eq_false h2] at e2
    clear hs ht h1 h2
    go_enter Tryd.func37, Tryd.ntmps37
    go_wp2_with (go_at_call 52; (with_reducible refine (isNaNS_any _ _).mono ?_); rintro e' w3 ⟨rfl, rfl⟩)
    go_ret
    exact ⟨rfl, rfl⟩
  · rw [if_neg h1]
    rw [decide_eq_false h1] at e1
    by_cases h2 : y < x
    · rw [if_pos h2]
      rw [decide_eq_true h2] at e2
      have e3 : (s.toList == t.toList) = false := by
        rw [beq_eq_false_iff_ne, ← hs, ← ht, Lib.toList_data, Lib.toList_data]
        intro e
        rw [show x = y from e] at h2
        exact List.lt_irrefl y h2
      clear hs ht h1 h2
      go_enter Tryd.func37, Tryd.ntmps37
      go_wp2_with (go_at_call 52; (with_reducible refine (isNaNS_any _ _).mono ?_); rintro e' w3 ⟨rfl, rfl⟩)
      go_ret
      exact ⟨rfl, rfl⟩
    · rw [if_neg h2]
      rw [decide_eq_false h2] at e2
      obtain rfl : x = y := List.le_antisymm (List.not_lt.1 h2) (List.not_lt.1 h1)
      obtain rfl : s = t := hs.symm.trans ht
      have e3 : (s.toList == s.toList) = true := beq_self_eq_true _
      clear hs ht h1 h2
      go_enter Tryd.func37, Tryd.ntmps37
      go_wp2_with (go_at_call 52; (with_reducible refine (isNaNS_any _ _).mono ?_); rintro e' w3 ⟨rfl, rfl⟩)
      go_ret
      exact ⟨rfl, rfl⟩
set_option maxRecDepth 100000 in
theorem or_fst (b : Nat) (x : Int) (w : World) (c0 : w.cell? ⟨b, 0, none⟩ = some (.int .i64 x)) (hx : x ≠ 0) : Calls Tryd.prog 35 #[.slice (some ⟨b, 0, none⟩) 2 2] w fun r w' => r = .returned (.int .i64 x) ∧ w = w' := by
  have b0 : (x == 0) = false := by rw [beq_eq_false_iff_ne]; exact hx
  go_enter Tryd.func35, Tryd.ntmps35
  go_wp2
  refine wp_loop_rounds 1 ?_
  rw [rounds_succ]
  go_wp2
  go_ret
  exact ⟨rfl, rfl⟩
set_option maxRecDepth 100000 in
theorem or_snd (b : Nat) (y : Int) (w : World) (c0 : w.cell? ⟨b, 0, none⟩ = some (.int .i64 0)) (c1 : w.cell? ⟨b, 1, none⟩ = some (.int .i64 y)) : Calls Tryd.prog 35 #[.slice (some ⟨b, 0, none⟩) 2 2] w fun r w' => r = .returned (.int .i64 y) ∧ w = w' := by
  by_cases hy : y = 0
  · subst hy
    go_enter Tryd.func35, Tryd.ntmps35
    go_wp2
    refine wp_loop_rounds 3 ?_
    rw [rounds_succ]
    go_wp2
    rw [rounds_succ]
    go_wp2
    rw [rounds_succ]
    go_wp2
    go_ret
    exact ⟨rfl, rfl⟩
  · have b0 : (y == 0) = false := by rw [beq_eq_false_iff_ne]; exact hy
    go_enter Tryd.func35, Tryd.ntmps35
    go_wp2
    refine wp_loop_rounds 2 ?_
    rw [rounds_succ]
    go_wp2
    rw [rounds_succ]
    go_wp2
    go_ret
    exact ⟨rfl, rfl⟩
theorem or_any (b : Nat) (x y : Int) (w : World) (c0 : w.cell? ⟨b, 0, none⟩ = some (.int .i64 x)) (c1 : w.cell? ⟨b, 1, none⟩ = some (.int .i64 y)) : Calls Tryd.prog 35 #[.slice (some ⟨b, 0, none⟩) 2 2] w fun r w' => r = .returned (.int .i64 (if x = 0 then y else x)) ∧ w = w' := by
  by_cases hx : x = 0
  · subst hx
    exact or_snd b y w c0 c1
  · rw [if_neg hx]
    exact or_fst b x w c0 hx
theorem ft0 (a : Nat) (n : Int) (b m : Nat) (w : World) : (Instr.field 71 (.agg #[.float .f64 a, .int .i64 n, .float .f64 b, .float .f64 m]) 0).run Tryd.prog w = .ok (.float .f64 a) w := by kernel_rfl
/-- the order by which due timers come -/
def cfK (c : CkM) (x y : List UInt8) : Int := if Fl.ord (c.atK x) (c.atK y) = 0 then cmpK x y else Fl.ord (c.atK x) (c.atK y)
set_option maxRecDepth 100000 in
set_option maxHeartbeats 2000000 in
theorem lkCmp (ok : CkOk c) {x y : List UInt8} (hx : x.length ≤ maxLen) (hy : y.length ≤ maxLen) {bx : Nat} (H : Lk w0 q mb c w) (hb : w.cell? ⟨bx, 0, none⟩ = some (.pointer (some ⟨q, 0, none⟩))) : Calls Tryd.prog 34 #[encStr x, encStr y, .pointer (some ⟨bx, 0, none⟩)] w fun r w' => r = .returned (.int .i64 (cfK c x y)) ∧ ∃ n os, w' = grow (w.drewN n) os := by
  have l1 := fun w1 (hk : Kp w w1) => (H.kp hk).look1 hx
  have l2 := fun w1 (hk : Kp w w1) => (H.kp hk).look1 hy
  have e0 := hb
  have e1 : w.cell? ⟨q, 1, none⟩ = some (.map (some mb)) := cell_row (i := 1) H.row rfl
  have HO := Lib.hid (fun w1 : World => order_any (c.atK x) (c.atK y) w1 (by have := atK_le ok x; omega) (by have := atK_le ok y; omega))
  have HC := Lib.hid (fun w1 : World => cmpS_any x y w1)
  unfold cfK
  unfold CkM.atK at HO ⊢
  obtain ⟨⟨k1, a1, n1, b1, m1⟩, h1⟩ : ∃ t, c.getT x = t := ⟨_, rfl⟩
  obtain ⟨⟨k2, a2, n2, b2, m2⟩, h2⟩ : ∃ t, c.getT y = t := ⟨_, rfl⟩
  rw [h1] at l1 HO ⊢
  rw [h2] at l2 HO ⊢
  unfold encStr at l1 l2 HC ⊢
  obtain ⟨s, hs⟩ : ∃ s, (⟨x.toArray⟩ : ByteArray) = s := ⟨_, rfl⟩
  obtain ⟨t, ht⟩ : ∃ s, (⟨y.toArray⟩ : ByteArray) = s := ⟨_, rfl⟩
  rw [hs] at l1 HC ⊢
  rw [ht] at l2 HC ⊢
  dsimp only at HO ⊢
  obtain ⟨od, hod⟩ : ∃ z, Fl.ord a1 a2 = z := ⟨_, rfl⟩
  obtain ⟨cs, hcs⟩ : ∃ z, cmpK x y = z := ⟨_, rfl⟩
  rw [hod] at HO ⊢
  rw [hcs] at HC ⊢
  unfold Tm.v at l1 l2
  dsimp only at l1 l2
  have L1 := Lib.hid l1
  have L2 := Lib.hid l2
  have HR := Lib.hid (fun (w1 : World) (h : w1.heap[w.heap.size]? = some (.cells #[.int .i64 od, .int .i64 cs] 3)) => or_any w.heap.size od cs w1 (cell_row (i := 0) h rfl) (cell_row (i := 1) h rfl))
  have R3 := Lib.hid (HR.out (w.alloc (.cells #[.int .i64 od, .int .i64 cs] 3)).drew (MapKept.heap_alloc w (.cells #[.int .i64 od, .int .i64 cs] 3)).1)
  obtain ⟨rs, hrs⟩ : ∃ z, (if od = 0 then cs else od) = z := ⟨_, rfl⟩
  rw [hrs] at R3 ⊢
  clear l1 l2 ok hx hy H hb h1 h2 hs ht hod hcs hrs HR
  go_enter Tryd.func34, Tryd.ntmps34
  go_wp2_with fail
  refine wp_region_held_drew (S := fun w' => Kp w w') (by kernel_rfl) ?_ (fun hHeld => ?_)
  · exact kp_drewR (Kp.refl _)
  refine wpAnyH_take (i := 0) (v := ?_) rfl (by kernel_rfl) (by kernel_rfl) (by kernel_rfl) (fun _ _ _ h => h) (Or.inl ⟨by rfl, ?_⟩) (by assumption) ?_
  rotate_left
  · intro w hSw; have q0 := kp_cell hSw e0; go_simp; try with_reducible rfl
  go_simp
  refine wpAnyH_take (i := 1) (v := ?_) rfl (by kernel_rfl) (by kernel_rfl) (by kernel_rfl) (fun _ _ _ h => h) (Or.inl ⟨by rfl, ?_⟩) (by assumption) ?_
  rotate_left
  · intro w hSw; go_simp; try with_reducible rfl
  go_simp
  refine wpAnyH_take (i := 2) (v := ?_) rfl (by kernel_rfl) (by kernel_rfl) (by kernel_rfl) (fun _ _ _ h => h) (Or.inl ⟨by rfl, ?_⟩) (by assumption) ?_
  rotate_left
  · intro w hSw; go_simp; try with_reducible rfl
  go_simp
  refine wpAnyH_take (i := 3) (v := ?_) rfl (by kernel_rfl) (by kernel_rfl) (by kernel_rfl) (fun _ _ _ h => h) (Or.inl ⟨by rfl, ?_⟩) (by assumption) ?_
  rotate_left
  · intro w hSw; have q1 := kp_cell hSw e1; go_simp; try with_reducible rfl
  go_simp
  refine wpAnyH_take (i := 4) (v := ?_) rfl (by kernel_rfl) (by kernel_rfl) (by kernel_rfl) (fun _ _ _ h => h) (Or.inl ⟨by rfl, ?_⟩) (by assumption) ?_
  rotate_left
  · intro w hSw; go_simp; try with_reducible rfl
  go_simp
  refine wpAnyH_take (i := 5) (v := ?_) rfl (by kernel_rfl) (by kernel_rfl) (by kernel_rfl) (fun _ _ _ h => h) (Or.inl ⟨by rfl, ?_⟩) (by assumption) ?_
  rotate_left
  · intro w hSw; have q2 := L1.out _ hSw; go_simp; try with_reducible rfl
  go_simp
  refine wpAnyH_take (i := 6) (v := ?_) rfl (by kernel_rfl) (by kernel_rfl) (by kernel_rfl) (fun _ _ _ h => h) (Or.inl ⟨by rfl, ?_⟩) (by assumption) ?_
  rotate_left
  · intro w hSw; have q3 := ft0 a1 n1 b1 m1 w; go_simp; try with_reducible rfl
  go_simp
  refine wpAnyH_take (i := 7) (v := ?_) rfl (by kernel_rfl) (by kernel_rfl) (by kernel_rfl) (fun _ _ _ h => h) (Or.inl ⟨by rfl, ?_⟩) (by assumption) ?_
  rotate_left
  · intro w hSw; have q0 := kp_cell hSw e0; go_simp; try with_reducible rfl
  go_simp
  refine wpAnyH_take (i := 8) (v := ?_) rfl (by kernel_rfl) (by kernel_rfl) (by kernel_rfl) (fun _ _ _ h => h) (Or.inl ⟨by rfl, ?_⟩) (by assumption) ?_
  rotate_left
  · intro w hSw; go_simp; try with_reducible rfl
  go_simp
  refine wpAnyH_take (i := 9) (v := ?_) rfl (by kernel_rfl) (by kernel_rfl) (by kernel_rfl) (fun _ _ _ h => h) (Or.inl ⟨by rfl, ?_⟩) (by assumption) ?_
  rotate_left
  · intro w hSw; go_simp; try with_reducible rfl
  go_simp
  refine wpAnyH_take (i := 10) (v := ?_) rfl (by kernel_rfl) (by kernel_rfl) (by kernel_rfl) (fun _ _ _ h => h) (Or.inl ⟨by rfl, ?_⟩) (by assumption) ?_
  rotate_left
  · intro w hSw; have q1 := kp_cell hSw e1; go_simp; try with_reducible rfl
  go_simp
  refine wpAnyH_take (i := 11) (v := ?_) rfl (by kernel_rfl) (by kernel_rfl) (by kernel_rfl) (fun _ _ _ h => h) (Or.inl ⟨by rfl, ?_⟩) (by assumption) ?_
  rotate_left
  · intro w hSw; go_simp; try with_reducible rfl
  go_simp
  refine wpAnyH_take (i := 12) (v := ?_) rfl (by kernel_rfl) (by kernel_rfl) (by kernel_rfl) (fun _ _ _ h => h) (Or.inl ⟨by rfl, ?_⟩) (by assumption) ?_
  rotate_left
  · intro w hSw; have q2 := L2.out _ hSw; go_simp; try with_reducible rfl
  go_simp
  refine wpAnyH_take (i := 13) (v := ?_) rfl (by kernel_rfl) (by kernel_rfl) (by kernel_rfl) (fun _ _ _ h => h) (Or.inl ⟨by rfl, ?_⟩) (by assumption) ?_
  rotate_left
  · intro w hSw; have q3 := ft0 a2 n2 b2 m2 w; go_simp; try with_reducible rfl
  go_simp
  refine wpAnyH_take (i := 15) (v := ?_) rfl (by kernel_rfl) (by kernel_rfl) (by kernel_rfl) (fun _ _ _ h => h) (Or.inl ⟨by rfl, ?_⟩) (by assumption) ?_
  rotate_left
  · intro w hSw; go_simp; try with_reducible rfl
  go_simp
  refine wpAnyH_take (i := 16) (v := ?_) rfl (by kernel_rfl) (by kernel_rfl) (by kernel_rfl) (fun _ _ _ h => h) (Or.inl ⟨by rfl, ?_⟩) (by assumption) ?_
  rotate_left
  · intro w hSw; go_simp; try with_reducible rfl
  go_simp
  refine wpAnyH_ready (rs := [14]) (by kernel_rfl) (by simp) ?_
  refine AllReadyH.cons rfl (fun K hK => ?_) AllReadyH.nil
  go_simp
  go_wp2_with (go_at_call 36; (with_reducible refine (HO.out _).mono ?_); rintro e' w3 ⟨rfl, rfl⟩)
  refine hK.out _ _ hHeld (fun hHeld => ?_)
  clear hK K
  refine wpAnyH_ready (rs := [17]) (by kernel_rfl) (by simp) ?_
  refine AllReadyH.cons rfl (fun K hK => ?_) AllReadyH.nil
  go_simp
  go_wp2_with (go_at_call 37; (with_reducible refine (HC.out _).mono ?_); rintro e' w3 ⟨rfl, rfl⟩)
  refine hK.out _ _ hHeld (fun hHeld => ?_)
  clear hK K
  refine wpAnyH_ready (rs := [18]) (by kernel_rfl) (by simp) ?_
  refine AllReadyH.cons rfl (fun K hK => ?_) AllReadyH.nil
  go_simp
  refine hK.out _ _ (kp_drewR (kp_alloc _ _)) (fun hHeld => ?_)
  clear hK K
  refine wpAnyH_ready (rs := [19]) (by kernel_rfl) (by simp) ?_
  refine AllReadyH.cons rfl (fun K hK => ?_) AllReadyH.nil
  go_simp
  go_wp2_with (go_at_call 35; (with_reducible refine R3.out.mono ?_); rintro e' w3 ⟨rfl, rfl⟩)
  refine hK.out _ _ hHeld (fun hHeld => ?_)
  clear hK K
  refine wpAnyH_ready (rs := [20]) (by kernel_rfl) (by simp) ?_
  refine AllReadyH.cons rfl (fun K hK => ?_) AllReadyH.nil
  go_simp
  refine hK.out _ _ hHeld (fun hHeld => ?_)
  clear hK K
  refine wpAnyH_done (by kernel_rfl) ?_ _
  go_wp2
  go_ret
  exact ⟨rfl, 1, _, by rw [alloc_eq_grow]; rfl⟩
end Go.Proofs.YtanbeaebdingeaaDoor
