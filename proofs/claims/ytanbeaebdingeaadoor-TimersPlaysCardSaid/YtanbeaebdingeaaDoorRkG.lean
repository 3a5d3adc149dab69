/-
  THE DOCUMENT's CLOCK (own work): Due.
-/
import Derived.Test.YtanbeaebdingeaaDoorRkB
import Derived.Test.YtanbeaebdingeaaDoorRkE
import Derived.Test.YtanbeaebdingeaaDoorRkF
import Derived.Test.YtanbeaebdingeaaDoorTmD
namespace Go.Proofs.YtanbeaebdingeaaDoor
open Go.RowKit Go.ChangeShapes Go.WideShapes
variable {w0 w w' W w3 : World} {q : Nat} {c : CkM} {v v' : Value}

theorem setC_block {g j x : Nat} {y : Value} (h : x ≠ g) : (w.setCell ⟨g, j, none⟩ y).heap[x]? = w.heap[x]? := Below.heap_setCell w ⟨g, j, none⟩ y x h
theorem set5_block {g i : Nat} {s : ByteArray} {a : Nat} {n : Int} {b m x : Nat} (h : x ≠ g) : (set5 w g i s a n b m).heap[x]? = w.heap[x]? := by
  unfold set5
  rw [setC_block h, setC_block h, setC_block h, setC_block h, setC_block h]
theorem setC_kp {g j : Nat} {y : Value} (hk : Kp w W) (hg : w.heap.size ≤ g) : Kp w (W.setCell ⟨g, j, none⟩ y) :=
  ⟨hk.os, hk.tape, hk.output, by simpa using Below.size hk, fun x hx => (setC_block (by omega)).trans (Below.block hk x hx)⟩
theorem set5_kp {g i : Nat} {s : ByteArray} {a : Nat} {n : Int} {b m : Nat} (hk : Kp w W) (hg : w.heap.size ≤ g) : Kp w (set5 W g i s a n b m) := by
  unfold set5
  exact setC_kp (setC_kp (setC_kp (setC_kp (setC_kp hk hg) hg) hg) hg) hg
theorem own_set5 {g cp i base N : Nat} {f : List Tm} (h : w.ownsRow base 47 5 (.slice (some ⟨g, 0, none⟩) N cp) N (tmE.row f)) (hf : f.length = N) (hi : i < N) {k : List UInt8} {s : ByteArray} (hs : (⟨k.toArray⟩ : ByteArray) = s) (a : Nat) (n : Int) (b m : Nat) :
    (set5 w g i s a n b m).ownsRow base 47 5 (.slice (some ⟨g, 0, none⟩) N cp) N (tmE.row (f.set i ⟨k, a, n, b, m⟩)) := by
  subst hs
  have o1 := ((((h.stored (i * 5) (encStr k)).1.stored (i * 5 + 1) (.float .f64 a)).1.stored (i * 5 + 2) (.int .i64 n)).1.stored (i * 5 + 3) (.float .f64 b)).1.stored (i * 5 + 4) (.float .f64 m)
  rw [row_set5 f i (by omega) ⟨k, a, n, b, m⟩] at o1
  exact o1.1
/-- cells of a row of timers -/
theorem own_at5 {g cp base N j : Nat} {f : List Tm} {jj : Int} (h : w.ownsRow base 47 5 (.slice (some ⟨g, 0, none⟩) N cp) N (tmE.row f)) (hjj : jj.toNat = j) {tk : List UInt8} {ta : Nat} {tn : Int} {tb tm : Nat} (ht : f[j]? = some ⟨tk, ta, tn, tb, tm⟩) {s : ByteArray} (hs : (⟨tk.toArray⟩ : ByteArray) = s) :
    w.cell? ⟨g, jj.toNat * 5, none⟩ = some (.string s) ∧ w.cell? ⟨g, jj.toNat * 5 + 1, none⟩ = some (.float .f64 ta) ∧ w.cell? ⟨g, jj.toNat * 5 + 2, none⟩ = some (.int .i64 tn) ∧ w.cell? ⟨g, jj.toNat * 5 + 3, none⟩ = some (.float .f64 tb) ∧ w.cell? ⟨g, jj.toNat * 5 + 4, none⟩ = some (.float .f64 tm) := by
  subst hjj
  subst hs
  obtain ⟨hj, hx⟩ := List.getElem?_eq_some_iff.1 ht
  have hc : ∀ (i : Nat) (u : Value), i < 5 → (tmE.enc f[jj.toNat])[i]? = some u → w.cell? ⟨g, jj.toNat * 5 + i, none⟩ = some u := fun i u hi hu => by
    have := h.cells rfl (jj.toNat * 5 + i) u (by rw [← hu]; exact row_at tmE f jj.toNat hj i hi)
    rw [Addr.add_lit, Nat.zero_add] at this
    exact this
  rw [hx] at hc
  exact ⟨hc 0 _ (by decide) rfl, hc 1 _ (by decide) rfl, hc 2 _ (by decide) rfl, hc 3 _ (by decide) rfl, hc 4 _ (by decide) rfl⟩
theorem empty_ky (X : World) : (X.alloc (.cells #[] 9)).ownsRow X.heap.size 9 1 (.slice (some ⟨X.heap.size, 0, none⟩) 0 0) 0 (kyE.row []) :=
  ⟨by simp [EncG.row], Or.inr ⟨X.heap.size, 0, #[], rfl, Nat.le_refl _, (MapKept.heap_alloc X _).1, Nat.le_refl _, by omega, by simp, by simp [EncG.row]⟩⟩
/-- the list while one timer finds its place -/
def gap (l : List Tm) (k : Nat) (x : Tm) : List Tm := l.take k ++ x :: l.drop k
theorem gap_len {l : List Tm} {k : Nat} (x : Tm) (h : k ≤ l.length) : (gap l k x).length = l.length + 1 := by
  unfold gap
  rw [List.length_append, List.length_take, List.length_cons, List.length_drop]
  omega
theorem gap_end (l : List Tm) (t : Tm) : gap l l.length t = l ++ [t] := by
  unfold gap
  rw [List.take_length, List.drop_length]
theorem gap_at {l : List Tm} {k : Nat} (x : Tm) (h : k ≤ l.length) : (gap l k x)[k]? = some x := by
  unfold gap
  rw [List.getElem?_append_right (by rw [List.length_take]; omega), List.length_take, Nat.min_eq_left h, Nat.sub_self]
  rfl
theorem gap_set {l : List Tm} {k : Nat} (x t : Tm) (h : k ≤ l.length) : (gap l k x).set k t = gap l k t := by
  unfold gap
  rw [List.set_append_right _ _ (by rw [List.length_take]; omega), List.length_take, Nat.min_eq_left h, Nat.sub_self, List.set_cons_zero]
theorem gap_prev {l : List Tm} {k : Nat} (x : Tm) (h : k + 1 ≤ l.length) : (gap l (k + 1) x)[k]? = some l[k] := by
  unfold gap
  rw [List.getElem?_append_left (by rw [List.length_take]; omega), List.getElem?_take_of_lt (by omega), List.getElem?_eq_getElem (by omega)]
theorem gap_down {l : List Tm} {k : Nat} (h : k + 1 ≤ l.length) : gap l (k + 1) l[k] = gap l k l[k] := by
  unfold gap
  rw [List.take_succ_eq_append_getElem (by omega), List.append_assoc, List.drop_eq_getElem_cons (show k < l.length by omega)]
  rfl
theorem gap_perm (l : List Tm) (k : Nat) (t : Tm) : (gap l k t).Perm (l ++ [t]) := by
  unfold gap
  refine (List.perm_middle).trans ?_
  rw [List.take_append_drop]
  exact (List.perm_append_singleton t l).symm
set_option maxRecDepth 100000 in
set_option maxHeartbeats 8000000 in
theorem rkDue_any (H : Rk w0 q c v w) (ok : CkOk c) : Calls Tryd.prog 16 #[.pointer (some ⟨q, 0, none⟩)] w fun r w' => ∃ v l, r = .returned v ∧ DueIs c l ∧ w'.ownsRow w.heap.size 9 1 v l.length (kyE.row l) ∧ Kp w w' := by
  obtain ⟨av, cv, rfl⟩ := H.form
  obtain ⟨m, hm⟩ : ∃ m, c.ts.length = m := ⟨_, rfl⟩
  obtain ⟨L, hL⟩ : ∃ L : Int, (m : Int) = L := ⟨_, rfl⟩
  have h64 := ok.len
  have k0 := kp_alloc w (.cells #[] 47)
  have o0 := empty_rt w
  obtain ⟨W, hW⟩ : ∃ W, w.alloc (.cells #[] 47) = W := ⟨_, rfl⟩
  have e1 : W.cell? ⟨q, 1, none⟩ = some (.slice av m cv) := by rw [← hm, ← hW]; exact cell_row (i := 1) (H.kp k0).row rfl
  rw [hW] at k0 o0
  have HH := Lib.hid H
  have OK := Lib.hid ok
  have HM := Lib.hid hm
  have HML := Lib.hid hL
  have HEN := Lib.hid (show w.cell? ⟨q, 0, none⟩ = some (.float .f64 c.now) from cell_row (i := 0) H.row rfl)
  have hLm : L ≤ 64 := by omega
  have hsf := store_fl
  clear H hm h64 ok
  go_enter Tryd.func16, Tryd.ntmps16
  go_wp2
  go_loopw [3, 16] (fun u i wr => ∃ (j : Nat) (l : List Tm), j ≤ m ∧ i = .int .i64 j ∧ wr.ownsRow w.heap.size 47 5 u l.length (tmE.row l) ∧ l.Perm ((c.ts.take j).filter fun t => decide (t.a ≤ c.now)) ∧ l.Pairwise leT ∧ Kp w wr) (fun _ i _ => m - (intOf i).toNat)
  case atStart => exact ⟨0, [], Nat.zero_le _, rfl, o0, by simp, List.Pairwise.nil, k0⟩
  case round =>
    obtain ⟨j, l, hj, rfl, hown, hpm, hso, hk⟩ := hrel
    clear k0 o0 e1
    obtain ⟨jj, hjj⟩ : ∃ jj : Int, (j : Int) = jj := ⟨_, rfl⟩
    rw [hjj]
    have HJ := Lib.hid hjj
    by_cases hlt : j < m
    · have hjl : jj < L := by omega
      have hj0 : 0 ≤ jj := by omega
      have htn : jj.toNat = j := by omega
      have hjo : j < c.ts.length := by rw [HM.out]; exact hlt
      obtain ⟨g, cp, ev, -⟩ := HH.out.cell hjo
      injection ev with ev _ ev2
      subst ev
      subst ev2
      obtain ⟨⟨tk, ta, tn, tb, tm⟩, ht⟩ : ∃ t, c.ts[j] = t := ⟨_, rfl⟩
      obtain ⟨s1, hs1⟩ : ∃ s, (⟨tk.toArray⟩ : ByteArray) = s := ⟨_, rfl⟩
      obtain ⟨x0, x1, x2, x3, x4⟩ := (HH.out.kp hk).at5 (m := m) (by rw [HM.out]) htn hjo ht hs1
      have hta : ta ≤ 9218868437227405312 := by
        have := (OK.out.each _ (List.getElem_mem hjo)).a
        rw [ht] at this
        exact this
      have htk : c.ts.take (j + 1) = c.ts.take j ++ [⟨tk, ta, tn, tb, tm⟩] := by rw [List.take_succ_eq_append_getElem hjo, ht]
      obtain ⟨wo, hwo⟩ : ∃ wo, wr = wo := ⟨_, rfl⟩
      subst hwo
      have ky := kp_alloc wr (.cells #[.string s1, .float .f64 ta, .int .i64 tn, .float .f64 tb, .float .f64 tm] 47)
      have hby := (MapKept.heap_alloc wr (.cells #[.string s1, .float .f64 ta, .int .i64 tn, .float .f64 tb, .float .f64 tm] 47)).1
      obtain ⟨bx, hbx⟩ : ∃ x, wr.heap.size = x := ⟨_, rfl⟩
      have hYs : (wr.alloc (.cells #[.string s1, .float .f64 ta, .int .i64 tn, .float .f64 tb, .float .f64 tm] 47)).heap.size = bx + 1 := by simp [hbx]
      rw [hbx] at hby
      obtain ⟨Y, hY⟩ : ∃ Y, wr.alloc (.cells #[.string s1, .float .f64 ta, .int .i64 tn, .float .f64 tb, .float .f64 tm] 47) = Y := ⟨_, rfl⟩
      rw [hY] at ky hby hYs
      have HBX := Lib.hid hby
      have HE0 := Lib.hid (kp_cell (Kp.trans hk ky) HEN.out)
      have hor := fun w1 : World => refOrder_any ta c.now w1 (by omega) (by have := OK.out.now; omega)
      rw [Fl.ord_of_le hta OK.out.now] at hor
      obtain ⟨od, hod⟩ : ∃ z, Fl.cmpN ta c.now = z := ⟨_, rfl⟩
      rw [hod] at hor
      have HOR := Lib.hid hor
      have hcs := Fl.cmpN_spec ta c.now
      rw [hod] at hcs
      have hw1 : wrap64 (jj + 1) = jj + 1 := IntWalk.wrap64_in _ (by omega)
      have KY := Lib.hid (Kp.trans hk ky)
      have HLT := Lib.hid hlt
      have HTK := Lib.hid htk
      have HSO := Lib.hid hso
      have HPM := Lib.hid hpm
      have HTA := Lib.hid hta
      have KYD := Lib.hid (show Kp wr Y.drew from Kp.trans ky (kp_drewR (Kp.refl _)))
      have HOWN := Lib.hid hown
      have HBS := Lib.hid (And.intro hbx hYs)
      by_cases hdue : ta ≤ c.now
      · have g1 : decide (od > 0) = false := decide_eq_false (by omega)
        have HDU := Lib.hid hdue
        have b0 : Y.drew.cell? ⟨bx, 0, none⟩ = some (.string s1) := cell_row (i := 0) (kp_row (kp_drewR (Kp.refl _)) hby) rfl
        have b1 : Y.drew.cell? ⟨bx, 1, none⟩ = some (.float .f64 ta) := cell_row (i := 1) (kp_row (kp_drewR (Kp.refl _)) hby) rfl
        have b2 : Y.drew.cell? ⟨bx, 2, none⟩ = some (.int .i64 tn) := cell_row (i := 2) (kp_row (kp_drewR (Kp.refl _)) hby) rfl
        have b3 : Y.drew.cell? ⟨bx, 3, none⟩ = some (.float .f64 tb) := cell_row (i := 3) (kp_row (kp_drewR (Kp.refl _)) hby) rfl
        have b4 : Y.drew.cell? ⟨bx, 4, none⟩ = some (.float .f64 tm) := cell_row (i := 4) (kp_row (kp_drewR (Kp.refl _)) hby) rfl
        obtain ⟨ad, cap, rfl⟩ := own_formG hown
        obtain ⟨n, hn⟩ : ∃ n, l.length = n := ⟨_, rfl⟩
        obtain ⟨N, hN⟩ : ∃ N : Int, (n : Int) = N := ⟨_, rfl⟩
        have HNL := Lib.hid hn
        have HNN := Lib.hid hN
        have hn64 : n ≤ 64 := by
          have h1 := hpm.length_eq
          have h2 := List.length_filter_le (fun t : Tm => decide (t.a ≤ c.now)) (c.ts.take j)
          have h3 := OK.out.len
          rw [List.length_take] at h2
          omega
        have HN64 := Lib.hid hn64
        have kz := kp_alloc Y.drew (.cells #[.string s1, .float .f64 ta, .int .i64 tn, .float .f64 tb, .float .f64 tm] 47)
        have hbz := (MapKept.heap_alloc Y.drew (.cells #[.string s1, .float .f64 ta, .int .i64 tn, .float .f64 tb, .float .f64 tm] 47)).1
        rw [show Y.drew.heap.size = bx + 1 from hYs] at hbz
        have PZ := Lib.hid (part_oneT (k := tk) hbz hs1)
        have KZ := Lib.hid (Kp.trans KYD.out kz)
        have hownz := own_stayG hown (fun b hb => Below.block (Kp.trans KYD.out kz) b (hown.lt b hb).2)
        rw [hn] at hownz
        have OZ := Lib.hid hownz
        have HBZ := Lib.hid (kp_row (Kp.trans (kp_drewR (Kp.refl _)) kz) hby)
        have HZS := Lib.hid (show (Y.drew.alloc (.cells #[.string s1, .float .f64 ta, .int .i64 tn, .float .f64 tb, .float .f64 tm] 47)).heap.size = bx + 2 by have e : Y.drew.heap.size = bx + 1 := hYs; simp [e])
        have KW3 := Lib.hid hk
        have HS1 := Lib.hid hs1
        have hyd : Y.drew.heap.size = bx + 1 := hYs
        simp only [hn]
        clear hown hpm hso hk hjj hj hlt ht hjo htk hta htn hor hod hcs hby hYs ky hdue hs1 hn hn64 kz hbz hownz
        go_wp2_with fail
        refine wp_region_held_drew (S := fun w' => Kp Y w') (by kernel_rfl) ?_ (fun hHeld => ?_)
        · exact kp_drewR (Kp.refl _)
        refine wpAnyH_take (i := 0) (v := ?_) rfl (by kernel_rfl) (by kernel_rfl) (by kernel_rfl) (fun _ _ _ h => h) (Or.inl ⟨by rfl, ?_⟩) (by assumption) ?_
        rotate_left
        · intro w hSw; go_simp; try with_reducible rfl
        go_simp
        refine wpAnyH_take (i := 1) (v := ?_) rfl (by kernel_rfl) (by kernel_rfl) (by kernel_rfl) (fun _ _ _ h => h) (Or.inl ⟨by rfl, ?_⟩) (by assumption) ?_
        rotate_left
        · intro w hSw; have q0 := cell_row (i := 1) (kp_row hSw HBX.out) rfl; go_simp; try with_reducible rfl
        go_simp
        refine wpAnyH_take (i := 2) (v := ?_) rfl (by kernel_rfl) (by kernel_rfl) (by kernel_rfl) (fun _ _ _ h => h) (Or.inl ⟨by rfl, ?_⟩) (by assumption) ?_
        rotate_left
        · intro w hSw; go_simp; try with_reducible rfl
        go_simp
        refine wpAnyH_take (i := 3) (v := ?_) rfl (by kernel_rfl) (by kernel_rfl) (by kernel_rfl) (fun _ _ _ h => h) (Or.inl ⟨by rfl, ?_⟩) (by assumption) ?_
        rotate_left
        · intro w hSw; go_simp; try with_reducible rfl
        go_simp
        refine wpAnyH_take (i := 4) (v := ?_) rfl (by kernel_rfl) (by kernel_rfl) (by kernel_rfl) (fun _ _ _ h => h) (Or.inl ⟨by rfl, ?_⟩) (by assumption) ?_
        rotate_left
        · intro w hSw; go_simp; try with_reducible rfl
        go_simp
        refine wpAnyH_take (i := 5) (v := ?_) rfl (by kernel_rfl) (by kernel_rfl) (by kernel_rfl) (fun _ _ _ h => h) (Or.inl ⟨by rfl, ?_⟩) (by assumption) ?_
        rotate_left
        · intro w hSw; have q1 := kp_cell hSw HE0.out; go_simp; try with_reducible rfl
        go_simp
        refine wpAnyH_ready (rs := [6]) (by kernel_rfl) (by simp) ?_
        refine AllReadyH.cons rfl (fun K hK => ?_) AllReadyH.nil
        go_simp
        go_wp2_with (go_at_call 38; (with_reducible refine (HOR.out _).mono ?_); rintro e' w5 ⟨rfl, rfl⟩)
        refine hK.out _ _ hHeld (fun hHeld => ?_)
        clear hK K
        refine wpAnyH_take (i := 7) (v := ?_) rfl (by kernel_rfl) (by kernel_rfl) (by kernel_rfl) (fun _ _ _ h => h) (Or.inl ⟨by rfl, ?_⟩) (by assumption) ?_
        rotate_left
        · intro w hSw; go_simp; try with_reducible rfl
        go_simp
        refine wpAnyH_done (by kernel_rfl) ?_ _
        go_wp2_with (at_builtin; refine wpList_append_rwG (E := tmE) ty_rt (by decide) _ rfl _ _ rfl w.heap.size _ n l rfl OZ.out _ [⟨tk, ta, tn, tb, tm⟩] rfl PZ.out ?f1 ?f2 ?_)
        case f1 => have := HN64.out; simp; omega
        case f2 => exact Below.size (Kp.trans KW3.out KZ.out)
        intro v3 w3 ho hg hb
        rcases ho.2 with ⟨rfl, hz⟩ | ⟨gl, cl, cur, rfl, hgl, hh, hrest⟩
        · simp at hz
        have ho2 : w3.ownsRow w.heap.size 47 5 (.slice (some ⟨gl, 0, none⟩) (n + 1) cl) (n + 1) (tmE.row (gap l n ⟨tk, ta, tn, tb, tm⟩)) := by
          rw [show gap l n ⟨tk, ta, tn, tb, tm⟩ = l ++ [⟨tk, ta, tn, tb, tm⟩] by rw [← HNL.out]; exact gap_end l _]
          exact ho
        have ngl : bx ≠ gl := by
          rcases hb gl rfl with e | e
          · have h1 := (HOWN.out.lt gl (by rw [HNL.out]; exact e)).2
            have h2 := HBS.out.1
            omega
          · have h2 := HBS.out.2
            omega
        have hbx3 : w3.heap[bx]? = some (.cells #[.string s1, .float .f64 ta, .int .i64 tn, .float .f64 tb, .float .f64 tm] 47) := (hg.block bx (by have h1 := HZS.out; exact Nat.lt_of_lt_of_le (show bx < bx + 2 by omega) (Nat.le_of_eq h1.symm)) (fun e => by
          have h1 := (HOWN.out.lt bx (by rw [HNL.out]; exact e.symm)).2
          have h2 := HBS.out.1
          omega)).trans HBZ.out
        have hk3 : Kp w w3 := Below.grown (Kp.trans KW3.out KZ.out) hg (Below.size (Kp.trans KW3.out KZ.out)) (fun k hk => (OZ.out.lt k hk).1)
        have HNG := Lib.hid ngl
        have HGL := Lib.hid hgl
        clear ho hg hb hh hrest hbx hyd hY b0 b1 b2 b3 b4 g1 x0 x1 x2 x3 x4 ngl hgl
        obtain ⟨wo, rfl⟩ : ∃ wo, wo = wr := ⟨wr, rfl⟩
        go_wp2
        go_loopw [6] (fun kk wr => ∃ (p : Nat) (x : Tm), p ≤ n ∧ kk = .int .i64 p ∧ wr.ownsRow w.heap.size 47 5 (.slice (some ⟨gl, 0, none⟩) (n + 1) cl) (n + 1) (tmE.row (gap l p x)) ∧ (∀ y ∈ l.drop p, ltT ⟨tk, ta, tn, tb, tm⟩ y = true) ∧ wr.heap[bx]? = some (.cells #[.string s1, .float .f64 ta, .int .i64 tn, .float .f64 tb, .float .f64 tm] 47) ∧ Kp w wr) (fun kk _ => (intOf kk).toNat)
        case atStart => exact ⟨n, _, Nat.le_refl _, by rw [HNN.out], ho2, fun y hy => (by rw [← HNL.out, List.drop_length] at hy; cases hy), hbx3, hk3⟩
        case round =>
          obtain ⟨p, x, hp, rfl, hown2, hlt2, hbx2, hk2⟩ := hrel
          clear ho2 hbx3 hk3
          obtain ⟨kk, hkk⟩ : ∃ kk : Int, (p : Int) = kk := ⟨_, rfl⟩
          rw [hkk]
          have HKK := Lib.hid hkk
          have HP := Lib.hid hp
          have hpl : p ≤ l.length := by rw [HNL.out]; exact hp
          have hkn : kk.toNat = p := by omega
          have kk0 : 0 ≤ kk := by omega
          have kk1 : kk < N + 1 := by have := HNN.out; omega
          have N64 : N ≤ 64 := by have := HNN.out; have := HN64.out; omega
          have kx : Kp wr wr.drew := kp_drewR (Kp.refl _)
          obtain ⟨X, hX⟩ : ∃ X, wr.drew = X := ⟨_, rfl⟩
          rw [hX] at kx
          have HXW := Lib.hid hX
          have HBX := Lib.hid hbx2
          have hbX := kp_row kx hbx2
          have b0 : X.cell? ⟨bx, 0, none⟩ = some (.string s1) := cell_row (i := 0) hbX rfl
          have b1 : X.cell? ⟨bx, 1, none⟩ = some (.float .f64 ta) := cell_row (i := 1) hbX rfl
          have b2 : X.cell? ⟨bx, 2, none⟩ = some (.int .i64 tn) := cell_row (i := 2) hbX rfl
          have b3 : X.cell? ⟨bx, 3, none⟩ = some (.float .f64 tb) := cell_row (i := 3) hbX rfl
          have b4 : X.cell? ⟨bx, 4, none⟩ = some (.float .f64 tm) := cell_row (i := 4) hbX rfl
          have hownX := own_stayG hown2 (fun b hb => Below.block kx b (hown2.lt b hb).2)
          obtain ⟨xk, xa, xn, xb, xm⟩ := x
          obtain ⟨c0, c1, c2, c3, c4⟩ := own_at5 hownX hkn (gap_at _ hpl) rfl
          have f0 : X.frozen? ⟨gl, kk.toNat * 5, none⟩ = false := hownX.frozenAt _
          have f1 : X.frozen? ⟨gl, kk.toNat * 5 + 1, none⟩ = false := hownX.frozenAt _
          have f2 : X.frozen? ⟨gl, kk.toNat * 5 + 2, none⟩ = false := hownX.frozenAt _
          have f3 : X.frozen? ⟨gl, kk.toNat * 5 + 3, none⟩ = false := hownX.frozenAt _
          have f4 : X.frozen? ⟨gl, kk.toNat * 5 + 4, none⟩ = false := hownX.frozenAt _
          have hkX : Kp w X := Kp.trans hk2 kx
          have fo := own_set5 hownX (by rw [gap_len _ hpl, HNL.out]) (show kk.toNat < n + 1 by omega) HS1.out ta tn tb tm
          rw [hkn, gap_set _ _ hpl] at fo
          have FINO := Lib.hid (show (set5 X gl kk.toNat s1 ta tn tb tm).ownsRow w.heap.size 47 5 (.slice (some ⟨gl, 0, none⟩) (n + 1) cl) (gap l p ⟨tk, ta, tn, tb, tm⟩).length (tmE.row (gap l p ⟨tk, ta, tn, tb, tm⟩)) by rw [gap_len _ hpl, HNL.out, hkn]; exact fo)
          have FINK := Lib.hid (show Kp w (set5 X gl kk.toNat s1 ta tn tb tm) from set5_kp hkX HGL.out)
          unfold set5 at FINO FINK
          have FINP := Lib.hid (show (gap l p ⟨tk, ta, tn, tb, tm⟩).Perm ((c.ts.take (j + 1)).filter fun t => decide (t.a ≤ c.now)) by
            rw [HTK.out, List.filter_append, List.filter_cons_of_pos (by simpa using HDU.out), List.filter_nil]
            exact (gap_perm _ _ _).trans (HPM.out.append_right _))
          by_cases hp0 : p = 0
          · have g2 : decide (kk > 0) = false := decide_eq_false (by omega)
            have FINS := Lib.hid (ins_sorted HSO.out hpl hlt2 (fun h => absurd h (by omega)))
            clear hown2 hlt2 hbx2 hk2 hkk hp hpl hkn kx hX hbX hownX hkX fo hp0
            go_wp2_with fail
            refine wp_region_held_drew (S := fun w' => Kp wr w') (by kernel_rfl) ?_ (fun hHeld => ?_)
            · exact kp_drewR (Kp.refl _)
            rw [HXW.out] at hHeld ⊢
            refine wpAnyH_take (i := 0) (v := ?_) rfl (by kernel_rfl) (by kernel_rfl) (by kernel_rfl) (fun _ _ _ h => h) (Or.inl ⟨by rfl, ?_⟩) (by assumption) ?_
            rotate_left
            · intro w hSw; go_simp; try with_reducible rfl
            go_simp
            refine wpAnyH_take (i := 1) (v := ?_) rfl (by kernel_rfl) (by kernel_rfl) (by kernel_rfl) (fun _ _ _ h => h) (Or.inl ⟨by rfl, ?_⟩) (by assumption) ?_
            rotate_left
            · intro w hSw; go_simp; try with_reducible rfl
            go_simp
            refine wpAnyH_take (i := 2) (v := ?_) rfl (by kernel_rfl) (by kernel_rfl) (by kernel_rfl) (fun _ _ _ h => h) (Or.inl ⟨by rfl, ?_⟩) (by assumption) ?_
            rotate_left
            · intro w hSw; go_simp; try with_reducible rfl
            go_simp
            refine wpAnyH_take (i := 3) (v := undef) rfl (by kernel_rfl) (by kernel_rfl) (by kernel_rfl) (fun _ _ _ h => h) (Or.inr ⟨by rfl, rfl⟩) (by assumption) ?_
            go_simp
            refine wpAnyH_take (i := 4) (v := undef) rfl (by kernel_rfl) (by kernel_rfl) (by kernel_rfl) (fun _ _ _ h => h) (Or.inr ⟨by rfl, rfl⟩) (by assumption) ?_
            go_simp
            refine wpAnyH_take (i := 5) (v := undef) rfl (by kernel_rfl) (by kernel_rfl) (by kernel_rfl) (fun _ _ _ h => h) (Or.inr ⟨by rfl, rfl⟩) (by assumption) ?_
            go_simp
            refine wpAnyH_take (i := 6) (v := undef) rfl (by kernel_rfl) (by kernel_rfl) (by kernel_rfl) (fun _ _ _ h => h) (Or.inr ⟨by rfl, rfl⟩) (by assumption) ?_
            go_simp
            refine wpAnyH_take (i := 7) (v := undef) rfl (by kernel_rfl) (by kernel_rfl) (by kernel_rfl) (fun _ _ _ h => h) (Or.inr ⟨by rfl, rfl⟩) (by assumption) ?_
            go_simp
            refine wpAnyH_take (i := 8) (v := undef) rfl (by kernel_rfl) (by kernel_rfl) (by kernel_rfl) (fun _ _ _ h => h) (Or.inr ⟨by rfl, rfl⟩) (by assumption) ?_
            go_simp
            refine wpAnyH_take (i := 9) (v := undef) rfl (by kernel_rfl) (by kernel_rfl) (by kernel_rfl) (fun _ _ _ h => h) (Or.inr ⟨by rfl, rfl⟩) (by assumption) ?_
            go_simp
            refine wpAnyH_take (i := 10) (v := undef) rfl (by kernel_rfl) (by kernel_rfl) (by kernel_rfl) (fun _ _ _ h => h) (Or.inr ⟨by rfl, rfl⟩) (by assumption) ?_
            go_simp
            refine wpAnyH_take (i := 11) (v := undef) rfl (by kernel_rfl) (by kernel_rfl) (by kernel_rfl) (fun _ _ _ h => h) (Or.inr ⟨by rfl, rfl⟩) (by assumption) ?_
            go_simp
            refine wpAnyH_take (i := 12) (v := undef) rfl (by kernel_rfl) (by kernel_rfl) (by kernel_rfl) (fun _ _ _ h => h) (Or.inr ⟨by rfl, rfl⟩) (by assumption) ?_
            go_simp
            refine wpAnyH_take (i := 13) (v := undef) rfl (by kernel_rfl) (by kernel_rfl) (by kernel_rfl) (fun _ _ _ h => h) (Or.inr ⟨by rfl, rfl⟩) (by assumption) ?_
            go_simp
            refine wpAnyH_take (i := 14) (v := undef) rfl (by kernel_rfl) (by kernel_rfl) (by kernel_rfl) (fun _ _ _ h => h) (Or.inr ⟨by rfl, rfl⟩) (by assumption) ?_
            go_simp
            refine wpAnyH_take (i := 15) (v := undef) rfl (by kernel_rfl) (by kernel_rfl) (by kernel_rfl) (fun _ _ _ h => h) (Or.inr ⟨by rfl, rfl⟩) (by assumption) ?_
            go_simp
            refine wpAnyH_take (i := 16) (v := undef) rfl (by kernel_rfl) (by kernel_rfl) (by kernel_rfl) (fun _ _ _ h => h) (Or.inr ⟨by rfl, rfl⟩) (by assumption) ?_
            go_simp
            refine wpAnyH_take (i := 17) (v := undef) rfl (by kernel_rfl) (by kernel_rfl) (by kernel_rfl) (fun _ _ _ h => h) (Or.inr ⟨by rfl, rfl⟩) (by assumption) ?_
            go_simp
            refine wpAnyH_take (i := 18) (v := undef) rfl (by kernel_rfl) (by kernel_rfl) (by kernel_rfl) (fun _ _ _ h => h) (Or.inr ⟨by rfl, rfl⟩) (by assumption) ?_
            go_simp
            refine wpAnyH_take (i := 19) (v := undef) rfl (by kernel_rfl) (by kernel_rfl) (by kernel_rfl) (fun _ _ _ h => h) (Or.inr ⟨by rfl, rfl⟩) (by assumption) ?_
            go_simp
            refine wpAnyH_take (i := 20) (v := undef) rfl (by kernel_rfl) (by kernel_rfl) (by kernel_rfl) (fun _ _ _ h => h) (Or.inr ⟨by rfl, rfl⟩) (by assumption) ?_
            go_simp
            refine wpAnyH_take (i := 21) (v := undef) rfl (by kernel_rfl) (by kernel_rfl) (by kernel_rfl) (fun _ _ _ h => h) (Or.inr ⟨by rfl, rfl⟩) (by assumption) ?_
            go_simp
            refine wpAnyH_take (i := 22) (v := undef) rfl (by kernel_rfl) (by kernel_rfl) (by kernel_rfl) (fun _ _ _ h => h) (Or.inr ⟨by rfl, rfl⟩) (by assumption) ?_
            go_simp
            refine wpAnyH_take (i := 23) (v := undef) rfl (by kernel_rfl) (by kernel_rfl) (by kernel_rfl) (fun _ _ _ h => h) (Or.inr ⟨by rfl, rfl⟩) (by assumption) ?_
            go_simp
            refine wpAnyH_take (i := 24) (v := undef) rfl (by kernel_rfl) (by kernel_rfl) (by kernel_rfl) (fun _ _ _ h => h) (Or.inr ⟨by rfl, rfl⟩) (by assumption) ?_
            go_simp
            refine wpAnyH_take (i := 25) (v := undef) rfl (by kernel_rfl) (by kernel_rfl) (by kernel_rfl) (fun _ _ _ h => h) (Or.inr ⟨by rfl, rfl⟩) (by assumption) ?_
            go_simp
            refine wpAnyH_take (i := 26) (v := undef) rfl (by kernel_rfl) (by kernel_rfl) (by kernel_rfl) (fun _ _ _ h => h) (Or.inr ⟨by rfl, rfl⟩) (by assumption) ?_
            go_simp
            refine wpAnyH_take (i := 27) (v := undef) rfl (by kernel_rfl) (by kernel_rfl) (by kernel_rfl) (fun _ _ _ h => h) (Or.inr ⟨by rfl, rfl⟩) (by assumption) ?_
            go_simp
            refine wpAnyH_take (i := 28) (v := undef) rfl (by kernel_rfl) (by kernel_rfl) (by kernel_rfl) (fun _ _ _ h => h) (Or.inr ⟨by rfl, rfl⟩) (by assumption) ?_
            go_simp
            refine wpAnyH_take (i := 29) (v := undef) rfl (by kernel_rfl) (by kernel_rfl) (by kernel_rfl) (fun _ _ _ h => h) (Or.inr ⟨by rfl, rfl⟩) (by assumption) ?_
            go_simp
            refine wpAnyH_take (i := 30) (v := undef) rfl (by kernel_rfl) (by kernel_rfl) (by kernel_rfl) (fun _ _ _ h => h) (Or.inr ⟨by rfl, rfl⟩) (by assumption) ?_
            go_simp
            refine wpAnyH_take (i := 31) (v := undef) rfl (by kernel_rfl) (by kernel_rfl) (by kernel_rfl) (fun _ _ _ h => h) (Or.inr ⟨by rfl, rfl⟩) (by assumption) ?_
            go_simp
            refine wpAnyH_take (i := 32) (v := undef) rfl (by kernel_rfl) (by kernel_rfl) (by kernel_rfl) (fun _ _ _ h => h) (Or.inr ⟨by rfl, rfl⟩) (by assumption) ?_
            go_simp
            refine wpAnyH_take (i := 33) (v := undef) rfl (by kernel_rfl) (by kernel_rfl) (by kernel_rfl) (fun _ _ _ h => h) (Or.inr ⟨by rfl, rfl⟩) (by assumption) ?_
            go_simp
            refine wpAnyH_take (i := 34) (v := undef) rfl (by kernel_rfl) (by kernel_rfl) (by kernel_rfl) (fun _ _ _ h => h) (Or.inr ⟨by rfl, rfl⟩) (by assumption) ?_
            go_simp
            refine wpAnyH_take (i := 35) (v := undef) rfl (by kernel_rfl) (by kernel_rfl) (by kernel_rfl) (fun _ _ _ h => h) (Or.inr ⟨by rfl, rfl⟩) (by assumption) ?_
            go_simp
            refine wpAnyH_take (i := 36) (v := ?_) rfl (by kernel_rfl) (by kernel_rfl) (by kernel_rfl) (fun _ _ _ h => h) (Or.inl ⟨by rfl, ?_⟩) (by assumption) ?_
            rotate_left
            · intro w hSw; go_simp; try with_reducible rfl
            go_simp
            refine wpAnyH_done (by kernel_rfl) ?_ _
            go_wp2
            go_roundw
            case rel => exact ⟨j + 1, gap l p ⟨tk, ta, tn, tb, tm⟩, by have := HLT.out; omega, by have := HJ.out; rw [show ((j + 1 : Nat) : Int) = jj + 1 by omega], FINO.out, FINP.out, FINS.out, FINK.out⟩
            case measure => have := HJ.out; have := HLT.out; simp [intOf]; omega
          · obtain ⟨p', rfl⟩ : ∃ p', p = p' + 1 := ⟨p - 1, by omega⟩
            have g2 : decide (kk > 0) = true := decide_eq_true (by omega)
            obtain ⟨⟨uk, ua, un, ub, um⟩, hu⟩ : ∃ u, l[p'] = u := ⟨_, rfl⟩
            obtain ⟨su, hsu⟩ : ∃ s, (⟨uk.toArray⟩ : ByteArray) = s := ⟨_, rfl⟩
            obtain ⟨pj, hpj⟩ : ∃ pj, kk - 1 = pj := ⟨_, rfl⟩
            have hpn : pj.toNat = p' := by omega
            have hgp := gap_prev ⟨xk, xa, xn, xb, xm⟩ hpl
            rw [hu] at hgp
            obtain ⟨u0, u1, u2, u3, u4⟩ := own_at5 hownX hpn hgp hsu
            obtain ⟨w0', w1', -⟩ := own_at5 hown2 hpn hgp hsu
            have HU0 := Lib.hid w0'
            have HU1 := Lib.hid w1'
            have hum : (⟨uk, ua, un, ub, um⟩ : Tm) ∈ c.ts := by
              have h1 := HPM.out.mem_iff.1 (show (⟨uk, ua, un, ub, um⟩ : Tm) ∈ l by rw [← hu]; exact List.getElem_mem _)
              exact List.mem_of_mem_take (List.mem_filter.1 h1).1
            have hua : ua ≤ 9218868437227405312 := (OK.out.each _ hum).a
            have hou := fun w1 : World => refOrder_any ta ua w1 (by have := HTA.out; omega) (by omega)
            rw [Fl.ord_of_le HTA.out hua] at hou
            obtain ⟨ou, hoo⟩ : ∃ z, Fl.cmpN ta ua = z := ⟨_, rfl⟩
            rw [hoo] at hou
            have HOU := Lib.hid hou
            have hcu := Fl.cmpN_spec ta ua
            rw [hoo] at hcu
            have hwp : IntKind.i64.wrap pj = pj := IntWalk.i64_in pj (by omega)
            have hwp2 : wrap64 pj = pj := IntWalk.wrap64_in pj (by omega)
            have pj0 : 0 ≤ pj := by omega
            have pj1 : pj < N + 1 := by omega
            have hls := bytesLess_str HS1.out hsu
            have nx := own_set5 hownX (by rw [gap_len _ hpl, HNL.out]) (show kk.toNat < n + 1 by omega) hsu ua un ub um
            rw [hkn, gap_set _ _ hpl, ← hu, gap_down hpl, hu] at nx
            have NXO := Lib.hid (show (set5 X gl kk.toNat su ua un ub um).ownsRow w.heap.size 47 5 (.slice (some ⟨gl, 0, none⟩) (n + 1) cl) (n + 1) (tmE.row (gap l p' ⟨uk, ua, un, ub, um⟩)) by rw [hkn]; exact nx)
            have NXK := Lib.hid (show Kp w (set5 X gl kk.toNat su ua un ub um) from set5_kp hkX HGL.out)
            have NXB := Lib.hid (show (set5 X gl kk.toNat su ua un ub um).heap[bx]? = some (.cells #[.string s1, .float .f64 ta, .int .i64 tn, .float .f64 tb, .float .f64 tm] 47) from (set5_block HNG.out).trans hbX)
            unfold set5 at NXO NXK NXB
            have hnext : ltT ⟨tk, ta, tn, tb, tm⟩ ⟨uk, ua, un, ub, um⟩ = true → ∀ y ∈ l.drop p', ltT ⟨tk, ta, tn, tb, tm⟩ y = true := fun h y hy => by
              rw [List.drop_eq_getElem_cons (show p' < l.length by omega), hu] at hy
              rcases List.mem_cons.1 hy with rfl | hy
              · exact h
              · exact hlt2 y hy
            have hstop : ltT ⟨tk, ta, tn, tb, tm⟩ ⟨uk, ua, un, ub, um⟩ = false → (gap l (p' + 1) ⟨tk, ta, tn, tb, tm⟩).Pairwise leT := fun h => ins_sorted HSO.out hpl hlt2 (fun _ => ⟨_, by rw [Nat.add_sub_cancel, List.getElem?_eq_getElem (by omega), hu], h⟩)
            by_cases hlt9 : ta < ua
            · have g3 : decide (ou < 0) = true := decide_eq_true (by omega)
              have NXL := Lib.hid (hnext (by unfold ltT; dsimp only; rw [decide_eq_true hlt9]; rfl))
              clear hown2 hlt2 hbx2 hk2 hkk hp hpl hkn kx hX hbX hownX hkX fo hp0 hu hsu hpn hgp w0' w1' hum hua hou hoo hcu hls nx hnext hstop hlt9
              go_wp2_with fail
              refine wp_region_held_drew (S := fun w' => Kp wr w') (by kernel_rfl) ?_ (fun hHeld => ?_)
              · exact kp_drewR (Kp.refl _)
              rw [HXW.out] at hHeld ⊢
              refine wpAnyH_take (i := 0) (v := ?_) rfl (by kernel_rfl) (by kernel_rfl) (by kernel_rfl) (fun _ _ _ h => h) (Or.inl ⟨by rfl, ?_⟩) (by assumption) ?_
              rotate_left
              · intro w hSw; go_simp; try with_reducible rfl
              go_simp
              refine wpAnyH_take (i := 1) (v := ?_) rfl (by kernel_rfl) (by kernel_rfl) (by kernel_rfl) (fun _ _ _ h => h) (Or.inl ⟨by rfl, ?_⟩) (by assumption) ?_
              rotate_left
              · intro w hSw; go_simp; try with_reducible rfl
              go_simp
              refine wpAnyH_take (i := 2) (v := ?_) rfl (by kernel_rfl) (by kernel_rfl) (by kernel_rfl) (fun _ _ _ h => h) (Or.inl ⟨by rfl, ?_⟩) (by assumption) ?_
              rotate_left
              · intro w hSw; go_simp; try with_reducible rfl
              go_simp
              refine wpAnyH_take (i := 3) (v := ?_) rfl (by kernel_rfl) (by kernel_rfl) (by kernel_rfl) (fun _ _ _ h => h) (Or.inl ⟨by rfl, ?_⟩) (by assumption) ?_
              rotate_left
              · intro w hSw; go_simp; try with_reducible rfl
              go_simp
              refine wpAnyH_take (i := 4) (v := ?_) rfl (by kernel_rfl) (by kernel_rfl) (by kernel_rfl) (fun _ _ _ h => h) (Or.inl ⟨by rfl, ?_⟩) (by assumption) ?_
              rotate_left
              · intro w hSw; have q0 := cell_row (i := 1) (kp_row hSw HBX.out) rfl; go_simp; try with_reducible rfl
              go_simp
              refine wpAnyH_take (i := 5) (v := ?_) rfl (by kernel_rfl) (by kernel_rfl) (by kernel_rfl) (fun _ _ _ h => h) (Or.inl ⟨by rfl, ?_⟩) (by assumption) ?_
              rotate_left
              · intro w hSw; go_simp; try with_reducible rfl
              go_simp
              refine wpAnyH_take (i := 6) (v := ?_) rfl (by kernel_rfl) (by kernel_rfl) (by kernel_rfl) (fun _ _ _ h => h) (Or.inl ⟨by rfl, ?_⟩) (by assumption) ?_
              rotate_left
              · intro w hSw; go_simp; try with_reducible rfl
              go_simp
              refine wpAnyH_take (i := 7) (v := ?_) rfl (by kernel_rfl) (by kernel_rfl) (by kernel_rfl) (fun _ _ _ h => h) (Or.inl ⟨by rfl, ?_⟩) (by assumption) ?_
              rotate_left
              · intro w hSw; go_simp; try with_reducible rfl
              go_simp
              refine wpAnyH_take (i := 8) (v := ?_) rfl (by kernel_rfl) (by kernel_rfl) (by kernel_rfl) (fun _ _ _ h => h) (Or.inl ⟨by rfl, ?_⟩) (by assumption) ?_
              rotate_left
              · intro w hSw; go_simp; try with_reducible rfl
              go_simp
              refine wpAnyH_take (i := 9) (v := ?_) rfl (by kernel_rfl) (by kernel_rfl) (by kernel_rfl) (fun _ _ _ h => h) (Or.inl ⟨by rfl, ?_⟩) (by assumption) ?_
              rotate_left
              · intro w hSw; go_simp; try with_reducible rfl
              go_simp
              refine wpAnyH_take (i := 10) (v := ?_) rfl (by kernel_rfl) (by kernel_rfl) (by kernel_rfl) (fun _ _ _ h => h) (Or.inl ⟨by rfl, ?_⟩) (by assumption) ?_
              rotate_left
              · intro w hSw; have q1 := kp_cell hSw HU1.out; go_simp; try with_reducible rfl
              go_simp
              refine wpAnyH_ready (rs := [11]) (by kernel_rfl) (by simp) ?_
              refine AllReadyH.cons rfl (fun K hK => ?_) AllReadyH.nil
              go_simp
              go_wp2_with (go_at_call 38; (with_reducible refine (HOU.out _).mono ?_); rintro e' w5 ⟨rfl, rfl⟩)
              refine hK.out _ _ hHeld (fun hHeld => ?_)
              clear hK K
              refine wpAnyH_take (i := 12) (v := ?_) rfl (by kernel_rfl) (by kernel_rfl) (by kernel_rfl) (fun _ _ _ h => h) (Or.inl ⟨by rfl, ?_⟩) (by assumption) ?_
              rotate_left
              · intro w hSw; go_simp; try with_reducible rfl
              go_simp
              refine wpAnyH_take (i := 13) (v := ?_) rfl (by kernel_rfl) (by kernel_rfl) (by kernel_rfl) (fun _ _ _ h => h) (Or.inl ⟨by rfl, ?_⟩) (by assumption) ?_
              rotate_left
              · intro w hSw; go_simp; try with_reducible rfl
              go_simp
              refine wpAnyH_take (i := 14) (v := undef) rfl (by kernel_rfl) (by kernel_rfl) (by kernel_rfl) (fun _ _ _ h => h) (Or.inr ⟨by rfl, rfl⟩) (by assumption) ?_
              go_simp
              refine wpAnyH_take (i := 15) (v := undef) rfl (by kernel_rfl) (by kernel_rfl) (by kernel_rfl) (fun _ _ _ h => h) (Or.inr ⟨by rfl, rfl⟩) (by assumption) ?_
              go_simp
              refine wpAnyH_take (i := 16) (v := undef) rfl (by kernel_rfl) (by kernel_rfl) (by kernel_rfl) (fun _ _ _ h => h) (Or.inr ⟨by rfl, rfl⟩) (by assumption) ?_
              go_simp
              refine wpAnyH_take (i := 17) (v := undef) rfl (by kernel_rfl) (by kernel_rfl) (by kernel_rfl) (fun _ _ _ h => h) (Or.inr ⟨by rfl, rfl⟩) (by assumption) ?_
              go_simp
              refine wpAnyH_take (i := 18) (v := undef) rfl (by kernel_rfl) (by kernel_rfl) (by kernel_rfl) (fun _ _ _ h => h) (Or.inr ⟨by rfl, rfl⟩) (by assumption) ?_
              go_simp
              refine wpAnyH_take (i := 19) (v := undef) rfl (by kernel_rfl) (by kernel_rfl) (by kernel_rfl) (fun _ _ _ h => h) (Or.inr ⟨by rfl, rfl⟩) (by assumption) ?_
              go_simp
              refine wpAnyH_take (i := 20) (v := undef) rfl (by kernel_rfl) (by kernel_rfl) (by kernel_rfl) (fun _ _ _ h => h) (Or.inr ⟨by rfl, rfl⟩) (by assumption) ?_
              go_simp
              refine wpAnyH_take (i := 21) (v := undef) rfl (by kernel_rfl) (by kernel_rfl) (by kernel_rfl) (fun _ _ _ h => h) (Or.inr ⟨by rfl, rfl⟩) (by assumption) ?_
              go_simp
              refine wpAnyH_take (i := 22) (v := undef) rfl (by kernel_rfl) (by kernel_rfl) (by kernel_rfl) (fun _ _ _ h => h) (Or.inr ⟨by rfl, rfl⟩) (by assumption) ?_
              go_simp
              refine wpAnyH_take (i := 23) (v := undef) rfl (by kernel_rfl) (by kernel_rfl) (by kernel_rfl) (fun _ _ _ h => h) (Or.inr ⟨by rfl, rfl⟩) (by assumption) ?_
              go_simp
              refine wpAnyH_take (i := 24) (v := undef) rfl (by kernel_rfl) (by kernel_rfl) (by kernel_rfl) (fun _ _ _ h => h) (Or.inr ⟨by rfl, rfl⟩) (by assumption) ?_
              go_simp
              refine wpAnyH_take (i := 25) (v := undef) rfl (by kernel_rfl) (by kernel_rfl) (by kernel_rfl) (fun _ _ _ h => h) (Or.inr ⟨by rfl, rfl⟩) (by assumption) ?_
              go_simp
              refine wpAnyH_take (i := 26) (v := undef) rfl (by kernel_rfl) (by kernel_rfl) (by kernel_rfl) (fun _ _ _ h => h) (Or.inr ⟨by rfl, rfl⟩) (by assumption) ?_
              go_simp
              refine wpAnyH_take (i := 27) (v := undef) rfl (by kernel_rfl) (by kernel_rfl) (by kernel_rfl) (fun _ _ _ h => h) (Or.inr ⟨by rfl, rfl⟩) (by assumption) ?_
              go_simp
              refine wpAnyH_take (i := 28) (v := undef) rfl (by kernel_rfl) (by kernel_rfl) (by kernel_rfl) (fun _ _ _ h => h) (Or.inr ⟨by rfl, rfl⟩) (by assumption) ?_
              go_simp
              refine wpAnyH_take (i := 29) (v := undef) rfl (by kernel_rfl) (by kernel_rfl) (by kernel_rfl) (fun _ _ _ h => h) (Or.inr ⟨by rfl, rfl⟩) (by assumption) ?_
              go_simp
              refine wpAnyH_take (i := 30) (v := undef) rfl (by kernel_rfl) (by kernel_rfl) (by kernel_rfl) (fun _ _ _ h => h) (Or.inr ⟨by rfl, rfl⟩) (by assumption) ?_
              go_simp
              refine wpAnyH_take (i := 31) (v := undef) rfl (by kernel_rfl) (by kernel_rfl) (by kernel_rfl) (fun _ _ _ h => h) (Or.inr ⟨by rfl, rfl⟩) (by assumption) ?_
              go_simp
              refine wpAnyH_take (i := 32) (v := undef) rfl (by kernel_rfl) (by kernel_rfl) (by kernel_rfl) (fun _ _ _ h => h) (Or.inr ⟨by rfl, rfl⟩) (by assumption) ?_
              go_simp
              refine wpAnyH_take (i := 33) (v := undef) rfl (by kernel_rfl) (by kernel_rfl) (by kernel_rfl) (fun _ _ _ h => h) (Or.inr ⟨by rfl, rfl⟩) (by assumption) ?_
              go_simp
              refine wpAnyH_take (i := 34) (v := undef) rfl (by kernel_rfl) (by kernel_rfl) (by kernel_rfl) (fun _ _ _ h => h) (Or.inr ⟨by rfl, rfl⟩) (by assumption) ?_
              go_simp
              refine wpAnyH_take (i := 35) (v := ?_) rfl (by kernel_rfl) (by kernel_rfl) (by kernel_rfl) (fun _ _ _ h => h) (Or.inl ⟨by rfl, ?_⟩) (by assumption) ?_
              rotate_left
              · intro w hSw; go_simp; try with_reducible rfl
              go_simp
              refine wpAnyH_take (i := 36) (v := ?_) rfl (by kernel_rfl) (by kernel_rfl) (by kernel_rfl) (fun _ _ _ h => h) (Or.inl ⟨by rfl, ?_⟩) (by assumption) ?_
              rotate_left
              · intro w hSw; go_simp; try with_reducible rfl
              go_simp
              refine wpAnyH_done (by kernel_rfl) ?_ _
              go_wp2
              go_roundw
              case rel => exact ⟨p', ⟨uk, ua, un, ub, um⟩, by have := HP.out; omega, by have := HKK.out; rw [show (p' : Int) = pj by omega], NXO.out, NXL.out, NXB.out, NXK.out⟩
              case measure => have := HKK.out; simp [intOf]; omega
            · have g3 : decide (ou < 0) = false := decide_eq_false (by omega)
              by_cases heq9 : ta = ua
              · have g4 : (ou == 0) = true := by rw [beq_iff_eq]; omega
                obtain rfl : ou = 0 := by omega
                by_cases hk9 : tk < uk
                · have NXL := Lib.hid (hnext (by unfold ltT; dsimp only; rw [decide_eq_true heq9, decide_eq_true hk9]; simp))
                  rw [decide_eq_true hk9] at hls
                  clear hown2 hlt2 hbx2 hk2 hkk hp hpl hkn kx hX hbX hownX hkX fo hp0 hu hsu hpn hgp w0' w1' hum hua hou hoo hcu nx hnext hstop hlt9 heq9 hk9
                  go_wp2_with fail
                  refine wp_region_held_drew (S := fun w' => Kp wr w') (by kernel_rfl) ?_ (fun hHeld => ?_)
                  · exact kp_drewR (Kp.refl _)
                  rw [HXW.out] at hHeld ⊢
                  refine wpAnyH_take (i := 0) (v := ?_) rfl (by kernel_rfl) (by kernel_rfl) (by kernel_rfl) (fun _ _ _ h => h) (Or.inl ⟨by rfl, ?_⟩) (by assumption) ?_
                  rotate_left
                  · intro w hSw; go_simp; try with_reducible rfl
                  go_simp
                  refine wpAnyH_take (i := 1) (v := ?_) rfl (by kernel_rfl) (by kernel_rfl) (by kernel_rfl) (fun _ _ _ h => h) (Or.inl ⟨by rfl, ?_⟩) (by assumption) ?_
                  rotate_left
                  · intro w hSw; go_simp; try with_reducible rfl
                  go_simp
                  refine wpAnyH_take (i := 2) (v := ?_) rfl (by kernel_rfl) (by kernel_rfl) (by kernel_rfl) (fun _ _ _ h => h) (Or.inl ⟨by rfl, ?_⟩) (by assumption) ?_
                  rotate_left
                  · intro w hSw; go_simp; try with_reducible rfl
                  go_simp
                  refine wpAnyH_take (i := 3) (v := ?_) rfl (by kernel_rfl) (by kernel_rfl) (by kernel_rfl) (fun _ _ _ h => h) (Or.inl ⟨by rfl, ?_⟩) (by assumption) ?_
                  rotate_left
                  · intro w hSw; go_simp; try with_reducible rfl
                  go_simp
                  refine wpAnyH_take (i := 4) (v := ?_) rfl (by kernel_rfl) (by kernel_rfl) (by kernel_rfl) (fun _ _ _ h => h) (Or.inl ⟨by rfl, ?_⟩) (by assumption) ?_
                  rotate_left
                  · intro w hSw; have q0 := cell_row (i := 1) (kp_row hSw HBX.out) rfl; go_simp; try with_reducible rfl
                  go_simp
                  refine wpAnyH_take (i := 5) (v := ?_) rfl (by kernel_rfl) (by kernel_rfl) (by kernel_rfl) (fun _ _ _ h => h) (Or.inl ⟨by rfl, ?_⟩) (by assumption) ?_
                  rotate_left
                  · intro w hSw; go_simp; try with_reducible rfl
                  go_simp
                  refine wpAnyH_take (i := 6) (v := ?_) rfl (by kernel_rfl) (by kernel_rfl) (by kernel_rfl) (fun _ _ _ h => h) (Or.inl ⟨by rfl, ?_⟩) (by assumption) ?_
                  rotate_left
                  · intro w hSw; go_simp; try with_reducible rfl
                  go_simp
                  refine wpAnyH_take (i := 7) (v := ?_) rfl (by kernel_rfl) (by kernel_rfl) (by kernel_rfl) (fun _ _ _ h => h) (Or.inl ⟨by rfl, ?_⟩) (by assumption) ?_
                  rotate_left
                  · intro w hSw; go_simp; try with_reducible rfl
                  go_simp
                  refine wpAnyH_take (i := 8) (v := ?_) rfl (by kernel_rfl) (by kernel_rfl) (by kernel_rfl) (fun _ _ _ h => h) (Or.inl ⟨by rfl, ?_⟩) (by assumption) ?_
                  rotate_left
                  · intro w hSw; go_simp; try with_reducible rfl
                  go_simp
                  refine wpAnyH_take (i := 9) (v := ?_) rfl (by kernel_rfl) (by kernel_rfl) (by kernel_rfl) (fun _ _ _ h => h) (Or.inl ⟨by rfl, ?_⟩) (by assumption) ?_
                  rotate_left
                  · intro w hSw; go_simp; try with_reducible rfl
                  go_simp
                  refine wpAnyH_take (i := 10) (v := ?_) rfl (by kernel_rfl) (by kernel_rfl) (by kernel_rfl) (fun _ _ _ h => h) (Or.inl ⟨by rfl, ?_⟩) (by assumption) ?_
                  rotate_left
                  · intro w hSw; have q1 := kp_cell hSw HU1.out; go_simp; try with_reducible rfl
                  go_simp
                  refine wpAnyH_ready (rs := [11]) (by kernel_rfl) (by simp) ?_
                  refine AllReadyH.cons rfl (fun K hK => ?_) AllReadyH.nil
                  go_simp
                  go_wp2_with (go_at_call 38; (with_reducible refine (HOU.out _).mono ?_); rintro e' w5 ⟨rfl, rfl⟩)
                  refine hK.out _ _ hHeld (fun hHeld => ?_)
                  clear hK K
                  refine wpAnyH_take (i := 12) (v := ?_) rfl (by kernel_rfl) (by kernel_rfl) (by kernel_rfl) (fun _ _ _ h => h) (Or.inl ⟨by rfl, ?_⟩) (by assumption) ?_
                  rotate_left
                  · intro w hSw; go_simp; try with_reducible rfl
                  go_simp
                  refine wpAnyH_take (i := 13) (v := ?_) rfl (by kernel_rfl) (by kernel_rfl) (by kernel_rfl) (fun _ _ _ h => h) (Or.inl ⟨by rfl, ?_⟩) (by assumption) ?_
                  rotate_left
                  · intro w hSw; go_simp; try with_reducible rfl
                  go_simp
                  refine wpAnyH_take (i := 14) (v := ?_) rfl (by kernel_rfl) (by kernel_rfl) (by kernel_rfl) (fun _ _ _ h => h) (Or.inl ⟨by rfl, ?_⟩) (by assumption) ?_
                  rotate_left
                  · intro w hSw; go_simp; try with_reducible rfl
                  go_simp
                  refine wpAnyH_take (i := 15) (v := ?_) rfl (by kernel_rfl) (by kernel_rfl) (by kernel_rfl) (fun _ _ _ h => h) (Or.inl ⟨by rfl, ?_⟩) (by assumption) ?_
                  rotate_left
                  · intro w hSw; have q0 := cell_row (i := 1) (kp_row hSw HBX.out) rfl; go_simp; try with_reducible rfl
                  go_simp
                  refine wpAnyH_take (i := 16) (v := ?_) rfl (by kernel_rfl) (by kernel_rfl) (by kernel_rfl) (fun _ _ _ h => h) (Or.inl ⟨by rfl, ?_⟩) (by assumption) ?_
                  rotate_left
                  · intro w hSw; go_simp; try with_reducible rfl
                  go_simp
                  refine wpAnyH_take (i := 17) (v := ?_) rfl (by kernel_rfl) (by kernel_rfl) (by kernel_rfl) (fun _ _ _ h => h) (Or.inl ⟨by rfl, ?_⟩) (by assumption) ?_
                  rotate_left
                  · intro w hSw; go_simp; try with_reducible rfl
                  go_simp
                  refine wpAnyH_take (i := 18) (v := ?_) rfl (by kernel_rfl) (by kernel_rfl) (by kernel_rfl) (fun _ _ _ h => h) (Or.inl ⟨by rfl, ?_⟩) (by assumption) ?_
                  rotate_left
                  · intro w hSw; go_simp; try with_reducible rfl
                  go_simp
                  refine wpAnyH_take (i := 19) (v := ?_) rfl (by kernel_rfl) (by kernel_rfl) (by kernel_rfl) (fun _ _ _ h => h) (Or.inl ⟨by rfl, ?_⟩) (by assumption) ?_
                  rotate_left
                  · intro w hSw; go_simp; try with_reducible rfl
                  go_simp
                  refine wpAnyH_take (i := 20) (v := ?_) rfl (by kernel_rfl) (by kernel_rfl) (by kernel_rfl) (fun _ _ _ h => h) (Or.inl ⟨by rfl, ?_⟩) (by assumption) ?_
                  rotate_left
                  · intro w hSw; go_simp; try with_reducible rfl
                  go_simp
                  refine wpAnyH_take (i := 21) (v := ?_) rfl (by kernel_rfl) (by kernel_rfl) (by kernel_rfl) (fun _ _ _ h => h) (Or.inl ⟨by rfl, ?_⟩) (by assumption) ?_
                  rotate_left
                  · intro w hSw; have q1 := kp_cell hSw HU1.out; go_simp; try with_reducible rfl
                  go_simp
                  refine wpAnyH_ready (rs := [22]) (by kernel_rfl) (by simp) ?_
                  refine AllReadyH.cons rfl (fun K hK => ?_) AllReadyH.nil
                  go_simp
                  go_wp2_with (go_at_call 38; (with_reducible refine (HOU.out _).mono ?_); rintro e' w5 ⟨rfl, rfl⟩)
                  refine hK.out _ _ hHeld (fun hHeld => ?_)
                  clear hK K
                  refine wpAnyH_take (i := 23) (v := ?_) rfl (by kernel_rfl) (by kernel_rfl) (by kernel_rfl) (fun _ _ _ h => h) (Or.inl ⟨by rfl, ?_⟩) (by assumption) ?_
                  rotate_left
                  · intro w hSw; go_simp; try with_reducible rfl
                  go_simp
                  refine wpAnyH_take (i := 24) (v := ?_) rfl (by kernel_rfl) (by kernel_rfl) (by kernel_rfl) (fun _ _ _ h => h) (Or.inl ⟨by rfl, ?_⟩) (by assumption) ?_
                  rotate_left
                  · intro w hSw; go_simp; try with_reducible rfl
                  go_simp
                  refine wpAnyH_take (i := 25) (v := ?_) rfl (by kernel_rfl) (by kernel_rfl) (by kernel_rfl) (fun _ _ _ h => h) (Or.inl ⟨by rfl, ?_⟩) (by assumption) ?_
                  rotate_left
                  · intro w hSw; go_simp; try with_reducible rfl
                  go_simp
                  refine wpAnyH_take (i := 26) (v := ?_) rfl (by kernel_rfl) (by kernel_rfl) (by kernel_rfl) (fun _ _ _ h => h) (Or.inl ⟨by rfl, ?_⟩) (by assumption) ?_
                  rotate_left
                  · intro w hSw; have q0 := cell_row (i := 0) (kp_row hSw HBX.out) rfl; go_simp; try with_reducible rfl
                  go_simp
                  refine wpAnyH_take (i := 27) (v := ?_) rfl (by kernel_rfl) (by kernel_rfl) (by kernel_rfl) (fun _ _ _ h => h) (Or.inl ⟨by rfl, ?_⟩) (by assumption) ?_
                  rotate_left
                  · intro w hSw; go_simp; try with_reducible rfl
                  go_simp
                  refine wpAnyH_take (i := 28) (v := ?_) rfl (by kernel_rfl) (by kernel_rfl) (by kernel_rfl) (fun _ _ _ h => h) (Or.inl ⟨by rfl, ?_⟩) (by assumption) ?_
                  rotate_left
                  · intro w hSw; go_simp; try with_reducible rfl
                  go_simp
                  refine wpAnyH_take (i := 29) (v := ?_) rfl (by kernel_rfl) (by kernel_rfl) (by kernel_rfl) (fun _ _ _ h => h) (Or.inl ⟨by rfl, ?_⟩) (by assumption) ?_
                  rotate_left
                  · intro w hSw; go_simp; try with_reducible rfl
                  go_simp
                  refine wpAnyH_take (i := 30) (v := ?_) rfl (by kernel_rfl) (by kernel_rfl) (by kernel_rfl) (fun _ _ _ h => h) (Or.inl ⟨by rfl, ?_⟩) (by assumption) ?_
                  rotate_left
                  · intro w hSw; go_simp; try with_reducible rfl
                  go_simp
                  refine wpAnyH_take (i := 31) (v := ?_) rfl (by kernel_rfl) (by kernel_rfl) (by kernel_rfl) (fun _ _ _ h => h) (Or.inl ⟨by rfl, ?_⟩) (by assumption) ?_
                  rotate_left
                  · intro w hSw; go_simp; try with_reducible rfl
                  go_simp
                  refine wpAnyH_take (i := 32) (v := ?_) rfl (by kernel_rfl) (by kernel_rfl) (by kernel_rfl) (fun _ _ _ h => h) (Or.inl ⟨by rfl, ?_⟩) (by assumption) ?_
                  rotate_left
                  · intro w hSw; have q1 := kp_cell hSw HU0.out; go_simp; try with_reducible rfl
                  go_simp
                  refine wpAnyH_take (i := 33) (v := ?_) rfl (by kernel_rfl) (by kernel_rfl) (by kernel_rfl) (fun _ _ _ h => h) (Or.inl ⟨by rfl, ?_⟩) (by assumption) ?_
                  rotate_left
                  · intro w hSw; go_simp; try with_reducible rfl
                  go_simp
                  refine wpAnyH_take (i := 34) (v := ?_) rfl (by kernel_rfl) (by kernel_rfl) (by kernel_rfl) (fun _ _ _ h => h) (Or.inl ⟨by rfl, ?_⟩) (by assumption) ?_
                  rotate_left
                  · intro w hSw; go_simp; try with_reducible rfl
                  go_simp
                  refine wpAnyH_take (i := 35) (v := ?_) rfl (by kernel_rfl) (by kernel_rfl) (by kernel_rfl) (fun _ _ _ h => h) (Or.inl ⟨by rfl, ?_⟩) (by assumption) ?_
                  rotate_left
                  · intro w hSw; go_simp; try with_reducible rfl
                  go_simp
                  refine wpAnyH_take (i := 36) (v := ?_) rfl (by kernel_rfl) (by kernel_rfl) (by kernel_rfl) (fun _ _ _ h => h) (Or.inl ⟨by rfl, ?_⟩) (by assumption) ?_
                  rotate_left
                  · intro w hSw; go_simp; try with_reducible rfl
                  go_simp
                  refine wpAnyH_done (by kernel_rfl) ?_ _
                  go_wp2
                  go_roundw
                  case rel => exact ⟨p', ⟨uk, ua, un, ub, um⟩, by have := HP.out; omega, by have := HKK.out; rw [show (p' : Int) = pj by omega], NXO.out, NXL.out, NXB.out, NXK.out⟩
                  case measure => have := HKK.out; simp [intOf]; omega
                · have FINS := Lib.hid (hstop (by unfold ltT; dsimp only; rw [decide_eq_false hlt9, decide_eq_false hk9, Bool.and_false, Bool.or_false]))
                  rw [decide_eq_false hk9] at hls
                  clear hown2 hlt2 hbx2 hk2 hkk hp hpl hkn kx hX hbX hownX hkX fo hp0 hu hsu hpn hgp w0' w1' hum hua hou hoo hcu nx hnext hstop hlt9 heq9 hk9
                  go_wp2_with fail
                  refine wp_region_held_drew (S := fun w' => Kp wr w') (by kernel_rfl) ?_ (fun hHeld => ?_)
                  · exact kp_drewR (Kp.refl _)
                  rw [HXW.out] at hHeld ⊢
                  refine wpAnyH_take (i := 0) (v := ?_) rfl (by kernel_rfl) (by kernel_rfl) (by kernel_rfl) (fun _ _ _ h => h) (Or.inl ⟨by rfl, ?_⟩) (by assumption) ?_
                  rotate_left
                  · intro w hSw; go_simp; try with_reducible rfl
                  go_simp
                  refine wpAnyH_take (i := 1) (v := ?_) rfl (by kernel_rfl) (by kernel_rfl) (by kernel_rfl) (fun _ _ _ h => h) (Or.inl ⟨by rfl, ?_⟩) (by assumption) ?_
                  rotate_left
                  · intro w hSw; go_simp; try with_reducible rfl
                  go_simp
                  refine wpAnyH_take (i := 2) (v := ?_) rfl (by kernel_rfl) (by kernel_rfl) (by kernel_rfl) (fun _ _ _ h => h) (Or.inl ⟨by rfl, ?_⟩) (by assumption) ?_
                  rotate_left
                  · intro w hSw; go_simp; try with_reducible rfl
                  go_simp
                  refine wpAnyH_take (i := 3) (v := ?_) rfl (by kernel_rfl) (by kernel_rfl) (by kernel_rfl) (fun _ _ _ h => h) (Or.inl ⟨by rfl, ?_⟩) (by assumption) ?_
                  rotate_left
                  · intro w hSw; go_simp; try with_reducible rfl
                  go_simp
                  refine wpAnyH_take (i := 4) (v := ?_) rfl (by kernel_rfl) (by kernel_rfl) (by kernel_rfl) (fun _ _ _ h => h) (Or.inl ⟨by rfl, ?_⟩) (by assumption) ?_
                  rotate_left
                  · intro w hSw; have q0 := cell_row (i := 1) (kp_row hSw HBX.out) rfl; go_simp; try with_reducible rfl
                  go_simp
                  refine wpAnyH_take (i := 5) (v := ?_) rfl (by kernel_rfl) (by kernel_rfl) (by kernel_rfl) (fun _ _ _ h => h) (Or.inl ⟨by rfl, ?_⟩) (by assumption) ?_
                  rotate_left
                  · intro w hSw; go_simp; try with_reducible rfl
                  go_simp
                  refine wpAnyH_take (i := 6) (v := ?_) rfl (by kernel_rfl) (by kernel_rfl) (by kernel_rfl) (fun _ _ _ h => h) (Or.inl ⟨by rfl, ?_⟩) (by assumption) ?_
                  rotate_left
                  · intro w hSw; go_simp; try with_reducible rfl
                  go_simp
                  refine wpAnyH_take (i := 7) (v := ?_) rfl (by kernel_rfl) (by kernel_rfl) (by kernel_rfl) (fun _ _ _ h => h) (Or.inl ⟨by rfl, ?_⟩) (by assumption) ?_
                  rotate_left
                  · intro w hSw; go_simp; try with_reducible rfl
                  go_simp
                  refine wpAnyH_take (i := 8) (v := ?_) rfl (by kernel_rfl) (by kernel_rfl) (by kernel_rfl) (fun _ _ _ h => h) (Or.inl ⟨by rfl, ?_⟩) (by assumption) ?_
                  rotate_left
                  · intro w hSw; go_simp; try with_reducible rfl
                  go_simp
                  refine wpAnyH_take (i := 9) (v := ?_) rfl (by kernel_rfl) (by kernel_rfl) (by kernel_rfl) (fun _ _ _ h => h) (Or.inl ⟨by rfl, ?_⟩) (by assumption) ?_
                  rotate_left
                  · intro w hSw; go_simp; try with_reducible rfl
                  go_simp
                  refine wpAnyH_take (i := 10) (v := ?_) rfl (by kernel_rfl) (by kernel_rfl) (by kernel_rfl) (fun _ _ _ h => h) (Or.inl ⟨by rfl, ?_⟩) (by assumption) ?_
                  rotate_left
                  · intro w hSw; have q1 := kp_cell hSw HU1.out; go_simp; try with_reducible rfl
                  go_simp
                  refine wpAnyH_ready (rs := [11]) (by kernel_rfl) (by simp) ?_
                  refine AllReadyH.cons rfl (fun K hK => ?_) AllReadyH.nil
                  go_simp
                  go_wp2_with (go_at_call 38; (with_reducible refine (HOU.out _).mono ?_); rintro e' w5 ⟨rfl, rfl⟩)
                  refine hK.out _ _ hHeld (fun hHeld => ?_)
                  clear hK K
                  refine wpAnyH_take (i := 12) (v := ?_) rfl (by kernel_rfl) (by kernel_rfl) (by kernel_rfl) (fun _ _ _ h => h) (Or.inl ⟨by rfl, ?_⟩) (by assumption) ?_
                  rotate_left
                  · intro w hSw; go_simp; try with_reducible rfl
                  go_simp
                  refine wpAnyH_take (i := 13) (v := ?_) rfl (by kernel_rfl) (by kernel_rfl) (by kernel_rfl) (fun _ _ _ h => h) (Or.inl ⟨by rfl, ?_⟩) (by assumption) ?_
                  rotate_left
                  · intro w hSw; go_simp; try with_reducible rfl
                  go_simp
                  refine wpAnyH_take (i := 14) (v := ?_) rfl (by kernel_rfl) (by kernel_rfl) (by kernel_rfl) (fun _ _ _ h => h) (Or.inl ⟨by rfl, ?_⟩) (by assumption) ?_
                  rotate_left
                  · intro w hSw; go_simp; try with_reducible rfl
                  go_simp
                  refine wpAnyH_take (i := 15) (v := ?_) rfl (by kernel_rfl) (by kernel_rfl) (by kernel_rfl) (fun _ _ _ h => h) (Or.inl ⟨by rfl, ?_⟩) (by assumption) ?_
                  rotate_left
                  · intro w hSw; have q0 := cell_row (i := 1) (kp_row hSw HBX.out) rfl; go_simp; try with_reducible rfl
                  go_simp
                  refine wpAnyH_take (i := 16) (v := ?_) rfl (by kernel_rfl) (by kernel_rfl) (by kernel_rfl) (fun _ _ _ h => h) (Or.inl ⟨by rfl, ?_⟩) (by assumption) ?_
                  rotate_left
                  · intro w hSw; go_simp; try with_reducible rfl
                  go_simp
                  refine wpAnyH_take (i := 17) (v := ?_) rfl (by kernel_rfl) (by kernel_rfl) (by kernel_rfl) (fun _ _ _ h => h) (Or.inl ⟨by rfl, ?_⟩) (by assumption) ?_
                  rotate_left
                  · intro w hSw; go_simp; try with_reducible rfl
                  go_simp
                  refine wpAnyH_take (i := 18) (v := ?_) rfl (by kernel_rfl) (by kernel_rfl) (by kernel_rfl) (fun _ _ _ h => h) (Or.inl ⟨by rfl, ?_⟩) (by assumption) ?_
                  rotate_left
                  · intro w hSw; go_simp; try with_reducible rfl
                  go_simp
                  refine wpAnyH_take (i := 19) (v := ?_) rfl (by kernel_rfl) (by kernel_rfl) (by kernel_rfl) (fun _ _ _ h => h) (Or.inl ⟨by rfl, ?_⟩) (by assumption) ?_
                  rotate_left
                  · intro w hSw; go_simp; try with_reducible rfl
                  go_simp
                  refine wpAnyH_take (i := 20) (v := ?_) rfl (by kernel_rfl) (by kernel_rfl) (by kernel_rfl) (fun _ _ _ h => h) (Or.inl ⟨by rfl, ?_⟩) (by assumption) ?_
                  rotate_left
                  · intro w hSw; go_simp; try with_reducible rfl
                  go_simp
                  refine wpAnyH_take (i := 21) (v := ?_) rfl (by kernel_rfl) (by kernel_rfl) (by kernel_rfl) (fun _ _ _ h => h) (Or.inl ⟨by rfl, ?_⟩) (by assumption) ?_
                  rotate_left
                  · intro w hSw; have q1 := kp_cell hSw HU1.out; go_simp; try with_reducible rfl
                  go_simp
                  refine wpAnyH_ready (rs := [22]) (by kernel_rfl) (by simp) ?_
                  refine AllReadyH.cons rfl (fun K hK => ?_) AllReadyH.nil
                  go_simp
                  go_wp2_with (go_at_call 38; (with_reducible refine (HOU.out _).mono ?_); rintro e' w5 ⟨rfl, rfl⟩)
                  refine hK.out _ _ hHeld (fun hHeld => ?_)
                  clear hK K
                  refine wpAnyH_take (i := 23) (v := ?_) rfl (by kernel_rfl) (by kernel_rfl) (by kernel_rfl) (fun _ _ _ h => h) (Or.inl ⟨by rfl, ?_⟩) (by assumption) ?_
                  rotate_left
                  · intro w hSw; go_simp; try with_reducible rfl
                  go_simp
                  refine wpAnyH_take (i := 24) (v := ?_) rfl (by kernel_rfl) (by kernel_rfl) (by kernel_rfl) (fun _ _ _ h => h) (Or.inl ⟨by rfl, ?_⟩) (by assumption) ?_
                  rotate_left
                  · intro w hSw; go_simp; try with_reducible rfl
                  go_simp
                  refine wpAnyH_take (i := 25) (v := ?_) rfl (by kernel_rfl) (by kernel_rfl) (by kernel_rfl) (fun _ _ _ h => h) (Or.inl ⟨by rfl, ?_⟩) (by assumption) ?_
                  rotate_left
                  · intro w hSw; go_simp; try with_reducible rfl
                  go_simp
                  refine wpAnyH_take (i := 26) (v := ?_) rfl (by kernel_rfl) (by kernel_rfl) (by kernel_rfl) (fun _ _ _ h => h) (Or.inl ⟨by rfl, ?_⟩) (by assumption) ?_
                  rotate_left
                  · intro w hSw; have q0 := cell_row (i := 0) (kp_row hSw HBX.out) rfl; go_simp; try with_reducible rfl
                  go_simp
                  refine wpAnyH_take (i := 27) (v := ?_) rfl (by kernel_rfl) (by kernel_rfl) (by kernel_rfl) (fun _ _ _ h => h) (Or.inl ⟨by rfl, ?_⟩) (by assumption) ?_
                  rotate_left
                  · intro w hSw; go_simp; try with_reducible rfl
                  go_simp
                  refine wpAnyH_take (i := 28) (v := ?_) rfl (by kernel_rfl) (by kernel_rfl) (by kernel_rfl) (fun _ _ _ h => h) (Or.inl ⟨by rfl, ?_⟩) (by assumption) ?_
                  rotate_left
                  · intro w hSw; go_simp; try with_reducible rfl
                  go_simp
                  refine wpAnyH_take (i := 29) (v := ?_) rfl (by kernel_rfl) (by kernel_rfl) (by kernel_rfl) (fun _ _ _ h => h) (Or.inl ⟨by rfl, ?_⟩) (by assumption) ?_
                  rotate_left
                  · intro w hSw; go_simp; try with_reducible rfl
                  go_simp
                  refine wpAnyH_take (i := 30) (v := ?_) rfl (by kernel_rfl) (by kernel_rfl) (by kernel_rfl) (fun _ _ _ h => h) (Or.inl ⟨by rfl, ?_⟩) (by assumption) ?_
                  rotate_left
                  · intro w hSw; go_simp; try with_reducible rfl
                  go_simp
                  refine wpAnyH_take (i := 31) (v := ?_) rfl (by kernel_rfl) (by kernel_rfl) (by kernel_rfl) (fun _ _ _ h => h) (Or.inl ⟨by rfl, ?_⟩) (by assumption) ?_
                  rotate_left
                  · intro w hSw; go_simp; try with_reducible rfl
                  go_simp
                  refine wpAnyH_take (i := 32) (v := ?_) rfl (by kernel_rfl) (by kernel_rfl) (by kernel_rfl) (fun _ _ _ h => h) (Or.inl ⟨by rfl, ?_⟩) (by assumption) ?_
                  rotate_left
                  · intro w hSw; have q1 := kp_cell hSw HU0.out; go_simp; try with_reducible rfl
                  go_simp
                  refine wpAnyH_take (i := 33) (v := ?_) rfl (by kernel_rfl) (by kernel_rfl) (by kernel_rfl) (fun _ _ _ h => h) (Or.inl ⟨by rfl, ?_⟩) (by assumption) ?_
                  rotate_left
                  · intro w hSw; go_simp; try with_reducible rfl
                  go_simp
                  refine wpAnyH_take (i := 34) (v := ?_) rfl (by kernel_rfl) (by kernel_rfl) (by kernel_rfl) (fun _ _ _ h => h) (Or.inl ⟨by rfl, ?_⟩) (by assumption) ?_
                  rotate_left
                  · intro w hSw; go_simp; try with_reducible rfl
                  go_simp
                  refine wpAnyH_take (i := 35) (v := ?_) rfl (by kernel_rfl) (by kernel_rfl) (by kernel_rfl) (fun _ _ _ h => h) (Or.inl ⟨by rfl, ?_⟩) (by assumption) ?_
                  rotate_left
                  · intro w hSw; go_simp; try with_reducible rfl
                  go_simp
                  refine wpAnyH_take (i := 36) (v := ?_) rfl (by kernel_rfl) (by kernel_rfl) (by kernel_rfl) (fun _ _ _ h => h) (Or.inl ⟨by rfl, ?_⟩) (by assumption) ?_
                  rotate_left
                  · intro w hSw; go_simp; try with_reducible rfl
                  go_simp
                  refine wpAnyH_done (by kernel_rfl) ?_ _
                  go_wp2
                  go_roundw
                  case rel => exact ⟨j + 1, gap l (p' + 1) ⟨tk, ta, tn, tb, tm⟩, by have := HLT.out; omega, by have := HJ.out; rw [show ((j + 1 : Nat) : Int) = jj + 1 by omega], FINO.out, FINP.out, FINS.out, FINK.out⟩
                  case measure => have := HJ.out; have := HLT.out; simp [intOf]; omega
              · have g4 : (ou == 0) = false := by rw [beq_eq_false_iff_ne]; omega
                have g5 : ¬ ou = 0 := by omega
                have FINS := Lib.hid (hstop (by unfold ltT; dsimp only; rw [decide_eq_false hlt9, decide_eq_false heq9]; rfl))
                clear hown2 hlt2 hbx2 hk2 hkk hp hpl hkn kx hX hbX hownX hkX fo hp0 hu hsu hpn hgp w0' w1' hum hua hou hoo hcu hls nx hnext hstop hlt9 heq9
                go_wp2_with fail
                refine wp_region_held_drew (S := fun w' => Kp wr w') (by kernel_rfl) ?_ (fun hHeld => ?_)
                · exact kp_drewR (Kp.refl _)
                rw [HXW.out] at hHeld ⊢
                refine wpAnyH_take (i := 0) (v := ?_) rfl (by kernel_rfl) (by kernel_rfl) (by kernel_rfl) (fun _ _ _ h => h) (Or.inl ⟨by rfl, ?_⟩) (by assumption) ?_
                rotate_left
                · intro w hSw; go_simp; try with_reducible rfl
                go_simp
                refine wpAnyH_take (i := 1) (v := ?_) rfl (by kernel_rfl) (by kernel_rfl) (by kernel_rfl) (fun _ _ _ h => h) (Or.inl ⟨by rfl, ?_⟩) (by assumption) ?_
                rotate_left
                · intro w hSw; go_simp; try with_reducible rfl
                go_simp
                refine wpAnyH_take (i := 2) (v := ?_) rfl (by kernel_rfl) (by kernel_rfl) (by kernel_rfl) (fun _ _ _ h => h) (Or.inl ⟨by rfl, ?_⟩) (by assumption) ?_
                rotate_left
                · intro w hSw; go_simp; try with_reducible rfl
                go_simp
                refine wpAnyH_take (i := 3) (v := ?_) rfl (by kernel_rfl) (by kernel_rfl) (by kernel_rfl) (fun _ _ _ h => h) (Or.inl ⟨by rfl, ?_⟩) (by assumption) ?_
                rotate_left
                · intro w hSw; go_simp; try with_reducible rfl
                go_simp
                refine wpAnyH_take (i := 4) (v := ?_) rfl (by kernel_rfl) (by kernel_rfl) (by kernel_rfl) (fun _ _ _ h => h) (Or.inl ⟨by rfl, ?_⟩) (by assumption) ?_
                rotate_left
                · intro w hSw; have q0 := cell_row (i := 1) (kp_row hSw HBX.out) rfl; go_simp; try with_reducible rfl
                go_simp
                refine wpAnyH_take (i := 5) (v := ?_) rfl (by kernel_rfl) (by kernel_rfl) (by kernel_rfl) (fun _ _ _ h => h) (Or.inl ⟨by rfl, ?_⟩) (by assumption) ?_
                rotate_left
                · intro w hSw; go_simp; try with_reducible rfl
                go_simp
                refine wpAnyH_take (i := 6) (v := ?_) rfl (by kernel_rfl) (by kernel_rfl) (by kernel_rfl) (fun _ _ _ h => h) (Or.inl ⟨by rfl, ?_⟩) (by assumption) ?_
                rotate_left
                · intro w hSw; go_simp; try with_reducible rfl
                go_simp
                refine wpAnyH_take (i := 7) (v := ?_) rfl (by kernel_rfl) (by kernel_rfl) (by kernel_rfl) (fun _ _ _ h => h) (Or.inl ⟨by rfl, ?_⟩) (by assumption) ?_
                rotate_left
                · intro w hSw; go_simp; try with_reducible rfl
                go_simp
                refine wpAnyH_take (i := 8) (v := ?_) rfl (by kernel_rfl) (by kernel_rfl) (by kernel_rfl) (fun _ _ _ h => h) (Or.inl ⟨by rfl, ?_⟩) (by assumption) ?_
                rotate_left
                · intro w hSw; go_simp; try with_reducible rfl
                go_simp
                refine wpAnyH_take (i := 9) (v := ?_) rfl (by kernel_rfl) (by kernel_rfl) (by kernel_rfl) (fun _ _ _ h => h) (Or.inl ⟨by rfl, ?_⟩) (by assumption) ?_
                rotate_left
                · intro w hSw; go_simp; try with_reducible rfl
                go_simp
                refine wpAnyH_take (i := 10) (v := ?_) rfl (by kernel_rfl) (by kernel_rfl) (by kernel_rfl) (fun _ _ _ h => h) (Or.inl ⟨by rfl, ?_⟩) (by assumption) ?_
                rotate_left
                · intro w hSw; have q1 := kp_cell hSw HU1.out; go_simp; try with_reducible rfl
                go_simp
                refine wpAnyH_ready (rs := [11]) (by kernel_rfl) (by simp) ?_
                refine AllReadyH.cons rfl (fun K hK => ?_) AllReadyH.nil
                go_simp
                go_wp2_with (go_at_call 38; (with_reducible refine (HOU.out _).mono ?_); rintro e' w5 ⟨rfl, rfl⟩)
                refine hK.out _ _ hHeld (fun hHeld => ?_)
                clear hK K
                refine wpAnyH_take (i := 12) (v := ?_) rfl (by kernel_rfl) (by kernel_rfl) (by kernel_rfl) (fun _ _ _ h => h) (Or.inl ⟨by rfl, ?_⟩) (by assumption) ?_
                rotate_left
                · intro w hSw; go_simp; try with_reducible rfl
                go_simp
                refine wpAnyH_take (i := 13) (v := ?_) rfl (by kernel_rfl) (by kernel_rfl) (by kernel_rfl) (fun _ _ _ h => h) (Or.inl ⟨by rfl, ?_⟩) (by assumption) ?_
                rotate_left
                · intro w hSw; go_simp; try with_reducible rfl
                go_simp
                refine wpAnyH_take (i := 14) (v := ?_) rfl (by kernel_rfl) (by kernel_rfl) (by kernel_rfl) (fun _ _ _ h => h) (Or.inl ⟨by rfl, ?_⟩) (by assumption) ?_
                rotate_left
                · intro w hSw; go_simp; try with_reducible rfl
                go_simp
                refine wpAnyH_take (i := 15) (v := ?_) rfl (by kernel_rfl) (by kernel_rfl) (by kernel_rfl) (fun _ _ _ h => h) (Or.inl ⟨by rfl, ?_⟩) (by assumption) ?_
                rotate_left
                · intro w hSw; have q0 := cell_row (i := 1) (kp_row hSw HBX.out) rfl; go_simp; try with_reducible rfl
                go_simp
                refine wpAnyH_take (i := 16) (v := ?_) rfl (by kernel_rfl) (by kernel_rfl) (by kernel_rfl) (fun _ _ _ h => h) (Or.inl ⟨by rfl, ?_⟩) (by assumption) ?_
                rotate_left
                · intro w hSw; go_simp; try with_reducible rfl
                go_simp
                refine wpAnyH_take (i := 17) (v := ?_) rfl (by kernel_rfl) (by kernel_rfl) (by kernel_rfl) (fun _ _ _ h => h) (Or.inl ⟨by rfl, ?_⟩) (by assumption) ?_
                rotate_left
                · intro w hSw; go_simp; try with_reducible rfl
                go_simp
                refine wpAnyH_take (i := 18) (v := ?_) rfl (by kernel_rfl) (by kernel_rfl) (by kernel_rfl) (fun _ _ _ h => h) (Or.inl ⟨by rfl, ?_⟩) (by assumption) ?_
                rotate_left
                · intro w hSw; go_simp; try with_reducible rfl
                go_simp
                refine wpAnyH_take (i := 19) (v := ?_) rfl (by kernel_rfl) (by kernel_rfl) (by kernel_rfl) (fun _ _ _ h => h) (Or.inl ⟨by rfl, ?_⟩) (by assumption) ?_
                rotate_left
                · intro w hSw; go_simp; try with_reducible rfl
                go_simp
                refine wpAnyH_take (i := 20) (v := ?_) rfl (by kernel_rfl) (by kernel_rfl) (by kernel_rfl) (fun _ _ _ h => h) (Or.inl ⟨by rfl, ?_⟩) (by assumption) ?_
                rotate_left
                · intro w hSw; go_simp; try with_reducible rfl
                go_simp
                refine wpAnyH_take (i := 21) (v := ?_) rfl (by kernel_rfl) (by kernel_rfl) (by kernel_rfl) (fun _ _ _ h => h) (Or.inl ⟨by rfl, ?_⟩) (by assumption) ?_
                rotate_left
                · intro w hSw; have q1 := kp_cell hSw HU1.out; go_simp; try with_reducible rfl
                go_simp
                refine wpAnyH_ready (rs := [22]) (by kernel_rfl) (by simp) ?_
                refine AllReadyH.cons rfl (fun K hK => ?_) AllReadyH.nil
                go_simp
                go_wp2_with (go_at_call 38; (with_reducible refine (HOU.out _).mono ?_); rintro e' w5 ⟨rfl, rfl⟩)
                refine hK.out _ _ hHeld (fun hHeld => ?_)
                clear hK K
                refine wpAnyH_take (i := 23) (v := ?_) rfl (by kernel_rfl) (by kernel_rfl) (by kernel_rfl) (fun _ _ _ h => h) (Or.inl ⟨by rfl, ?_⟩) (by assumption) ?_
                rotate_left
                · intro w hSw; go_simp; try with_reducible rfl
                go_simp
                refine wpAnyH_take (i := 24) (v := ?_) rfl (by kernel_rfl) (by kernel_rfl) (by kernel_rfl) (fun _ _ _ h => h) (Or.inl ⟨by rfl, ?_⟩) (by assumption) ?_
                rotate_left
                · intro w hSw; go_simp; try with_reducible rfl
                go_simp
                refine wpAnyH_take (i := 25) (v := undef) rfl (by kernel_rfl) (by kernel_rfl) (by kernel_rfl) (fun _ _ _ h => h) (Or.inr ⟨by rfl, rfl⟩) (by assumption) ?_
                go_simp
                refine wpAnyH_take (i := 26) (v := undef) rfl (by kernel_rfl) (by kernel_rfl) (by kernel_rfl) (fun _ _ _ h => h) (Or.inr ⟨by rfl, rfl⟩) (by assumption) ?_
                go_simp
                refine wpAnyH_take (i := 27) (v := undef) rfl (by kernel_rfl) (by kernel_rfl) (by kernel_rfl) (fun _ _ _ h => h) (Or.inr ⟨by rfl, rfl⟩) (by assumption) ?_
                go_simp
                refine wpAnyH_take (i := 28) (v := undef) rfl (by kernel_rfl) (by kernel_rfl) (by kernel_rfl) (fun _ _ _ h => h) (Or.inr ⟨by rfl, rfl⟩) (by assumption) ?_
                go_simp
                refine wpAnyH_take (i := 29) (v := undef) rfl (by kernel_rfl) (by kernel_rfl) (by kernel_rfl) (fun _ _ _ h => h) (Or.inr ⟨by rfl, rfl⟩) (by assumption) ?_
                go_simp
                refine wpAnyH_take (i := 30) (v := undef) rfl (by kernel_rfl) (by kernel_rfl) (by kernel_rfl) (fun _ _ _ h => h) (Or.inr ⟨by rfl, rfl⟩) (by assumption) ?_
                go_simp
                refine wpAnyH_take (i := 31) (v := undef) rfl (by kernel_rfl) (by kernel_rfl) (by kernel_rfl) (fun _ _ _ h => h) (Or.inr ⟨by rfl, rfl⟩) (by assumption) ?_
                go_simp
                refine wpAnyH_take (i := 32) (v := undef) rfl (by kernel_rfl) (by kernel_rfl) (by kernel_rfl) (fun _ _ _ h => h) (Or.inr ⟨by rfl, rfl⟩) (by assumption) ?_
                go_simp
                refine wpAnyH_take (i := 33) (v := undef) rfl (by kernel_rfl) (by kernel_rfl) (by kernel_rfl) (fun _ _ _ h => h) (Or.inr ⟨by rfl, rfl⟩) (by assumption) ?_
                go_simp
                refine wpAnyH_take (i := 34) (v := ?_) rfl (by kernel_rfl) (by kernel_rfl) (by kernel_rfl) (fun _ _ _ h => h) (Or.inl ⟨by rfl, ?_⟩) (by assumption) ?_
                rotate_left
                · intro w hSw; go_simp; try with_reducible rfl
                go_simp
                refine wpAnyH_take (i := 35) (v := ?_) rfl (by kernel_rfl) (by kernel_rfl) (by kernel_rfl) (fun _ _ _ h => h) (Or.inl ⟨by rfl, ?_⟩) (by assumption) ?_
                rotate_left
                · intro w hSw; go_simp; try with_reducible rfl
                go_simp
                refine wpAnyH_take (i := 36) (v := ?_) rfl (by kernel_rfl) (by kernel_rfl) (by kernel_rfl) (fun _ _ _ h => h) (Or.inl ⟨by rfl, ?_⟩) (by assumption) ?_
                rotate_left
                · intro w hSw; go_simp; try with_reducible rfl
                go_simp
                refine wpAnyH_done (by kernel_rfl) ?_ _
                go_wp2
                go_roundw
                case rel => exact ⟨j + 1, gap l (p' + 1) ⟨tk, ta, tn, tb, tm⟩, by have := HLT.out; omega, by have := HJ.out; rw [show ((j + 1 : Nat) : Int) = jj + 1 by omega], FINO.out, FINP.out, FINS.out, FINK.out⟩
                case measure => have := HJ.out; have := HLT.out; simp [intOf]; omega
      · have g1 : decide (od > 0) = true := decide_eq_true (by omega)
        have HDU := Lib.hid hdue
        have OW := Lib.hid (own_stayG hown (fun b hb => Below.block KYD.out b (hown.lt b hb).2))
        have KW3 := Lib.hid (Kp.trans hk KYD.out)
        clear hown hpm hso hk hjj hj hlt ht hjo htk hta htn hor hod hcs hby hYs ky hdue
        go_wp2_with fail
        refine wp_region_held_drew (S := fun w' => Kp Y w') (by kernel_rfl) ?_ (fun hHeld => ?_)
        · exact kp_drewR (Kp.refl _)
        refine wpAnyH_take (i := 0) (v := ?_) rfl (by kernel_rfl) (by kernel_rfl) (by kernel_rfl) (fun _ _ _ h => h) (Or.inl ⟨by rfl, ?_⟩) (by assumption) ?_
        rotate_left
        · intro w hSw; go_simp; try with_reducible rfl
        go_simp
        refine wpAnyH_take (i := 1) (v := ?_) rfl (by kernel_rfl) (by kernel_rfl) (by kernel_rfl) (fun _ _ _ h => h) (Or.inl ⟨by rfl, ?_⟩) (by assumption) ?_
        rotate_left
        · intro w hSw; have q0 := cell_row (i := 1) (kp_row hSw HBX.out) rfl; go_simp; try with_reducible rfl
        go_simp
        refine wpAnyH_take (i := 2) (v := ?_) rfl (by kernel_rfl) (by kernel_rfl) (by kernel_rfl) (fun _ _ _ h => h) (Or.inl ⟨by rfl, ?_⟩) (by assumption) ?_
        rotate_left
        · intro w hSw; go_simp; try with_reducible rfl
        go_simp
        refine wpAnyH_take (i := 3) (v := ?_) rfl (by kernel_rfl) (by kernel_rfl) (by kernel_rfl) (fun _ _ _ h => h) (Or.inl ⟨by rfl, ?_⟩) (by assumption) ?_
        rotate_left
        · intro w hSw; go_simp; try with_reducible rfl
        go_simp
        refine wpAnyH_take (i := 4) (v := ?_) rfl (by kernel_rfl) (by kernel_rfl) (by kernel_rfl) (fun _ _ _ h => h) (Or.inl ⟨by rfl, ?_⟩) (by assumption) ?_
        rotate_left
        · intro w hSw; go_simp; try with_reducible rfl
        go_simp
        refine wpAnyH_take (i := 5) (v := ?_) rfl (by kernel_rfl) (by kernel_rfl) (by kernel_rfl) (fun _ _ _ h => h) (Or.inl ⟨by rfl, ?_⟩) (by assumption) ?_
        rotate_left
        · intro w hSw; have q1 := kp_cell hSw HE0.out; go_simp; try with_reducible rfl
        go_simp
        refine wpAnyH_ready (rs := [6]) (by kernel_rfl) (by simp) ?_
        refine AllReadyH.cons rfl (fun K hK => ?_) AllReadyH.nil
        go_simp
        go_wp2_with (go_at_call 38; (with_reducible refine (HOR.out _).mono ?_); rintro e' w5 ⟨rfl, rfl⟩)
        refine hK.out _ _ hHeld (fun hHeld => ?_)
        clear hK K
        refine wpAnyH_take (i := 7) (v := ?_) rfl (by kernel_rfl) (by kernel_rfl) (by kernel_rfl) (fun _ _ _ h => h) (Or.inl ⟨by rfl, ?_⟩) (by assumption) ?_
        rotate_left
        · intro w hSw; go_simp; try with_reducible rfl
        go_simp
        refine wpAnyH_done (by kernel_rfl) ?_ _
        go_wp2
        go_roundw
        case rel => exact ⟨j + 1, l, by have := HLT.out; omega, by have := HJ.out; rw [show ((j + 1 : Nat) : Int) = jj + 1 by omega], OW.out, by rw [HTK.out, List.filter_append, List.filter_cons_of_neg (by simpa using HDU.out), List.filter_nil, List.append_nil]; exact HPM.out, HSO.out, KW3.out⟩
        case measure => have := HJ.out; have := HLT.out; simp [intOf]; omega
    · have hn3 : ¬ jj < L := by omega
      have hjm : j = m := by omega
      rw [hjm, ← HM.out, List.take_length] at hpm
      have HPM := Lib.hid hpm
      have HSO := Lib.hid hso
      obtain ⟨ad, cap, rfl⟩ := own_formG hown
      obtain ⟨n, hn⟩ : ∃ n, l.length = n := ⟨_, rfl⟩
      obtain ⟨N, hN⟩ : ∃ N : Int, (n : Int) = N := ⟨_, rfl⟩
      have hn64 : n ≤ 64 := by
        have h1 := hpm.length_eq
        have h2 := List.length_filter_le (fun t : Tm => decide (t.a ≤ c.now)) c.ts
        have h3 := OK.out.len
        omega
      have hN64 : N ≤ 64 := by omega
      simp only [hn] at hown ⊢
      obtain ⟨W0, rfl⟩ : ∃ W0, W0 = wr := ⟨wr, rfl⟩
      have kb := kp_alloc W0 (.cells #[] 9)
      have ob := empty_ky W0
      obtain ⟨B, hB⟩ : ∃ B, W0.heap.size = B := ⟨_, rfl⟩
      obtain ⟨Wd, hWd⟩ : ∃ W, W0.alloc (.cells #[] 9) = W := ⟨_, rfl⟩
      rw [hWd] at kb ob
      rw [hB] at ob
      have HO := Lib.hid hown
      have HKW := Lib.hid hk
      have HB := Lib.hid hB
      have HNN := Lib.hid hN
      have HNL := Lib.hid hn
      have HN64 := Lib.hid hn64
      have HKB := Lib.hid kb
      clear hown hpm hso hk hjj hj hn hn64
      go_wp2
      go_loopw [7, 89] (fun u i wr => ∃ (p : Nat), p ≤ n ∧ i = .int .i64 p ∧ wr.ownsRow B 9 1 u p (kyE.row ((l.map Tm.k).take p)) ∧ Kp W0 wr) (fun _ i _ => n - (intOf i).toNat)
      case atStart => exact ⟨0, Nat.zero_le _, rfl, ob, kb⟩
      case round =>
        obtain ⟨p, hp, rfl, hown2, hk2⟩ := hrel
        clear ob kb
        obtain ⟨kk, hkk⟩ : ∃ kk : Int, (p : Int) = kk := ⟨_, rfl⟩
        rw [hkk]
        have HKK := Lib.hid hkk
        have kk0 : 0 ≤ kk := by omega
        by_cases hlt : p < n
        · have hkl : kk < N := by omega
          have hkn : kk.toNat = p := by omega
          rcases HO.out.2 with ⟨e1, hz⟩ | ⟨gl, cl, cur, e1, hgl, hh, hrest⟩
          · exact absurd hz (by omega)
          injection e1 with e1 _ e2
          subst e1
          subst e2
          have hpl : p < l.length := by rw [HNL.out]; exact hlt
          obtain ⟨⟨tk, ta, tn, tb, tm⟩, ht⟩ : ∃ t, l[p] = t := ⟨_, rfl⟩
          obtain ⟨s1, hs1⟩ : ∃ s, (⟨tk.toArray⟩ : ByteArray) = s := ⟨_, rfl⟩
          have hor := own_stayG HO.out (fun b hb => Below.block hk2 b (HO.out.lt b hb).2)
          obtain ⟨x0, x1, x2, x3, x4⟩ := own_at5 hor hkn (by rw [List.getElem?_eq_getElem hpl, ht]) hs1
          have htk : (l.map Tm.k).take (p + 1) = (l.map Tm.k).take p ++ [tk] := by rw [List.take_succ_eq_append_getElem (by simpa using hpl), List.getElem_map, ht]
          have ky := kp_alloc wr (.cells #[.string s1, .float .f64 ta, .int .i64 tn, .float .f64 tb, .float .f64 tm] 47)
          have hby := (MapKept.heap_alloc wr (.cells #[.string s1, .float .f64 ta, .int .i64 tn, .float .f64 tb, .float .f64 tm] 47)).1
          obtain ⟨bx, hbx⟩ : ∃ x, wr.heap.size = x := ⟨_, rfl⟩
          rw [hbx] at hby
          obtain ⟨Y, hY⟩ : ∃ Y, wr.alloc (.cells #[.string s1, .float .f64 ta, .int .i64 tn, .float .f64 tb, .float .f64 tm] 47) = Y := ⟨_, rfl⟩
          rw [hY] at ky hby
          have KYD := Lib.hid ky
          have b0 : Y.drew.cell? ⟨bx, 0, none⟩ = some (.string s1) := cell_row (i := 0) (kp_row (kp_drewR (Kp.refl _)) hby) rfl
          have b0' : Y.cell? ⟨bx, 0, none⟩ = some (.string s1) := cell_row (i := 0) hby rfl
          have kz := kp_alloc Y (.cells #[.string s1] 9)
          have hbz := (MapKept.heap_alloc Y (.cells #[.string s1] 9)).1
          have PZ := Lib.hid (part_one1 (E := kyE) (x := tk) (by rw [← hs1]; rfl) hbz)
          have KZ := Lib.hid (Kp.trans KYD.out kz)
          have OZ := Lib.hid (own_stayG hown2 (fun b hb => Below.block KZ.out b (hown2.lt b hb).2))
          have K2 := Lib.hid hk2
          have HLT := Lib.hid hlt
          have HTK := Lib.hid htk
          have HP := Lib.hid hp
          have hw1 : wrap64 (kk + 1) = kk + 1 := IntWalk.wrap64_in _ (by omega)
          clear hown2 hk2 hor ht hs1 htk ky hby kz hbz hlt hp hkk hkn hh hrest
          go_wp2_with (at_builtin; refine wpList_append_rwG (E := kyE) ty_ky (by decide) _ rfl _ _ rfl B _ p ((l.map Tm.k).take p) rfl OZ.out _ [tk] rfl PZ.out ?f1 ?f2 ?_)
          case f1 => have := HN64.out; have := HLT.out; simp; omega
          case f2 => have h9 := Below.size (Kp.trans K2.out KZ.out); have h8 := HB.out; simp at h9; omega
          intro v3 w3 ho hg hb
          have hk3 := Lib.hid (show Kp W0 w3 from Below.grown (Kp.trans K2.out KZ.out) hg (Below.size (Kp.trans K2.out KZ.out)) (fun k hk => by rw [HB.out]; exact (OZ.out.lt k hk).1))
          have HO3 := Lib.hid ho
          clear ho hg hb
          go_wp2
          go_roundw
          case rel => exact ⟨p + 1, by have := HLT.out; omega, by have := HKK.out; rw [show ((p + 1 : Nat) : Int) = kk + 1 by omega], by rw [HTK.out]; exact HO3.out, hk3.out⟩
          case measure => have := HKK.out; have := HLT.out; simp [intOf]; omega
        · have hkn3 : ¬ kk < N := by omega
          have hpn : p = n := by omega
          rw [hpn, List.take_of_length_le (by rw [List.length_map, HNL.out]; exact Nat.le_refl _)] at hown2
          have O2 := Lib.hid hown2
          have K2 := Lib.hid hk2
          clear hown2 hk2 hlt hp hkk hpn
          go_wp2
          go_ret
          refine ⟨_, rfl, l.map Tm.k, due_of OK.out.nd HPM.out HSO.out, ?_, Kp.trans HKW.out K2.out⟩
          rw [List.length_map, HNL.out]
          exact own_baseG O2.out (by rw [← HB.out]; exact Below.size HKW.out)
end Go.Proofs.YtanbeaebdingeaaDoor
