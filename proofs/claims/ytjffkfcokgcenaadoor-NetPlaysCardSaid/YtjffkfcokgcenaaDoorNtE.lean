/-
  A NET's CODE KEEPS ITS CONTRACTS (own work): slices.Insert; Move.
-/
import Derived.Test.YtjffkfcokgcenaaDoorNtD
import Derived.Lib.Overlaps
namespace Go.Proofs.YtjffkfcokgcenaaDoor
open Go.RowKit Go.ChangeShapes Go.WideShapes
variable {w0 w w' W w3 : World} {q mb : Nat} {m : NetM} {v v' : Value} {ps ps' : List LtP} {ads : List Addr}

/-- copy at elements of k cells -/
theorem run_copy_rowG {P : Program} (w : World) (dT sT ty elem : TypeId) (k g o dLen dCap : Nat) (a : Addr) (sLen sCap n : Nat) (cur : Array Value) (t : TypeId) (cs : List Value)
    (hu : P.underlying dT = some (.slice elem)) (hs : ∃ i0, P.info? elem = some i0 ∧ i0.size = k)
    (hg : w.heap[g]? = some (.cells cur t (0, 0))) (hn : Nat.min sLen dLen = n) (hc : cs.length = n * k)
    (hsrc : ∀ j v, cs[j]? = some v → w.cell? (a.add j) = some v) (hfit : o + cs.length ≤ cur.size) (h1 : ∀ v ∈ cs, v.oneCell' = true) :
    (Builtin.copy_ #[dT, sT] ty #[.slice (some ⟨g, o, none⟩) dLen dCap, .slice (some a) sLen sCap]).run P w =
      .ok (goInt n) (w.setRow g (cur.toList.take o ++ cs ++ cur.toList.drop (o + cs.length)).toArray) := by
  have hl := run_loadCells_list (P := P) w a cs hsrc
  have hst := run_storeCells_at P g o t cs 0 cur w hg (by simpa using hfit) h1
  obtain ⟨i, hq, hi⟩ := hs
  rw [hc] at hl
  simp [Builtin.copy_, run_underlying hu, Builtin.lenOf, Builtin.firstCells, sizeOf, typeInfo, hq, hi, hn, hl, hst]
theorem sl_headG2 {P : Program} {T e : TypeId} {k b n cp i : Nat} {ii : Int} (hu : P.underlying T = some (.slice e)) (hz : ∃ i0, P.info? e = some i0 ∧ i0.size = k) (hii : (i : Int) = ii) (hi : i ≤ cp) (w : World) :
    (Instr.slice T (.slice (some ⟨b, 0, none⟩) n cp) none (some (.int .i64 ii)) none).run P w = .ok (.slice (some ⟨b, 0, none⟩) i cp) w := by
  have he : P.elem T = e := by simp [Program.elem, hu]
  have hs : (Go.sizeOf e).run P w = .ok k w := by
    obtain ⟨i0, h1, h2⟩ := hz
    simp [sizeOf, typeInfo, h1, h2]
  rw [run_slice_h w T _ _ _ (by rw [hu, he]) .i64 _ (by omega) (by omega), he, hs]
  have e : ii.toNat = i := by omega
  simp [Result.andThen, sliced, Addr.add, e]
theorem sl_anyG {P : Program} {T e : TypeId} {k b n cp i : Nat} {ii : Int} (hu : P.underlying T = some (.slice e)) (hz : ∃ i0, P.info? e = some i0 ∧ i0.size = k) (hii : (i : Int) = ii) (hi : i ≤ n) :
    ∃ r, ∀ w, (Instr.slice T (.slice (some ⟨b, 0, none⟩) n cp) (some (.int .i64 ii)) none none).run P w = .ok r w := ⟨_, fun w => sl_tailG hu hz hii hi w⟩
set_option maxRecDepth 100000 in
theorem insert_end {B bv bx n cp : Nat} {nn : Int} {p : LtP} (hown : w.ownsRow B 45 3 (.slice (some ⟨bv, 0, none⟩) n cp) n (pE.row ps)) (hcp : n + 1 ≤ cp) (hnn : (n : Int) = nn) (hx : PartG pE (.slice (some ⟨bx, 0, none⟩) 1 1) [p] w) : Calls Tryd.prog 38 #[.slice (some ⟨bv, 0, none⟩) n cp, .int .i64 nn, .slice (some ⟨bx, 0, none⟩) 1 1] w fun r w' => r = .returned (.slice (some ⟨bv, 0, none⟩) (n + 1) cp) ∧ w'.ownsRow B 45 3 (.slice (some ⟨bv, 0, none⟩) (n + 1) cp) (n + 1) (pE.row (ps ++ [p])) ∧ w.grownBy w' (some bv) := by
  obtain ⟨i0, hi0, -, hi2, -⟩ := info_lt
  obtain ⟨rb, sb⟩ := sl_anyG (P := Tryd.prog) (b := bv) (n := n) (cp := cp) Tryd.underlying42 ⟨i0, hi0, hi2⟩ hnn (Nat.le_refl _)
  have HX0 := Lib.hid (show ∀ j u, (pE.row [p])[j]? = some u → w.cell? ((⟨bx, 0, none⟩ : Addr).add j) = some u from by
    obtain ⟨a1, c1, hv1, -, hv3⟩ := hx
    injection hv1 with hv1
    exact hv3 _ hv1.symm)
  have HO := Lib.hid hown
  have HCP := Lib.hid hcp
  have HI := Lib.hid (And.intro hi0 hi2)
  clear hown hcp hx hi0 hi2
  go_enter Tryd.func38, Tryd.ntmps38
  go_wp2_with (at_builtin; refine wpList_append_fits w rfl _ _ _ rfl B 45 i0 3 Tryd.underlying42 HI.out.1 HI.out.2 bv n cp (pE.row ps) rfl HO.out ⟨bx, 0, none⟩ 1 1 (pE.row [p]) rfl ?f1 HX0.out (row_one pE _) HCP.out ?_)
  case f1 => rw [row_len]; rfl
  rintro w6 ho hg
  rw [← row_app] at ho
  have O6 := Lib.hid ho
  have G6 := Lib.hid hg
  clear ho hg
  go_wp2
  go_ret
  exact ⟨rfl, O6.out, G6.out⟩
theorem splice_in {cur X Y Z : List Value} {i3 n3 : Nat} (hX : X.length = i3) (hY : Y.length = 3) (hZ : Z.length + i3 = n3) (ht : cur.take n3 = X ++ Z) (hc : n3 + 3 ≤ cur.length) :
    (((cur.take (i3 + 3) ++ Z ++ cur.drop (i3 + 3 + Z.length)).take i3 ++ Y ++ (cur.take (i3 + 3) ++ Z ++ cur.drop (i3 + 3 + Z.length)).drop (i3 + 3)).take (n3 + 3)) = X ++ (Y ++ Z) := by
  have e1 : (cur.take (i3 + 3) ++ Z ++ cur.drop (i3 + 3 + Z.length)).take i3 = X := by
    rw [List.append_assoc, List.take_append_of_le_length (by rw [List.length_take]; omega), List.take_take, Nat.min_eq_left (by omega)]
    have h := congrArg (List.take i3) ht
    have h2 : (X ++ Z).take i3 = X := by rw [List.take_append_of_le_length (by omega)]; exact List.take_of_length_le (by omega)
    rw [List.take_take, Nat.min_eq_left (by omega), h2] at h
    exact h
  have e2 : (cur.take (i3 + 3) ++ Z ++ cur.drop (i3 + 3 + Z.length)).drop (i3 + 3) = Z ++ cur.drop (i3 + 3 + Z.length) := by
    rw [List.append_assoc, List.drop_append_of_le_length (by rw [List.length_take]; omega), List.drop_of_length_le (by rw [List.length_take]; omega), List.nil_append]
  rw [e1, e2]
  have e3 : X ++ Y ++ (Z ++ cur.drop (i3 + 3 + Z.length)) = (X ++ (Y ++ Z)) ++ cur.drop (i3 + 3 + Z.length) := by simp only [List.append_assoc]
  have e4 : (X ++ (Y ++ Z)).length = n3 + 3 := by simp only [List.length_append]; omega
  rw [e3, List.take_append_of_le_length (by omega), List.take_of_length_le (by omega)]
set_option maxRecDepth 100000 in
set_option maxHeartbeats 2000000 in
theorem insert_mid {B bv bx n cp i : Nat} {ii : Int} {p : LtP} (hown : w.ownsRow B 45 3 (.slice (some ⟨bv, 0, none⟩) n cp) n (pE.row ps)) (hcp : n + 1 ≤ cp) (hn : n ≤ 1000) (hi : i < n) (hii : (i : Int) = ii) (hxr : w.heap[bx]? = some (.cells (pE.enc p).toArray 45 (0, 0))) (hne : bx ≠ bv) : Calls Tryd.prog 38 #[.slice (some ⟨bv, 0, none⟩) n cp, .int .i64 ii, .slice (some ⟨bx, 0, none⟩) 1 1] w fun r w' => r = .returned (.slice (some ⟨bv, 0, none⟩) (n + 1) cp) ∧ w'.ownsRow B 45 3 (.slice (some ⟨bv, 0, none⟩) (n + 1) cp) (n + 1) (pE.row (ps.take i ++ p :: ps.drop i)) ∧ w.grownBy w' (some bv) := by
  obtain ⟨i0, hi0, -, hi2, -⟩ := info_lt
  have hz : ∃ i0, Tryd.prog.info? 45 = some i0 ∧ i0.size = 3 := ⟨i0, hi0, hi2⟩
  rcases hown.2 with ⟨h, _⟩ | ⟨g', cap', cur, hv, hb, hh, hnc, hcm, hcs, ht⟩
  · cases h
  injection hv with hv1 hv2 hv3
  injection hv1 with hv1
  injection hv1 with hv1
  subst hv1 hv3
  have hpl : ps.length = n := own_lenG (E := pE) (by decide) hown
  obtain ⟨nn, hnn⟩ : ∃ x : Int, (n : Int) = x := ⟨_, rfl⟩
  obtain ⟨cc, hcc⟩ : ∃ x : Int, (cp : Int) = x := ⟨_, rfl⟩
  obtain ⟨jj, hjj⟩ : ∃ jj : Int, ii + 1 = jj := ⟨_, rfl⟩
  obtain ⟨n1, hn1⟩ : ∃ x : Int, nn + 1 = x := ⟨_, rfl⟩
  obtain ⟨N1, hN1⟩ : ∃ x : Nat, n + 1 = x := ⟨_, rfl⟩
  obtain ⟨rb, sb⟩ := sl_anyG (P := Tryd.prog) (b := bv) (n := n) (cp := cp) Tryd.underlying42 hz hii (Nat.le_of_lt hi)
  have sh := fun w => sl_headG2 (P := Tryd.prog) (b := bv) (n := n) (cp := cp) (i := N1) (ii := n1) Tryd.underlying42 hz (by omega) (by omega) w
  have st1 := fun w => sl_tailG (P := Tryd.prog) (b := bv) (cp := cp) (i := i + 1) (ii := jj) (n := N1) Tryd.underlying42 hz (by omega) (by omega) w
  have st0 := fun w => sl_tailG (P := Tryd.prog) (b := bv) (cp := cp) (i := i) (ii := ii) (n := N1) Tryd.underlying42 hz hii (by omega) w
  rw [if_neg (by omega)] at st0 st1
  obtain ⟨u1, hu1⟩ : ∃ x, N1 - (i + 1) = x := ⟨_, rfl⟩
  obtain ⟨u0, hu0⟩ : ∃ x, N1 - i = x := ⟨_, rfl⟩
  obtain ⟨c1, hc1⟩ : ∃ x, cp - (i + 1) = x := ⟨_, rfl⟩
  obtain ⟨c0, hc0⟩ : ∃ x, cp - i = x := ⟨_, rfl⟩
  rw [hu1, hc1] at st1
  rw [hu0, hc0] at st0
  obtain ⟨i3, hi3⟩ : ∃ x, i * 3 = x := ⟨_, rfl⟩
  rw [show (i + 1) * 3 = i3 + 3 by omega] at st1
  rw [hi3] at st0
  have hov : (callFunc 47 #[.slice (some ⟨bx, 0, none⟩) 1 1, .slice (some ⟨bv, i3 + 3, none⟩) u1 c1]).run Tryd.prog w = .ok (.value (.bool false)) w := by
    rw [run_callFunc_extern Tryd.func47 (by kernel_rfl) (by kernel_rfl) (by kernel_rfl) (e := Extern.SlicesOverlaps.overlaps #[42, 42] #[4]) (by kernel_rfl),
      Lib.run_overlaps_apart w 42 4 45 Tryd.underlying42 3 (fun w => by obtain ⟨i0, h1, h2⟩ := hz; simp [sizeOf, typeInfo, h1, h2]) ⟨bx, 0, none⟩ ⟨bv, i3 + 3, none⟩ 1 1 u1 c1 hne 45 45 3 cur.size (by simp [World.shape?, hxr, pE]) (by simp [World.shape?, hh]) (by omega) (frozR hxr _) (frozR hxr _)]
    rfl
  -- the first copy
  obtain ⟨XD, hXD⟩ : ∃ Y, w.drew = Y := ⟨_, rfl⟩
  have gd : w.grownBy XD (some bv) := by rw [← hXD]; exact grown_drew
  have hhX : XD.heap[bv]? = some (.cells cur 45 (0, 0)) := by rw [← hXD]; exact hh
  have hxX : XD.heap[bx]? = some (.cells (pE.enc p).toArray 45 (0, 0)) := by rw [← hXD]; exact hxr
  have hrow : cur.toList.take (n * 3) = pE.row (ps.take i) ++ pE.row (ps.drop i) := by rw [ht, ← row_app, List.take_append_drop]
  have lX : (pE.row (ps.take i)).length = i3 := by rw [row_len, List.length_take]; show min i ps.length * 3 = i3; omega
  have lZ : (pE.row (ps.drop i)).length + i3 = n * 3 := by rw [row_len, List.length_drop]; show (ps.length - i) * 3 + i3 = n * 3; omega
  obtain ⟨Z, hZ⟩ : ∃ Z, pE.row (ps.drop i) = Z := ⟨_, rfl⟩
  have hZ1 : ∀ u ∈ Z, u.oneCell' = true := by rw [← hZ]; exact row_one pE _
  have hsz : cur.toList.length = cp * 3 := by simp [hcs]
  rw [hZ] at lZ hrow
  have hsrc : ∀ j u, Z[j]? = some u → XD.cell? ((⟨bv, i3, none⟩ : Addr).add j) = some u := fun j u hu => by
    rw [Addr.add_lit]
    refine cell_row hhX ?_
    have hj := (List.getElem?_eq_some_iff.1 hu).1
    have h := congrArg (fun l => l[i3 + j]?) hrow
    simp only [List.getElem?_take] at h
    rw [if_pos (by omega), List.getElem?_append_right (by omega), lX, Nat.add_sub_cancel_left, hu] at h
    rw [← Array.getElem?_toList]
    exact h
  have cp1 := fun ty => run_copy_rowG (P := Tryd.prog) XD 42 42 ty 45 3 bv (i3 + 3) u1 c1 ⟨bv, i3, none⟩ u0 c0 u1 cur 45 Z Tryd.underlying42 hz hhX (by show min u0 u1 = u1; omega) (by omega) hsrc (by omega) hZ1
  obtain ⟨cur1, hcur1⟩ : ∃ c, cur.toList.take (i3 + 3) ++ Z ++ cur.toList.drop (i3 + 3 + Z.length) = c := ⟨_, rfl⟩
  rw [hcur1] at cp1
  obtain ⟨W1, hW1⟩ : ∃ W1, XD.setRow bv cur1.toArray = W1 := ⟨_, rfl⟩
  have r1 : W1.heap[bv]? = some (.cells cur1.toArray 45 (0, 0)) := by rw [← hW1]; exact setRow_heap _ _ _ _ _ _ hhX
  have x1 : W1.heap[bx]? = some (.cells (pE.enc p).toArray 45 (0, 0)) := by rw [← hW1, setRow_other _ _ _ _ hne]; exact hxX
  have g1 : w.grownBy W1 (some bv) := grown_trans12 gd (by rw [← hW1]; exact grown_setRow _ _ _)
  rw [hW1] at cp1
  have l1 : cur1.length = cp * 3 := by rw [← hcur1]; simp; omega
  -- the second
  have cp2 := fun ty => run_copy_rowG (P := Tryd.prog) W1 42 42 ty 45 3 bv i3 u0 c0 ⟨bx, 0, none⟩ 1 1 1 cur1.toArray 45 (pE.enc p) Tryd.underlying42 hz r1 (by show min 1 u0 = 1; omega) rfl (fun j u hu => by rw [Addr.add_lit, Nat.zero_add]; exact cell_row x1 (by rw [List.getElem?_toArray]; exact hu)) (by show i3 + 3 ≤ _; simp; omega) (pE.one p)
  rw [show (pE.enc p).length = 3 from rfl] at cp2
  simp only at cp2
  obtain ⟨cur2, hcur2⟩ : ∃ c, cur1.take i3 ++ pE.enc p ++ cur1.drop (i3 + 3) = c := ⟨_, rfl⟩
  rw [hcur2] at cp2
  obtain ⟨W2, hW2⟩ : ∃ W2, W1.setRow bv cur2.toArray = W2 := ⟨_, rfl⟩
  rw [hW2] at cp2
  have r2 : W2.heap[bv]? = some (.cells cur2.toArray 45 (0, 0)) := by rw [← hW2]; exact setRow_heap _ _ _ _ _ _ r1
  have g2 : w.grownBy W2 (some bv) := grown_trans12 g1 (by rw [← hW2]; exact grown_setRow _ _ _)
  have hfin : cur2.take (N1 * 3) = pE.row (ps.take i ++ p :: ps.drop i) := by
    have h := splice_in (cur := cur.toList) (X := pE.row (ps.take i)) (Y := pE.enc p) (Z := Z) lX rfl lZ hrow (by omega)
    rw [hcur1, hcur2, show n * 3 + 3 = N1 * 3 by omega] at h
    rw [h, row_app, ← hZ]
    rfl
  have FIN := Lib.hid (And.intro (show W2.ownsRow B 45 3 (.slice (some ⟨bv, 0, none⟩) N1 cp) N1 (pE.row (ps.take i ++ p :: ps.drop i)) from ⟨by rw [row_len, List.length_append, List.length_cons, List.length_take, List.length_drop]; show (min i ps.length + (ps.length - i + 1)) * 3 = N1 * 3; omega, .inr ⟨bv, cp, _, rfl, hb, r2, by omega, hcm, by rw [← hcur2]; simp [l1, pE]; omega, by simpa using hfin⟩⟩) g2)
  have HXD := Lib.hid hXD
  have d0 : ¬ ii = nn := by omega
  have d1 : ¬ n1 > cc := by omega
  have d2 : decide (ii = nn) = false := decide_eq_false d0
  have d3 : decide (n1 > cc) = false := decide_eq_false d1
  have w1 : IntKind.i64.wrap jj = jj := IntWalk.i64_in jj (by omega)
  have w2 : IntKind.i64.wrap n1 = n1 := IntWalk.i64_in n1 (by omega)
  have w3' : wrap64 jj = jj := IntWalk.wrap64_in jj (by omega)
  have w4 : wrap64 n1 = n1 := IntWalk.wrap64_in n1 (by omega)
  rw [hN1]
  clear hown hcp hn hi hii hxr hne hz hi0 hi2 hv2 hb hh hnc hcm hcs ht hpl hXD gd hhX hxX hrow lX lZ hZ hZ1 hsz hsrc hcur1 hW1 r1 x1 g1 l1 hcur2 hW2 r2 g2 hfin hu1 hu0 hc1 hc0 hi3 hN1
  go_enter Tryd.func38, Tryd.ntmps38
  go_wp2_with fail
  refine wp_region_held_drew (S := fun _ => True) (by kernel_rfl) ?_ (fun hHeld => ?_)
  · exact trivial
  rw [HXD.out]
  refine wpAnyH_take (i := 0) (v := ?_) rfl (by kernel_rfl) (by kernel_rfl) (by kernel_rfl) (fun _ _ _ h => h) (Or.inl ⟨by rfl, ?_⟩) (by assumption) ?_
  rotate_left
  · intro w hSw; go_simp; try with_reducible rfl
  go_simp
  refine wpAnyH_take (i := 1) (v := ?_) rfl (by kernel_rfl) (by kernel_rfl) (by kernel_rfl) (fun _ _ _ h => h) (Or.inl ⟨by rfl, ?_⟩) (by assumption) ?_
  rotate_left
  · intro w hSw; go_simp; try with_reducible rfl
  go_simp
  refine wpAnyH_take (i := 2) (v := ?_) rfl (by kernel_rfl) (by kernel_rfl) (by kernel_rfl) (fun _ _ _ h => h) (Or.inl ⟨by rfl, ?_⟩) (by assumption) ?_
  rotate_left
  · intro w hSw; go_simp; try with_reducible rfl
  go_simp
  refine wpAnyH_take (i := 3) (v := ?_) rfl (by kernel_rfl) (by kernel_rfl) (by kernel_rfl) (fun _ _ _ h => h) (Or.inl ⟨by rfl, ?_⟩) (by assumption) ?_
  rotate_left
  · intro w hSw; go_simp; try with_reducible rfl
  go_simp
  refine wpAnyH_take (i := 4) (v := ?_) rfl (by kernel_rfl) (by kernel_rfl) (by kernel_rfl) (fun _ _ _ h => h) (Or.inl ⟨by rfl, ?_⟩) (by assumption) ?_
  rotate_left
  · intro w hSw; go_simp; try with_reducible rfl
  go_simp
  refine wpAnyH_take (i := 5) (v := ?_) rfl (by kernel_rfl) (by kernel_rfl) (by kernel_rfl) (fun _ _ _ h => h) (Or.inl ⟨by rfl, ?_⟩) (by assumption) ?_
  rotate_left
  · intro w hSw; go_simp; try with_reducible rfl
  go_simp
  refine wpAnyH_take (i := 6) (v := ?_) rfl (by kernel_rfl) (by kernel_rfl) (by kernel_rfl) (fun _ _ _ h => h) (Or.inl ⟨by rfl, ?_⟩) (by assumption) ?_
  rotate_left
  · intro w hSw; go_simp; try with_reducible rfl
  go_simp
  refine wpAnyH_take (i := 7) (v := ?_) rfl (by kernel_rfl) (by kernel_rfl) (by kernel_rfl) (fun _ _ _ h => h) (Or.inl ⟨by rfl, ?_⟩) (by assumption) ?_
  rotate_left
  · intro w hSw; go_simp; try with_reducible rfl
  go_simp
  refine wpAnyH_ready (rs := [8]) (by kernel_rfl) (by simp) ?_
  refine AllReadyH.cons rfl (fun K hK => ?_) AllReadyH.nil
  go_simp
  refine hK.out _ _ trivial (fun hHeld => ?_)
  clear hK K
  refine wpAnyH_done (by kernel_rfl) ?_ _
  go_wp2
  go_ret
  exact ⟨rfl, FIN.out⟩
end Go.Proofs.YtjffkfcokgcenaaDoor
