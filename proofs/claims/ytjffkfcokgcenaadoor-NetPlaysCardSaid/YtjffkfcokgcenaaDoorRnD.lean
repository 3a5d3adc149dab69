/-
  THE DOCUMENT's NET (own work): Put whole; the letters but one.
-/
import Derived.Test.YtjffkfcokgcenaaDoorRnC
namespace Go.Proofs.YtjffkfcokgcenaaDoor
open Go.RowKit Go.ChangeShapes Go.WideShapes
variable {w0 w w' W w3 : World} {q : Nat} {m : NetM} {v v' vc : Value} {rb : List Nat}

theorem rnPut_any (H : Rn w0 q m v vc rb w) (hm : Nok m) (l : LtM) : Calls Tryd.prog 25 #[.pointer (some ⟨q, 0, none⟩), .agg #[.int .i64 l.a, .int .i64 l.b, .string (strOfNums l.d)]] w fun r w' => r = .returned (.tuple #[.bool (m.put l).1.1, .int .i64 (m.put l).1.2]) ∧ ∃ v', Rn w0 q (m.put l).2 v' vc rb w' ∧ Asd (On q v vc rb) (On q v' vc rb) w w' := by
  obtain ⟨a, b, d⟩ := l
  unfold NetM.put
  dsimp only
  by_cases h1 : (m.has a && m.has b) = false
  · rw [if_pos h1]
    exact (rnPut_range H a b d _ rfl h1).mono fun r w' ⟨q1, q2⟩ => ⟨q1, v, H.kp q2, Asd.of_kp _ q2⟩
  rw [if_neg h1]
  have h1 : (m.has a && m.has b) = true := by simpa using h1
  rw [Bool.and_eq_true] at h1
  by_cases h2 : 1000 < d.length
  · rw [if_pos h2]
    exact (rnPut_long H a b d _ rfl h1.1 h1.2 h2).mono fun r w' ⟨q1, q2⟩ => ⟨q1, v, H.kp q2, Asd.of_kp _ q2⟩
  rw [if_neg h2]
  by_cases h3 : m.isCut a b = true
  · rw [if_pos h3]
    exact (rnPut_lost H a b d _ rfl hm h1.1 h1.2 h2 h3).mono fun r w' ⟨q1, q2, q3⟩ => ⟨q1, v, q2, q3⟩
  rw [if_neg h3]
  have h3 : m.isCut a b = false := by simpa using h3
  by_cases h4 : 63 < m.f.length
  · rw [if_pos h4]
    exact (rnPut_full H a b d _ rfl hm h1.1 h1.2 h2 h3 h4).mono fun r w' ⟨q1, q2⟩ => ⟨q1, v, H.kp q2, Asd.of_kp _ q2⟩
  rw [if_neg h4]
  exact rnPut_ok H a b d _ rfl hm h1.1 h1.2 h2 h3 h4
set_option maxRecDepth 100000 in
set_option maxHeartbeats 2000000 in
theorem rnWithout_any (H : Rn w0 q m v vc rb w) (hl : m.f.length ≤ 64) (i : Nat) (ii : Int) (hii : (i : Int) = ii) (hi : i < m.f.length) : Calls Tryd.prog 43 #[.pointer (some ⟨q, 0, none⟩), .int .i64 ii] w fun r w' => ∃ v', r = .returned v' ∧ w'.ownsRow w.heap.size 47 3 v' (m.but i).length (ltE.row (m.but i)) ∧ Kp w w' := by
  have hown := H.own
  obtain ⟨n, hn⟩ : ∃ n, m.f.length = n := ⟨_, rfl⟩
  rcases hown.2 with ⟨rfl, h0⟩ | ⟨bv, cp, cur, rfl, hb, hh, hnc, hcm, hcs, ht⟩
  · omega
  have hlen : (m.f.take i).length = i := by rw [List.length_take]; omega
  have hbut : (m.but i).length = i + (m.f.drop (i + 1)).length := by unfold NetM.but; rw [List.length_append, hlen]
  rw [hn] at hl hi H hown hnc
  have kx : Kp w w.drew := kp_drewR (Kp.refl _)
  obtain ⟨X, hX⟩ : ∃ X, w.drew = X := ⟨_, rfl⟩
  rw [hX] at kx
  have HXW := Lib.hid hX
  have KX := Lib.hid kx
  obtain ⟨jj, hjj⟩ : ∃ jj : Int, ii + 1 = jj := ⟨_, rfl⟩
  have sh := fun w => sl_headG (P := Tryd.prog) (b := bv) Tryd.underlying38 (info_ltR.imp fun _ h => ⟨h.1, h.2.2.1⟩) hii (Nat.le_of_lt hi) hnc w
  have st := fun w => sl_tailG (P := Tryd.prog) (b := bv) (cp := cp) (i := i + 1) (ii := jj) (n := n) Tryd.underlying38 (info_ltR.imp fun _ h => ⟨h.1, h.2.2.1⟩) (by omega) (by omega) w
  obtain ⟨at2, hat⟩ : ∃ x : Nat, (if cp = i + 1 then 0 else (i + 1) * 3) = x := ⟨_, rfl⟩
  rw [hat] at st
  have p1 := own_takeG (E := ltE) (by decide) hown (Nat.le_of_lt hi)
  have p2 := own_dropG (E := ltE) (by decide) hown (i := i + 1) (by omega) ⟨bv, at2, none⟩ (fun q => by rw [← hat, if_neg (by omega)]; rfl) (cp - (i + 1))
  obtain ⟨q2, hq2⟩ : ∃ x, n - (i + 1) = x := ⟨_, rfl⟩
  obtain ⟨q3, hq3⟩ : ∃ x, cp - (i + 1) = x := ⟨_, rfl⟩
  rw [hq2, hq3] at st p2
  have hwj : IntKind.i64.wrap jj = jj := IntWalk.i64_in jj (by omega)
  have i0 : 0 ≤ ii := by omega
  have i1 : ii ≤ 1000 := by omega
  have P1' := Lib.hid p1
  have P2' := Lib.hid p2
  have GW := Lib.hid H.row
  have HN := Lib.hid hn
  have HI := Lib.hid (And.intro hi hl)
  have HTI := Lib.hid hlen
  have HBL := Lib.hid hbut
  clear H hown hb hh hcm hcs ht cur hl hi hn hnc hat p1 p2 hq2 hq3 kx hX hlen hbut
  go_enter Tryd.func43, Tryd.ntmps43
  go_wp2_with fail
  refine wp_region_held_drew (S := fun w' => Kp w w') (by kernel_rfl) ?_ (fun hHeld => ?_)
  · exact kp_drewR (Kp.refl _)
  rw [HXW.out] at hHeld ⊢
  refine wpAnyH_take (i := 1) (v := ?_) rfl (by kernel_rfl) (by kernel_rfl) (by kernel_rfl) (fun _ _ _ h => h) (Or.inl ⟨by rfl, ?_⟩) (by assumption) ?_
  rotate_left
  · intro w hSw; go_simp; try with_reducible rfl
  go_simp
  refine wpAnyH_take (i := 2) (v := ?_) rfl (by kernel_rfl) (by kernel_rfl) (by kernel_rfl) (fun _ _ _ h => h) (Or.inl ⟨by rfl, ?_⟩) (by assumption) ?_
  rotate_left
  · intro w hSw; go_simp; try with_reducible rfl
  go_simp
  refine wpAnyH_take (i := 3) (v := ?_) rfl (by kernel_rfl) (by kernel_rfl) (by kernel_rfl) (fun _ _ _ h => h) (Or.inl ⟨by rfl, ?_⟩) (by assumption) ?_
  rotate_left
  · intro w hSw; go_simp; try with_reducible rfl
  go_simp
  refine wpAnyH_take (i := 4) (v := ?_) rfl (by kernel_rfl) (by kernel_rfl) (by kernel_rfl) (fun _ _ _ h => h) (Or.inl ⟨by rfl, ?_⟩) (by assumption) ?_
  rotate_left
  · intro w hSw; have q1 := cell_row (i := 1) (kp_row hSw GW.out) rfl; go_simp; try with_reducible rfl
  go_simp
  refine wpAnyH_take (i := 5) (v := ?_) rfl (by kernel_rfl) (by kernel_rfl) (by kernel_rfl) (fun _ _ _ h => h) (Or.inl ⟨by rfl, ?_⟩) (by assumption) ?_
  rotate_left
  · intro w hSw; go_simp; try with_reducible rfl
  go_simp
  refine wpAnyH_take (i := 6) (v := ?_) rfl (by kernel_rfl) (by kernel_rfl) (by kernel_rfl) (fun _ _ _ h => h) (Or.inl ⟨by rfl, ?_⟩) (by assumption) ?_
  rotate_left
  · intro w hSw; go_simp; try with_reducible rfl
  go_simp
  refine wpAnyH_take (i := 8) (v := ?_) rfl (by kernel_rfl) (by kernel_rfl) (by kernel_rfl) (fun _ _ _ h => h) (Or.inl ⟨by rfl, ?_⟩) (by assumption) ?_
  rotate_left
  · intro w hSw; go_simp; try with_reducible rfl
  go_simp
  refine wpAnyH_take (i := 9) (v := ?_) rfl (by kernel_rfl) (by kernel_rfl) (by kernel_rfl) (fun _ _ _ h => h) (Or.inl ⟨by rfl, ?_⟩) (by assumption) ?_
  rotate_left
  · intro w hSw; go_simp; try with_reducible rfl
  go_simp
  refine wpAnyH_take (i := 10) (v := ?_) rfl (by kernel_rfl) (by kernel_rfl) (by kernel_rfl) (fun _ _ _ h => h) (Or.inl ⟨by rfl, ?_⟩) (by assumption) ?_
  rotate_left
  · intro w hSw; go_simp; try with_reducible rfl
  go_simp
  refine wpAnyH_take (i := 11) (v := ?_) rfl (by kernel_rfl) (by kernel_rfl) (by kernel_rfl) (fun _ _ _ h => h) (Or.inl ⟨by rfl, ?_⟩) (by assumption) ?_
  rotate_left
  · intro w hSw; have q1 := cell_row (i := 1) (kp_row hSw GW.out) rfl; go_simp; try with_reducible rfl
  go_simp
  refine wpAnyH_take (i := 12) (v := ?_) rfl (by kernel_rfl) (by kernel_rfl) (by kernel_rfl) (fun _ _ _ h => h) (Or.inl ⟨by rfl, ?_⟩) (by assumption) ?_
  rotate_left
  · intro w hSw; go_simp; try with_reducible rfl
  go_simp
  refine wpAnyH_take (i := 13) (v := ?_) rfl (by kernel_rfl) (by kernel_rfl) (by kernel_rfl) (fun _ _ _ h => h) (Or.inl ⟨by rfl, ?_⟩) (by assumption) ?_
  rotate_left
  · intro w hSw; go_simp; try with_reducible rfl
  go_simp
  refine wpAnyH_take (i := 14) (v := ?_) rfl (by kernel_rfl) (by kernel_rfl) (by kernel_rfl) (fun _ _ _ h => h) (Or.inl ⟨by rfl, ?_⟩) (by assumption) ?_
  rotate_left
  · intro w hSw; go_simp; try with_reducible rfl
  go_simp
  refine wpAnyH_ready (rs := [0]) (by kernel_rfl) (by simp) ?_
  refine AllReadyH.cons rfl (fun K hK => ?_) AllReadyH.nil
  go_simp
  refine hK.out _ _ (Kp.trans hHeld (kp_alloc _ _)) (fun hHeld => ?_)
  clear hK K
  have O1 := Lib.hid (show (X.alloc (.cells #[] 47)).ownsRow X.heap.size 47 3 (.slice (some ⟨X.heap.size, 0, none⟩) 0 0) 0 (ltE.row []) from ⟨by simp [EncG.row], Or.inr ⟨X.heap.size, 0, #[], rfl, Nat.le_refl _, (MapKept.heap_alloc X _).1, Nat.le_refl _, by omega, by simp, by simp [EncG.row]⟩⟩)
  obtain ⟨Z, hZ⟩ : ∃ Z, X.alloc (.cells #[] 47) = Z := ⟨_, rfl⟩
  obtain ⟨sE, hsE⟩ : ∃ x, X.heap.size = x := ⟨_, rfl⟩
  have LE := Lib.hid (show w.heap.size ≤ sE by rw [← hsE]; exact Below.size KX.out)
  rw [hZ] at hHeld O1 ⊢
  rw [hsE] at O1
  try rw [hsE]
  clear hZ hsE
  have P1 := Lib.hid (P1'.out.kp hHeld)
  refine wpAnyH_ready (rs := [7]) (by kernel_rfl) (by simp) ?_
  refine AllReadyH.consLG rfl (fun K hK => ?_) AllReadyH.nil
  go_simp
  refine wpList_append_rwG (E := ltE) ty_ltR (by decide) _ rfl _ _ rfl sE _ 0 [] rfl O1.out _ (m.f.take i) rfl P1.out ?f1 ?f2 ?_
  case f1 => have := HI.out; have := HN.out; simp; omega
  case f2 => have := O1.out.lt sE rfl; omega
  rintro v3 w3 ho hg hb
  rw [HTI.out, Nat.zero_add, List.nil_append] at ho
  obtain ⟨ad3, c3, rfl⟩ := own_formG ho
  have K3 := Lib.hid (show Kp w w3 from Below.grown hHeld hg (Below.size hHeld) (fun k hk => by have := (O1.out.lt k hk).1; have := LE.out; omega))
  have O3 := Lib.hid ho
  have S3 := Lib.hid (show sE ≤ w3.heap.size from Nat.le_trans (by have := O1.out.lt sE rfl; omega) hg.size)
  have P3 := Lib.hid (P2'.out.kp K3.out)
  refine hK.out _ _ K3.out (fun hHeld => ?_)
  clear hK K ho hg hb
  refine wpAnyH_ready (rs := [15]) (by kernel_rfl) (by simp) ?_
  refine AllReadyH.consLG rfl (fun K hK => ?_) AllReadyH.nil
  go_simp
  refine wpList_append_rwG (E := ltE) ty_ltR (by decide) _ rfl _ _ rfl sE _ i (m.f.take i) rfl O3.out _ (m.f.drop (i + 1)) rfl P3.out ?f3 ?f4 ?_
  case f3 => have := HI.out; have := HN.out; simp; omega
  case f4 => exact S3.out
  rintro v4 w4 ho hg hb
  have K4 := Lib.hid (show Kp w w4 from Below.grown K3.out hg (Below.size K3.out) (fun k hk => by have := (O3.out.lt k hk).1; have := LE.out; omega))
  have O4 := Lib.hid (own_baseG (base' := w.heap.size) ho LE.out)
  refine hK.out _ _ K4.out (fun hHeld => ?_)
  clear hK K ho hg hb
  refine wpAnyH_take (i := 16) (v := ?_) rfl (by kernel_rfl) (by kernel_rfl) (by kernel_rfl) (fun _ _ _ h => h) (Or.inl ⟨by rfl, ?_⟩) (by assumption) ?_
  rotate_left
  · intro w hSw; go_simp; try with_reducible rfl
  go_simp
  refine wpAnyH_done (by kernel_rfl) ?_ _
  go_wp2
  go_ret
  refine ⟨_, rfl, ?_, K4.out⟩
  rw [HBL.out]
  exact O4.out
end Go.Proofs.YtjffkfcokgcenaaDoor
