/-
  PARTS OF THIS PROOF (own work): LxB.
-/
import Derived.Test.YtpemeenfhkgmpaaGreatDoorZb32
import Derived.Test.YtpemeenfhkgmpaaGreatDoorZb28
namespace Go.Proofs.YtpemeenfhkgmpaaGreatDoor
open Go.RowKit Go.ChangeShapes Go.WideShapes

theorem al3_2 (w : World) (o1 o2 o3 : Obj) : (((w.alloc o1).alloc o2).alloc o3).heap[w.heap.size + 1 + 1]? = some o3 := by
  have := (MapKept.heap_alloc ((w.alloc o1).alloc o2) o3).1
  simpa using this
variable {w0 w w' W w3 : World} {B q : Nat} {m : StM} {gs : List AcG} {va vp : Value}

set_option maxRecDepth 100000 in
set_option maxHeartbeats 4000000 in
theorem lawPart15 (yn ys yr y1 y2 y3 y4 : Int) : Calls Tryz.prog 38 #[.agg #[.int .i64 yn, .int .i64 ys, .int .i64 yr, .int .i64 y1, .int .i64 y2, .int .i64 y3, .int .i64 y4]] w fun r w' => r = .returned (.agg #[.int .i64 yn, .int .i64 ys, .int .i64 yr, .int .i64 y1, .int .i64 y2, .int .i64 y3, .int .i64 y4]) ∧ Kp w w' := by
  have k1 : Kp w ((w.alloc (.cells #[.int .i64 yn, .int .i64 ys, .int .i64 yr, .int .i64 y1, .int .i64 y2, .int .i64 y3, .int .i64 y4] 75)).alloc (.cells #[.int .i64 0, .int .i64 0, .int .i64 0, .int .i64 0, .int .i64 0, .int .i64 0, .int .i64 0] 92)) := Kp.trans (kp_alloc _ _) (kp_alloc _ _)
  have r1 := new14_0 w (.cells #[.int .i64 yn, .int .i64 ys, .int .i64 yr, .int .i64 y1, .int .i64 y2, .int .i64 y3, .int .i64 y4] 75) (.cells #[.int .i64 0, .int .i64 0, .int .i64 0, .int .i64 0, .int .i64 0, .int .i64 0, .int .i64 0] 92)
  have r2 := new14_1 w (.cells #[.int .i64 yn, .int .i64 ys, .int .i64 yr, .int .i64 y1, .int .i64 y2, .int .i64 y3, .int .i64 y4] 75) (.cells #[.int .i64 0, .int .i64 0, .int .i64 0, .int .i64 0, .int .i64 0, .int .i64 0, .int .i64 0] 92)
  obtain ⟨W, hW⟩ : ∃ W, (w.alloc (.cells #[.int .i64 yn, .int .i64 ys, .int .i64 yr, .int .i64 y1, .int .i64 y2, .int .i64 y3, .int .i64 y4] 75)).alloc (.cells #[.int .i64 0, .int .i64 0, .int .i64 0, .int .i64 0, .int .i64 0, .int .i64 0, .int .i64 0] 92) = W := ⟨_, rfl⟩
  rw [hW] at k1 r1 r2
  obtain ⟨u0, u1, u2, u3, u4, u5, u6⟩ := cells_7 r1
  obtain ⟨v0, v1, v2, v3, v4, v5, v6⟩ := cells_7 r2
  have fz := frozQ r2
  have K1 := Lib.hid k1
  have R2 := Lib.hid r2
  have hsf := store_fl
  clear k1 r1 r2
  go_enter Tryz.func38, Tryz.ntmps38
  go_wp2
  refine bodyPost_ret (results_cell_row (p := 2) rfl _ _ (w.heap.size + 1) 92 _ (0, 0) _ rfl (set_7 (.int .i64 yn) (.int .i64 ys) (.int .i64 yr) (.int .i64 y1) (.int .i64 y2) (.int .i64 y3) (.int .i64 y4) R2.out) Tryz.underlying92 rfl (by kernel_rfl)) rfl ?_
  exact ⟨rfl, set_7_kp K1.out (by omega) _ _ _ _ _ _ _⟩
set_option maxRecDepth 100000 in
set_option maxHeartbeats 8000000 in
theorem lawAct15 (xn xs xo xd : Int) (xx : Nat) (xp xc : Int) (xb : Option Addr) (n xk : Nat) (xr : List RgM) (hn : xr.length = n) (h6 : n ≤ 6) (hO : w.ownsRow B 69 6 (.slice xb n xk) n (rgE.row xr)) :
    Calls Tryz.prog 37 #[.agg #[.int .i64 xn, .int .i64 xs, .int .i64 xo, .int .i64 xd, .float .f64 xx, .int .i64 xp, .int .i64 xc, .slice xb n xk]] w fun r w' => ∃ (a1 : Option Addr) (c1 : Nat), r = .returned (.agg #[.int .i64 xn, .int .i64 xs, .int .i64 xo, .int .i64 xd, .float .f64 xx, .int .i64 xp, .int .i64 xc, .slice a1 n c1]) ∧ w'.ownsRow w.heap.size 103 6 (.slice a1 n c1) n (rgE.row xr) ∧ Kp w w' := by
  have kv : Kp w ((w.alloc (.cells #[.int .i64 xn, .int .i64 xs, .int .i64 xo, .int .i64 xd, .float .f64 xx, .int .i64 xp, .int .i64 xc, .slice xb n xk] 65)).alloc (.cells #[.int .i64 0, .int .i64 0, .int .i64 0, .int .i64 0, .float .f64 0, .int .i64 0, .int .i64 0, .slice none 0 0] 89)) := Kp.trans (kp_alloc _ _) (kp_alloc _ _)
  have ra := new14_0 w (.cells #[.int .i64 xn, .int .i64 xs, .int .i64 xo, .int .i64 xd, .float .f64 xx, .int .i64 xp, .int .i64 xc, .slice xb n xk] 65) (.cells #[.int .i64 0, .int .i64 0, .int .i64 0, .int .i64 0, .float .f64 0, .int .i64 0, .int .i64 0, .slice none 0 0] 89)
  have k1 : Kp w (((w.alloc (.cells #[.int .i64 xn, .int .i64 xs, .int .i64 xo, .int .i64 xd, .float .f64 xx, .int .i64 xp, .int .i64 xc, .slice xb n xk] 65)).alloc (.cells #[.int .i64 0, .int .i64 0, .int .i64 0, .int .i64 0, .float .f64 0, .int .i64 0, .int .i64 0, .slice none 0 0] 89)).alloc (.cells #[.int .i64 xn, .int .i64 xs, .int .i64 xo, .int .i64 xd, .float .f64 xx, .int .i64 xp, .int .i64 xc, .slice none 0 0] 89)) := Kp.trans kv (kp_alloc _ _)
  have rb := al3_1 w (.cells #[.int .i64 xn, .int .i64 xs, .int .i64 xo, .int .i64 xd, .float .f64 xx, .int .i64 xp, .int .i64 xc, .slice xb n xk] 65) (.cells #[.int .i64 0, .int .i64 0, .int .i64 0, .int .i64 0, .float .f64 0, .int .i64 0, .int .i64 0, .slice none 0 0] 89) (.cells #[.int .i64 xn, .int .i64 xs, .int .i64 xo, .int .i64 xd, .float .f64 xx, .int .i64 xp, .int .i64 xc, .slice none 0 0] 89)
  have rc := al3_2 w (.cells #[.int .i64 xn, .int .i64 xs, .int .i64 xo, .int .i64 xd, .float .f64 xx, .int .i64 xp, .int .i64 xc, .slice xb n xk] 65) (.cells #[.int .i64 0, .int .i64 0, .int .i64 0, .int .i64 0, .float .f64 0, .int .i64 0, .int .i64 0, .slice none 0 0] 89) (.cells #[.int .i64 xn, .int .i64 xs, .int .i64 xo, .int .i64 xd, .float .f64 xx, .int .i64 xp, .int .i64 xc, .slice none 0 0] 89)
  obtain ⟨u0, u1, u2, u3, u4, u5, u6, u7⟩ := cells_8 ra
  have ra3 := al3_0 w (.cells #[.int .i64 xn, .int .i64 xs, .int .i64 xo, .int .i64 xd, .float .f64 xx, .int .i64 xp, .int .i64 xc, .slice xb n xk] 65) (.cells #[.int .i64 0, .int .i64 0, .int .i64 0, .int .i64 0, .float .f64 0, .int .i64 0, .int .i64 0, .slice none 0 0] 89) (.cells #[.int .i64 xn, .int .i64 xs, .int .i64 xo, .int .i64 xd, .float .f64 xx, .int .i64 xp, .int .i64 xc, .slice none 0 0] 89)
  obtain ⟨s0, s1, s2, s3, s4, s5, s6, s7⟩ := cells_8 ra3
  have hn0 : (((w.alloc (.cells #[.int .i64 xn, .int .i64 xs, .int .i64 xo, .int .i64 xd, .float .f64 xx, .int .i64 xp, .int .i64 xc, .slice xb n xk] 65)).alloc (.cells #[.int .i64 0, .int .i64 0, .int .i64 0, .int .i64 0, .float .f64 0, .int .i64 0, .int .i64 0, .slice none 0 0] 89)).alloc (.cells #[.int .i64 xn, .int .i64 xs, .int .i64 xo, .int .i64 xd, .float .f64 xx, .int .i64 xp, .int .i64 xc, .slice none 0 0] 89)).ownsRow w.heap.size 103 6 (.slice none 0 0) 0 (rgE.row (xr.take 0)) := by rw [List.take_zero]; exact World.ownsRow_nil _ _ _ _
  have K1 := Lib.hid k1
  have RZ := Lib.hid rb
  have RN := Lib.hid rc
  have ON := Lib.hid hn0
  have HN := Lib.hid hn
  have H6 := Lib.hid h6
  have OR := Lib.hid hO
  obtain ⟨N, hN⟩ : ∃ N : Int, (n : Int) = N := ⟨_, rfl⟩
  have HNN := Lib.hid hN
  have hsf := store_fl
  clear kv ra k1 rb rc ra3 hn0 hn h6 hO
  go_enter Tryz.func37, Tryz.ntmps37
  go_wp2
  go_loopw [16] (fun i wr => ∃ (j : Nat) (v : Value), j ≤ n ∧ i = .int .i64 j ∧ Kp w wr ∧ wr.heap[w.heap.size + 1]? = some (.cells #[.int .i64 0, .int .i64 0, .int .i64 0, .int .i64 0, .float .f64 0, .int .i64 0, .int .i64 0, .slice none 0 0] 89) ∧ wr.heap[w.heap.size + 1 + 1]? = some (.cells #[.int .i64 xn, .int .i64 xs, .int .i64 xo, .int .i64 xd, .float .f64 xx, .int .i64 xp, .int .i64 xc, v] 89) ∧ wr.ownsRow w.heap.size 103 6 v j (rgE.row (xr.take j))) (fun i _ => n - (intOf i).toNat)
  case atStart => exact ⟨0, _, Nat.zero_le _, rfl, K1.out, RZ.out, RN.out, ON.out⟩
  case round =>
    obtain ⟨j, v, hj, rfl, hk, hz, hr, ho⟩ := hrel
    obtain ⟨a1, c1, rfl⟩ := own_formG ho
    obtain ⟨kk, hkk⟩ : ∃ x : Int, (j : Int) = x := ⟨_, rfl⟩
    have HKK := Lib.hid hkk
    have KR := Lib.hid hk
    have OW := Lib.hid ho
    have RZ1 := Lib.hid hz
    have RN1 := Lib.hid hr
    by_cases hlt : j < n
    · rw [hkk]
      have hjl : kk < N := by have := HNN.out; omega
      have hk0 : 0 ≤ kk := by omega
      have htk : kk.toNat = j := by omega
      have hn6 : N ≤ 6 := by have := HNN.out; have := H6.out; omega
      have hw1 : wrap64 (kk + 1) = kk + 1 := IntWalk.wrap64_in _ (by omega)
      have HLT := Lib.hid hlt
      have HLB := Lib.hid (show j + 1 ≤ 1000000 by have := H6.out; omega)
      have hjo : j < xr.length := by have := HN.out; omega
      obtain ⟨gr, ck, exb, hck, hgrB, hgrl, hfzr, hcr⟩ := own_cellQ (E := rgE) (own_kp OR.out hk) HN.out hlt
      obtain ⟨⟨yn, yp, ⟨y1, y2, y3, y4⟩⟩, hy⟩ : ∃ r, xr[j]'hjo = r := ⟨_, rfl⟩
      have hcr2 : ∀ (i : Nat) (u : Value), i < rgE.k → (rgE.enc (xr[j]'hjo))[i]? = some u → wr.cell? ⟨gr, j * rgE.k + i, none⟩ = some u := hcr
      rw [hy, show rgE.k = 6 from rfl, ← htk] at hcr2
      have exb := congrArg (fun v => match v with | Value.slice a _ _ => a | _ => none) exb
      dsimp only at exb
      subst exb
      have e0 : wr.cell? ⟨gr, kk.toNat * 6, none⟩ = some (.int .i64 yn) := hcr2 0 _ (by decide) rfl
      have e1 : wr.cell? ⟨gr, kk.toNat * 6 + 1, none⟩ = some (.int .i64 yp) := hcr2 1 _ (by decide) rfl
      have e2 : wr.cell? ⟨gr, kk.toNat * 6 + 2, none⟩ = some (.int .i64 y1) := hcr2 2 _ (by decide) rfl
      have e3 : wr.cell? ⟨gr, kk.toNat * 6 + 3, none⟩ = some (.int .i64 y2) := hcr2 3 _ (by decide) rfl
      have e4 : wr.cell? ⟨gr, kk.toNat * 6 + 4, none⟩ = some (.int .i64 y3) := hcr2 4 _ (by decide) rfl
      have e5 : wr.cell? ⟨gr, kk.toNat * 6 + 5, none⟩ = some (.int .i64 y4) := hcr2 5 _ (by decide) rfl
      have kb := kp_alloc wr (.cells #[.int .i64 yn, .int .i64 yp, .int .i64 y1, .int .i64 y2, .int .i64 y3, .int .i64 y4] 69)
      obtain ⟨d0, d1, d2, d3, d4, d5⟩ := cells_6Q (MapKept.heap_alloc wr (.cells #[.int .i64 yn, .int .i64 yp, .int .i64 y1, .int .i64 y2, .int .i64 y3, .int .i64 y4] 69)).1
      obtain ⟨_, _, _, _, _, _, _, n7⟩ := cells_8 (kp_row kb hr)
      have hts : xr.take (j + 1) = xr.take j ++ [xr[j]] := by rw [← List.take_succ_eq_append_getElem hjo]
      rw [hy] at hts
      have HTS := Lib.hid hts
      have kx : Kp wr ((wr.alloc (.cells #[.int .i64 yn, .int .i64 yp, .int .i64 y1, .int .i64 y2, .int .i64 y3, .int .i64 y4] 69)).alloc (.cells #[.int .i64 yn, .int .i64 yp, .int .i64 y1, .int .i64 y2, .int .i64 y3, .int .i64 y4] 103)) := Kp.trans kb (kp_alloc _ _)
      have KX := Lib.hid kx
      clear hkk hj hlt hk hz hr ho htk hck hgrB hgrl hfzr hcr hcr2 hy hts hjo kb kx
      go_wp2_with (at_builtin; refine wpList_append_rwG (E := rgE) ty_rgD (by decide) _ rfl _ _ rfl w.heap.size _ j _ rfl (own_kp OW.out KX.out) _ [(⟨yn, yp, ⟨y1, y2, y3, y4⟩⟩ : RgM)] rfl (part_oneG (new14_1 wr (.cells #[.int .i64 yn, .int .i64 yp, .int .i64 y1, .int .i64 y2, .int .i64 y3, .int .i64 y4] 69) (.cells #[.int .i64 yn, .int .i64 yp, .int .i64 y1, .int .i64 y2, .int .i64 y3, .int .i64 y4] 103)) rfl) HLB.out (kp_size (Kp.trans KR.out KX.out)) ?_)
      rintro v6 u6 o6 hg hb6
      have o6 : u6.ownsRow w.heap.size 103 6 v6 (j + 1) (rgE.row (xr.take j ++ [(⟨yn, yp, ⟨y1, y2, y3, y4⟩⟩ : RgM)])) := o6
      obtain ⟨a6, c6, rfl⟩ := own_formG o6
      have OX := own_kp OW.out KX.out
      have K6 : Kp w u6 := Below.grown (Kp.trans KR.out KX.out) hg (Below.size (Kp.trans KR.out KX.out)) (fun b hk => (OX.lt b hk).1)
      have q1 := (hg.block _ (old_of_row (kp_row KX.out RZ1.out)) (own_neQ OX (kp_row KX.out RZ1.out) (by decide))).trans (kp_row KX.out RZ1.out)
      have q2 := (hg.block _ (old_of_row (kp_row KX.out RN1.out)) (own_neQ OX (kp_row KX.out RN1.out) (by decide))).trans (kp_row KX.out RN1.out)
      obtain ⟨_, _, _, _, _, _, _, m7⟩ := cells_8 q2
      have fz := frozQ q2 7
      obtain ⟨w7, hw7⟩ : ∃ x, u6.setCell ⟨w.heap.size + 1 + 1, 7, none⟩ (.slice a6 (j + 1) c6) = x := ⟨_, rfl⟩
      have k7 : Kp w w7 := by rw [← hw7]; exact Below.setCell K6 (by dsimp only; omega) _
      have z7 : w7.heap[w.heap.size + 1]? = some (.cells #[.int .i64 0, .int .i64 0, .int .i64 0, .int .i64 0, .float .f64 0, .int .i64 0, .int .i64 0, .slice none 0 0] 89) := by rw [← hw7, Below.heap_setCell _ _ _ _ (by dsimp only; omega)]; exact q1
      have n7 : w7.heap[w.heap.size + 1 + 1]? = some (.cells #[.int .i64 xn, .int .i64 xs, .int .i64 xo, .int .i64 xd, .float .f64 xx, .int .i64 xp, .int .i64 xc, .slice a6 (j + 1) c6] 89) := by rw [← hw7]; exact (Joins.block_setCell q2 _).trans rfl
      have o7 : w7.ownsRow w.heap.size 103 6 (.slice a6 (j + 1) c6) (j + 1) (rgE.row (xr.take (j + 1))) := by
        rw [← hw7, HTS.out]
        exact own_stayG o6 (fun b e => Below.heap_setCell _ _ _ _ (fun e2 => own_neQ o6 q2 (by decide) (by rw [e2] at e; exact e.symm)))
      have K7 := Lib.hid k7
      have Z7 := Lib.hid z7
      have N7 := Lib.hid n7
      have O7 := Lib.hid o7
      clear OX K6 q1 q2 o6 hg hb6 k7 z7 n7 o7
      go_wp2
      go_roundw
      case rel => exact ⟨j + 1, .slice a6 (j + 1) c6, by have := HLT.out; omega, by have := HKK.out; first | rw [show ((j + 1 : Nat) : Int) = kk + 1 by omega] | rw [show ((j + 1 : Nat) : Int) = kk + 1 by omega, hw1], K7.out, Z7.out, N7.out, O7.out⟩
      case measure => have := HKK.out; have := HLT.out; simp [intOf]; omega
    · have hjn : j = n := by omega
      subst hjn
      have hje : ¬ kk < N := by have := HNN.out; omega
      have hfin : xr.take j = xr := by rw [← HN.out, List.take_length]
      rw [hfin] at ho
      have OE := Lib.hid ho
      obtain ⟨n0, n1, n2, n3, n4, n5, n6, n7⟩ := cells_8 hr
      obtain ⟨z0, z1, z2, z3, z4, z5, z6, z7⟩ := cells_8 hz
      have fz := frozQ hz
      rw [hkk]
      clear hkk hj hlt hk hz hr ho hfin
      go_wp2
      refine bodyPost_ret (results_cell_row (p := 2) rfl _ _ (w.heap.size + 1) 89 _ (0, 0) _ rfl (set_8 (.int .i64 xn) (.int .i64 xs) (.int .i64 xo) (.int .i64 xd) (.float .f64 xx) (.int .i64 xp) (.int .i64 xc) (.slice a1 j c1) RZ1.out) Tryz.underlying89 rfl (by kernel_rfl)) rfl ?_
      refine ⟨a1, c1, rfl, own_stayG OE.out (fun b e => ?_), set_8_kp KR.out (by omega) _ _ _ _ _ _ _ _⟩
      have hne : b ≠ w.heap.size + 1 := fun e2 => own_neQ OE.out RZ1.out (by decide) (by rw [e2] at e; exact e.symm)
      rw [Below.heap_setCell _ _ _ _ hne, Below.heap_setCell _ _ _ _ hne, Below.heap_setCell _ _ _ _ hne, Below.heap_setCell _ _ _ _ hne, Below.heap_setCell _ _ _ _ hne, Below.heap_setCell _ _ _ _ hne, Below.heap_setCell _ _ _ _ hne, Below.heap_setCell _ _ _ _ hne]
end Go.Proofs.YtpemeenfhkgmpaaGreatDoor
