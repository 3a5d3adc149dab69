/-
  PARTS OF THIS PROOF (own work): LsO.
-/
import Derived.Test.YtpemeenfhkgmpaaGreatDoorZs27
namespace Go.Proofs.YtpemeenfhkgmpaaGreatDoor
open Go.RowKit Go.ChangeShapes Go.WideShapes

theorem factsR_app (n s : Int) : ∀ (i : Nat) (A B : List RgM), factsR n s i (A ++ B) = factsR n s i A ++ factsR n s (i + A.length) B
  | i, [], B => rfl
  | i, x :: A, B => by
    have ih := factsR_app n s (i + 1) A B
    simp only [List.cons_append, factsR, ih, List.length_cons]
    rw [show i + 1 + A.length = i + (A.length + 1) by omega]
theorem factsZ_app (n s : Int) : ∀ (i : Nat) (A B : List RgM), factsZ n s i (A ++ B) = factsZ n s i A ++ factsZ n s (i + A.length) B
  | i, [], B => rfl
  | i, x :: A, B => by
    have ih := factsZ_app n s (i + 1) A B
    simp only [List.cons_append, factsZ, ih, List.append_assoc, List.length_cons]
    rw [show i + 1 + A.length = i + (A.length + 1) by omega]
theorem factsR_len (n s : Int) : ∀ (i : Nat) (A : List RgM), (factsR n s i A).length = A.length
  | _, [] => rfl
  | i, x :: A => by simp only [factsR, List.length_cons, factsR_len n s (i + 1) A]
theorem factsZ_len (n s : Int) : ∀ (i : Nat) (A : List RgM), (factsZ n s i A).length ≤ A.length
  | _, [] => Nat.le_refl _
  | i, x :: A => by
    have := factsZ_len n s (i + 1) A
    simp only [factsZ, List.length_append, List.length_cons]
    split <;> simp <;> omega
theorem factsA_len (a : AcM) : (factsA a).length ≤ 2 + 2 * a.regs.length := by
  have h1 := factsR_len a.c.n a.c.s 0 a.regs
  have h2 := factsZ_len a.c.n a.c.s 0 a.regs
  unfold factsA
  simp only [List.length_cons, List.length_append, h1]
  split <;> simp <;> omega
variable {w0 w w' W w3 : World} {B q : Nat} {m : StM} {gs : List AcG} {va vp : Value}

theorem cells_6Q {b : Nat} {t : TypeId} {w : World} {x0 x1 x2 x3 x4 x5 : Value} (h : w.heap[b]? = some (.cells #[x0, x1, x2, x3, x4, x5] t (0, 0))) : w.cell? ⟨b, 0, none⟩ = some x0 ∧ w.cell? ⟨b, 1, none⟩ = some x1 ∧ w.cell? ⟨b, 2, none⟩ = some x2 ∧ w.cell? ⟨b, 3, none⟩ = some x3 ∧ w.cell? ⟨b, 4, none⟩ = some x4 ∧ w.cell? ⟨b, 5, none⟩ = some x5 := by
  refine ⟨?_, ?_, ?_, ?_, ?_, ?_⟩ <;> (unfold World.cell?; dsimp only; rw [h]; rfl)
theorem al3_0 (w : World) (o1 o2 o3 : Obj) : (((w.alloc o1).alloc o2).alloc o3).heap[w.heap.size]? = some o1 := by
  rw [Below.heap_alloc _ _ _ (by simp <;> omega), Below.heap_alloc _ _ _ (by simp)]
  exact (MapKept.heap_alloc w o1).1
theorem al3_1 (w : World) (o1 o2 o3 : Obj) : (((w.alloc o1).alloc o2).alloc o3).heap[w.heap.size + 1]? = some o2 := by
  rw [Below.heap_alloc _ _ _ (by simp)]
  have := (MapKept.heap_alloc (w.alloc o1) o2).1
  simpa using this
set_option maxRecDepth 100000 in
set_option maxHeartbeats 8000000 in
theorem lsAFacts (xn xs xo xd : Int) (xx : Nat) (xp xc : Int) (xb : Option Addr) (n xk : Nat) (xr : List RgM) (hn : xr.length = n) (h6 : n ≤ 6) (hO : w.ownsRow B 69 6 (.slice xb n xk) n (rgE.row xr)) :
    Calls Tryz.prog 40 #[.agg #[.int .i64 xn, .int .i64 xs, .int .i64 xo, .int .i64 xd, .float .f64 xx, .int .i64 xp, .int .i64 xc, .slice xb n xk]] w fun r w' => ∃ v, r = .returned v ∧ w'.ownsRow w.heap.size 39 14 v (factsA ⟨⟨xn, xs, xo, xd, xx⟩, xp, xc, xr⟩).length (fcE.row (factsA ⟨⟨xn, xs, xo, xd, xx⟩, xp, xc, xr⟩)) ∧ Kp w w' := by
  obtain ⟨ya0, ya1, ya2, ya3, ya4, ya5, ya6, ya7⟩ := cells_8 (MapKept.heap_alloc w (.cells #[.int .i64 xn, .int .i64 xs, .int .i64 xo, .int .i64 xd, .float .f64 xx, .int .i64 xp, .int .i64 xc, .slice xb n xk] 65)).1
  obtain ⟨m0, m1, m2, m3, m4⟩ := cells_5 (new14_1 w (.cells #[.int .i64 xn, .int .i64 xs, .int .i64 xo, .int .i64 xd, .float .f64 xx, .int .i64 xp, .int .i64 xc, .slice xb n xk] 65) (.cells #[.int .i64 xn, .int .i64 xs, .int .i64 xo, .int .i64 xd, .float .f64 xx] 62))
  have g5 := kp_cell (kp_alloc _ (.cells #[.int .i64 xn, .int .i64 xs, .int .i64 xo, .int .i64 xd, .float .f64 xx] 62)) ya5
  have k1 : Kp w (((w.alloc (.cells #[.int .i64 xn, .int .i64 xs, .int .i64 xo, .int .i64 xd, .float .f64 xx, .int .i64 xp, .int .i64 xc, .slice xb n xk] 65)).alloc (.cells #[.int .i64 xn, .int .i64 xs, .int .i64 xo, .int .i64 xd, .float .f64 xx] 62)).alloc (.cells #[.int .i64 1, .int .i64 xn, .int .i64 xs, .int .i64 0, .int .i64 0, .int .i64 0, .int .i64 0, .int .i64 xo, .int .i64 xd, .int .i64 xp, .int .i64 0, .int .i64 0, .int .i64 0, .float .f64 xx] 39)) := Kp.trans (Kp.trans (kp_alloc _ _) (kp_alloc _ _)) (kp_alloc _ _)
  have ra := al3_0 w (.cells #[.int .i64 xn, .int .i64 xs, .int .i64 xo, .int .i64 xd, .float .f64 xx, .int .i64 xp, .int .i64 xc, .slice xb n xk] 65) (.cells #[.int .i64 xn, .int .i64 xs, .int .i64 xo, .int .i64 xd, .float .f64 xx] 62) (.cells #[.int .i64 1, .int .i64 xn, .int .i64 xs, .int .i64 0, .int .i64 0, .int .i64 0, .int .i64 0, .int .i64 xo, .int .i64 xd, .int .i64 xp, .int .i64 0, .int .i64 0, .int .i64 0, .float .f64 xx] 39)
  have rc := al3_1 w (.cells #[.int .i64 xn, .int .i64 xs, .int .i64 xo, .int .i64 xd, .float .f64 xx, .int .i64 xp, .int .i64 xc, .slice xb n xk] 65) (.cells #[.int .i64 xn, .int .i64 xs, .int .i64 xo, .int .i64 xd, .float .f64 xx] 62) (.cells #[.int .i64 1, .int .i64 xn, .int .i64 xs, .int .i64 0, .int .i64 0, .int .i64 0, .int .i64 0, .int .i64 xo, .int .i64 xd, .int .i64 xp, .int .i64 0, .int .i64 0, .int .i64 0, .float .f64 xx] 39)
  have ow := own_oneF (w := (w.alloc (.cells #[.int .i64 xn, .int .i64 xs, .int .i64 xo, .int .i64 xd, .float .f64 xx, .int .i64 xp, .int .i64 xc, .slice xb n xk] 65)).alloc (.cells #[.int .i64 xn, .int .i64 xs, .int .i64 xo, .int .i64 xd, .float .f64 xx] 62)) (t := 39) (B := w.heap.size) (⟨1, xn, xs, 0, 0, 0, 0, xo, xd, xp, 0, 0, 0, xx⟩ : FX) (by simp; omega)
  dsimp only [FX.cells] at ow
  rw [show ((w.alloc (.cells #[.int .i64 xn, .int .i64 xs, .int .i64 xo, .int .i64 xd, .float .f64 xx, .int .i64 xp, .int .i64 xc, .slice xb n xk] 65)).alloc (.cells #[.int .i64 xn, .int .i64 xs, .int .i64 xo, .int .i64 xd, .float .f64 xx] 62)).heap.size = w.heap.size + 1 + 1 by simp] at ow
  obtain ⟨W, hW⟩ : ∃ W, (((w.alloc (.cells #[.int .i64 xn, .int .i64 xs, .int .i64 xo, .int .i64 xd, .float .f64 xx, .int .i64 xp, .int .i64 xc, .slice xb n xk] 65)).alloc (.cells #[.int .i64 xn, .int .i64 xs, .int .i64 xo, .int .i64 xd, .float .f64 xx] 62)).alloc (.cells #[.int .i64 1, .int .i64 xn, .int .i64 xs, .int .i64 0, .int .i64 0, .int .i64 0, .int .i64 0, .int .i64 xo, .int .i64 xd, .int .i64 xp, .int .i64 0, .int .i64 0, .int .i64 0, .float .f64 xx] 39)) = W := ⟨_, rfl⟩
  rw [hW] at k1 ra rc ow
  obtain ⟨s0, s1, s2, s3, s4, s5, s6, s7⟩ := cells_8 ra
  obtain ⟨N, hN⟩ : ∃ N : Int, (n : Int) = N := ⟨_, rfl⟩
  have K1 := Lib.hid k1
  have RA := Lib.hid ra
  have RC := Lib.hid rc
  have OE1 := Lib.hid ow
  have HN := Lib.hid hn
  have HNN := Lib.hid hN
  have H6 := Lib.hid h6
  have ORR := Lib.hid hO
  have HL0R := Lib.hid (show ([(⟨1, xn, xs, 0, 0, 0, 0, xo, xd, xp, 0, 0, 0, xx⟩ : FX)] : List FX).length ≤ 50 by simp)
  have hsf := store_fl
  clear k1 ra rc ow hn h6 hO
  go_enter Tryz.func40, Tryz.ntmps40
  go_wp2
  go_loopw [4, 26] (fun v i wr => ∃ j : Nat, j ≤ n ∧ i = .int .i64 j ∧ wr.ownsRow w.heap.size 39 14 v ([(⟨1, xn, xs, 0, 0, 0, 0, xo, xd, xp, 0, 0, 0, xx⟩ : FX)] ++ factsR xn xs 0 (xr.take j)).length (fcE.row ([(⟨1, xn, xs, 0, 0, 0, 0, xo, xd, xp, 0, 0, 0, xx⟩ : FX)] ++ factsR xn xs 0 (xr.take j))) ∧ Kp w wr ∧ wr.heap[w.heap.size]? = some (.cells #[.int .i64 xn, .int .i64 xs, .int .i64 xo, .int .i64 xd, .float .f64 xx, .int .i64 xp, .int .i64 xc, .slice xb n xk] 65) ∧ wr.heap[w.heap.size + 1]? = some (.cells #[.int .i64 xn, .int .i64 xs, .int .i64 xo, .int .i64 xd, .float .f64 xx] 62)) (fun _ i _ => n - (intOf i).toNat)
  case atStart => exact ⟨0, Nat.zero_le _, rfl, by simpa [factsR] using OE1.out, K1.out, RA.out, RC.out⟩
  case round =>
    obtain ⟨j, hj, rfl, hown, hk, hr0l, hr1l⟩ := hrel
    obtain ⟨kk, hkk⟩ : ∃ x : Int, (j : Int) = x := ⟨_, rfl⟩
    rw [hkk]
    have HKK := Lib.hid hkk
    have KR := Lib.hid hk
    have OW := Lib.hid hown
    have R0l := Lib.hid hr0l
    have R1l := Lib.hid hr1l
    obtain ⟨la, hla⟩ : ∃ x, ([(⟨1, xn, xs, 0, 0, 0, 0, xo, xd, xp, 0, 0, 0, xx⟩ : FX)] ++ factsR xn xs 0 (xr.take j)).length = x := ⟨_, rfl⟩
    obtain ⟨a1, c1, rfl⟩ := own_formG hown
    rw [hla] at OW ⊢
    have HLA := Lib.hid hla
    by_cases hlt : j < n
    · have hjl : kk < N := by have := HNN.out; omega
      have hk0 : 0 ≤ kk := by omega
      have htk : kk.toNat = j := by omega
      have hjo : j < xr.length := by have := HN.out; omega
      obtain ⟨gr, ck, exb, hck, hgrB, hgrl, hfzr, hcr⟩ := own_cellQ (E := rgE) (own_kp ORR.out hk) HN.out hlt
      obtain ⟨⟨yn, yp, ⟨y1, y2, y3, y4⟩⟩, hy⟩ : ∃ r, xr[j]'hjo = r := ⟨_, rfl⟩
      have hcr2 : ∀ (i : Nat) (u : Value), i < rgE.k → (rgE.enc (xr[j]'hjo))[i]? = some u → wr.cell? ⟨gr, j * rgE.k + i, none⟩ = some u := hcr
      rw [hy, show rgE.k = 6 from rfl, ← htk] at hcr2
      have exb := congrArg (fun v => match v with | Value.slice a _ _ => a | _ => none) exb
      dsimp only at exb
      subst exb
      have c0 : wr.cell? ⟨gr, kk.toNat * 6, none⟩ = some (.int .i64 yn) := hcr2 0 _ (by decide) rfl
      have c1 : wr.cell? ⟨gr, kk.toNat * 6 + 1, none⟩ = some (.int .i64 yp) := hcr2 1 _ (by decide) rfl
      have c2 : wr.cell? ⟨gr, kk.toNat * 6 + 2, none⟩ = some (.int .i64 y1) := hcr2 2 _ (by decide) rfl
      have c3 : wr.cell? ⟨gr, kk.toNat * 6 + 3, none⟩ = some (.int .i64 y2) := hcr2 3 _ (by decide) rfl
      have c4 : wr.cell? ⟨gr, kk.toNat * 6 + 4, none⟩ = some (.int .i64 y3) := hcr2 4 _ (by decide) rfl
      have c5 : wr.cell? ⟨gr, kk.toNat * 6 + 5, none⟩ = some (.int .i64 y4) := hcr2 5 _ (by decide) rfl
      obtain ⟨d0, d1, d2, d3, d4, d5⟩ := cells_6Q (MapKept.heap_alloc wr (.cells #[.int .i64 yn, .int .i64 yp, .int .i64 y1, .int .i64 y2, .int .i64 y3, .int .i64 y4] 69)).1
      obtain ⟨p0, p1, p2, p3, p4⟩ := cells_5 (kp_row (kp_alloc wr (.cells #[.int .i64 yn, .int .i64 yp, .int .i64 y1, .int .i64 y2, .int .i64 y3, .int .i64 y4] 69)) hr1l)
      have hts : xr.take (j + 1) = xr.take j ++ [xr[j]] := by rw [← List.take_succ_eq_append_getElem hjo]
      rw [hy] at hts
      have hlb : la ≤ 100 := by
        have h1 := factsR_len xn xs 0 (xr.take j)
        have := HL0R.out
        rw [List.length_append] at hla
        rw [List.length_take] at h1
        have := H6.out
        omega
      have HLB := Lib.hid (show la + 1 ≤ 1000000 by omega)
      have HLT := Lib.hid hlt
      have hw1 : wrap64 (kk + 1) = kk + 1 := IntWalk.wrap64_in _ (by have := H6.out; have := HNN.out; omega)
      have htlen : (xr.take j).length = j := by rw [List.length_take]; omega
      have HTK := Lib.hid (show factsR xn xs 0 (xr.take (j + 1)) = factsR xn xs 0 (xr.take j) ++ [(⟨2, xn, xs, kk, yn, yp, y1, 0, 0, 0, 0, 0, 0, 0⟩ : FX)] by rw [hts, factsR_app, htlen, Nat.zero_add, ← hkk]; rfl)
      clear hcr hcr2 hkk hj hlt hk hown hr0l hr1l hla hlb htk hck hgrB hgrl hfzr hy hts htlen
      go_wp2_with (at_builtin; refine wpList_append_rwG (E := fcE) ty_fcL (by decide) _ rfl _ _ rfl w.heap.size _ la _ rfl (own_kp OW.out (Kp.trans (kp_alloc wr (.cells #[.int .i64 yn, .int .i64 yp, .int .i64 y1, .int .i64 y2, .int .i64 y3, .int .i64 y4] 69)) (kp_alloc (wr.alloc (.cells #[.int .i64 yn, .int .i64 yp, .int .i64 y1, .int .i64 y2, .int .i64 y3, .int .i64 y4] 69)) (.cells #[.int .i64 2, .int .i64 xn, .int .i64 xs, .int .i64 kk, .int .i64 yn, .int .i64 yp, .int .i64 y1, .int .i64 0, .int .i64 0, .int .i64 0, .int .i64 0, .int .i64 0, .int .i64 0, .float .f64 0] 39)))) _ [(⟨2, xn, xs, kk, yn, yp, y1, 0, 0, 0, 0, 0, 0, 0⟩ : FX)] rfl (part_oneG (new14_1 wr (.cells #[.int .i64 yn, .int .i64 yp, .int .i64 y1, .int .i64 y2, .int .i64 y3, .int .i64 y4] 69) (.cells #[.int .i64 2, .int .i64 xn, .int .i64 xs, .int .i64 kk, .int .i64 yn, .int .i64 yp, .int .i64 y1, .int .i64 0, .int .i64 0, .int .i64 0, .int .i64 0, .int .i64 0, .int .i64 0, .float .f64 0] 39)) rfl) HLB.out (kp_size (Kp.trans KR.out (Kp.trans (kp_alloc wr (.cells #[.int .i64 yn, .int .i64 yp, .int .i64 y1, .int .i64 y2, .int .i64 y3, .int .i64 y4] 69)) (kp_alloc (wr.alloc (.cells #[.int .i64 yn, .int .i64 yp, .int .i64 y1, .int .i64 y2, .int .i64 y3, .int .i64 y4] 69)) (.cells #[.int .i64 2, .int .i64 xn, .int .i64 xs, .int .i64 kk, .int .i64 yn, .int .i64 yp, .int .i64 y1, .int .i64 0, .int .i64 0, .int .i64 0, .int .i64 0, .int .i64 0, .int .i64 0, .float .f64 0] 39))))) ?_)
      rintro v6 u6 o6 hg hb6
      have kx : Kp wr ((wr.alloc (.cells #[.int .i64 yn, .int .i64 yp, .int .i64 y1, .int .i64 y2, .int .i64 y3, .int .i64 y4] 69)).alloc (.cells #[.int .i64 2, .int .i64 xn, .int .i64 xs, .int .i64 kk, .int .i64 yn, .int .i64 yp, .int .i64 y1, .int .i64 0, .int .i64 0, .int .i64 0, .int .i64 0, .int .i64 0, .int .i64 0, .float .f64 0] 39)) := Kp.trans (kp_alloc _ _) (kp_alloc _ _)
      have OX := own_kp OW.out kx
      have K6 := Lib.hid (show Kp w u6 from Below.grown (Kp.trans KR.out kx) hg (Below.size (Kp.trans KR.out kx)) (fun b hk => (OX.lt b hk).1))
      have Q0 := Lib.hid ((hg.block _ (old_of_row (kp_row kx R0l.out)) (own_neQ OX (kp_row kx R0l.out) (by decide))).trans (kp_row kx R0l.out))
      have Q1 := Lib.hid ((hg.block _ (old_of_row (kp_row kx R1l.out)) (own_neQ OX (kp_row kx R1l.out) (by decide))).trans (kp_row kx R1l.out))
      have O6 := Lib.hid o6
      clear o6 hg hb6 kx OX
      go_wp2
      go_roundw
      case rel => exact ⟨j + 1, by have := HLT.out; omega, by have := HKK.out; rw [show ((j + 1 : Nat) : Int) = kk + 1 by omega, hw1], by rw [HTK.out, ← List.append_assoc, List.length_append, HLA.out]; exact (by have h := O6.out; simp only [List.cons_append, List.nil_append, List.length_cons, List.length_nil, Nat.zero_add] at h ⊢; exact h), K6.out, Q0.out, Q1.out⟩
      case measure => have := HKK.out; have := HLT.out; simp [intOf]; omega
    · have hje : ¬ kk < N := by have := HNN.out; omega
      have hjn : j = n := by omega
      have hfin : xr.take j = xr := by rw [hjn, ← HN.out, List.take_length]
      have hOE : wr.ownsRow w.heap.size 39 14 (.slice a1 la c1) la (fcE.row ([(⟨1, xn, xs, 0, 0, 0, 0, xo, xd, xp, 0, 0, 0, xx⟩ : FX)] ++ factsR xn xs 0 xr)) := by rw [hfin] at hown; rw [hfin] at hla; rw [hla] at hown; exact hown
      have hle : ([(⟨1, xn, xs, 0, 0, 0, 0, xo, xd, xp, 0, 0, 0, xx⟩ : FX)] ++ factsR xn xs 0 xr).length = la := by rw [hfin] at hla; exact hla
      have OER := Lib.hid hOE
      have LER := Lib.hid hle
      have KER := KR
      have RAR := R0l
      have RCR := R1l
      obtain ⟨z0, z1, z2, z3, z4, z5, z6, z7⟩ := cells_8 hr0l
      clear hkk hj hlt hk hown hr0l hr1l hla hjn hfin hOE hle OW
      go_wp2
      have HL0Z := Lib.hid (show (([(⟨1, xn, xs, 0, 0, 0, 0, xo, xd, xp, 0, 0, 0, xx⟩ : FX)] ++ factsR xn xs 0 xr)).length ≤ 50 by rw [LER.out]; have h1 := factsR_len xn xs 0 xr; have h3 := LER.out; rw [List.length_append] at h3; have := H6.out; have := HN.out; simp at h3; omega)
      have OEZ0 := Lib.hid (show wr.ownsRow w.heap.size 39 14 (.slice a1 la c1) (([(⟨1, xn, xs, 0, 0, 0, 0, xo, xd, xp, 0, 0, 0, xx⟩ : FX)] ++ factsR xn xs 0 xr)).length (fcE.row (([(⟨1, xn, xs, 0, 0, 0, 0, xo, xd, xp, 0, 0, 0, xx⟩ : FX)] ++ factsR xn xs 0 xr))) by rw [LER.out]; exact OER.out)
      clear z0 z1 z2 z3 z4 z5 z6 z7
      clear OER
      obtain ⟨wf, hwf⟩ : ∃ wf, wf = wr := ⟨wr, rfl⟩
      subst hwf
      go_loopw [4, 49] (fun v i wr => ∃ j : Nat, j ≤ n ∧ i = .int .i64 j ∧ wr.ownsRow w.heap.size 39 14 v (([(⟨1, xn, xs, 0, 0, 0, 0, xo, xd, xp, 0, 0, 0, xx⟩ : FX)] ++ factsR xn xs 0 xr) ++ factsZ xn xs 0 (xr.take j)).length (fcE.row (([(⟨1, xn, xs, 0, 0, 0, 0, xo, xd, xp, 0, 0, 0, xx⟩ : FX)] ++ factsR xn xs 0 xr) ++ factsZ xn xs 0 (xr.take j))) ∧ Kp w wr ∧ wr.heap[w.heap.size]? = some (.cells #[.int .i64 xn, .int .i64 xs, .int .i64 xo, .int .i64 xd, .float .f64 xx, .int .i64 xp, .int .i64 xc, .slice xb n xk] 65) ∧ wr.heap[w.heap.size + 1]? = some (.cells #[.int .i64 xn, .int .i64 xs, .int .i64 xo, .int .i64 xd, .float .f64 xx] 62)) (fun _ i _ => n - (intOf i).toNat)
      case atStart => exact ⟨0, Nat.zero_le _, rfl, by simpa [factsZ] using OEZ0.out, KER.out, RAR.out, RCR.out⟩
      case round =>
        obtain ⟨j, hj, rfl, hown, hk, hr0l, hr1l⟩ := hrel
        obtain ⟨kk, hkk⟩ : ∃ x : Int, (j : Int) = x := ⟨_, rfl⟩
        rw [hkk]
        have HKK := Lib.hid hkk
        have KR := Lib.hid hk
        have OW := Lib.hid hown
        have R0l := Lib.hid hr0l
        have R1l := Lib.hid hr1l
        obtain ⟨la, hla⟩ : ∃ x, (([(⟨1, xn, xs, 0, 0, 0, 0, xo, xd, xp, 0, 0, 0, xx⟩ : FX)] ++ factsR xn xs 0 xr) ++ factsZ xn xs 0 (xr.take j)).length = x := ⟨_, rfl⟩
        obtain ⟨a1, c1, rfl⟩ := own_formG hown
        rw [hla] at OW ⊢
        have HLA := Lib.hid hla
        by_cases hlt : j < n
        · have hjl : kk < N := by have := HNN.out; omega
          have hk0 : 0 ≤ kk := by omega
          have htk : kk.toNat = j := by omega
          have hjo : j < xr.length := by have := HN.out; omega
          obtain ⟨gr, ck, exb, hck, hgrB, hgrl, hfzr, hcr⟩ := own_cellQ (E := rgE) (own_kp ORR.out hk) HN.out hlt
          obtain ⟨⟨yn, yp, ⟨y1, y2, y3, y4⟩⟩, hy⟩ : ∃ r, xr[j]'hjo = r := ⟨_, rfl⟩
          have hcr2 : ∀ (i : Nat) (u : Value), i < rgE.k → (rgE.enc (xr[j]'hjo))[i]? = some u → wr.cell? ⟨gr, j * rgE.k + i, none⟩ = some u := hcr
          rw [hy, show rgE.k = 6 from rfl, ← htk] at hcr2
          have exb := congrArg (fun v => match v with | Value.slice a _ _ => a | _ => none) exb
          dsimp only at exb
          subst exb
          have c0 : wr.cell? ⟨gr, kk.toNat * 6, none⟩ = some (.int .i64 yn) := hcr2 0 _ (by decide) rfl
          have c1 : wr.cell? ⟨gr, kk.toNat * 6 + 1, none⟩ = some (.int .i64 yp) := hcr2 1 _ (by decide) rfl
          have c2 : wr.cell? ⟨gr, kk.toNat * 6 + 2, none⟩ = some (.int .i64 y1) := hcr2 2 _ (by decide) rfl
          have c3 : wr.cell? ⟨gr, kk.toNat * 6 + 3, none⟩ = some (.int .i64 y2) := hcr2 3 _ (by decide) rfl
          have c4 : wr.cell? ⟨gr, kk.toNat * 6 + 4, none⟩ = some (.int .i64 y3) := hcr2 4 _ (by decide) rfl
          have c5 : wr.cell? ⟨gr, kk.toNat * 6 + 5, none⟩ = some (.int .i64 y4) := hcr2 5 _ (by decide) rfl
          obtain ⟨d0, d1, d2, d3, d4, d5⟩ := cells_6Q (MapKept.heap_alloc wr (.cells #[.int .i64 yn, .int .i64 yp, .int .i64 y1, .int .i64 y2, .int .i64 y3, .int .i64 y4] 69)).1
          obtain ⟨p0, p1, p2, p3, p4⟩ := cells_5 (kp_row (kp_alloc wr (.cells #[.int .i64 yn, .int .i64 yp, .int .i64 y1, .int .i64 y2, .int .i64 y3, .int .i64 y4] 69)) hr1l)
          have hts : xr.take (j + 1) = xr.take j ++ [xr[j]] := by rw [← List.take_succ_eq_append_getElem hjo]
          rw [hy] at hts
          have hlb : la ≤ 100 := by
            have h1 := factsZ_len xn xs 0 (xr.take j)
            have := HL0Z.out
            rw [List.length_append] at hla
            rw [List.length_take] at h1
            have := H6.out
            omega
          have HLB := Lib.hid (show la + 1 ≤ 1000000 by omega)
          have HLT := Lib.hid hlt
          have hw1 : wrap64 (kk + 1) = kk + 1 := IntWalk.wrap64_in _ (by have := H6.out; have := HNN.out; omega)
          have htlen : (xr.take j).length = j := by rw [List.length_take]; omega
          by_cases h14 : y3 = 1
          · have g14 : (y3 == 1) = true := beq_iff_eq.2 h14
            have g14' : (y3 != 1) = false := by simp [h14]
            have HTK := Lib.hid (show factsZ xn xs 0 (xr.take (j + 1)) = factsZ xn xs 0 (xr.take j) ++ [] by rw [hts, factsZ_app]; simp [factsZ, h14])
            clear h14 hcr hcr2 hkk hj hlt hk hown hr0l hr1l hla hlb htk hck hgrB hgrl hfzr hy hts htlen
            go_wp2
            go_roundw
            case rel => exact ⟨j + 1, by have := HLT.out; omega, by have := HKK.out; rw [show ((j + 1 : Nat) : Int) = kk + 1 by omega, hw1], by rw [HTK.out, List.append_nil, HLA.out]; exact own_kp OW.out (kp_alloc _ _), Kp.trans KR.out (kp_alloc _ _), kp_row (kp_alloc _ _) R0l.out, kp_row (kp_alloc _ _) R1l.out⟩
            case measure => have := HKK.out; have := HLT.out; simp [intOf]; omega
          · have g14 : (y3 == 1) = false := by simpa using h14
            have g14' : (y3 != 1) = true := by simp [h14]
            have HTK := Lib.hid (show factsZ xn xs 0 (xr.take (j + 1)) = factsZ xn xs 0 (xr.take j) ++ [(⟨3, xn, xs, kk, 0, 0, 0, 0, 0, 0, y3, y4, 0, 0⟩ : FX)] by rw [hts, factsZ_app, htlen, Nat.zero_add, ← hkk]; simp [factsZ, h14])
            clear h14 hcr hcr2 hkk hj hlt hk hown hr0l hr1l hla hlb htk hck hgrB hgrl hfzr hy hts htlen
            go_wp2_with (at_builtin; refine wpList_append_rwG (E := fcE) ty_fcL (by decide) _ rfl _ _ rfl w.heap.size _ la _ rfl (own_kp OW.out (Kp.trans (kp_alloc wr (.cells #[.int .i64 yn, .int .i64 yp, .int .i64 y1, .int .i64 y2, .int .i64 y3, .int .i64 y4] 69)) (kp_alloc (wr.alloc (.cells #[.int .i64 yn, .int .i64 yp, .int .i64 y1, .int .i64 y2, .int .i64 y3, .int .i64 y4] 69)) (.cells #[.int .i64 3, .int .i64 xn, .int .i64 xs, .int .i64 kk, .int .i64 0, .int .i64 0, .int .i64 0, .int .i64 0, .int .i64 0, .int .i64 0, .int .i64 y3, .int .i64 y4, .int .i64 0, .float .f64 0] 39)))) _ [(⟨3, xn, xs, kk, 0, 0, 0, 0, 0, 0, y3, y4, 0, 0⟩ : FX)] rfl (part_oneG (new14_1 wr (.cells #[.int .i64 yn, .int .i64 yp, .int .i64 y1, .int .i64 y2, .int .i64 y3, .int .i64 y4] 69) (.cells #[.int .i64 3, .int .i64 xn, .int .i64 xs, .int .i64 kk, .int .i64 0, .int .i64 0, .int .i64 0, .int .i64 0, .int .i64 0, .int .i64 0, .int .i64 y3, .int .i64 y4, .int .i64 0, .float .f64 0] 39)) rfl) HLB.out (kp_size (Kp.trans KR.out (Kp.trans (kp_alloc wr (.cells #[.int .i64 yn, .int .i64 yp, .int .i64 y1, .int .i64 y2, .int .i64 y3, .int .i64 y4] 69)) (kp_alloc (wr.alloc (.cells #[.int .i64 yn, .int .i64 yp, .int .i64 y1, .int .i64 y2, .int .i64 y3, .int .i64 y4] 69)) (.cells #[.int .i64 3, .int .i64 xn, .int .i64 xs, .int .i64 kk, .int .i64 0, .int .i64 0, .int .i64 0, .int .i64 0, .int .i64 0, .int .i64 0, .int .i64 y3, .int .i64 y4, .int .i64 0, .float .f64 0] 39))))) ?_)
            rintro v6 u6 o6 hg hb6
            have kx : Kp wr ((wr.alloc (.cells #[.int .i64 yn, .int .i64 yp, .int .i64 y1, .int .i64 y2, .int .i64 y3, .int .i64 y4] 69)).alloc (.cells #[.int .i64 3, .int .i64 xn, .int .i64 xs, .int .i64 kk, .int .i64 0, .int .i64 0, .int .i64 0, .int .i64 0, .int .i64 0, .int .i64 0, .int .i64 y3, .int .i64 y4, .int .i64 0, .float .f64 0] 39)) := Kp.trans (kp_alloc _ _) (kp_alloc _ _)
            have OX := own_kp OW.out kx
            have K6 := Lib.hid (show Kp w u6 from Below.grown (Kp.trans KR.out kx) hg (Below.size (Kp.trans KR.out kx)) (fun b hk => (OX.lt b hk).1))
            have Q0 := Lib.hid ((hg.block _ (old_of_row (kp_row kx R0l.out)) (own_neQ OX (kp_row kx R0l.out) (by decide))).trans (kp_row kx R0l.out))
            have Q1 := Lib.hid ((hg.block _ (old_of_row (kp_row kx R1l.out)) (own_neQ OX (kp_row kx R1l.out) (by decide))).trans (kp_row kx R1l.out))
            have O6 := Lib.hid o6
            clear o6 hg hb6 kx OX
            go_wp2
            go_roundw
            case rel => exact ⟨j + 1, by have := HLT.out; omega, by have := HKK.out; rw [show ((j + 1 : Nat) : Int) = kk + 1 by omega, hw1], by rw [HTK.out, ← List.append_assoc, List.length_append, HLA.out]; exact (by have h := O6.out; simp only [List.append_assoc, List.cons_append, List.nil_append, List.length_cons, List.length_nil, Nat.zero_add] at h ⊢; exact h), K6.out, Q0.out, Q1.out⟩
            case measure => have := HKK.out; have := HLT.out; simp [intOf]; omega
        · have hje : ¬ kk < N := by have := HNN.out; omega
          have hjn : j = n := by omega
          have hfin : xr.take j = xr := by rw [hjn, ← HN.out, List.take_length]
          have hOE : wr.ownsRow w.heap.size 39 14 (.slice a1 la c1) la (fcE.row (([(⟨1, xn, xs, 0, 0, 0, 0, xo, xd, xp, 0, 0, 0, xx⟩ : FX)] ++ factsR xn xs 0 xr) ++ factsZ xn xs 0 xr)) := by rw [hfin] at hown; rw [hfin] at hla; rw [hla] at hown; exact hown
          have hle : (([(⟨1, xn, xs, 0, 0, 0, 0, xo, xd, xp, 0, 0, 0, xx⟩ : FX)] ++ factsR xn xs 0 xr) ++ factsZ xn xs 0 xr).length = la := by rw [hfin] at hla; exact hla
          have OEZ := Lib.hid hOE
          have LEZ := Lib.hid hle
          have KEZ := KR
          have RAZ := R0l
          have RCZ := R1l
          obtain ⟨z0, z1, z2, z3, z4, z5, z6, z7⟩ := cells_8 hr0l
          clear hkk hj hlt hk hown hr0l hr1l hla hjn hfin hOE hle OW
          obtain ⟨q0, q1, q2, q3, q4⟩ := cells_5 RCZ.out
          cases hdd : decide (xc = 0) with
          | true =>
            have h0 : xc = 0 := of_decide_eq_true hdd
            have g0 : (xc == 0) = true := beq_iff_eq.2 h0
            have g0' : (xc != 0) = false := by simp [h0]
            have HFA := Lib.hid (show factsA ⟨⟨xn, xs, xo, xd, xx⟩, xp, xc, xr⟩ = (([(⟨1, xn, xs, 0, 0, 0, 0, xo, xd, xp, 0, 0, 0, xx⟩ : FX)] ++ factsR xn xs 0 xr) ++ factsZ xn xs 0 xr) by unfold factsA; simp [h0])
            clear hdd h0
            go_wp2
            go_ret
            rw [HFA.out, LEZ.out]
            exact ⟨_, rfl, OEZ.out, KEZ.out⟩
          | false =>
            have h0 : ¬ xc = 0 := of_decide_eq_false hdd
            have g0 : (xc == 0) = false := by simpa using h0
            have g0' : (xc != 0) = true := by simp [h0]
            have HFA := Lib.hid (show factsA ⟨⟨xn, xs, xo, xd, xx⟩, xp, xc, xr⟩ = (([(⟨1, xn, xs, 0, 0, 0, 0, xo, xd, xp, 0, 0, 0, xx⟩ : FX)] ++ factsR xn xs 0 xr) ++ factsZ xn xs 0 xr) ++ [(⟨4, xn, xs, 0, 0, 0, 0, 0, 0, 0, 0, 0, xc, 0⟩ : FX)] by unfold factsA; simp [h0])
            have HLB := Lib.hid (show la + 1 ≤ 1000000 by
              have h1 := factsR_len xn xs 0 xr
              have h2 := factsZ_len xn xs 0 xr
              have h3 := LEZ.out
              rw [List.length_append, List.length_append] at h3
              have := H6.out
              have := HN.out
              simp at h3
              omega)
            clear hdd h0
            go_wp2_with (at_builtin; refine wpList_append_rwG (E := fcE) ty_fcL (by decide) _ rfl _ _ rfl w.heap.size _ la _ rfl (own_kp OEZ.out (kp_alloc wr (.cells #[.int .i64 4, .int .i64 xn, .int .i64 xs, .int .i64 0, .int .i64 0, .int .i64 0, .int .i64 0, .int .i64 0, .int .i64 0, .int .i64 0, .int .i64 0, .int .i64 0, .int .i64 xc, .float .f64 0] 39))) _ [(⟨4, xn, xs, 0, 0, 0, 0, 0, 0, 0, 0, 0, xc, 0⟩ : FX)] rfl (part_oneG (MapKept.heap_alloc wr (.cells #[.int .i64 4, .int .i64 xn, .int .i64 xs, .int .i64 0, .int .i64 0, .int .i64 0, .int .i64 0, .int .i64 0, .int .i64 0, .int .i64 0, .int .i64 0, .int .i64 0, .int .i64 xc, .float .f64 0] 39)).1 rfl) HLB.out (kp_size (Kp.trans KEZ.out (kp_alloc wr (.cells #[.int .i64 4, .int .i64 xn, .int .i64 xs, .int .i64 0, .int .i64 0, .int .i64 0, .int .i64 0, .int .i64 0, .int .i64 0, .int .i64 0, .int .i64 0, .int .i64 0, .int .i64 xc, .float .f64 0] 39)))) ?_)
            rintro v6 u6 o6 hg hb6
            have OX := own_kp OEZ.out (kp_alloc wr (.cells #[.int .i64 4, .int .i64 xn, .int .i64 xs, .int .i64 0, .int .i64 0, .int .i64 0, .int .i64 0, .int .i64 0, .int .i64 0, .int .i64 0, .int .i64 0, .int .i64 0, .int .i64 xc, .float .f64 0] 39))
            have K6 := Lib.hid (show Kp w u6 from Below.grown (Kp.trans KEZ.out (kp_alloc wr (.cells #[.int .i64 4, .int .i64 xn, .int .i64 xs, .int .i64 0, .int .i64 0, .int .i64 0, .int .i64 0, .int .i64 0, .int .i64 0, .int .i64 0, .int .i64 0, .int .i64 0, .int .i64 xc, .float .f64 0] 39))) hg (Below.size (Kp.trans KEZ.out (kp_alloc wr (.cells #[.int .i64 4, .int .i64 xn, .int .i64 xs, .int .i64 0, .int .i64 0, .int .i64 0, .int .i64 0, .int .i64 0, .int .i64 0, .int .i64 0, .int .i64 0, .int .i64 0, .int .i64 xc, .float .f64 0] 39)))) (fun b hk => (OX.lt b hk).1))
            have O6 := Lib.hid o6
            clear o6 hg hb6 OX
            go_wp2
            go_ret
            rw [HFA.out, List.length_append, LEZ.out]
            exact ⟨v6, rfl, (by have h := O6.out; simp only [List.append_assoc, List.cons_append, List.nil_append, List.length_cons, List.length_nil, Nat.zero_add] at h ⊢; exact h), K6.out⟩
end Go.Proofs.YtpemeenfhkgmpaaGreatDoor
