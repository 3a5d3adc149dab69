/- Parts of this proof (own work). -/
import Derived.Test.YtncoofnhifcnhaaGreatDoorZt09
set_option maxRecDepth 100000
set_option maxHeartbeats 40000000
namespace Go.Proofs.YtncoofnhifcnhaaGreatDoor
open Go.RowKit Go.ChangeShapes Go.WideShapes
theorem in_any (a : Option Addr) (cap n : Nat) (bs : List Int) (hn : bs.length = n) (hl : n ≤ 1000000) (x : Int) (w : World) (hs : SlI (.slice a n cap) bs w) :
  Calls Tryz.prog 118 #[.slice a n cap, .int .i64 x] w fun e w' => e = .returned (.bool (decide (x ∈ bs))) ∧ Kp w w' := by
 obtain ⟨B, hB⟩ : ∃ B, decide (x ∈ bs) = B := ⟨_, rfl⟩
 rw [hB]; have HB := hD hB; have HS := hD (fun w1 (hk : Kp w w1) (j : Nat) (hj : j < bs.length) => (hs.kp hk).at j hj); have HN := hD hn; clear hB hs hn; go_enter Tryz.func118, Tryz.ntmps118; go_wp2; go_loopw [9] (fun i wr => ∃ j : Nat, j ≤ n ∧ i = .int .i64 j ∧ Kp w wr ∧ x ∉ bs.take j) (fun i _ => n - (intOf i).toNat)
 case atStart => exact ⟨0, Nat.zero_le _, rfl, Kp.refl _, by simp⟩
 case round =>
  obtain ⟨j, hj, rfl, hk, hx⟩ := hrel; obtain ⟨jj, hjj⟩ : ∃ jj : Int, (j : Int) = jj := ⟨_, rfl⟩
  obtain ⟨K, HX⟩ := hD2 hk hx; rw [hjj]; have hnl := HN.out
  by_cases hlt : j < n
  ·have hjb : j < bs.length := by omega
   obtain ⟨b, off, rfl, ct⟩ := HS.out wr hk j hjb; have hg : bs.getD j 0 = bs[j] := by simp [List.getD, hjb]
   rw [hg] at ct; have ht : bs.take (j + 1) = bs.take j ++ [bs[j]] := by rw [List.take_add_one, List.getElem?_eq_getElem hjb]; rfl
   have hm : bs[j] ∈ bs := List.getElem_mem hjb; obtain ⟨y, hy⟩ : ∃ y, bs[j] = y := ⟨_, rfl⟩
   rw [hy] at ct ht hm; have ej : jj.toNat = j := by omega
   rw [← ej] at ct; have j0 : 0 ≤ jj := by omega
   have hltj : jj < n := by omega
   have HJ := hD hjj
   by_cases hxy : y = x
   ·subst hxy; have hBt : B = true := by rw [← HB.out]; exact dT hm
    subst hBt; clear hg ht hm hy hjb hnl hlt ej hjj hk hx; go_wp2; go_ret; exact ⟨rfl, K.out⟩
   ·have hb : (y == x) = false := by simpa using hxy
    have HT := hD (show x ∉ bs.take (j + 1) by
     rw [ht, List.mem_append, List.mem_singleton]; rintro (q | q)
     ·exact hx q
     ·exact hxy q.symm)
    clear hg ht hm hy hjb hnl hlt ej hjj hk hx; go_wp2; have hjj := HJ.out; go_roundw
    case rel => exact ⟨j + 1, by omega, by congr 1; omega, K.out, HT.out⟩
    case measure => simp [intOf]; omega
  ·obtain rfl : j = n := by omega
   rw [List.take_of_length_le (by omega)] at hx; have hBf : B = false := by rw [← HB.out]; exact dF hx
   subst hBf; have hex : ¬ jj < j := by omega
   clear hk hx hnl hlt; go_wp2; go_ret; exact ⟨rfl, K.out⟩
theorem sameInts_any (u v : Value) (xs ys : List Int) (hl : xs.length ≤ 1000000) (w : World) (hx : SlI u xs w) (hy : SlI v ys w) :
  Calls Tryz.prog 81 #[u, v] w fun e w' => e = .returned (.bool (decide (xs = ys))) ∧ Kp w w' := by
 obtain ⟨a, ca, rfl⟩ := hx.form; obtain ⟨b, cb, rfl⟩ := hy.form; obtain ⟨n, hn⟩ : ∃ n, xs.length = n := ⟨_, rfl⟩
 obtain ⟨n2, hn2⟩ : ∃ n, ys.length = n := ⟨_, rfl⟩
 rw [hn] at hx hl ⊢; rw [hn2] at hy ⊢
 by_cases hlen : n = n2
 ·subst hlen; have HX := hD (fun w1 (hk : Kp w w1) (j : Nat) (hj : j < xs.length) => (hx.kp hk).at j hj); have HY := hD (fun w1 (hk : Kp w w1) (j : Nat) (hj : j < ys.length) => (hy.kp hk).at j hj); obtain ⟨HN, HN2⟩ := hD2 hn hn2; obtain ⟨B, hB⟩ : ∃ B, decide (xs = ys) = B := ⟨_, rfl⟩
  rw [hB]; have HB := hD hB; clear hx hy hn hn2 hB; go_enter Tryz.func81, Tryz.ntmps81; go_wp2; go_loopw [13] (fun i wr => ∃ j : Nat, j ≤ n ∧ i = .int .i64 j ∧ Kp w wr ∧ xs.take j = ys.take j) (fun i _ => n - (intOf i).toNat)
  case atStart => exact ⟨0, Nat.zero_le _, rfl, Kp.refl _, by simp⟩
  case round =>
   obtain ⟨j, hj, rfl, hk, heq⟩ := hrel; obtain ⟨jj, hjj⟩ : ∃ jj : Int, (j : Int) = jj := ⟨_, rfl⟩
   obtain ⟨K, EQ⟩ := hD2 hk heq; rw [hjj]; have hnl := HN.out; have hnl2 := HN2.out
   by_cases hlt : j < n
   ·have hjx : j < xs.length := by omega
    have hjy : j < ys.length := by omega
    obtain ⟨b1, o1, rfl, c1⟩ := HX.out wr hk j hjx; obtain ⟨b2, o2, rfl, c2⟩ := HY.out wr hk j hjy; have g1 : xs.getD j 0 = xs[j] := by simp [List.getD, hjx]
    have g2 : ys.getD j 0 = ys[j] := by simp [List.getD, hjy]
    rw [g1] at c1; rw [g2] at c2; have t1 : xs.take (j + 1) = xs.take j ++ [xs[j]] := by rw [List.take_add_one, List.getElem?_eq_getElem hjx]; rfl
    have t2 : ys.take (j + 1) = ys.take j ++ [ys[j]] := by rw [List.take_add_one, List.getElem?_eq_getElem hjy]; rfl
    have hne : xs = ys → xs[j] = ys[j] := fun q => by subst q; rfl
    obtain ⟨x, hxx⟩ : ∃ y, xs[j] = y := ⟨_, rfl⟩
    obtain ⟨y, hyy⟩ : ∃ y, ys[j] = y := ⟨_, rfl⟩
    rw [hxx] at c1 t1 hne; rw [hyy] at c2 t2 hne; have ej : jj.toNat = j := by omega
    rw [← ej] at c1 c2; have j0 : 0 ≤ jj := by omega
    have hltj : jj < n := by omega
    have HJ := hD hjj
    by_cases hxy : x = y
    ·subst hxy; have HT := hD (show xs.take (j + 1) = ys.take (j + 1) by rw [t1, t2, heq]); clear g1 g2 t1 t2 hne hxx hyy hjx hjy hnl hnl2 hlt ej hjj hk heq; go_wp2; refine rgW (fun w' => Kp wr w') ?_ fun hH => ?_
     ·exact (Kp.refl wr).drew
     refine tkP 0 ?_
     go_simp; refine tkP 1 ?_
     go_simp; refine tkP 2 ?_
     go_simp; refine tkP 3 ?_ (y := by intro w hZ; have q := kZ hZ c1; go_simp; try rfl)
     go_simp; refine tkP 4 ?_
     go_simp; refine tkP 5 ?_
     go_simp; refine tkP 6 ?_
     go_simp; refine tkP 7 ?_ (y := by intro w hZ; have q := kZ hZ c2; go_simp; try rfl)
     go_simp; refine tkP 8 ?_
     go_simp; refine dnW ?_ _
     go_wp2; have hjj := HJ.out; go_roundw
     case rel => exact ⟨j + 1, by omega, by congr 1; omega, K.out.drew, HT.out⟩
     case measure => simp [intOf]; omega
    ·have hb : (x != y) = true := by simpa using hxy
     have hBf : B = false := by rw [← HB.out]; exact dF fun q => hxy (hne q)
     subst hBf; clear g1 g2 t1 t2 hne hxx hyy hjx hjy hnl hnl2 hlt ej hjj hk heq; go_wp2; refine rgW (fun w' => Kp wr w') ?_ fun hH => ?_
     ·exact (Kp.refl wr).drew
     refine tkP 0 ?_
     go_simp; refine tkP 1 ?_
     go_simp; refine tkP 2 ?_
     go_simp; refine tkP 3 ?_ (y := by intro w hZ; have q := kZ hZ c1; go_simp; try rfl)
     go_simp; refine tkP 4 ?_
     go_simp; refine tkP 5 ?_
     go_simp; refine tkP 6 ?_
     go_simp; refine tkP 7 ?_ (y := by intro w hZ; have q := kZ hZ c2; go_simp; try rfl)
     go_simp; refine tkP 8 ?_
     go_simp; refine dnW ?_ _
     go_wp2; go_ret; exact ⟨rfl, K.out.drew⟩
   ·obtain rfl : j = n := by omega
    rw [List.take_of_length_le (by omega), List.take_of_length_le (by omega)] at heq; have hBt : B = true := by rw [← HB.out]; exact dT heq
    subst hBt; have hex : ¬ jj < j := by omega
    clear hk heq hnl hnl2 hlt; go_wp2; go_ret; exact ⟨rfl, K.out⟩
 ·have hne : xs ≠ ys := fun q => hlen (by rw [← hn, ← hn2, q])
  rw [dF hne]; obtain ⟨nn, hnn⟩ : ∃ nn : Int, (n : Int) = nn := ⟨_, rfl⟩
  obtain ⟨mm, hmm⟩ : ∃ mm : Int, (n2 : Int) = mm := ⟨_, rfl⟩
  have hb : (nn != mm) = true := by simp; omega
  clear hne hx hy hn hn2 hlen; go_enter Tryz.func81, Tryz.ntmps81; go_wp2; go_ret; exact ⟨rfl, Kp.refl _⟩
theorem refActF_any (nn si : Int) (w : World) :
  Calls Tryz.prog 100 #[.agg #[nn, si]] w fun e w' => e = .returned (.bool (rightA nn si)) ∧ Kp w w' := by
 go_enter Tryz.func100, Tryz.ntmps100; go_wp2
 all_goals (go_ret; refine ⟨?_, kA _ _⟩; simp [rightA, *] <;> (intros; omega))
theorem rstate_1 (t h : Int) (ht : t = 14) (hh : h = 1) (w : World) : Calls Tryz.prog 117 #[.int .i64 t, .int .i64 h] w fun e w' => e = .returned (.bool true) ∧ w = w' := by
 subst ht hh; go_enter Tryz.func117, Tryz.ntmps117; go_wp2; go_ret; exact ⟨by first | rfl | simp [*], rfl⟩
theorem rstate_2 (t h : Int) (ht : t = 14) (hh : h ≠ 1) (h4 : 4 ≤ h) (w : World) : Calls Tryz.prog 117 #[.int .i64 t, .int .i64 h] w fun e w' => e = .returned (.bool (decide (h ≤ 8))) ∧ w = w' := by
 subst ht; have g1 : (h == 1) = false := by simpa using hh
 have g2 : decide (4 ≤ h) = true := dT h4; clear hh h4; go_enter Tryz.func117, Tryz.ntmps117; go_wp2; go_ret; exact ⟨by first | rfl | simp [*], rfl⟩
theorem rstate_3 (t h : Int) (ht : t = 14) (hh : h ≠ 1) (h4 : ¬ 4 ≤ h) (w : World) : Calls Tryz.prog 117 #[.int .i64 t, .int .i64 h] w fun e w' => e = .returned (.bool false) ∧ w = w' := by
 subst ht; have g1 : (h == 1) = false := by simpa using hh
 have g2 : decide (4 ≤ h) = false := dF h4; clear hh h4; go_enter Tryz.func117, Tryz.ntmps117; go_wp2; go_ret; exact ⟨by first | rfl | simp [*], rfl⟩
theorem rstate_4 (t h : Int) (ht : t ≠ 14) (h1 : ¬ 1 ≤ t) (w : World) : Calls Tryz.prog 117 #[.int .i64 t, .int .i64 h] w fun e w' => e = .returned (.bool false) ∧ w = w' := by
 have g1 : (t == 14) = false := by simpa using ht
 have g2 : decide (1 ≤ t) = false := dF h1; clear ht h1; go_enter Tryz.func117, Tryz.ntmps117; go_wp2; go_ret; exact ⟨by first | rfl | simp [*], rfl⟩
theorem rstate_5 (t h : Int) (ht : t ≠ 14) (h1 : 1 ≤ t) (h13 : ¬ t ≤ 13) (w : World) : Calls Tryz.prog 117 #[.int .i64 t, .int .i64 h] w fun e w' => e = .returned (.bool false) ∧ w = w' := by
 have g1 : (t == 14) = false := by simpa using ht
 have g2 : decide (1 ≤ t) = true := dT h1; have g3 : decide (t ≤ 13) = false := dF h13; clear ht h1 h13; go_enter Tryz.func117, Tryz.ntmps117; go_wp2; go_ret; exact ⟨by first | rfl | simp [*], rfl⟩
theorem rstate_6 (t h : Int) (ht : t ≠ 14) (h1 : 1 ≤ t) (h13 : t ≤ 13) (w : World) : Calls Tryz.prog 117 #[.int .i64 t, .int .i64 h] w fun e w' => e = .returned (.bool (h == 0)) ∧ w = w' := by
 have g1 : (t == 14) = false := by simpa using ht
 have g2 : decide (1 ≤ t) = true := dT h1; have g3 : decide (t ≤ 13) = true := dT h13; clear ht h1 h13; go_enter Tryz.func117, Tryz.ntmps117; go_wp2; go_ret; exact ⟨by first | rfl | simp [*], rfl⟩
theorem refState_any (t h : Int) (w : World) : Calls Tryz.prog 117 #[.int .i64 t, .int .i64 h] w fun e w' => e = .returned (.bool (seatX t h)) ∧ w = w' := by
 unfold seatX
 by_cases ht : t = 14
 ·rw [if_pos ht]
  by_cases h1 : h = 1
  ·rw [dT (.inl h1)]; exact rstate_1 t h ht h1 w
  by_cases h4 : 4 ≤ h
  ·rw [show decide (h = 1 ∨ 4 ≤ h ∧ h ≤ 8) = decide (h ≤ 8) by simp [h1, h4]]; exact rstate_2 t h ht h1 h4 w
  ·rw [dF (by omega)]; exact rstate_3 t h ht h1 h4 w
 ·rw [if_neg ht]
  by_cases h1 : 1 ≤ t
  ·by_cases h13 : t ≤ 13
   ·rw [show decide (1 ≤ t ∧ t ≤ 13 ∧ h = 0) = (h == 0) by rw [Bool.eq_iff_iff]; simp [h1, h13]]; exact rstate_6 t h ht h1 h13 w
   ·rw [dF (by omega)]; exact rstate_5 t h ht h1 h13 w
  ·rw [dF (by omega)]; exact rstate_4 t h ht h1 w
theorem refNumbers_any (f : FX) (w : World) : Calls Tryz.prog 82 #[.agg f.cells] w fun e w' => ∃ g, e = .returned (.slice (some ⟨g, 0, none⟩) 13 13) ∧ w'.ownsRow w.heap.size 3 1 (.slice (some ⟨g, 0, none⟩) 13 13) 13 (f.nums.map (Value.int .i64)) ∧ Kp w w' := by
 obtain ⟨k, n, s, r, e, p, q, o, d, a, t, hh, c, x⟩ := f; dsimp only [FX.cells]; have HR := hD (mH w (.cells #[k, n, s, r, e, p, q, o, d, a, t, hh, c, x] 82)); obtain ⟨b0, b1, b2, b3, b4, b5, b6, b7, b8, b9, b10, b11, b12, b13⟩ := cZ HR.out; have K := hD (kT (kA w (.cells #[k, n, s, r, e, p, q, o, d, a, t, hh, c, x] 82)) (kA (w.alloc (.cells #[k, n, s, r, e, p, q, o, d, a, t, hh, c, x] 82)) (.cells #[k, n, s, r, e, p, q, o, d, a, t, hh, c] 3))); have h1 := World.ownsRow_lit (base := w.heap.size) (e := 3) (size := 1) (w.alloc (.cells #[k, n, s, r, e, p, q, o, d, a, t, hh, c, x] 82)) #[.int .i64 k, .int .i64 n, .int .i64 s, .int .i64 r, .int .i64 e, .int .i64 p, .int .i64 q, .int .i64 o, .int .i64 d, .int .i64 a, .int .i64 t, .int .i64 hh, .int .i64 c] 13 (by simp) (by decide) rfl; have H1 := hD h1; clear h1; go_enter Tryz.func82, Tryz.ntmps82; go_wp2; go_ret; exact ⟨_, rfl, by simpa [FX.nums] using H1.out, K.out⟩
end Go.Proofs.YtncoofnhifcnhaaGreatDoor
