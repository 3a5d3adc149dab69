/- Parts of this proof (own work). -/
import Derived.Test.YtpemeenfhkgmpaaGreatDoorZf21
set_option maxRecDepth 100000
set_option maxHeartbeats 40000000
namespace Go.Proofs.YtpemeenfhkgmpaaGreatDoor
open Go.RowKit Go.ChangeShapes Go.WideShapes
variable {w0 w w' W w3 : World} {B q : Nat} {m : StM} {gs : List AcG} {va vp : Value}
def acV (a : AcM) (o : Option Addr) (c : Nat) : Array Value := #[.int .i64 a.c.n, .int .i64 a.c.s, .int .i64 a.c.o, .int .i64 a.c.d, .float .f64 a.c.x, .int .i64 a.par, .int .i64 a.dec, .slice o a.regs.length c]
def zeroA : AcM := ⟨⟨0, 0, 0, 0, 0⟩, 0, 0, []⟩
def OutA (m : StM) (pl : Option Nat) (v : Array Value) (N : Nat) (w : World) : Prop :=
 ∃ a o c, v = acV a o c ∧ (match pl with | none => a = zeroA ∧ o = none ∧ c = 0 | some i => m.acts[i]? = some a) ∧ w.ownsRow N 69 6 (.slice o a.regs.length c) a.regs.length (rgE.row a.regs)
theorem OutA.form {pl : Option Nat} {v : Array Value} {N : Nat} (h : OutA m pl v N w) : ∃ xn xs xo xd xx xp xc o n c, v = #[.int .i64 xn, .int .i64 xs, .int .i64 xo, .int .i64 xd, .float .f64 xx, .int .i64 xp, .int .i64 xc, .slice o n c] := by
 obtain ⟨a, o, c, h1, h2, h3⟩ := h; exact ⟨_, _, _, _, _, _, _, _, _, _, h1⟩
theorem fi_map {p : AcM → Bool} : (gs.map AcG.a).findIdx? p = gs.findIdx? (fun g => p g.a) := by
 rw [List.findIdx?_map]
 rfl
theorem firstFind (H : GS tyL B q m gs va vp w) (h8 : gs.length ≤ 8) (h6 : ∀ g ∈ gs, g.a.regs.length ≤ 6) (b : Nat) (n s : Int) (hb : w.heap[b]? = some (.cells #[n, s] 36 (0, 0))) :
  Calls Tryz.prog 56 #[.pointer (some ⟨q, 0, none⟩), .func (.func 57) #[] #[.pointer (some ⟨b, 0, none⟩)]] w fun r w' => ∃ v, r = .returned (.tuple #[.agg v, .bool (m.acts.findIdx? (fun a => decide (a.c.n = n ∧ a.c.s = s))).isSome]) ∧ OutA m (m.acts.findIdx? (fun a => decide (a.c.n = n ∧ a.c.s = s))) v w.heap.size w' ∧ Kp w w' := by
 rw [show m.acts.findIdx? (fun a => decide (a.c.n = n ∧ a.c.s = s)) = gs.findIdx? (fun g => (fun a : AcM => decide (a.c.n = n ∧ a.c.s = s)) g.a) by rw [H.acts, fi_map]]; obtain ⟨PL, hPL⟩ : ∃ R, gs.findIdx? (fun g => (fun a : AcM => decide (a.c.n = n ∧ a.c.s = s)) g.a) = R := ⟨_, rfl⟩
 obtain ⟨a0, c0, eva⟩ := H.vForm; subst eva; obtain ⟨len, hl⟩ : ∃ x, gs.length = x := ⟨_, rfl⟩
 have e0 : w.cell? ⟨q, 2, none⟩ = some (.slice a0 len c0) := by rw [← hl]; exact cU (i := 2) H.row rfl
 have kz := kA w (.cells #[(0:Int), (0:Int), (0:Int), (0:Int), .float .f64 0, (0:Int), (0:Int), .slice none 0 0] 65); have rz := (mH w (.cells #[(0:Int), (0:Int), (0:Int), (0:Int), .float .f64 0, (0:Int), (0:Int), .slice none 0 0] 65))
 obtain ⟨W, hW⟩ : ∃ W, w.alloc (.cells #[(0:Int), (0:Int), (0:Int), (0:Int), .float .f64 0, (0:Int), (0:Int), .slice none 0 0] 65) = W := ⟨_, rfl⟩
 rw [hW] at kz rz; have e0 := kZ kz e0; have ho : w.ownsRow B 65 8 (.slice a0 len c0) len (acE.row gs) := by have := H.oa; rw [hl] at this; exact this
 have hix := ixFind (oK ho kz) hl (by omega) b n s (rZ kz hb); rw [hPL] at hix ⊢; obtain ⟨HIX, HH, HO, HL, KZ, RZ⟩ := hD6 hix H ho hl kz rz; have fz := fQ rz; obtain ⟨L, hL⟩ : ∃ L : Int, (len : Int) = L := ⟨_, rfl⟩
 obtain ⟨HLL, L8⟩ := hD2 hL h8; have hsf := sF
 cases PL with
 | none =>
  have hn : placeQ none = -1 := rfl; rw [hn] at HIX; clear H h8 h6 hb hPL hl kz rz ho hix hn hL; go_enter Tryz.func56, Tryz.ntmps56; go_wp2_with (go_at_call 101; (with_reducible refine HIX.out.mono ?_); rintro e' w2 ⟨rfl, hk⟩; have r2 := rZ hk RZ.out; obtain ⟨u0, u1, u2, u3, u4, u5, u6, u7⟩ := c8X r2; have fz2 := fQ r2; have K2 := hD (kT KZ.out hk); have R2 := hD r2; clear hk r2)
  refine bodyPost_ret (rQ (p := 4) (u := 5) rfl _ _ w.heap.size 65 _ (0, 0) _ rfl (set_8 (.int .i64 0) (.int .i64 0) (.int .i64 0) (.int .i64 0) (.float .f64 0) (.int .i64 0) (.int .i64 0) (.slice none 0 0) R2.out) Tryz.underlying65 rfl (by kernel_rfl)) rfl ?_
  exact ⟨_, rfl, ⟨zeroA, none, 0, rfl, ⟨rfl, rfl, rfl⟩, World.ownsRow_nil _ _ _ _⟩, set_8_kp K2.out (Nat.le_refl _) _ _ _ _ _ _ _ _⟩
 | some i =>
  have hi : i < gs.length := (List.findIdx?_eq_some_iff_getElem.1 hPL).1; obtain ⟨ii, hii⟩ : ∃ ii : Int, (i : Int) = ii := ⟨_, rfl⟩
  have hpl : placeQ (some i) = ii := hii; rw [hpl] at HIX; have htn : ii.toNat = i := by omega
  have hi0 : 0 ≤ ii := by omega
  have hiL : ii < L := by omega
  have g0 : decide (ii < 0) = false := dF (by omega); obtain ⟨ga, cpa, eva, hcpa, hgB, hgl, hfz, hcell⟩ := cQ (E := acE) ho hl (by omega : i < len); obtain ⟨⟨⟨⟨xn, xs, xo, xd, xx⟩, xp, xc, xr⟩, xb, xk⟩, hx⟩ : ∃ x, gs[i]'hi = x := ⟨_, rfl⟩
  have hcell2 : ∀ (j : Nat) (u : Value), j < acE.k → (acE.enc (gs[i]'hi))[j]? = some u → w.cell? ⟨ga, i * acE.k + j, none⟩ = some u := hcell; rw [hx, show acE.k = 8 from rfl, ← htn] at hcell2; have eva := congrArg (fun v => match v with | Value.slice a _ _ => a | _ => none) eva; dsimp only at eva; subst eva; obtain ⟨nv, hnv⟩ : ∃ n, xr.length = n := ⟨_, rfl⟩
  obtain ⟨x0, x1, x2, x3, x4, x5, x6, -⟩ := cW8 hcell2; have x7 : w.cell? ⟨ga, ii.toNat * 8 + 7, none⟩ = some (.slice xb nv xk) := by rw [← hnv]; exact hcell2 7 _ (by decide) rfl
  have hgm : (⟨⟨⟨xn, xs, xo, xd, xx⟩, xp, xc, xr⟩, xb, xk⟩ : AcG) ∈ gs := by rw [← hx]; exact List.getElem_mem hi
  have hP : PartG rgE (.slice xb nv xk) xr w := by have := qG (E := rgE) (by decide) (H.og _ hgm); unfold AcG.v at this; dsimp only at this; rw [hnv] at this; exact this
  have h66 : xr.length ≤ 6 := h6 _ hgm; have hma : m.acts[i]? = some ⟨⟨xn, xs, xo, xd, xx⟩, xp, xc, xr⟩ := by rw [H.acts, List.getElem?_map, List.getElem?_eq_getElem hi, hx]; rfl
  have HAP := hD (fun (w1 : World) (hk : Kp w w1) => apart_any (w := w1) xn xs xo xd xx xp xc xb nv xk xr hnv (by omega) (hP.kp hk)); obtain ⟨HMA, HNV⟩ := hD2 hma hnv; have X := hD (And.intro x0 (And.intro x1 (And.intro x2 (And.intro x3 (And.intro x4 (And.intro x5 (And.intro x6 x7))))))); clear H h8 h6 hb hPL hl kz rz ho hix hpl hii hi hcpa hgB hgl hfz hcell hcell2 hx hgm hP h66 hma hnv htn; go_enter Tryz.func56, Tryz.ntmps56; go_wp2_with (first | (go_at_call 101; (with_reducible refine HIX.out.mono ?_); rintro e' w2 ⟨rfl, hk⟩; have r2 := rZ hk RZ.out; have K2 := hD (kT KZ.out hk); have R2 := hD r2; have e0 := kZ hk e0; have x0 := kZ K2.out x0; have x1 := kZ K2.out x1; have x2 := kZ K2.out x2; have x3 := kZ K2.out x3; have x4 := kZ K2.out x4; have x5 := kZ K2.out x5; have x6 := kZ K2.out x6; have x7 := kZ K2.out x7; clear hk r2) | (go_at_call 55; (with_reducible refine (HAP.out _ K2.out).mono ?_); rintro e' w3 ⟨o', c', rfl, hO, hk⟩; have r3 := rZ hk R2.out; obtain ⟨u0, u1, u2, u3, u4, u5, u6, u7⟩ := c8X r3; have fz3 := fQ r3; have K3 := hD (kT K2.out hk); obtain ⟨R3, O3⟩ := hD2 r3 hO; clear hk r3 hO))
  refine bodyPost_ret (rQ (p := 4) (u := 5) rfl _ _ w.heap.size 65 _ (0, 0) _ rfl (set_8 (.int .i64 xn) (.int .i64 xs) (.int .i64 xo) (.int .i64 xd) (.float .f64 xx) (.int .i64 xp) (.int .i64 xc) (.slice o' nv c') R3.out) Tryz.underlying65 rfl (by kernel_rfl)) rfl ?_
  refine ⟨_, rfl, ⟨⟨⟨xn, xs, xo, xd, xx⟩, xp, xc, xr⟩, o', c', by rw [acV, HNV.out], HMA.out, ?_⟩, set_8_kp K3.out (Nat.le_refl _) _ _ _ _ _ _ _ _⟩
  have szK := oZ R2.out; have O4 : w3.ownsRow w2.heap.size 69 6 (.slice o' xr.length c') xr.length (rgE.row xr) := by rw [HNV.out]; exact O3.out
  refine bG (sG O4 (fun b e => ?_)) (kS K2.out)
  have hb := (O4.lt b e).1; rw [bS _ _ _ _ (by dsimp only; omega), bS _ _ _ _ (by dsimp only; omega), bS _ _ _ _ (by dsimp only; omega), bS _ _ _ _ (by dsimp only; omega), bS _ _ _ _ (by dsimp only; omega), bS _ _ _ _ (by dsimp only; omega), bS _ _ _ _ (by dsimp only; omega), bS _ _ _ _ (by dsimp only; omega)]
theorem firstChild (H : GS tyL B q m gs va vp w) (h8 : gs.length ≤ 8) (h6 : ∀ g ∈ gs, g.a.regs.length ≤ 6) (b : Nat) (p : Int) (hp : ∀ g ∈ gs, 0 ≤ g.a.par ∧ g.a.par ≤ 8) (hb : w.heap[b]? = some (.cells #[p] 3 (0, 0))) :
  Calls Tryz.prog 56 #[.pointer (some ⟨q, 0, none⟩), .func (.func 59) #[] #[.pointer (some ⟨b, 0, none⟩)]] w fun r w' => ∃ v, r = .returned (.tuple #[.agg v, .bool (m.acts.findIdx? (fun a => decide (a.par ≠ 0 ∧ a.par - 1 = p))).isSome]) ∧ OutA m (m.acts.findIdx? (fun a => decide (a.par ≠ 0 ∧ a.par - 1 = p))) v w.heap.size w' ∧ Kp w w' := by
 rw [show m.acts.findIdx? (fun a => decide (a.par ≠ 0 ∧ a.par - 1 = p)) = gs.findIdx? (fun g => (fun a : AcM => decide (a.par ≠ 0 ∧ a.par - 1 = p)) g.a) by rw [H.acts, fi_map]]; obtain ⟨PL, hPL⟩ : ∃ R, gs.findIdx? (fun g => (fun a : AcM => decide (a.par ≠ 0 ∧ a.par - 1 = p)) g.a) = R := ⟨_, rfl⟩
 obtain ⟨a0, c0, eva⟩ := H.vForm; subst eva; obtain ⟨len, hl⟩ : ∃ x, gs.length = x := ⟨_, rfl⟩
 have e0 : w.cell? ⟨q, 2, none⟩ = some (.slice a0 len c0) := by rw [← hl]; exact cU (i := 2) H.row rfl
 have kz := kA w (.cells #[(0:Int), (0:Int), (0:Int), (0:Int), .float .f64 0, (0:Int), (0:Int), .slice none 0 0] 65); have rz := (mH w (.cells #[(0:Int), (0:Int), (0:Int), (0:Int), .float .f64 0, (0:Int), (0:Int), .slice none 0 0] 65))
 obtain ⟨W, hW⟩ : ∃ W, w.alloc (.cells #[(0:Int), (0:Int), (0:Int), (0:Int), .float .f64 0, (0:Int), (0:Int), .slice none 0 0] 65) = W := ⟨_, rfl⟩
 rw [hW] at kz rz; have e0 := kZ kz e0; have ho : w.ownsRow B 65 8 (.slice a0 len c0) len (acE.row gs) := by have := H.oa; rw [hl] at this; exact this
 have hix := ixChild (oK ho kz) hl (by omega) b p hp (rZ kz hb); rw [hPL] at hix ⊢; obtain ⟨HIX, HH, HO, HL, KZ, RZ⟩ := hD6 hix H ho hl kz rz; have fz := fQ rz; obtain ⟨L, hL⟩ : ∃ L : Int, (len : Int) = L := ⟨_, rfl⟩
 obtain ⟨HLL, L8⟩ := hD2 hL h8; have hsf := sF
 cases PL with
 | none =>
  have hn : placeQ none = -1 := rfl; rw [hn] at HIX; clear H h8 h6 hp hb hPL hl kz rz ho hix hn hL; go_enter Tryz.func56, Tryz.ntmps56; go_wp2_with (go_at_call 101; (with_reducible refine HIX.out.mono ?_); rintro e' w2 ⟨rfl, hk⟩; have r2 := rZ hk RZ.out; obtain ⟨u0, u1, u2, u3, u4, u5, u6, u7⟩ := c8X r2; have fz2 := fQ r2; have K2 := hD (kT KZ.out hk); have R2 := hD r2; clear hk r2)
  refine bodyPost_ret (rQ (p := 4) (u := 5) rfl _ _ w.heap.size 65 _ (0, 0) _ rfl (set_8 (.int .i64 0) (.int .i64 0) (.int .i64 0) (.int .i64 0) (.float .f64 0) (.int .i64 0) (.int .i64 0) (.slice none 0 0) R2.out) Tryz.underlying65 rfl (by kernel_rfl)) rfl ?_
  exact ⟨_, rfl, ⟨zeroA, none, 0, rfl, ⟨rfl, rfl, rfl⟩, World.ownsRow_nil _ _ _ _⟩, set_8_kp K2.out (Nat.le_refl _) _ _ _ _ _ _ _ _⟩
 | some i =>
  have hi : i < gs.length := (List.findIdx?_eq_some_iff_getElem.1 hPL).1; obtain ⟨ii, hii⟩ : ∃ ii : Int, (i : Int) = ii := ⟨_, rfl⟩
  have hpl : placeQ (some i) = ii := hii; rw [hpl] at HIX; have htn : ii.toNat = i := by omega
  have hi0 : 0 ≤ ii := by omega
  have hiL : ii < L := by omega
  have g0 : decide (ii < 0) = false := dF (by omega); obtain ⟨ga, cpa, eva, hcpa, hgB, hgl, hfz, hcell⟩ := cQ (E := acE) ho hl (by omega : i < len); obtain ⟨⟨⟨⟨xn, xs, xo, xd, xx⟩, xp, xc, xr⟩, xb, xk⟩, hx⟩ : ∃ x, gs[i]'hi = x := ⟨_, rfl⟩
  have hcell2 : ∀ (j : Nat) (u : Value), j < acE.k → (acE.enc (gs[i]'hi))[j]? = some u → w.cell? ⟨ga, i * acE.k + j, none⟩ = some u := hcell; rw [hx, show acE.k = 8 from rfl, ← htn] at hcell2; have eva := congrArg (fun v => match v with | Value.slice a _ _ => a | _ => none) eva; dsimp only at eva; subst eva; obtain ⟨nv, hnv⟩ : ∃ n, xr.length = n := ⟨_, rfl⟩
  obtain ⟨x0, x1, x2, x3, x4, x5, x6, -⟩ := cW8 hcell2; have x7 : w.cell? ⟨ga, ii.toNat * 8 + 7, none⟩ = some (.slice xb nv xk) := by rw [← hnv]; exact hcell2 7 _ (by decide) rfl
  have hgm : (⟨⟨⟨xn, xs, xo, xd, xx⟩, xp, xc, xr⟩, xb, xk⟩ : AcG) ∈ gs := by rw [← hx]; exact List.getElem_mem hi
  have hP : PartG rgE (.slice xb nv xk) xr w := by have := qG (E := rgE) (by decide) (H.og _ hgm); unfold AcG.v at this; dsimp only at this; rw [hnv] at this; exact this
  have h66 : xr.length ≤ 6 := h6 _ hgm; have hma : m.acts[i]? = some ⟨⟨xn, xs, xo, xd, xx⟩, xp, xc, xr⟩ := by rw [H.acts, List.getElem?_map, List.getElem?_eq_getElem hi, hx]; rfl
  have HAP := hD (fun (w1 : World) (hk : Kp w w1) => apart_any (w := w1) xn xs xo xd xx xp xc xb nv xk xr hnv (by omega) (hP.kp hk)); obtain ⟨HMA, HNV⟩ := hD2 hma hnv; have X := hD (And.intro x0 (And.intro x1 (And.intro x2 (And.intro x3 (And.intro x4 (And.intro x5 (And.intro x6 x7))))))); clear H h8 h6 hp hb hPL hl kz rz ho hix hpl hii hi hcpa hgB hgl hfz hcell hcell2 hx hgm hP h66 hma hnv htn; go_enter Tryz.func56, Tryz.ntmps56; go_wp2_with (first | (go_at_call 101; (with_reducible refine HIX.out.mono ?_); rintro e' w2 ⟨rfl, hk⟩; have r2 := rZ hk RZ.out; have K2 := hD (kT KZ.out hk); have R2 := hD r2; have e0 := kZ hk e0; have x0 := kZ K2.out x0; have x1 := kZ K2.out x1; have x2 := kZ K2.out x2; have x3 := kZ K2.out x3; have x4 := kZ K2.out x4; have x5 := kZ K2.out x5; have x6 := kZ K2.out x6; have x7 := kZ K2.out x7; clear hk r2) | (go_at_call 55; (with_reducible refine (HAP.out _ K2.out).mono ?_); rintro e' w3 ⟨o', c', rfl, hO, hk⟩; have r3 := rZ hk R2.out; obtain ⟨u0, u1, u2, u3, u4, u5, u6, u7⟩ := c8X r3; have fz3 := fQ r3; have K3 := hD (kT K2.out hk); obtain ⟨R3, O3⟩ := hD2 r3 hO; clear hk r3 hO))
  refine bodyPost_ret (rQ (p := 4) (u := 5) rfl _ _ w.heap.size 65 _ (0, 0) _ rfl (set_8 (.int .i64 xn) (.int .i64 xs) (.int .i64 xo) (.int .i64 xd) (.float .f64 xx) (.int .i64 xp) (.int .i64 xc) (.slice o' nv c') R3.out) Tryz.underlying65 rfl (by kernel_rfl)) rfl ?_
  refine ⟨_, rfl, ⟨⟨⟨xn, xs, xo, xd, xx⟩, xp, xc, xr⟩, o', c', by rw [acV, HNV.out], HMA.out, ?_⟩, set_8_kp K3.out (Nat.le_refl _) _ _ _ _ _ _ _ _⟩
  have szK := oZ R2.out; have O4 : w3.ownsRow w2.heap.size 69 6 (.slice o' xr.length c') xr.length (rgE.row xr) := by rw [HNV.out]; exact O3.out
  refine bG (sG O4 (fun b e => ?_)) (kS K2.out)
  have hb := (O4.lt b e).1; rw [bS _ _ _ _ (by dsimp only; omega), bS _ _ _ _ (by dsimp only; omega), bS _ _ _ _ (by dsimp only; omega), bS _ _ _ _ (by dsimp only; omega), bS _ _ _ _ (by dsimp only; omega), bS _ _ _ _ (by dsimp only; omega), bS _ _ _ _ (by dsimp only; omega), bS _ _ _ _ (by dsimp only; omega)]
theorem c7X {b : Nat} {t : TypeId} {w : World} {x0 x1 x2 x3 x4 x5 x6 : Value} (h : w.heap[b]? = some (.cells #[x0, x1, x2, x3, x4, x5, x6] t (0, 0))) : w.cell? ⟨b, 0, none⟩ = some x0 ∧ w.cell? ⟨b, 1, none⟩ = some x1 ∧ w.cell? ⟨b, 2, none⟩ = some x2 ∧ w.cell? ⟨b, 3, none⟩ = some x3 ∧ w.cell? ⟨b, 4, none⟩ = some x4 ∧ w.cell? ⟨b, 5, none⟩ = some x5 ∧ w.cell? ⟨b, 6, none⟩ = some x6 := by
 refine ⟨?_, ?_, ?_, ?_, ?_, ?_, ?_⟩ <;> (unfold World.cell?; dsimp only; rw [h]; rfl)
theorem set_7 {b : Nat} {t : TypeId} {w : World} {x0 x1 x2 x3 x4 x5 x6 : Value} (y0 y1 y2 y3 y4 y5 y6 : Value) (h : w.heap[b]? = some (.cells #[x0, x1, x2, x3, x4, x5, x6] t (0, 0))) : (((((((w.setCell ⟨b, 0, none⟩ y0).setCell ⟨b, 1, none⟩ y1).setCell ⟨b, 2, none⟩ y2).setCell ⟨b, 3, none⟩ y3).setCell ⟨b, 4, none⟩ y4).setCell ⟨b, 5, none⟩ y5).setCell ⟨b, 6, none⟩ y6).heap[b]? = some (.cells #[y0, y1, y2, y3, y4, y5, y6] t (0, 0)) := by
 have h0 : (w.setCell ⟨b, 0, none⟩ y0).heap[b]? = some (.cells #[y0, x1, x2, x3, x4, x5, x6] t (0, 0)) := (Joins.block_setCell h _).trans rfl; have h1 : ((w.setCell ⟨b, 0, none⟩ y0).setCell ⟨b, 1, none⟩ y1).heap[b]? = some (.cells #[y0, y1, x2, x3, x4, x5, x6] t (0, 0)) := (Joins.block_setCell h0 _).trans rfl; have h2 : (((w.setCell ⟨b, 0, none⟩ y0).setCell ⟨b, 1, none⟩ y1).setCell ⟨b, 2, none⟩ y2).heap[b]? = some (.cells #[y0, y1, y2, x3, x4, x5, x6] t (0, 0)) := (Joins.block_setCell h1 _).trans rfl; have h3 : ((((w.setCell ⟨b, 0, none⟩ y0).setCell ⟨b, 1, none⟩ y1).setCell ⟨b, 2, none⟩ y2).setCell ⟨b, 3, none⟩ y3).heap[b]? = some (.cells #[y0, y1, y2, y3, x4, x5, x6] t (0, 0)) := (Joins.block_setCell h2 _).trans rfl; have h4 : (((((w.setCell ⟨b, 0, none⟩ y0).setCell ⟨b, 1, none⟩ y1).setCell ⟨b, 2, none⟩ y2).setCell ⟨b, 3, none⟩ y3).setCell ⟨b, 4, none⟩ y4).heap[b]? = some (.cells #[y0, y1, y2, y3, y4, x5, x6] t (0, 0)) := (Joins.block_setCell h3 _).trans rfl
 have h5 : ((((((w.setCell ⟨b, 0, none⟩ y0).setCell ⟨b, 1, none⟩ y1).setCell ⟨b, 2, none⟩ y2).setCell ⟨b, 3, none⟩ y3).setCell ⟨b, 4, none⟩ y4).setCell ⟨b, 5, none⟩ y5).heap[b]? = some (.cells #[y0, y1, y2, y3, y4, y5, x6] t (0, 0)) := (Joins.block_setCell h4 _).trans rfl; have h6 : (((((((w.setCell ⟨b, 0, none⟩ y0).setCell ⟨b, 1, none⟩ y1).setCell ⟨b, 2, none⟩ y2).setCell ⟨b, 3, none⟩ y3).setCell ⟨b, 4, none⟩ y4).setCell ⟨b, 5, none⟩ y5).setCell ⟨b, 6, none⟩ y6).heap[b]? = some (.cells #[y0, y1, y2, y3, y4, y5, y6] t (0, 0)) := (Joins.block_setCell h5 _).trans rfl; exact h6
theorem set_7_kp {b : Nat} {w0 w : World} (hk : Kp w0 w) (hb : w0.heap.size ≤ b) (y0 y1 y2 y3 y4 y5 y6 : Value) : Kp w0 (((((((w.setCell ⟨b, 0, none⟩ y0).setCell ⟨b, 1, none⟩ y1).setCell ⟨b, 2, none⟩ y2).setCell ⟨b, 3, none⟩ y3).setCell ⟨b, 4, none⟩ y4).setCell ⟨b, 5, none⟩ y5).setCell ⟨b, 6, none⟩ y6) := by
 refine Below.setCell ?_ hb _
 refine Below.setCell ?_ hb _
 refine Below.setCell ?_ hb _
 refine Below.setCell ?_ hb _
 refine Below.setCell ?_ hb _
 refine Below.setCell ?_ hb _
 refine Below.setCell ?_ hb _
 exact hk
def paV (x : PaM) : Array Value := #[.int .i64 x.n, .int .i64 x.s, .int .i64 x.reg, .int .i64 x.z.p, .int .i64 x.z.e, .int .i64 x.z.s, .int .i64 x.z.h]
def zeroP : PaM := ⟨0, 0, 0, ⟨0, 0, 0, 0⟩⟩
def partQ (m : StM) (i : Int) : Option PaM := if 0 ≤ i then m.parts[i.toNat]? else none
theorem child_eq (hp : ∀ a ∈ m.acts, 0 ≤ a.par) (p : Int) : m.acts.findIdx? (fun a => decide (a.par ≠ 0 ∧ a.par - 1 = p)) = childS m.acts p := by
 unfold childS
 by_cases h : p < 0
 ·rw [if_pos h, List.findIdx?_eq_none_iff]; intro x hx; have := hp x hx; simp only [decide_eq_false_iff_not]
  omega
 ·rw [if_neg h]
  congr 1
  funext a
  have : (a.par ≠ 0 ∧ a.par - 1 = p) ↔ a.par = p + 1 := by omega
  simp [this]
theorem stFind (H : GS tyL B q m gs va vp w) (h8 : gs.length ≤ 8) (h6 : ∀ a ∈ m.acts, a.regs.length ≤ 6) (n s : Int) : Calls Tryz.prog 22 #[.pointer (some ⟨q, 0, none⟩), .agg #[n, s]] w fun r w' => ∃ v, r = .returned (.tuple #[.agg v, .bool (findS m.acts n s).isSome]) ∧ OutA m (findS m.acts n s) v w.heap.size w' ∧ Kp w w' := by
 have k1 : Kp w ((w.alloc (.cells #[n, s] 36)).alloc (.cells #[(0:Int), (0:Int), (0:Int), (0:Int), .float .f64 0, (0:Int), (0:Int), .slice none 0 0] 65)) := kT (kA _ _) (kA _ _); have r1 := nX0 w (.cells #[n, s] 36) (.cells #[(0:Int), (0:Int), (0:Int), (0:Int), .float .f64 0, (0:Int), (0:Int), .slice none 0 0] 65); have r2 := nX1 w (.cells #[n, s] 36) (.cells #[(0:Int), (0:Int), (0:Int), (0:Int), .float .f64 0, (0:Int), (0:Int), .slice none 0 0] 65); obtain ⟨W, hW⟩ : ∃ W, ((w.alloc (.cells #[n, s] 36)).alloc (.cells #[(0:Int), (0:Int), (0:Int), (0:Int), .float .f64 0, (0:Int), (0:Int), .slice none 0 0] 65)) = W := ⟨_, rfl⟩
 rw [hW] at k1 r1 r2; have h6' : ∀ g ∈ gs, g.a.regs.length ≤ 6 := fun g hg => h6 _ (by rw [H.acts]; exact List.mem_map_of_mem hg)
 have hfi := firstFind (H.kp k1) h8 h6' w.heap.size n s r1; rw [show m.acts.findIdx? (fun a => decide (a.c.n = n ∧ a.c.s = s)) = findS m.acts n s from rfl] at hfi; obtain ⟨PL, hPL⟩ : ∃ x, findS m.acts n s = x := ⟨_, rfl⟩
 rw [hPL] at hfi ⊢; obtain ⟨tb, htb⟩ : ∃ b, PL.isSome = b := ⟨_, rfl⟩
 rw [htb] at hfi ⊢; obtain ⟨HFI, K1, R2⟩ := hD3 hfi k1 r2; have hsf := sF; clear H h8 h6 h6' hfi k1 r1 r2 hPL htb; go_enter Tryz.func22, Tryz.ntmps22; go_wp2_with (go_at_call 56; (with_reducible refine HFI.out.mono ?_); rintro e' w3 ⟨v, rfl, hO, hk⟩; obtain ⟨xn, xs, xo, xd, xx, xp, xc, av, nv, cv, rfl⟩ := hO.form; have r3 := rZ hk R2.out; obtain ⟨u0, u1, u2, u3, u4, u5, u6, u7⟩ := c8X r3; have fz3 := fQ r3; have K3 := hD (kT K1.out hk); obtain ⟨R3, O3⟩ := hD2 r3 hO; clear hk r3 hO)
 refine bodyPost_ret (rQ (p := 4) (u := 5) rfl _ _ (w.heap.size + 1) 65 _ (0, 0) _ rfl (set_8 (.int .i64 xn) (.int .i64 xs) (.int .i64 xo) (.int .i64 xd) (.float .f64 xx) (.int .i64 xp) (.int .i64 xc) (.slice av nv cv) R3.out) Tryz.underlying65 rfl (by kernel_rfl)) rfl ?_
 refine ⟨_, rfl, ?_, set_8_kp K3.out (by omega) _ _ _ _ _ _ _ _⟩
 obtain ⟨a, oo, cc, h1, h2, h3⟩ := O3.out; refine ⟨a, oo, cc, h1, h2, bG (sG h3 (fun b e => ?_)) (kS K1.out)⟩
 have hb := (h3.lt b e).1; have hs := oZ R2.out; rw [bS _ _ _ _ (by dsimp only; omega), bS _ _ _ _ (by dsimp only; omega), bS _ _ _ _ (by dsimp only; omega), bS _ _ _ _ (by dsimp only; omega), bS _ _ _ _ (by dsimp only; omega), bS _ _ _ _ (by dsimp only; omega), bS _ _ _ _ (by dsimp only; omega), bS _ _ _ _ (by dsimp only; omega)]
theorem stChild (H : GS tyL B q m gs va vp w) (h8 : gs.length ≤ 8) (h6 : ∀ a ∈ m.acts, a.regs.length ≤ 6) (p : Int) (hp : ∀ a ∈ m.acts, 0 ≤ a.par ∧ a.par ≤ 8) : Calls Tryz.prog 24 #[.pointer (some ⟨q, 0, none⟩), .int .i64 p] w fun r w' => ∃ v, r = .returned (.tuple #[.agg v, .bool (childS m.acts p).isSome]) ∧ OutA m (childS m.acts p) v w.heap.size w' ∧ Kp w w' := by
 have k1 : Kp w ((w.alloc (.cells #[p] 3)).alloc (.cells #[(0:Int), (0:Int), (0:Int), (0:Int), .float .f64 0, (0:Int), (0:Int), .slice none 0 0] 65)) := kT (kA _ _) (kA _ _); have r1 := nX0 w (.cells #[p] 3) (.cells #[(0:Int), (0:Int), (0:Int), (0:Int), .float .f64 0, (0:Int), (0:Int), .slice none 0 0] 65); have r2 := nX1 w (.cells #[p] 3) (.cells #[(0:Int), (0:Int), (0:Int), (0:Int), .float .f64 0, (0:Int), (0:Int), .slice none 0 0] 65); obtain ⟨W, hW⟩ : ∃ W, ((w.alloc (.cells #[p] 3)).alloc (.cells #[(0:Int), (0:Int), (0:Int), (0:Int), .float .f64 0, (0:Int), (0:Int), .slice none 0 0] 65)) = W := ⟨_, rfl⟩
 rw [hW] at k1 r1 r2; have h6' : ∀ g ∈ gs, g.a.regs.length ≤ 6 := fun g hg => h6 _ (by rw [H.acts]; exact List.mem_map_of_mem hg)
 have hfi := firstChild (H.kp k1) h8 h6' w.heap.size p (fun g hg => hp _ (by rw [H.acts]; exact List.mem_map_of_mem hg)) r1; rw [child_eq (fun a ha => (hp a ha).1)] at hfi; obtain ⟨PL, hPL⟩ : ∃ x, childS m.acts p = x := ⟨_, rfl⟩
 rw [hPL] at hfi ⊢; obtain ⟨tb, htb⟩ : ∃ b, PL.isSome = b := ⟨_, rfl⟩
 rw [htb] at hfi ⊢; obtain ⟨HFI, K1, R2⟩ := hD3 hfi k1 r2; have hsf := sF; clear H h8 h6 h6' hp hfi k1 r1 r2 hPL htb; go_enter Tryz.func24, Tryz.ntmps24; go_wp2_with (go_at_call 56; (with_reducible refine HFI.out.mono ?_); rintro e' w3 ⟨v, rfl, hO, hk⟩; obtain ⟨xn, xs, xo, xd, xx, xp, xc, av, nv, cv, rfl⟩ := hO.form; have r3 := rZ hk R2.out; obtain ⟨u0, u1, u2, u3, u4, u5, u6, u7⟩ := c8X r3; have fz3 := fQ r3; have K3 := hD (kT K1.out hk); obtain ⟨R3, O3⟩ := hD2 r3 hO; clear hk r3 hO)
 refine bodyPost_ret (rQ (p := 4) (u := 5) rfl _ _ (w.heap.size + 1) 65 _ (0, 0) _ rfl (set_8 (.int .i64 xn) (.int .i64 xs) (.int .i64 xo) (.int .i64 xd) (.float .f64 xx) (.int .i64 xp) (.int .i64 xc) (.slice av nv cv) R3.out) Tryz.underlying65 rfl (by kernel_rfl)) rfl ?_
 refine ⟨_, rfl, ?_, set_8_kp K3.out (by omega) _ _ _ _ _ _ _ _⟩
 obtain ⟨a, oo, cc, h1, h2, h3⟩ := O3.out; refine ⟨a, oo, cc, h1, h2, bG (sG h3 (fun b e => ?_)) (kS K1.out)⟩
 have hb := (h3.lt b e).1; have hs := oZ R2.out; rw [bS _ _ _ _ (by dsimp only; omega), bS _ _ _ _ (by dsimp only; omega), bS _ _ _ _ (by dsimp only; omega), bS _ _ _ _ (by dsimp only; omega), bS _ _ _ _ (by dsimp only; omega), bS _ _ _ _ (by dsimp only; omega), bS _ _ _ _ (by dsimp only; omega), bS _ _ _ _ (by dsimp only; omega)]
theorem stPart (H : GS tyL B q m gs va vp w) (i : Int) : Calls Tryz.prog 25 #[.pointer (some ⟨q, 0, none⟩), .int .i64 i] w fun r w' => ∃ x, r = .returned (.tuple #[.agg (paV x), .bool (partQ m i).isSome]) ∧ (match partQ m i with | none => x = zeroP | some y => x = y) ∧ Kp w w' := by
 obtain ⟨b0, d0, evp⟩ := H.pForm; subst evp; obtain ⟨np, hnp⟩ : ∃ x, m.parts.length = x := ⟨_, rfl⟩
 have e0 : w.cell? ⟨q, 3, none⟩ = some (.slice b0 np d0) := by rw [← hnp]; exact cU (i := 3) H.row rfl
 have kz := kA w (.cells #[(0:Int), (0:Int), (0:Int), (0:Int), (0:Int), (0:Int), (0:Int)] 75); have rz := (mH w (.cells #[(0:Int), (0:Int), (0:Int), (0:Int), (0:Int), (0:Int), (0:Int)] 75))
 obtain ⟨W, hW⟩ : ∃ W, w.alloc (.cells #[(0:Int), (0:Int), (0:Int), (0:Int), (0:Int), (0:Int), (0:Int)] 75) = W := ⟨_, rfl⟩
 rw [hW] at kz rz; have e0 := kZ kz e0; obtain ⟨u0, u1, u2, u3, u4, u5, u6⟩ := c7X rz; have fz := fQ rz; obtain ⟨N, hN⟩ : ∃ N : Int, (np : Int) = N := ⟨_, rfl⟩
 obtain ⟨KZ, RZ⟩ := hD2 kz rz
 by_cases h1 : i < 0
 ·rw [show partQ m i = none by unfold partQ; rw [if_neg (by omega)]]; have g1 : decide (i < 0) = true := dT h1; clear H hnp kz rz h1 hN; go_enter Tryz.func25, Tryz.ntmps25; go_wp2; refine bodyPost_ret (rQ (p := 4) (u := 5) rfl _ _ w.heap.size 75 _ (0, 0) _ rfl (set_7 (.int .i64 0) (.int .i64 0) (.int .i64 0) (.int .i64 0) (.int .i64 0) (.int .i64 0) (.int .i64 0) RZ.out) Tryz.underlying75 rfl (by kernel_rfl)) rfl ?_
  exact ⟨zeroP, rfl, rfl, set_7_kp KZ.out (Nat.le_refl _) _ _ _ _ _ _ _⟩
 ·have g1 : decide (i < 0) = false := dF h1
  by_cases h2 : i ≥ N
  ·rw [show partQ m i = none by unfold partQ; rw [if_pos (by omega), List.getElem?_eq_none (by omega)]]; have g2 : decide (i ≥ N) = true := dT h2; clear H hnp kz rz h1 h2; go_enter Tryz.func25, Tryz.ntmps25; go_wp2; refine bodyPost_ret (rQ (p := 4) (u := 5) rfl _ _ w.heap.size 75 _ (0, 0) _ rfl (set_7 (.int .i64 0) (.int .i64 0) (.int .i64 0) (.int .i64 0) (.int .i64 0) (.int .i64 0) (.int .i64 0) RZ.out) Tryz.underlying75 rfl (by kernel_rfl)) rfl ?_
   exact ⟨zeroP, rfl, rfl, set_7_kp KZ.out (Nat.le_refl _) _ _ _ _ _ _ _⟩
  ·have g2 : decide (i ≥ N) = false := dF h2; have hj : i.toNat < m.parts.length := by omega
   obtain ⟨gp, ck, evp2, hck, hgpB, hgpl, hfzp, hcp⟩ := cQ (E := paE) H.op rfl hj; obtain ⟨⟨yn, ys, yr, ⟨y1, y2, y3, y4⟩⟩, hx⟩ : ∃ x, m.parts[i.toNat]'hj = x := ⟨_, rfl⟩
   have hcp2 : ∀ (j : Nat) (u : Value), j < paE.k → (paE.enc (m.parts[i.toNat]'hj))[j]? = some u → w.cell? ⟨gp, i.toNat * paE.k + j, none⟩ = some u := hcp; rw [hx, show paE.k = 7 from rfl] at hcp2; have evp2 := congrArg (fun v => match v with | Value.slice a _ _ => a | _ => none) evp2; dsimp only at evp2; subst evp2; have x0 := kZ kz (show w.cell? ⟨gp, i.toNat * 7, none⟩ = some (.int .i64 yn) from hcp2 0 _ (by decide) rfl); have x1 := kZ kz (show w.cell? ⟨gp, i.toNat * 7 + 1, none⟩ = some (.int .i64 ys) from hcp2 1 _ (by decide) rfl); have x2 := kZ kz (show w.cell? ⟨gp, i.toNat * 7 + 2, none⟩ = some (.int .i64 yr) from hcp2 2 _ (by decide) rfl); have x3 := kZ kz (show w.cell? ⟨gp, i.toNat * 7 + 3, none⟩ = some (.int .i64 y1) from hcp2 3 _ (by decide) rfl); have x4 := kZ kz (show w.cell? ⟨gp, i.toNat * 7 + 4, none⟩ = some (.int .i64 y2) from hcp2 4 _ (by decide) rfl); have x5 := kZ kz (show w.cell? ⟨gp, i.toNat * 7 + 5, none⟩ = some (.int .i64 y3) from hcp2 5 _ (by decide) rfl)
   have x6 := kZ kz (show w.cell? ⟨gp, i.toNat * 7 + 6, none⟩ = some (.int .i64 y4) from hcp2 6 _ (by decide) rfl); rw [show partQ m i = some ⟨yn, ys, yr, ⟨y1, y2, y3, y4⟩⟩ by unfold partQ; rw [if_pos (by omega), List.getElem?_eq_getElem hj, hx]]; have i0 : 0 ≤ i := by omega
   have iN : i < N := by omega
   clear H hnp kz rz h1 h2 hj hck hgpB hgpl hfzp hcp hcp2 hx; go_enter Tryz.func25, Tryz.ntmps25; go_wp2; refine bodyPost_ret (rQ (p := 4) (u := 5) rfl _ _ w.heap.size 75 _ (0, 0) _ rfl (set_7 (.int .i64 yn) (.int .i64 ys) (.int .i64 yr) (.int .i64 y1) (.int .i64 y2) (.int .i64 y3) (.int .i64 y4) RZ.out) Tryz.underlying75 rfl (by kernel_rfl)) rfl ?_
   exact ⟨⟨yn, ys, yr, ⟨y1, y2, y3, y4⟩⟩, rfl, rfl, set_7_kp KZ.out (Nat.le_refl _) _ _ _ _ _ _ _⟩
theorem stParts (H : GS tyL B q m gs va vp w) (p8 : m.parts.length ≤ 8) : Calls Tryz.prog 23 #[.pointer (some ⟨q, 0, none⟩)] w fun r w' => ∃ v, r = .returned v ∧ w'.ownsRow w.heap.size 75 7 v m.parts.length (paE.row m.parts) ∧ Kp w w' := by
 obtain ⟨b0, d0, evp⟩ := H.pForm; subst evp; have HC := hD (cloneP_any _ m.parts (by omega) (qG (E := paE) (by decide) H.op)); obtain ⟨np, hnp⟩ : ∃ x, m.parts.length = x := ⟨_, rfl⟩
 have e0 : w.cell? ⟨q, 3, none⟩ = some (.slice b0 np d0) := by rw [← hnp]; exact cU (i := 3) H.row rfl
 rw [hnp] at HC ⊢; clear H p8 hnp; go_enter Tryz.func23, Tryz.ntmps23; go_wp2_with (go_at_call 58; (with_reducible refine HC.out.mono ?_); rintro e' w2 ⟨v, rfl, ho, hk⟩)
 go_ret; exact ⟨_, rfl, ho, hk⟩
theorem stNode (H : GS tyL B q m gs va vp w) : Calls Tryz.prog 34 #[.pointer (some ⟨q, 0, none⟩)] w fun r w' => r = .returned (.int .i64 m.node) ∧ w = w' := by
 have e0 : w.cell? ⟨q, 0, none⟩ = some (.int .i64 m.node) := cU (i := 0) H.row rfl; obtain ⟨x, hx⟩ : ∃ x, m.node = x := ⟨_, rfl⟩
 rw [hx] at e0 ⊢; clear H hx; go_enter Tryz.func34, Tryz.ntmps34; go_wp2; go_ret; exact ⟨rfl, rfl⟩
theorem stNext (H : GS tyL B q m gs va vp w) : Calls Tryz.prog 35 #[.pointer (some ⟨q, 0, none⟩)] w fun r w' => r = .returned (.int .i64 m.next) ∧ w = w' := by
 have e0 : w.cell? ⟨q, 1, none⟩ = some (.int .i64 m.next) := cU (i := 1) H.row rfl; obtain ⟨x, hx⟩ : ∃ x, m.next = x := ⟨_, rfl⟩
 rw [hx] at e0 ⊢; clear H hx; go_enter Tryz.func35, Tryz.ntmps35; go_wp2; go_ret; exact ⟨rfl, rfl⟩
def OwnL (N : Nat) (A : List AcM) (v : Value) (w : World) : Prop :=
 ∃ ga : List AcG, ga.map AcG.a = A ∧ w.ownsRow N 65 8 v ga.length (acE.row ga) ∧ (∀ g ∈ ga, w.ownsRow N 69 6 g.v g.a.regs.length (rgE.row g.a.regs)) ∧
  (∀ (i j : Nat) (g h : AcG), ga[i]? = some g → ga[j]? = some h → i ≠ j → ∀ b, g.v.ownBlock = some b → h.v.ownBlock ≠ some b)
theorem dis_app2 {ga : List AcG} {g' : AcG} {N : Nat} (hd : ∀ (i j : Nat) (g h : AcG), ga[i]? = some g → ga[j]? = some h → i ≠ j → ∀ b, g.v.ownBlock = some b → h.v.ownBlock ≠ some b) (hN : ∀ x ∈ ga, ∀ b, x.v.ownBlock = some b → b < N) (hn : ∀ b, g'.v.ownBlock = some b → N ≤ b) :
  ∀ (k j : Nat) (g h : AcG), (ga ++ [g'])[k]? = some g → (ga ++ [g'])[j]? = some h → k ≠ j → ∀ b, g.v.ownBlock = some b → h.v.ownBlock ≠ some b := by
 have at' : ∀ (k : Nat) (x : AcG), (ga ++ [g'])[k]? = some x → ga[k]? = some x ∨ (x = g' ∧ k = ga.length) := by
  intro k x h; rw [List.getElem?_append] at h
  split at h
  ·exact .inl h
  ·right
   rename_i hk
   rw [List.getElem?_singleton] at h
   split at h
   ·rename_i h0
    exact ⟨by injection h with h; exact h.symm, by omega⟩
   ·cases h
 intro k j g h hk hj hne b e1 e2
 rcases at' k g hk with hk2 | ⟨rfl, hk2⟩
 ·rcases at' j h hj with hj2 | ⟨rfl, hj2⟩
  ·exact hd k j g h hk2 hj2 hne b e1 e2
  ·have := hN g (List.mem_of_getElem? hk2) b e1; have := hn b e2; omega
 ·rcases at' j h hj with hj2 | ⟨rfl, hj2⟩
  ·have := hN h (List.mem_of_getElem? hj2) b e2; have := hn b e1; omega
  ·omega
theorem stActs (H : GS tyL B q m gs va vp w) (h8 : gs.length ≤ 8) (h6 : ∀ a ∈ m.acts, a.regs.length ≤ 6) : Calls Tryz.prog 21 #[.pointer (some ⟨q, 0, none⟩)] w fun r w' => ∃ v, r = .returned v ∧ OwnL w.heap.size m.acts v w' ∧ Kp w w' := by
 have h6' : ∀ g ∈ gs, g.a.regs.length ≤ 6 := fun g hg => h6 _ (by rw [H.acts]; exact List.mem_map_of_mem hg)
 obtain ⟨a0, c0, eva⟩ := H.vForm; subst eva; obtain ⟨len, hl⟩ : ∃ x, gs.length = x := ⟨_, rfl⟩
 have e0 : w.cell? ⟨q, 2, none⟩ = some (.slice a0 len c0) := by rw [← hl]; exact cU (i := 2) H.row rfl
 have ho : w.ownsRow B 65 8 (.slice a0 len c0) len (acE.row gs) := by have := H.oa; rw [hl] at this; exact this
 obtain ⟨L, hL⟩ : ∃ L : Int, (len : Int) = L := ⟨_, rfl⟩
 obtain ⟨HH, HO, HL, H8⟩ := hD4 H ho hl h8; have H6 := hD h6'; have HLL := hD hL; have hsf := sF; clear H h8 h6 h6' ho hl; go_enter Tryz.func21, Tryz.ntmps21; go_wp2; go_loopw [3, 11] (fun v i wr => ∃ (j : Nat) (ga : List AcG), j ≤ len ∧ i = .int .i64 j ∧ ga.map AcG.a = (gs.take j).map AcG.a ∧ wr.ownsRow w.heap.size 65 8 v ga.length (acE.row ga) ∧ (∀ g ∈ ga, wr.ownsRow w.heap.size 69 6 g.v g.a.regs.length (rgE.row g.a.regs)) ∧ (∀ (i j : Nat) (g h : AcG), ga[i]? = some g → ga[j]? = some h → i ≠ j → ∀ b, g.v.ownBlock = some b → h.v.ownBlock ≠ some b) ∧ Kp w wr) (fun _ i _ => len - (intOf i).toNat)
 case atStart => exact ⟨0, [], Nat.zero_le _, rfl, rfl, World.ownsRow_nil _ _ _ _, (fun g hg => by cases hg), (fun i j g h hi => by simp at hi), Kp.refl _⟩
 case round =>
  obtain ⟨j, ga, hj, rfl, hga, hown, hog, hdis, hk⟩ := hrel; obtain ⟨jj, hjj⟩ : ∃ jj : Int, (j : Int) = jj := ⟨_, rfl⟩
  rw [hjj]; obtain ⟨KR, OW, OG, DS, GA, HJ⟩ := hD6 hk hown hog hdis hga hjj; obtain ⟨la, hla⟩ : ∃ x, ga.length = x := ⟨_, rfl⟩
  have hlaj : la = j := by
   have := congrArg List.length hga; rw [List.length_map, List.length_map, List.length_take, hla] at this; have := HL.out; omega
  obtain ⟨a1, c1, rfl⟩ := fG hown; rw [hla]; obtain ⟨HLA, HLJ⟩ := hD2 hla hlaj
  by_cases hlt : j < len
  ·have hjl : jj < L := by omega
   have hj0 : 0 ≤ jj := by omega
   have hL8 : L ≤ 8 := by have := HL.out; have := H8.out; omega
   have htn : jj.toNat = j := by omega
   have ow := oK HO.out hk; obtain ⟨g, cp, ev, hcp, hgB, hgl, hfz, hcell⟩ := cQ (E := acE) ow HL.out hlt; have ev := congrArg (fun v => match v with | Value.slice a _ _ => a | _ => none) ev; dsimp only at ev; subst ev; have hjo : j < gs.length := by have := HL.out; omega
   obtain ⟨⟨⟨⟨xn, xs, xo, xd, xx⟩, xp, xc, xr⟩, xb, xk⟩, hx⟩ : ∃ x, gs[j]'hjo = x := ⟨_, rfl⟩
   rw [hx, show acE.k = 8 from rfl, ← htn] at hcell; obtain ⟨xv, hxv⟩ : ∃ v, (⟨⟨⟨xn, xs, xo, xd, xx⟩, xp, xc, xr⟩, xb, xk⟩ : AcG).v = v := ⟨_, rfl⟩
   obtain ⟨x0, x1, x2, x3, x4, x5, x6, -⟩ := cW8 hcell; have x7 : wr.cell? ⟨g, jj.toNat * 8 + 7, none⟩ = some xv := by rw [← hxv]; exact hcell 7 _ (by decide) rfl
   unfold AcG.v at hxv; dsimp only at hxv; obtain ⟨nv, hnv⟩ : ∃ n, xr.length = n := ⟨_, rfl⟩
   rw [hnv] at hxv; subst hxv; have hbox := (mH wr (.cells #[xn, xs, xo, xd, xx, xp, xc, .slice xb nv xk] 65))
   obtain ⟨y0, y1, y2, y3, y4, y5, y6, y7⟩ := c8X hbox; have kb := kT hk (kA wr (.cells #[xn, xs, xo, xd, xx, xp, xc, .slice xb nv xk] 65)); have hgm : (⟨⟨⟨xn, xs, xo, xd, xx⟩, xp, xc, xr⟩, xb, xk⟩ : AcG) ∈ gs := by rw [← hx]; exact List.getElem_mem hjo
   have hP : PartG rgE (.slice xb nv xk) xr w := by have := qG (E := rgE) (by decide) (HH.out.og _ hgm); unfold AcG.v at this; dsimp only at this; rw [hnv] at this; exact this
   have h66 : xr.length ≤ 6 := H6.out _ hgm; have HAP := hD (apart_any (w := wr.alloc (.cells #[xn, xs, xo, xd, xx, xp, xc, .slice xb nv xk] 65)) xn xs xo xd xx xp xc xb nv xk xr hnv (by omega) (hP.kp kb)); have KB := hD (kA wr (.cells #[xn, xs, xo, xd, xx, xp, xc, .slice xb nv xk] 65)); have hsn : gs.take (j + 1) = gs.take j ++ [gs[j]] := by rw [← List.take_succ_eq_append_getElem hjo]
   rw [hx] at hsn; obtain ⟨HSN, HLT, HNV⟩ := hD3 hsn hlt hnv; have hw1 : wrap64 (jj + 1) = jj + 1 := IntWalk.wrap64_in _ (by omega); have LA := hD (show la ≤ 8 by omega); clear hcell hx hk hjj hj hlt htn ow hown hog hdis hga hla hlaj hP h66 hgm kb hbox hsn hnv; go_wp2_with (first
    | (go_at_call 55; (with_reducible refine HAP.out.mono ?_); rintro e' w3 ⟨o3, c3, rfl, hO, hk3⟩; obtain ⟨K3, O3⟩ := hD2 hk3 hO; clear hO hk3)
    | (at_builtin; refine aG (E := acE) ty_acL (by decide) _ rfl _ _ rfl w.heap.size _ la ga rfl (oK (by have := OW.out; rw [HLA.out] at this; exact this) (kT KB.out (kT K3.out (kA _ _)))) _ [⟨⟨⟨xn, xs, xo, xd, xx⟩, xp, xc, xr⟩, o3, c3⟩] rfl (pG (mH w3 (.cells #[xn, xs, xo, xd, xx, xp, xc, .slice o3 nv c3] 65)) (by simp only [acE, AcG.v]; rw [HNV.out])) ?f1 ?f2 ?_))
   case f1 => have := LA.out; simp; omega
   case f2 => exact kS (kT KR.out (kT KB.out (kT K3.out (kA _ _))))
   rintro v6 w6 o6 hg hb6; have kx := kT KB.out (kT K3.out (kA w3 (.cells #[xn, xs, xo, xd, xx, xp, xc, .slice o3 nv c3] 65))); have OWX := oK OW.out kx; rw [HLA.out] at OWX; have k6 : Kp w w6 := Below.grown (kT KR.out kx) hg (Below.size (kT KR.out kx)) (fun k hk => (OWX.lt k hk).1); obtain ⟨O6, K6⟩ := hD2 o6 k6; have og6 : ∀ g ∈ ga ++ [⟨⟨⟨xn, xs, xo, xd, xx⟩, xp, xc, xr⟩, o3, c3⟩], w6.ownsRow w.heap.size 69 6 g.v g.a.regs.length (rgE.row g.a.regs) := by
    intro g hgm
    rcases List.mem_append.1 hgm with h | h
    ·refine sG (oK (OG.out g h) kx) (fun b e => hg.block b ((oK (OG.out g h) kx).lt b e).2 (fun e2 => aQ OWX (oK (OG.out g h) kx) (by decide) b e2.symm e))
    ·obtain rfl := List.mem_singleton.1 h; have o3' : (w3.alloc (.cells #[xn, xs, xo, xd, xx, xp, xc, .slice o3 nv c3] 65)).ownsRow w.heap.size 69 6 (.slice o3 xr.length c3) xr.length (rgE.row xr) := by rw [HNV.out]; exact oK (bG O3.out (kS (kT KR.out KB.out))) (kA _ _)
     exact sG o3' (fun b e => hg.block b (o3'.lt b e).2 (fun e2 => aQ OWX o3' (by decide) b e2.symm e))
   have ds6 := dis_app2 (g' := ⟨⟨⟨xn, xs, xo, xd, xx⟩, xp, xc, xr⟩, o3, c3⟩) DS.out (N := wr.heap.size) (fun x hx b e => ((OG.out x hx).lt b e).2) (fun b e => Nat.le_trans (kS KB.out) (O3.out.lt b (by rw [← HNV.out]; exact e)).1); obtain ⟨OG6, DS6⟩ := hD2 og6 ds6; clear o6 hg hb6 kx OWX k6 og6 ds6; go_wp2; go_roundw
   case rel => exact ⟨j + 1, ga ++ [⟨⟨⟨xn, xs, xo, xd, xx⟩, xp, xc, xr⟩, o3, c3⟩], by have := HLT.out; omega, by have := HJ.out; rw [show ((j + 1 : Nat) : Int) = jj + 1 by omega], by rw [HSN.out, List.map_append, List.map_append, GA.out]; rfl, by rw [List.length_append, HLA.out]; exact O6.out, OG6.out, DS6.out, K6.out⟩
   case measure => have := HJ.out; have := HLT.out; simp [intOf]; omega
  ·have hje : ¬ jj < L := by omega
   have hjl : j = len := by omega
   have hfin : ga.map AcG.a = m.acts := by rw [hga, HH.out.acts, hjl, ← HL.out, List.take_length]
   have HF := hD hfin; clear hk hown hog hdis hga hjj hj hlt hla hlaj hjl hfin; go_wp2; go_ret; exact ⟨_, rfl, ⟨ga, HF.out, by rw [← HLA.out] at *; exact OW.out, OG.out, DS.out⟩, KR.out⟩
def SlI (v : Value) (bs : List Int) (w : World) : Prop :=
 (bs = [] ∧ ∃ a cap, v = .slice a 0 cap) ∨
 ∃ b off cap, 0 < bs.length ∧ v = .slice (some ⟨b, off, none⟩) bs.length cap ∧ ∀ j, j < bs.length → w.cell? ⟨b, off + j, none⟩ = some (.int .i64 (bs.getD j 0))
theorem SlI.kp {v : Value} {bs : List Int} {w w' : World} (h : SlI v bs w) (hb : Kp w w') : SlI v bs w' := by
 rcases h with h | ⟨b, off, cap, h0, h1, h2⟩
 ·exact Or.inl h
 ·exact Or.inr ⟨b, off, cap, h0, h1, fun j hj => kZ hb (h2 j hj)⟩
theorem SlI.form {v : Value} {bs : List Int} {w : World} (h : SlI v bs w) : ∃ a cap, v = .slice a bs.length cap := by
 rcases h with ⟨rfl, a, cap, rfl⟩ | ⟨b, off, cap, _, rfl, _⟩
 ·exact ⟨a, cap, rfl⟩
 ·exact ⟨_, cap, rfl⟩
theorem SlI.at {a : Option Addr} {n cap : Nat} {bs : List Int} {w : World} (h : SlI (.slice a n cap) bs w) (j : Nat) (hj : j < bs.length) : ∃ b off, a = some ⟨b, off, none⟩ ∧ w.cell? ⟨b, off + j, none⟩ = some (.int .i64 (bs.getD j 0)) := by
 rcases h with ⟨hz, _⟩ | ⟨b, off, cap', _, hv, hcc⟩
 ·rw [hz] at hj; cases hj
 ·injection hv with hv1 _ _
  exact ⟨b, off, hv1, hcc j hj⟩
theorem own_sli {w : World} {base n : Nat} {v : Value} {bs : List Int} (h : w.ownsRow base 3 1 v n (bs.map (Value.int .i64))) : SlI v bs w := by
 obtain ⟨h1, h2⟩ := h; have hlen : bs.length = n := by simpa using h1
 rcases h2 with ⟨rfl, hn⟩ | ⟨g, cap, cur, rfl, hg, hh, hc, hm, hs, ht⟩
 ·left
  exact ⟨List.length_eq_zero_iff.1 (by omega), none, 0, rfl⟩
 ·by_cases h0 : n = 0
  ·left
   subst h0; exact ⟨List.length_eq_zero_iff.1 (by omega), _, cap, rfl⟩
  ·right
   refine ⟨g, 0, cap, by omega, by rw [hlen], fun j hj => ?_⟩
   unfold World.cell?; dsimp only; rw [hh]; simp only [Option.isSome_none, Bool.false_eq_true, if_false, Nat.zero_add]
   have : (cur.toList.take (n * 1))[j]? = some (.int .i64 (bs.getD j 0)) := by
    rw [ht]; simp [List.getD, hj]
   rw [List.getElem?_take, Nat.mul_one, if_pos (by omega)] at this
   simpa using this
end Go.Proofs.YtpemeenfhkgmpaaGreatDoor
