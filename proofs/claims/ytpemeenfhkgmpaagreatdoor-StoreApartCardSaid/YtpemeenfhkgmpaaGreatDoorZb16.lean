/-
  PARTS OF THIS PROOF (own work): LsC, LsD.
-/
import Derived.Test.YtpemeenfhkgmpaaGreatDoorZb15
import Derived.Test.YtpemeenfhkgmpaaGreatDoorZb12
namespace Go.Proofs.YtpemeenfhkgmpaaGreatDoor
open Go.RowKit Go.ChangeShapes Go.WideShapes

variable {w0 w w' W w3 : World} {B q : Nat} {m : StM} {gs : List AcG} {va vp : Value}

/-- the cells of an activity that is handed out -/
def acV (a : AcM) (o : Option Addr) (c : Nat) : Array Value := #[.int .i64 a.c.n, .int .i64 a.c.s, .int .i64 a.c.o, .int .i64 a.c.d, .float .f64 a.c.x, .int .i64 a.par, .int .i64 a.dec, .slice o a.regs.length c]
def zeroA : AcM := ⟨⟨0, 0, 0, 0, 0⟩, 0, 0, []⟩
/-- WHAT IS HANDED OUT: the activity at a place (none: the zero one), its registrations in memory from N on -/
def OutA (m : StM) (pl : Option Nat) (v : Array Value) (N : Nat) (w : World) : Prop :=
  ∃ a o c, v = acV a o c ∧ (match pl with | none => a = zeroA ∧ o = none ∧ c = 0 | some i => m.acts[i]? = some a) ∧ w.ownsRow N 69 6 (.slice o a.regs.length c) a.regs.length (rgE.row a.regs)
theorem OutA.form {pl : Option Nat} {v : Array Value} {N : Nat} (h : OutA m pl v N w) : ∃ xn xs xo xd xx xp xc o n c, v = #[.int .i64 xn, .int .i64 xs, .int .i64 xo, .int .i64 xd, .float .f64 xx, .int .i64 xp, .int .i64 xc, .slice o n c] := by
  obtain ⟨a, o, c, h1, h2, h3⟩ := h
  exact ⟨_, _, _, _, _, _, _, _, _, _, h1⟩
theorem fi_map {p : AcM → Bool} : (gs.map AcG.a).findIdx? p = gs.findIdx? (fun g => p g.a) := by
  rw [List.findIdx?_map]
  rfl
set_option maxRecDepth 100000 in
set_option maxHeartbeats 8000000 in
theorem firstFind (H : GS tyL B q m gs va vp w) (h8 : gs.length ≤ 8) (h6 : ∀ g ∈ gs, g.a.regs.length ≤ 6) (b : Nat) (n s : Int) (hb : w.heap[b]? = some (.cells #[.int .i64 n, .int .i64 s] 36 (0, 0))) :
    Calls Tryz.prog 56 #[.pointer (some ⟨q, 0, none⟩), .func (.func 57) #[] #[.pointer (some ⟨b, 0, none⟩)]] w fun r w' => ∃ v, r = .returned (.tuple #[.agg v, .bool (m.acts.findIdx? (fun a => decide (a.c.n = n ∧ a.c.s = s))).isSome]) ∧ OutA m (m.acts.findIdx? (fun a => decide (a.c.n = n ∧ a.c.s = s))) v w.heap.size w' ∧ Kp w w' := by
  rw [show m.acts.findIdx? (fun a => decide (a.c.n = n ∧ a.c.s = s)) = gs.findIdx? (fun g => (fun a : AcM => decide (a.c.n = n ∧ a.c.s = s)) g.a) by rw [H.acts, fi_map]]
  obtain ⟨PL, hPL⟩ : ∃ R, gs.findIdx? (fun g => (fun a : AcM => decide (a.c.n = n ∧ a.c.s = s)) g.a) = R := ⟨_, rfl⟩
  obtain ⟨a0, c0, eva⟩ := H.vForm
  subst eva
  obtain ⟨len, hl⟩ : ∃ x, gs.length = x := ⟨_, rfl⟩
  have e0 : w.cell? ⟨q, 2, none⟩ = some (.slice a0 len c0) := by rw [← hl]; exact cellU (i := 2) H.row rfl
  have kz := kp_alloc w (.cells #[.int .i64 0, .int .i64 0, .int .i64 0, .int .i64 0, .float .f64 0, .int .i64 0, .int .i64 0, .slice none 0 0] 65)
  have rz := (MapKept.heap_alloc w (.cells #[.int .i64 0, .int .i64 0, .int .i64 0, .int .i64 0, .float .f64 0, .int .i64 0, .int .i64 0, .slice none 0 0] 65)).1
  obtain ⟨W, hW⟩ : ∃ W, w.alloc (.cells #[.int .i64 0, .int .i64 0, .int .i64 0, .int .i64 0, .float .f64 0, .int .i64 0, .int .i64 0, .slice none 0 0] 65) = W := ⟨_, rfl⟩
  rw [hW] at kz rz
  have e0 := kp_cell kz e0
  have ho : w.ownsRow B 65 8 (.slice a0 len c0) len (acE.row gs) := by have := H.oa; rw [hl] at this; exact this
  have hix := ixFind (own_kp ho kz) hl (by omega) b n s (kp_row kz hb)
  rw [hPL] at hix ⊢
  have HIX := Lib.hid hix
  have HH := Lib.hid H
  have HO := Lib.hid ho
  have HL := Lib.hid hl
  have KZ := Lib.hid kz
  have RZ := Lib.hid rz
  have fz := frozQ rz
  obtain ⟨L, hL⟩ : ∃ L : Int, (len : Int) = L := ⟨_, rfl⟩
  have HLL := Lib.hid hL
  have L8 := Lib.hid h8
  have hsf := store_fl
  cases PL with
  | none =>
    have hn : placeQ none = -1 := rfl
    rw [hn] at HIX
    clear H h8 h6 hb hPL hl kz rz ho hix hn hL
    go_enter Tryz.func56, Tryz.ntmps56
    go_wp2_with (go_at_call 101; (with_reducible refine HIX.out.mono ?_); rintro e' w2 ⟨rfl, hk⟩; have r2 := kp_row hk RZ.out; obtain ⟨u0, u1, u2, u3, u4, u5, u6, u7⟩ := cells_8 r2; have fz2 := frozQ r2; have K2 := Lib.hid (Kp.trans KZ.out hk); have R2 := Lib.hid r2; clear hk r2)
    refine bodyPost_ret (results_row_tmp9 (p := 4) (u := 5) rfl _ _ w.heap.size 65 _ (0, 0) _ rfl (set_8 (.int .i64 0) (.int .i64 0) (.int .i64 0) (.int .i64 0) (.float .f64 0) (.int .i64 0) (.int .i64 0) (.slice none 0 0) R2.out) Tryz.underlying65 rfl (by kernel_rfl)) rfl ?_
    exact ⟨_, rfl, ⟨zeroA, none, 0, rfl, ⟨rfl, rfl, rfl⟩, World.ownsRow_nil _ _ _ _⟩, set_8_kp K2.out (Nat.le_refl _) _ _ _ _ _ _ _ _⟩
  | some i =>
    have hi : i < gs.length := (List.findIdx?_eq_some_iff_getElem.1 hPL).1
    obtain ⟨ii, hii⟩ : ∃ ii : Int, (i : Int) = ii := ⟨_, rfl⟩
    have hpl : placeQ (some i) = ii := hii
    rw [hpl] at HIX
    have htn : ii.toNat = i := by omega
    have hi0 : 0 ≤ ii := by omega
    have hiL : ii < L := by omega
    have g0 : decide (ii < 0) = false := decide_eq_false (by omega)
    obtain ⟨ga, cpa, eva, hcpa, hgB, hgl, hfz, hcell⟩ := own_cellQ (E := acE) ho hl (by omega : i < len)
    obtain ⟨⟨⟨⟨xn, xs, xo, xd, xx⟩, xp, xc, xr⟩, xb, xk⟩, hx⟩ : ∃ x, gs[i]'hi = x := ⟨_, rfl⟩
    have hcell2 : ∀ (j : Nat) (u : Value), j < acE.k → (acE.enc (gs[i]'hi))[j]? = some u → w.cell? ⟨ga, i * acE.k + j, none⟩ = some u := hcell
    rw [hx, show acE.k = 8 from rfl, ← htn] at hcell2
    have eva := congrArg (fun v => match v with | Value.slice a _ _ => a | _ => none) eva
    dsimp only at eva
    subst eva
    obtain ⟨nv, hnv⟩ : ∃ n, xr.length = n := ⟨_, rfl⟩
    have x0 : w.cell? ⟨ga, ii.toNat * 8, none⟩ = some (.int .i64 xn) := hcell2 0 _ (by decide) rfl
    have x1 : w.cell? ⟨ga, ii.toNat * 8 + 1, none⟩ = some (.int .i64 xs) := hcell2 1 _ (by decide) rfl
    have x2 : w.cell? ⟨ga, ii.toNat * 8 + 2, none⟩ = some (.int .i64 xo) := hcell2 2 _ (by decide) rfl
    have x3 : w.cell? ⟨ga, ii.toNat * 8 + 3, none⟩ = some (.int .i64 xd) := hcell2 3 _ (by decide) rfl
    have x4 : w.cell? ⟨ga, ii.toNat * 8 + 4, none⟩ = some (.float .f64 xx) := hcell2 4 _ (by decide) rfl
    have x5 : w.cell? ⟨ga, ii.toNat * 8 + 5, none⟩ = some (.int .i64 xp) := hcell2 5 _ (by decide) rfl
    have x6 : w.cell? ⟨ga, ii.toNat * 8 + 6, none⟩ = some (.int .i64 xc) := hcell2 6 _ (by decide) rfl
    have x7 : w.cell? ⟨ga, ii.toNat * 8 + 7, none⟩ = some (.slice xb nv xk) := by rw [← hnv]; exact hcell2 7 _ (by decide) rfl
    have hgm : (⟨⟨⟨xn, xs, xo, xd, xx⟩, xp, xc, xr⟩, xb, xk⟩ : AcG) ∈ gs := by rw [← hx]; exact List.getElem_mem hi
    have hP : PartG rgE (.slice xb nv xk) xr w := by have := own_partG (E := rgE) (by decide) (H.og _ hgm); unfold AcG.v at this; dsimp only at this; rw [hnv] at this; exact this
    have h66 : xr.length ≤ 6 := h6 _ hgm
    have hma : m.acts[i]? = some ⟨⟨xn, xs, xo, xd, xx⟩, xp, xc, xr⟩ := by rw [H.acts, List.getElem?_map, List.getElem?_eq_getElem hi, hx]; rfl
    have HAP := Lib.hid (fun (w1 : World) (hk : Kp w w1) => apart_any (w := w1) xn xs xo xd xx xp xc xb nv xk xr hnv (by omega) (hP.kp hk))
    have HMA := Lib.hid hma
    have HNV := Lib.hid hnv
    have X := Lib.hid (And.intro x0 (And.intro x1 (And.intro x2 (And.intro x3 (And.intro x4 (And.intro x5 (And.intro x6 x7)))))))
    clear H h8 h6 hb hPL hl kz rz ho hix hpl hii hi hcpa hgB hgl hfz hcell hcell2 hx hgm hP h66 hma hnv htn
    go_enter Tryz.func56, Tryz.ntmps56
    go_wp2_with (first | (go_at_call 101; (with_reducible refine HIX.out.mono ?_); rintro e' w2 ⟨rfl, hk⟩; have r2 := kp_row hk RZ.out; have K2 := Lib.hid (Kp.trans KZ.out hk); have R2 := Lib.hid r2; have e0 := kp_cell hk e0; have x0 := kp_cell K2.out x0; have x1 := kp_cell K2.out x1; have x2 := kp_cell K2.out x2; have x3 := kp_cell K2.out x3; have x4 := kp_cell K2.out x4; have x5 := kp_cell K2.out x5; have x6 := kp_cell K2.out x6; have x7 := kp_cell K2.out x7; clear hk r2) | (go_at_call 55; (with_reducible refine (HAP.out _ K2.out).mono ?_); rintro e' w3 ⟨o', c', rfl, hO, hk⟩; have r3 := kp_row hk R2.out; obtain ⟨u0, u1, u2, u3, u4, u5, u6, u7⟩ := cells_8 r3; have fz3 := frozQ r3; have K3 := Lib.hid (Kp.trans K2.out hk); have R3 := Lib.hid r3; have O3 := Lib.hid hO; clear hk r3 hO))
    refine bodyPost_ret (results_row_tmp9 (p := 4) (u := 5) rfl _ _ w.heap.size 65 _ (0, 0) _ rfl (set_8 (.int .i64 xn) (.int .i64 xs) (.int .i64 xo) (.int .i64 xd) (.float .f64 xx) (.int .i64 xp) (.int .i64 xc) (.slice o' nv c') R3.out) Tryz.underlying65 rfl (by kernel_rfl)) rfl ?_
    refine ⟨_, rfl, ⟨⟨⟨xn, xs, xo, xd, xx⟩, xp, xc, xr⟩, o', c', by rw [acV, HNV.out], HMA.out, ?_⟩, set_8_kp K3.out (Nat.le_refl _) _ _ _ _ _ _ _ _⟩
    have szK := old_of_row R2.out
    have O4 : w3.ownsRow w2.heap.size 69 6 (.slice o' xr.length c') xr.length (rgE.row xr) := by rw [HNV.out]; exact O3.out
    refine own_baseG (own_stayG O4 (fun b e => ?_)) (kp_size K2.out)
    have hb := (O4.lt b e).1
    rw [Below.heap_setCell _ _ _ _ (by dsimp only; omega), Below.heap_setCell _ _ _ _ (by dsimp only; omega), Below.heap_setCell _ _ _ _ (by dsimp only; omega), Below.heap_setCell _ _ _ _ (by dsimp only; omega), Below.heap_setCell _ _ _ _ (by dsimp only; omega), Below.heap_setCell _ _ _ _ (by dsimp only; omega), Below.heap_setCell _ _ _ _ (by dsimp only; omega), Below.heap_setCell _ _ _ _ (by dsimp only; omega)]
set_option maxRecDepth 100000 in
set_option maxHeartbeats 8000000 in
theorem firstChild (H : GS tyL B q m gs va vp w) (h8 : gs.length ≤ 8) (h6 : ∀ g ∈ gs, g.a.regs.length ≤ 6) (b : Nat) (p : Int) (hp : ∀ g ∈ gs, 0 ≤ g.a.par ∧ g.a.par ≤ 8) (hb : w.heap[b]? = some (.cells #[.int .i64 p] 3 (0, 0))) :
    Calls Tryz.prog 56 #[.pointer (some ⟨q, 0, none⟩), .func (.func 59) #[] #[.pointer (some ⟨b, 0, none⟩)]] w fun r w' => ∃ v, r = .returned (.tuple #[.agg v, .bool (m.acts.findIdx? (fun a => decide (a.par ≠ 0 ∧ a.par - 1 = p))).isSome]) ∧ OutA m (m.acts.findIdx? (fun a => decide (a.par ≠ 0 ∧ a.par - 1 = p))) v w.heap.size w' ∧ Kp w w' := by
  rw [show m.acts.findIdx? (fun a => decide (a.par ≠ 0 ∧ a.par - 1 = p)) = gs.findIdx? (fun g => (fun a : AcM => decide (a.par ≠ 0 ∧ a.par - 1 = p)) g.a) by rw [H.acts, fi_map]]
  obtain ⟨PL, hPL⟩ : ∃ R, gs.findIdx? (fun g => (fun a : AcM => decide (a.par ≠ 0 ∧ a.par - 1 = p)) g.a) = R := ⟨_, rfl⟩
  obtain ⟨a0, c0, eva⟩ := H.vForm
  subst eva
  obtain ⟨len, hl⟩ : ∃ x, gs.length = x := ⟨_, rfl⟩
  have e0 : w.cell? ⟨q, 2, none⟩ = some (.slice a0 len c0) := by rw [← hl]; exact cellU (i := 2) H.row rfl
  have kz := kp_alloc w (.cells #[.int .i64 0, .int .i64 0, .int .i64 0, .int .i64 0, .float .f64 0, .int .i64 0, .int .i64 0, .slice none 0 0] 65)
  have rz := (MapKept.heap_alloc w (.cells #[.int .i64 0, .int .i64 0, .int .i64 0, .int .i64 0, .float .f64 0, .int .i64 0, .int .i64 0, .slice none 0 0] 65)).1
  obtain ⟨W, hW⟩ : ∃ W, w.alloc (.cells #[.int .i64 0, .int .i64 0, .int .i64 0, .int .i64 0, .float .f64 0, .int .i64 0, .int .i64 0, .slice none 0 0] 65) = W := ⟨_, rfl⟩
  rw [hW] at kz rz
  have e0 := kp_cell kz e0
  have ho : w.ownsRow B 65 8 (.slice a0 len c0) len (acE.row gs) := by have := H.oa; rw [hl] at this; exact this
  have hix := ixChild (own_kp ho kz) hl (by omega) b p hp (kp_row kz hb)
  rw [hPL] at hix ⊢
  have HIX := Lib.hid hix
  have HH := Lib.hid H
  have HO := Lib.hid ho
  have HL := Lib.hid hl
  have KZ := Lib.hid kz
  have RZ := Lib.hid rz
  have fz := frozQ rz
  obtain ⟨L, hL⟩ : ∃ L : Int, (len : Int) = L := ⟨_, rfl⟩
  have HLL := Lib.hid hL
  have L8 := Lib.hid h8
  have hsf := store_fl
  cases PL with
  | none =>
    have hn : placeQ none = -1 := rfl
    rw [hn] at HIX
    clear H h8 h6 hp hb hPL hl kz rz ho hix hn hL
    go_enter Tryz.func56, Tryz.ntmps56
    go_wp2_with (go_at_call 101; (with_reducible refine HIX.out.mono ?_); rintro e' w2 ⟨rfl, hk⟩; have r2 := kp_row hk RZ.out; obtain ⟨u0, u1, u2, u3, u4, u5, u6, u7⟩ := cells_8 r2; have fz2 := frozQ r2; have K2 := Lib.hid (Kp.trans KZ.out hk); have R2 := Lib.hid r2; clear hk r2)
    refine bodyPost_ret (results_row_tmp9 (p := 4) (u := 5) rfl _ _ w.heap.size 65 _ (0, 0) _ rfl (set_8 (.int .i64 0) (.int .i64 0) (.int .i64 0) (.int .i64 0) (.float .f64 0) (.int .i64 0) (.int .i64 0) (.slice none 0 0) R2.out) Tryz.underlying65 rfl (by kernel_rfl)) rfl ?_
    exact ⟨_, rfl, ⟨zeroA, none, 0, rfl, ⟨rfl, rfl, rfl⟩, World.ownsRow_nil _ _ _ _⟩, set_8_kp K2.out (Nat.le_refl _) _ _ _ _ _ _ _ _⟩
  | some i =>
    have hi : i < gs.length := (List.findIdx?_eq_some_iff_getElem.1 hPL).1
    obtain ⟨ii, hii⟩ : ∃ ii : Int, (i : Int) = ii := ⟨_, rfl⟩
    have hpl : placeQ (some i) = ii := hii
    rw [hpl] at HIX
    have htn : ii.toNat = i := by omega
    have hi0 : 0 ≤ ii := by omega
    have hiL : ii < L := by omega
    have g0 : decide (ii < 0) = false := decide_eq_false (by omega)
    obtain ⟨ga, cpa, eva, hcpa, hgB, hgl, hfz, hcell⟩ := own_cellQ (E := acE) ho hl (by omega : i < len)
    obtain ⟨⟨⟨⟨xn, xs, xo, xd, xx⟩, xp, xc, xr⟩, xb, xk⟩, hx⟩ : ∃ x, gs[i]'hi = x := ⟨_, rfl⟩
    have hcell2 : ∀ (j : Nat) (u : Value), j < acE.k → (acE.enc (gs[i]'hi))[j]? = some u → w.cell? ⟨ga, i * acE.k + j, none⟩ = some u := hcell
    rw [hx, show acE.k = 8 from rfl, ← htn] at hcell2
    have eva := congrArg (fun v => match v with | Value.slice a _ _ => a | _ => none) eva
    dsimp only at eva
    subst eva
    obtain ⟨nv, hnv⟩ : ∃ n, xr.length = n := ⟨_, rfl⟩
    have x0 : w.cell? ⟨ga, ii.toNat * 8, none⟩ = some (.int .i64 xn) := hcell2 0 _ (by decide) rfl
    have x1 : w.cell? ⟨ga, ii.toNat * 8 + 1, none⟩ = some (.int .i64 xs) := hcell2 1 _ (by decide) rfl
    have x2 : w.cell? ⟨ga, ii.toNat * 8 + 2, none⟩ = some (.int .i64 xo) := hcell2 2 _ (by decide) rfl
    have x3 : w.cell? ⟨ga, ii.toNat * 8 + 3, none⟩ = some (.int .i64 xd) := hcell2 3 _ (by decide) rfl
    have x4 : w.cell? ⟨ga, ii.toNat * 8 + 4, none⟩ = some (.float .f64 xx) := hcell2 4 _ (by decide) rfl
    have x5 : w.cell? ⟨ga, ii.toNat * 8 + 5, none⟩ = some (.int .i64 xp) := hcell2 5 _ (by decide) rfl
    have x6 : w.cell? ⟨ga, ii.toNat * 8 + 6, none⟩ = some (.int .i64 xc) := hcell2 6 _ (by decide) rfl
    have x7 : w.cell? ⟨ga, ii.toNat * 8 + 7, none⟩ = some (.slice xb nv xk) := by rw [← hnv]; exact hcell2 7 _ (by decide) rfl
    have hgm : (⟨⟨⟨xn, xs, xo, xd, xx⟩, xp, xc, xr⟩, xb, xk⟩ : AcG) ∈ gs := by rw [← hx]; exact List.getElem_mem hi
    have hP : PartG rgE (.slice xb nv xk) xr w := by have := own_partG (E := rgE) (by decide) (H.og _ hgm); unfold AcG.v at this; dsimp only at this; rw [hnv] at this; exact this
    have h66 : xr.length ≤ 6 := h6 _ hgm
    have hma : m.acts[i]? = some ⟨⟨xn, xs, xo, xd, xx⟩, xp, xc, xr⟩ := by rw [H.acts, List.getElem?_map, List.getElem?_eq_getElem hi, hx]; rfl
    have HAP := Lib.hid (fun (w1 : World) (hk : Kp w w1) => apart_any (w := w1) xn xs xo xd xx xp xc xb nv xk xr hnv (by omega) (hP.kp hk))
    have HMA := Lib.hid hma
    have HNV := Lib.hid hnv
    have X := Lib.hid (And.intro x0 (And.intro x1 (And.intro x2 (And.intro x3 (And.intro x4 (And.intro x5 (And.intro x6 x7)))))))
    clear H h8 h6 hp hb hPL hl kz rz ho hix hpl hii hi hcpa hgB hgl hfz hcell hcell2 hx hgm hP h66 hma hnv htn
    go_enter Tryz.func56, Tryz.ntmps56
    go_wp2_with (first | (go_at_call 101; (with_reducible refine HIX.out.mono ?_); rintro e' w2 ⟨rfl, hk⟩; have r2 := kp_row hk RZ.out; have K2 := Lib.hid (Kp.trans KZ.out hk); have R2 := Lib.hid r2; have e0 := kp_cell hk e0; have x0 := kp_cell K2.out x0; have x1 := kp_cell K2.out x1; have x2 := kp_cell K2.out x2; have x3 := kp_cell K2.out x3; have x4 := kp_cell K2.out x4; have x5 := kp_cell K2.out x5; have x6 := kp_cell K2.out x6; have x7 := kp_cell K2.out x7; clear hk r2) | (go_at_call 55; (with_reducible refine (HAP.out _ K2.out).mono ?_); rintro e' w3 ⟨o', c', rfl, hO, hk⟩; have r3 := kp_row hk R2.out; obtain ⟨u0, u1, u2, u3, u4, u5, u6, u7⟩ := cells_8 r3; have fz3 := frozQ r3; have K3 := Lib.hid (Kp.trans K2.out hk); have R3 := Lib.hid r3; have O3 := Lib.hid hO; clear hk r3 hO))
    refine bodyPost_ret (results_row_tmp9 (p := 4) (u := 5) rfl _ _ w.heap.size 65 _ (0, 0) _ rfl (set_8 (.int .i64 xn) (.int .i64 xs) (.int .i64 xo) (.int .i64 xd) (.float .f64 xx) (.int .i64 xp) (.int .i64 xc) (.slice o' nv c') R3.out) Tryz.underlying65 rfl (by kernel_rfl)) rfl ?_
    refine ⟨_, rfl, ⟨⟨⟨xn, xs, xo, xd, xx⟩, xp, xc, xr⟩, o', c', by rw [acV, HNV.out], HMA.out, ?_⟩, set_8_kp K3.out (Nat.le_refl _) _ _ _ _ _ _ _ _⟩
    have szK := old_of_row R2.out
    have O4 : w3.ownsRow w2.heap.size 69 6 (.slice o' xr.length c') xr.length (rgE.row xr) := by rw [HNV.out]; exact O3.out
    refine own_baseG (own_stayG O4 (fun b e => ?_)) (kp_size K2.out)
    have hb := (O4.lt b e).1
    rw [Below.heap_setCell _ _ _ _ (by dsimp only; omega), Below.heap_setCell _ _ _ _ (by dsimp only; omega), Below.heap_setCell _ _ _ _ (by dsimp only; omega), Below.heap_setCell _ _ _ _ (by dsimp only; omega), Below.heap_setCell _ _ _ _ (by dsimp only; omega), Below.heap_setCell _ _ _ _ (by dsimp only; omega), Below.heap_setCell _ _ _ _ (by dsimp only; omega), Below.heap_setCell _ _ _ _ (by dsimp only; omega)]
open Go.RowKit Go.ChangeShapes Go.WideShapes

variable {w0 w w' W w3 : World} {B q : Nat} {m : StM} {gs : List AcG} {va vp : Value}

theorem cells_7 {b : Nat} {t : TypeId} {w : World} {x0 x1 x2 x3 x4 x5 x6 : Value} (h : w.heap[b]? = some (.cells #[x0, x1, x2, x3, x4, x5, x6] t (0, 0))) : w.cell? ⟨b, 0, none⟩ = some x0 ∧ w.cell? ⟨b, 1, none⟩ = some x1 ∧ w.cell? ⟨b, 2, none⟩ = some x2 ∧ w.cell? ⟨b, 3, none⟩ = some x3 ∧ w.cell? ⟨b, 4, none⟩ = some x4 ∧ w.cell? ⟨b, 5, none⟩ = some x5 ∧ w.cell? ⟨b, 6, none⟩ = some x6 := by
  refine ⟨?_, ?_, ?_, ?_, ?_, ?_, ?_⟩ <;> (unfold World.cell?; dsimp only; rw [h]; rfl)
theorem set_7 {b : Nat} {t : TypeId} {w : World} {x0 x1 x2 x3 x4 x5 x6 : Value} (y0 y1 y2 y3 y4 y5 y6 : Value) (h : w.heap[b]? = some (.cells #[x0, x1, x2, x3, x4, x5, x6] t (0, 0))) : (((((((w.setCell ⟨b, 0, none⟩ y0).setCell ⟨b, 1, none⟩ y1).setCell ⟨b, 2, none⟩ y2).setCell ⟨b, 3, none⟩ y3).setCell ⟨b, 4, none⟩ y4).setCell ⟨b, 5, none⟩ y5).setCell ⟨b, 6, none⟩ y6).heap[b]? = some (.cells #[y0, y1, y2, y3, y4, y5, y6] t (0, 0)) := by
  have h0 : (w.setCell ⟨b, 0, none⟩ y0).heap[b]? = some (.cells #[y0, x1, x2, x3, x4, x5, x6] t (0, 0)) := (Joins.block_setCell h _).trans rfl
  have h1 : ((w.setCell ⟨b, 0, none⟩ y0).setCell ⟨b, 1, none⟩ y1).heap[b]? = some (.cells #[y0, y1, x2, x3, x4, x5, x6] t (0, 0)) := (Joins.block_setCell h0 _).trans rfl
  have h2 : (((w.setCell ⟨b, 0, none⟩ y0).setCell ⟨b, 1, none⟩ y1).setCell ⟨b, 2, none⟩ y2).heap[b]? = some (.cells #[y0, y1, y2, x3, x4, x5, x6] t (0, 0)) := (Joins.block_setCell h1 _).trans rfl
  have h3 : ((((w.setCell ⟨b, 0, none⟩ y0).setCell ⟨b, 1, none⟩ y1).setCell ⟨b, 2, none⟩ y2).setCell ⟨b, 3, none⟩ y3).heap[b]? = some (.cells #[y0, y1, y2, y3, x4, x5, x6] t (0, 0)) := (Joins.block_setCell h2 _).trans rfl
  have h4 : (((((w.setCell ⟨b, 0, none⟩ y0).setCell ⟨b, 1, none⟩ y1).setCell ⟨b, 2, none⟩ y2).setCell ⟨b, 3, none⟩ y3).setCell ⟨b, 4, none⟩ y4).heap[b]? = some (.cells #[y0, y1, y2, y3, y4, x5, x6] t (0, 0)) := (Joins.block_setCell h3 _).trans rfl
  have h5 : ((((((w.setCell ⟨b, 0, none⟩ y0).setCell ⟨b, 1, none⟩ y1).setCell ⟨b, 2, none⟩ y2).setCell ⟨b, 3, none⟩ y3).setCell ⟨b, 4, none⟩ y4).setCell ⟨b, 5, none⟩ y5).heap[b]? = some (.cells #[y0, y1, y2, y3, y4, y5, x6] t (0, 0)) := (Joins.block_setCell h4 _).trans rfl
  have h6 : (((((((w.setCell ⟨b, 0, none⟩ y0).setCell ⟨b, 1, none⟩ y1).setCell ⟨b, 2, none⟩ y2).setCell ⟨b, 3, none⟩ y3).setCell ⟨b, 4, none⟩ y4).setCell ⟨b, 5, none⟩ y5).setCell ⟨b, 6, none⟩ y6).heap[b]? = some (.cells #[y0, y1, y2, y3, y4, y5, y6] t (0, 0)) := (Joins.block_setCell h5 _).trans rfl
  exact h6
theorem set_7_kp {b : Nat} {w0 w : World} (hk : Kp w0 w) (hb : w0.heap.size ≤ b) (y0 y1 y2 y3 y4 y5 y6 : Value) : Kp w0 (((((((w.setCell ⟨b, 0, none⟩ y0).setCell ⟨b, 1, none⟩ y1).setCell ⟨b, 2, none⟩ y2).setCell ⟨b, 3, none⟩ y3).setCell ⟨b, 4, none⟩ y4).setCell ⟨b, 5, none⟩ y5).setCell ⟨b, 6, none⟩ y6) := by
  refine Below.setCell ?_ hb _
  refine Below.setCell ?_ hb _
  refine Below.setCell ?_ hb _
  refine Below.setCell ?_ hb _
  refine Below.setCell ?_ hb _
  refine Below.setCell ?_ hb _
  refine Below.setCell ?_ hb _
  exact hk
/-- a participant that is handed out -/
def paV (x : PaM) : Array Value := #[.int .i64 x.n, .int .i64 x.s, .int .i64 x.reg, .int .i64 x.z.p, .int .i64 x.z.e, .int .i64 x.z.s, .int .i64 x.z.h]
def zeroP : PaM := ⟨0, 0, 0, ⟨0, 0, 0, 0⟩⟩
def partQ (m : StM) (i : Int) : Option PaM := if 0 ≤ i then m.parts[i.toNat]? else none
theorem child_eq (hp : ∀ a ∈ m.acts, 0 ≤ a.par) (p : Int) : m.acts.findIdx? (fun a => decide (a.par ≠ 0 ∧ a.par - 1 = p)) = childS m.acts p := by
  unfold childS
  by_cases h : p < 0
  · rw [if_pos h, List.findIdx?_eq_none_iff]
    intro x hx
    have := hp x hx
    simp only [decide_eq_false_iff_not]
    omega
  · rw [if_neg h]
    congr 1
    funext a
    have : (a.par ≠ 0 ∧ a.par - 1 = p) ↔ a.par = p + 1 := by omega
    simp [this]
set_option maxRecDepth 100000 in
set_option maxHeartbeats 4000000 in
theorem stFind (H : GS tyL B q m gs va vp w) (h8 : gs.length ≤ 8) (h6 : ∀ a ∈ m.acts, a.regs.length ≤ 6) (n s : Int) : Calls Tryz.prog 22 #[.pointer (some ⟨q, 0, none⟩), .agg #[.int .i64 n, .int .i64 s]] w fun r w' => ∃ v, r = .returned (.tuple #[.agg v, .bool (findS m.acts n s).isSome]) ∧ OutA m (findS m.acts n s) v w.heap.size w' ∧ Kp w w' := by
  have k1 : Kp w ((w.alloc (.cells #[.int .i64 n, .int .i64 s] 36)).alloc (.cells #[.int .i64 0, .int .i64 0, .int .i64 0, .int .i64 0, .float .f64 0, .int .i64 0, .int .i64 0, .slice none 0 0] 65)) := Kp.trans (kp_alloc _ _) (kp_alloc _ _)
  have r1 := new14_0 w (.cells #[.int .i64 n, .int .i64 s] 36) (.cells #[.int .i64 0, .int .i64 0, .int .i64 0, .int .i64 0, .float .f64 0, .int .i64 0, .int .i64 0, .slice none 0 0] 65)
  have r2 := new14_1 w (.cells #[.int .i64 n, .int .i64 s] 36) (.cells #[.int .i64 0, .int .i64 0, .int .i64 0, .int .i64 0, .float .f64 0, .int .i64 0, .int .i64 0, .slice none 0 0] 65)
  obtain ⟨W, hW⟩ : ∃ W, ((w.alloc (.cells #[.int .i64 n, .int .i64 s] 36)).alloc (.cells #[.int .i64 0, .int .i64 0, .int .i64 0, .int .i64 0, .float .f64 0, .int .i64 0, .int .i64 0, .slice none 0 0] 65)) = W := ⟨_, rfl⟩
  rw [hW] at k1 r1 r2
  have h6' : ∀ g ∈ gs, g.a.regs.length ≤ 6 := fun g hg => h6 _ (by rw [H.acts]; exact List.mem_map_of_mem hg)
  have hfi := firstFind (H.kp k1) h8 h6' w.heap.size n s r1
  rw [show m.acts.findIdx? (fun a => decide (a.c.n = n ∧ a.c.s = s)) = findS m.acts n s from rfl] at hfi
  obtain ⟨PL, hPL⟩ : ∃ x, findS m.acts n s = x := ⟨_, rfl⟩
  rw [hPL] at hfi ⊢
  obtain ⟨tb, htb⟩ : ∃ b, PL.isSome = b := ⟨_, rfl⟩
  rw [htb] at hfi ⊢
  have HFI := Lib.hid hfi
  have K1 := Lib.hid k1
  have R2 := Lib.hid r2
  have hsf := store_fl
  clear H h8 h6 h6' hfi k1 r1 r2 hPL htb
  go_enter Tryz.func22, Tryz.ntmps22
  go_wp2_with (go_at_call 56; (with_reducible refine HFI.out.mono ?_); rintro e' w3 ⟨v, rfl, hO, hk⟩; obtain ⟨xn, xs, xo, xd, xx, xp, xc, av, nv, cv, rfl⟩ := hO.form; have r3 := kp_row hk R2.out; obtain ⟨u0, u1, u2, u3, u4, u5, u6, u7⟩ := cells_8 r3; have fz3 := frozQ r3; have K3 := Lib.hid (Kp.trans K1.out hk); have R3 := Lib.hid r3; have O3 := Lib.hid hO; clear hk r3 hO)
  refine bodyPost_ret (results_row_tmp9 (p := 4) (u := 5) rfl _ _ (w.heap.size + 1) 65 _ (0, 0) _ rfl (set_8 (.int .i64 xn) (.int .i64 xs) (.int .i64 xo) (.int .i64 xd) (.float .f64 xx) (.int .i64 xp) (.int .i64 xc) (.slice av nv cv) R3.out) Tryz.underlying65 rfl (by kernel_rfl)) rfl ?_
  refine ⟨_, rfl, ?_, set_8_kp K3.out (by omega) _ _ _ _ _ _ _ _⟩
  obtain ⟨a, oo, cc, h1, h2, h3⟩ := O3.out
  refine ⟨a, oo, cc, h1, h2, own_baseG (own_stayG h3 (fun b e => ?_)) (kp_size K1.out)⟩
  have hb := (h3.lt b e).1
  have hs := old_of_row R2.out
  rw [Below.heap_setCell _ _ _ _ (by dsimp only; omega), Below.heap_setCell _ _ _ _ (by dsimp only; omega), Below.heap_setCell _ _ _ _ (by dsimp only; omega), Below.heap_setCell _ _ _ _ (by dsimp only; omega), Below.heap_setCell _ _ _ _ (by dsimp only; omega), Below.heap_setCell _ _ _ _ (by dsimp only; omega), Below.heap_setCell _ _ _ _ (by dsimp only; omega), Below.heap_setCell _ _ _ _ (by dsimp only; omega)]
set_option maxRecDepth 100000 in
set_option maxHeartbeats 4000000 in
theorem stChild (H : GS tyL B q m gs va vp w) (h8 : gs.length ≤ 8) (h6 : ∀ a ∈ m.acts, a.regs.length ≤ 6) (p : Int) (hp : ∀ a ∈ m.acts, 0 ≤ a.par ∧ a.par ≤ 8) : Calls Tryz.prog 24 #[.pointer (some ⟨q, 0, none⟩), .int .i64 p] w fun r w' => ∃ v, r = .returned (.tuple #[.agg v, .bool (childS m.acts p).isSome]) ∧ OutA m (childS m.acts p) v w.heap.size w' ∧ Kp w w' := by
  have k1 : Kp w ((w.alloc (.cells #[.int .i64 p] 3)).alloc (.cells #[.int .i64 0, .int .i64 0, .int .i64 0, .int .i64 0, .float .f64 0, .int .i64 0, .int .i64 0, .slice none 0 0] 65)) := Kp.trans (kp_alloc _ _) (kp_alloc _ _)
  have r1 := new14_0 w (.cells #[.int .i64 p] 3) (.cells #[.int .i64 0, .int .i64 0, .int .i64 0, .int .i64 0, .float .f64 0, .int .i64 0, .int .i64 0, .slice none 0 0] 65)
  have r2 := new14_1 w (.cells #[.int .i64 p] 3) (.cells #[.int .i64 0, .int .i64 0, .int .i64 0, .int .i64 0, .float .f64 0, .int .i64 0, .int .i64 0, .slice none 0 0] 65)
  obtain ⟨W, hW⟩ : ∃ W, ((w.alloc (.cells #[.int .i64 p] 3)).alloc (.cells #[.int .i64 0, .int .i64 0, .int .i64 0, .int .i64 0, .float .f64 0, .int .i64 0, .int .i64 0, .slice none 0 0] 65)) = W := ⟨_, rfl⟩
  rw [hW] at k1 r1 r2
  have h6' : ∀ g ∈ gs, g.a.regs.length ≤ 6 := fun g hg => h6 _ (by rw [H.acts]; exact List.mem_map_of_mem hg)
  have hfi := firstChild (H.kp k1) h8 h6' w.heap.size p (fun g hg => hp _ (by rw [H.acts]; exact List.mem_map_of_mem hg)) r1
  rw [child_eq (fun a ha => (hp a ha).1)] at hfi
  obtain ⟨PL, hPL⟩ : ∃ x, childS m.acts p = x := ⟨_, rfl⟩
  rw [hPL] at hfi ⊢
  obtain ⟨tb, htb⟩ : ∃ b, PL.isSome = b := ⟨_, rfl⟩
  rw [htb] at hfi ⊢
  have HFI := Lib.hid hfi
  have K1 := Lib.hid k1
  have R2 := Lib.hid r2
  have hsf := store_fl
  clear H h8 h6 h6' hp hfi k1 r1 r2 hPL htb
  go_enter Tryz.func24, Tryz.ntmps24
  go_wp2_with (go_at_call 56; (with_reducible refine HFI.out.mono ?_); rintro e' w3 ⟨v, rfl, hO, hk⟩; obtain ⟨xn, xs, xo, xd, xx, xp, xc, av, nv, cv, rfl⟩ := hO.form; have r3 := kp_row hk R2.out; obtain ⟨u0, u1, u2, u3, u4, u5, u6, u7⟩ := cells_8 r3; have fz3 := frozQ r3; have K3 := Lib.hid (Kp.trans K1.out hk); have R3 := Lib.hid r3; have O3 := Lib.hid hO; clear hk r3 hO)
  refine bodyPost_ret (results_row_tmp9 (p := 4) (u := 5) rfl _ _ (w.heap.size + 1) 65 _ (0, 0) _ rfl (set_8 (.int .i64 xn) (.int .i64 xs) (.int .i64 xo) (.int .i64 xd) (.float .f64 xx) (.int .i64 xp) (.int .i64 xc) (.slice av nv cv) R3.out) Tryz.underlying65 rfl (by kernel_rfl)) rfl ?_
  refine ⟨_, rfl, ?_, set_8_kp K3.out (by omega) _ _ _ _ _ _ _ _⟩
  obtain ⟨a, oo, cc, h1, h2, h3⟩ := O3.out
  refine ⟨a, oo, cc, h1, h2, own_baseG (own_stayG h3 (fun b e => ?_)) (kp_size K1.out)⟩
  have hb := (h3.lt b e).1
  have hs := old_of_row R2.out
  rw [Below.heap_setCell _ _ _ _ (by dsimp only; omega), Below.heap_setCell _ _ _ _ (by dsimp only; omega), Below.heap_setCell _ _ _ _ (by dsimp only; omega), Below.heap_setCell _ _ _ _ (by dsimp only; omega), Below.heap_setCell _ _ _ _ (by dsimp only; omega), Below.heap_setCell _ _ _ _ (by dsimp only; omega), Below.heap_setCell _ _ _ _ (by dsimp only; omega), Below.heap_setCell _ _ _ _ (by dsimp only; omega)]
set_option maxRecDepth 100000 in
set_option maxHeartbeats 4000000 in
theorem stPart (H : GS tyL B q m gs va vp w) (i : Int) : Calls Tryz.prog 25 #[.pointer (some ⟨q, 0, none⟩), .int .i64 i] w fun r w' => ∃ x, r = .returned (.tuple #[.agg (paV x), .bool (partQ m i).isSome]) ∧ (match partQ m i with | none => x = zeroP | some y => x = y) ∧ Kp w w' := by
  obtain ⟨b0, d0, evp⟩ := H.pForm
  subst evp
  obtain ⟨np, hnp⟩ : ∃ x, m.parts.length = x := ⟨_, rfl⟩
  have e0 : w.cell? ⟨q, 3, none⟩ = some (.slice b0 np d0) := by rw [← hnp]; exact cellU (i := 3) H.row rfl
  have kz := kp_alloc w (.cells #[.int .i64 0, .int .i64 0, .int .i64 0, .int .i64 0, .int .i64 0, .int .i64 0, .int .i64 0] 75)
  have rz := (MapKept.heap_alloc w (.cells #[.int .i64 0, .int .i64 0, .int .i64 0, .int .i64 0, .int .i64 0, .int .i64 0, .int .i64 0] 75)).1
  obtain ⟨W, hW⟩ : ∃ W, w.alloc (.cells #[.int .i64 0, .int .i64 0, .int .i64 0, .int .i64 0, .int .i64 0, .int .i64 0, .int .i64 0] 75) = W := ⟨_, rfl⟩
  rw [hW] at kz rz
  have e0 := kp_cell kz e0
  obtain ⟨u0, u1, u2, u3, u4, u5, u6⟩ := cells_7 rz
  have fz := frozQ rz
  obtain ⟨N, hN⟩ : ∃ N : Int, (np : Int) = N := ⟨_, rfl⟩
  have KZ := Lib.hid kz
  have RZ := Lib.hid rz
  by_cases h1 : i < 0
  · rw [show partQ m i = none by unfold partQ; rw [if_neg (by omega)]]
    have g1 : decide (i < 0) = true := decide_eq_true h1
    clear H hnp kz rz h1 hN
    go_enter Tryz.func25, Tryz.ntmps25
    go_wp2
    refine bodyPost_ret (results_row_tmp9 (p := 4) (u := 5) rfl _ _ w.heap.size 75 _ (0, 0) _ rfl (set_7 (.int .i64 0) (.int .i64 0) (.int .i64 0) (.int .i64 0) (.int .i64 0) (.int .i64 0) (.int .i64 0) RZ.out) Tryz.underlying75 rfl (by kernel_rfl)) rfl ?_
    exact ⟨zeroP, rfl, rfl, set_7_kp KZ.out (Nat.le_refl _) _ _ _ _ _ _ _⟩
  · have g1 : decide (i < 0) = false := decide_eq_false h1
    by_cases h2 : i ≥ N
    · rw [show partQ m i = none by unfold partQ; rw [if_pos (by omega), List.getElem?_eq_none (by omega)]]
      have g2 : decide (i ≥ N) = true := decide_eq_true h2
      clear H hnp kz rz h1 h2
      go_enter Tryz.func25, Tryz.ntmps25
      go_wp2
      refine bodyPost_ret (results_row_tmp9 (p := 4) (u := 5) rfl _ _ w.heap.size 75 _ (0, 0) _ rfl (set_7 (.int .i64 0) (.int .i64 0) (.int .i64 0) (.int .i64 0) (.int .i64 0) (.int .i64 0) (.int .i64 0) RZ.out) Tryz.underlying75 rfl (by kernel_rfl)) rfl ?_
      exact ⟨zeroP, rfl, rfl, set_7_kp KZ.out (Nat.le_refl _) _ _ _ _ _ _ _⟩
    · have g2 : decide (i ≥ N) = false := decide_eq_false h2
      have hj : i.toNat < m.parts.length := by omega
      obtain ⟨gp, ck, evp2, hck, hgpB, hgpl, hfzp, hcp⟩ := own_cellQ (E := paE) H.op rfl hj
      obtain ⟨⟨yn, ys, yr, ⟨y1, y2, y3, y4⟩⟩, hx⟩ : ∃ x, m.parts[i.toNat]'hj = x := ⟨_, rfl⟩
      have hcp2 : ∀ (j : Nat) (u : Value), j < paE.k → (paE.enc (m.parts[i.toNat]'hj))[j]? = some u → w.cell? ⟨gp, i.toNat * paE.k + j, none⟩ = some u := hcp
      rw [hx, show paE.k = 7 from rfl] at hcp2
      have evp2 := congrArg (fun v => match v with | Value.slice a _ _ => a | _ => none) evp2
      dsimp only at evp2
      subst evp2
      have x0 := kp_cell kz (show w.cell? ⟨gp, i.toNat * 7, none⟩ = some (.int .i64 yn) from hcp2 0 _ (by decide) rfl)
      have x1 := kp_cell kz (show w.cell? ⟨gp, i.toNat * 7 + 1, none⟩ = some (.int .i64 ys) from hcp2 1 _ (by decide) rfl)
      have x2 := kp_cell kz (show w.cell? ⟨gp, i.toNat * 7 + 2, none⟩ = some (.int .i64 yr) from hcp2 2 _ (by decide) rfl)
      have x3 := kp_cell kz (show w.cell? ⟨gp, i.toNat * 7 + 3, none⟩ = some (.int .i64 y1) from hcp2 3 _ (by decide) rfl)
      have x4 := kp_cell kz (show w.cell? ⟨gp, i.toNat * 7 + 4, none⟩ = some (.int .i64 y2) from hcp2 4 _ (by decide) rfl)
      have x5 := kp_cell kz (show w.cell? ⟨gp, i.toNat * 7 + 5, none⟩ = some (.int .i64 y3) from hcp2 5 _ (by decide) rfl)
      have x6 := kp_cell kz (show w.cell? ⟨gp, i.toNat * 7 + 6, none⟩ = some (.int .i64 y4) from hcp2 6 _ (by decide) rfl)
      rw [show partQ m i = some ⟨yn, ys, yr, ⟨y1, y2, y3, y4⟩⟩ by unfold partQ; rw [if_pos (by omega), List.getElem?_eq_getElem hj, hx]]
      have i0 : 0 ≤ i := by omega
      have iN : i < N := by omega
      clear H hnp kz rz h1 h2 hj hck hgpB hgpl hfzp hcp hcp2 hx
      go_enter Tryz.func25, Tryz.ntmps25
      go_wp2
      refine bodyPost_ret (results_row_tmp9 (p := 4) (u := 5) rfl _ _ w.heap.size 75 _ (0, 0) _ rfl (set_7 (.int .i64 yn) (.int .i64 ys) (.int .i64 yr) (.int .i64 y1) (.int .i64 y2) (.int .i64 y3) (.int .i64 y4) RZ.out) Tryz.underlying75 rfl (by kernel_rfl)) rfl ?_
      exact ⟨⟨yn, ys, yr, ⟨y1, y2, y3, y4⟩⟩, rfl, rfl, set_7_kp KZ.out (Nat.le_refl _) _ _ _ _ _ _ _⟩
set_option maxRecDepth 100000 in
theorem stParts (H : GS tyL B q m gs va vp w) (p8 : m.parts.length ≤ 8) : Calls Tryz.prog 23 #[.pointer (some ⟨q, 0, none⟩)] w fun r w' => ∃ v, r = .returned v ∧ w'.ownsRow w.heap.size 75 7 v m.parts.length (paE.row m.parts) ∧ Kp w w' := by
  obtain ⟨b0, d0, evp⟩ := H.pForm
  subst evp
  have HC := Lib.hid (cloneP_any _ m.parts (by omega) (own_partG (E := paE) (by decide) H.op))
  obtain ⟨np, hnp⟩ : ∃ x, m.parts.length = x := ⟨_, rfl⟩
  have e0 : w.cell? ⟨q, 3, none⟩ = some (.slice b0 np d0) := by rw [← hnp]; exact cellU (i := 3) H.row rfl
  rw [hnp] at HC ⊢
  clear H p8 hnp
  go_enter Tryz.func23, Tryz.ntmps23
  go_wp2_with (go_at_call 58; (with_reducible refine HC.out.mono ?_); rintro e' w2 ⟨v, rfl, ho, hk⟩)
  go_ret
  exact ⟨_, rfl, ho, hk⟩
theorem stNode (H : GS tyL B q m gs va vp w) : Calls Tryz.prog 34 #[.pointer (some ⟨q, 0, none⟩)] w fun r w' => r = .returned (.int .i64 m.node) ∧ w = w' := by
  have e0 : w.cell? ⟨q, 0, none⟩ = some (.int .i64 m.node) := cellU (i := 0) H.row rfl
  obtain ⟨x, hx⟩ : ∃ x, m.node = x := ⟨_, rfl⟩
  rw [hx] at e0 ⊢
  clear H hx
  go_enter Tryz.func34, Tryz.ntmps34
  go_wp2
  go_ret
  exact ⟨rfl, rfl⟩
theorem stNext (H : GS tyL B q m gs va vp w) : Calls Tryz.prog 35 #[.pointer (some ⟨q, 0, none⟩)] w fun r w' => r = .returned (.int .i64 m.next) ∧ w = w' := by
  have e0 : w.cell? ⟨q, 1, none⟩ = some (.int .i64 m.next) := cellU (i := 1) H.row rfl
  obtain ⟨x, hx⟩ : ∃ x, m.next = x := ⟨_, rfl⟩
  rw [hx] at e0 ⊢
  clear H hx
  go_enter Tryz.func35, Tryz.ntmps35
  go_wp2
  go_ret
  exact ⟨rfl, rfl⟩
end Go.Proofs.YtpemeenfhkgmpaaGreatDoor
