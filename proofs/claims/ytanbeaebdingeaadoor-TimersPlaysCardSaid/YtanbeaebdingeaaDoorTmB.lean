/-
  THE LANDED CLOCK (own work): put, Set, Again.
-/
import Derived.Test.YtanbeaebdingeaaDoorTmA
namespace Go.Proofs.YtanbeaebdingeaaDoor
open Go.RowKit Go.ChangeShapes Go.WideShapes
variable {w0 w w' W w3 : World} {q mb : Nat} {c : CkM}

set_option maxRecDepth 100000 in
theorem lkPut_form {s : ByteArray} {a0 b m : Nat} {n : Int} (hb64 : b < 18446744073709551616) (hm64 : m < 18446744073709551616) (hd : Fl.dl b = false ∨ Fl.dl m = false) {ads : List Addr} (E : EP [0, 3, 5, 7] ads w) : Calls Tryd.prog 40 #[.pointer (some ⟨q, 0, none⟩), .string s, .agg #[.float .f64 a0, .int .i64 n, .float .f64 b, .float .f64 m]] w fun r w' => r = .returned (errI ads 4) ∧ Kp w w' := by
  have k1 := kp_alloc w (.cells #[.float .f64 a0, .int .i64 n, .float .f64 b, .float .f64 m] 71)
  have ec : w.cell? ⟨3, 0, none⟩ = some (errI ads 4) := E.cell 3 (by decide)
  obtain ⟨o4, ho4⟩ := errI_some ads 4 (by decide)
  rw [ho4] at ec ⊢
  have HB := Lib.hid (backoff_form b m n _ (w.alloc (.cells #[.float .f64 a0, .int .i64 n, .float .f64 b, .float .f64 m] 71)) hb64 hm64 hd (kp_cell k1 ec))
  have KW := Lib.hid k1
  have x0 : (w.alloc (.cells #[.float .f64 a0, .int .i64 n, .float .f64 b, .float .f64 m] 71)).cell? ⟨w.heap.size, 0, none⟩ = some (.float .f64 a0) := cell_row (i := 0) (MapKept.heap_alloc w (.cells #[.float .f64 a0, .int .i64 n, .float .f64 b, .float .f64 m] 71)).1 rfl
  have x1 : (w.alloc (.cells #[.float .f64 a0, .int .i64 n, .float .f64 b, .float .f64 m] 71)).cell? ⟨w.heap.size, 1, none⟩ = some (.int .i64 n) := cell_row (i := 1) (MapKept.heap_alloc w (.cells #[.float .f64 a0, .int .i64 n, .float .f64 b, .float .f64 m] 71)).1 rfl
  have x2 : (w.alloc (.cells #[.float .f64 a0, .int .i64 n, .float .f64 b, .float .f64 m] 71)).cell? ⟨w.heap.size, 2, none⟩ = some (.float .f64 b) := cell_row (i := 2) (MapKept.heap_alloc w (.cells #[.float .f64 a0, .int .i64 n, .float .f64 b, .float .f64 m] 71)).1 rfl
  have x3 : (w.alloc (.cells #[.float .f64 a0, .int .i64 n, .float .f64 b, .float .f64 m] 71)).cell? ⟨w.heap.size, 3, none⟩ = some (.float .f64 m) := cell_row (i := 3) (MapKept.heap_alloc w (.cells #[.float .f64 a0, .int .i64 n, .float .f64 b, .float .f64 m] 71)).1 rfl
  clear hd E ec ho4 k1 hb64 hm64
  go_enter Tryd.func40, Tryd.ntmps40
  go_wp2_with (go_at_call 56; (with_reducible refine HB.out.mono ?_); rintro e' w3 ⟨rfl, hk3⟩)
  go_ret
  exact ⟨rfl, Kp.trans KW.out hk3⟩
set_option maxRecDepth 100000 in
theorem lkPut_full (H : Lk w0 q mb c w) {k : List UInt8} (hk : k.length ≤ maxLen) {a0 b m : Nat} {n : Int} (hb : Fl.dl b = true) (hm : Fl.dl m = true) (hn0 : 0 ≤ n) (hn1 : n ≤ 1000000) (h1 : c.has k = false) (h2 : 63 < c.ts.length) {ads : List Addr} (E : EP [0, 3, 5, 7] ads w) : Calls Tryd.prog 40 #[.pointer (some ⟨q, 0, none⟩), encStr k, .agg #[.float .f64 a0, .int .i64 n, .float .f64 b, .float .f64 m]] w fun r w' => r = .returned (errI ads 6) ∧ Kp w w' := by
  have k1 := kp_alloc w (.cells #[.float .f64 a0, .int .i64 n, .float .f64 b, .float .f64 m] 71)
  have hrr := add_le H.ok.now (backR_le b n.toNat m hm)
  obtain ⟨d, hdd⟩ : ∃ d, Fl.backR b n.toNat m = d := ⟨_, rfl⟩
  have hdl : d ≤ 9218868437227405312 := by rw [← hdd]; exact backR_le b n.toNat m hm
  rw [hdd] at hrr
  obtain ⟨r, hr⟩ : ∃ r, Fl.addR c.now d = r := ⟨_, rfl⟩
  rw [hr] at hrr
  have hb0 : ∀ w1, Calls Tryd.prog 56 #[.float .f64 b, .int .i64 n, .float .f64 m] w1 fun e w' => e = .returned (.tuple #[.float .f64 d, .nilIface]) ∧ w1 = w' := fun w1 => by
    have := backoff_ok b m n.toNat w1 hb hm (by omega)
    rw [Int.toNat_of_nonneg hn0, hdd] at this
    exact this
  have HB := Lib.hid hb0
  have HL := Lib.hid (fun w1 : World => later_ok c.now d r w1 (Fl.dl_of_le H.ok.now).1 (Fl.dl_of_le hdl).1 hrr.1)
  have k2 := kp_alloc w (.cells #[.float .f64 r, .int .i64 n, .float .f64 b, .float .f64 m] 71)
  have H2 := H.kp k2
  have e0 : (w.alloc (.cells #[.float .f64 a0, .int .i64 n, .float .f64 b, .float .f64 m] 71)).cell? ⟨q, 0, none⟩ = some (.float .f64 c.now) := cell_row (i := 0) (kp_row k1 H.row) rfl
  have e1 : (w.alloc (.cells #[.float .f64 r, .int .i64 n, .float .f64 b, .float .f64 m] 71)).cell? ⟨q, 1, none⟩ = some (.map (some mb)) := cell_row (i := 1) H2.row rfl
  have hl := H2.look hk
  obtain ⟨⟨kk, ya, yn, yb, ym⟩, ht⟩ : ∃ t, c.getT k = t := ⟨_, rfl⟩
  have HKK := Lib.hid hk
  obtain ⟨s, hs⟩ : ∃ s, (⟨k.toArray⟩ : ByteArray) = s := ⟨_, rfl⟩
  unfold encStr at hl ⊢
  rw [ht, hs] at hl
  rw [hs]
  unfold Tm.v at hl
  dsimp only at hl
  have k3 := kp_alloc (w.alloc (.cells #[.float .f64 r, .int .i64 n, .float .f64 b, .float .f64 m] 71)) (.cells #[.float .f64 ya, .int .i64 yn, .float .f64 yb, .float .f64 ym] 71)
  have K3 := Lib.hid (Kp.trans k2 k3)
  have H3 := H2.kp k3
  have e2 : ((w.alloc (.cells #[.float .f64 r, .int .i64 n, .float .f64 b, .float .f64 m] 71)).alloc (.cells #[.float .f64 ya, .int .i64 yn, .float .f64 yb, .float .f64 ym] 71)).cell? ⟨q, 1, none⟩ = some (.map (some mb)) := cell_row (i := 1) H3.row rfl
  have hln := H3.len
  obtain ⟨nt, hnt⟩ : ∃ n : Int, (c.ts.length : Int) = n := ⟨_, rfl⟩
  simp only [hnt] at hln
  have hsf := store_fl
  rw [h1] at hl
  have ec : ((w.alloc (.cells #[.float .f64 r, .int .i64 n, .float .f64 b, .float .f64 m] 71)).alloc (.cells #[.float .f64 ya, .int .i64 yn, .float .f64 yb, .float .f64 ym] 71)).cell? ⟨5, 0, none⟩ = some (errI ads 6) := kp_cell K3.out (E.cell 5 (by decide))
  obtain ⟨x6, hx6⟩ : ∃ x, errI ads 6 = x := ⟨_, rfl⟩
  rw [hx6] at ec ⊢
  have g1 : decide (nt ≥ 64) = true := decide_eq_true (by omega)
  have x0 : (w.alloc (.cells #[.float .f64 a0, .int .i64 n, .float .f64 b, .float .f64 m] 71)).cell? ⟨w.heap.size, 0, none⟩ = some (.float .f64 a0) := cell_row (i := 0) (MapKept.heap_alloc w (.cells #[.float .f64 a0, .int .i64 n, .float .f64 b, .float .f64 m] 71)).1 rfl
  have x1 : (w.alloc (.cells #[.float .f64 a0, .int .i64 n, .float .f64 b, .float .f64 m] 71)).cell? ⟨w.heap.size, 1, none⟩ = some (.int .i64 n) := cell_row (i := 1) (MapKept.heap_alloc w (.cells #[.float .f64 a0, .int .i64 n, .float .f64 b, .float .f64 m] 71)).1 rfl
  have x2 : (w.alloc (.cells #[.float .f64 a0, .int .i64 n, .float .f64 b, .float .f64 m] 71)).cell? ⟨w.heap.size, 2, none⟩ = some (.float .f64 b) := cell_row (i := 2) (MapKept.heap_alloc w (.cells #[.float .f64 a0, .int .i64 n, .float .f64 b, .float .f64 m] 71)).1 rfl
  have x3 : (w.alloc (.cells #[.float .f64 a0, .int .i64 n, .float .f64 b, .float .f64 m] 71)).cell? ⟨w.heap.size, 3, none⟩ = some (.float .f64 m) := cell_row (i := 3) (MapKept.heap_alloc w (.cells #[.float .f64 a0, .int .i64 n, .float .f64 b, .float .f64 m] 71)).1 rfl
  clear H H2 H3 ht hs hk k1 k2 k3 hdd hr hrr hdl hb hm hn0 hn1 hb0 h1 h2 E hx6 hnt
  go_enter Tryd.func40, Tryd.ntmps40
  go_wp2_with (first | (go_at_call 56; (with_reducible refine (HB.out _).mono ?_); rintro e' w3 ⟨rfl, rfl⟩) | (go_at_call 42; (with_reducible refine (HL.out _).mono ?_); rintro e' w4 ⟨rfl, rfl⟩))
  go_ret
  exact ⟨rfl, K3.out⟩
set_option maxRecDepth 100000 in
theorem lkPut_ok (H : Lk w0 q mb c w) {k : List UInt8} (hk : k.length ≤ maxLen) {a0 b m : Nat} {n : Int} (hb : Fl.dl b = true) (hm : Fl.dl m = true) (hn0 : 0 ≤ n) (hn1 : n ≤ 1000000) (hf : c.has k = true ∨ c.ts.length ≤ 63) : Calls Tryd.prog 40 #[.pointer (some ⟨q, 0, none⟩), encStr k, .agg #[.float .f64 a0, .int .i64 n, .float .f64 b, .float .f64 m]] w fun r w' => r = .returned .nilIface ∧ Lk w0 q mb (c.put ⟨k, Fl.addR c.now (Fl.backR b n.toNat m), n, b, m⟩) w' ∧ Asd (Ol q mb) (Ol q mb) w w' := by
  have k1 := kp_alloc w (.cells #[.float .f64 a0, .int .i64 n, .float .f64 b, .float .f64 m] 71)
  have hrr := add_le H.ok.now (backR_le b n.toNat m hm)
  obtain ⟨d, hdd⟩ : ∃ d, Fl.backR b n.toNat m = d := ⟨_, rfl⟩
  have hdl : d ≤ 9218868437227405312 := by rw [← hdd]; exact backR_le b n.toNat m hm
  rw [hdd] at hrr
  obtain ⟨r, hr⟩ : ∃ r, Fl.addR c.now d = r := ⟨_, rfl⟩
  rw [hr] at hrr
  have hb0 : ∀ w1, Calls Tryd.prog 56 #[.float .f64 b, .int .i64 n, .float .f64 m] w1 fun e w' => e = .returned (.tuple #[.float .f64 d, .nilIface]) ∧ w1 = w' := fun w1 => by
    have := backoff_ok b m n.toNat w1 hb hm (by omega)
    rw [Int.toNat_of_nonneg hn0, hdd] at this
    exact this
  have HB := Lib.hid hb0
  have HL := Lib.hid (fun w1 : World => later_ok c.now d r w1 (Fl.dl_of_le H.ok.now).1 (Fl.dl_of_le hdl).1 hrr.1)
  have k2 := kp_alloc w (.cells #[.float .f64 r, .int .i64 n, .float .f64 b, .float .f64 m] 71)
  have H2 := H.kp k2
  have e0 : (w.alloc (.cells #[.float .f64 a0, .int .i64 n, .float .f64 b, .float .f64 m] 71)).cell? ⟨q, 0, none⟩ = some (.float .f64 c.now) := cell_row (i := 0) (kp_row k1 H.row) rfl
  have e1 : (w.alloc (.cells #[.float .f64 r, .int .i64 n, .float .f64 b, .float .f64 m] 71)).cell? ⟨q, 1, none⟩ = some (.map (some mb)) := cell_row (i := 1) H2.row rfl
  have hl := H2.look hk
  obtain ⟨⟨kk, ya, yn, yb, ym⟩, ht⟩ : ∃ t, c.getT k = t := ⟨_, rfl⟩
  have HKK := Lib.hid hk
  obtain ⟨s, hs⟩ : ∃ s, (⟨k.toArray⟩ : ByteArray) = s := ⟨_, rfl⟩
  unfold encStr at hl ⊢
  rw [ht, hs] at hl
  rw [hs]
  unfold Tm.v at hl
  dsimp only at hl
  have k3 := kp_alloc (w.alloc (.cells #[.float .f64 r, .int .i64 n, .float .f64 b, .float .f64 m] 71)) (.cells #[.float .f64 ya, .int .i64 yn, .float .f64 yb, .float .f64 ym] 71)
  have K3 := Lib.hid (Kp.trans k2 k3)
  have H3 := H2.kp k3
  have e2 : ((w.alloc (.cells #[.float .f64 r, .int .i64 n, .float .f64 b, .float .f64 m] 71)).alloc (.cells #[.float .f64 ya, .int .i64 yn, .float .f64 yb, .float .f64 ym] 71)).cell? ⟨q, 1, none⟩ = some (.map (some mb)) := cell_row (i := 1) H3.row rfl
  have hln := H3.len
  obtain ⟨nt, hnt⟩ : ∃ n : Int, (c.ts.length : Int) = n := ⟨_, rfl⟩
  simp only [hnt] at hln
  have hsf := store_fl
  rw [hdd, hr]
  have K4 := Lib.hid (kp_drewR K3.out)
  obtain ⟨wM, hM, hL, hA⟩ := (H.kp K4.out).put (t := ⟨k, r, n, b, m⟩) ⟨hrr.2.1, hn0, hn1, hb, hm, hk⟩ hf
  unfold encStr Tm.v at hM
  dsimp only at hM
  rw [hs] at hM
  have FIN := Lib.hid (And.intro hL ((Asd.of_kp (Ol q mb) K4.out).trans hA))
  have x0 : (w.alloc (.cells #[.float .f64 a0, .int .i64 n, .float .f64 b, .float .f64 m] 71)).cell? ⟨w.heap.size, 0, none⟩ = some (.float .f64 a0) := cell_row (i := 0) (MapKept.heap_alloc w (.cells #[.float .f64 a0, .int .i64 n, .float .f64 b, .float .f64 m] 71)).1 rfl
  have x1 : (w.alloc (.cells #[.float .f64 a0, .int .i64 n, .float .f64 b, .float .f64 m] 71)).cell? ⟨w.heap.size, 1, none⟩ = some (.int .i64 n) := cell_row (i := 1) (MapKept.heap_alloc w (.cells #[.float .f64 a0, .int .i64 n, .float .f64 b, .float .f64 m] 71)).1 rfl
  have x2 : (w.alloc (.cells #[.float .f64 a0, .int .i64 n, .float .f64 b, .float .f64 m] 71)).cell? ⟨w.heap.size, 2, none⟩ = some (.float .f64 b) := cell_row (i := 2) (MapKept.heap_alloc w (.cells #[.float .f64 a0, .int .i64 n, .float .f64 b, .float .f64 m] 71)).1 rfl
  have x3 : (w.alloc (.cells #[.float .f64 a0, .int .i64 n, .float .f64 b, .float .f64 m] 71)).cell? ⟨w.heap.size, 3, none⟩ = some (.float .f64 m) := cell_row (i := 3) (MapKept.heap_alloc w (.cells #[.float .f64 a0, .int .i64 n, .float .f64 b, .float .f64 m] 71)).1 rfl
  have y0 : ((w.alloc (.cells #[.float .f64 r, .int .i64 n, .float .f64 b, .float .f64 m] 71)).alloc (.cells #[.float .f64 ya, .int .i64 yn, .float .f64 yb, .float .f64 ym] 71)).cell? ⟨w.heap.size, 0, none⟩ = some (.float .f64 r) := kp_cell k3 (cell_row (i := 0) (MapKept.heap_alloc w (.cells #[.float .f64 r, .int .i64 n, .float .f64 b, .float .f64 m] 71)).1 rfl)
  have y1 : ((w.alloc (.cells #[.float .f64 r, .int .i64 n, .float .f64 b, .float .f64 m] 71)).alloc (.cells #[.float .f64 ya, .int .i64 yn, .float .f64 yb, .float .f64 ym] 71)).cell? ⟨w.heap.size, 1, none⟩ = some (.int .i64 n) := kp_cell k3 (cell_row (i := 1) (MapKept.heap_alloc w (.cells #[.float .f64 r, .int .i64 n, .float .f64 b, .float .f64 m] 71)).1 rfl)
  have y2 : ((w.alloc (.cells #[.float .f64 r, .int .i64 n, .float .f64 b, .float .f64 m] 71)).alloc (.cells #[.float .f64 ya, .int .i64 yn, .float .f64 yb, .float .f64 ym] 71)).cell? ⟨w.heap.size, 2, none⟩ = some (.float .f64 b) := kp_cell k3 (cell_row (i := 2) (MapKept.heap_alloc w (.cells #[.float .f64 r, .int .i64 n, .float .f64 b, .float .f64 m] 71)).1 rfl)
  have y3 : ((w.alloc (.cells #[.float .f64 r, .int .i64 n, .float .f64 b, .float .f64 m] 71)).alloc (.cells #[.float .f64 ya, .int .i64 yn, .float .f64 yb, .float .f64 ym] 71)).cell? ⟨w.heap.size, 3, none⟩ = some (.float .f64 m) := kp_cell k3 (cell_row (i := 3) (MapKept.heap_alloc w (.cells #[.float .f64 r, .int .i64 n, .float .f64 b, .float .f64 m] 71)).1 rfl)
  cases h1 : c.has k with
  | true =>
    rw [h1] at hl
    clear H H2 H3 ht hs hk k1 k2 k3 hdd hr hrr hdl hb hm hn0 hn1 hb0 hnt hL hA h1 hf
    go_enter Tryd.func40, Tryd.ntmps40
    go_wp2_with (first | (go_at_call 56; (with_reducible refine (HB.out _).mono ?_); rintro e' w3 ⟨rfl, rfl⟩) | (go_at_call 42; (with_reducible refine (HL.out _).mono ?_); rintro e' w4 ⟨rfl, rfl⟩))
    go_region
    all_goals go_wp2
    all_goals go_ret
    all_goals exact ⟨rfl, FIN.out⟩
  | false =>
    rw [h1] at hl
    have g1 : decide (nt ≥ 64) = false := decide_eq_false (by rcases hf with q | q; · rw [h1] at q; cases q
                                                              · omega)
    clear H H2 H3 ht hs hk k1 k2 k3 hdd hr hrr hdl hb hm hn0 hn1 hb0 hnt hL hA h1 hf
    go_enter Tryd.func40, Tryd.ntmps40
    go_wp2_with (first | (go_at_call 56; (with_reducible refine (HB.out _).mono ?_); rintro e' w3 ⟨rfl, rfl⟩) | (go_at_call 42; (with_reducible refine (HL.out _).mono ?_); rintro e' w4 ⟨rfl, rfl⟩))
    go_region
    all_goals go_wp2
    all_goals go_ret
    all_goals exact ⟨rfl, FIN.out⟩
set_option maxRecDepth 100000 in
theorem lkSet_any (H : Lk w0 q mb c w) {k : List UInt8} (hk : k.length ≤ maxLen) {b m : Nat} (hb64 : b < 18446744073709551616) (hm64 : m < 18446744073709551616) {ads : List Addr} (E : EP [0, 3, 5, 7] ads w) : Calls Tryd.prog 21 #[.pointer (some ⟨q, 0, none⟩), encStr k, .float .f64 b, .float .f64 m] w fun r w' => r = .returned (errI ads (c.set k b m).1) ∧ Lk w0 q mb (c.set k b m).2 w' ∧ Asd (Ol q mb) (Ol q mb) w w' := by
  unfold CkM.set
  cases hd : Fl.dl b && Fl.dl m with
  | false =>
    rw [if_neg (by decide)]
    have hd' : Fl.dl b = false ∨ Fl.dl m = false := by
      rw [Bool.and_eq_false_iff] at hd; exact hd
    have HP := Lib.hid (lkPut_form (q := q) (s := ⟨k.toArray⟩) (a0 := 0) (n := 0) hb64 hm64 hd' E)
    have HH := Lib.hid H
    obtain ⟨x, hx⟩ : ∃ x, errI ads 4 = x := ⟨_, rfl⟩
    dsimp only
    rw [hx] at HP ⊢
    clear H hk hb64 hm64 E hd hd' hx
    go_enter Tryd.func21, Tryd.ntmps21
    go_wp2_with (go_at_call 40; (with_reducible refine HP.out.mono ?_); rintro e' w3 ⟨rfl, hk3⟩)
    go_ret
    exact ⟨rfl, HH.out.kp hk3, Asd.of_kp _ hk3⟩
  | true =>
    rw [if_pos rfl]
    rw [Bool.and_eq_true] at hd
    by_cases hf : (!c.has k && decide (63 < c.ts.length)) = true
    · rw [if_pos hf]
      rw [Bool.and_eq_true] at hf
      have HP := Lib.hid (lkPut_full H hk (a0 := 0) (n := 0) hd.1 hd.2 (Int.le_refl _) (by omega) (by simpa using hf.1) (of_decide_eq_true hf.2) E)
      have HH := Lib.hid H
      obtain ⟨x, hx⟩ : ∃ x, errI ads 6 = x := ⟨_, rfl⟩
      dsimp only
      rw [hx] at HP ⊢
      clear H hk hb64 hm64 E hd hf hx
      go_enter Tryd.func21, Tryd.ntmps21
      go_wp2_with (go_at_call 40; (with_reducible refine HP.out.mono ?_); rintro e' w3 ⟨rfl, hk3⟩)
      go_ret
      exact ⟨rfl, HH.out.kp hk3, Asd.of_kp _ hk3⟩
    · rw [if_neg hf]
      have hf' : c.has k = true ∨ c.ts.length ≤ 63 := by
        cases hh : c.has k with
        | true => exact .inl rfl
        | false => rw [hh] at hf; simp at hf; exact .inr hf
      have HP := Lib.hid (lkPut_ok H hk (a0 := 0) (n := 0) hd.1 hd.2 (Int.le_refl _) (by omega) hf')
      dsimp only
      clear H hk hb64 hm64 E hd hf hf'
      go_enter Tryd.func21, Tryd.ntmps21
      go_wp2_with (go_at_call 40; (with_reducible refine HP.out.mono ?_); rintro e' w3 ⟨rfl, hq3, ha3⟩)
      go_ret
      exact ⟨rfl, hq3, ha3⟩
set_option maxRecDepth 100000 in
theorem lkAgain_none (H : Lk w0 q mb c w) {k : List UInt8} (hk : k.length ≤ maxLen) (h0 : c.look k = none) {ads : List Addr} (E : EP [0, 3, 5, 7] ads w) : Calls Tryd.prog 24 #[.pointer (some ⟨q, 0, none⟩), encStr k] w fun r w' => r = .returned (errI ads 8) ∧ Kp w w' := by
  have e0 : w.cell? ⟨q, 1, none⟩ = some (.map (some mb)) := cell_row (i := 1) H.row rfl
  have hl := H.look hk
  have his : c.has k = false := by unfold CkM.has; rw [h0]; rfl
  obtain ⟨⟨kk, a, n, b, m⟩, ht⟩ : ∃ t, c.getT k = t := ⟨_, rfl⟩
  obtain ⟨s, hs⟩ : ∃ s, (⟨k.toArray⟩ : ByteArray) = s := ⟨_, rfl⟩
  unfold encStr at hl ⊢
  rw [ht, his, hs] at hl
  rw [hs]
  unfold Tm.v at hl
  dsimp only at hl
  have k1 := kp_alloc w (.cells #[.float .f64 a, .int .i64 n, .float .f64 b, .float .f64 m] 71)
  have KW := Lib.hid k1
  have ec : (w.alloc (.cells #[.float .f64 a, .int .i64 n, .float .f64 b, .float .f64 m] 71)).cell? ⟨7, 0, none⟩ = some (errI ads 8) := kp_cell k1 (E.cell 7 (by decide))
  obtain ⟨x, hx⟩ : ∃ x, errI ads 8 = x := ⟨_, rfl⟩
  rw [hx] at ec ⊢
  have hsf := store_fl
  clear H ht his hs hk k1 h0 E hx
  go_enter Tryd.func24, Tryd.ntmps24
  go_wp2
  go_ret
  exact ⟨rfl, KW.out⟩
set_option maxRecDepth 100000 in
theorem lkAgain_some (H : Lk w0 q mb c w) {k : List UInt8} (hk : k.length ≤ maxLen) {t : Tm} (h0 : c.look k = some t) : Calls Tryd.prog 24 #[.pointer (some ⟨q, 0, none⟩), encStr k] w fun r w' => r = .returned .nilIface ∧ Lk w0 q mb (c.put (c.againT t)) w' ∧ Asd (Ol q mb) (Ol q mb) w w' := by
  have e0 : w.cell? ⟨q, 1, none⟩ = some (.map (some mb)) := cell_row (i := 1) H.row rfl
  have hl := H.look hk
  have his : c.has k = true := by unfold CkM.has; rw [h0]; rfl
  have tok := H.ok.each t (look_some h0).1
  have tkk := (look_some h0).2
  rw [getT_some h0] at hl
  obtain ⟨kk, a, n, b, m⟩ := t
  obtain rfl : kk = k := tkk
  have hn0 : 0 ≤ n := tok.n0
  have hn1 : n ≤ 1000000 := tok.n1
  have mr := more_rng hn0
  unfold CkM.againT
  dsimp only
  obtain ⟨n1, hm1⟩ : ∃ x, more n = x := ⟨_, rfl⟩
  rw [hm1] at mr ⊢
  have hmin : (if 1000000 < n + 1 then 1000000 else n + 1) = n1 := by rw [← hm1]; unfold more; split <;> omega
  have k1 := kp_alloc w (.cells #[.float .f64 a, .int .i64 n1, .float .f64 b, .float .f64 m] 71)
  have HP := Lib.hid (lkPut_ok (H.kp k1) hk (a0 := a) (b := b) (m := m) (n := n1) tok.b tok.m mr.1 mr.2 (.inl his))
  obtain ⟨s, hs⟩ : ∃ s, (⟨kk.toArray⟩ : ByteArray) = s := ⟨_, rfl⟩
  unfold encStr at hl HP ⊢
  rw [his, hs] at hl
  rw [hs] at HP ⊢
  unfold Tm.v at hl
  dsimp only at hl
  have KW := Lib.hid k1
  have hw1 : IntKind.i64.wrap (n + 1) = n + 1 := IntWalk.i64_in _ (by omega)
  have hsf := store_fl
  have x0 : (w.alloc (.cells #[.float .f64 a, .int .i64 n, .float .f64 b, .float .f64 m] 71)).cell? ⟨w.heap.size, 0, none⟩ = some (.float .f64 a) := cell_row (i := 0) (MapKept.heap_alloc w (.cells #[.float .f64 a, .int .i64 n, .float .f64 b, .float .f64 m] 71)).1 rfl
  have x1 : (w.alloc (.cells #[.float .f64 a, .int .i64 n, .float .f64 b, .float .f64 m] 71)).cell? ⟨w.heap.size, 1, none⟩ = some (.int .i64 n) := cell_row (i := 1) (MapKept.heap_alloc w (.cells #[.float .f64 a, .int .i64 n, .float .f64 b, .float .f64 m] 71)).1 rfl
  have x2 : (w.alloc (.cells #[.float .f64 a, .int .i64 n, .float .f64 b, .float .f64 m] 71)).cell? ⟨w.heap.size, 2, none⟩ = some (.float .f64 b) := cell_row (i := 2) (MapKept.heap_alloc w (.cells #[.float .f64 a, .int .i64 n, .float .f64 b, .float .f64 m] 71)).1 rfl
  have x3 : (w.alloc (.cells #[.float .f64 a, .int .i64 n, .float .f64 b, .float .f64 m] 71)).cell? ⟨w.heap.size, 3, none⟩ = some (.float .f64 m) := cell_row (i := 3) (MapKept.heap_alloc w (.cells #[.float .f64 a, .int .i64 n, .float .f64 b, .float .f64 m] 71)).1 rfl
  have y0 : (w.alloc (.cells #[.float .f64 a, .int .i64 n1, .float .f64 b, .float .f64 m] 71)).cell? ⟨w.heap.size, 0, none⟩ = some (.float .f64 a) := cell_row (i := 0) (MapKept.heap_alloc w (.cells #[.float .f64 a, .int .i64 n1, .float .f64 b, .float .f64 m] 71)).1 rfl
  have y1 : (w.alloc (.cells #[.float .f64 a, .int .i64 n1, .float .f64 b, .float .f64 m] 71)).cell? ⟨w.heap.size, 1, none⟩ = some (.int .i64 n1) := cell_row (i := 1) (MapKept.heap_alloc w (.cells #[.float .f64 a, .int .i64 n1, .float .f64 b, .float .f64 m] 71)).1 rfl
  have y2 : (w.alloc (.cells #[.float .f64 a, .int .i64 n1, .float .f64 b, .float .f64 m] 71)).cell? ⟨w.heap.size, 2, none⟩ = some (.float .f64 b) := cell_row (i := 2) (MapKept.heap_alloc w (.cells #[.float .f64 a, .int .i64 n1, .float .f64 b, .float .f64 m] 71)).1 rfl
  have y3 : (w.alloc (.cells #[.float .f64 a, .int .i64 n1, .float .f64 b, .float .f64 m] 71)).cell? ⟨w.heap.size, 3, none⟩ = some (.float .f64 m) := cell_row (i := 3) (MapKept.heap_alloc w (.cells #[.float .f64 a, .int .i64 n1, .float .f64 b, .float .f64 m] 71)).1 rfl
  clear H his hs hk k1 h0 tok mr hm1
  go_enter Tryd.func24, Tryd.ntmps24
  go_wp2_with (go_at_call 40; (with_reducible refine HP.out.mono ?_); rintro e' w3 ⟨rfl, hq3, ha3⟩)
  go_ret
  exact ⟨rfl, hq3, (Asd.of_kp _ KW.out).trans ha3⟩
theorem lkAgain_any (H : Lk w0 q mb c w) {k : List UInt8} (hk : k.length ≤ maxLen) {ads : List Addr} (E : EP [0, 3, 5, 7] ads w) : Calls Tryd.prog 24 #[.pointer (some ⟨q, 0, none⟩), encStr k] w fun r w' => r = .returned (errI ads (c.again k).1) ∧ Lk w0 q mb (c.again k).2 w' ∧ Asd (Ol q mb) (Ol q mb) w w' := by
  unfold CkM.again
  cases h0 : c.look k with
  | none => exact (lkAgain_none H hk h0 E).mono fun r w' ⟨q1, q2⟩ => ⟨q1, H.kp q2, Asd.of_kp _ q2⟩
  | some t => exact lkAgain_some H hk h0
end Go.Proofs.YtanbeaebdingeaaDoor
