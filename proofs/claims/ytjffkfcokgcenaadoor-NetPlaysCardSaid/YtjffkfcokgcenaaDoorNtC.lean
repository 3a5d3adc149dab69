/-
  A NET's CODE KEEPS ITS CONTRACTS (own work): slices.Delete; pull, Take.
-/
import Derived.Test.YtjffkfcokgcenaaDoorNtB
import Derived.Laws.CopyRow
import Derived.Laws.CopyOwn
namespace Go.Proofs.YtjffkfcokgcenaaDoor
open Go.RowKit Go.ChangeShapes Go.WideShapes
variable {w0 w w' W w3 : World} {q mb : Nat} {m : NetM} {v v' : Value} {ps ps' : List LtP} {ads : List Addr}

theorem grown_trans12 {a b c : World} {r : Option Nat} (h : a.grownBy b r) (k : b.grownBy c r) : a.grownBy c r :=
  ⟨k.os.trans h.os, k.tape.trans h.tape, k.output.trans h.output, Nat.le_trans h.size k.size, fun i hi hn => (k.block i (Nat.lt_of_lt_of_le hi h.size) hn).trans (h.block i hi hn)⟩
theorem grown_setRow (w : World) (g : Nat) (cs : Array Value) : w.grownBy (w.setRow g cs) (some g) :=
  ⟨rfl, rfl, rfl, by simp [World.setRow], fun i _ hn => setRow_other w g i cs (fun e => hn (by rw [e]))⟩
theorem grown_drew {w : World} {r : Option Nat} : w.grownBy w.drew r := ⟨rfl, rfl, rfl, Nat.le_refl _, fun _ _ _ => rfl⟩
/-- a slice cut on both sides -/
theorem sl_midG {P : Program} {T e : TypeId} {k b n cp lo hi : Nat} {ll hh : Int} (hu : P.underlying T = some (.slice e)) (hz : ∃ i0, P.info? e = some i0 ∧ i0.size = k) (hl : (lo : Int) = ll) (hh' : (hi : Int) = hh) (h1 : lo ≤ hi) (h2 : hi ≤ cp) (h3 : lo < cp) (w : World) :
    (Instr.slice T (.slice (some ⟨b, 0, none⟩) n cp) (some (.int .i64 ll)) (some (.int .i64 hh)) none).run P w = .ok (.slice (some ⟨b, lo * k, none⟩) (hi - lo) (cp - lo)) w := by
  have he : P.elem T = e := by simp [Program.elem, hu]
  have hs : (Go.sizeOf e).run P w = .ok k w := by
    obtain ⟨i0, h1, h2⟩ := hz
    simp [sizeOf, typeInfo, h1, h2]
  rw [run_slice_lh w T _ _ _ (by rw [hu, he]) .i64 .i64 _ _ (by omega) (by omega) (by omega), he, hs]
  have e1 : ll.toNat = lo := by omega
  have e2 : hh.toNat = hi := by omega
  have e3 : ¬ cp = lo := by omega
  simp [Result.andThen, sliced, Addr.add, e1, e2, e3]
  exact fun h => h.symm
theorem sl_bndG {P : Program} {T e : TypeId} {k n cp lo hi : Nat} {a : Option Addr} {ll hh nn : Int} (hu : P.underlying T = some (.slice e)) (hz : ∃ i0, P.info? e = some i0 ∧ i0.size = k) (hl : (lo : Int) = ll) (hh' : (hi : Int) = hh) (hn : (n : Int) = nn) (h1 : lo ≤ hi) (h2 : hi ≤ n) (h3 : n ≤ cp) :
    ∃ r, ∀ w, (Instr.slice T (.slice a n cp) (some (.int .i64 ll)) (some (.int .i64 hh)) (some (.int .i64 nn))).run P w = .ok r w := by
  have he : P.elem T = e := by simp [Program.elem, hu]
  have hs : ∀ w, (Go.sizeOf e).run P w = .ok k w := fun w => by
    obtain ⟨i0, h1, h2⟩ := hz
    simp [sizeOf, typeInfo, h1, h2]
  refine ⟨sliced a ll.toNat hh.toNat nn.toNat k, fun w => ?_⟩
  rw [run_slice_lhm w T _ _ _ (by rw [hu, he]) .i64 .i64 .i64 _ _ _ (by omega) (by omega) (by omega) (by omega), he, hs]
  rfl
theorem zero_lt (w : World) : (zeroValue 45).run Tryd.prog w = .ok (.agg #[.int .i64 0, .int .i64 0, .slice none 0 0]) w := by kernel_rfl
def z3L : List Value := [.int .i64 0, .int .i64 0, .slice none 0 0]
/-- a letter's cells are laid zero -/
theorem run_clear_lt (w : World) (ty : TypeId) (g i c : Nat) (cur : Array Value) (hg : w.heap[g]? = some (.cells cur 45 (0, 0))) (hl : i * 3 + 3 ≤ cur.size) :
    (Builtin.clear_ #[42] ty #[.slice (some ⟨g, i * 3, none⟩) 1 c]).run Tryd.prog w = .ok (.tuple #[]) (w.setRow g (cur.toList.take (i * 3) ++ z3L ++ cur.toList.drop (i * 3 + 3)).toArray) := by
  have hz : (Builtin.zeroCells ((.agg #[.int .i64 0, .int .i64 0, .slice none 0 0] : Value)).cells 1).toList = z3L := by kernel_rfl
  have hst := run_storeCells_at Tryd.prog g (i * 3) 45 z3L 0 cur w hg (by simpa [z3L] using hl) (by simp [z3L, Value.oneCell'])
  rw [Nat.add_zero] at hst
  simp [Builtin.clear_, run_underlying Tryd.underlying42, hz, hst, Result.andThen]
  rfl
set_option maxRecDepth 100000 in
set_option maxHeartbeats 2000000 in
theorem delete_any {B bv n cp i : Nat} {ii jj : Int} (hown : w.ownsRow B 45 3 (.slice (some ⟨bv, 0, none⟩) n cp) n (pE.row ps)) (hi : i < n) (hn : n ≤ 1000) (hii : (i : Int) = ii) (hjj : ii + 1 = jj) : Calls Tryd.prog 46 #[.slice (some ⟨bv, 0, none⟩) n cp, .int .i64 ii, .int .i64 jj] w fun r w' => r = .returned (.slice (some ⟨bv, 0, none⟩) (n - 1) cp) ∧ w'.ownsRow B 45 3 (.slice (some ⟨bv, 0, none⟩) (n - 1) cp) (n - 1) (pE.row (ps.take i ++ ps.drop (i + 1))) ∧ w.grownBy w' (some bv) := by
  obtain ⟨i0, hi0, -, hi2, -⟩ := info_lt
  have hI := And.intro hi0 hi2
  rcases hown.2 with ⟨h, _⟩ | ⟨g', cap', cur, hv, hb, hh, hnc, hcm, hcs, ht⟩
  · cases h
  injection hv with hv1 hv2 hv3
  injection hv1 with hv1
  injection hv1 with hv1
  subst hv1 hv3
  have hpl : ps.length = n := own_lenG (E := pE) (by decide) hown
  obtain ⟨nn, hnn⟩ : ∃ x : Int, (n : Int) = x := ⟨_, rfl⟩
  obtain ⟨rb, sb⟩ := sl_bndG (P := Tryd.prog) (a := some ⟨bv, 0, none⟩) Tryd.underlying42 ⟨i0, hi0, hi2⟩ hii (show ((i + 1 : Nat) : Int) = jj by omega) hnn (Nat.le_succ _) hi hnc
  have sh := fun w => sl_headG (P := Tryd.prog) (b := bv) Tryd.underlying42 ⟨i0, hi0, hi2⟩ hii (Nat.le_of_lt hi) hnc w
  have st := fun w => sl_tailG (P := Tryd.prog) (b := bv) (cp := cp) (i := i + 1) (ii := jj) (n := n) Tryd.underlying42 ⟨i0, hi0, hi2⟩ (by omega) (by omega) w
  obtain ⟨at2, hat⟩ : ∃ x : Nat, (if cp = i + 1 then 0 else (i + 1) * 3) = x := ⟨_, rfl⟩
  rw [hat] at st
  have p2 := own_dropG (E := pE) (by decide) hown (i := i + 1) (by omega) ⟨bv, at2, none⟩ (fun q => by rw [← hat, if_neg (by omega)]; rfl) (cp - (i + 1))
  obtain ⟨u2, hu2⟩ : ∃ x, n - (i + 1) = x := ⟨_, rfl⟩
  obtain ⟨c2, hc2⟩ : ∃ x, cp - (i + 1) = x := ⟨_, rfl⟩
  rw [hu2, hc2] at st p2
  obtain ⟨n1, hn1⟩ : ∃ x, n - 1 = x := ⟨_, rfl⟩
  rw [hn1]
  obtain ⟨nn1, hnn1⟩ : ∃ x : Int, (n1 : Int) = x := ⟨_, rfl⟩
  have sm := fun w => sl_midG (P := Tryd.prog) (b := bv) (n := n1) (cp := cp) (lo := n1) (hi := n) (ll := nn1) (hh := nn) Tryd.underlying42 ⟨i0, hi0, hi2⟩ hnn1 hnn (by omega) hnc (by omega) w
  rw [show n - n1 = 1 by omega] at sm
  obtain ⟨XD, hXD⟩ : ∃ Y, w.drew = Y := ⟨_, rfl⟩
  have gd : w.grownBy XD (some bv) := by rw [← hXD]; exact grown_drew
  have hhX : XD.heap[bv]? = some (.cells cur 45 (0, 0)) := by rw [← hXD]; exact hh
  have GD := Lib.hid gd
  have OI := Lib.hid (show XD.ownsRow B 45 3 (.slice (some ⟨bv, 0, none⟩) i cp) i (pE.row (ps.take i)) from ⟨by rw [row_len, List.length_take, Nat.min_eq_left (by omega)]; rfl, .inr ⟨bv, cp, cur, rfl, hb, hhX, by omega, hcm, hcs, by rw [row_take, ← ht, List.take_take, show min (i * pE.k) (n * 3) = i * 3 from Nat.min_eq_left (show i * 3 ≤ n * 3 by omega)]⟩⟩)
  have PD := Lib.hid (show ∀ j u, (pE.row (ps.drop (i + 1)))[j]? = some u → XD.cell? ((⟨bv, at2, none⟩ : Addr).add j) = some u from fun j u hu => by
    obtain ⟨a', cap', h1, h2, h3⟩ := p2
    injection h1 with h1
    have := h3 _ h1.symm j u hu
    rw [← hXD]
    exact this)
  have HU2 := Lib.hid (show u2 = n - (i + 1) ∧ ps.length = n ∧ i < n ∧ n ≤ cp by omega)
  have HXD := Lib.hid hXD
  have HN1 := Lib.hid (show i + u2 = n1 by omega)
  have HN2 := Lib.hid (show n1 + 1 = n ∧ (n1 : Int) = nn1 ∧ n ≤ cp by omega)
  have d1 : decide (ii = jj) = false := decide_eq_false (by omega)
  have d2 : ¬ ii = jj := by omega
  clear hown hi hn hii hjj hv2 hb hh hnc hcm hcs ht hpl hat p2 hu2 hc2 hXD gd hhX hn1 hi0 hi2
  go_enter Tryd.func46, Tryd.ntmps46
  go_wp2_with fail
  refine wp_region_held_drew (S := fun _ => True) (by kernel_rfl) ?_ (fun hHeld => ?_)
  · exact trivial
  rw [HXD.out]
  refine wpAnyH_take (i := 0) (v := ?_) rfl (by kernel_rfl) (by kernel_rfl) (by kernel_rfl) (fun _ _ _ h => h) (Or.inl ⟨by rfl, ?_⟩) (by assumption) ?_
  rotate_left
  · intro w hSw; go_simp; try with_reducible rfl
  go_simp
  refine wpAnyH_take (i := 1) (v := ?_) rfl (by kernel_rfl) (by kernel_rfl) (by kernel_rfl) (fun _ _ _ h => h) (Or.inl ⟨by rfl, ?_⟩) (by assumption) ?_
  rotate_left
  · intro w hSw; go_simp; try with_reducible rfl
  go_simp
  refine wpAnyH_take (i := 2) (v := ?_) rfl (by kernel_rfl) (by kernel_rfl) (by kernel_rfl) (fun _ _ _ h => h) (Or.inl ⟨by rfl, ?_⟩) (by assumption) ?_
  rotate_left
  · intro w hSw; go_simp; try with_reducible rfl
  go_simp
  refine wpAnyH_take (i := 3) (v := ?_) rfl (by kernel_rfl) (by kernel_rfl) (by kernel_rfl) (fun _ _ _ h => h) (Or.inl ⟨by rfl, ?_⟩) (by assumption) ?_
  rotate_left
  · intro w hSw; go_simp; try with_reducible rfl
  go_simp
  refine wpAnyH_take (i := 4) (v := ?_) rfl (by kernel_rfl) (by kernel_rfl) (by kernel_rfl) (fun _ _ _ h => h) (Or.inl ⟨by rfl, ?_⟩) (by assumption) ?_
  rotate_left
  · intro w hSw; go_simp; try with_reducible rfl
  go_simp
  refine wpAnyH_take (i := 5) (v := ?_) rfl (by kernel_rfl) (by kernel_rfl) (by kernel_rfl) (fun _ _ _ h => h) (Or.inl ⟨by rfl, ?_⟩) (by assumption) ?_
  rotate_left
  · intro w hSw; go_simp; try with_reducible rfl
  go_simp
  refine wpAnyH_ready (rs := [6]) (by kernel_rfl) (by simp) ?_
  refine AllReadyH.consLG rfl (fun K hK => ?_) AllReadyH.nil
  go_simp
  refine wpList_append_fits XD rfl _ _ _ rfl B 45 i0 3 Tryd.underlying42 hI.1 hI.2 bv i cp (pE.row (ps.take i)) rfl OI.out ⟨bv, at2, none⟩ u2 c2 (pE.row (ps.drop (i + 1))) rfl ?f1 ?f2 (row_one pE _) ?f3 ?_
  case f1 => have := HU2.out; rw [row_len, List.length_drop]; show _ * 3 = _; omega
  case f2 => exact PD.out
  case f3 => have := HU2.out; omega
  rintro w6 ho hg
  rw [← row_app] at ho
  have O6 := Lib.hid ho
  have G6 := Lib.hid hg
  refine hK.out _ _ trivial (fun hHeld => ?_)
  clear hK K ho hg
  refine wpAnyH_take (i := 7) (v := ?_) rfl (by kernel_rfl) (by kernel_rfl) (by kernel_rfl) (fun _ _ _ h => h) (Or.inl ⟨by rfl, ?_⟩) (by assumption) ?_
  rotate_left
  · intro w hSw; go_simp; try with_reducible rfl
  go_simp
  refine wpAnyH_done (by kernel_rfl) ?_ _
  have O7 := O6.out
  rw [HN1.out] at O7
  try rw [HN1.out]
  rcases O7.2 with ⟨h, _⟩ | ⟨g', cap', cur6, hv, hb6, hh6, hnc6, hcm6, hcs6, ht6⟩
  · cases h
  injection hv with hv1 hv2 hv3
  injection hv1 with hv1
  injection hv1 with hv1
  subst hv1 hv3
  have hcl := fun ty => run_clear_lt w6 ty bv n1 (cp - n1) cur6 hh6 (by have := HN2.out; omega)
  obtain ⟨W7, hW7⟩ : ∃ W7, w6.setRow bv (cur6.toList.take (n1 * 3) ++ z3L ++ cur6.toList.drop (n1 * 3 + 3)).toArray = W7 := ⟨_, rfl⟩
  rw [hW7] at hcl
  have G7 := Lib.hid (grown_trans12 GD.out (grown_trans12 G6.out (show w6.grownBy W7 (some bv) by rw [← hW7]; exact grown_setRow _ _ _)))
  have F7 := Lib.hid (show W7.ownsRow B 45 3 (.slice (some ⟨bv, 0, none⟩) n1 cp) n1 (pE.row (ps.take i ++ ps.drop (i + 1))) from ⟨O7.1, .inr ⟨bv, cp, _, rfl, hb6, by rw [← hW7]; exact setRow_heap _ _ _ _ _ _ hh6, hnc6, hcm6, by have := HN2.out; simp [z3L]; omega, by
    rw [← ht6]
    have h1 : (cur6.toList.take (n1 * 3)).length = n1 * 3 := by rw [List.length_take]; have := HN2.out; simp; omega
    simp only [List.append_assoc]
    rw [List.take_append_of_le_length (by omega), List.take_of_length_le (by omega)]⟩⟩)
  clear hb6 hh6 hnc6 hcm6 hcs6 ht6 hv2 hW7 O7
  have hnn2 := HN2.out.2.1
  go_wp2
  go_ret
  exact ⟨rfl, F7.out, G7.out⟩
theorem but_map (i : Nat) (h : ps.map (·.l) = m.f) : (ps.take i ++ ps.drop (i + 1)).map (·.l) = m.but i := by
  unfold NetM.but
  rw [List.map_append, List.map_take, List.map_drop, h]
set_option maxRecDepth 100000 in
set_option maxHeartbeats 2000000 in
theorem ntPull_base (H : Nt w0 q m v ps mb w) (hl : m.f.length ≤ 64) (ii : Int) (hi : ii.toNat < m.f.length) (h0 : 0 ≤ ii) (a b : Int) (op : Option Addr) (k c : Nat) (p : LtP) (hp : ps[ii.toNat]? = some p) (e1 : p.l.a = a) (e2 : p.l.b = b) (e3 : p.v = .slice op k c) : Calls Tryd.prog 37 #[.pointer (some ⟨q, 0, none⟩), .int .i64 ii] w fun r w' => r = .returned (.agg #[.int .i64 a, .int .i64 b, .slice op k c]) ∧ ∃ v', Nt w0 q ⟨m.n, m.but ii.toNat, m.cut, m.lost⟩ v' (ps.take ii.toNat ++ ps.drop (ii.toNat + 1)) mb w' ∧ Asd (Ob q v ps mb) (Ob q v' (ps.take ii.toNat ++ ps.drop (ii.toNat + 1)) mb) w w' ∧ (∀ p ∈ ps, DatP w0.heap.size p w') ∧ ∃ bv cp, v' = .slice (some ⟨bv, 0, none⟩) (m.f.length - 1) cp ∧ m.f.length ≤ cp := by
  obtain ⟨W, hW⟩ : ∃ W, (w.alloc (.cells #[.int .i64 0, .int .i64 0, .slice none 0 0] 45)).alloc (.cells #[.int .i64 a, .int .i64 b, .slice op k c] 45) = W := ⟨_, rfl⟩
  have k1 := kp_alloc w (.cells #[.int .i64 0, .int .i64 0, .slice none 0 0] 45)
  have k2 := kp_alloc (w.alloc (.cells #[.int .i64 0, .int .i64 0, .slice none 0 0] 45)) (.cells #[.int .i64 a, .int .i64 b, .slice op k c] 45)
  have t1 := kp_row k2 (MapKept.heap_alloc w (.cells #[.int .i64 0, .int .i64 0, .slice none 0 0] 45)).1
  have t2 := (MapKept.heap_alloc (w.alloc (.cells #[.int .i64 0, .int .i64 0, .slice none 0 0] 45)) (.cells #[.int .i64 a, .int .i64 b, .slice op k c] 45)).1
  rw [show (w.alloc (.cells #[.int .i64 0, .int .i64 0, .slice none 0 0] 45)).heap.size = w.heap.size + 1 by simp] at t2
  have WS := Lib.hid (show W.heap.size = w.heap.size + 2 by rw [← hW]; simp)
  rw [hW] at k2 t1 t2
  have KW := Lib.hid (Kp.trans k1 k2)
  have ZW := Lib.hid t1
  have TW := Lib.hid t2
  have HH := Lib.hid H
  have hown := H.own
  rcases hown.2 with ⟨rfl, h0⟩ | ⟨bv, cp, cur, rfl, hb, hh, hnc, -⟩
  · omega
  obtain ⟨i, hI⟩ : ∃ i, ii.toNat = i := ⟨_, rfl⟩
  rw [hI] at hi hp ⊢
  obtain ⟨n, hN⟩ : ∃ n, m.f.length = n := ⟨_, rfl⟩
  have hlt : i < ps.length := by rw [H.plen]; exact hi
  have hget : ps[i] = p := by rw [List.getElem?_eq_getElem hlt] at hp; exact Option.some.inj hp
  have cc : ∀ (k : Nat) (u : Value), k < 3 → (pE.enc p)[k]? = some u → w.cell? ⟨bv, i * 3 + k, none⟩ = some u := fun k u hk hu => by
    have := hown.cells rfl (i * 3 + k) u (by rw [← hu, ← hget]; exact row_at pE ps i hlt k hk)
    rw [Addr.add_lit, Nat.zero_add] at this
    exact this
  have c0 : (w.alloc (.cells #[.int .i64 0, .int .i64 0, .slice none 0 0] 45)).cell? ⟨bv, i * 3, none⟩ = some (.int .i64 a) := kp_cell k1 (by rw [← e1]; exact cc 0 _ (by decide) rfl)
  have c1 : (w.alloc (.cells #[.int .i64 0, .int .i64 0, .slice none 0 0] 45)).cell? ⟨bv, i * 3 + 1, none⟩ = some (.int .i64 b) := kp_cell k1 (by rw [← e2]; exact cc 1 _ (by decide) rfl)
  have c2 : (w.alloc (.cells #[.int .i64 0, .int .i64 0, .slice none 0 0] 45)).cell? ⟨bv, i * 3 + 2, none⟩ = some (.slice op k c) := kp_cell k1 (by rw [← e3]; exact cc 2 _ (by decide) rfl)
  rw [← hI] at c0 c1 c2
  have y1 := kp_cell k1 (cell_row (i := 1) H.row rfl)
  have z1 := cell_row (i := 1) (kp_row KW.out H.row) rfl
  rw [← hW] at z1
  have hownW := own_kp3 hown KW.out
  rw [hN] at y1 z1 hi hownW hl
  obtain ⟨jj, hjj⟩ : ∃ jj : Int, ii + 1 = jj := ⟨_, rfl⟩
  have hwj : wrap64 jj = jj := IntWalk.wrap64_in jj (by omega)
  have hwk : IntKind.i64.wrap jj = jj := IntWalk.i64_in jj (by omega)
  have HDE := Lib.hid (delete_any hownW hi (by omega) (show (i : Int) = ii by omega) hjj)
  have i1 : ii < n := by omega
  have HW := Lib.hid hW
  have HNN := Lib.hid hN
  have HBL := Lib.hid (show (m.but i).length = n - 1 by have := but_len (m := m) (i := i) (by omega); omega)
  have HQ := Lib.hid (old_of_row H.row)
  have HNO := Lib.hid (fun b (h1 : w.heap.size ≤ b) => (fun e => absurd (H.mem b e).2 (by omega) : ¬ Ob q (.slice (some ⟨bv, 0, none⟩) m.f.length cp) ps mb b))
  have HBV := Lib.hid (hown.lt bv rfl).2
  have HNC := Lib.hid hnc
  clear hown hb hh hnc hget cc H k1 k2 t1 t2 hW hl hN hownW hi hp e1 e2 e3 hlt hI
  go_enter Tryd.func37, Tryd.ntmps37
  go_wp2_with (go_at_call 46; (try rw [HW.out]); (with_reducible refine HDE.out.mono ?_); rintro e' w5 ⟨rfl, ho, hg⟩; have RF := Lib.hid (HH.out.lettersP KW.out (w3 := w5) (f := m.but i) (v' := .slice (some ⟨bv, 0, none⟩) (n - 1) cp) (ps' := ps.take i ++ ps.drop (i + 1)) hg HBL.out (but_map i HH.out.fs) ho (fun b e => .inl e) (fun p hp => .inl (by rcases List.mem_append.1 hp with h | h; exact List.mem_of_mem_take h; exact List.mem_of_mem_drop h))); have r5 := (hg.block q (Nat.lt_of_lt_of_le HQ.out (Below.size KW.out)) (fun e => HH.out.ne.1 e.symm)).trans (kp_row KW.out HH.out.row); have y5 := cell_row (i := 1) r5 rfl; have fy := frozR r5; have T6 := Lib.hid (show (w5.setCell ⟨q, 1, none⟩ (.slice (some ⟨bv, 0, none⟩) (n - 1) cp)).heap[w.heap.size + 1]? = some (.cells #[.int .i64 a, .int .i64 b, .slice op k c] 45) from (Below.heap_setCell _ _ _ _ (by have := HQ.out; show w.heap.size + 1 ≠ q; omega)).trans ((hg.block _ (by have := WS.out; omega) (fun e => by have := Option.some.inj e; have := HBV.out; omega)).trans TW.out)); have Z6 := Lib.hid (show (w5.setCell ⟨q, 1, none⟩ (.slice (some ⟨bv, 0, none⟩) (n - 1) cp)).heap[w.heap.size]? = some (.cells #[.int .i64 0, .int .i64 0, .slice none 0 0] 45) from (Below.heap_setCell _ _ _ _ (by have := HQ.out; show w.heap.size ≠ q; omega)).trans ((hg.block _ (by have := WS.out; omega) (fun e => by have := Option.some.inj e; have := HBV.out; omega)).trans ZW.out)); have t60 := cell_row (i := 0) T6.out rfl; have t61 := cell_row (i := 1) T6.out rfl; have t62 := cell_row (i := 2) T6.out rfl; have z60 := cell_row (i := 0) Z6.out rfl; have z61 := cell_row (i := 1) Z6.out rfl; have z62 := cell_row (i := 2) Z6.out rfl; have fz6 := frozR Z6.out; clear ho hg r5)
  refine bodyPost_ret (results_rowN1 (p := 4) rfl _ _ w.heap.size 45 _ (0, 0) _ rfl (set_3N _ _ _ Z6.out) Tryd.underlying45 rfl (by kernel_rfl)) rfl ?_
  refine ⟨rfl, _, RF.out.1.stay (fun b hb => set_3eq (fun e => HNO.out b (by omega) ?_)), asd_newN (asd_newN (asd_newN RF.out.2.1 (Nat.le_refl _)) (Nat.le_refl _)) (Nat.le_refl _), fun p hp => own_stayG (RF.out.2.2 p hp) (fun b hb => set_3eq (fun e => HNO.out b (by omega) (.inr (.inr (.inr ⟨p, hp, hb⟩))))), bv, cp, by rw [HNN.out], HNC.out⟩
  rcases hb with h | h | h | ⟨p, hp, h⟩
  · exact .inl h
  · exact .inr (.inl h)
  · exact .inr (.inr (.inl h))
  · exact .inr (.inr (.inr ⟨p, by rcases List.mem_append.1 hp with h | h; exact List.mem_of_mem_take h; exact List.mem_of_mem_drop h, h⟩))
theorem getD_map {i : Nat} {p : LtP} (h : ps.map (·.l) = m.f) (hp : ps[i]? = some p) : m.f.getD i lt0 = p.l := by
  rw [← h, List.getD_eq_getElem?_getD, List.getElem?_map, hp]
  rfl
theorem ntPull_any (H : Nt w0 q m v ps mb w) (hl : m.f.length ≤ 64) (ii : Int) (h : m.there ii = true) : ∃ p ps', p.l = m.f.getD ii.toNat lt0 ∧ p ∈ ps ∧ (∀ x ∈ ps', x ∈ ps) ∧ Calls Tryd.prog 37 #[.pointer (some ⟨q, 0, none⟩), .int .i64 ii] w fun r w' => r = .returned (.agg #[.int .i64 p.l.a, .int .i64 p.l.b, p.v]) ∧ ∃ v', Nt w0 q ⟨m.n, m.but ii.toNat, m.cut, m.lost⟩ v' ps' mb w' ∧ Asd (Ob q v ps mb) (Ob q v' ps' mb) w w' ∧ (∀ p ∈ ps, DatP w0.heap.size p w') ∧ ∃ bv cp, v' = .slice (some ⟨bv, 0, none⟩) (m.f.length - 1) cp ∧ m.f.length ≤ cp := by
  obtain ⟨h0, hlt⟩ := there_lt h
  have hlp : ii.toNat < ps.length := by rw [H.plen]; exact hlt
  have hp := List.getElem?_eq_getElem hlp
  exact ⟨ps[ii.toNat], _, (getD_map H.fs hp).symm, List.getElem_mem hlp, fun x hx => (by rcases List.mem_append.1 hx with h | h; exact List.mem_of_mem_take h; exact List.mem_of_mem_drop h), ntPull_base H hl ii hlt h0 _ _ _ _ _ _ hp rfl rfl rfl⟩
set_option maxRecDepth 100000 in
theorem ntTake_no (H : Nt w0 q m v ps mb w) (ii : Int) (h : m.there ii = false) (e0 : w.cell? ⟨0, 0, none⟩ = some (errI ads 1)) : Calls Tryd.prog 20 #[.pointer (some ⟨q, 0, none⟩), .int .i64 ii] w fun r w' => r = .returned (.tuple #[.agg #[.int .i64 0, .int .i64 0, .slice none 0 0], errI ads 1]) ∧ Kp w w' := by
  have K1 := Lib.hid (kp_alloc w (.cells #[.int .i64 0, .int .i64 0, .slice none 0 0] 45))
  have HZ := Lib.hid (MapKept.heap_alloc w (.cells #[.int .i64 0, .int .i64 0, .slice none 0 0] 45)).1
  have HZD := Lib.hid (show (w.alloc (.cells #[.int .i64 0, .int .i64 0, .slice none 0 0] 45)).drew.heap[w.heap.size]? = some (.cells #[.int .i64 0, .int .i64 0, .slice none 0 0] 45) from HZ.out)
  have ht := ntHolds_any (H.kp K1.out) ii
  rw [h] at ht
  have HT := Lib.hid ht
  obtain ⟨x, hx⟩ : ∃ x, errI ads 1 = x := ⟨_, rfl⟩
  rw [hx] at e0 ⊢
  have e1 := kp_cell K1.out e0
  have z0 := cell_row (i := 0) HZ.out rfl
  have z1 := cell_row (i := 1) HZ.out rfl
  have z2 := cell_row (i := 2) HZ.out rfl
  have fz := frozR HZ.out
  clear H h ht e0 hx
  go_enter Tryd.func20, Tryd.ntmps20
  go_wp2_with (go_at_call 36; (with_reducible refine HT.out.mono ?_); rintro e' w3 ⟨rfl, rfl⟩)
  go_region
  go_wp2
  refine bodyPost_ret (results_row_tmpN (p := 4) (u := 5) rfl _ _ w.heap.size 45 _ (0, 0) _ rfl HZD.out Tryd.underlying45 rfl (by kernel_rfl)) rfl ?_
  exact ⟨rfl, Kp.drew K1.out⟩
set_option maxRecDepth 100000 in
set_option maxHeartbeats 2000000 in
theorem ntTake_ok (H : Nt w0 q m v ps mb w) (hm : Nok m) (ii : Int) (h : m.there ii = true) : Calls Tryd.prog 20 #[.pointer (some ⟨q, 0, none⟩), .int .i64 ii] w fun r w' => ∃ o c, r = .returned (.tuple #[.agg #[.int .i64 (m.f.getD ii.toNat lt0).a, .int .i64 (m.f.getD ii.toNat lt0).b, .slice o (m.f.getD ii.toNat lt0).d.length c], .nilIface]) ∧ w'.ownsRow w.heap.size 5 1 (.slice o (m.f.getD ii.toNat lt0).d.length c) (m.f.getD ii.toNat lt0).d.length ((m.f.getD ii.toNat lt0).d.map (Value.int .u8)) ∧ ∃ v' ps', Nt w0 q ⟨m.n, m.but ii.toNat, m.cut, m.lost⟩ v' ps' mb w' ∧ Asd (Ob q v ps mb) (Ob q v' ps' mb) w w' ∧ ∀ b, (Value.slice o (m.f.getD ii.toNat lt0).d.length c).ownBlock = some b → ¬ Ob q v' ps' mb b := by
  have k1 := kp_alloc w (.cells #[.int .i64 0, .int .i64 0, .slice none 0 0] 45)
  have HZ := Lib.hid (MapKept.heap_alloc w (.cells #[.int .i64 0, .int .i64 0, .slice none 0 0] 45)).1
  have ht := ntHolds_any (H.kp k1) ii
  rw [h] at ht
  have HT := Lib.hid ht
  obtain ⟨h0, hlt⟩ := there_lt h
  have HDL := hm.dat _ (get_mem hlt)
  obtain ⟨⟨pl, po, pc⟩, ps', hpl, hpm, hsub, hpu⟩ := ntPull_any (H.kp k1) hm.len ii h
  rw [← hpl] at HDL ⊢
  dsimp only [LtP.v] at hpu HDL ⊢
  obtain ⟨⟨xa, xb, xd⟩, hx⟩ : ∃ x, pl = x := ⟨_, rfl⟩
  subst hx
  dsimp only at hpu HDL ⊢
  obtain ⟨xk, hk⟩ : ∃ k, xd.length = k := ⟨_, rfl⟩
  rw [hk] at hpu ⊢
  have HPU := Lib.hid hpu
  have HPM := Lib.hid hpm
  have HOB := Lib.hid (fun w1 (hd : DatP w0.heap.size ⟨⟨xa, xb, xd⟩, po, pc⟩ w1) => ownL_base xa xb po xk pc xd hk (by omega) w1 (by have := hd.slb; unfold LtP.v at this; dsimp only at this; rw [hk] at this; exact this))
  have HNO := Lib.hid (show ¬ Ob q v ps mb w.heap.size from fun e => Nat.lt_irrefl _ (H.mem _ e).2)
  have HKB := Lib.hid (And.intro hk (And.intro (show ∀ b, Ob q v ps mb b → b < w.heap.size from fun b e => (H.mem b e).2) k1))
  have HSB := Lib.hid hsub
  clear H hm h ht h0 hlt HDL hpl hpm hsub hpu k1 hk
  go_enter Tryd.func20, Tryd.ntmps20
  go_wp2_with (first | (go_at_call 36; (with_reducible refine HT.out.mono ?_); rintro e' w3 ⟨rfl, rfl⟩) | (go_at_call 37; (with_reducible refine HPU.out.mono ?_); rintro e' w5 ⟨rfl, v5, hn5, ha5, hd5, -⟩; have HOW := Lib.hid (HOB.out w5 (hd5 _ HPM.out)); have N5 := Lib.hid hn5; have A5 := Lib.hid ha5; have Z5 := Lib.hid (ha5.row HZ.out HNO.out); clear hn5 ha5 hd5) | (go_at_call 35; (with_reducible refine HOW.out.mono ?_); rintro e' w7 ⟨o7, c7, rfl, ho7, hk7⟩; have D7 := Lib.hid ho7; have K7 := Lib.hid hk7; have Z7 := Lib.hid (kp_row hk7 Z5.out); have z0 := cell_row (i := 0) Z7.out rfl; have z1 := cell_row (i := 1) Z7.out rfl; have z2 := cell_row (i := 2) Z7.out rfl; have fz := frozR Z7.out; clear ho7 hk7))
  refine bodyPost_ret (results_row_tmpN (p := 4) (u := 5) rfl _ _ w.heap.size 45 _ (0, 0) _ rfl (set_3N _ _ _ Z7.out) Tryd.underlying45 rfl (by kernel_rfl)) rfl ?_
  obtain ⟨hk, hOl, k1⟩ := HKB.out
  have hw1 : w.heap.size < (w.alloc (.cells #[.int .i64 0, .int .i64 0, .slice none 0 0] 45)).heap.size := by simp
  have hnb : ¬ Ob q v5 ps' mb w.heap.size := fun e => (A5.out.own _ e).elim HNO.out (fun e => by omega)
  refine ⟨_, _, rfl, ?_, _, _, (N5.out.kp K7.out).stay (fun b hb => set_3eq (fun e => hnb (e ▸ hb))), asd_newN (asd_newN (asd_newN ((Asd.of_kp _ k1).trans (A5.out.trans (Asd.of_kp _ K7.out))) (Nat.le_refl _)) (Nat.le_refl _)) (Nat.le_refl _), fun b hb hq => absurd (N5.out.mem b hq).2 (by have := (D7.out.lt b hb).1; omega)⟩
  have hd := D7.out
  rw [← hk] at hd ⊢
  refine own_baseG (own_stayG hd (fun b hb => set_3eq ?_)) (by have := A5.out.size; omega)
  have h1 := (hd.lt b hb).1
  have h2 := A5.out.size
  omega
theorem ntTake_any (H : Nt w0 q m v ps mb w) (hm : Nok m) (ii : Int) (E : EP [0, 2, 5] ads w) : Calls Tryd.prog 20 #[.pointer (some ⟨q, 0, none⟩), .int .i64 ii] w fun r w' => ∃ o c, r = .returned (.tuple #[.agg #[.int .i64 (m.take ii).1.1.a, .int .i64 (m.take ii).1.1.b, .slice o (m.take ii).1.1.d.length c], errI ads (m.take ii).1.2]) ∧ w'.ownsRow w.heap.size 5 1 (.slice o (m.take ii).1.1.d.length c) (m.take ii).1.1.d.length ((m.take ii).1.1.d.map (Value.int .u8)) ∧ ∃ v' ps', Nt w0 q (m.take ii).2 v' ps' mb w' ∧ Asd (Ob q v ps mb) (Ob q v' ps' mb) w w' ∧ ∀ b, (Value.slice o (m.take ii).1.1.d.length c).ownBlock = some b → ¬ Ob q v' ps' mb b := by
  unfold NetM.take
  by_cases h1 : m.there ii = false
  · rw [if_pos h1]
    exact (ntTake_no H ii h1 (E.cell 0 (by simp))).mono fun r w' ⟨q1, q2⟩ => ⟨none, 0, q1, ⟨rfl, .inl ⟨rfl, rfl⟩⟩, v, ps, H.kp q2, Asd.of_kp _ q2, fun b e => by cases e⟩
  rw [if_neg h1]
  have h1 : m.there ii = true := by simpa using h1
  exact (ntTake_ok H hm ii h1).mono fun r w' ⟨o, c, q1, q2⟩ => ⟨o, c, by rw [q1, errI_nil], q2⟩
end Go.Proofs.YtjffkfcokgcenaaDoor
