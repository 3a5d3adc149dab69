/- Parts of this proof (own work). -/
import Derived.Test.YtpemeenfhkgmpaaGreatDoorZf38
set_option maxRecDepth 100000
set_option maxHeartbeats 40000000
namespace Go.Proofs.YtpemeenfhkgmpaaGreatDoor
open Go.RowKit Go.Extern.Stop Go.Stop Go.Extern
theorem door_rows_panic (ads : List Addr) (p q : Addr) (old : Value) (k : Nat) (hk : k < ads.length) (older : List PanicEntry) (w : World) (V : St ads w)
  (hp : w.cell? p = some (.bool true)) (hq : w.cell? q = some old) (hz : w.frozen? q = false) :
  CallsD Tryz.prog 81 #[.pointer (some p), .pointer (some q)] (.panicking ({ v := snt ads[k], recovered := false } :: older)) w fun e u' w' =>
   e = .returned (.tuple #[]) ∧ u' = .panicking ({ v := snt ads[k], recovered := true } :: older) ∧ ∃ w1, Kp w w1 ∧ w' = w1.setCell q (snt ads[k]) := by
 have hqb := old_of_cell hq; have hn := errorOf_any ads w V k hk; obtain ⟨a, ha⟩ : ∃ a, ads[k] = a := ⟨_, rfl⟩
 rw [ha] at hn ⊢; clear ha V; refine callsD_of_wpS Tryz.func81 rfl fun c₀ cs hu => ?_
 apply wpS_seq
 apply wpS_region
 simp [wpOpsS, go_sem, recoverD, hu, Tryz.ntmps81, Exit.thenS]
 refine wpS_of_wp ?_
 change Code.wp _ _ _ { tmps := #[.pointer (some p), .pointer (some q), snt a, snt a, undef, undef, undef], defers := [] } _
 obtain ⟨HN, HU⟩ := hD2 hn hu; clear hn hu; go_wp2_with (go_at_call 82; (with_reducible refine HN.out.mono ?_); rintro e w1 ⟨rfl, hw⟩; have hq1 : w1.cell? q = some old := (by rw [Below.cell hw hqb]; exact hq); have hz1 : w1.frozen? q = false := (by rw [Below.frozen hw hqb]; exact hz))
 exact ⟨rfl, _, rfl, _, results_none rfl _ _ _, rfl, rfl, w1, hw, rfl⟩
theorem door_rows_idle (p q : Addr) (w : World) (hp : w.cell? p = some (.bool false)) :
  CallsD Tryz.prog 81 #[.pointer (some p), .pointer (some q)] .returning w fun e u' w' => e = .returned (.tuple #[]) ∧ u' = .returning ∧ w' = w := by
 refine callsD_of_wpS Tryz.func81 rfl fun c₀ cs hu => ?_
 apply wpS_seq
 apply wpS_region
 simp [wpOpsS, go_sem, recoverD, hu, Tryz.ntmps81, Exit.thenS]
 refine wpS_of_wp ?_
 change Code.wp _ _ _ { tmps := #[.pointer (some p), .pointer (some q), .nilIface, .nilIface, undef, undef, undef], defers := [] } _
 go_wp2
 cases c₀
 simp only at hu
 subst hu; exact ⟨rfl, _, rfl, _, results_none rfl _ _ _, rfl, rfl, rfl⟩
theorem try_rows_ret (f : FuncId) (caps : Array Value) (w : World) (G : Value → World → World → Prop) (hf : ∀ w, (callFunc f caps).run Tryz.prog w = .ok (.enter f caps) w)
  (H : ∀ w1, Below w.heap.size w w1 → w1.heap.size = w.heap.size + 2 → Calls Tryz.prog f caps w1 fun e w2 => ∃ v, e = .returned v ∧ Past w.heap.size w1 w2 ∧ G v w1 w2) :
  Calls Tryz.prog 45 #[.func (.func f) #[] caps] w fun e w' => ∃ v, e = .returned (.tuple #[v, .nilIface]) ∧ ∃ w1 w2, Below w.heap.size w w1 ∧ w1.heap.size = w.heap.size + 2 ∧ G v w1 w2 ∧ Below w.heap.size w2 w' ∧ Aside w.heap.size w2 w' := by
 have hmf : ∀ (fn : Fn) (first cap : Array Value) (w : World), (Instr.makeFunc fn first cap).run Tryz.prog w = .ok (.func fn first cap) w := fun _ _ _ _ => rfl
 have hN : ((w.alloc (.cells #[.nilIface] 26)).alloc (.cells #[.bool true] 4)).heap[w.heap.size]? = some (.cells #[.nilIface] 26) := try_new0 _ _ _; have hM : ((w.alloc (.cells #[.nilIface] 26)).alloc (.cells #[.bool true] 4)).heap[w.heap.size + 1]? = some (.cells #[.bool true] 4) := try_new1 _ _ _; have hB : Below w.heap.size w ((w.alloc (.cells #[.nilIface] 26)).alloc (.cells #[.bool true] 4)) := ((Below.refl _ _).alloc (Nat.le_refl _) _).alloc (by simp) _; have hS : ((w.alloc (.cells #[.nilIface] 26)).alloc (.cells #[.bool true] 4)).heap.size = w.heap.size + 2 := by simp
 obtain ⟨HH, HN, HM, HB, HS⟩ := hD5 H hN hM hB hS; clear H hN hM hB hS; go_enter_defers Tryz.func45, Tryz.ntmps45
 go_wp2
 with_reducible refine (HH.out _ HB.out HS.out).mono ?_
 rintro e w2 ⟨v, rfl, hP, hG⟩; have e0 : w2.heap[w.heap.size]? = some (.cells #[.nilIface] 26) := (hP.2 _ (by omega) (by rw [HS.out]; omega)).trans HN.out; have e1 : w2.heap[w.heap.size + 1]? = some (.cells #[.bool true] 4) := (hP.2 _ (by omega) (by rw [HS.out]; omega)).trans HM.out; have c0 : w2.cell? ⟨w.heap.size, 0, none⟩ = some .nilIface := by simp [World.cell?, e0]
 have c1 : w2.cell? ⟨w.heap.size + 1, 0, none⟩ = some (.bool true) := by simp [World.cell?, e1]
 have z0 : w2.frozen? ⟨w.heap.size, 0, none⟩ = false := by simp [World.frozen?, e0]
 have z1 : w2.frozen? ⟨w.heap.size + 1, 0, none⟩ = false := by simp [World.frozen?, e1]
 clear e0 e1; go_wp2; refine leaves_cons (f := 81) (args := #[.pointer (some ⟨w.heap.size + 1, 0, none⟩), .pointer (some ⟨w.heap.size, 0, none⟩)]) (by simp) (by simp [go_sem]) ?_
 refine (door_rows_idle _ _ _ (by simp [go_sem, c1])).mono ?_
 rintro e u' w3 ⟨rfl, rfl, rfl⟩
 simp [Leaves, settle, results, Tryz.results45, go_sem, c0]
 have hb := ((Below.refl w.heap.size w2).setCell (show w.heap.size ≤ w.heap.size + 1 by omega) (.bool false) (p := ⟨w.heap.size + 1, 0, none⟩)).setCell (show w.heap.size ≤ w.heap.size by omega) (.nilIface) (p := ⟨w.heap.size, 0, none⟩); exact ⟨_, HB.out, HS.out, _, hG, hb, Aside.below hb fun b h0 h1 => by rw [hsO _ _ _ _ h0, hsO _ _ _ _ h1]⟩
theorem try_rows_panic (ads : List Addr) (k : Nat) (hk : k < ads.length) (f : FuncId) (caps : Array Value) (w : World) (G : World → World → Prop) (hf : ∀ w, (callFunc f caps).run Tryz.prog w = .ok (.enter f caps) w)
  (H : ∀ w1, Below w.heap.size w w1 → w1.heap.size = w.heap.size + 2 → Calls Tryz.prog f caps w1 fun e w2 => e = .panicked [{ v := snt ads[k], recovered := false }] ∧ St ads w2 ∧ Past w.heap.size w1 w2 ∧ G w1 w2) :
  Calls Tryz.prog 45 #[.func (.func f) #[] caps] w fun e w' => e = .returned (.tuple #[.slice none 0 0, snt ads[k]]) ∧ Mid w G w' := by
 have hmf : ∀ (fn : Fn) (first cap : Array Value) (w : World), (Instr.makeFunc fn first cap).run Tryz.prog w = .ok (.func fn first cap) w := fun _ _ _ _ => rfl
 have hN : ((w.alloc (.cells #[.nilIface] 26)).alloc (.cells #[.bool true] 4)).heap[w.heap.size]? = some (.cells #[.nilIface] 26) := try_new0 _ _ _; have hM : ((w.alloc (.cells #[.nilIface] 26)).alloc (.cells #[.bool true] 4)).heap[w.heap.size + 1]? = some (.cells #[.bool true] 4) := try_new1 _ _ _; have hB : Below w.heap.size w ((w.alloc (.cells #[.nilIface] 26)).alloc (.cells #[.bool true] 4)) := ((Below.refl _ _).alloc (Nat.le_refl _) _).alloc (by simp) _; have hS : ((w.alloc (.cells #[.nilIface] 26)).alloc (.cells #[.bool true] 4)).heap.size = w.heap.size + 2 := by simp
 obtain ⟨HH, HN, HM, HB, HS⟩ := hD5 H hN hM hB hS; clear H hN hM hB hS; go_enter_defers Tryz.func45, Tryz.ntmps45
 go_wp2
 with_reducible refine (HH.out _ HB.out HS.out).mono ?_
 rintro e w2 ⟨rfl, hV, hP, hG⟩; have e0 : w2.heap[w.heap.size]? = some (.cells #[.nilIface] 26) := (hP.2 _ (by omega) (by rw [HS.out]; omega)).trans HN.out; have e1 : w2.heap[w.heap.size + 1]? = some (.cells #[.bool true] 4) := (hP.2 _ (by omega) (by rw [HS.out]; omega)).trans HM.out; have c0 : w2.cell? ⟨w.heap.size, 0, none⟩ = some .nilIface := by simp [World.cell?, e0]
 have c1 : w2.cell? ⟨w.heap.size + 1, 0, none⟩ = some (.bool true) := by simp [World.cell?, e1]
 have z0 : w2.frozen? ⟨w.heap.size, 0, none⟩ = false := by simp [World.frozen?, e0]
 have hd := door_rows_panic ads ⟨w.heap.size + 1, 0, none⟩ ⟨w.heap.size, 0, none⟩ .nilIface k hk [] w2 hV c1 c0 z0; have hlt : w.heap.size < w2.heap.size := old_of_cell c0; clear e0 e1; refine leaves_cons (f := 81) (args := #[.pointer (some ⟨w.heap.size + 1, 0, none⟩), .pointer (some ⟨w.heap.size, 0, none⟩)]) (by simp) (by simp [go_sem]) ?_
 refine hd.mono ?_
 rintro e u' w3 ⟨rfl, rfl, w4, hw4, rfl⟩; have c4 : w4.cell? ⟨w.heap.size, 0, none⟩ = some .nilIface := by rw [Below.cell hw4 hlt]; exact c0
 simp [Leaves, settle, results, Tryz.results45, go_sem, c4]
 exact ⟨_, _, HB.out, HS.out, hG, (Below.mono hw4 (by omega)).setCell (show w.heap.size ≤ w.heap.size by omega) _⟩
theorem try_rows_err (ads : List Addr) (k : Nat) (hk : k < ads.length) (f : FuncId) (caps : Array Value) (w : World) (V : St ads w) (hf : ∀ w, (callFunc f caps).run Tryz.prog w = .ok (.enter f caps) w)
  (H : ∀ w1, Kp w w1 → Calls Tryz.prog f caps w1 fun e w2 => e = .panicked [{ v := snt ads[k], recovered := false }] ∧ Kp w1 w2) :
  Calls Tryz.prog 45 #[.func (.func f) #[] caps] w fun e w' => e = .returned (.tuple #[.slice none 0 0, snt ads[k]]) ∧ Kp w w' := by
 refine (try_rows_panic ads k hk f caps w (fun w1 w2 => Kp w1 w2) hf fun w1 hb _ => ?_).mono ?_
 ·refine (H w1 hb).mono ?_
  rintro e w2 ⟨rfl, hk2⟩; exact ⟨rfl, V.below (kT hb hk2), past_of hk2, hk2⟩
 ·rintro e w' ⟨rfl, w1, w2, hb, _, hk2, hb2⟩; exact ⟨rfl, kp_of_mid hb hk2 hb2⟩
open Go.RowKit Go.ChangeShapes Go.WideShapes
def SlFc (v : Value) (fs : List FX) (w : World) : Prop :=
 ∃ a cap, v = .slice a fs.length cap ∧ ∀ (j : Nat) (h : j < fs.length), ∃ b off, a = some ⟨b, off, none⟩ ∧ fs[j].wf ∧ ∀ i u, fs[j].cells[i]? = some u → w.cell? ⟨b, off + j * 14 + i, none⟩ = some u
theorem SlFc.kp {v : Value} {fs : List FX} {w w' : World} (h : SlFc v fs w) (hk : Kp w w') : SlFc v fs w' := by
 obtain ⟨a, cap, h1, h2⟩ := h; refine ⟨a, cap, h1, fun j hj => ?_⟩
 obtain ⟨b, off, h3, h4, h5⟩ := h2 j hj; exact ⟨b, off, h3, h4, fun i u hu => kZ hk (h5 i u hu)⟩
theorem SlFc.at {a : Option Addr} {n cap : Nat} {fs : List FX} {w : World} (h : SlFc (.slice a n cap) fs w) (j : Nat) (hj : j < fs.length) :
  ∃ b off, a = some ⟨b, off, none⟩ ∧ fs[j].wf ∧ ∀ i u, fs[j].cells[i]? = some u → w.cell? ⟨b, off + j * 14 + i, none⟩ = some u := by
 obtain ⟨a', cap', h1, h2⟩ := h; injection h1 with h1 _ _
 subst h1; exact h2 j hj
theorem fct_cells {H : Type} {enc : TypeId × Value → H} {W : World} {fuel : Nat} {cs : List Value} (hsz : cs.length = 14) {x : DataW H × List MemPlace}
  (hf : DataW.trod enc Tryz.prog W 0 (fun _ => true) true fuel 39 cs = some x) : ∃ c : FX, cs = c.cells.toList ∧ c.wf := by
 have h14 : Tryz.prog.cellsOf 39 = 14 := by kernel_rfl
 have h1 : Tryz.prog.cellsOf 3 = 1 := by kernel_rfl
 have hf1 : Tryz.prog.cellsOf 37 = 1 := by kernel_rfl
 have h2 : Tryz.prog.cellsOf 36 = 2 := by kernel_rfl
 match cs, hsz with
 | [c0, c1, c2, c3, c4, c5, c6, c7, c8, c9, c10, c11, c12, c13], _ =>
  obtain ⟨xs, n, _, _, _, hlen, hfs⟩ := DataW.trod_struct Tryz.underlying39 hf; have g0 := hfs 0 _ rfl; have g1 := hfs 1 _ rfl; have g2 := hfs 2 _ rfl; have g3 := hfs 3 _ rfl; have g4 := hfs 4 _ rfl; have g5 := hfs 5 _ rfl; have g6 := hfs 6 _ rfl; have g7 := hfs 7 _ rfl; have g8 := hfs 8 _ rfl; have g9 := hfs 9 _ rfl; have g10 := hfs 10 _ rfl; have g11 := hfs 11 _ rfl; have g12 := hfs 12 _ rfl; have e13 : xs.length = 13 := hlen
  match xs, e13 with
  | [x0, x1, x2, x3, x4, x5, x6, x7, x8, x9, x10, x11, x12], _ =>
   obtain ⟨y0, rfl⟩ := one_int9 (v := c0) g0 (by simp [h1]); obtain ⟨y3, rfl⟩ := one_int9 (v := c3) g2 (by simp [h1]); obtain ⟨y4, rfl⟩ := one_int9 (v := c4) g3 (by simp [h1]); obtain ⟨y5, rfl⟩ := one_int9 (v := c5) g4 (by simp [h1]); obtain ⟨y6, rfl⟩ := one_int9 (v := c6) g5 (by simp [h1]); obtain ⟨y7, rfl⟩ := one_int9 (v := c7) g6 (by simp [h1]); obtain ⟨y8, rfl⟩ := one_int9 (v := c8) g7 (by simp [h1]); obtain ⟨y9, rfl⟩ := one_int9 (v := c9) g8 (by simp [h1]); obtain ⟨y10, rfl⟩ := one_int9 (v := c10) g9 (by simp [h1]); obtain ⟨y11, rfl⟩ := one_int9 (v := c11) g10 (by simp [h1]); obtain ⟨y12, rfl⟩ := one_int9 (v := c12) g11 (by simp [h1]); obtain ⟨y13, rfl, w13⟩ := one_float9 (v := c13) g12 (by simp [hf1]); obtain ⟨z3, z4, k, _, _, a0, a1⟩ := trod_struct2 Tryz.underlying36 g1; obtain ⟨y1, rfl⟩ := one_int9 (v := c1) a0 (by simp [h1, h2]); obtain ⟨y2, rfl⟩ := one_int9 (v := c2) a1 (by simp [h1, h2])
   exact ⟨⟨y0, y1, y2, y3, y4, y5, y6, y7, y8, y9, y10, y11, y12, y13⟩, rfl, w13⟩
theorem open_fcts {H : Type} {enc : TypeId × Value → H} {W : World} {r : Reach} {b0 : Nat} {v : Value} {d : DataW H} {ps : List MemPlace}
  (hval : Value.okWide Tryz.prog W r b0 22 v) (h : DataW.Trod enc Tryz.prog W 0 (fun _ => true) true 22 v d ps) : ∃ fs : List FX, SlFc v fs W ∧ fs.length ≤ maxLen := by
 have ce : Tryz.prog.cellsOf 39 = 14 := by kernel_rfl
 obtain ⟨a0, len0, cap0, rfl⟩ := okWide_slice Tryz.underlying22 hval; obtain ⟨fuel, hf⟩ := h
 rcases Deep.open_slice Tryz.underlying22 hf with ⟨hcs, hx⟩ | ⟨a, len, cap, m, n, D, Pl, hcs, _, hl, hm, hmm, hx, hcell⟩
 ·simp [Value.cells] at hcs
  obtain ⟨rfl, rfl, rfl⟩ := hcs; exact ⟨[], ⟨none, 0, rfl, fun j hj => by cases hj⟩, by simp⟩
 ·simp [Value.cells] at hcs
  obtain ⟨rfl, rfl, rfl⟩ := hcs; simp only [if_true] at hmm
  have hsp : 0 < len0 → a.spot = none := by
   intro h0; obtain ⟨cs', h1, h2⟩ := hcell 0 (by omega); rw [ce] at h1; obtain ⟨_, hlen, hcl⟩ := World.cells?_some h1; obtain ⟨o, rfl, -⟩ := fct_cells (by simpa using hlen) h2; have q0 := hcl 0 (by omega); rw [Deep.add_add] at q0
   simpa [Addr.add] using World.cell?_spot q0
  have hel : ∀ i, i < len0 → ∃ o : FX, ∃ b off, a = ⟨b, off, none⟩ ∧ o.wf ∧ ∀ k u, o.cells[k]? = some u → W.cell? ⟨b, off + i * 14 + k, none⟩ = some u := by
   intro i hi; obtain ⟨cs', h1, h2⟩ := hcell i (by omega); rw [ce] at h1; obtain ⟨_, hlen, hcl⟩ := World.cells?_some h1; obtain ⟨o, ho, hw⟩ := fct_cells (by simpa using hlen) h2; subst ho; obtain ⟨b, off, spot⟩ := a; obtain rfl : spot = none := hsp (by omega); refine ⟨o, b, off, rfl, hw, fun k u hu => ?_⟩
   have hk : k < 14 := (Array.getElem?_eq_some_iff.1 hu).1; have q := hcl k (by omega); rw [Deep.add_add, add_plain, Array.getElem?_toList, hu] at q; rw [Nat.add_assoc]; exact q
  let f : Nat → FX := fun i => if h : i < len0 then (hel i h).choose else noF
  refine ⟨(List.range len0).map f, ⟨some a, cap0, by simp, fun j hj => ?_⟩, by simp; omega⟩
  have hj' : j < len0 := by simpa using hj
  have e : f j = (hel j hj').choose := by show (if h : j < len0 then (hel j h).choose else noF) = _; rw [dif_pos hj']
  obtain ⟨b, off, h1, h2, h3⟩ := (hel j hj').choose_spec; refine ⟨b, off, by rw [h1], ?_⟩
  rw [List.getElem_map, List.getElem_range, e]; exact ⟨h2, h3⟩
theorem info_rowW : (Tryz.prog.info? 55).map (fun i => (i.zero, i.size, i.bytes)) = some (some (.slice none 0 0), 1, 24) := by kernel_rfl
def OwB (base : Nat) (gs : List (List Int × Value)) (w : World) : Prop := ∀ g ∈ gs, w.ownsRow base 5 1 g.2 g.1.length (g.1.map (Value.int .u8)) ∧ InB g.1
theorem OwB.kp {base : Nat} {gs : List (List Int × Value)} {w w' : World} (h : OwB base gs w) (hk : Kp w w') : OwB base gs w' := fun g hg => ⟨oK (h g hg).1 hk, (h g hg).2⟩
theorem OwB.grows {base b' n : Nat} {gs : List (List Int × Value)} {w w' : World} {v : Value} {xs : List Value} (h : OwB base gs w) (hown : w.ownsRow b' 55 1 v n xs) (hgr : w.grownBy w' v.ownBlock) : OwB base gs w' :=
 fun g hg => ⟨own_grows hown hgr (h g hg).1 (by decide), (h g hg).2⟩
theorem rows1_any (ads : List Addr) (h3' : 3 < ads.length) (P : Addr) (a : Option Addr) (cap n : Nat) (fs : List FX) (hn : fs.length = n) (hl : n ≤ 1000) (w : World) (C : FacC ads w) (hp : w.cell? P = some (.slice a n cap)) (hs : SlFc (.slice a n cap) fs w) :
  Calls Tryz.prog 46 #[.pointer (some P)] w fun e w' => ((fs.all rightF = true ∧ ∃ (v : Value) (gs : List (List Int × Value)), e = .returned v ∧ gs.map (·.1) = fs.map encF ∧ w'.ownsRow w.heap.size 55 1 v gs.length (gs.map (·.2)) ∧ OwB w.heap.size gs w') ∨ (fs.all rightF = false ∧ e = .panicked [{ v := snt (ads[3]'h3'), recovered := false }])) ∧ Kp w w' := by
 have HEO := hD (fun w1 (hk : Kp w w1) (f : FX) (hr : rightF f = true) => C.encOk w1 hk f hr); have HEB := hD (fun w1 (hk : Kp w w1) (f : FX) (hf : f.wf) (hr : rightF f = false) => C.encBad w1 hk f hf hr); have h4 : errI ads 4 = snt (ads[3]'h3') := errI_at ads 3 h3'; rw [h4] at HEB; obtain ⟨a3, ha3⟩ : ∃ x, ads[3]'h3' = x := ⟨_, rfl⟩
 rw [ha3] at HEB ⊢; have HSF := hD (fun w1 (hk : Kp w w1) => hs.kp hk); have HN := hD hn; have HIF := hD (info_parts info_rowW); have hsf := sF; clear C hs hn h4 ha3; go_enter Tryz.func46, Tryz.ntmps46; go_wp2; go_loopw [2, 7] (fun v i wr => ∃ (j : Nat) (gs : List (List Int × Value)), j ≤ n ∧ i = .int .i64 j ∧ gs.map (·.1) = (fs.take j).map encF ∧ (∀ f ∈ fs.take j, rightF f = true) ∧ wr.ownsRow w.heap.size 55 1 v gs.length (gs.map (·.2)) ∧ OwB w.heap.size gs wr ∧ Kp w wr) (fun _ i _ => n - (intOf i).toNat)
 case atStart => exact ⟨0, [], Nat.zero_le _, rfl, rfl, (fun f hf => by cases hf), own_nilF _ _ _ _, (fun g hg => by cases hg), Kp.refl w⟩
 case round =>
  obtain ⟨j, gs, hj, rfl, hgs, hrt, hown, hod, hk⟩ := hrel; obtain ⟨jj, hjj⟩ : ∃ jj : Int, (j : Int) = jj := ⟨_, rfl⟩
  rw [hjj]; obtain ⟨HK, HOW, HOD, HGS, HRT⟩ := hD5 hk hown hod hgs hrt
  by_cases hlt : j < n
  ·have hjl : j < fs.length := by rw [HN.out]; exact hlt
   obtain ⟨b, off, rfl, hwf, hc⟩ := (HSF.out wr hk).at j hjl; have hsn : fs.take (j + 1) = fs.take j ++ [fs[j]] := by rw [← List.take_succ_eq_append_getElem hjl]
   have hmem : fs[j] ∈ fs := List.getElem_mem hjl; obtain ⟨y, hy⟩ : ∃ y, fs[j] = y := ⟨_, rfl⟩
   rw [hy] at hwf hc hsn hmem; have ej : j = jj.toNat := by omega
   have j0 : 0 ≤ jj := by omega
   have hltj : jj < n := by omega
   obtain ⟨HJ, HSN⟩ := hD2 hjj hsn; obtain ⟨kl, hkl⟩ : ∃ x, gs.length = x := ⟨_, rfl⟩
   have hk9 : kl ≤ 1000 := by
    have h1 := congrArg List.length hgs; rw [List.length_map, List.length_map, List.length_take] at h1; omega
   cases hr : rightF y with
   | false =>
    have HB := hD (fun w1 (hk : Kp w w1) => HEB.out w1 hk y hwf hr); have HAF := hD (show fs.all rightF = false from by
     refine Bool.eq_false_iff.2 fun q => ?_
     have := List.all_eq_true.1 q y hmem; rw [hr] at this
     cases this)
    obtain ⟨k0, n0, s0, r0, u0, p0, q0, o0, d0, e0, t0, hh0, c0, x0⟩ := y; rw [ej] at hc; have g0 : wr.cell? ⟨b, off + jj.toNat * 14, none⟩ = some (.int .i64 k0) := hc 0 _ rfl; have g1 : wr.cell? ⟨b, off + jj.toNat * 14 + 1, none⟩ = some (.int .i64 n0) := hc 1 _ rfl; have g2 : wr.cell? ⟨b, off + jj.toNat * 14 + 2, none⟩ = some (.int .i64 s0) := hc 2 _ rfl; have g3 : wr.cell? ⟨b, off + jj.toNat * 14 + 3, none⟩ = some (.int .i64 r0) := hc 3 _ rfl; have g4 : wr.cell? ⟨b, off + jj.toNat * 14 + 4, none⟩ = some (.int .i64 u0) := hc 4 _ rfl; have g5 : wr.cell? ⟨b, off + jj.toNat * 14 + 5, none⟩ = some (.int .i64 p0) := hc 5 _ rfl; have g6 : wr.cell? ⟨b, off + jj.toNat * 14 + 6, none⟩ = some (.int .i64 q0) := hc 6 _ rfl; have g7 : wr.cell? ⟨b, off + jj.toNat * 14 + 7, none⟩ = some (.int .i64 o0) := hc 7 _ rfl; have g8 : wr.cell? ⟨b, off + jj.toNat * 14 + 8, none⟩ = some (.int .i64 d0) := hc 8 _ rfl
    have g9 : wr.cell? ⟨b, off + jj.toNat * 14 + 9, none⟩ = some (.int .i64 e0) := hc 9 _ rfl; have g10 : wr.cell? ⟨b, off + jj.toNat * 14 + 10, none⟩ = some (.int .i64 t0) := hc 10 _ rfl; have g11 : wr.cell? ⟨b, off + jj.toNat * 14 + 11, none⟩ = some (.int .i64 hh0) := hc 11 _ rfl; have g12 : wr.cell? ⟨b, off + jj.toNat * 14 + 12, none⟩ = some (.int .i64 c0) := hc 12 _ rfl; have g13 : wr.cell? ⟨b, off + jj.toNat * 14 + 13, none⟩ = some (.float .f64 x0) := hc 13 _ rfl; dsimp only [FX.cells] at HB; have KX := hD (kT hk (kA wr (.cells #[k0, n0, s0, r0, u0, p0, q0, o0, d0, e0, t0, hh0, c0, x0] 39))); obtain ⟨b0, b1, b2, b3, b4, b5, b6, b7, b8, b9, b10, b11, b12, b13⟩ := cZ (mH wr (.cells #[k0, n0, s0, r0, u0, p0, q0, o0, d0, e0, t0, hh0, c0, x0] 39)); clear hc hwf hsn hmem hy hjl hlt ej hjj hown hod hgs hrt hr hk hkl hk9; go_wp2_with (first
     | (go_at_call 48; (with_reducible refine (HB.out _ KX.out).mono ?_); rintro e w5 ⟨rfl, hk5⟩; have K5 := hD (kT KX.out hk5); clear hk5)
     | (go_at_call 47; (with_reducible refine (must_bytes_f _ _ _).mono ?_); rintro e w' ⟨rfl, rfl⟩))
    exact ⟨rfl, .inr ⟨HAF.out, rfl⟩, K5.out⟩
   | true =>
    have HB := HEO.out (wr.alloc (.cells y.cells 39)) (kT hk (kA _ _)) y hr; have hin : InB (encF y) := encF_in y; have hgs2 : ∀ u : Value, (gs ++ [(encF y, u)]).map (·.1) = (fs.take (j + 1)).map encF := fun u => by
     rw [List.map_append, hgs, hsn, List.map_append]
     rfl
    have hrt2 : ∀ f ∈ fs.take (j + 1), rightF f = true := fun f hf => by
     rw [hsn] at hf
     rcases List.mem_append.1 hf with hf | hf
     ·exact hrt f hf
     ·obtain rfl := List.mem_singleton.1 hf; exact hr
    obtain ⟨ey, hey⟩ : ∃ z, encF y = z := ⟨_, rfl⟩
    rw [hey] at HB hin hgs2; obtain ⟨nn, hnn⟩ : ∃ z, ey.length = z := ⟨_, rfl⟩
    rw [hnn] at HB; obtain ⟨HNN, HIN, HGS2, HRT2⟩ := hD4 hnn hin hgs2 hrt2; obtain ⟨k0, n0, s0, r0, u0, p0, q0, o0, d0, e0, t0, hh0, c0, x0⟩ := y; rw [ej] at hc; have g0 : wr.cell? ⟨b, off + jj.toNat * 14, none⟩ = some (.int .i64 k0) := hc 0 _ rfl; have g1 : wr.cell? ⟨b, off + jj.toNat * 14 + 1, none⟩ = some (.int .i64 n0) := hc 1 _ rfl; have g2 : wr.cell? ⟨b, off + jj.toNat * 14 + 2, none⟩ = some (.int .i64 s0) := hc 2 _ rfl; have g3 : wr.cell? ⟨b, off + jj.toNat * 14 + 3, none⟩ = some (.int .i64 r0) := hc 3 _ rfl; have g4 : wr.cell? ⟨b, off + jj.toNat * 14 + 4, none⟩ = some (.int .i64 u0) := hc 4 _ rfl; have g5 : wr.cell? ⟨b, off + jj.toNat * 14 + 5, none⟩ = some (.int .i64 p0) := hc 5 _ rfl; have g6 : wr.cell? ⟨b, off + jj.toNat * 14 + 6, none⟩ = some (.int .i64 q0) := hc 6 _ rfl; have g7 : wr.cell? ⟨b, off + jj.toNat * 14 + 7, none⟩ = some (.int .i64 o0) := hc 7 _ rfl
    have g8 : wr.cell? ⟨b, off + jj.toNat * 14 + 8, none⟩ = some (.int .i64 d0) := hc 8 _ rfl; have g9 : wr.cell? ⟨b, off + jj.toNat * 14 + 9, none⟩ = some (.int .i64 e0) := hc 9 _ rfl; have g10 : wr.cell? ⟨b, off + jj.toNat * 14 + 10, none⟩ = some (.int .i64 t0) := hc 10 _ rfl; have g11 : wr.cell? ⟨b, off + jj.toNat * 14 + 11, none⟩ = some (.int .i64 hh0) := hc 11 _ rfl; have g12 : wr.cell? ⟨b, off + jj.toNat * 14 + 12, none⟩ = some (.int .i64 c0) := hc 12 _ rfl; have g13 : wr.cell? ⟨b, off + jj.toNat * 14 + 13, none⟩ = some (.float .f64 x0) := hc 13 _ rfl; dsimp only [FX.cells] at HB; have HB := hD HB; have KX := hD (kA wr (.cells #[k0, n0, s0, r0, u0, p0, q0, o0, d0, e0, t0, hh0, c0, x0] 39)); obtain ⟨b0, b1, b2, b3, b4, b5, b6, b7, b8, b9, b10, b11, b12, b13⟩ := cZ (mH wr (.cells #[k0, n0, s0, r0, u0, p0, q0, o0, d0, e0, t0, hh0, c0, x0] 39)); rw [hkl] at hown HOW; have HKL := hD hkl
    have hwsz := Below.size hk; have HWS := hD hwsz; obtain ⟨i0, hi, hz0, hz1, hz2⟩ := HIF.out; have HI := hD (And.intro hz1 hz2); obtain ⟨HI2, HI3⟩ := hD2 hi hz0; clear hc hwf hsn hmem hy hjl hlt ej hjj hown hod hgs hrt hr hk hkl hey hnn hin hgs2 hrt2 hi hz0 hz1 hz2 hwsz; go_wp2_with (first
     | (go_at_call 48; (with_reducible refine HB.out.mono ?_); rintro e w5 ⟨a5, c5, rfl, -, ho5, hk5⟩; have HO5 := hD ho5; have K5 := hD (kT KX.out hk5); have K6 := hD (kT (kT KX.out hk5) (kA w5 (.cells #[.slice a5 nn c5] 55))); have OW6 := hD (oK HOW.out K6.out); clear ho5 hk5)
     | (go_at_call 47; (with_reducible refine (must_bytes_t _ _).mono ?_); rintro e w' ⟨rfl, rfl⟩)
     | (at_builtin; refine wpList_append_own _ rfl (.tmp 11) (.tmp 17) 49 rfl w.heap.size 55 i0 (.slice none 0 0) 1 24 Tryz.underlying49 HI2.out HI3.out HI.out.1 HI.out.2 rfl (by decide) _ _ _ rfl OW6.out ⟨w5.heap.size, 0, none⟩ 1 1 [.slice a5 nn c5] rfl ?c1 ?c2 ?c3 ?c4 ?c5 ?c6 ?_))
    case c1 => rfl
    case c2 =>
     intro i u hi; have hj : i < 1 := (List.getElem?_eq_some_iff.1 hi).1; obtain rfl : i = 0 := by omega
     have e2 : (Value.slice a5 nn c5) = u := by simpa using hi
     rw [← e2, Addr.add_lit]; exact box_cell w5 _ _
    case c3 => exact fun u hu => by obtain rfl := List.mem_singleton.1 hu; rfl
    case c4 => unfold maxLen; omega
    case c5 => omega
    case c6 => exact Below.size (kT HK.out K6.out)
    rintro v6 w6 hown6 hgr6 -; have kp6 : Kp w w6 := rows_kp OW6.out hgr6 (kT HK.out K6.out); have hb6 : w.heap.size ≤ (wr.alloc (.cells #[k0, n0, s0, r0, u0, p0, q0, o0, d0, e0, t0, hh0, c0, x0] 39)).heap.size := Nat.le_trans HWS.out (Below.size KX.out); have od6 : OwB w.heap.size (gs ++ [(ey, Value.slice a5 nn c5)]) w6 := by
     intro g hg
     rcases List.mem_append.1 hg with hg | hg
     ·exact ((HOD.out.kp K6.out).grows OW6.out hgr6) g hg
     ·obtain rfl := List.mem_singleton.1 hg; refine ⟨own_grows OW6.out hgr6 (oK (own_mono ?_ hb6) (kA w5 _)) (by decide), HIN.out⟩
      have := HO5.out; rw [← HNN.out] at this ⊢; exact this
    have own6 : w6.ownsRow w.heap.size 55 1 v6 (gs ++ [(ey, Value.slice a5 nn c5)]).length ((gs ++ [(ey, Value.slice a5 nn c5)]).map (·.2)) := by
     rw [List.length_append, List.length_singleton, HKL.out, List.map_append]; exact hown6
    obtain ⟨O6, D6, KQ6⟩ := hD3 own6 od6 kp6; clear own6 od6 kp6 hown6 hgr6 hb6; go_wp2; have hjj := HJ.out; go_roundw
    case rel => exact ⟨j + 1, gs ++ [(ey, Value.slice a5 nn c5)], by omega, by congr 1; omega, HGS2.out _, HRT2.out, O6.out, D6.out, KQ6.out⟩
    case measure => simp [intOf]; omega
  ·obtain rfl : j = n := by omega
   have hful : fs.take j = fs := List.take_of_length_le (by rw [HN.out]; exact Nat.le_refl _); rw [hful] at hgs hrt; have HG2 := hD hgs; have HA2 := hD (List.all_eq_true.2 hrt); have hex : ¬ jj < j := by omega
   clear hown hod hgs hrt hk hlt hful hjj; go_wp2; go_ret; exact ⟨.inl ⟨List.all_eq_true.1 HA2.out, _, rfl, gs, HG2.out, HOW.out, HOD.out⟩, HK.out⟩
theorem room_of {w : World} {B n c : Nat} {e : TypeId} {v : Value} {a : Option Addr} {us : List Value} {m : Nat} (h : w.ownsRow B e 1 v n us) (hf : v = .slice a m c) : n ≤ c := by
 subst hf
 rcases h.2 with ⟨h1, h2⟩ | ⟨g, cap, cur, h1, h2, h3, h4, h5⟩
 ·omega
 ·injection h1 with _ _ e3
  omega
theorem OwB.slbc {base b' n : Nat} {gs : List (List Int × Value)} {w : World} {v : Value} (h : OwB base gs w) (hown : w.ownsRow b' 55 1 v n (gs.map (·.2))) : SlBC v (gs.map (·.1)) w := by
 have hl : gs.length = n := by simpa using hown.1
 rcases hown.2 with ⟨rfl, rfl⟩ | ⟨g, cap, cur, rfl, _⟩
 ·have : gs = [] := List.length_eq_zero_iff.1 hl; subst this; exact .inl ⟨rfl, none, 0, rfl, fun _ => rfl⟩
 ·by_cases h0 : n = 0
  ·subst h0; have : gs = [] := List.length_eq_zero_iff.1 hl; subst this; exact .inl ⟨rfl, _, _, rfl, fun e => by cases e⟩
  ·refine .inr ⟨g, 0, cap, by simp; omega, by simp [hl], fun j hj => ?_⟩
   have hj' : j < gs.length := by simpa using hj
   obtain ⟨h1, h2⟩ := h gs[j] (List.getElem_mem hj'); obtain ⟨a, c, hf, -⟩ := enc_len h1; have hc := hown.cellAt j (by omega); refine ⟨a, c, ?_, ?_, ?_, ?_⟩
   ·rw [Nat.zero_add, hc]
    simp [hj', hf]
   ·rw [List.getElem_map, ← hf]; exact own_slb h1
   ·rw [List.getElem_map]; exact h2
   ·rw [List.getElem_map]; exact room_of h1 hf
theorem facRowsC_any (ads : List Addr) (a : Option Addr) (cap n : Nat) (fs : List FX) (hn : fs.length = n) (hl : n ≤ 1000) (w : World) (V : St ads w) (C : FacC ads w) (hs : SlFc (.slice a n cap) fs w) :
  Calls Tryz.prog 17 #[.slice a n cap] w fun e w' => ((fs.all rightF = true ∧ ∃ (a2 : Option Addr) (c2 : Nat), e = .returned (.tuple #[.slice a2 n c2, .nilIface]) ∧ SlBC (.slice a2 n c2) (fs.map encF) w') ∨ (fs.all rightF = false ∧ e = .returned (.tuple #[.slice none 0 0, errI ads 4]))) ∧ Kp w w' := by
 have h3 : 3 < ads.length := by rw [V.len]; decide
 have h4 : errI ads 4 = snt (ads[3]'h3) := errI_at ads 3 h3; have hmf : ∀ (fn : Fn) (first cap : Array Value) (w : World), (Instr.makeFunc fn first cap).run Tryz.prog w = .ok (.func fn first cap) w := fun _ _ _ _ => rfl
 have kb := kA w (.cells #[.slice a n cap] 22); have hc := box_cell w (.slice a n cap) 22; have HR := fun (w1 : World) (hk : Kp (w.alloc (.cells #[.slice a n cap] 22)) w1) => rows1_any ads h3 ⟨w.heap.size, 0, none⟩ a cap n fs hn hl w1 (C.kp (kT kb hk)) (kZ hk hc) (hs.kp (kT kb hk))
 cases hA : fs.all rightF with
 | true =>
  suffices hz : Calls Tryz.prog 17 #[.slice a n cap] w fun e w' => (∃ (a2 : Option Addr) (c2 : Nat), e = .returned (.tuple #[.slice a2 n c2, .nilIface]) ∧ SlBC (.slice a2 n c2) (fs.map encF) w') ∧ Kp w w' from hz.mono (fun _ _ ⟨h, hk⟩ => ⟨.inl ⟨rfl, h⟩, hk⟩)
  have HT := hD (try_rows_ret 46 #[.pointer (some ⟨w.heap.size, 0, none⟩)] (w.alloc (.cells #[.slice a n cap] 22)) (fun v w1 w2 => ∃ gs : List (List Int × Value), gs.map (·.1) = fs.map encF ∧ w2.ownsRow w1.heap.size 55 1 v gs.length (gs.map (·.2)) ∧ OwB w1.heap.size gs w2 ∧ Kp w1 w2) (by intro w; simp [go_sem]) (fun w1 hb1 _ => (HR w1 hb1).mono (by
   rintro e w2 ⟨⟨_, v, gs, rfl, h1, h2, h3⟩ | ⟨h, _⟩, hk2⟩
   ·exact ⟨v, rfl, past_of hk2, gs, h1, h2, h3, hk2⟩
   ·rw [hA] at h; cases h)))
  obtain ⟨HN, KB⟩ := hD2 hn kb; clear HR hs V C hc h3 h4 hA hn kb; go_enter Tryz.func17, Tryz.ntmps17; go_wp2_with (go_at_call 45; (with_reducible refine HT.out.mono ?_); rintro e w5 ⟨v, rfl, w1, w2, hb1, hs1, ⟨gs, hg1, hg2, hg3, hg4⟩, hb2, ha2⟩; have O5 := hD (own_aside hg2 ha2 (by omega)); have D5 : Hid (OwB w1.heap.size gs w5) := hD (fun g hg => ⟨own_aside (hg3 g hg).1 ha2 (by omega), (hg3 g hg).2⟩); have K5 := hD (kT KB.out (kp_of_mid hb1 hg4 hb2)); have G5 := hD hg1; clear hb1 hs1 hg1 hg2 hg3 hg4 hb2 ha2)
  go_ret2
  have hl2 : gs.length = n := by
   have := congrArg List.length G5.out; rw [List.length_map, List.length_map, HN.out] at this; exact this
  obtain ⟨a2, c2, hv, -⟩ := enc_len O5.out; have hsl := D5.out.slbc O5.out; rw [G5.out] at hsl; rw [hl2] at hv; subst hv
  first
   | exact ⟨⟨a2, c2, rfl, hsl⟩, K5.out⟩
   | exact ⟨hsl, K5.out⟩
 | false =>
  suffices hz : Calls Tryz.prog 17 #[.slice a n cap] w fun e w' => e = .returned (.tuple #[.slice none 0 0, errI ads 4]) ∧ Kp w w' from hz.mono (fun _ _ ⟨h, hk⟩ => ⟨.inr ⟨rfl, h⟩, hk⟩)
  have HT := hD (try_rows_err ads 3 h3 46 #[.pointer (some ⟨w.heap.size, 0, none⟩)] (w.alloc (.cells #[.slice a n cap] 22)) (V.below kb) (by intro w; simp [go_sem]) (fun w1 hb1 => (HR w1 hb1).mono (by
   rintro e w2 ⟨⟨h, _⟩ | ⟨_, rfl⟩, hk2⟩
   ·rw [hA] at h; cases h
   ·exact ⟨rfl, hk2⟩)))
  rw [← h4] at HT; have KB := hD kb; clear HR hs V C hc h4 hA hn kb; go_enter Tryz.func17, Tryz.ntmps17; go_wp2_with (go_at_call 45; (with_reducible refine HT.out.mono ?_); rintro e w5 ⟨rfl, hk5⟩; have K5 := hD (kT KB.out hk5); clear hk5)
  go_ret2
  exact ⟨rfl, K5.out⟩
theorem doS_node {m m2 : StM} {f : FX} (h : doS m f = some m2) : m2.node = m.node := by
 unfold doS at h
 repeat' split at h
 all_goals first
  | (cases h; done)
  | (obtain rfl := Option.some.inj h; rfl)
  | (obtain ⟨z, -, hz⟩ := Option.map_eq_some_iff.1 h; subst hz; rfl)
  | (unfold actS at h; (repeat' split at h); all_goals first
     | (cases h; done)
     | (obtain rfl := Option.some.inj h; rfl)
     | (obtain ⟨z, -, hz⟩ := Option.map_eq_some_iff.1 h; subst hz; rfl))
theorem applyQ_stay {m : StM} {f : FX} (h : (applyQ m f).1 ≠ 0) : (applyQ m f).2 = m := by
 cases hr : rightF f with
 | false => rw [applyQ_bad hr]
 | true =>
  cases hd : doS m f with
  | none => rw [aZ hr hd]
  | some m2 => rw [aS hr hd] at h; exact absurd rfl h
theorem applyQ_yes {m : StM} {f : FX} (h : (applyQ m f).1 = 0) : rightF f = true ∧ doS m f = some (applyQ m f).2 := by
 cases hr : rightF f with
 | false => rw [applyQ_bad hr] at h; exact absurd h (by simp)
 | true =>
  cases hd : doS m f with
  | none => rw [aZ hr hd] at h; exact absurd h (by simp)
  | some m2 => rw [aS hr hd]; exact ⟨rfl, rfl⟩
theorem applyQ_node {m : StM} {f : FX} : (applyQ m f).2.node = m.node := by
 by_cases h : (applyQ m f).1 = 0
 ·exact doS_node (applyQ_yes h).2
 ·rw [applyQ_stay h]
theorem rowsRun_enc : ∀ (l : List FX) (m m' : StM), runS m l = some m' → rowsRun m (l.map encF) = some m'
 | [], _, _, h => h
 | f :: l, m, m', h => by
  have hr := run_right (f :: l) m m' h f List.mem_cons_self; unfold runS at h
  cases hs : stepS m f with
  | none => rw [hs] at h; simp at h
  | some m2 =>
   rw [hs] at h; have h : runS m2 l = some m' := h; unfold stepS at hs; rw [if_pos hr] at hs
   show rowsRun m (encF f :: l.map encF) = some m'
   unfold rowsRun; rw [dec_encF hr, aS hr hs]; exact rowsRun_enc l m2 m' h
theorem replay_rows {m : StM} (ok : OkS m) : rowsRun (newSt m.node) ((factsS m).map encF) = some m := rowsRun_enc _ _ _ (replay ok)
theorem all_right {m : StM} (ok : OkS m) : (factsS m).all rightF = true := List.all_eq_true.2 fun f hf => run_right _ _ _ (replay ok) f hf
theorem own_slfc {w : World} {B n : Nat} {v : Value} {xs : List FX} (o : w.ownsRow B 39 14 v n (fcE.row xs)) (hn : xs.length = n) (hw : ∀ f ∈ xs, f.wf) : SlFc v xs w := by
 subst hn; obtain ⟨a, c, rfl⟩ := fG o; refine ⟨a, c, rfl, fun j hj => ?_⟩
 obtain ⟨g, cp, e, _, _, _, _, hc⟩ := cQ (E := fcE) o rfl hj; injection e with e _ _
 refine ⟨g, 0, e, hw _ (List.getElem_mem hj), fun i u hu => ?_⟩
 rw [Nat.zero_add]; have hi : i < 14 := by
  obtain ⟨h, _⟩ := Array.getElem?_eq_some_iff.1 hu; exact h
 exact hc i u hi (by show (xs[j].cells.toList)[i]? = some u; rw [Array.getElem?_toList]; exact hu)
theorem GS.beside {T : TyQ} {B q : Nat} {m : StM} {gs : List AcG} {va vp : Value} {O O' : Nat → Prop} {w w' : World} (h : GS T B q m gs va vp w) (a : Asd O O' w w') (hd : ∀ b, Ow q gs va vp b → ¬ O b) : GS T B q m gs va vp w' := h.stay fun b hb => a.block b (h.mem b hb).2 (hd b hb)
variable {w0 w w' W w3 : World} {B q : Nat} {m : StM} {gs : List AcG} {va vp : Value}
theorem refApply_any (Hs : GS tyD B q m gs va vp w) (ok : OkS m) (f : FX) (hwf : f.wf) : Calls Tryz.prog 12 #[.pointer (some ⟨q, 0, none⟩), .agg f.cells] w fun r w' => r = .returned (.int .i64 (applyQ m f).1) ∧ ∃ gs' va' vp', GS tyD B q (applyQ m f).2 gs' va' vp' w' ∧ Asd (Ow q gs va vp) (Ow q gs' va' vp') w w' := by
 cases hR : rightF f with
 | false => exact refApply_no Hs f hwf hR
 | true =>
  have hk := kind_of hR; obtain ⟨k, fn, fs, fr, fe, fp, fq, fo, fd, fa, ft, fh, fc, fx⟩ := f; dsimp only at hk; have : k = 1 ∨ k = 2 ∨ k = 3 ∨ k = 4 ∨ k = 5 ∨ k = 6 ∨ k = 7 ∨ k = 8 := by omega
  rcases this with rfl | rfl | rfl | rfl | rfl | rfl | rfl | rfl
  ·exact refApply1 Hs ok fn fs fr fe fp fq fo fd fa ft fh fc fx hR
  ·exact refApply2 Hs ok fn fs fr fe fp fq fo fd fa ft fh fc fx hR
  ·exact refApply3 Hs ok fn fs fr fe fp fq fo fd fa ft fh fc fx hR
  ·exact refApply4 Hs ok fn fs fr fe fp fq fo fd fa ft fh fc fx hR
  ·exact refApply5 Hs ok fn fs fr fe fp fq fo fd fa ft fh fc fx hR
  ·exact refApply6 Hs ok fn fs fr fe fp fq fo fd fa ft fh fc fx hR
  ·exact refApply7 Hs ok fn fs fr fe fp fq fo fd fa ft fh fc fx hR
  ·exact refApply8 Hs ok fn fs fr fe fp fq fo fd fa ft fh fc fx hR
end Go.Proofs.YtpemeenfhkgmpaaGreatDoor
