/-
  A NET's CODE KEEPS ITS CONTRACTS (own work): Letters.
-/
import Derived.Test.YtjffkfcokgcenaaDoorNtG
namespace Go.Proofs.YtjffkfcokgcenaaDoor
open Go.RowKit Go.Shelf Go.ChangeShapes Go.WideShapes

attribute [local go_sem] Oper.semAt_some
variable {w0 w w' W w3 wL W5 Wc : World} {q mb q1 l n j : Nat} {m : NetM} {v v' vl v8 : Value} {ps ps' pl : List LtP} {ads : List Addr} {p' : LtP} {rec rb : Loop}

/-- LETTERS HANDED OUT in memory of a call's own, no two of which share bytes -/
structure Hand (B : Nat) (f : List LtM) (v : Value) (ps : List LtP) (w : World) : Prop where
  own : w.ownsRow B 45 3 v f.length (pE.row ps)
  fs : ps.map (·.l) = f
  dat : ∀ p ∈ ps, DatP B p w
  apart : ps.Pairwise fun p q => ∀ b, p.v.ownBlock = some b → q.v.ownBlock ≠ some b
def HBl (v : Value) (ps : List LtP) (b : Nat) : Prop := v.ownBlock = some b ∨ ∃ p ∈ ps, p.v.ownBlock = some b
theorem Hand.mem {B : Nat} {f : List LtM} (h : Hand B f v ps w) : ∀ b, HBl v ps b → B ≤ b ∧ b < w.heap.size := by
  rintro b (hb | ⟨p, hp, hb⟩)
  · exact h.own.lt b hb
  · exact (h.dat p hp).lt b hb
theorem Hand.stay {B : Nat} {f : List LtM} (h : Hand B f v ps w) (hb : ∀ b, HBl v ps b → w'.heap[b]? = w.heap[b]?) : Hand B f v ps w' :=
  ⟨own_stayG h.own (fun b e => hb b (.inl e)), h.fs, fun p hp => own_stayG (h.dat p hp) (fun b e => hb b (.inr ⟨p, hp, e⟩)), h.apart⟩
theorem Hand.kp {B : Nat} {f : List LtM} (h : Hand B f v ps w) (hk : Kp w w') : Hand B f v ps w' := h.stay fun b hb => Below.block hk b (h.mem b hb).2
theorem Hand.base {B B' : Nat} {f : List LtM} (h : Hand B f v ps w) (hb : B' ≤ B) : Hand B' f v ps w := ⟨own_baseG h.own hb, h.fs, fun p hp => (h.dat p hp).base hb, h.apart⟩
theorem Hand.ne {B : Nat} {f : List LtM} (h : Hand B f v ps w) : ∀ p ∈ ps, ∀ b, v.ownBlock = some b → p.v.ownBlock ≠ some b := fun p hp b e e2 => by
  rcases h.own.2 with ⟨h1, _⟩ | ⟨g1, _, _, h1, _, hh1, _⟩
  · rw [h1] at e; cases e
  · rcases (h.dat p hp).2 with ⟨h2, _⟩ | ⟨g2, _, _, h2, _, hh2, _⟩
    · rw [h2] at e2; cases e2
    · rw [h1] at e
      rw [h2] at e2
      have e : g1 = b := by injection e
      have e2 : g2 = b := by injection e2
      subst e e2
      rw [hh1] at hh2
      injection hh2 with hh2
      injection hh2 with _ h3 _
      exact absurd h3 (by decide)
/-- BETWEEN TWO ROUNDS of Letters: but the list's box all is as it was; the list holds the first j -/
structure LJ (wL : World) (q1 : Nat) (ps : List LtP) (j : Nat) (W : World) : Prop where
  asd : Asd (fun b => b = q1) (fun b => b = q1) wL W
  box : ∃ vl pl, W.heap[q1]? = some (.cells #[vl] 42 (0, 0)) ∧ Hand wL.heap.size ((ps.map (·.l)).take j) vl pl W
theorem LJ.kp (h : LJ wL q1 ps j W) (hk : Kp W w') : LJ wL q1 ps j w' := by
  obtain ⟨vl, pl, h1, h2⟩ := h.box
  exact ⟨h.asd.trans (Asd.of_kp _ hk), vl, pl, kp_row hk h1, h2.kp hk⟩
theorem LJ.round (hA : Asd (fun b => b = q1) (fun b => b = q1) wL W) (hbx : W.heap[q1]? = some (.cells #[vl] 42 (0, 0))) (hL : Hand wL.heap.size ((ps.map (·.l)).take j) vl pl W) (hfr : ∀ b, HBl vl pl b → b < n) (hn : wL.heap.size ≤ n)
    (hp : (ps.map (·.l))[j]? = some p'.l) (D : DatP n p' W) (hl : l < wL.heap.size) (hlq : l ≠ q1) (hlp : wL.heap[l]? = some (.loop rec)) (hq : q1 < wL.heap.size)
    (hc : ∀ b, b < W.heap.size → b ≠ l → Wc.heap[b]? = W.heap[b]?) (hcl : Wc.heap[l]? = some (.loop rb)) (hcs : W.heap.size ≤ Wc.heap.size) (hos : Wc.os = W.os) (hta : Wc.tape = W.tape) (hou : Wc.output = W.output)
    (hg : Wc.grownBy W5 vl.ownBlock) (ho : W5.ownsRow wL.heap.size 45 3 v8 (j + 1) (pE.row (pl ++ [p']))) (hv8 : ∀ b, v8.ownBlock = some b → vl.ownBlock = some b ∨ Wc.heap.size ≤ b) :
    (W5.setCell ⟨q1, 0, none⟩ v8).heap[l]? = some (.loop rb) ∧ LJ wL q1 ps (j + 1) ((W5.setCell ⟨q1, 0, none⟩ v8).putObj l (.loop rec)) := by
  have hsz := hA.size
  have eS : ∀ (x : World) (b : Nat), b ≠ q1 → (x.setCell ⟨q1, 0, none⟩ v8).heap[b]? = x.heap[b]? := fun x b hb => Below.heap_setCell _ _ _ _ hb
  have eP : ∀ (x : World) (b : Nat), b ≠ l → (x.putObj l (.loop rec)).heap[b]? = x.heap[b]? := fun x b hb => World.putObj_heap_other hb
  have hvl : ∀ b, vl.ownBlock = some b → wL.heap.size ≤ b ∧ b < W.heap.size := hL.own.lt
  have e5 : ∀ b, b < W.heap.size → vl.ownBlock ≠ some b → b ≠ l → W5.heap[b]? = W.heap[b]? := fun b hb hne h2 => (hg.block b (by omega) (fun e => hne e.symm)).trans (hc b hb h2)
  have h5l : W5.heap[l]? = some (.loop rb) := (hg.block l (by omega) (fun e => by have := (hvl l e.symm).1; omega)).trans hcl
  have h5q : W5.heap[q1]? = some (.cells #[vl] 42 (0, 0)) := (e5 q1 (by omega) (fun e => by have := (hvl q1 e).1; omega) (fun e => hlq e.symm)).trans hbx
  have h6l : (W5.setCell ⟨q1, 0, none⟩ v8).heap[l]? = some (.loop rb) := (eS _ l hlq).trans h5l
  have hDp : ∀ x, x ∈ pl ∨ x = p' → DatP wL.heap.size x ((W5.setCell ⟨q1, 0, none⟩ v8).putObj l (.loop rec)) := fun x hx => by
    have hx1 : DatP wL.heap.size x W ∧ ∀ b, x.v.ownBlock = some b → vl.ownBlock ≠ some b := by
      rcases hx with hx | rfl
      · exact ⟨hL.dat x hx, fun b e e2 => hL.ne x hx b e2 e⟩
      · exact ⟨D.base hn, fun b e e2 => by have h1 := (D.lt b e).1; have h2 := hfr b (.inl e2); omega⟩
    refine own_stayG hx1.1 (fun b e => ?_)
    have h1 := hx1.1.lt b e
    rw [eP _ b (by omega), eS _ b (by omega)]
    exact e5 b h1.2 (hx1.2 b e) (by omega)
  have hlt : j < (ps.map (·.l)).length := (List.getElem?_eq_some_iff.1 hp).1
  have hge : (ps.map (·.l))[j] = p'.l := (List.getElem?_eq_some_iff.1 hp).2
  have htk : (ps.map (·.l)).take (j + 1) = (ps.map (·.l)).take j ++ [p'.l] := by rw [List.take_succ_eq_append_getElem hlt, hge]
  have hlen : ((ps.map (·.l)).take (j + 1)).length = j + 1 := by rw [List.length_take]; omega
  refine ⟨h6l, ⟨?_, ?_, ?_, ?_, fun b hb hne => ?_, fun b e => .inl e⟩, v8, pl ++ [p'], ?_, ⟨?_, ?_, fun x hx => hDp x ?_, ?_⟩⟩
  · exact hg.os.trans (hos.trans hA.os)
  · exact hg.tape.trans (hta.trans hA.tape)
  · exact hg.output.trans (hou.trans hA.output)
  · rw [World.putObj_size, World.size_setCell]; exact Nat.le_trans hsz (Nat.le_trans hcs hg.size)
  · by_cases h : b = l
    · subst h
      rw [World.putObj_heap_same (by exact old_of_row h6l)]
      exact hlp.symm
    · rw [eP _ b h, eS _ b hne, e5 b (by omega) (fun e => by have := (hvl b e).1; omega) h]
      exact hA.block b hb hne
  · rw [eP _ q1 (fun e => hlq e.symm)]
    exact (Joins.block_setCell h5q _).trans rfl
  · rw [hlen]
    refine own_stayG ho (fun b e => ?_)
    rcases hv8 b e with h | h
    · have h1 := hvl b h
      rw [eP _ b (by omega), eS _ b (by omega)]
    · rw [eP _ b (by omega), eS _ b (by omega)]
  · rw [List.map_append, hL.fs, htk]
    rfl
  · rcases List.mem_append.1 hx with h | h
    · exact .inl h
    · exact .inr (List.mem_singleton.1 h)
  · refine List.pairwise_append.2 ⟨hL.apart, List.pairwise_singleton _ _, fun x hx y hy b e e2 => ?_⟩
    rw [List.mem_singleton.1 hy] at e2
    have h1 := (D.lt b e2).1
    have h2 := hfr b (.inr ⟨x, hx, e⟩)
    omega
set_option maxRecDepth 100000 in
set_option maxHeartbeats 2000000 in
theorem ntLetters_any (H : Nt w0 q m v ps mb w) (hm : Nok m) : Calls Tryd.prog 15 #[.pointer (some ⟨q, 0, none⟩)] w fun r w' => ∃ v' ps', r = .returned v' ∧ Hand w.heap.size m.f v' ps' w' ∧ Kp w w' := by
  obtain ⟨av, cv, rfl⟩ := H.form
  have HH := Lib.hid H
  have HFS := Lib.hid H.fs
  have HM := Lib.hid hm
  obtain ⟨n, hN⟩ : ∃ n, m.f.length = n := ⟨_, rfl⟩
  have HNN := Lib.hid hN
  obtain ⟨wA, hA⟩ : ∃ x, w.alloc (.cells #[.slice none 0 0] 42) = x := ⟨_, rfl⟩
  obtain ⟨wB, hB⟩ : ∃ x, wA.alloc (.cells #[.slice av n cv] 42) = x := ⟨_, rfl⟩
  have kA : Kp w wA := by rw [← hA]; exact kp_alloc _ _
  have kB : Kp wA wB := by rw [← hB]; exact kp_alloc _ _
  have zA : wA.heap.size = w.heap.size + 1 := by rw [← hA]; simp
  have zB : wB.heap.size = w.heap.size + 2 := by rw [← hB]; simp [zA]
  have rA : wB.heap[w.heap.size]? = some (.cells #[.slice none 0 0] 42) := by refine kp_row kB ?_; rw [← hA]; exact (MapKept.heap_alloc w _).1
  have rB : wB.heap[w.heap.size + 1]? = some (.cells #[.slice av n cv] 42) := by rw [← hB, ← zA]; exact (MapKept.heap_alloc wA _).1
  have y0 := cell_row (i := 1) (kp_row kA H.row) rfl
  rw [hN] at y0
  rw [← hA] at y0
  have HE := Lib.hid (each_any av n cv wA)
  obtain ⟨q1, hq1⟩ : ∃ q1, w.heap.size = q1 := ⟨_, rfl⟩
  have HQ1 := Lib.hid hq1
  have HA := Lib.hid hA
  have HB := Lib.hid hB
  have HK := Lib.hid (And.intro kA (And.intro kB (And.intro zA zB)))
  have HR := Lib.hid (And.intro rA rB)
  clear H hm hN hA hB kA kB zA zB rA rB
  refine calls_of_marks Tryd.func15 rfl ?_
  simp only [Tryd.ntmps15, List.size_toArray, List.length_cons, List.length_nil, Nat.reduceAdd, Nat.reduceSub, Array.replicate_succ, Array.replicate_zero, List.push_toArray, List.append_toArray, List.nil_append, List.cons_append]
  go_wp2_with (go_at_call 30; (try rw [HA.out]); (with_reducible refine HE.out.mono ?_); rintro e w3 ⟨rfl, rfl⟩; (try rw [HB.out]))
  obtain ⟨kA, kB, zA, zB⟩ := HK.out
  obtain ⟨rA, rB⟩ := HR.out
  have hq1 := HQ1.out
  refine range_wp (gf := 44) (lb := #[.pointer (some ⟨wA.heap.size, 0, none⟩)]) rfl (enters_of Tryd.func44 (by kernel_rfl) rfl) ?_
  intro fn rec hrec
  have hst : rec.state = .ready := by rw [hrec]
  have hpr : rec.params = #[11, 12] := by rw [hrec]
  obtain ⟨wL, hL⟩ : ∃ x, (wB.alloc (.deferred (some []))).alloc (.loop rec) = x := ⟨_, rfl⟩
  have kL : Kp wB wL := by rw [← hL]; exact Kp.trans (kp_alloc _ _) (kp_alloc _ _)
  have zL : wL.heap.size = wB.heap.size + 2 := by rw [← hL]; simp
  have lL : wL.heap[wB.heap.size + 1]? = some (.loop rec) := by rw [← hL]; have := (MapKept.heap_alloc (wB.alloc (.deferred (some []))) (.loop rec)).1; rw [show (wB.alloc (.deferred (some []))).heap.size = wB.heap.size + 1 by simp] at this; exact this
  have dL : wL.heap[wB.heap.size]? = some (.deferred (some [])) := by rw [← hL]; refine kp_row (kp_alloc _ _) ?_; exact (MapKept.heap_alloc wB _).1
  rw [hL]
  have hLJ0 : LJ wL q1 ps 0 wL := ⟨Asd.refl _ _, _, [], kp_row kL (hq1 ▸ rA), ⟨World.ownsRow_nil _ _ _ _, rfl, fun p hp => (by cases hp), List.Pairwise.nil⟩⟩
  have KWL : Kp w wL := Kp.trans kA (Kp.trans kB kL)
  have hmem := HH.out.mem
  refine (eIter 3 (wB.heap.size + 1) wA.heap.size w0.heap.size (by omega) av n cv ps (fun p hp => (HM.out.dat p.l (HFS.out ▸ List.mem_map_of_mem hp)).1) (by have := HM.out.len; have := HNN.out; omega) (LJ wL q1 ps) (fun _ _ _ h hk => h.kp hk) ?hR ?hY wL hLJ0).mono ?done
  case hR =>
    intro j X h
    have ex : ∀ b, b < wL.heap.size → b ≠ q1 → X.heap[b]? = wL.heap[b]? := h.asd.block
    have eo : ∀ b, Ob q (.slice av m.f.length cv) ps mb b → X.heap[b]? = w.heap[b]? := fun b hb => by
      have := (hmem b hb).2
      rw [ex b (by omega) (by omega)]
      exact Below.block KWL b this
    have hX := HH.out.stay eo
    refine ⟨?_, HNN.out ▸ hX.own, fun p hp => (hX.dat p hp).slb⟩
    refine (World.cell?_of_block (a := ⟨wA.heap.size, 0, none⟩) (ex wA.heap.size (by omega) (by omega))).trans (kp_cell kL ?_)
    rw [zA]
    exact cell_row rB rfl
  case hY =>
    intro j p o c X0 X hj hk hp ho
    have hj1 := hj.kp hk
    obtain ⟨vl, pl, hb0, hL0⟩ := hj.box
    have hb1 := kp_row hk hb0
    have hL1 := hL0.kp hk
    have hps : (ps.map (·.l))[j]? = some p.l := by rw [List.getElem?_map, hp]; rfl
    have hjl : j < ps.length := (List.getElem?_eq_some_iff.1 hp).1
    have hplen := HH.out.plen
    have hm64 := HM.out.len
    have htk : ((ps.map (·.l)).take j).length = j := by rw [List.length_take, List.length_map]; omega
    obtain ⟨al, cl, hvl⟩ := own_formG hL1.own
    rw [htk] at hvl
    subst hvl
    obtain ⟨a, e1⟩ : ∃ a, p.l.a = a := ⟨_, rfl⟩
    obtain ⟨b, e2⟩ : ∃ b, p.l.b = b := ⟨_, rfl⟩
    obtain ⟨k, e4⟩ : ∃ k, p.l.d.length = k := ⟨_, rfl⟩
    have hlX : X.heap[wB.heap.size + 1]? = some (.loop rec) := (hj1.asd.block _ (by omega) (by omega)).trans lL
    have hD : DatP X0.heap.size ⟨p.l, o, c⟩ X := ho
    have HD := Lib.hid hD
    have HP' := Lib.hid (show (⟨p.l, o, c⟩ : LtP).l.a = a ∧ (⟨p.l, o, c⟩ : LtP).l.b = b ∧ (⟨p.l, o, c⟩ : LtP).v = .slice o k c from ⟨e1, e2, by unfold LtP.v; rw [e4]⟩)
    rw [e1, e2, e4]
    have HLL := Lib.hid (And.intro hL0 (And.intro hL1 (And.intro hb1 hj1.asd)))
    have HZ := Lib.hid (show wL.heap.size ≤ X0.heap.size ∧ X0.heap.size ≤ X.heap.size from ⟨hj.asd.size, Below.size hk⟩)
    have HJL := Lib.hid (And.intro hjl (And.intro htk hps))
    have HJ6 := Lib.hid (show j ≤ 64 by omega)
    have HX1 := Lib.hid (show q1 < wB.heap.size ∧ q1 < wL.heap.size by omega)
    clear hj1 hb0 hL0 hL1 hps hjl hplen hm64 htk e1 e2 e4 ho hD hj hk hp hmem
    have k8 := kp_alloc X (.cells #[.int .i64 a, .int .i64 b, .slice o k c] 45)
    have b8 := (MapKept.heap_alloc X (.cells #[.int .i64 a, .int .i64 b, .slice o k c] 45)).1
    have l8 := kp_row k8 hlX
    refine yield_of (r := rec) hlX hst (by rw [hpr]; rfl) trivial ?_
    have hca := congrArg Loop.assign hrec
    have hcb := congrArg Loop.body hrec
    have hct := congrArg Loop.tmps hrec
    dsimp only at hca hcb hct
    rw [hca, hcb, hct, hpr]
    have HREC := Lib.hid hrec
    have HB8 := Lib.hid (And.intro k8 (And.intro b8 l8))
    have HZL := Lib.hid (And.intro zL (And.intro zA (And.intro zB hq1)))
    clear hca hcb hct hpr hst hrec k8 b8 zL zA zB hq1
    refine region_round_seq (by kernel_rfl) (by rintro ⟨_, _, h⟩; exact h) ?_
    go_wp2
    generalize hWb : World.putObj _ (wB.heap.size + 1) (Obj.loop _) = Wb
    obtain ⟨k8, b8, l8⟩ := HB8.out
    obtain ⟨zL, zA, zB, hq1⟩ := HZL.out
    have hbs : ∀ x, x ≠ wB.heap.size + 1 → Wb.heap[x]? = (X.alloc (.cells #[.int .i64 a, .int .i64 b, .slice o k c] 45)).heap[x]? := fun x hx => by rw [← hWb]; exact World.putObj_heap_other hx
    have hbz : Wb.heap.size = X.heap.size + 1 := by rw [← hWb, World.putObj_size]; simp
    have hbl := HZ.out
    have bB : Wb.heap[X.heap.size]? = some (.cells #[.int .i64 a, .int .i64 b, .slice o k c] 45) := by rw [hbs _ (by omega)]; exact b8
    have bQ : Wb.heap[q1]? = some (.cells #[.slice al j cl] 42 (0, 0)) := by rw [hbs _ (by have := HX1.out; omega)]; exact kp_row k8 HLL.out.2.2.1
    have oB : Wb.ownsRow wL.heap.size 45 3 (.slice al j cl) j (pE.row pl) := by
      have h := HLL.out.2.1.own
      rw [HJL.out.2.1] at h
      refine own_stayG h (fun x hx => ?_)
      have h1 := h.lt x hx
      rw [hbs x (by omega)]
      exact Below.block k8 x h1.2
    have f0 := cell_row (i := 0) bB rfl
    have f1 := cell_row (i := 1) bB rfl
    have f2 := cell_row (i := 2) bB rfl
    have g0 := cell_row (i := 0) bQ rfl
    have kc := kp_alloc Wb (.cells #[.int .i64 a, .int .i64 b, .slice o k c] 45)
    have bC := (MapKept.heap_alloc Wb (.cells #[.int .i64 a, .int .i64 b, .slice o k c] 45)).1
    have HC := Lib.hid (And.intro kc (And.intro bC (And.intro bQ (And.intro oB (And.intro hbs hbz)))))
    have HWb := Lib.hid hWb
    clear k8 b8 l8 hbs hbz hbl bB bQ oB kc bC hWb zL zA zB hq1
    refine wpIn_block ?_
    refine region_round_seq (by kernel_rfl) (by rintro ⟨_, _, h⟩; exact h) ?_
    go_wp2_with (at_builtin; refine wpList_append_rwG (E := pE) ty_lt (by decide) _ rfl _ _ rfl wL.heap.size _ j pl rfl (own_kp3 HC.out.2.2.2.1 HC.out.1) _ [(⟨p.l, o, c⟩ : LtP)] rfl (part_oneP HC.out.2.1 HP'.out) ?d5 ?d6 ?_)
    case d5 => have := HJ6.out; simp; omega
    case d6 => have h1 := HC.out.2.2.2.2.2; have h2 := HZ.out; simp; omega
    rintro v5 w5 ho hg hv
    obtain ⟨a5, c5, rfl⟩ := own_formG ho
    have F5 := Lib.hid (And.intro ho (And.intro hg hv))
    have q5 : w5.heap[q1]? = some (.cells #[.slice al j cl] 42 (0, 0)) := by
      have h1 := HLL.out.2.1.own
      rw [HJL.out.2.1] at h1
      exact (hg.block q1 (by have h1 := HC.out.2.2.2.2.2; have h2 := HZ.out; have h3 := HX1.out; simp; omega) (fun e => by have := (h1.lt q1 e.symm).1; have := HX1.out; omega)).trans (kp_row HC.out.1 HC.out.2.2.1)
    have y5 := cell_row (i := 0) q5 rfl
    have fz5 := frozR q5
    clear ho hg hv q5
    go_wp2
    have k0 : (X.alloc (.cells #[.int .i64 a, .int .i64 b, .slice o k c] 45)).putObj (wB.heap.size + 1) (.loop { rec with state := .busy }) = Wb := by have h := HWb.out; rw [HREC.out] at h ⊢; exact h
    obtain ⟨k8, b8, l8'⟩ := HB8.out
    obtain ⟨zL, zA, zB, hq1⟩ := HZL.out
    obtain ⟨kc, bC, bQ, oB, hbs, hbz⟩ := HC.out
    have hx1 := HX1.out
    have lW : Wb.heap[wB.heap.size + 1]? = some (.loop { rec with state := .busy }) := by rw [← k0]; exact World.putObj_heap_same (old_of_row l8')
    have hg5 := F5.out.2.1
    have ho5 := F5.out.1
    have hL1 := HLL.out.2.1
    have RR := LJ.round (rb := { rec with state := .busy }) (Wc := Wb.alloc (.cells #[.int .i64 a, .int .i64 b, .slice o k c] 45)) (W5 := w5) (v8 := .slice a5 (j + 1) c5) HLL.out.2.2.2 HLL.out.2.2.1 hL1 (fun b hb => (HLL.out.1.mem b hb).2) HZ.out.1 (p' := ⟨p.l, o, c⟩) HJL.out.2.2 HD.out (by omega) (by omega) lL hx1.2
      (fun b hb hne => (Below.block kc b (by omega)).trans ((hbs b hne).trans (Below.block k8 b hb))) (kp_row kc lW) (by simp; omega) (by rw [← k0]; rfl) (by rw [← k0]; rfl) (by rw [← k0]; rfl) hg5 ho5 (fun b e => by simpa using F5.out.2.2 b e)
    refine ⟨RR.1, rfl, ?_⟩
    have e9 : ({ rec with state := .ready, pending := none } : Loop) = rec := by rw [HREC.out]
    rw [e9]
    exact RR.2
  case done =>
    rintro e X ⟨hv, hj⟩
    refine ⟨hv, (hj.asd.block _ (by omega) (by omega)).trans lL, fun o => ?_⟩
    obtain ⟨vl, pl, hb, hh⟩ := hj.box
    rw [List.take_of_length_le (by rw [List.length_map, HH.out.plen, HNN.out]; exact Nat.le_refl _), HFS.out] at hh
    obtain ⟨Y, hY⟩ : ∃ x, X.putObj (wB.heap.size + 1) o = x := ⟨_, rfl⟩
    rw [hY]
    have eY : ∀ b, b ≠ wB.heap.size + 1 → Y.heap[b]? = X.heap[b]? := fun b hb => by rw [← hY]; exact World.putObj_heap_other hb
    have zY : Y.heap.size = X.heap.size := by rw [← hY]; exact World.putObj_size
    have bY : Y.heap[q1]? = some (.cells #[vl] 42 (0, 0)) := (eY q1 (by omega)).trans hb
    have hY2 := hh.stay (w' := Y) (fun b hb => eY b (by have := (hh.mem b hb).1; omega))
    have dY : Y.heap[wB.heap.size]? = some (.deferred (some [])) := ((eY _ (by omega)).trans (hj.asd.block _ (by omega) (by omega))).trans dL
    have KY : Kp w Y := by
      refine ⟨?_, ?_, ?_, by have := hj.asd.size; have := Below.size KWL; omega, fun b hb => ?_⟩
      · rw [← hY]; exact hj.asd.os.trans KWL.os
      · rw [← hY]; exact hj.asd.tape.trans KWL.tape
      · rw [← hY]; exact hj.asd.output.trans KWL.output
      · rw [eY b (by omega), hj.asd.block b (by omega) (by omega)]
        exact Below.block KWL b hb
    obtain ⟨al, cl, hvl⟩ := own_formG hY2.own
    subst hvl
    have c0 := cell_row (i := 0) bY rfl
    have HF := Lib.hid (And.intro hY2 (And.intro dY KY))
    have HZF := Lib.hid (show w.heap.size ≤ wB.heap.size ∧ w.heap.size ≤ wL.heap.size ∧ wB.heap.size < wL.heap.size by omega)
    have HZ9 := Lib.hid (And.intro zL (And.intro zA (And.intro zB hq1)))
    clear hj hb hh hY eY zY bY hY2 dY KY zL zA zB hq1
    go_wp2
    refine ⟨by simp, .inl ⟨_, _, rfl, run_takeDeferred HF.out.2.1, ?_⟩⟩
    refine ⟨_, results_tmp rfl _ _ _, ?_⟩
    obtain ⟨h1, h2, h3⟩ := HF.out
    obtain ⟨z1, z2, z3⟩ := HZF.out
    try rw [← HQ1.out]
    refine ⟨_, rfl, ⟨pl, (h1.base z2).stay (fun b hb => World.putObj_heap_other (by have := (h1.mem b hb).1; omega))⟩, ?_⟩
    exact ⟨h3.os, h3.tape, h3.output, by rw [World.putObj_size]; exact h3.size, fun b hb => (World.putObj_heap_other (by omega)).trans (h3.block b hb)⟩
end Go.Proofs.YtjffkfcokgcenaaDoor
