/-
  A NET's CODE KEEPS ITS CONTRACTS (own work): To's iterator.
-/
import Derived.Test.YtjffkfcokgcenaaDoorNtI
namespace Go.Proofs.YtjffkfcokgcenaaDoor
open Go.RowKit Go.Shelf Go.ChangeShapes Go.WideShapes

attribute [local go_sem] Oper.semAt_some
variable {w0 w w' W w3 : World} {q mb : Nat} {m : NetM} {v v' : Value} {ps ps' : List LtP} {ads : List Addr}

/-- BETWEEN TWO ROUNDS within To -/
structure TJ (J : List (Nat × LtM) → World → Prop) (Ws wL : World) (f : List LtM) (nd : Int) (j : Nat) (W : World) : Prop where
  j : J (toM (f.take j) nd) W
  sz : wL.heap.size ≤ W.heap.size
  low : ∀ b, Ws.heap.size ≤ b → b < wL.heap.size → W.heap[b]? = wL.heap[b]?
set_option maxRecDepth 100000 in
set_option maxHeartbeats 4000000 in
theorem tIter (B B2 n b1 b2 : Nat) (av : Option Addr) (cv : Nat) (nd : Int) (f : List LtM) (hf : ps.map (·.l) = f) (hd : ∀ p ∈ ps, p.l.d.length ≤ 1000) (hn : n ≤ 1000) (Own : Nat → Prop)
    (r1 : w.heap[b1]? = some (.cells #[.slice av n cv] 42)) (r2 : w.heap[b2]? = some (.cells #[.int .i64 nd] 3)) (ho : w.ownsRow B 45 3 (.slice av n cv) n (pE.row ps)) (hp : ∀ p ∈ ps, DatP B2 p w)
    (hO1 : Own b1) (hO2 : Own b2) (hO3 : ∀ b, (Value.slice av n cv).ownBlock = some b → Own b) (hO4 : ∀ p ∈ ps, ∀ b, p.v.ownBlock = some b → Own b) :
    SeqT #[.pointer (some ⟨b1, 0, none⟩), .pointer (some ⟨b2, 0, none⟩)] Own f nd w := by
  intro l J Ws hJ hR hY h0 hOw
  have HJ := Lib.hid hJ
  have HRR := Lib.hid hR
  have HY := Lib.hid hY
  have HOW := Lib.hid hOw
  have HF := Lib.hid hf
  have e1 : Ws.heap[b1]? = some (.cells #[.slice av n cv] 42) := (hR [] Ws h0 b1 hO1).trans r1
  have e2 : Ws.heap[b2]? = some (.cells #[.int .i64 nd] 3) := (hR [] Ws h0 b2 hO2).trans r2
  have HROW := Lib.hid (fun X (hX : ∀ b, Own b → X.heap[b]? = w.heap[b]?) => (show X.ownsRow B 45 3 (.slice av n cv) n (pE.row ps) ∧ (∀ p ∈ ps, DatP B2 p X) from ⟨own_stayG ho (fun b hb => hX b (hO3 b hb)), fun p hpp => own_stayG (hp p hpp) (fun b hb => hX b (hO4 p hpp b hb))⟩))
  have H0 := Lib.hid h0
  obtain ⟨wA, hA⟩ : ∃ x, Ws.alloc (.cells #[.func (.yield l) #[] #[]] 83) = x := ⟨_, rfl⟩
  obtain ⟨wB, hB⟩ : ∃ x, wA.alloc (.cells #[.slice av n cv] 42) = x := ⟨_, rfl⟩
  have kA : Kp Ws wA := by rw [← hA]; exact kp_alloc _ _
  have kB : Kp wA wB := by rw [← hB]; exact kp_alloc _ _
  have zA : wA.heap.size = Ws.heap.size + 1 := by rw [← hA]; simp
  have zB : wB.heap.size = Ws.heap.size + 2 := by rw [← hB]; simp [zA]
  have rA : wB.heap[Ws.heap.size]? = some (.cells #[.func (.yield l) #[] #[]] 83) := by refine kp_row kB ?_; rw [← hA]; exact (MapKept.heap_alloc Ws _).1
  have rB : wB.heap[wA.heap.size]? = some (.cells #[.slice av n cv] 42) := by rw [← hB]; exact (MapKept.heap_alloc wA _).1
  have c1 := cell_row (i := 0) (kp_row kA e1) rfl
  have HE := Lib.hid (each_any av n cv wA)
  have HA := Lib.hid hA
  have HB := Lib.hid hB
  have HK := Lib.hid (And.intro kA (And.intro kB (And.intro zA zB)))
  have HR := Lib.hid (And.intro rA (And.intro rB (kp_row kA e2)))
  have HDN := Lib.hid (And.intro hd hn)
  have HO12 := Lib.hid (And.intro hO1 hO2)
  rw [← hA] at c1
  clear hJ hR hY hOw hf e1 e2 h0 hA hB kA kB zA zB rA rB hO1 hO2 hO3 hO4 ho hp r1 r2 hd hn
  refine calls_of_marks Tryd.func32 rfl ?_
  simp only [Tryd.ntmps32, List.size_toArray, List.length_cons, List.length_nil, Nat.reduceAdd, Nat.reduceSub, Array.replicate_succ, Array.replicate_zero, List.push_toArray, List.append_toArray, List.nil_append, List.cons_append]
  go_wp2_with (go_at_call 30; (try rw [HA.out]); (with_reducible refine HE.out.mono ?_); rintro e w3 ⟨rfl, rfl⟩; (try rw [HB.out]))
  obtain ⟨kA, kB, zA, zB⟩ := HK.out
  obtain ⟨rA, rB, rN⟩ := HR.out
  refine range_wp (gf := 44) (lb := #[.pointer (some ⟨wA.heap.size, 0, none⟩)]) rfl (enters_of Tryd.func44 (by kernel_rfl) rfl) ?_
  intro fn rec hrec
  have hst : rec.state = .ready := by rw [hrec]
  have hpr : rec.params = #[8, 9] := by rw [hrec]
  obtain ⟨wL, hL⟩ : ∃ x, (wB.alloc (.deferred (some []))).alloc (.loop rec) = x := ⟨_, rfl⟩
  have kL : Kp wB wL := by rw [← hL]; exact Kp.trans (kp_alloc _ _) (kp_alloc _ _)
  have zL : wL.heap.size = wB.heap.size + 2 := by rw [← hL]; simp
  have lL : wL.heap[wB.heap.size + 1]? = some (.loop rec) := by rw [← hL]; have := (MapKept.heap_alloc (wB.alloc (.deferred (some []))) (.loop rec)).1; rw [show (wB.alloc (.deferred (some []))).heap.size = wB.heap.size + 1 by simp] at this; exact this
  have dL : wL.heap[wB.heap.size]? = some (.deferred (some [])) := by rw [← hL]; refine kp_row (kp_alloc _ _) ?_; exact (MapKept.heap_alloc wB _).1
  rw [hL]
  have KWL : Kp Ws wL := Kp.trans kA (Kp.trans kB kL)
  have hTJ0 : TJ J Ws wL f nd 0 wL := ⟨HJ.out _ _ _ H0.out (Nat.le_refl _) KWL, Nat.le_refl _, fun _ _ _ => rfl⟩
  refine (callsIn_wide.2 (callsIn_wide.1 (eIter 3 (wB.heap.size + 1) wA.heap.size B (by omega) av n cv ps HDN.out.1 HDN.out.2 (TJ J Ws wL f nd) ?hJ ?hR ?hY wL hTJ0))).mono ?done
  case hJ =>
    intro j X X' h hk
    exact ⟨HJ.out _ _ _ h.j (by have := h.sz; have := Below.size KWL; omega) (Below.mono hk (by have := h.sz; have := Below.size KWL; omega)), Nat.le_trans h.sz (Below.size hk), fun b h1 h2 => (Below.block hk b (by have := h.sz; omega)).trans (h.low b h1 h2)⟩
  case hR =>
    intro j X h
    obtain ⟨g1, g2⟩ := HROW.out X (HRR.out _ X h.j)
    refine ⟨?_, g1, fun p hp => (g2 p hp).slb⟩
    refine (World.cell?_of_block (a := ⟨wA.heap.size, 0, none⟩) (h.low wA.heap.size (by omega) (by omega))).trans (kp_cell kL ?_)
    exact cell_row rB rfl
  case hY =>
    intro j p o c X0 X hj hk hp ho
    have hjX : J (toM (f.take j) nd) X := HJ.out _ _ _ hj.j (by have := hj.sz; have := Below.size KWL; omega) (Below.mono hk (by have := hj.sz; have := Below.size KWL; omega))
    have hlow : ∀ b, Ws.heap.size ≤ b → b < wL.heap.size → X.heap[b]? = wL.heap[b]? := fun b h1 h2 => (Below.block hk b (by have := hj.sz; omega)).trans (hj.low b h1 h2)
    have hszX : wL.heap.size ≤ X.heap.size := Nat.le_trans hj.sz (Below.size hk)
    have hfj : f[j]? = some p.l := by rw [← HF.out, List.getElem?_map, hp]; rfl
    have hlX : X.heap[wB.heap.size + 1]? = some (.loop rec) := (hlow _ (by omega) (by omega)).trans lL
    have hyX : X.heap[Ws.heap.size]? = some (.cells #[.func (.yield l) #[] #[]] 83) := (hlow _ (Nat.le_refl _) (by omega)).trans (kp_row kL rA)
    have hnX : X.heap[b2]? = some (.cells #[.int .i64 nd] 3) := by
      have h1 := HRR.out _ X hjX b2 HO12.out.2
      have h2 := HRR.out _ Ws H0.out b2 HO12.out.2
      exact h1.trans (h2.symm.trans ((Below.block kA b2 (HOW.out b2 HO12.out.2)).symm.trans rN))
    have hs2 := HOW.out b2 HO12.out.2
    obtain ⟨a, e1⟩ : ∃ a, p.l.a = a := ⟨_, rfl⟩
    obtain ⟨b, e2⟩ : ∃ b, p.l.b = b := ⟨_, rfl⟩
    obtain ⟨k, e4⟩ : ∃ k, p.l.d.length = k := ⟨_, rfl⟩
    have hWS : Ws.heap.size ≤ wL.heap.size := Below.size KWL
    rw [e1, e2, e4]
    have k8 := kp_alloc X (.cells #[.int .i64 a, .int .i64 b, .slice o k c] 45)
    have b8 := (MapKept.heap_alloc X (.cells #[.int .i64 a, .int .i64 b, .slice o k c] 45)).1
    have l8 := kp_row k8 hlX
    have y8 := kp_row k8 hyX
    have n8 := kp_row k8 hnX
    have j8 := HJ.out _ _ _ hjX (by omega) (Below.mono k8 (by omega))
    have s8 : (X.alloc (.cells #[.int .i64 a, .int .i64 b, .slice o k c] 45)).ownsRow wL.heap.size 5 1 (.slice o k c) k (p.l.d.map (Value.int .u8)) := by rw [e4] at ho; exact own_kp3 (own_baseG ho hj.sz) k8
    have HX := Lib.hid (And.intro b8 (And.intro y8 (And.intro n8 (And.intro j8 (And.intro s8 (And.intro k8 hlow))))))
    have HNUM := Lib.hid (And.intro hszX (And.intro zL (And.intro zA (And.intro zB hWS))))
    have HFJ := Lib.hid hfj
    have HE := Lib.hid (And.intro e1 (And.intro e2 e4))
    have HOB := Lib.hid hs2
    clear b8 y8 n8 j8 s8 k8 hlow hszX zL zA zB hWS hfj e1 e2 e4 hs2 hj hk hp ho hjX hyX hnX
    refine yield_of (r := rec) hlX hst (by rw [hpr]; rfl) trivial ?_
    have hca := congrArg Loop.assign hrec
    have hcb := congrArg Loop.body hrec
    have hct := congrArg Loop.tmps hrec
    dsimp only at hca hcb hct
    rw [hca, hcb, hct, hpr]
    have HREC := Lib.hid hrec
    clear hca hcb hct hpr hst hrec hlX
    refine wpIn_seq ?_
    refine region_round_seq (by kernel_rfl) (by rintro ⟨_, _, h⟩; exact h) ?_
    go_wp2
    refine region_round_seq (by kernel_rfl) (by rintro ⟨_, _, h⟩; exact h) ?_
    go_wp2
    first | refine ⟨l8, ?_⟩ | skip
    generalize hWb : World.putObj _ (wB.heap.size + 1) (Obj.loop _) = Wb
    have k0 : (X.alloc (.cells #[.int .i64 a, .int .i64 b, .slice o k c] 45)).putObj (wB.heap.size + 1) (.loop { rec with state := .busy }) = Wb := by have h := hWb; rw [HREC.out] at h ⊢; exact h
    obtain ⟨b8, y8, n8, j8, s8, k8, hlow⟩ := HX.out
    obtain ⟨hszX, zL, zA, zB, hWS⟩ := HNUM.out
    have hbs : ∀ x, x ≠ wB.heap.size + 1 → Wb.heap[x]? = (X.alloc (.cells #[.int .i64 a, .int .i64 b, .slice o k c] 45)).heap[x]? := fun x hx => by rw [← hWb]; exact World.putObj_heap_other hx
    have hbz : Wb.heap.size = X.heap.size + 1 := by rw [← hWb, World.putObj_size]; simp
    have hs2 := HOB.out
    have lW : Wb.heap[wB.heap.size + 1]? = some (.loop { rec with state := .busy }) := by rw [← k0]; exact World.putObj_heap_same (old_of_row l8)
    have bB : Wb.heap[X.heap.size]? = some (.cells #[.int .i64 a, .int .i64 b, .slice o k c] 45) := by rw [hbs _ (by omega)]; exact b8
    have bY : Wb.heap[Ws.heap.size]? = some (.cells #[.func (.yield l) #[] #[]] 83) := by rw [hbs _ (by omega)]; exact y8
    have bN : Wb.heap[b2]? = some (.cells #[.int .i64 nd] 3 (0, 0)) := by rw [hbs _ (by omega)]; exact n8
    have jW : J (toM (f.take j) nd) Wb := HJ.out _ _ _ j8 (by simp; omega) ⟨by rw [← k0]; rfl, by rw [← k0]; rfl, by rw [← k0]; rfl, by rw [hbz]; simp, fun x hx => hbs x (by omega)⟩
    have wlow : ∀ x, Ws.heap.size ≤ x → x < wL.heap.size → x ≠ wB.heap.size + 1 → Wb.heap[x]? = wL.heap[x]? := fun x h1 h2 h3 => (hbs x h3).trans ((Below.block k8 x (by omega)).trans (hlow x h1 h2))
    have f1 := cell_row (i := 1) bB rfl
    have g0 := cell_row (i := 0) bN rfl
    have e9 : ({ rec with state := .ready, pending := none } : Loop) = rec := by rw [HREC.out]
    have hfj := HFJ.out
    by_cases hbn : b = nd
    · subst hbn
      have sW : SlB (.slice o p.l.d.length c) p.l.d Wb := own_slb (by rw [HE.out.2.2]; exact own_stayG s8 (fun x hx => hbs x (by have := (s8.lt x hx).1; omega)))
      obtain ⟨fn2, tmps2, assign2, body2, hy, hR2⟩ := HY.out j p.l o c Wb hfj HE.out.2.1 jW (by omega) sW
      rw [HE.out.1, HE.out.2.1, HE.out.2.2] at hy
      have HRD := Lib.hid hR2
      have y0 := cell_row (i := 0) bY rfl
      have f0 := cell_row (i := 0) bB rfl
      have f2 := cell_row (i := 2) bB rfl
      have HF9 := Lib.hid (And.intro lW (And.intro wlow (And.intro hbz e9)))
      clear lW jW wlow hbz e9 k0 b8 y8 n8 j8 s8 k8 hlow hszX zL zA zB hWS hs2 bB bY bN hbs hWb l8 hfj hR2 sW
      gi_wp2
      refine (roundIn_any (roundIn_round (l' := wB.heap.size + 1) HRD.out)).mono ?_
      rintro e W3 ⟨rfl, jW3, z3, low3⟩
      have F3 := Lib.hid (And.intro jW3 (And.intro z3 low3))
      clear jW3 z3 low3
      gi_wp2
      obtain ⟨lW, wlow, hbz, e9⟩ := HF9.out
      obtain ⟨hszX, zL, zA, zB, hWS⟩ := HNUM.out
      obtain ⟨jW3, z3, low3⟩ := F3.out
      have l3 : W3.heap[wB.heap.size + 1]? = some (.loop { rec with state := .busy }) := (low3 _ (by omega) (by omega)).trans lW
      refine ⟨l3, rfl, ?_⟩
      rw [e9]
      exact ⟨HJ.out _ _ _ jW3 (by omega) ⟨rfl, rfl, rfl, by rw [World.putObj_size]; exact Nat.le_refl _, fun x hx => World.putObj_heap_other (by omega)⟩, by rw [World.putObj_size]; omega, fun x h1 h2 => by
        by_cases hx : x = wB.heap.size + 1
        · subst hx; exact (World.putObj_heap_same (old_of_row l3)).trans lL.symm
        · exact (World.putObj_heap_other hx).trans ((low3 x h1 (by omega)).trans (wlow x h1 h2 hx))⟩
    · have d1 : decide (b = nd) = false := decide_eq_false hbn
      have HF9 := Lib.hid (And.intro lW (And.intro jW (And.intro wlow (And.intro hbz e9))))
      clear lW jW wlow hbz e9 k0 b8 y8 n8 j8 s8 k8 hlow hszX zL zA zB hWS hs2 bB bY bN hbs hWb l8 hfj
      refine wpIn_block ?_
      refine wpIn_seq ?_
      refine region_round_seq (by kernel_rfl) (by rintro ⟨_, _, h⟩; exact h) ?_
      go_wp2
      gi_wp2
      obtain ⟨lW, jW, wlow, hbz, e9⟩ := HF9.out
      obtain ⟨hszX, zL, zA, zB, hWS⟩ := HNUM.out
      refine ⟨lW, rfl, ?_⟩
      rw [e9]
      have ts := toM_succ HFJ.out nd
      rw [if_neg (by rw [HE.out.2.1]; exact hbn), List.append_nil] at ts
      exact ⟨by rw [ts]; exact HJ.out _ _ _ jW (by omega) ⟨rfl, rfl, rfl, by rw [World.putObj_size]; exact Nat.le_refl _, fun x hx => World.putObj_heap_other (by omega)⟩, by rw [World.putObj_size]; omega, fun x h1 h2 => by
        by_cases hx : x = wB.heap.size + 1
        · subst hx; exact (World.putObj_heap_same (old_of_row lW)).trans lL.symm
        · exact (World.putObj_heap_other hx).trans (wlow x h1 h2 hx)⟩
  case done =>
    rintro e X ⟨hv, hj⟩
    refine ⟨hv, (hj.low _ (by omega) (by omega)).trans lL, fun o => ?_⟩
    obtain ⟨Y, hY⟩ : ∃ x, X.putObj (wB.heap.size + 1) o = x := ⟨_, rfl⟩
    rw [hY]
    have hpl : f.length = n := by rw [← HF.out, List.length_map]; exact own_lenG (E := pE) (by decide) (HROW.out X (HRR.out _ X hj.j)).1
    have dY : Y.heap[wB.heap.size]? = some (.deferred (some [])) := by rw [← hY]; exact (World.putObj_heap_other (by omega)).trans ((hj.low _ (by omega) (by omega)).trans dL)
    have jY : J (toM f nd) Y := by
      have h := hj.j
      rw [List.take_of_length_le (by omega)] at h
      have := hj.sz
      exact HJ.out _ _ _ h (by omega) ⟨by rw [← hY]; rfl, by rw [← hY]; rfl, by rw [← hY]; rfl, by rw [← hY, World.putObj_size]; exact Nat.le_refl _, fun x hx => by rw [← hY]; exact World.putObj_heap_other (by omega)⟩
    have zY : Ws.heap.size ≤ wB.heap.size ∧ wB.heap.size < Y.heap.size ∧ Ws.heap.size ≤ Y.heap.size := by rw [← hY, World.putObj_size]; have := hj.sz; omega
    have HF9 := Lib.hid (And.intro dY (And.intro jY zY))
    clear hj hY dY jY zY hpl zL zA zB
    go_wp2
    refine ⟨by simp, .inl ⟨_, _, rfl, run_takeDeferred HF9.out.1, ?_⟩⟩
    refine ⟨_, results_none rfl _ _ _, ⟨_, rfl⟩, ?_⟩
    obtain ⟨dY, jY, zY⟩ := HF9.out
    exact HJ.out _ _ _ jY (by omega) ⟨rfl, rfl, rfl, by rw [World.putObj_size]; exact Nat.le_refl _, fun x hx => World.putObj_heap_other (by omega)⟩
set_option maxRecDepth 100000 in
set_option maxHeartbeats 2000000 in
theorem ntTo_any (H : Nt w0 q m v ps mb w) (hm : Nok m) (nd : Int) : Calls Tryd.prog 17 #[.pointer (some ⟨q, 0, none⟩), .int .i64 nd] w fun r w' => ∃ lb Own, r = .returned (.func (.func 32) #[] lb) ∧ Kp w w' ∧ (∀ b, Own b → b < w'.heap.size ∧ (w.heap.size ≤ b ∨ Ob q v ps mb b)) ∧ SeqT lb Own m.f nd w' := by
  have hmf : ∀ (fn : Fn) (first cap : Array Value) (w : World), (Instr.makeFunc fn first cap).run Tryd.prog w = .ok (.func fn first cap) w := fun _ _ _ _ => rfl
  obtain ⟨av, cv, rfl⟩ := H.form
  have HH := Lib.hid H
  have HM := Lib.hid hm
  obtain ⟨n, hN⟩ : ∃ n, m.f.length = n := ⟨_, rfl⟩
  have HNN := Lib.hid hN
  obtain ⟨wA, hA⟩ : ∃ x, w.alloc (.cells #[.int .i64 nd] 3) = x := ⟨_, rfl⟩
  have kA : Kp w wA := by rw [← hA]; exact kp_alloc _ _
  have rA : wA.heap[w.heap.size]? = some (.cells #[.int .i64 nd] 3) := by rw [← hA]; exact (MapKept.heap_alloc w _).1
  have zA : wA.heap.size = w.heap.size + 1 := by rw [← hA]; simp
  have y0 := cell_row (i := 1) (kp_row kA H.row) rfl
  have ho := own_kp3 H.own kA
  rw [hN] at y0 ho
  have HCL := Lib.hid (cloneS_any (by have := hm.len; omega) ho)
  rw [← hA] at y0
  have HA := Lib.hid hA
  have HK := Lib.hid (And.intro kA (And.intro rA zA))
  clear H hm hN hA kA rA zA ho
  go_enter Tryd.func17, Tryd.ntmps17
  go_wp2_with (go_at_call 31; (try rw [HA.out]); (with_reducible refine HCL.out.mono ?_); rintro e w2 ⟨v2, rfl, ho2, hk2⟩; obtain ⟨a2, c2, hv2⟩ := own_formG ho2; subst hv2; have F2 := Lib.hid (And.intro ho2 hk2); clear ho2 hk2)
  go_ret
  obtain ⟨kA, rA, zA⟩ := HK.out
  obtain ⟨ho2, hk2⟩ := F2.out
  have k3 := kp_alloc w2 (.cells #[.slice a2 n c2] 42)
  have r3 := (MapKept.heap_alloc w2 (.cells #[.slice a2 n c2] 42)).1
  have K3 := Kp.trans kA (Kp.trans hk2 k3)
  have s2 := Below.size hk2
  have s3 : (w2.alloc (.cells #[.slice a2 n c2] 42)).heap.size = w2.heap.size + 1 := by simp
  have hmem := HH.out.mem
  have hm1 := HM.out
  refine ⟨_, fun b => b = w2.heap.size ∨ b = w.heap.size ∨ (Value.slice a2 n c2).ownBlock = some b ∨ ∃ p ∈ ps, p.v.ownBlock = some b, rfl, K3, ?_, ?_⟩
  · rintro b (rfl | rfl | hb | ⟨p, hp, hb⟩)
    · exact ⟨by omega, .inl (by omega)⟩
    · exact ⟨by omega, .inl (Nat.le_refl _)⟩
    · have := ho2.lt b hb; exact ⟨by omega, .inl (by omega)⟩
    · have h1 := hmem b (.inr (.inr (.inr ⟨p, hp, hb⟩)))
      exact ⟨by omega, .inr (.inr (.inr (.inr ⟨p, hp, hb⟩)))⟩
  · exact tIter wA.heap.size w0.heap.size n w2.heap.size w.heap.size a2 c2 nd m.f HH.out.fs (fun p hp => (hm1.dat p.l (HH.out.fs ▸ List.mem_map_of_mem hp)).1) (by have := hm1.len; have := HNN.out; omega) _ r3 (kp_row (Kp.trans hk2 k3) rA) (own_kp3 ho2 k3) (fun p hp => (HH.out.dat p hp).kp K3) (.inl rfl) (.inr (.inl rfl)) (fun b hb => .inr (.inr (.inl hb))) (fun p hp b hb => .inr (.inr (.inr ⟨p, hp, hb⟩)))
end Go.Proofs.YtjffkfcokgcenaaDoor
