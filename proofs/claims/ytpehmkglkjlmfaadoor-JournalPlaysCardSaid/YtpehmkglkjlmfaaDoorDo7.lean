/-
  AN OP ON BOTH JOURNALS (own work): liaisonlaw07.(*play).do.
-/
import Derived.Test.YtpehmkglkjlmfaaDoorKepL
import Derived.Test.YtpehmkglkjlmfaaDoorRefP
import Derived.Test.YtpehmkglkjlmfaaDoorSlJ
import Derived.Deep.RegionHeld3
namespace Go.Proofs.YtpehmkglkjlmfaaDoor
open Go.RowKit Go.ChangeShapes Go.WideShapes

abbrev PL (g q gq : Nat) : Obj := .cells #[.pointer (some ⟨g, 0, none⟩), .pointer (some ⟨q, 0, none⟩), .pointer (some ⟨gq, 0, none⟩)] 41 (0, 0)
/-- A play: the program's journal on its tape, the document's on its own, each as told. -/
structure Bo7 (R : Nat → TM → (Nat → Prop) → World → Prop) (J : Nat → Nat → JM → (Nat → Prop) → World → Prop) (W : World) (q g gq gm gp : Nat) (j : JM) (m : TM) (j2 : JM) (m2 : TM) (OJ O OM : Nat → Prop) (w : World) : Prop where
  jt : JT R J W q g j m OJ O w
  dj : DJ W gq gm j2 m2 OM w
  d : ∀ b, Un OJ O b → ¬ OM b
  p : w.heap[gp]? = some (PL g q gq)
  np : ¬ Un OJ O gp ∧ ¬ OM gp
  pW : W.heap.size ≤ gp
variable {ads : List Addr} {R : Nat → TM → (Nat → Prop) → World → Prop} {J : Nat → Nat → JM → (Nat → Prop) → World → Prop} {W w w' : World} {q g gq gm gp : Nat} {j j' j2 j2' : JM} {m m' m2 m2' : TM} {OJ OJ' O O' OM OM' : Nat → Prop} {rs : List (List Int)}
theorem Bo7.kp (T : TapC ads W R) (C : JouC ads W R J) (h : Bo7 R J W q g gq gm gp j m j2 m2 OJ O OM w) (hk : Kp w w') : Bo7 R J W q g gq gm gp j m j2 m2 OJ O OM w' :=
  ⟨h.jt.kp T C hk, h.dj.kp hk, h.d, kp_row hk h.p, h.np, h.pW⟩
/-- a call on the program's -/
theorem Bo7.mid (h : Bo7 R J W q g gq gm gp j m j2 m2 OJ O OM w) (jt : JT R J W q g j' m' OJ' O' w') (ha : Asd (Un OJ O) (Un OJ' O') w w') : Bo7 R J W q g gq gm gp j' m' j2 m2 OJ' O' OM w' :=
  ⟨jt, h.dj.stay jt.kW ha.size (fun b hb => ha.block b (h.dj.mem b hb).2 (fun p => h.d b p hb)), fun b hb hO => by
    rcases ha.own b hb with p | p
    · exact h.d b p hO
    · have := (h.dj.mem b hO).2; omega, ha.row h.p h.np.1, ⟨fun hp => by
    rcases ha.own gp hp with p | p
    · exact h.np.1 p
    · have := old_of_row h.p; omega, h.np.2⟩, h.pW⟩
/-- a call on the document's -/
theorem Bo7.doc (T : TapC ads W R) (C : JouC ads W R J) (h : Bo7 R J W q g gq gm gp j m j2 m2 OJ O OM w) (dj : DJ W gq gm j2' m2' OM' w') (ha : Asd OM OM' w w') : Bo7 R J W q g gq gm gp j m j2' m2' OJ O OM' w' :=
  ⟨h.jt.apart T C ha (fun b hb => (h.dj.mem b hb).1) h.d, dj, h.jt.dis2 T C ha h.d, ha.row h.p h.np.2, ⟨h.np.1, fun hp => by
    rcases ha.own gp hp with p | p
    · exact h.np.2 p
    · have := old_of_row h.p; omega⟩, h.pW⟩
theorem DJ.tape {w w' : World} (h : DJ W gq gm j m OM w) (hmo : MoC gm m' w') (hon : On gm w w') : DJ W gq gm j m' OM w' ∧ Asd OM OM w w' := by
  obtain ⟨v, us, E, h, rfl⟩ := h
  exact ⟨⟨v, us, E, h.tape hmo hon, rfl⟩, asd_onG hon (.inl rfl)⟩
theorem DJ.mo (h : DJ W gq gm j m OM w) : MoC gm m w := by
  obtain ⟨v, us, E, h, rfl⟩ := h
  exact h.mo
theorem DJ.cells (h : DJ W gq gm j m OM w) : ∃ v us, w.heap[gq]? = some (.cells #[.pointer (some ⟨gm, 0, none⟩), v, .bool j.dead] 50 (0, 0)) ∧ w.ownsRow W.heap.size 46 1 v j.rows.length us ∧ Vals us j.rows w := by
  obtain ⟨v, us, E, h, rfl⟩ := h
  exact ⟨v, us, h.mj.row, h.mj.own, h.mj.val.now⟩
abbrev OB (k n : Int) (a : Option Addr) (len cap : Nat) : Obj := .cells #[.int .i64 k, .int .i64 n, .slice a len cap] 44 (0, 0)
theorem PL.c (h : w.heap[gp]? = some (PL g q gq)) : w.cell? ⟨gp, 0, none⟩ = some (.pointer (some ⟨g, 0, none⟩)) ∧ w.cell? ⟨gp, 1, none⟩ = some (.pointer (some ⟨q, 0, none⟩)) ∧ w.cell? ⟨gp, 2, none⟩ = some (.pointer (some ⟨gq, 0, none⟩)) := by
  unfold World.cell?
  dsimp only
  rw [h]
  exact ⟨rfl, rfl, rfl⟩
theorem OB.c {p0 : Nat} {k n : Int} {a : Option Addr} {len cap : Nat} (h : w.heap[p0]? = some (OB k n a len cap)) : w.cell? ⟨p0, 0, none⟩ = some (.int .i64 k) ∧ w.cell? ⟨p0, 1, none⟩ = some (.int .i64 n) ∧ w.cell? ⟨p0, 2, none⟩ = some (.slice a len cap) := by
  unfold World.cell?
  dsimp only
  rw [h]
  exact ⟨rfl, rfl, rfl⟩

set_option maxRecDepth 100000 in
set_option maxHeartbeats 4000000 in
theorem do7_put (T : TapC ads W R) (C : JouC ads W R J) (V : St ads W) (n : Int) (n0 : -9223372036854775808 ≤ n) (n1 : n ≤ 9223372036854775807) (a : Option Addr) (len cap : Nat) (hs : SlBB (.slice a len cap) rs W) (hn : rs.length = len) (hl : len ≤ 10) (hin : ∀ r ∈ rs, InB r ∧ r.length ≤ 300) (h : Bo7 R J W q g gq gm gp j m j m OJ O OM w) :
    Calls Tryd.prog 14 #[.pointer (some ⟨gp, 0, none⟩), .agg #[.int .i64 1, .int .i64 n, .slice a len cap]] w fun e w' => e = .returned (.bool true) ∧ ∃ q gq OJ' O' OM', Bo7 R J W q g gq gm gp (putJ j m rs).2.1 (putJ j m rs).2.2 (putJ j m rs).2.1 (putJ j m rs).2.2 OJ' O' OM' w' := by
  have hr : (w.alloc (OB 1 n a len cap)).heap[w.heap.size]? = some (OB 1 n a len cap) := (MapKept.heap_alloc w _).1
  have h0 : Bo7 R J W q g gq gm gp j m j m OJ O OM (w.alloc (OB 1 n a len cap)) := h.kp T C (kp_alloc _ _)
  have hfar : ∀ b, Un OJ O b ∨ OM b → b < w.heap.size := fun b hb => hb.elim (fun p => (h.jt.mem T C b p).2) (fun p => (h.dj.mem b p).2)
  have hgp : gp < w.heap.size := old_of_row h.p
  have HC := Lib.hid C
  have HT := Lib.hid T
  have hinv := h.jt.inv
  have hok := h.jt.ok
  have hnum := hinv.num hok
  have HPU := Lib.hid (fun w1 (b : Bo7 R J W q g gq gm gp j m j m OJ O OM w1) => b.jt.putC T C (rs := rs) (fun r hr => ⟨(hin r hr).1, by have := (hin r hr).2; omega⟩) (Sfe.old (P := Un OJ O) hs b.jt.kW (fun x hx => (b.jt.mem T C x hx).1)) hn (by omega))
  have HNU := Lib.hid (fun w1 (hk : Kp W w1) => num_errN ads w1 (V.below hk) (putJ j m rs).1 (put_num j m rs).1 (put_num j m rs).2)
  have HRF := Lib.hid (fun w1 (d : DJ W gq gm j m OM w1) => put7_any a len cap hs hn (by omega) (fun r hr => ⟨(hin r hr).1, by have := (hin r hr).2; omega⟩) hok (by omega) d)
  clear hinv hok hnum
  have HF := Lib.hid hfar
  have HGP := Lib.hid hgp
  have _u := And.intro n0 (And.intro n1 (And.intro hl (And.intro hn (And.intro hin hs))))
  clear _u
  clear T C V h hfar hgp hs hn hl hin
  go_enter Tryd.func14, Tryd.ntmps14
  go_wp2
  obtain ⟨w0, hw0⟩ : ∃ x, w.alloc (OB 1 n a len cap) = x := ⟨_, rfl⟩
  obtain ⟨p0, hp0⟩ : ∃ x, w.heap.size = x := ⟨_, rfl⟩
  rw [hw0] at h0 hr
  have hw0' : w.alloc (.cells #[.int .i64 1, .int .i64 n, .slice a len cap] 44 (0, 0)) = w0 := hw0
  rw [hw0']
  rw [hp0] at hr ⊢
  have HF := HF.out
  rw [hp0] at HF
  have HF := Lib.hid HF
  have HR := Lib.hid hr
  have HH := Lib.hid h0
  have PC := PL.c h0.p
  have OC := OB.c hr
  obtain ⟨pc0, pc1, pc2⟩ := PC
  obtain ⟨oc0, oc1, oc2⟩ := OC
  clear hw0 hw0' hp0 hr h0
  refine wp_region_held_drew (S := fun w' => w'.heap[gp]? = some (PL g q gq) ∧ w'.heap[p0]? = some (OB 1 n a len cap)) (by kernel_rfl) ?_ (fun hHeld => ?_)
  · exact ⟨HH.out.p, HR.out⟩
  refine wpAnyH_take (i := 0) (v := ?_) rfl (by kernel_rfl) (by kernel_rfl) (by kernel_rfl) (fun _ _ _ h => h) (Or.inl ⟨by rfl, ?_⟩) (by assumption) ?_
  rotate_left
  · intro w hSw; go_simp; try with_reducible rfl
  go_simp
  refine wpAnyH_take (i := 1) (v := ?_) rfl (by kernel_rfl) (by kernel_rfl) (by kernel_rfl) (fun _ _ _ h => h) (Or.inl ⟨by rfl, ?_⟩) (by assumption) ?_
  rotate_left
  · intro w hSw; go_simp; try with_reducible rfl
  go_simp
  refine wpAnyH_take (i := 2) (v := ?_) rfl (by kernel_rfl) (by kernel_rfl) (by kernel_rfl) (fun _ _ _ h => h) (Or.inl ⟨by rfl, ?_⟩) (by assumption) ?_
  rotate_left
  · intro w hSw; go_simp; try with_reducible rfl
  go_simp
  refine wpAnyH_take (i := 3) (v := ?_) rfl (by kernel_rfl) (by kernel_rfl) (by kernel_rfl) (fun _ _ _ h => h) (Or.inl ⟨by rfl, ?_⟩) (by assumption) ?_
  rotate_left
  · intro w hSw; have q1 := (PL.c hSw.1).2.1; go_simp; try with_reducible rfl
  go_simp
  refine wpAnyH_take (i := 4) (v := ?_) rfl (by kernel_rfl) (by kernel_rfl) (by kernel_rfl) (fun _ _ _ h => h) (Or.inl ⟨by rfl, ?_⟩) (by assumption) ?_
  rotate_left
  · intro w hSw; go_simp; try with_reducible rfl
  go_simp
  refine wpAnyH_take (i := 5) (v := ?_) rfl (by kernel_rfl) (by kernel_rfl) (by kernel_rfl) (fun _ _ _ h => h) (Or.inl ⟨by rfl, ?_⟩) (by assumption) ?_
  rotate_left
  · intro w hSw; have r2 := (OB.c hSw.2).2.2; go_simp; try with_reducible rfl
  go_simp
  refine wpAnyH_take (i := 8) (v := ?_) rfl (by kernel_rfl) (by kernel_rfl) (by kernel_rfl) (fun _ _ _ h => h) (Or.inl ⟨by rfl, ?_⟩) (by assumption) ?_
  rotate_left
  · intro w hSw; go_simp; try with_reducible rfl
  go_simp
  refine wpAnyH_take (i := 9) (v := ?_) rfl (by kernel_rfl) (by kernel_rfl) (by kernel_rfl) (fun _ _ _ h => h) (Or.inl ⟨by rfl, ?_⟩) (by assumption) ?_
  rotate_left
  · intro w hSw; go_simp; try with_reducible rfl
  go_simp
  refine wpAnyH_take (i := 10) (v := ?_) rfl (by kernel_rfl) (by kernel_rfl) (by kernel_rfl) (fun _ _ _ h => h) (Or.inl ⟨by rfl, ?_⟩) (by assumption) ?_
  rotate_left
  · intro w hSw; go_simp; try with_reducible rfl
  go_simp
  refine wpAnyH_take (i := 11) (v := ?_) rfl (by kernel_rfl) (by kernel_rfl) (by kernel_rfl) (fun _ _ _ h => h) (Or.inl ⟨by rfl, ?_⟩) (by assumption) ?_
  rotate_left
  · intro w hSw; have q2 := (PL.c hSw.1).2.2; go_simp; try with_reducible rfl
  go_simp
  refine wpAnyH_take (i := 12) (v := ?_) rfl (by kernel_rfl) (by kernel_rfl) (by kernel_rfl) (fun _ _ _ h => h) (Or.inl ⟨by rfl, ?_⟩) (by assumption) ?_
  rotate_left
  · intro w hSw; go_simp; try with_reducible rfl
  go_simp
  refine wpAnyH_take (i := 13) (v := ?_) rfl (by kernel_rfl) (by kernel_rfl) (by kernel_rfl) (fun _ _ _ h => h) (Or.inl ⟨by rfl, ?_⟩) (by assumption) ?_
  rotate_left
  · intro w hSw; have r2 := (OB.c hSw.2).2.2; go_simp; try with_reducible rfl
  go_simp
  refine wpAnyH_ready (rs := [6]) (by kernel_rfl) (by simp) ?_
  refine AllReadyH.cons rfl (fun K hK => ?_) AllReadyH.nil
  go_simp
  go_wp2_with (go_at_call 28; (with_reducible refine (HPU.out _ (HH.out.kp HT.out HC.out (Kp.refl w0).drew)).mono ?_); rintro e w2 ⟨rfl, OJ2, O2, jt, ha⟩; have B2 := Lib.hid ((HH.out.kp HT.out HC.out (Kp.refl w0).drew).mid jt ha); have R2 := Lib.hid (ha.row (show w0.drew.heap[p0]? = _ from HR.out) (fun hp => Nat.lt_irrefl _ (HF.out _ (.inl hp)))); clear jt ha)
  refine hK.out _ _ ?_ (fun hHeld => ?_)
  · exact ⟨B2.out.p, R2.out⟩
  clear hK K
  refine wpAnyH_ready (rs := [7]) (by kernel_rfl) (by simp) ?_
  refine AllReadyH.cons rfl (fun K hK => ?_) AllReadyH.nil
  go_simp
  go_wp2_with (go_at_call 24; (with_reducible refine (HNU.out _ B2.out.jt.kW).mono ?_); rintro e w3 ⟨rfl, hk⟩; have B3 := Lib.hid (B2.out.kp HT.out HC.out hk); have R3 := Lib.hid (kp_row hk R2.out); clear hk)
  refine hK.out _ _ ?_ (fun hHeld => ?_)
  · exact ⟨B3.out.p, R3.out⟩
  clear hK K
  refine wpAnyH_ready (rs := [14]) (by kernel_rfl) (by simp) ?_
  refine AllReadyH.cons rfl (fun K hK => ?_) AllReadyH.nil
  go_simp
  go_wp2_with (go_at_call 39; (with_reducible refine (HRF.out _ B3.out.dj).mono ?_); rintro e w4 ⟨rfl, OM4, dj, ha⟩; have B4 := Lib.hid (B3.out.doc HT.out HC.out dj ha); have R4 := Lib.hid (ha.row R3.out (fun hp => Nat.lt_irrefl _ (HF.out _ (.inr hp)))); clear dj ha)
  refine hK.out _ _ ?_ (fun hHeld => ?_)
  · exact ⟨B4.out.p, R4.out⟩
  clear hK K
  refine wpAnyH_take (i := 15) (v := ?_) rfl (by kernel_rfl) (by kernel_rfl) (by kernel_rfl) (fun _ _ _ h => h) (Or.inl ⟨by rfl, ?_⟩) (by assumption) ?_
  rotate_left
  · intro w hSw; go_simp; try with_reducible rfl
  go_simp
  refine wpAnyH_take (i := 16) (v := ?_) rfl (by kernel_rfl) (by kernel_rfl) (by kernel_rfl) (fun _ _ _ h => h) (Or.inl ⟨by rfl, ?_⟩) (by assumption) ?_
  rotate_left
  · intro w hSw; go_simp; try with_reducible rfl
  go_simp
  refine wpAnyH_done (by kernel_rfl) ?_ _
  go_wp2
  go_ret
  exact ⟨by first | rfl | simp, q, gq, _, _, _, B4.out⟩

set_option maxRecDepth 100000 in
set_option maxHeartbeats 4000000 in
theorem do7_comp (T : TapC ads W R) (C : JouC ads W R J) (V : St ads W) (n : Int) (n0 : -9223372036854775808 ≤ n) (n1 : n ≤ 9223372036854775807) (a : Option Addr) (len cap : Nat) (hs : SlBB (.slice a len cap) rs W) (hn : rs.length = len) (hl : len ≤ 10) (hin : ∀ r ∈ rs, InB r ∧ r.length ≤ 300) (h : Bo7 R J W q g gq gm gp j m j m OJ O OM w) :
    Calls Tryd.prog 14 #[.pointer (some ⟨gp, 0, none⟩), .agg #[.int .i64 2, .int .i64 n, .slice a len cap]] w fun e w' => e = .returned (.bool true) ∧ ∃ q gq OJ' O' OM', Bo7 R J W q g gq gm gp (compJ j m rs).2.1 (compJ j m rs).2.2 (compJ j m rs).2.1 (compJ j m rs).2.2 OJ' O' OM' w' := by
  have hr : (w.alloc (OB 2 n a len cap)).heap[w.heap.size]? = some (OB 2 n a len cap) := (MapKept.heap_alloc w _).1
  have h0 : Bo7 R J W q g gq gm gp j m j m OJ O OM (w.alloc (OB 2 n a len cap)) := h.kp T C (kp_alloc _ _)
  have hfar : ∀ b, Un OJ O b ∨ OM b → b < w.heap.size := fun b hb => hb.elim (fun p => (h.jt.mem T C b p).2) (fun p => (h.dj.mem b p).2)
  have hgp : gp < w.heap.size := old_of_row h.p
  have HC := Lib.hid C
  have HT := Lib.hid T
  have hinv := h.jt.inv
  have hok := h.jt.ok
  have hnum := hinv.num hok
  have HPU := Lib.hid (fun w1 (b : Bo7 R J W q g gq gm gp j m j m OJ O OM w1) => b.jt.compC T C (rs := rs) (fun r hr => ⟨(hin r hr).1, by have := (hin r hr).2; omega⟩) (Sfe.old (P := Un OJ O) hs b.jt.kW (fun x hx => (b.jt.mem T C x hx).1)) hn (by omega))
  have HNU := Lib.hid (fun w1 (hk : Kp W w1) => num_errN ads w1 (V.below hk) (compJ j m rs).1 (comp_num j m rs).1 (comp_num j m rs).2)
  have HRF := Lib.hid (fun w1 (d : DJ W gq gm j m OM w1) => comp7_any a len cap hs hn (by omega) (fun r hr => ⟨(hin r hr).1, by have := (hin r hr).2; omega⟩) hok (by omega) d)
  clear hinv hok hnum
  have HF := Lib.hid hfar
  have HGP := Lib.hid hgp
  have _u := And.intro n0 (And.intro n1 (And.intro hl (And.intro hn (And.intro hin hs))))
  clear _u
  clear T C V h hfar hgp hs hn hl hin
  go_enter Tryd.func14, Tryd.ntmps14
  go_wp2
  obtain ⟨w0, hw0⟩ : ∃ x, w.alloc (OB 2 n a len cap) = x := ⟨_, rfl⟩
  obtain ⟨p0, hp0⟩ : ∃ x, w.heap.size = x := ⟨_, rfl⟩
  rw [hw0] at h0 hr
  have hw0' : w.alloc (.cells #[.int .i64 2, .int .i64 n, .slice a len cap] 44 (0, 0)) = w0 := hw0
  rw [hw0']
  rw [hp0] at hr ⊢
  have HF := HF.out
  rw [hp0] at HF
  have HF := Lib.hid HF
  have HR := Lib.hid hr
  have HH := Lib.hid h0
  have PC := PL.c h0.p
  have OC := OB.c hr
  obtain ⟨pc0, pc1, pc2⟩ := PC
  obtain ⟨oc0, oc1, oc2⟩ := OC
  clear hw0 hw0' hp0 hr h0
  refine wp_region_held_drew (S := fun w' => w'.heap[gp]? = some (PL g q gq) ∧ w'.heap[p0]? = some (OB 2 n a len cap)) (by kernel_rfl) ?_ (fun hHeld => ?_)
  · exact ⟨HH.out.p, HR.out⟩
  refine wpAnyH_take (i := 0) (v := ?_) rfl (by kernel_rfl) (by kernel_rfl) (by kernel_rfl) (fun _ _ _ h => h) (Or.inl ⟨by rfl, ?_⟩) (by assumption) ?_
  rotate_left
  · intro w hSw; go_simp; try with_reducible rfl
  go_simp
  refine wpAnyH_take (i := 1) (v := ?_) rfl (by kernel_rfl) (by kernel_rfl) (by kernel_rfl) (fun _ _ _ h => h) (Or.inl ⟨by rfl, ?_⟩) (by assumption) ?_
  rotate_left
  · intro w hSw; go_simp; try with_reducible rfl
  go_simp
  refine wpAnyH_take (i := 2) (v := ?_) rfl (by kernel_rfl) (by kernel_rfl) (by kernel_rfl) (fun _ _ _ h => h) (Or.inl ⟨by rfl, ?_⟩) (by assumption) ?_
  rotate_left
  · intro w hSw; go_simp; try with_reducible rfl
  go_simp
  refine wpAnyH_take (i := 3) (v := ?_) rfl (by kernel_rfl) (by kernel_rfl) (by kernel_rfl) (fun _ _ _ h => h) (Or.inl ⟨by rfl, ?_⟩) (by assumption) ?_
  rotate_left
  · intro w hSw; have q1 := (PL.c hSw.1).2.1; go_simp; try with_reducible rfl
  go_simp
  refine wpAnyH_take (i := 4) (v := ?_) rfl (by kernel_rfl) (by kernel_rfl) (by kernel_rfl) (fun _ _ _ h => h) (Or.inl ⟨by rfl, ?_⟩) (by assumption) ?_
  rotate_left
  · intro w hSw; go_simp; try with_reducible rfl
  go_simp
  refine wpAnyH_take (i := 5) (v := ?_) rfl (by kernel_rfl) (by kernel_rfl) (by kernel_rfl) (fun _ _ _ h => h) (Or.inl ⟨by rfl, ?_⟩) (by assumption) ?_
  rotate_left
  · intro w hSw; have r2 := (OB.c hSw.2).2.2; go_simp; try with_reducible rfl
  go_simp
  refine wpAnyH_take (i := 8) (v := ?_) rfl (by kernel_rfl) (by kernel_rfl) (by kernel_rfl) (fun _ _ _ h => h) (Or.inl ⟨by rfl, ?_⟩) (by assumption) ?_
  rotate_left
  · intro w hSw; go_simp; try with_reducible rfl
  go_simp
  refine wpAnyH_take (i := 9) (v := ?_) rfl (by kernel_rfl) (by kernel_rfl) (by kernel_rfl) (fun _ _ _ h => h) (Or.inl ⟨by rfl, ?_⟩) (by assumption) ?_
  rotate_left
  · intro w hSw; go_simp; try with_reducible rfl
  go_simp
  refine wpAnyH_take (i := 10) (v := ?_) rfl (by kernel_rfl) (by kernel_rfl) (by kernel_rfl) (fun _ _ _ h => h) (Or.inl ⟨by rfl, ?_⟩) (by assumption) ?_
  rotate_left
  · intro w hSw; go_simp; try with_reducible rfl
  go_simp
  refine wpAnyH_take (i := 11) (v := ?_) rfl (by kernel_rfl) (by kernel_rfl) (by kernel_rfl) (fun _ _ _ h => h) (Or.inl ⟨by rfl, ?_⟩) (by assumption) ?_
  rotate_left
  · intro w hSw; have q2 := (PL.c hSw.1).2.2; go_simp; try with_reducible rfl
  go_simp
  refine wpAnyH_take (i := 12) (v := ?_) rfl (by kernel_rfl) (by kernel_rfl) (by kernel_rfl) (fun _ _ _ h => h) (Or.inl ⟨by rfl, ?_⟩) (by assumption) ?_
  rotate_left
  · intro w hSw; go_simp; try with_reducible rfl
  go_simp
  refine wpAnyH_take (i := 13) (v := ?_) rfl (by kernel_rfl) (by kernel_rfl) (by kernel_rfl) (fun _ _ _ h => h) (Or.inl ⟨by rfl, ?_⟩) (by assumption) ?_
  rotate_left
  · intro w hSw; have r2 := (OB.c hSw.2).2.2; go_simp; try with_reducible rfl
  go_simp
  refine wpAnyH_ready (rs := [6]) (by kernel_rfl) (by simp) ?_
  refine AllReadyH.cons rfl (fun K hK => ?_) AllReadyH.nil
  go_simp
  go_wp2_with (go_at_call 31; (with_reducible refine (HPU.out _ (HH.out.kp HT.out HC.out (Kp.refl w0).drew)).mono ?_); rintro e w2 ⟨rfl, OJ2, O2, jt, ha⟩; have B2 := Lib.hid ((HH.out.kp HT.out HC.out (Kp.refl w0).drew).mid jt ha); have R2 := Lib.hid (ha.row (show w0.drew.heap[p0]? = _ from HR.out) (fun hp => Nat.lt_irrefl _ (HF.out _ (.inl hp)))); clear jt ha)
  refine hK.out _ _ ?_ (fun hHeld => ?_)
  · exact ⟨B2.out.p, R2.out⟩
  clear hK K
  refine wpAnyH_ready (rs := [7]) (by kernel_rfl) (by simp) ?_
  refine AllReadyH.cons rfl (fun K hK => ?_) AllReadyH.nil
  go_simp
  go_wp2_with (go_at_call 24; (with_reducible refine (HNU.out _ B2.out.jt.kW).mono ?_); rintro e w3 ⟨rfl, hk⟩; have B3 := Lib.hid (B2.out.kp HT.out HC.out hk); have R3 := Lib.hid (kp_row hk R2.out); clear hk)
  refine hK.out _ _ ?_ (fun hHeld => ?_)
  · exact ⟨B3.out.p, R3.out⟩
  clear hK K
  refine wpAnyH_ready (rs := [14]) (by kernel_rfl) (by simp) ?_
  refine AllReadyH.cons rfl (fun K hK => ?_) AllReadyH.nil
  go_simp
  go_wp2_with (go_at_call 40; (with_reducible refine (HRF.out _ B3.out.dj).mono ?_); rintro e w4 ⟨rfl, OM4, dj, ha⟩; have B4 := Lib.hid (B3.out.doc HT.out HC.out dj ha); have R4 := Lib.hid (ha.row R3.out (fun hp => Nat.lt_irrefl _ (HF.out _ (.inr hp)))); clear dj ha)
  refine hK.out _ _ ?_ (fun hHeld => ?_)
  · exact ⟨B4.out.p, R4.out⟩
  clear hK K
  refine wpAnyH_take (i := 15) (v := ?_) rfl (by kernel_rfl) (by kernel_rfl) (by kernel_rfl) (fun _ _ _ h => h) (Or.inl ⟨by rfl, ?_⟩) (by assumption) ?_
  rotate_left
  · intro w hSw; go_simp; try with_reducible rfl
  go_simp
  refine wpAnyH_take (i := 16) (v := ?_) rfl (by kernel_rfl) (by kernel_rfl) (by kernel_rfl) (fun _ _ _ h => h) (Or.inl ⟨by rfl, ?_⟩) (by assumption) ?_
  rotate_left
  · intro w hSw; go_simp; try with_reducible rfl
  go_simp
  refine wpAnyH_done (by kernel_rfl) ?_ _
  go_wp2
  go_ret
  exact ⟨by first | rfl | simp, q, gq, _, _, _, B4.out⟩

theorem dj_c0 (h : DJ W gq gm j m OM w) : w.cell? ⟨gq, 0, none⟩ = some (.pointer (some ⟨gm, 0, none⟩)) := by
  obtain ⟨v, us, h, -, -⟩ := h.cells
  unfold World.cell?
  dsimp only
  rw [h]
  rfl

set_option maxRecDepth 100000 in
set_option maxHeartbeats 4000000 in
theorem do7_off (T : TapC ads W R) (C : JouC ads W R J) (V : St ads W) (n : Int) (n0 : -9223372036854775808 ≤ n) (n1 : n ≤ 9223372036854775807) (a : Option Addr) (len cap : Nat) (hs : SlBB (.slice a len cap) rs W) (hn : rs.length = len) (hl : len ≤ 10) (hin : ∀ r ∈ rs, InB r ∧ r.length ≤ 300) (h : Bo7 R J W q g gq gm gp j m j m OJ O OM w) (ho : m.off = true) :
    Calls Tryd.prog 14 #[.pointer (some ⟨gp, 0, none⟩), .agg #[.int .i64 3, .int .i64 n, .slice a len cap]] w fun e w' => e = .returned (.bool true) ∧ ∃ q gq OJ' O' OM', Bo7 R J W q g gq gm gp j m j m OJ' O' OM' w' := by
  have hr : (w.alloc (OB 3 n a len cap)).heap[w.heap.size]? = some (OB 3 n a len cap) := (MapKept.heap_alloc w _).1
  have h0 : Bo7 R J W q g gq gm gp j m j m OJ O OM (w.alloc (OB 3 n a len cap)) := h.kp T C (kp_alloc _ _)
  have hfar : ∀ b, Un OJ O b ∨ OM b → b < w.heap.size := fun b hb => hb.elim (fun p => (h.jt.mem T C b p).2) (fun p => (h.dj.mem b p).2)
  have hgp : gp < w.heap.size := old_of_row h.p
  have HC := Lib.hid C
  have HT := Lib.hid T
  have hok := h.jt.ok
  have HAR := Lib.hid (fun w1 (b : Bo7 R J W q g gq gm gp j m j m OJ O OM w1) => b.jt.armC T C n n0 n1)
  have HRA := Lib.hid (fun w1 (d : MoC gm m w1) => ref6_arm gm m n w1 d)
  have HOF := fun w1 (b : Bo7 R J W q g gq gm gp j m j m OJ O OM w1) => T.off w1 b.jt.kW g m O b.jt.r hok
  rw [ho] at HOF
  have HOF := Lib.hid HOF
  have _v := V
  clear hok _v
  obtain ⟨pw0, pw1, pw2⟩ := PL.c h.p
  have hgp2 := hgp
  have HF := Lib.hid hfar
  have HGP := Lib.hid hgp
  have _u := And.intro n0 (And.intro n1 (And.intro hl (And.intro hn (And.intro hin hs))))
  clear _u
  clear T C V h hfar hgp hs hn hl hin
  go_enter Tryd.func14, Tryd.ntmps14
  go_wp2_with fail
  obtain ⟨w0, hw0⟩ : ∃ x, w.alloc (OB 3 n a len cap) = x := ⟨_, rfl⟩
  obtain ⟨p0, hp0⟩ : ∃ x, w.heap.size = x := ⟨_, rfl⟩
  rw [hw0] at h0 hr
  have hw0' : w.alloc (.cells #[.int .i64 3, .int .i64 n, .slice a len cap] 44 (0, 0)) = w0 := hw0
  rw [hw0']
  rw [hp0] at hr ⊢
  have HF := HF.out
  rw [hp0] at HF
  have HF := Lib.hid HF
  have HR := Lib.hid hr
  have HH := Lib.hid h0
  have PC := PL.c h0.p
  have OC := OB.c hr
  obtain ⟨pc0, pc1, pc2⟩ := PC
  obtain ⟨oc0, oc1, oc2⟩ := OC
  clear hw0 hw0' hp0 hr h0
  clear pw0 pw1 pw2
  go_wp2_with (go_at_call 41; (with_reducible refine (HOF.out _ HH.out).mono ?_); rintro e w1 ⟨rfl, hk⟩; have B1 := Lib.hid (HH.out.kp HT.out HC.out hk); have R1 := Lib.hid (kp_row hk HR.out); clear hk)
  go_ret
  exact ⟨by first | rfl | simp, q, gq, _, _, _, B1.out⟩

set_option maxRecDepth 100000 in
set_option maxHeartbeats 4000000 in
theorem do7_arm (T : TapC ads W R) (C : JouC ads W R J) (V : St ads W) (n : Int) (n0 : -9223372036854775808 ≤ n) (n1 : n ≤ 9223372036854775807) (a : Option Addr) (len cap : Nat) (hs : SlBB (.slice a len cap) rs W) (hn : rs.length = len) (hl : len ≤ 10) (hin : ∀ r ∈ rs, InB r ∧ r.length ≤ 300) (h : Bo7 R J W q g gq gm gp j m j m OJ O OM w) (ho : m.off = false) :
    Calls Tryd.prog 14 #[.pointer (some ⟨gp, 0, none⟩), .agg #[.int .i64 3, .int .i64 n, .slice a len cap]] w fun e w' => e = .returned (.bool true) ∧ ∃ q gq OJ' O' OM', Bo7 R J W q g gq gm gp j (armM m n) j (armM m n) OJ' O' OM' w' := by
  have hr : (w.alloc (OB 3 n a len cap)).heap[w.heap.size]? = some (OB 3 n a len cap) := (MapKept.heap_alloc w _).1
  have h0 : Bo7 R J W q g gq gm gp j m j m OJ O OM (w.alloc (OB 3 n a len cap)) := h.kp T C (kp_alloc _ _)
  have hfar : ∀ b, Un OJ O b ∨ OM b → b < w.heap.size := fun b hb => hb.elim (fun p => (h.jt.mem T C b p).2) (fun p => (h.dj.mem b p).2)
  have hgp : gp < w.heap.size := old_of_row h.p
  have HC := Lib.hid C
  have HT := Lib.hid T
  have hok := h.jt.ok
  have HAR := Lib.hid (fun w1 (b : Bo7 R J W q g gq gm gp j m j m OJ O OM w1) => b.jt.armC T C n n0 n1)
  have HRA := Lib.hid (fun w1 (d : MoC gm m w1) => ref6_arm gm m n w1 d)
  have HOF := fun w1 (b : Bo7 R J W q g gq gm gp j m j m OJ O OM w1) => T.off w1 b.jt.kW g m O b.jt.r hok
  rw [ho] at HOF
  have HOF := Lib.hid HOF
  have _v := V
  clear hok _v
  obtain ⟨pw0, pw1, pw2⟩ := PL.c h.p
  have hgp2 := hgp
  have HF := Lib.hid hfar
  have HGP := Lib.hid hgp
  have _u := And.intro n0 (And.intro n1 (And.intro hl (And.intro hn (And.intro hin hs))))
  clear _u
  clear T C V h hfar hgp hs hn hl hin
  go_enter Tryd.func14, Tryd.ntmps14
  go_wp2_with fail
  obtain ⟨w0, hw0⟩ : ∃ x, w.alloc (OB 3 n a len cap) = x := ⟨_, rfl⟩
  obtain ⟨p0, hp0⟩ : ∃ x, w.heap.size = x := ⟨_, rfl⟩
  rw [hw0] at h0 hr
  have hw0' : w.alloc (.cells #[.int .i64 3, .int .i64 n, .slice a len cap] 44 (0, 0)) = w0 := hw0
  rw [hw0']
  rw [hp0] at hr ⊢
  have HF := HF.out
  rw [hp0] at HF
  have HF := Lib.hid HF
  have HR := Lib.hid hr
  have HH := Lib.hid h0
  have PC := PL.c h0.p
  have OC := OB.c hr
  obtain ⟨pc0, pc1, pc2⟩ := PC
  obtain ⟨oc0, oc1, oc2⟩ := OC
  clear hw0 hw0' hp0 hr h0
  clear pw0 pw1 pw2
  go_wp2_with (go_at_call 41; (with_reducible refine (HOF.out _ HH.out).mono ?_); rintro e w1 ⟨rfl, hk⟩; have B1 := Lib.hid (HH.out.kp HT.out HC.out hk); have R1 := Lib.hid (kp_row hk HR.out); clear hk)
  refine wp_region_held_drew (S := fun w' => w'.heap[gp]? = some (PL g q gq) ∧ w'.heap[p0]? = some (OB 3 n a len cap)) (by kernel_rfl) ?_ (fun hHeld => ?_)
  · exact ⟨B1.out.p, R1.out⟩
  refine wpAnyH_take (i := 0) (v := ?_) rfl (by kernel_rfl) (by kernel_rfl) (by kernel_rfl) (fun _ _ _ h => h) (Or.inl ⟨by rfl, ?_⟩) (by assumption) ?_
  rotate_left
  · intro w hSw; go_simp; try with_reducible rfl
  go_simp
  refine wpAnyH_take (i := 1) (v := ?_) rfl (by kernel_rfl) (by kernel_rfl) (by kernel_rfl) (fun _ _ _ h => h) (Or.inl ⟨by rfl, ?_⟩) (by assumption) ?_
  rotate_left
  · intro w hSw; go_simp; try with_reducible rfl
  go_simp
  refine wpAnyH_take (i := 2) (v := ?_) rfl (by kernel_rfl) (by kernel_rfl) (by kernel_rfl) (fun _ _ _ h => h) (Or.inl ⟨by rfl, ?_⟩) (by assumption) ?_
  rotate_left
  · intro w hSw; go_simp; try with_reducible rfl
  go_simp
  refine wpAnyH_take (i := 3) (v := ?_) rfl (by kernel_rfl) (by kernel_rfl) (by kernel_rfl) (fun _ _ _ h => h) (Or.inl ⟨by rfl, ?_⟩) (by assumption) ?_
  rotate_left
  · intro w hSw; have q0 := (PL.c hSw.1).1; go_simp; try with_reducible rfl
  go_simp
  refine wpAnyH_take (i := 4) (v := ?_) rfl (by kernel_rfl) (by kernel_rfl) (by kernel_rfl) (fun _ _ _ h => h) (Or.inl ⟨by rfl, ?_⟩) (by assumption) ?_
  rotate_left
  · intro w hSw; go_simp; try with_reducible rfl
  go_simp
  refine wpAnyH_take (i := 5) (v := ?_) rfl (by kernel_rfl) (by kernel_rfl) (by kernel_rfl) (fun _ _ _ h => h) (Or.inl ⟨by rfl, ?_⟩) (by assumption) ?_
  rotate_left
  · intro w hSw; go_simp; try with_reducible rfl
  go_simp
  refine wpAnyH_take (i := 6) (v := ?_) rfl (by kernel_rfl) (by kernel_rfl) (by kernel_rfl) (fun _ _ _ h => h) (Or.inl ⟨by rfl, ?_⟩) (by assumption) ?_
  rotate_left
  · intro w hSw; go_simp; try with_reducible rfl
  go_simp
  refine wpAnyH_take (i := 7) (v := ?_) rfl (by kernel_rfl) (by kernel_rfl) (by kernel_rfl) (fun _ _ _ h => h) (Or.inl ⟨by rfl, ?_⟩) (by assumption) ?_
  rotate_left
  · intro w hSw; have r1 := (OB.c hSw.2).2.1; go_simp; try with_reducible rfl
  go_simp
  refine wpAnyH_ready (rs := [8]) (by kernel_rfl) (by simp) ?_
  refine AllReadyH.cons rfl (fun K hK => ?_) AllReadyH.nil
  go_simp
  go_wp2_with (go_at_call 29; (with_reducible refine (HAR.out _ (B1.out.kp HT.out HC.out (Kp.refl w1).drew)).mono ?_); rintro e w2 ⟨rfl, O2, jt, ha⟩; have B2 := Lib.hid ((B1.out.kp HT.out HC.out (Kp.refl w1).drew).mid jt ha.left); have R2 := Lib.hid (ha.row (show w1.drew.heap[p0]? = _ from R1.out) (fun hp => Nat.lt_irrefl _ (HF.out _ (.inl (.inr hp))))); clear jt ha)
  refine hK.out _ _ ?_ (fun hHeld => ?_)
  · exact ⟨B2.out.p, R2.out⟩
  clear hK K
  refine wpAnyH_done (by kernel_rfl) ?_ _
  have hgc2 := dj_c0 B2.out.dj
  go_wp2
  refine wp_region_held_drew (S := fun w' => (w'.heap[gp]? = some (PL g q gq) ∧ w'.heap[p0]? = some (OB 3 n a len cap)) ∧ w'.cell? ⟨gq, 0, none⟩ = some (.pointer (some ⟨gm, 0, none⟩))) (by kernel_rfl) ?_ (fun hHeld => ?_)
  · exact ⟨⟨B2.out.p, R2.out⟩, hgc2⟩
  refine wpAnyH_take (i := 0) (v := ?_) rfl (by kernel_rfl) (by kernel_rfl) (by kernel_rfl) (fun _ _ _ h => h) (Or.inl ⟨by rfl, ?_⟩) (by assumption) ?_
  rotate_left
  · intro w hSw; go_simp; try with_reducible rfl
  go_simp
  refine wpAnyH_take (i := 1) (v := ?_) rfl (by kernel_rfl) (by kernel_rfl) (by kernel_rfl) (fun _ _ _ h => h) (Or.inl ⟨by rfl, ?_⟩) (by assumption) ?_
  rotate_left
  · intro w hSw; go_simp; try with_reducible rfl
  go_simp
  refine wpAnyH_take (i := 2) (v := ?_) rfl (by kernel_rfl) (by kernel_rfl) (by kernel_rfl) (fun _ _ _ h => h) (Or.inl ⟨by rfl, ?_⟩) (by assumption) ?_
  rotate_left
  · intro w hSw; go_simp; try with_reducible rfl
  go_simp
  refine wpAnyH_take (i := 3) (v := ?_) rfl (by kernel_rfl) (by kernel_rfl) (by kernel_rfl) (fun _ _ _ h => h) (Or.inl ⟨by rfl, ?_⟩) (by assumption) ?_
  rotate_left
  · intro w hSw; have q2 := (PL.c hSw.1.1).2.2; go_simp; try with_reducible rfl
  go_simp
  refine wpAnyH_take (i := 4) (v := ?_) rfl (by kernel_rfl) (by kernel_rfl) (by kernel_rfl) (fun _ _ _ h => h) (Or.inl ⟨by rfl, ?_⟩) (by assumption) ?_
  rotate_left
  · intro w hSw; go_simp; try with_reducible rfl
  go_simp
  refine wpAnyH_take (i := 5) (v := ?_) rfl (by kernel_rfl) (by kernel_rfl) (by kernel_rfl) (fun _ _ _ h => h) (Or.inl ⟨by rfl, ?_⟩) (by assumption) ?_
  rotate_left
  · intro w hSw; go_simp; try with_reducible rfl
  go_simp
  refine wpAnyH_take (i := 6) (v := ?_) rfl (by kernel_rfl) (by kernel_rfl) (by kernel_rfl) (fun _ _ _ h => h) (Or.inl ⟨by rfl, ?_⟩) (by assumption) ?_
  rotate_left
  · intro w hSw; have s0 := hSw.2; go_simp; try with_reducible rfl
  go_simp
  refine wpAnyH_take (i := 7) (v := ?_) rfl (by kernel_rfl) (by kernel_rfl) (by kernel_rfl) (fun _ _ _ h => h) (Or.inl ⟨by rfl, ?_⟩) (by assumption) ?_
  rotate_left
  · intro w hSw; go_simp; try with_reducible rfl
  go_simp
  refine wpAnyH_take (i := 8) (v := ?_) rfl (by kernel_rfl) (by kernel_rfl) (by kernel_rfl) (fun _ _ _ h => h) (Or.inl ⟨by rfl, ?_⟩) (by assumption) ?_
  rotate_left
  · intro w hSw; have r1 := (OB.c hSw.1.2).2.1; go_simp; try with_reducible rfl
  go_simp
  refine wpAnyH_ready (rs := [9]) (by kernel_rfl) (by simp) ?_
  refine AllReadyH.cons rfl (fun K hK => ?_) AllReadyH.nil
  go_simp
  go_wp2_with (go_at_call 42; (with_reducible refine (HRA.out _ (B2.out.dj.kp (Kp.refl w2).drew).mo).mono ?_); rintro e w3 ⟨rfl, hmo, hon⟩; have DD := (B2.out.dj.kp (Kp.refl w2).drew).tape hmo hon; have B3 := Lib.hid ((B2.out.kp HT.out HC.out (Kp.refl w2).drew).doc HT.out HC.out DD.1 DD.2); have R3 := Lib.hid (DD.2.row (show w2.drew.heap[p0]? = _ from R2.out) (fun hp => Nat.lt_irrefl _ (HF.out _ (.inr hp)))); have hgc3 := dj_c0 B3.out.dj; clear DD hmo hon)
  refine hK.out _ _ ?_ (fun hHeld => ?_)
  · exact ⟨⟨B3.out.p, R3.out⟩, hgc3⟩
  clear hK K
  refine wpAnyH_done (by kernel_rfl) ?_ _
  go_wp2
  go_ret
  exact ⟨by first | rfl | simp, q, gq, _, _, _, B3.out⟩

theorem DJ.hasT (h : DJ W gq gm j m OM w) : OM gm := by
  obtain ⟨v, us, E, h, rfl⟩ := h
  exact .inl rfl
theorem JT.roomC (T : TapC ads W R) (C : JouC ads W R J) (h : JT R J W q g j m OJ O w) (n : Int) (n0 : -9223372036854775808 ≤ n) (n1 : n ≤ 9223372036854775807) :
    Calls Tryd.prog 32 #[.pointer (some ⟨g, 0, none⟩), .int .i64 n] w fun e w' => e = .returned (errI ads (roomM m n).1) ∧ ∃ O', JT R J W q g j (roomM m n).2 OJ O' w' ∧ Asd O O' w w' := by
  refine (T.setRoom w h.kW g m O h.r h.ok n n0 n1).mono ?_
  rintro e w' ⟨rfl, O', r, ha⟩
  exact ⟨rfl, O', h.tape T C r (h.ok.room n) (h.inv.room n) ha, ha⟩

set_option maxRecDepth 100000 in
set_option maxHeartbeats 4000000 in
theorem do7_room_in (T : TapC ads W R) (C : JouC ads W R J) (V : St ads W) (n : Int) (n0 : -9223372036854775808 ≤ n) (n1 : n ≤ 9223372036854775807) (a : Option Addr) (len cap : Nat) (hs : SlBB (.slice a len cap) rs W) (hn : rs.length = len) (hl : len ≤ 10) (hin : ∀ r ∈ rs, InB r ∧ r.length ≤ 300) (h : Bo7 R J W q g gq gm gp j m j m OJ O OM w) (hr0 : 0 ≤ n) (hr1 : n ≤ 65536) :
    Calls Tryd.prog 14 #[.pointer (some ⟨gp, 0, none⟩), .agg #[.int .i64 4, .int .i64 n, .slice a len cap]] w fun e w' => e = .returned (.bool true) ∧ ∃ q gq OJ' O' OM', Bo7 R J W q g gq gm gp j { m with room := n } j { m with room := n } OJ' O' OM' w' := by
  have hr : (w.alloc (OB 4 n a len cap)).heap[w.heap.size]? = some (OB 4 n a len cap) := (MapKept.heap_alloc w _).1
  have h0 : Bo7 R J W q g gq gm gp j m j m OJ O OM (w.alloc (OB 4 n a len cap)) := h.kp T C (kp_alloc _ _)
  have hfar : ∀ b, Un OJ O b ∨ OM b → b < w.heap.size := fun b hb => hb.elim (fun p => (h.jt.mem T C b p).2) (fun p => (h.dj.mem b p).2)
  have hgp : gp < w.heap.size := old_of_row h.p
  have HC := Lib.hid C
  have HT := Lib.hid T
  have hok := h.jt.ok
  have em : roomM m n = (0, { m with room := n }) := by unfold roomM; rw [if_pos ⟨hr0, hr1⟩]
  have HSR := fun w1 j2 m2 OM2 (b : Bo7 R J W q g gq gm gp j m j2 m2 OJ O OM2 w1) => b.jt.roomC T C n n0 n1
  simp only [em, errI_nil] at HSR
  have HSR := Lib.hid HSR
  have g1 : n ≥ 0 := hr0
  have g2 : n ≤ 65536 := hr1
  have _v := V
  clear hok _v em
  obtain ⟨pw0, pw1, pw2⟩ := PL.c h.p
  have hgp2 := hgp
  have HF := Lib.hid hfar
  have HGP := Lib.hid hgp
  have _u := And.intro n0 (And.intro n1 (And.intro hl (And.intro hn (And.intro hin hs))))
  clear _u
  clear T C V h hfar hgp hs hn hl hin
  go_enter Tryd.func14, Tryd.ntmps14
  go_wp2_with fail
  obtain ⟨w0, hw0⟩ : ∃ x, w.alloc (OB 4 n a len cap) = x := ⟨_, rfl⟩
  obtain ⟨p0, hp0⟩ : ∃ x, w.heap.size = x := ⟨_, rfl⟩
  rw [hw0] at h0 hr
  have hw0' : w.alloc (.cells #[.int .i64 4, .int .i64 n, .slice a len cap] 44 (0, 0)) = w0 := hw0
  rw [hw0']
  rw [hp0] at hr ⊢
  have HF := HF.out
  rw [hp0] at HF
  have HF := Lib.hid HF
  have HR := Lib.hid hr
  have HH := Lib.hid h0
  have PC := PL.c h0.p
  have OC := OB.c hr
  obtain ⟨pc0, pc1, pc2⟩ := PC
  obtain ⟨oc0, oc1, oc2⟩ := OC
  clear hw0 hw0' hp0 hr h0
  clear pw0 pw1 pw2
  have hgc0 := dj_c0 HH.out.dj
  have y2 := HH.out.dj.mo.c2
  have yz := HH.out.dj.mo.z
  obtain ⟨w1, hw1⟩ : ∃ x, w0.drew.setCell ⟨gm, 2, none⟩ (.int .i64 n) = x := ⟨_, rfl⟩
  have DD := (HH.out.dj.kp (Kp.refl w0).drew).tape ((HH.out.dj.kp (Kp.refl w0).drew).mo.set2 n) ((On.refl gm w0.drew).set 2 (.int .i64 n))
  have B1 := (HH.out.kp HT.out HC.out (Kp.refl w0).drew).doc HT.out HC.out DD.1 DD.2
  have R1 := DD.2.row (show w0.drew.heap[p0]? = _ from HR.out) (fun hp => Nat.lt_irrefl _ (HF.out _ (.inr hp)))
  rw [hw1] at B1 R1
  have hgc1 := dj_c0 B1.dj
  have B1 := Lib.hid B1
  have R1 := Lib.hid R1
  clear DD
  refine wp_region_held_drew (S := fun w' => (w'.heap[gp]? = some (PL g q gq) ∧ w'.heap[p0]? = some (OB 4 n a len cap)) ∧ w'.cell? ⟨gq, 0, none⟩ = some (.pointer (some ⟨gm, 0, none⟩))) (by kernel_rfl) ?_ (fun hHeld => ?_)
  · exact ⟨⟨HH.out.p, HR.out⟩, hgc0⟩
  refine wpAnyH_take (i := 0) (v := ?_) rfl (by kernel_rfl) (by kernel_rfl) (by kernel_rfl) (fun _ _ _ h => h) (Or.inl ⟨by rfl, ?_⟩) (by assumption) ?_
  rotate_left
  · intro w hSw; go_simp; try with_reducible rfl
  go_simp
  refine wpAnyH_take (i := 1) (v := ?_) rfl (by kernel_rfl) (by kernel_rfl) (by kernel_rfl) (fun _ _ _ h => h) (Or.inl ⟨by rfl, ?_⟩) (by assumption) ?_
  rotate_left
  · intro w hSw; go_simp; try with_reducible rfl
  go_simp
  refine wpAnyH_take (i := 2) (v := ?_) rfl (by kernel_rfl) (by kernel_rfl) (by kernel_rfl) (fun _ _ _ h => h) (Or.inl ⟨by rfl, ?_⟩) (by assumption) ?_
  rotate_left
  · intro w hSw; go_simp; try with_reducible rfl
  go_simp
  refine wpAnyH_take (i := 3) (v := ?_) rfl (by kernel_rfl) (by kernel_rfl) (by kernel_rfl) (fun _ _ _ h => h) (Or.inl ⟨by rfl, ?_⟩) (by assumption) ?_
  rotate_left
  · intro w hSw; have q2 := (PL.c hSw.1.1).2.2; go_simp; try with_reducible rfl
  go_simp
  refine wpAnyH_take (i := 4) (v := ?_) rfl (by kernel_rfl) (by kernel_rfl) (by kernel_rfl) (fun _ _ _ h => h) (Or.inl ⟨by rfl, ?_⟩) (by assumption) ?_
  rotate_left
  · intro w hSw; go_simp; try with_reducible rfl
  go_simp
  refine wpAnyH_take (i := 5) (v := ?_) rfl (by kernel_rfl) (by kernel_rfl) (by kernel_rfl) (fun _ _ _ h => h) (Or.inl ⟨by rfl, ?_⟩) (by assumption) ?_
  rotate_left
  · intro w hSw; go_simp; try with_reducible rfl
  go_simp
  refine wpAnyH_take (i := 6) (v := ?_) rfl (by kernel_rfl) (by kernel_rfl) (by kernel_rfl) (fun _ _ _ h => h) (Or.inl ⟨by rfl, ?_⟩) (by assumption) ?_
  rotate_left
  · intro w hSw; have s0 := hSw.2; go_simp; try with_reducible rfl
  go_simp
  refine wpAnyH_take (i := 7) (v := ?_) rfl (by kernel_rfl) (by kernel_rfl) (by kernel_rfl) (fun _ _ _ h => h) (Or.inl ⟨by rfl, ?_⟩) (by assumption) ?_
  rotate_left
  · intro w hSw; go_simp; try with_reducible rfl
  go_simp
  refine wpAnyH_take (i := 8) (v := ?_) rfl (by kernel_rfl) (by kernel_rfl) (by kernel_rfl) (fun _ _ _ h => h) (Or.inl ⟨by rfl, ?_⟩) (by assumption) ?_
  rotate_left
  · intro w hSw; have r1 := (OB.c hSw.1.2).2.1; go_simp; try with_reducible rfl
  go_simp
  refine wpAnyH_take (i := 9) (v := ?_) rfl (by kernel_rfl) (by kernel_rfl) (by kernel_rfl) (fun _ _ _ h => h) (Or.inl ⟨by rfl, ?_⟩) (by assumption) ?_
  rotate_left
  · intro w hSw; go_simp; try with_reducible rfl
  go_simp
  refine wpAnyH_take (i := 10) (v := ?_) rfl (by kernel_rfl) (by kernel_rfl) (by kernel_rfl) (fun _ _ _ h => h) (Or.inl ⟨by rfl, ?_⟩) (by assumption) ?_
  rotate_left
  · intro w hSw; go_simp; try with_reducible rfl
  go_simp
  refine wpAnyH_ready (rs := [11]) (by kernel_rfl) (by simp) ?_
  refine AllReadyH.cons rfl (fun K hK => ?_) AllReadyH.nil
  go_simp
  refine hK.out _ _ ?_ (fun hHeld => ?_)
  · exact ⟨⟨B1.out.p, R1.out⟩, hgc1⟩
  clear hK K
  refine wpAnyH_done (by kernel_rfl) ?_ _
  clear hgc0 y2 yz hw1
  go_wp2
  refine wp_region_held_drew (S := fun w' => w'.heap[gp]? = some (PL g q gq) ∧ w'.heap[p0]? = some (OB 4 n a len cap)) (by kernel_rfl) ?_ (fun hHeld => ?_)
  · exact ⟨B1.out.p, R1.out⟩
  refine wpAnyH_take (i := 0) (v := ?_) rfl (by kernel_rfl) (by kernel_rfl) (by kernel_rfl) (fun _ _ _ h => h) (Or.inl ⟨by rfl, ?_⟩) (by assumption) ?_
  rotate_left
  · intro w hSw; go_simp; try with_reducible rfl
  go_simp
  refine wpAnyH_take (i := 1) (v := ?_) rfl (by kernel_rfl) (by kernel_rfl) (by kernel_rfl) (fun _ _ _ h => h) (Or.inl ⟨by rfl, ?_⟩) (by assumption) ?_
  rotate_left
  · intro w hSw; go_simp; try with_reducible rfl
  go_simp
  refine wpAnyH_take (i := 2) (v := ?_) rfl (by kernel_rfl) (by kernel_rfl) (by kernel_rfl) (fun _ _ _ h => h) (Or.inl ⟨by rfl, ?_⟩) (by assumption) ?_
  rotate_left
  · intro w hSw; go_simp; try with_reducible rfl
  go_simp
  refine wpAnyH_take (i := 3) (v := ?_) rfl (by kernel_rfl) (by kernel_rfl) (by kernel_rfl) (fun _ _ _ h => h) (Or.inl ⟨by rfl, ?_⟩) (by assumption) ?_
  rotate_left
  · intro w hSw; have q0 := (PL.c hSw.1).1; go_simp; try with_reducible rfl
  go_simp
  refine wpAnyH_take (i := 4) (v := ?_) rfl (by kernel_rfl) (by kernel_rfl) (by kernel_rfl) (fun _ _ _ h => h) (Or.inl ⟨by rfl, ?_⟩) (by assumption) ?_
  rotate_left
  · intro w hSw; go_simp; try with_reducible rfl
  go_simp
  refine wpAnyH_take (i := 5) (v := ?_) rfl (by kernel_rfl) (by kernel_rfl) (by kernel_rfl) (fun _ _ _ h => h) (Or.inl ⟨by rfl, ?_⟩) (by assumption) ?_
  rotate_left
  · intro w hSw; have r1 := (OB.c hSw.2).2.1; go_simp; try with_reducible rfl
  go_simp
  refine wpAnyH_ready (rs := [6]) (by kernel_rfl) (by simp) ?_
  refine AllReadyH.cons rfl (fun K hK => ?_) AllReadyH.nil
  go_simp
  go_wp2_with (go_at_call 32; (with_reducible refine (HSR.out _ _ _ _ (B1.out.kp HT.out HC.out (Kp.refl w1).drew)).mono ?_); rintro e w2 ⟨rfl, O2, jt, ha⟩; have B2 := Lib.hid ((B1.out.kp HT.out HC.out (Kp.refl w1).drew).mid jt ha.left); have R2 := Lib.hid (ha.row (show w1.drew.heap[p0]? = _ from R1.out) (fun hp => Nat.lt_irrefl _ (HF.out _ (.inl (.inr hp))))); clear jt ha)
  refine hK.out _ _ ?_ (fun hHeld => ?_)
  · exact ⟨B2.out.p, R2.out⟩
  clear hK K
  refine wpAnyH_take (i := 7) (v := ?_) rfl (by kernel_rfl) (by kernel_rfl) (by kernel_rfl) (fun _ _ _ h => h) (Or.inl ⟨by rfl, ?_⟩) (by assumption) ?_
  rotate_left
  · intro w hSw; go_simp; try with_reducible rfl
  go_simp
  refine wpAnyH_take (i := 8) (v := ?_) rfl (by kernel_rfl) (by kernel_rfl) (by kernel_rfl) (fun _ _ _ h => h) (Or.inl ⟨by rfl, ?_⟩) (by assumption) ?_
  rotate_left
  · intro w hSw; go_simp; try with_reducible rfl
  go_simp
  refine wpAnyH_done (by kernel_rfl) ?_ _
  go_wp2
  go_ret
  exact ⟨by first | rfl | simp, q, gq, _, _, _, B2.out⟩

set_option maxRecDepth 100000 in
set_option maxHeartbeats 4000000 in
theorem do7_room_out (T : TapC ads W R) (C : JouC ads W R J) (V : St ads W) (n : Int) (n0 : -9223372036854775808 ≤ n) (n1 : n ≤ 9223372036854775807) (a : Option Addr) (len cap : Nat) (hs : SlBB (.slice a len cap) rs W) (hn : rs.length = len) (hl : len ≤ 10) (hin : ∀ r ∈ rs, InB r ∧ r.length ≤ 300) (h : Bo7 R J W q g gq gm gp j m j m OJ O OM w) (hro : n < 0 ∨ 65536 < n) :
    Calls Tryd.prog 14 #[.pointer (some ⟨gp, 0, none⟩), .agg #[.int .i64 4, .int .i64 n, .slice a len cap]] w fun e w' => e = .returned (.bool true) ∧ ∃ q gq OJ' O' OM', Bo7 R J W q g gq gm gp j m j m OJ' O' OM' w' := by
  have hr : (w.alloc (OB 4 n a len cap)).heap[w.heap.size]? = some (OB 4 n a len cap) := (MapKept.heap_alloc w _).1
  have h0 : Bo7 R J W q g gq gm gp j m j m OJ O OM (w.alloc (OB 4 n a len cap)) := h.kp T C (kp_alloc _ _)
  have hfar : ∀ b, Un OJ O b ∨ OM b → b < w.heap.size := fun b hb => hb.elim (fun p => (h.jt.mem T C b p).2) (fun p => (h.dj.mem b p).2)
  have hgp : gp < w.heap.size := old_of_row h.p
  have HC := Lib.hid C
  have HT := Lib.hid T
  have _v := V
  clear _v
  have HF := Lib.hid hfar
  have HGP := Lib.hid hgp
  have _u := And.intro n0 (And.intro n1 (And.intro hl (And.intro hn (And.intro hin hs))))
  clear _u
  clear T C V h hfar hgp hs hn hl hin
  go_enter Tryd.func14, Tryd.ntmps14
  by_cases g1 : n ≥ 0
  · have g2 : ¬ n ≤ 65536 := by omega
    clear hro
    go_wp2
    go_ret
    exact ⟨by first | rfl | simp, q, gq, _, _, _, h0⟩
  · clear hro
    go_wp2
    go_ret
    exact ⟨by first | rfl | simp, q, gq, _, _, _, h0⟩

set_option maxRecDepth 100000 in
set_option maxHeartbeats 4000000 in
theorem do7_none (T : TapC ads W R) (C : JouC ads W R J) (V : St ads W) (n : Int) (n0 : -9223372036854775808 ≤ n) (n1 : n ≤ 9223372036854775807) (a : Option Addr) (len cap : Nat) (hs : SlBB (.slice a len cap) rs W) (hn : rs.length = len) (hl : len ≤ 10) (hin : ∀ r ∈ rs, InB r ∧ r.length ≤ 300) (h : Bo7 R J W q g gq gm gp j m j m OJ O OM w) (kx : Int) (k1 : ¬ kx = 1) (k2 : ¬ kx = 2) (k3 : ¬ kx = 3) (k4 : ¬ kx = 4) (k5 : ¬ kx = 5) :
    Calls Tryd.prog 14 #[.pointer (some ⟨gp, 0, none⟩), .agg #[.int .i64 kx, .int .i64 n, .slice a len cap]] w fun e w' => e = .returned (.bool true) ∧ ∃ q gq OJ' O' OM', Bo7 R J W q g gq gm gp j m j m OJ' O' OM' w' := by
  have hr : (w.alloc (OB kx n a len cap)).heap[w.heap.size]? = some (OB kx n a len cap) := (MapKept.heap_alloc w _).1
  have h0 : Bo7 R J W q g gq gm gp j m j m OJ O OM (w.alloc (OB kx n a len cap)) := h.kp T C (kp_alloc _ _)
  have hfar : ∀ b, Un OJ O b ∨ OM b → b < w.heap.size := fun b hb => hb.elim (fun p => (h.jt.mem T C b p).2) (fun p => (h.dj.mem b p).2)
  have hgp : gp < w.heap.size := old_of_row h.p
  have HC := Lib.hid C
  have HT := Lib.hid T
  have _v := V
  clear _v
  have HF := Lib.hid hfar
  have HGP := Lib.hid hgp
  have _u := And.intro n0 (And.intro n1 (And.intro hl (And.intro hn (And.intro hin hs))))
  clear _u
  clear T C V h hfar hgp hs hn hl hin
  go_enter Tryd.func14, Tryd.ntmps14
  go_wp2
  go_ret
  exact ⟨by first | rfl | simp, q, gq, _, _, _, h0⟩

/-- A play whose power went and came: the tape as it is, no journal on it yet. -/
structure Mi7 (R : Nat → TM → (Nat → Prop) → World → Prop) (W : World) (q g gq gm gp : Nat) (m : TM) (j2 : JM) (m2 : TM) (O OM : Nat → Prop) (w : World) : Prop where
  r : R g m O w
  kW : Kp W w
  dj : DJ W gq gm j2 m2 OM w
  d : ∀ b, O b → ¬ OM b
  p : w.heap[gp]? = some (PL g q gq)
  np : ¬ O gp ∧ ¬ OM gp
  pW : W.heap.size ≤ gp
theorem Mi7.kp (T : TapC ads W R) (h : Mi7 R W q g gq gm gp m j2 m2 O OM w) (hk : Kp w w') : Mi7 R W q g gq gm gp m j2 m2 O OM w' :=
  ⟨T.stay h.r (Below.size hk) (fun b hb => Below.block hk b (T.mem h.r b hb).2), Kp.trans h.kW hk, h.dj.kp hk, h.d, kp_row hk h.p, h.np, h.pW⟩
/-- the tape's crash -/
theorem Bo7.crash (h : Bo7 R J W q g gq gm gp j m j2 m2 OJ O OM w) (r : R g m' O' w') (hk : Kp W w') (ha : Asd O O' w w') : Mi7 R W q g gq gm gp m' j2 m2 O' OM w' :=
  ⟨r, hk, h.dj.stay hk ha.size (fun b hb => ha.block b (h.dj.mem b hb).2 (fun p => h.d b (.inr p) hb)), fun b hb hO => by
    rcases ha.own b hb with p | p
    · exact h.d b (.inr p) hO
    · have := (h.dj.mem b hO).2; omega, ha.row h.p (fun p => h.np.1 (.inr p)), ⟨fun hp => by
    rcases ha.own gp hp with p | p
    · exact h.np.1 (.inr p)
    · have := old_of_row h.p; omega, h.np.2⟩, h.pW⟩
/-- the document's crash -/
theorem Mi7.doc (T : TapC ads W R) (h : Mi7 R W q g gq gm gp m j2 m2 O OM w) (hmo : MoC gm m2' w') (hon : On gm w w') : Mi7 R W q g gq gm gp m j2 m2' O OM w' :=
  have D := h.dj.tape hmo hon
  ⟨T.stay h.r hon.size (fun b hb => hon.block b (T.mem h.r b hb).2 (fun e => h.d b hb (by have e2 : b = gm := e; rw [e2]; exact h.dj.hasT))), hon.kp h.kW (fun b hb => by rw [hb]; exact (h.dj.mem gm h.dj.hasT).1), D.1, h.d, D.2.row h.p h.np.2, h.np, h.pW⟩
/-- opened again, both -/
theorem Mi7.opened (T : TapC ads W R) (C : JouC ads W R J) (h : Mi7 R W q g gq gm gp m j2 m2 O OM w) {q' gq' : Nat} {w2 w3 : World} (jt : JT R J W q' g j m' OJ O' w2) (hn : ∀ b, OJ b → w.heap.size ≤ b) (ha : Asd O O' w w2) (dj : DJ W gq' gm j2' m2' OM' w3) (hf : ∀ b, OM' b → b = gm ∨ w2.heap.size ≤ b) (hb : Asd (fun b => b = gm) OM' w2 w3) :
    Bo7 R J W q' g gq' gm gp j m' j2' m2' OJ O' OM' ((w3.setCell ⟨gp, 1, none⟩ (.pointer (some ⟨q', 0, none⟩))).setCell ⟨gp, 2, none⟩ (.pointer (some ⟨gq', 0, none⟩))) ∧ w3.heap[gp]? = some (PL g q gq) := by
  have hgm := h.dj.hasT
  have hgml := (h.dj.mem gm hgm).2
  have hgpl := old_of_row h.p
  have hpm : gp ≠ gm := fun e => h.np.2 (by rw [e]; exact hgm)
  have hug : ∀ b, Un OJ O' b → b ≠ gm ∧ b ≠ gp := fun b hb => by
    rcases hb with q | q
    · have := hn b q; exact ⟨by omega, by omega⟩
    · rcases ha.own b q with p | p
      · exact ⟨fun e => h.d b p (by rw [e]; exact hgm), fun e => h.np.1 (by rw [← e]; exact p)⟩
      · exact ⟨by omega, by omega⟩
  have hz := ha.size
  have p2 : w2.heap[gp]? = some (PL g q gq) := ha.row h.p h.np.1
  have p3 : w3.heap[gp]? = some (PL g q gq) := by rw [hb.block gp (old_of_row p2) hpm]; exact p2
  have hgw : ∀ b, (fun x => x = gm) b → W.heap.size ≤ b := fun b hb => by have e : b = gm := hb; rw [e]; exact (h.dj.mem gm hgm).1
  have j3 := jt.apart T C hb hgw (fun b hb2 => (hug b hb2).1)
  have hmo' : ¬ OM' gp := fun hp => by
    rcases hf gp hp with e | e
    · exact hpm e
    · omega
  have hs : ∀ b, b ≠ gp → ((w3.setCell ⟨gp, 1, none⟩ (.pointer (some ⟨q', 0, none⟩))).setCell ⟨gp, 2, none⟩ (.pointer (some ⟨gq', 0, none⟩))).heap[b]? = w3.heap[b]? := fun b hb => by
    rw [Below.heap_setCell _ _ _ _ (fun e => hb e), Below.heap_setCell _ _ _ _ (fun e => hb e)]
  have k4 : Kp W ((w3.setCell ⟨gp, 1, none⟩ (.pointer (some ⟨q', 0, none⟩))).setCell ⟨gp, 2, none⟩ (.pointer (some ⟨gq', 0, none⟩))) := Below.setCell (Below.setCell j3.kW h.pW _) h.pW _
  have hsz : w3.heap.size ≤ ((w3.setCell ⟨gp, 1, none⟩ (.pointer (some ⟨q', 0, none⟩))).setCell ⟨gp, 2, none⟩ (.pointer (some ⟨gq', 0, none⟩))).heap.size := by simp
  refine ⟨⟨j3.keep T C k4 hsz (fun b hb2 => hs b (hug b hb2).2), dj.stay k4 hsz (fun b hb2 => hs b (fun e => hmo' (by rw [← e]; exact hb2))), fun b h1 h2 => ?_, ?_, ⟨fun hp => (hug gp hp).2 rfl, hmo'⟩, h.pW⟩, p3⟩
  · rcases hf b h2 with e | e
    · exact (hug b h1).1 e
    · have := (jt.mem T C b h1).2; omega
  · exact (Joins.block_setCell ((Joins.block_setCell p3 _).trans rfl) _).trans rfl

set_option maxRecDepth 100000 in
set_option maxHeartbeats 4000000 in
theorem do7_crash (T : TapC ads W R) (C : JouC ads W R J) (V : St ads W) (n : Int) (n0 : -9223372036854775808 ≤ n) (n1 : n ≤ 9223372036854775807) (a : Option Addr) (len cap : Nat) (hs : SlBB (.slice a len cap) rs W) (hn : rs.length = len) (hl : len ≤ 10) (hin : ∀ r ∈ rs, InB r ∧ r.length ≤ 300) (h : Bo7 R J W q g gq gm gp j m j m OJ O OM w) :
    Calls Tryd.prog 14 #[.pointer (some ⟨gp, 0, none⟩), .agg #[.int .i64 5, .int .i64 n, .slice a len cap]] w fun e w' => e = .returned (.bool true) ∧ ∃ q gq OJ' O' OM', Bo7 R J W q g gq gm gp (opened (crashM m n)) (openJ (crashM m n)).2 (opened (crashM m n)) (openJ (crashM m n)).2 OJ' O' OM' w' := by
  have hr : (w.alloc (OB 5 n a len cap)).heap[w.heap.size]? = some (OB 5 n a len cap) := (MapKept.heap_alloc w _).1
  have h0 : Bo7 R J W q g gq gm gp j m j m OJ O OM (w.alloc (OB 5 n a len cap)) := h.kp T C (kp_alloc _ _)
  have hfar : ∀ b, Un OJ O b ∨ OM b → b < w.heap.size := fun b hb => hb.elim (fun p => (h.jt.mem T C b p).2) (fun p => (h.dj.mem b p).2)
  have hgp : gp < w.heap.size := old_of_row h.p
  have HC := Lib.hid C
  have HT := Lib.hid T
  have hok := h.jt.ok
  have hcok := hok.crash n
  have hcz := open_crash m n
  have HCR := Lib.hid (fun w1 (b : Bo7 R J W q g gq gm gp j m j m OJ O OM w1) => b.jt.crashC T n n0 n1)
  have HRC := Lib.hid (fun w1 (d : MoC gm m w1) => ref6_crash gm m hok n w1 d)
  have HOP := Lib.hid (fun w1 O1 (b : Mi7 R W q g gq gm gp (crashM m n) j (crashM m n) O1 OM w1) => JT.openC T C b.kW b.r hcok rfl hcz)
  have HRO := Lib.hid (fun w1 (hk : Kp W w1) (d : MoC gm (crashM m n) w1) (hg : W.heap.size ≤ gm) => open7_any (m := crashM m n) hcok hcz hk d hg)
  have HGM := Lib.hid (h.dj.mem gm h.dj.hasT).1
  have _v := V
  clear hok hcok hcz _v
  obtain ⟨pw0, pw1, pw2⟩ := PL.c h.p
  have hgp2 := hgp
  have HF := Lib.hid hfar
  have HGP := Lib.hid hgp
  have _u := And.intro n0 (And.intro n1 (And.intro hl (And.intro hn (And.intro hin hs))))
  clear _u
  clear T C V h hfar hgp hs hn hl hin
  go_enter Tryd.func14, Tryd.ntmps14
  go_wp2_with fail
  obtain ⟨w0, hw0⟩ : ∃ x, w.alloc (OB 5 n a len cap) = x := ⟨_, rfl⟩
  obtain ⟨p0, hp0⟩ : ∃ x, w.heap.size = x := ⟨_, rfl⟩
  rw [hw0] at h0 hr
  have hw0' : w.alloc (.cells #[.int .i64 5, .int .i64 n, .slice a len cap] 44 (0, 0)) = w0 := hw0
  rw [hw0']
  rw [hp0] at hr ⊢
  have HF := HF.out
  rw [hp0] at HF
  have HF := Lib.hid HF
  have HR := Lib.hid hr
  have HH := Lib.hid h0
  have PC := PL.c h0.p
  have OC := OB.c hr
  obtain ⟨pc0, pc1, pc2⟩ := PC
  obtain ⟨oc0, oc1, oc2⟩ := OC
  clear hw0 hw0' hp0 hr h0
  clear pw0 pw1 pw2
  refine wp_region_held_drew (S := fun w' => w'.heap[gp]? = some (PL g q gq) ∧ w'.heap[p0]? = some (OB 5 n a len cap)) (by kernel_rfl) ?_ (fun hHeld => ?_)
  · exact ⟨HH.out.p, HR.out⟩
  refine wpAnyH_take (i := 0) (v := ?_) rfl (by kernel_rfl) (by kernel_rfl) (by kernel_rfl) (fun _ _ _ h => h) (Or.inl ⟨by rfl, ?_⟩) (by assumption) ?_
  rotate_left
  · intro w hSw; go_simp; try with_reducible rfl
  go_simp
  refine wpAnyH_take (i := 1) (v := ?_) rfl (by kernel_rfl) (by kernel_rfl) (by kernel_rfl) (fun _ _ _ h => h) (Or.inl ⟨by rfl, ?_⟩) (by assumption) ?_
  rotate_left
  · intro w hSw; go_simp; try with_reducible rfl
  go_simp
  refine wpAnyH_take (i := 2) (v := ?_) rfl (by kernel_rfl) (by kernel_rfl) (by kernel_rfl) (fun _ _ _ h => h) (Or.inl ⟨by rfl, ?_⟩) (by assumption) ?_
  rotate_left
  · intro w hSw; go_simp; try with_reducible rfl
  go_simp
  refine wpAnyH_take (i := 3) (v := ?_) rfl (by kernel_rfl) (by kernel_rfl) (by kernel_rfl) (fun _ _ _ h => h) (Or.inl ⟨by rfl, ?_⟩) (by assumption) ?_
  rotate_left
  · intro w hSw; have q0 := (PL.c hSw.1).1; go_simp; try with_reducible rfl
  go_simp
  refine wpAnyH_take (i := 4) (v := ?_) rfl (by kernel_rfl) (by kernel_rfl) (by kernel_rfl) (fun _ _ _ h => h) (Or.inl ⟨by rfl, ?_⟩) (by assumption) ?_
  rotate_left
  · intro w hSw; go_simp; try with_reducible rfl
  go_simp
  refine wpAnyH_take (i := 5) (v := ?_) rfl (by kernel_rfl) (by kernel_rfl) (by kernel_rfl) (fun _ _ _ h => h) (Or.inl ⟨by rfl, ?_⟩) (by assumption) ?_
  rotate_left
  · intro w hSw; have r1 := (OB.c hSw.2).2.1; go_simp; try with_reducible rfl
  go_simp
  refine wpAnyH_ready (rs := [6]) (by kernel_rfl) (by simp) ?_
  refine AllReadyH.cons rfl (fun K hK => ?_) AllReadyH.nil
  go_simp
  go_wp2_with (go_at_call 30; (with_reducible refine (HCR.out _ (HH.out.kp HT.out HC.out (Kp.refl w0).drew)).mono ?_); rintro e w2 ⟨rfl, O2, r, hk, ha⟩; have M2 := Lib.hid ((HH.out.kp HT.out HC.out (Kp.refl w0).drew).crash r hk ha); have R2 := Lib.hid (ha.row (show w0.drew.heap[p0]? = _ from HR.out) (fun hp => Nat.lt_irrefl _ (HF.out _ (.inl (.inr hp))))); clear r hk ha)
  refine hK.out _ _ ?_ (fun hHeld => ?_)
  · exact ⟨M2.out.p, R2.out⟩
  clear hK K
  refine wpAnyH_done (by kernel_rfl) ?_ _
  have hgc2 := dj_c0 M2.out.dj
  go_wp2
  refine wp_region_held_drew (S := fun w' => (w'.heap[gp]? = some (PL g q gq) ∧ w'.heap[p0]? = some (OB 5 n a len cap)) ∧ w'.cell? ⟨gq, 0, none⟩ = some (.pointer (some ⟨gm, 0, none⟩))) (by kernel_rfl) ?_ (fun hHeld => ?_)
  · exact ⟨⟨M2.out.p, R2.out⟩, hgc2⟩
  refine wpAnyH_take (i := 0) (v := ?_) rfl (by kernel_rfl) (by kernel_rfl) (by kernel_rfl) (fun _ _ _ h => h) (Or.inl ⟨by rfl, ?_⟩) (by assumption) ?_
  rotate_left
  · intro w hSw; go_simp; try with_reducible rfl
  go_simp
  refine wpAnyH_take (i := 1) (v := ?_) rfl (by kernel_rfl) (by kernel_rfl) (by kernel_rfl) (fun _ _ _ h => h) (Or.inl ⟨by rfl, ?_⟩) (by assumption) ?_
  rotate_left
  · intro w hSw; go_simp; try with_reducible rfl
  go_simp
  refine wpAnyH_take (i := 2) (v := ?_) rfl (by kernel_rfl) (by kernel_rfl) (by kernel_rfl) (fun _ _ _ h => h) (Or.inl ⟨by rfl, ?_⟩) (by assumption) ?_
  rotate_left
  · intro w hSw; go_simp; try with_reducible rfl
  go_simp
  refine wpAnyH_take (i := 3) (v := ?_) rfl (by kernel_rfl) (by kernel_rfl) (by kernel_rfl) (fun _ _ _ h => h) (Or.inl ⟨by rfl, ?_⟩) (by assumption) ?_
  rotate_left
  · intro w hSw; have q2 := (PL.c hSw.1.1).2.2; go_simp; try with_reducible rfl
  go_simp
  refine wpAnyH_take (i := 4) (v := ?_) rfl (by kernel_rfl) (by kernel_rfl) (by kernel_rfl) (fun _ _ _ h => h) (Or.inl ⟨by rfl, ?_⟩) (by assumption) ?_
  rotate_left
  · intro w hSw; go_simp; try with_reducible rfl
  go_simp
  refine wpAnyH_take (i := 5) (v := ?_) rfl (by kernel_rfl) (by kernel_rfl) (by kernel_rfl) (fun _ _ _ h => h) (Or.inl ⟨by rfl, ?_⟩) (by assumption) ?_
  rotate_left
  · intro w hSw; go_simp; try with_reducible rfl
  go_simp
  refine wpAnyH_take (i := 6) (v := ?_) rfl (by kernel_rfl) (by kernel_rfl) (by kernel_rfl) (fun _ _ _ h => h) (Or.inl ⟨by rfl, ?_⟩) (by assumption) ?_
  rotate_left
  · intro w hSw; have s0 := hSw.2; go_simp; try with_reducible rfl
  go_simp
  refine wpAnyH_take (i := 7) (v := ?_) rfl (by kernel_rfl) (by kernel_rfl) (by kernel_rfl) (fun _ _ _ h => h) (Or.inl ⟨by rfl, ?_⟩) (by assumption) ?_
  rotate_left
  · intro w hSw; go_simp; try with_reducible rfl
  go_simp
  refine wpAnyH_take (i := 8) (v := ?_) rfl (by kernel_rfl) (by kernel_rfl) (by kernel_rfl) (fun _ _ _ h => h) (Or.inl ⟨by rfl, ?_⟩) (by assumption) ?_
  rotate_left
  · intro w hSw; have r1 := (OB.c hSw.1.2).2.1; go_simp; try with_reducible rfl
  go_simp
  refine wpAnyH_ready (rs := [9]) (by kernel_rfl) (by simp) ?_
  refine AllReadyH.cons rfl (fun K hK => ?_) AllReadyH.nil
  go_simp
  go_wp2_with (go_at_call 43; (with_reducible refine (HRC.out _ (M2.out.dj.kp (Kp.refl w2).drew).mo).mono ?_); rintro e w3 ⟨rfl, hmo, hon⟩; have M3 := Lib.hid ((M2.out.kp HT.out (Kp.refl w2).drew).doc HT.out hmo hon); have R3 := Lib.hid (hon.row (show w2.drew.heap[p0]? = _ from R2.out) (fun hp => Nat.lt_irrefl _ (HF.out _ (.inr (by have e2 : p0 = gm := hp; rw [e2]; exact M2.out.dj.hasT))))); have hgc3 := dj_c0 M3.out.dj; clear hmo hon)
  refine hK.out _ _ ?_ (fun hHeld => ?_)
  · exact ⟨⟨M3.out.p, R3.out⟩, hgc3⟩
  clear hK K
  refine wpAnyH_done (by kernel_rfl) ?_ _
  obtain ⟨m30, m31, m32⟩ := PL.c M3.out.p
  have mz := (show ∀ i, w3.frozen? ⟨gp, i, none⟩ = false from fun i => by unfold World.frozen?; dsimp only; rw [M3.out.p]; simp)
  go_wp2_with (first
    | (go_at_call 11; (with_reducible refine (HOP.out _ _ M3.out).mono ?_); rintro e w4 ⟨q', OJ4, O4, rfl, jt, hn4, ha⟩; have JT4 := Lib.hid jt; have HN4 := Lib.hid hn4; have A4 := Lib.hid ha; have p4 : w4.heap[gp]? = some (PL g q gq) := ha.row M3.out.p M3.out.np.1; obtain ⟨m40, m41, m42⟩ := PL.c p4; have hgc4 := dj_c0 (M3.out.dj.stay jt.kW ha.size (fun b hb => ha.block b (M3.out.dj.mem b hb).2 (fun p => M3.out.d b p hb))); have MO4 := Lib.hid (M3.out.dj.stay jt.kW ha.size (fun b hb => ha.block b (M3.out.dj.mem b hb).2 (fun p => M3.out.d b p hb))).mo; clear jt hn4 ha p4)
    | (go_at_call 12; (with_reducible refine (HRO.out _ JT4.out.kW MO4.out HGM.out).mono ?_); rintro e w5 ⟨gq', OM', rfl, dj, hf5, hb5⟩; have FIN := Lib.hid (M3.out.opened HT.out HC.out JT4.out HN4.out A4.out dj hf5 hb5); have p5 := FIN.out.2; obtain ⟨m50, m51, m52⟩ := PL.c p5; have mz5 := (show ∀ i, w5.frozen? ⟨gp, i, none⟩ = false from fun i => by unfold World.frozen?; dsimp only; rw [FIN.out.2]; simp); clear dj hf5 hb5 p5))
  go_ret
  exact ⟨by first | rfl | simp, _, _, _, _, _, FIN.out.1⟩

theorem do7_any (T : TapC ads W R) (C : JouC ads W R J) (V : St ads W) (n : Int) (n0 : -9223372036854775808 ≤ n) (n1 : n ≤ 9223372036854775807) (a : Option Addr) (len cap : Nat) (hs : SlBB (.slice a len cap) rs W) (hn : rs.length = len) (hl : len ≤ 10) (hin : ∀ r ∈ rs, InB r ∧ r.length ≤ 300) (h : Bo7 R J W q g gq gm gp j m j m OJ O OM w) (kx : Int) :
    Calls Tryd.prog 14 #[.pointer (some ⟨gp, 0, none⟩), .agg #[.int .i64 kx, .int .i64 n, .slice a len cap]] w fun e w' => e = .returned (.bool true) ∧ ∃ q gq j m OJ' O' OM', Bo7 R J W q g gq gm gp j m j m OJ' O' OM' w' := by
  by_cases k1 : kx = 1
  · subst k1; exact (do7_put T C V n n0 n1 a len cap hs hn hl hin h).mono (fun e w' ⟨h1, q, gq, OJ', O', OM', h2⟩ => ⟨h1, q, gq, _, _, OJ', O', OM', h2⟩)
  by_cases k2 : kx = 2
  · subst k2; exact (do7_comp T C V n n0 n1 a len cap hs hn hl hin h).mono (fun e w' ⟨h1, q, gq, OJ', O', OM', h2⟩ => ⟨h1, q, gq, _, _, OJ', O', OM', h2⟩)
  by_cases k3 : kx = 3
  · subst k3
    cases ho : m.off with
    | true => exact (do7_off T C V n n0 n1 a len cap hs hn hl hin h ho).mono (fun e w' ⟨h1, q, gq, OJ', O', OM', h2⟩ => ⟨h1, q, gq, _, _, OJ', O', OM', h2⟩)
    | false => exact (do7_arm T C V n n0 n1 a len cap hs hn hl hin h ho).mono (fun e w' ⟨h1, q, gq, OJ', O', OM', h2⟩ => ⟨h1, q, gq, _, _, OJ', O', OM', h2⟩)
  by_cases k4 : kx = 4
  · subst k4
    by_cases hr : 0 ≤ n ∧ n ≤ 65536
    · exact (do7_room_in T C V n n0 n1 a len cap hs hn hl hin h hr.1 hr.2).mono (fun e w' ⟨h1, q, gq, OJ', O', OM', h2⟩ => ⟨h1, q, gq, _, _, OJ', O', OM', h2⟩)
    · exact (do7_room_out T C V n n0 n1 a len cap hs hn hl hin h (by omega)).mono (fun e w' ⟨h1, q, gq, OJ', O', OM', h2⟩ => ⟨h1, q, gq, _, _, OJ', O', OM', h2⟩)
  by_cases k5 : kx = 5
  · subst k5; exact (do7_crash T C V n n0 n1 a len cap hs hn hl hin h).mono (fun e w' ⟨h1, q, gq, OJ', O', OM', h2⟩ => ⟨h1, q, gq, _, _, OJ', O', OM', h2⟩)
  exact (do7_none T C V n n0 n1 a len cap hs hn hl hin h kx k1 k2 k3 k4 k5).mono (fun e w' ⟨h1, q, gq, OJ', O', OM', h2⟩ => ⟨h1, q, gq, _, _, OJ', O', OM', h2⟩)
end Go.Proofs.YtpehmkglkjlmfaaDoor
