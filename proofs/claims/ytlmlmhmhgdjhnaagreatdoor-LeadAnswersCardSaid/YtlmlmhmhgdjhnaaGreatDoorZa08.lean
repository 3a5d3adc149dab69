/- Parts of this proof (own work). -/
import Derived.Test.YtlmlmhmhgdjhnaaGreatDoorZa07
import Derived.ChangeSame
set_option maxRecDepth 100000
set_option maxHeartbeats 40000000
namespace Go.Proofs.YtlmlmhmhgdjhnaaGreatDoor
open Go.RowKit Go.ChangeShapes Go.WideShapes
theorem cU {b i : Nat} {t : TypeId} {w : World} {cs : Array Value} {x : Nat × Nat} {v : Value} (h : w.heap[b]? = some (.cells cs t x)) (hv : cs[i]? = some v) : w.cell? ⟨b, i, none⟩ = some v := by
 unfold World.cell?; dsimp only; rw [h]; exact hv
theorem fQ {b : Nat} {t : TypeId} {w : World} {cs : Array Value} (h : w.heap[b]? = some (.cells cs t (0, 0))) (i : Nat) : w.frozen? ⟨b, i, none⟩ = false := by
 unfold World.frozen?; dsimp only; rw [h]
 simp
theorem dQ {a b : World} (h : Kp a b) : Kp a b.drew := ⟨h.os, h.tape, h.output, h.size, h.block⟩
theorem asdQ {O : Nat → Prop} {g i : Nat} {w : World} (h : O g) (y : Value) : Asd O O w (w.setCell ⟨g, i, none⟩ y) where
 os := rfl
 tape := rfl
 output := rfl
 size := by simp
 block := fun b _ hn => bS _ _ _ _ (fun e => hn (by rw [e]; exact h))
 own := fun b q => .inl q
theorem own_kindQ {w : World} {B : Nat} {e : TypeId} {k n : Nat} {v : Value} {xs : List Value} (h : w.ownsRow B e k v n xs) (g : Nat) (hg : v.ownBlock = some g) : ∃ c, w.heap[g]? = some (.cells c e (0, 0)) := by
 rcases h.2 with ⟨rfl, _⟩ | ⟨g', cap, cur, rfl, _, hgg, _⟩
 ·simp [Value.ownBlock] at hg
 ·simp [Value.ownBlock] at hg
  subst hg; exact ⟨cur, hgg⟩
theorem aQ {w : World} {B B' : Nat} {e e' : TypeId} {k k' n n' : Nat} {v v' : Value} {xs xs' : List Value} (h : w.ownsRow B e k v n xs) (h' : w.ownsRow B' e' k' v' n' xs') (hne : e ≠ e') (b : Nat) (hb : v.ownBlock = some b) : v'.ownBlock ≠ some b := fun hb' => by
 obtain ⟨c, h1⟩ := own_kindQ h b hb; obtain ⟨c', h2⟩ := own_kindQ h' b hb'; rw [h1] at h2; injection h2 with h2
 injection h2 with _ h2 _
 exact hne h2
theorem cQ {α : Type} {E : EncG α} {w : World} {B : Nat} {e : TypeId} {v : Value} {f : List α} {n : Nat} (h : w.ownsRow B e E.k v n (E.row f)) (hn : f.length = n) {j : Nat} (hj : j < n) : ∃ g cp, v = .slice (some ⟨g, 0, none⟩) n cp ∧ n ≤ cp ∧ B ≤ g ∧ g < w.heap.size ∧ (∀ i, w.frozen? ⟨g, i, none⟩ = false) ∧ ∀ (i : Nat) (u : Value), i < E.k → (E.enc (f[j]'(by omega)))[i]? = some u → w.cell? ⟨g, j * E.k + i, none⟩ = some u := by
 subst hn
 rcases h.2 with ⟨rfl, h0⟩ | ⟨g, cp, cur, rfl, hg, hh, hc, _⟩
 ·omega
 ·refine ⟨g, cp, rfl, hc, hg, oZ hh, fun i => h.frozenAt i, fun i u hi hu => ?_⟩
  have := h.cells rfl (j * E.k + i) u (by rw [← hu]; exact row_at E f j hj i hi); rw [Addr.add_lit, Nat.zero_add] at this; exact this
theorem row_set1 {α : Type} (E : EncG α) : ∀ (f : List α) (i : Nat) (hi : i < f.length) (j : Nat) (_ : j < E.k) (y : Value) (x' : α) (_ : E.enc x' = (E.enc f[i]).set j y), (E.row f).set (i * E.k + j) y = E.row (f.set i x')
 | x :: f, 0, _, j, hj, y, x', hx => by
  show (E.row (x :: f)).set (0 * E.k + j) y = E.row (x' :: f)
  unfold EncG.row; rw [List.flatMap_cons, List.flatMap_cons, Nat.zero_mul, Nat.zero_add, List.set_append_left _ _ (by rw [E.len]; exact hj), hx]
  rfl
 | x :: f, i + 1, hi, j, hj, y, x', hx => by
  have ih := row_set1 E f i (by simpa using hi) j hj y x' hx; rw [List.set_cons_succ]; unfold EncG.row at ih ⊢; rw [List.flatMap_cons, List.flatMap_cons, ← ih, show (i + 1) * E.k + j = E.k + (i * E.k + j) by rw [Nat.add_mul, Nat.one_mul]; omega, List.set_append_right _ _ (by rw [E.len]; omega), E.len, Nat.add_sub_cancel_left]
structure AcG where
 (a : AcM) (o : Option Addr) (c : Nat)
def AcG.v (p : AcG) : Value := .slice p.o p.a.regs.length p.c
def acE : EncG AcG where
 enc p := [.int .i64 p.a.c.n, .int .i64 p.a.c.s, .int .i64 p.a.c.o, .int .i64 p.a.c.d, .float .f64 p.a.c.x, .int .i64 p.a.par, .int .i64 p.a.dec, p.v]
 k := 8
 len := fun _ => rfl
 one := by
  intro x u hu; simp only [List.mem_cons, List.not_mem_nil, or_false] at hu
  rcases hu with rfl | rfl | rfl | rfl | rfl | rfl | rfl | rfl <;> rfl
def paE : EncG PaM where
 enc p := [.int .i64 p.n, .int .i64 p.s, .int .i64 p.reg, .int .i64 p.z.p, .int .i64 p.z.e, .int .i64 p.z.s, .int .i64 p.z.h]
 k := 7
 len := fun _ => rfl
 one := by
  intro x u hu; simp only [List.mem_cons, List.not_mem_nil, or_false] at hu
  rcases hu with rfl | rfl | rfl | rfl | rfl | rfl | rfl <;> rfl
def rgE : EncG RgM where
 enc p := [.int .i64 p.node, .int .i64 p.part, .int .i64 p.z.p, .int .i64 p.z.e, .int .i64 p.z.s, .int .i64 p.z.h]
 k := 6
 len := fun _ => rfl
 one := by
  intro x u hu; simp only [List.mem_cons, List.not_mem_nil, or_false] at hu
  rcases hu with rfl | rfl | rfl | rfl | rfl | rfl <;> rfl
structure TyQ where
 (st ac pt rg : TypeId)
structure TyQ.Ok (T : TyQ) : Prop where
 sa : T.st ≠ T.ac
 sp : T.st ≠ T.pt
 sr : T.st ≠ T.rg
 ap : T.ac ≠ T.pt
 ar : T.ac ≠ T.rg
 pr : T.pt ≠ T.rg
structure GS (T : TyQ) (B q : Nat) (m : StM) (gs : List AcG) (va vp : Value) (w : World) : Prop where
 row : w.heap[q]? = some (.cells #[.int .i64 m.node, .int .i64 m.next, va, vp] T.st (0, 0))
 bq : B ≤ q
 acts : m.acts = gs.map AcG.a
 oa : w.ownsRow B T.ac 8 va gs.length (acE.row gs)
 op : w.ownsRow B T.pt 7 vp m.parts.length (paE.row m.parts)
 og : ∀ g ∈ gs, w.ownsRow B T.rg 6 g.v g.a.regs.length (rgE.row g.a.regs)
 dis : ∀ (i j : Nat) (g h : AcG), gs[i]? = some g → gs[j]? = some h → i ≠ j → ∀ b, g.v.ownBlock = some b → h.v.ownBlock ≠ some b
def Ow (q : Nat) (gs : List AcG) (va vp : Value) (b : Nat) : Prop := b = q ∨ va.ownBlock = some b ∨ vp.ownBlock = some b ∨ ∃ g ∈ gs, g.v.ownBlock = some b
section
variable {T : TyQ} {B q : Nat} {m : StM} {gs gs' : List AcG} {va vp va' vp' : Value} {w w' W w3 : World}
theorem GS.mem (h : GS T B q m gs va vp w) : ∀ b, Ow q gs va vp b → B ≤ b ∧ b < w.heap.size := by
 rintro b (rfl | hb | hb | ⟨g, hg, hb⟩)
 ·exact ⟨h.bq, oZ h.row⟩
 ·exact h.oa.lt b hb
 ·exact h.op.lt b hb
 ·exact (h.og g hg).lt b hb
theorem GS.stay (h : GS T B q m gs va vp w) (hb : ∀ b, Ow q gs va vp b → w'.heap[b]? = w.heap[b]?) : GS T B q m gs va vp w' where
 row := by rw [hb q (.inl rfl)]; exact h.row
 bq := h.bq
 acts := h.acts
 oa := sG h.oa (fun b e => hb b (.inr (.inl e)))
 op := sG h.op (fun b e => hb b (.inr (.inr (.inl e))))
 og := fun g hg => sG (h.og g hg) (fun b e => hb b (.inr (.inr (.inr ⟨g, hg, e⟩))))
 dis := h.dis
theorem GS.kp (h : GS T B q m gs va vp w) (hk : Kp w w') : GS T B q m gs va vp w' := h.stay fun b hb => Below.block hk b (h.mem b hb).2
theorem GS.len (h : GS T B q m gs va vp w) : gs.length = m.acts.length := by rw [h.acts, List.length_map]
theorem GS.qa (h : GS T B q m gs va vp w) (ok : T.Ok) : va.ownBlock ≠ some q := fun e => by
 obtain ⟨c, hc⟩ := own_kindQ h.oa q e; rw [h.row] at hc; injection hc with hc; injection hc with _ hc _; exact ok.sa hc
theorem GS.qp (h : GS T B q m gs va vp w) (ok : T.Ok) : vp.ownBlock ≠ some q := fun e => by
 obtain ⟨c, hc⟩ := own_kindQ h.op q e; rw [h.row] at hc; injection hc with hc; injection hc with _ hc _; exact ok.sp hc
theorem GS.qg (h : GS T B q m gs va vp w) (ok : T.Ok) {g : AcG} (hg : g ∈ gs) : g.v.ownBlock ≠ some q := fun e => by
 obtain ⟨c, hc⟩ := own_kindQ (h.og g hg) q e; rw [h.row] at hc; injection hc with hc; injection hc with _ hc _; exact ok.sr hc
theorem GS.vForm (h : GS T B q m gs va vp w) : ∃ a cp, va = .slice a gs.length cp := fG h.oa
theorem GS.pForm (h : GS T B q m gs va vp w) : ∃ a cp, vp = .slice a m.parts.length cp := fG h.op
theorem GS.at (h : GS T B q m gs va vp w) {i : Nat} {a : AcM} (ha : m.acts[i]? = some a) : ∃ g, gs[i]? = some g ∧ g.a = a := by
 rw [h.acts, List.getElem?_map] at ha
 cases hg : gs[i]? with
 | none => rw [hg] at ha; cases ha
 | some g => rw [hg] at ha; exact ⟨g, rfl, by simpa using ha⟩
theorem GS.setNext (h : GS T B q m gs va vp w) (ok : T.Ok) (nx : Int) : GS T B q { m with next := nx } gs va vp (w.setCell ⟨q, 1, none⟩ (.int .i64 nx)) ∧ Asd (Ow q gs va vp) (Ow q gs va vp) w (w.setCell ⟨q, 1, none⟩ (.int .i64 nx)) := by
 have ne : ∀ (b : Nat), b ≠ q → (w.setCell ⟨q, 1, none⟩ (.int .i64 nx)).heap[b]? = w.heap[b]? := fun b hb => bS _ _ _ _ hb
 refine ⟨⟨(Joins.block_setCell h.row _).trans rfl, h.bq, h.acts, ?_, ?_, ?_, h.dis⟩, asdQ (.inl rfl) _⟩
 ·exact sG h.oa (fun b e => ne b (fun e2 => h.qa ok (e2 ▸ e)))
 ·exact sG h.op (fun b e => ne b (fun e2 => h.qp ok (e2 ▸ e)))
 ·exact fun g hg => sG (h.og g hg) (fun b e => ne b (fun e2 => h.qg ok hg (e2 ▸ e)))
theorem GS.repA (h : GS T B q m gs va vp w) (ok : T.Ok) (hk : Kp w W) (hg : W.grownBy w3 va.ownBlock) {L : Nat} (hL : gs'.length = L) (ho : w3.ownsRow B T.ac 8 va' L (acE.row gs'))
  (hb : ∀ b, va'.ownBlock = some b → va.ownBlock = some b ∨ w.heap.size ≤ b) (hs : ∀ g ∈ gs', g ∈ gs ∨ (g.a.regs = [] ∧ g.o = none ∧ g.c = 0))
  (hd : ∀ (i j : Nat) (g h : AcG), gs'[i]? = some g → gs'[j]? = some h → i ≠ j → ∀ b, g.v.ownBlock = some b → h.v.ownBlock ≠ some b) :
  GS T B q { m with acts := gs'.map AcG.a } gs' va' vp (w3.setCell ⟨q, 2, none⟩ va') ∧ Asd (Ow q gs va vp) (Ow q gs' va' vp) w (w3.setCell ⟨q, 2, none⟩ va') := by
 subst hL; have hsz := Below.size hk; have hlt := oZ h.row; have keep : ∀ b, b < w.heap.size → va.ownBlock ≠ some b → w3.heap[b]? = w.heap[b]? := fun b h1 h2 => by
  rw [hg.block b (by omega) (fun e => h2 e.symm)]; exact Below.block hk b h1
 have n6 : va'.ownBlock ≠ some q := fun e => (hb q e).elim (h.qa ok) (fun e => by omega)
 have r1 := (keep q hlt (h.qa ok)).trans h.row; have ne : ∀ (b : Nat), b ≠ q → (w3.setCell ⟨q, 2, none⟩ va').heap[b]? = w3.heap[b]? := fun b hb => bS _ _ _ _ hb
 have nv : ∀ g : AcG, g.a.regs = [] ∧ g.o = none ∧ g.c = 0 → g.v = .slice none 0 0 := fun g ⟨q1, q2, q3⟩ => by unfold AcG.v; rw [q1, q2, q3]; rfl
 refine ⟨⟨(Joins.block_setCell r1 _).trans rfl, h.bq, rfl, ?_, ?_, ?_, hd⟩, ?_⟩
 ·exact sG ho (fun b e => ne b (fun e2 => n6 (e2 ▸ e)))
 ·refine sG h.op (fun b e => ?_)
  have hb2 := h.op.lt b e; rw [ne b (fun e2 => h.qp ok (e2 ▸ e))]; exact keep b hb2.2 (fun e2 => aQ h.oa h.op ok.ap b e2 e)
 ·intro g hgm
  rcases hs g hgm with q1 | q1
  ·refine sG (h.og g q1) (fun b e => ?_)
   have hb2 := (h.og g q1).lt b e; rw [ne b (fun e2 => h.qg ok q1 (e2 ▸ e))]; exact keep b hb2.2 (fun e2 => aQ h.oa (h.og g q1) ok.ar b e2 e)
  ·rw [nv g q1, q1.1]; exact World.ownsRow_nil _ _ _ _
 ·refine ⟨hg.os.trans hk.os, hg.tape.trans hk.tape, hg.output.trans hk.output, by simpa using Nat.le_trans hsz hg.size, fun b hb2 hn => ?_, fun b e => ?_⟩
  ·rw [ne b (fun e => hn (.inl e))]; exact keep b hb2 (fun e => hn (.inr (.inl e)))
  ·rcases e with rfl | e | e | ⟨g, q1, e⟩
   ·exact .inl (.inl rfl)
   ·exact (hb b e).imp (fun e => .inr (.inl e)) id
   ·exact .inl (.inr (.inr (.inl e)))
   ·rcases hs g q1 with q2 | q2
    ·exact .inl (.inr (.inr (.inr ⟨g, q2, e⟩)))
    ·rw [nv g q2] at e
     cases e
theorem GS.repP (h : GS T B q m gs va vp w) (ok : T.Ok) (hk : Kp w W) (hg : W.grownBy w3 vp.ownBlock) {L : Nat} {ps : List PaM} (hL : ps.length = L) (ho : w3.ownsRow B T.pt 7 vp' L (paE.row ps))
  (hb : ∀ b, vp'.ownBlock = some b → vp.ownBlock = some b ∨ w.heap.size ≤ b) :
  GS T B q { m with parts := ps } gs va vp' (w3.setCell ⟨q, 3, none⟩ vp') ∧ Asd (Ow q gs va vp) (Ow q gs va vp') w (w3.setCell ⟨q, 3, none⟩ vp') := by
 subst hL; have hsz := Below.size hk; have hlt := oZ h.row; have keep : ∀ b, b < w.heap.size → vp.ownBlock ≠ some b → w3.heap[b]? = w.heap[b]? := fun b h1 h2 => by
  rw [hg.block b (by omega) (fun e => h2 e.symm)]; exact Below.block hk b h1
 have n6 : vp'.ownBlock ≠ some q := fun e => (hb q e).elim (h.qp ok) (fun e => by omega)
 have r1 := (keep q hlt (h.qp ok)).trans h.row; have ne : ∀ (b : Nat), b ≠ q → (w3.setCell ⟨q, 3, none⟩ vp').heap[b]? = w3.heap[b]? := fun b hb => bS _ _ _ _ hb
 refine ⟨⟨(Joins.block_setCell r1 _).trans rfl, h.bq, h.acts, ?_, ?_, ?_, h.dis⟩, ?_⟩
 ·refine sG h.oa (fun b e => ?_)
  have hb2 := h.oa.lt b e; rw [ne b (fun e2 => h.qa ok (e2 ▸ e))]; exact keep b hb2.2 (fun e2 => aQ h.oa h.op ok.ap b e e2)
 ·exact sG ho (fun b e => ne b (fun e2 => n6 (e2 ▸ e)))
 ·intro g hgm; refine sG (h.og g hgm) (fun b e => ?_)
  have hb2 := (h.og g hgm).lt b e; rw [ne b (fun e2 => h.qg ok hgm (e2 ▸ e))]; exact keep b hb2.2 (fun e2 => aQ h.op (h.og g hgm) ok.pr b e2 e)
 ·refine ⟨hg.os.trans hk.os, hg.tape.trans hk.tape, hg.output.trans hk.output, by simpa using Nat.le_trans hsz hg.size, fun b hb2 hn => ?_, fun b e => ?_⟩
  ·rw [ne b (fun e => hn (.inl e))]; exact keep b hb2 (fun e => hn (.inr (.inr (.inl e))))
  ·rcases e with rfl | e | e | e
   ·exact .inl (.inl rfl)
   ·exact .inl (.inr (.inl e))
   ·exact (hb b e).imp (fun e => .inr (.inr (.inl e))) id
   ·exact .inl (.inr (.inr (.inr e)))
theorem GS.setP {g n cp j i : Nat} {x x' : PaM} {y : Value} (h : GS T B q m gs va (.slice (some ⟨g, 0, none⟩) n cp) w) (ok : T.Ok) (hx : m.parts[j]? = some x) (hi : i < 7) (he : paE.enc x' = (paE.enc x).set i y) :
  GS T B q { m with parts := m.parts.set j x' } gs va (.slice (some ⟨g, 0, none⟩) n cp) (w.setCell ⟨g, j * 7 + i, none⟩ y) ∧ Asd (Ow q gs va (.slice (some ⟨g, 0, none⟩) n cp)) (Ow q gs va (.slice (some ⟨g, 0, none⟩) n cp)) w (w.setCell ⟨g, j * 7 + i, none⟩ y) := by
 obtain ⟨hj, hx⟩ := List.getElem?_eq_some_iff.1 hx; have ne : ∀ (b : Nat), b ≠ g → (w.setCell ⟨g, j * 7 + i, none⟩ y).heap[b]? = w.heap[b]? := fun b hb => bS _ _ _ _ hb
 have hn : m.parts.length = n := own_lenG (E := paE) (by decide) (by
  obtain ⟨a, c, e⟩ := fG h.op; injection e with _ e _
  rw [e]; exact h.op)
 subst hn; have hrow := row_set1 paE m.parts j hj i hi y x' (by rw [hx]; exact he); have o1 := (h.op.stored (j * 7 + i) y).1; rw [show (paE.row m.parts).set (j * 7 + i) y = paE.row (m.parts.set j x') from hrow] at o1; refine ⟨⟨?_, h.bq, h.acts, ?_, ?_, ?_, h.dis⟩, asdQ (.inr (.inr (.inl rfl))) _⟩
 ·rw [ne q (fun e => h.qp ok (by rw [e]; rfl))]; exact h.row
 ·exact sG h.oa (fun b e => ne b (fun e2 => aQ h.oa h.op ok.ap b e (by rw [e2]; rfl)))
 ·show World.ownsRow _ B T.pt 7 _ (m.parts.set j x').length _
  rw [List.length_set]; exact o1
 ·exact fun x hx => sG (h.og x hx) (fun b e => ne b (fun e2 => aQ h.op (h.og x hx) ok.pr b (by rw [e2]; rfl) e))
theorem set_at {α : Type} {l : List α} {i j : Nat} {x y : α} (h : (l.set i x)[j]? = some y) : (i = j ∧ y = x) ∨ (i ≠ j ∧ l[j]? = some y) := by
 rw [List.getElem?_set] at h
 by_cases e : i = j
 ·rw [if_pos e] at h
  split at h
  ·exact .inl ⟨e, by injection h with h; exact h.symm⟩
  ·cases h
 ·rw [if_neg e] at h; exact .inr ⟨e, h⟩
theorem dis_set {i : Nat} {g g' : AcG} (hd : ∀ (i j : Nat) (g h : AcG), gs[i]? = some g → gs[j]? = some h → i ≠ j → ∀ b, g.v.ownBlock = some b → h.v.ownBlock ≠ some b) (hg : gs[i]? = some g) {N : Nat} (hN : ∀ x ∈ gs, ∀ b, x.v.ownBlock = some b → b < N) (hb : ∀ b, g'.v.ownBlock = some b → g.v.ownBlock = some b ∨ N ≤ b) :
  ∀ (k j : Nat) (x y : AcG), (gs.set i g')[k]? = some x → (gs.set i g')[j]? = some y → k ≠ j → ∀ b, x.v.ownBlock = some b → y.v.ownBlock ≠ some b := by
 intro k j x y hx hy hkj b e1 e2
 rcases set_at hx with ⟨k1, k2⟩ | ⟨h1, hx2⟩
 ·rcases set_at hy with ⟨k3, k4⟩ | ⟨h2, hy2⟩
  ·exact hkj (k1.symm.trans k3)
  ·subst k2
   rcases hb b e1 with q | q
   ·exact hd i j g y hg hy2 (fun e => h2 e) b q e2
   ·have := hN y (List.mem_of_getElem? hy2) b e2; omega
 ·rcases set_at hy with ⟨k3, k4⟩ | ⟨h2, hy2⟩
  ·subst k4
   rcases hb b e2 with q | q
   ·exact hd k i x g hx2 hg (fun e => h1 e.symm) b e1 q
   ·have := hN x (List.mem_of_getElem? hx2) b e1; omega
  ·exact hd k j x y hx2 hy2 hkj b e1 e2
theorem GS.setA {g n cp j i : Nat} {x x' : AcG} {y : Value} (h : GS T B q m gs (.slice (some ⟨g, 0, none⟩) n cp) vp w) (ok : T.Ok) (hx : gs[j]? = some x) (hi : i < 8) (he : acE.enc x' = (acE.enc x).set i y) (hr : x'.a.regs = x.a.regs) (hv : x'.v = x.v) :
  GS T B q { m with acts := m.acts.set j x'.a } (gs.set j x') (.slice (some ⟨g, 0, none⟩) n cp) vp (w.setCell ⟨g, j * 8 + i, none⟩ y) ∧ Asd (Ow q gs (.slice (some ⟨g, 0, none⟩) n cp) vp) (Ow q (gs.set j x') (.slice (some ⟨g, 0, none⟩) n cp) vp) w (w.setCell ⟨g, j * 8 + i, none⟩ y) := by
 obtain ⟨hj, hx'⟩ := List.getElem?_eq_some_iff.1 hx; have ne : ∀ (b : Nat), b ≠ g → (w.setCell ⟨g, j * 8 + i, none⟩ y).heap[b]? = w.heap[b]? := fun b hb => bS _ _ _ _ hb
 have hn : gs.length = n := own_lenG (E := acE) (by decide) (by
  obtain ⟨a, c, e⟩ := fG h.oa; injection e with _ e _
  rw [e]; exact h.oa)
 subst hn; have hrow := row_set1 acE gs j hj i hi y x' (by rw [hx']; exact he); have o1 := (h.oa.stored (j * 8 + i) y).1; rw [show (acE.row gs).set (j * 8 + i) y = acE.row (gs.set j x') from hrow] at o1; have hmem : x ∈ gs := List.mem_of_getElem? hx; refine ⟨⟨?_, h.bq, ?_, ?_, ?_, ?_, ?_⟩, ?_⟩
 ·rw [ne q (fun e => h.qa ok (by rw [e]; rfl))]; exact h.row
 ·show m.acts.set j x'.a = _
  rw [h.acts, List.map_set]
 ·rw [List.length_set]; exact o1
 ·exact sG h.op (fun b e => ne b (fun e2 => aQ h.oa h.op ok.ap b (by rw [e2]; rfl) e))
 ·intro z hz; have : ∃ z0 ∈ gs, z.v = z0.v ∧ z.a.regs = z0.a.regs := by
   rcases mem_set hz with hz | rfl
   ·exact ⟨z, hz, rfl, rfl⟩
   ·exact ⟨x, hmem, hv, hr⟩
  obtain ⟨z0, hz0, e1, e2⟩ := this; rw [e1, e2]; exact sG (h.og z0 hz0) (fun b e => ne b (fun e3 => aQ h.oa (h.og z0 hz0) ok.ar b (by rw [e3]; rfl) e))
 ·exact dis_set h.dis hx (N := w.heap.size) (fun z hz b e => ((h.og z hz).lt b e).2) (fun b e => .inl (by rw [← hv]; exact e))
 ·refine ⟨rfl, rfl, rfl, by simp, fun b _ hn => ne b (fun e => hn (.inr (.inl (by rw [e]; rfl)))), fun b e => .inl ?_⟩
  rcases e with rfl | e | e | ⟨z, hz, e⟩
  ·exact .inl rfl
  ·exact .inr (.inl e)
  ·exact .inr (.inr (.inl e))
  ·rcases mem_set hz with hz | rfl
   ·exact .inr (.inr (.inr ⟨z, hz, e⟩))
   ·exact .inr (.inr (.inr ⟨x, hmem, by rw [← hv]; exact e⟩))
theorem GS.setR {gr cr j k i : Nat} {a : AcM} {r r' : RgM} {y : Value} (h : GS T B q m gs va vp w) (ok : T.Ok) (hx : gs[j]? = some ⟨a, some ⟨gr, 0, none⟩, cr⟩) (hk : a.regs[k]? = some r) (hi : i < 6) (he : rgE.enc r' = (rgE.enc r).set i y) :
  GS T B q { m with acts := m.acts.set j { a with regs := a.regs.set k r' } } (gs.set j ⟨{ a with regs := a.regs.set k r' }, some ⟨gr, 0, none⟩, cr⟩) va vp (w.setCell ⟨gr, k * 6 + i, none⟩ y) ∧ Asd (Ow q gs va vp) (Ow q (gs.set j ⟨{ a with regs := a.regs.set k r' }, some ⟨gr, 0, none⟩, cr⟩) va vp) w (w.setCell ⟨gr, k * 6 + i, none⟩ y) := by
 obtain ⟨hk2, hk'⟩ := List.getElem?_eq_some_iff.1 hk; have ne : ∀ (b : Nat), b ≠ gr → (w.setCell ⟨gr, k * 6 + i, none⟩ y).heap[b]? = w.heap[b]? := fun b hb => bS _ _ _ _ hb
 have hmem : (⟨a, some ⟨gr, 0, none⟩, cr⟩ : AcG) ∈ gs := List.mem_of_getElem? hx; have hO := h.og _ hmem; have hrow := row_set1 rgE a.regs k hk2 i hi y r' (by rw [hk']; exact he); have o1 := (World.ownsRow.stored (n := a.regs.length) (cap := cr) hO (k * 6 + i) y).1; rw [show (rgE.row a.regs).set (k * 6 + i) y = rgE.row (a.regs.set k r') from hrow] at o1; have hv : (⟨{ a with regs := a.regs.set k r' }, some ⟨gr, 0, none⟩, cr⟩ : AcG).v = .slice (some ⟨gr, 0, none⟩) a.regs.length cr := by
  unfold AcG.v; dsimp only; rw [List.length_set]
 have hob : (⟨{ a with regs := a.regs.set k r' }, some ⟨gr, 0, none⟩, cr⟩ : AcG).v.ownBlock = some gr := rfl; have hob2 : (⟨a, some ⟨gr, 0, none⟩, cr⟩ : AcG).v.ownBlock = some gr := rfl; obtain ⟨hj, hxj⟩ := List.getElem?_eq_some_iff.1 hx; have erow : acE.row (gs.set j ⟨{ a with regs := a.regs.set k r' }, some ⟨gr, 0, none⟩, cr⟩) = acE.row gs := by
  have := row_set1 acE gs j hj 7 (by decide) (.slice (some ⟨gr, 0, none⟩) a.regs.length cr) ⟨{ a with regs := a.regs.set k r' }, some ⟨gr, 0, none⟩, cr⟩ (by
   rw [hxj]; simp only [acE, AcG.v, List.length_set, List.set_cons_succ, List.set_cons_zero])
  rw [← this]
  apply List.ext_getElem?
  intro p; rw [List.getElem?_set]
  split
  ·rename_i e
   subst e
   split
   ·rw [row_at acE gs j hj 7 (by decide), hxj]
    rfl
   ·rename_i e
    exact absurd (by rw [row_len]; have : acE.k = 8 := rfl; rw [this]; omega) e
  ·rfl
 refine ⟨⟨?_, h.bq, ?_, ?_, ?_, ?_, ?_⟩, ?_⟩
 ·rw [ne q (fun e => h.qg ok hmem (by rw [e]; rfl))]; exact h.row
 ·show m.acts.set j _ = _
  rw [h.acts, List.map_set]
 ·rw [List.length_set, erow]; exact sG h.oa (fun b e => ne b (fun e2 => aQ h.oa hO ok.ar b e (by rw [e2]; rfl)))
 ·exact sG h.op (fun b e => ne b (fun e2 => aQ h.op hO ok.pr b e (by rw [e2]; rfl)))
 ·intro z hz; obtain ⟨p, hp⟩ := List.getElem?_of_mem hz
  rcases set_at hp with ⟨rfl, rfl⟩ | ⟨hne, hp⟩
  ·rw [hv]; dsimp only; rw [List.length_set]; exact o1
  ·exact sG (h.og z (List.mem_of_getElem? hp)) (fun b e => ne b (fun e2 => h.dis j p _ z hx hp hne gr hob2 (by rw [← e2]; exact e)))
 ·exact dis_set h.dis hx (N := w.heap.size) (fun z hz b e => ((h.og z hz).lt b e).2) (fun b e => .inl e)
 ·refine ⟨rfl, rfl, rfl, by simp, fun b _ hn => ne b (fun e => hn (.inr (.inr (.inr ⟨_, hmem, by rw [e]; rfl⟩)))), fun b e => .inl ?_⟩
  rcases e with rfl | e | e | ⟨z, hz, e⟩
  ·exact .inl rfl
  ·exact .inr (.inl e)
  ·exact .inr (.inr (.inl e))
  ·rcases mem_set hz with hz | rfl
   ·exact .inr (.inr (.inr ⟨z, hz, e⟩))
   ·exact .inr (.inr (.inr ⟨_, hmem, e⟩))
theorem GS.repR {ga n cp j L c' : Nat} {o' : Option Addr} {x : AcG} {rs : List RgM} (h : GS T B q m gs (.slice (some ⟨ga, 0, none⟩) n cp) vp w) (ok : T.Ok) (hx : gs[j]? = some x) (hk : Kp w W) (hg : W.grownBy w3 x.v.ownBlock) (hL : rs.length = L) (ho : w3.ownsRow B T.rg 6 (.slice o' L c') L (rgE.row rs))
  (hb : ∀ b, (Value.slice o' L c').ownBlock = some b → x.v.ownBlock = some b ∨ w.heap.size ≤ b) :
  GS T B q { m with acts := m.acts.set j { x.a with regs := rs } } (gs.set j ⟨{ x.a with regs := rs }, o', c'⟩) (.slice (some ⟨ga, 0, none⟩) n cp) vp (w3.setCell ⟨ga, j * 8 + 7, none⟩ (.slice o' L c')) ∧
   Asd (Ow q gs (.slice (some ⟨ga, 0, none⟩) n cp) vp) (Ow q (gs.set j ⟨{ x.a with regs := rs }, o', c'⟩) (.slice (some ⟨ga, 0, none⟩) n cp) vp) w (w3.setCell ⟨ga, j * 8 + 7, none⟩ (.slice o' L c')) := by
 subst hL; obtain ⟨hj, hxj⟩ := List.getElem?_eq_some_iff.1 hx; have hmem : x ∈ gs := List.mem_of_getElem? hx; have hO := h.og _ hmem; have hsz := Below.size hk; have hlt := oZ h.row; have keep : ∀ b, b < w.heap.size → x.v.ownBlock ≠ some b → w3.heap[b]? = w.heap[b]? := fun b h1 h2 => by
  rw [hg.block b (by omega) (fun e => h2 e.symm)]; exact Below.block hk b h1
 have hga := h.oa.lt ga rfl; have gaq : ga ≠ q := fun e => h.qa ok (by rw [e]; rfl)
 have gax : x.v.ownBlock ≠ some ga := fun e => aQ h.oa hO ok.ar ga rfl e
 have gav : (Value.slice o' rs.length c').ownBlock ≠ some ga := fun e => (hb ga e).elim gax (fun e => by omega)
 have ne : ∀ (b : Nat), b ≠ ga → (w3.setCell ⟨ga, j * 8 + 7, none⟩ (.slice o' rs.length c')).heap[b]? = w3.heap[b]? := fun b hb => bS _ _ _ _ hb
 have hn : gs.length = n := own_lenG (E := acE) (by decide) (by
  obtain ⟨a, c, e⟩ := fG h.oa; injection e with _ e _
  rw [e]; exact h.oa)
 subst hn; have hrow := row_set1 acE gs j hj 7 (by decide) (.slice o' rs.length c') ⟨{ x.a with regs := rs }, o', c'⟩ (by
  rw [hxj]; simp only [acE, AcG.v, List.set_cons_succ, List.set_cons_zero])
 have oa3 : w3.ownsRow B T.ac 8 (.slice (some ⟨ga, 0, none⟩) gs.length cp) gs.length (acE.row gs) := sG h.oa (fun b e => keep b (h.oa.lt b e).2 (fun e2 => aQ h.oa hO ok.ar b e e2)); have o1 := (oa3.stored (j * 8 + 7) (.slice o' rs.length c')).1; rw [show (acE.row gs).set (j * 8 + 7) (.slice o' rs.length c') = acE.row (gs.set j ⟨{ x.a with regs := rs }, o', c'⟩) from hrow] at o1; refine ⟨⟨?_, h.bq, ?_, ?_, ?_, ?_, ?_⟩, ?_⟩
 ·rw [ne q (fun e => gaq e.symm), keep q hlt (h.qg ok hmem)]; exact h.row
 ·show m.acts.set j _ = _
  rw [h.acts, List.map_set]
 ·rw [List.length_set]; exact o1
 ·refine sG h.op (fun b e => ?_)
  rw [ne b (fun e2 => aQ h.oa h.op ok.ap b (by rw [e2]; rfl) e)]; exact keep b (h.op.lt b e).2 (fun e2 => aQ h.op hO ok.pr b e e2)
 ·intro z hz; obtain ⟨p, hp⟩ := List.getElem?_of_mem hz
  rcases set_at hp with ⟨rfl, rfl⟩ | ⟨hne, hp⟩
  ·exact sG ho (fun b e => ne b (fun e2 => gav (by rw [← e2]; exact e)))
  ·have hz0 := List.mem_of_getElem? hp; refine sG (h.og z hz0) (fun b e => ?_)
   rw [ne b (fun e2 => aQ h.oa (h.og z hz0) ok.ar b (by rw [e2]; rfl) e)]; exact keep b ((h.og z hz0).lt b e).2 (fun e2 => h.dis j p _ z hx hp hne b e2 e)
 ·exact dis_set h.dis hx (N := w.heap.size) (fun z hz b e => ((h.og z hz).lt b e).2) (fun b e => hb b e)
 ·refine ⟨hg.os.trans hk.os, hg.tape.trans hk.tape, hg.output.trans hk.output, by simpa using Nat.le_trans hsz hg.size, fun b hb2 hn => ?_, fun b e => ?_⟩
  ·rw [ne b (fun e => hn (.inr (.inl (by rw [e]; rfl))))]; exact keep b hb2 (fun e => hn (.inr (.inr (.inr ⟨x, hmem, e⟩))))
  ·rcases e with rfl | e | e | ⟨z, hz, e⟩
   ·exact .inl (.inl rfl)
   ·exact .inl (.inr (.inl e))
   ·exact .inl (.inr (.inr (.inl e)))
   ·rcases mem_set hz with hz | rfl
    ·exact .inl (.inr (.inr (.inr ⟨z, hz, e⟩)))
    ·exact (hb b e).imp (fun e => .inr (.inr (.inr ⟨x, hmem, e⟩))) id
end
open Go.RowKit Go.ChangeShapes Go.WideShapes
theorem one_int9 {H : Type} {enc : TypeId × Value → H} {W : World} {n : Nat} {cs : List Value} {y : DataW H × List MemPlace} {v : Value} (h : DataW.trod enc Tryz.prog W 0 (fun _ => true) true n 3 cs = some y) (hc : cs = [v]) : ∃ x : Int, v = .int .i64 x := by
 obtain ⟨x, e, _, _⟩ := DataW.trod_int Tryz.underlying3 h; rw [hc] at e; exact ⟨x, by simpa using e⟩
theorem one_float9 {H : Type} {enc : TypeId × Value → H} {W : World} {n : Nat} {cs : List Value} {y : DataW H × List MemPlace} {v : Value} (h : DataW.trod enc Tryz.prog W 0 (fun _ => true) true n 23 cs = some y) (hc : cs = [v]) : ∃ x : Nat, v = .float .f64 x ∧ x < 18446744073709551616 := by
 rw [hc] at h
 cases n with
 | zero => simp [DataW.trod] at h
 | succ n =>
  unfold DataW.trod at h; rw [Tryz.underlying23] at h
  split at h <;> simp_all
  rename_i hk
  subst hk
  simpa [Lit.wf] using h.1.2
def SlFc (v : Value) (fs : List FX) (w : World) : Prop :=
 ∃ a cap, v = .slice a fs.length cap ∧ ∀ (j : Nat) (h : j < fs.length), ∃ b off, a = some ⟨b, off, none⟩ ∧ fs[j].wf ∧ ∀ i u, fs[j].cells[i]? = some u → w.cell? ⟨b, off + j * 14 + i, none⟩ = some u
theorem SlFc.kp {v : Value} {fs : List FX} {w w' : World} (h : SlFc v fs w) (hk : Kp w w') : SlFc v fs w' := by
 obtain ⟨a, cap, h1, h2⟩ := h; refine ⟨a, cap, h1, fun j hj => ?_⟩
 obtain ⟨b, off, h3, h4, h5⟩ := h2 j hj; exact ⟨b, off, h3, h4, fun i u hu => kZ hk (h5 i u hu)⟩
theorem SlFc.at {a : Option Addr} {n cap : Nat} {fs : List FX} {w : World} (h : SlFc (.slice a n cap) fs w) (j : Nat) (hj : j < fs.length) :
  ∃ b off, a = some ⟨b, off, none⟩ ∧ fs[j].wf ∧ ∀ i u, fs[j].cells[i]? = some u → w.cell? ⟨b, off + j * 14 + i, none⟩ = some u := by
 obtain ⟨a', cap', h1, h2⟩ := h; injection h1 with h1 _ _
 subst h1; exact h2 j hj
theorem fct_cells {H : Type} {enc : TypeId × Value → H} {W : World} {fuel : Nat} {cs : List Value} (hsz : cs.length = 14) {x : DataW H × List MemPlace}
  (hf : DataW.trod enc Tryz.prog W 0 (fun _ => true) true fuel 87 cs = some x) : ∃ c : FX, cs = c.cells.toList ∧ c.wf := by
 have h14 : Tryz.prog.cellsOf 87 = 14 := by kernel_rfl
 have h1 : Tryz.prog.cellsOf 3 = 1 := by kernel_rfl
 have hf1 : Tryz.prog.cellsOf 23 = 1 := by kernel_rfl
 have h2 : Tryz.prog.cellsOf 25 = 2 := by kernel_rfl
 match cs, hsz with
 | [c0, c1, c2, c3, c4, c5, c6, c7, c8, c9, c10, c11, c12, c13], _ =>
  obtain ⟨xs, n, _, _, _, hlen, hfs⟩ := DataW.trod_struct Tryz.underlying87 hf; have g0 := hfs 0 _ rfl; have g1 := hfs 1 _ rfl; have g2 := hfs 2 _ rfl; have g3 := hfs 3 _ rfl; have g4 := hfs 4 _ rfl; have g5 := hfs 5 _ rfl; have g6 := hfs 6 _ rfl; have g7 := hfs 7 _ rfl; have g8 := hfs 8 _ rfl; have g9 := hfs 9 _ rfl; have g10 := hfs 10 _ rfl; have g11 := hfs 11 _ rfl; have g12 := hfs 12 _ rfl; have e13 : xs.length = 13 := hlen
  match xs, e13 with
  | [x0, x1, x2, x3, x4, x5, x6, x7, x8, x9, x10, x11, x12], _ =>
   obtain ⟨y0, rfl⟩ := one_int9 (v := c0) g0 (by simp [h1]); obtain ⟨y3, rfl⟩ := one_int9 (v := c3) g2 (by simp [h1]); obtain ⟨y4, rfl⟩ := one_int9 (v := c4) g3 (by simp [h1]); obtain ⟨y5, rfl⟩ := one_int9 (v := c5) g4 (by simp [h1]); obtain ⟨y6, rfl⟩ := one_int9 (v := c6) g5 (by simp [h1]); obtain ⟨y7, rfl⟩ := one_int9 (v := c7) g6 (by simp [h1]); obtain ⟨y8, rfl⟩ := one_int9 (v := c8) g7 (by simp [h1]); obtain ⟨y9, rfl⟩ := one_int9 (v := c9) g8 (by simp [h1]); obtain ⟨y10, rfl⟩ := one_int9 (v := c10) g9 (by simp [h1]); obtain ⟨y11, rfl⟩ := one_int9 (v := c11) g10 (by simp [h1]); obtain ⟨y12, rfl⟩ := one_int9 (v := c12) g11 (by simp [h1]); obtain ⟨y13, rfl, w13⟩ := one_float9 (v := c13) g12 (by simp [hf1]); obtain ⟨z3, z4, k, _, _, a0, a1⟩ := trod_struct2 Tryz.underlying25 g1; obtain ⟨y1, rfl⟩ := one_int9 (v := c1) a0 (by simp [h1, h2]); obtain ⟨y2, rfl⟩ := one_int9 (v := c2) a1 (by simp [h1, h2])
   exact ⟨⟨y0, y1, y2, y3, y4, y5, y6, y7, y8, y9, y10, y11, y12, y13⟩, rfl, w13⟩
theorem open_fcts {H : Type} {enc : TypeId × Value → H} {W : World} {r : Reach} {b0 : Nat} {v : Value} {d : DataW H} {ps : List MemPlace}
  (hval : Value.okWide Tryz.prog W r b0 22 v) (h : DataW.Trod enc Tryz.prog W 0 (fun _ => true) true 22 v d ps) : ∃ fs : List FX, SlFc v fs W ∧ fs.length ≤ maxLen := by
 have ce : Tryz.prog.cellsOf 87 = 14 := by kernel_rfl
 obtain ⟨a0, len0, cap0, rfl⟩ := okWide_slice Tryz.underlying22 hval; obtain ⟨fuel, hf⟩ := h
 rcases Deep.open_slice Tryz.underlying22 hf with ⟨hcs, hx⟩ | ⟨a, len, cap, m, n, D, Pl, hcs, _, hl, hm, hmm, hx, hcell⟩
 ·simp [Value.cells] at hcs
  obtain ⟨rfl, rfl, rfl⟩ := hcs; exact ⟨[], ⟨none, 0, rfl, fun j hj => by cases hj⟩, by simp⟩
 ·simp [Value.cells] at hcs
  obtain ⟨rfl, rfl, rfl⟩ := hcs; simp only [if_true] at hmm
  have hsp : 0 < len0 → a.spot = none := by
   intro h0; obtain ⟨cs', h1, h2⟩ := hcell 0 (by omega); rw [ce] at h1; obtain ⟨_, hlen, hcl⟩ := World.cells?_some h1; obtain ⟨o, rfl, -⟩ := fct_cells (by simpa using hlen) h2; have q0 := hcl 0 (by omega); rw [Deep.add_add] at q0
   simpa [Addr.add] using World.cell?_spot q0
  have hel : ∀ i, i < len0 → ∃ o : FX, ∃ b off, a = ⟨b, off, none⟩ ∧ o.wf ∧ ∀ k u, o.cells[k]? = some u → W.cell? ⟨b, off + i * 14 + k, none⟩ = some u := by
   intro i hi; obtain ⟨cs', h1, h2⟩ := hcell i (by omega); rw [ce] at h1; obtain ⟨_, hlen, hcl⟩ := World.cells?_some h1; obtain ⟨o, ho, hw⟩ := fct_cells (by simpa using hlen) h2; subst ho; obtain ⟨b, off, spot⟩ := a; obtain rfl : spot = none := hsp (by omega); refine ⟨o, b, off, rfl, hw, fun k u hu => ?_⟩
   have hk : k < 14 := (Array.getElem?_eq_some_iff.1 hu).1; have q := hcl k (by omega); rw [Deep.add_add, add_plain, Array.getElem?_toList, hu] at q; rw [Nat.add_assoc]; exact q
  let f : Nat → FX := fun i => if h : i < len0 then (hel i h).choose else noF
  refine ⟨(List.range len0).map f, ⟨some a, cap0, by simp, fun j hj => ?_⟩, by simp; omega⟩
  have hj' : j < len0 := by simpa using hj
  have e : f j = (hel j hj').choose := by show (if h : j < len0 then (hel j h).choose else noF) = _; rw [dif_pos hj']
  obtain ⟨b, off, h1, h2, h3⟩ := (hel j hj').choose_spec; refine ⟨b, off, by rw [h1], ?_⟩
  rw [List.getElem_map, List.getElem_range, e]; exact ⟨h2, h3⟩
variable {w0 w w' W w3 : World} {B : Nat} {ads : List Addr}
def mmE : EncG MM where
 enc g := [.int .i64 g.k, .int .i64 g.f, .int .i64 g.t, .int .i64 g.n, .int .i64 g.s, .int .i64 g.r, .int .i64 g.p, .int .i64 g.o, .int .i64 g.c]
 k := 9
 len := fun _ => rfl
 one := by
  intro x u hu; simp only [List.mem_cons, List.not_mem_nil, or_false] at hu
  rcases hu with rfl | rfl | rfl | rfl | rfl | rfl | rfl | rfl | rfl <;> rfl
theorem info_mm0 : (Tryz.prog.info? 63).map (fun i => (i.zero, i.size, i.bytes)) = some (some (.agg #[(0:Int), (0:Int), (0:Int), (0:Int), (0:Int), (0:Int), (0:Int), (0:Int), (0:Int)]), 9, 72) := by kernel_rfl
theorem info_mm : ∃ i0, Tryz.prog.info? 63 = some i0 ∧ i0.zero = some (.agg #[(0:Int), (0:Int), (0:Int), (0:Int), (0:Int), (0:Int), (0:Int), (0:Int), (0:Int)]) ∧ i0.size = 9 ∧ i0.bytes = 72 := by
 have h := info_mm0
 cases g : Tryz.prog.info? 63 with
 | none => rw [g] at h; cases h
 | some i0 =>
  rw [g] at h; simp only [Option.map_some, Option.some.injEq, Prod.mk.injEq] at h
  exact ⟨i0, rfl, h.1, h.2.1, h.2.2⟩
theorem ty_mm : TyG Tryz.prog 35 63 9 (.agg #[(0:Int), (0:Int), (0:Int), (0:Int), (0:Int), (0:Int), (0:Int), (0:Int), (0:Int)]) 72 := ⟨Tryz.underlying35, info_mm, rfl, by decide⟩
theorem own_oneM {w : World} {B : Nat} (g : MM) (hb : B ≤ w.heap.size) : (w.alloc (.cells g.cells 63)).ownsRow B 63 9 (.slice (some ⟨w.heap.size, 0, none⟩) 1 1) 1 (mmE.row [g]) := by
 have := World.ownsRow_lit (base := B) (e := 63) (size := 9) w g.cells 1 hb (by decide) rfl; rw [show mmE.row [g] = g.cells.toList by unfold EncG.row; simp [mmE, MM.cells]]; exact this
theorem own_no {w : World} {B k : Nat} {t : TypeId} : w.ownsRow B t k (.slice none 0 0) 0 [] := ⟨by simp, .inl ⟨rfl, rfl⟩⟩
def RsV (t : TypeId) (B : Nat) (r : RsM) (v : Value) (w : World) : Prop := ∃ vf vs, v = .agg #[vf, vs, .int .i64 r.work] ∧ w.ownsRow B t 14 vf r.facts.length (fcE.row r.facts) ∧ w.ownsRow B 63 9 vs r.send.length (mmE.row r.send)
theorem RsV.form {t : TypeId} {r : RsM} {v : Value} {lf lm : Nat} (h : RsV t B r v w) (hf : r.facts.length = lf) (hm : r.send.length = lm) : ∃ fa fc ma mc, v = .agg #[.slice fa lf fc, .slice ma lm mc, .int .i64 r.work] ∧ w.ownsRow B t 14 (.slice fa lf fc) lf (fcE.row r.facts) ∧ w.ownsRow B 63 9 (.slice ma lm mc) lm (mmE.row r.send) := by
 subst hf hm; obtain ⟨vf, vs, rfl, h1, h2⟩ := h; obtain ⟨fa, fc, rfl⟩ := fG h1; obtain ⟨ma, mc, rfl⟩ := fG h2; exact ⟨fa, fc, ma, mc, rfl, h1, h2⟩
theorem RsV.zero (t : TypeId) (B : Nat) (w : World) : RsV t B rs0 (.agg #[.slice none 0 0, .slice none 0 0, (0:Int)]) w := ⟨_, _, rfl, own_no, own_no⟩
theorem own_neP {B' k n b : Nat} {e t : TypeId} {v : Value} {xs : List Value} {cs : Array Value} (h : w.ownsRow B' e k v n xs) (r : w.heap[b]? = some (.cells cs t (0, 0))) (ne : t ≠ e) : v.ownBlock ≠ some b := fun e2 => by
 obtain ⟨c, h1⟩ := own_kindQ h b e2; rw [r] at h1; injection h1 with h1
 injection h1 with _ h1 _
 exact ne h1
def ResB (RT t : TypeId) (B p : Nat) (r : RsM) (w : World) : Prop := ∃ a n c a' n' c', w.heap[p]? = some (.cells #[.slice a n c, .slice a' n' c', .int .i64 r.work] RT (0, 0)) ∧ r.facts.length = n ∧ r.send.length = n' ∧ w.ownsRow B t 14 (.slice a n c) n (fcE.row r.facts) ∧ w.ownsRow B 63 9 (.slice a' n' c') n' (mmE.row r.send)
theorem RsV.set {RT t : TypeId} {p : Nat} {r : RsM} {vf vs x0 x1 x2 : Value} (R1 : w.heap[p]? = some (.cells #[x0, x1, x2] RT (0, 0))) (ne : RT ≠ t) (nm : RT ≠ 63) (h1 : w.ownsRow B t 14 vf r.facts.length (fcE.row r.facts)) (h2 : w.ownsRow B 63 9 vs r.send.length (mmE.row r.send)) : RsV t B r (.agg #[vf, vs, .int .i64 r.work]) (((w.setCell ⟨p, 0, none⟩ vf).setCell ⟨p, 1, none⟩ vs).setCell ⟨p, 2, none⟩ (.int .i64 r.work)) :=
 ⟨vf, vs, rfl, sG h1 (fun _ e => setR3_ne _ _ _ (fun e2 => own_neP h1 R1 ne (e2 ▸ e))), sG h2 (fun _ e => setR3_ne _ _ _ (fun e2 => own_neP h2 R1 nm (e2 ▸ e)))⟩
theorem RsV.setN {RT t : TypeId} {p n n' : Nat} {r : RsM} {vf vs x0 x1 x2 : Value} (R1 : w.heap[p]? = some (.cells #[x0, x1, x2] RT (0, 0))) (ne : RT ≠ t) (nm : RT ≠ 63) (hn : r.facts.length = n) (hm : r.send.length = n') (h1 : w.ownsRow B t 14 vf n (fcE.row r.facts)) (h2 : w.ownsRow B 63 9 vs n' (mmE.row r.send)) : RsV t B r (.agg #[vf, vs, .int .i64 r.work]) (((w.setCell ⟨p, 0, none⟩ vf).setCell ⟨p, 1, none⟩ vs).setCell ⟨p, 2, none⟩ (.int .i64 r.work)) := by
 subst hn hm; exact RsV.set R1 ne nm h1 h2
end Go.Proofs.YtlmlmhmhgdjhnaaGreatDoor
