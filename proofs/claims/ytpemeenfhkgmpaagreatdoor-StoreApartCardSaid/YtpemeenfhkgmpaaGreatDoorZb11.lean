/-
  PARTS OF THIS PROOF (own work): StoG, MovC, RefT, MvA.
-/
import Derived.Test.YtpemeenfhkgmpaaGreatDoorZb10
import Derived.Lib.SmallJoins
import Derived.Test.YtpemeenfhkgmpaaGreatDoorZb09
import Derived.Test.YtpemeenfhkgmpaaGreatDoorZb01
import Derived.LoopTactic
import Derived.BigQuiet
import Derived.Deep.RegionHeld3
namespace Go.Proofs.YtpemeenfhkgmpaaGreatDoor
open Go.RowKit Go.ChangeShapes Go.WideShapes

theorem cellU {b i : Nat} {t : TypeId} {w : World} {cs : Array Value} {x : Nat × Nat} {v : Value} (h : w.heap[b]? = some (.cells cs t x)) (hv : cs[i]? = some v) : w.cell? ⟨b, i, none⟩ = some v := by
  unfold World.cell?
  dsimp only
  rw [h]
  exact hv
theorem frozQ {b : Nat} {t : TypeId} {w : World} {cs : Array Value} (h : w.heap[b]? = some (.cells cs t (0, 0))) (i : Nat) : w.frozen? ⟨b, i, none⟩ = false := by
  unfold World.frozen?
  dsimp only
  rw [h]
  simp
theorem drewQ {a b : World} (h : Kp a b) : Kp a b.drew := ⟨h.os, h.tape, h.output, h.size, h.block⟩
theorem asdQ {O : Nat → Prop} {g i : Nat} {w : World} (h : O g) (y : Value) : Asd O O w (w.setCell ⟨g, i, none⟩ y) where
  os := rfl
  tape := rfl
  output := rfl
  size := by simp
  block := fun b _ hn => Below.heap_setCell _ _ _ _ (fun e => hn (by rw [e]; exact h))
  own := fun b q => .inl q
theorem own_kindQ {w : World} {B : Nat} {e : TypeId} {k n : Nat} {v : Value} {xs : List Value} (h : w.ownsRow B e k v n xs) (g : Nat) (hg : v.ownBlock = some g) : ∃ c, w.heap[g]? = some (.cells c e (0, 0)) := by
  rcases h.2 with ⟨rfl, _⟩ | ⟨g', cap, cur, rfl, _, hgg, _⟩
  · simp [Value.ownBlock] at hg
  · simp [Value.ownBlock] at hg
    subst hg
    exact ⟨cur, hgg⟩
/-- rows of two types lie apart -/
theorem own_apartQ {w : World} {B B' : Nat} {e e' : TypeId} {k k' n n' : Nat} {v v' : Value} {xs xs' : List Value} (h : w.ownsRow B e k v n xs) (h' : w.ownsRow B' e' k' v' n' xs') (hne : e ≠ e') (b : Nat) (hb : v.ownBlock = some b) : v'.ownBlock ≠ some b := fun hb' => by
  obtain ⟨c, h1⟩ := own_kindQ h b hb
  obtain ⟨c', h2⟩ := own_kindQ h' b hb'
  rw [h1] at h2
  injection h2 with h2
  injection h2 with _ h2 _
  exact hne h2
theorem own_cellQ {α : Type} {E : EncG α} {w : World} {B : Nat} {e : TypeId} {v : Value} {f : List α} {n : Nat} (h : w.ownsRow B e E.k v n (E.row f)) (hn : f.length = n) {j : Nat} (hj : j < n) : ∃ g cp, v = .slice (some ⟨g, 0, none⟩) n cp ∧ n ≤ cp ∧ B ≤ g ∧ g < w.heap.size ∧ (∀ i, w.frozen? ⟨g, i, none⟩ = false) ∧ ∀ (i : Nat) (u : Value), i < E.k → (E.enc (f[j]'(by omega)))[i]? = some u → w.cell? ⟨g, j * E.k + i, none⟩ = some u := by
  subst hn
  rcases h.2 with ⟨rfl, h0⟩ | ⟨g, cp, cur, rfl, hg, hh, hc, _⟩
  · omega
  · refine ⟨g, cp, rfl, hc, hg, old_of_row hh, fun i => h.frozenAt i, fun i u hi hu => ?_⟩
    have := h.cells rfl (j * E.k + i) u (by rw [← hu]; exact row_at E f j hj i hi)
    rw [Addr.add_lit, Nat.zero_add] at this
    exact this
/-- one cell of a row, set -/
theorem row_set1 {α : Type} (E : EncG α) : ∀ (f : List α) (i : Nat) (hi : i < f.length) (j : Nat) (_ : j < E.k) (y : Value) (x' : α) (_ : E.enc x' = (E.enc f[i]).set j y), (E.row f).set (i * E.k + j) y = E.row (f.set i x')
  | x :: f, 0, _, j, hj, y, x', hx => by
    show (E.row (x :: f)).set (0 * E.k + j) y = E.row (x' :: f)
    unfold EncG.row
    rw [List.flatMap_cons, List.flatMap_cons, Nat.zero_mul, Nat.zero_add, List.set_append_left _ _ (by rw [E.len]; exact hj), hx]
    rfl
  | x :: f, i + 1, hi, j, hj, y, x', hx => by
    have ih := row_set1 E f i (by simpa using hi) j hj y x' hx
    rw [List.set_cons_succ]
    unfold EncG.row at ih ⊢
    rw [List.flatMap_cons, List.flatMap_cons, ← ih, show (i + 1) * E.k + j = E.k + (i * E.k + j) by rw [Nat.add_mul, Nat.one_mul]; omega, List.set_append_right _ _ (by rw [E.len]; omega), E.len, Nat.add_sub_cancel_left]
/-- an activity as it lies: where its registrations are -/
structure AcG where
  (a : AcM) (o : Option Addr) (c : Nat)
def AcG.v (p : AcG) : Value := .slice p.o p.a.regs.length p.c
def acE : EncG AcG where
  enc p := [.int .i64 p.a.c.n, .int .i64 p.a.c.s, .int .i64 p.a.c.o, .int .i64 p.a.c.d, .float .f64 p.a.c.x, .int .i64 p.a.par, .int .i64 p.a.dec, p.v]
  k := 8
  len := fun _ => rfl
  one := by
    intro x u hu
    simp only [List.mem_cons, List.not_mem_nil, or_false] at hu
    rcases hu with rfl | rfl | rfl | rfl | rfl | rfl | rfl | rfl <;> rfl
def paE : EncG PaM where
  enc p := [.int .i64 p.n, .int .i64 p.s, .int .i64 p.reg, .int .i64 p.z.p, .int .i64 p.z.e, .int .i64 p.z.s, .int .i64 p.z.h]
  k := 7
  len := fun _ => rfl
  one := by
    intro x u hu
    simp only [List.mem_cons, List.not_mem_nil, or_false] at hu
    rcases hu with rfl | rfl | rfl | rfl | rfl | rfl | rfl <;> rfl
def rgE : EncG RgM where
  enc p := [.int .i64 p.node, .int .i64 p.part, .int .i64 p.z.p, .int .i64 p.z.e, .int .i64 p.z.s, .int .i64 p.z.h]
  k := 6
  len := fun _ => rfl
  one := by
    intro x u hu
    simp only [List.mem_cons, List.not_mem_nil, or_false] at hu
    rcases hu with rfl | rfl | rfl | rfl | rfl | rfl <;> rfl
structure TyQ where
  (st ac pt rg : TypeId)
structure TyQ.Ok (T : TyQ) : Prop where
  sa : T.st ≠ T.ac
  sp : T.st ≠ T.pt
  sr : T.st ≠ T.rg
  ap : T.ac ≠ T.pt
  ar : T.ac ≠ T.rg
  pr : T.pt ≠ T.rg
/-- A STORE: its block q, its activities gs in va, its participants in vp; all of it from B on -/
structure GS (T : TyQ) (B q : Nat) (m : StM) (gs : List AcG) (va vp : Value) (w : World) : Prop where
  row : w.heap[q]? = some (.cells #[.int .i64 m.node, .int .i64 m.next, va, vp] T.st (0, 0))
  bq : B ≤ q
  acts : m.acts = gs.map AcG.a
  oa : w.ownsRow B T.ac 8 va gs.length (acE.row gs)
  op : w.ownsRow B T.pt 7 vp m.parts.length (paE.row m.parts)
  og : ∀ g ∈ gs, w.ownsRow B T.rg 6 g.v g.a.regs.length (rgE.row g.a.regs)
  dis : ∀ (i j : Nat) (g h : AcG), gs[i]? = some g → gs[j]? = some h → i ≠ j → ∀ b, g.v.ownBlock = some b → h.v.ownBlock ≠ some b
def Ow (q : Nat) (gs : List AcG) (va vp : Value) (b : Nat) : Prop := b = q ∨ va.ownBlock = some b ∨ vp.ownBlock = some b ∨ ∃ g ∈ gs, g.v.ownBlock = some b
section
variable {T : TyQ} {B q : Nat} {m : StM} {gs gs' : List AcG} {va vp va' vp' : Value} {w w' W w3 : World}
theorem GS.mem (h : GS T B q m gs va vp w) : ∀ b, Ow q gs va vp b → B ≤ b ∧ b < w.heap.size := by
  rintro b (rfl | hb | hb | ⟨g, hg, hb⟩)
  · exact ⟨h.bq, old_of_row h.row⟩
  · exact h.oa.lt b hb
  · exact h.op.lt b hb
  · exact (h.og g hg).lt b hb
theorem GS.stay (h : GS T B q m gs va vp w) (hb : ∀ b, Ow q gs va vp b → w'.heap[b]? = w.heap[b]?) : GS T B q m gs va vp w' where
  row := by rw [hb q (.inl rfl)]; exact h.row
  bq := h.bq
  acts := h.acts
  oa := own_stayG h.oa (fun b e => hb b (.inr (.inl e)))
  op := own_stayG h.op (fun b e => hb b (.inr (.inr (.inl e))))
  og := fun g hg => own_stayG (h.og g hg) (fun b e => hb b (.inr (.inr (.inr ⟨g, hg, e⟩))))
  dis := h.dis
theorem GS.kp (h : GS T B q m gs va vp w) (hk : Kp w w') : GS T B q m gs va vp w' := h.stay fun b hb => Below.block hk b (h.mem b hb).2
theorem GS.base {B' : Nat} (h : GS T B q m gs va vp w) (hb : B' ≤ B) : GS T B' q m gs va vp w where
  row := h.row
  bq := Nat.le_trans hb h.bq
  acts := h.acts
  oa := own_baseG h.oa hb
  op := own_baseG h.op hb
  og := fun g hg => own_baseG (h.og g hg) hb
  dis := h.dis
theorem GS.len (h : GS T B q m gs va vp w) : gs.length = m.acts.length := by rw [h.acts, List.length_map]
theorem GS.qa (h : GS T B q m gs va vp w) (ok : T.Ok) : va.ownBlock ≠ some q := fun e => by
  obtain ⟨c, hc⟩ := own_kindQ h.oa q e
  rw [h.row] at hc; injection hc with hc; injection hc with _ hc _; exact ok.sa hc
theorem GS.qp (h : GS T B q m gs va vp w) (ok : T.Ok) : vp.ownBlock ≠ some q := fun e => by
  obtain ⟨c, hc⟩ := own_kindQ h.op q e
  rw [h.row] at hc; injection hc with hc; injection hc with _ hc _; exact ok.sp hc
theorem GS.qg (h : GS T B q m gs va vp w) (ok : T.Ok) {g : AcG} (hg : g ∈ gs) : g.v.ownBlock ≠ some q := fun e => by
  obtain ⟨c, hc⟩ := own_kindQ (h.og g hg) q e
  rw [h.row] at hc; injection hc with hc; injection hc with _ hc _; exact ok.sr hc
theorem GS.vForm (h : GS T B q m gs va vp w) : ∃ a cp, va = .slice a gs.length cp := own_formG h.oa
theorem GS.pForm (h : GS T B q m gs va vp w) : ∃ a cp, vp = .slice a m.parts.length cp := own_formG h.op
theorem GS.at (h : GS T B q m gs va vp w) {i : Nat} {a : AcM} (ha : m.acts[i]? = some a) : ∃ g, gs[i]? = some g ∧ g.a = a := by
  rw [h.acts, List.getElem?_map] at ha
  cases hg : gs[i]? with
  | none => rw [hg] at ha; cases ha
  | some g => rw [hg] at ha; exact ⟨g, rfl, by simpa using ha⟩
/-- Next is set -/
theorem GS.setNext (h : GS T B q m gs va vp w) (ok : T.Ok) (nx : Int) : GS T B q { m with next := nx } gs va vp (w.setCell ⟨q, 1, none⟩ (.int .i64 nx)) ∧ Asd (Ow q gs va vp) (Ow q gs va vp) w (w.setCell ⟨q, 1, none⟩ (.int .i64 nx)) := by
  have ne : ∀ (b : Nat), b ≠ q → (w.setCell ⟨q, 1, none⟩ (.int .i64 nx)).heap[b]? = w.heap[b]? := fun b hb => Below.heap_setCell _ _ _ _ hb
  refine ⟨⟨(Joins.block_setCell h.row _).trans rfl, h.bq, h.acts, ?_, ?_, ?_, h.dis⟩, asdQ (.inl rfl) _⟩
  · exact own_stayG h.oa (fun b e => ne b (fun e2 => h.qa ok (e2 ▸ e)))
  · exact own_stayG h.op (fun b e => ne b (fun e2 => h.qp ok (e2 ▸ e)))
  · exact fun g hg => own_stayG (h.og g hg) (fun b e => ne b (fun e2 => h.qg ok hg (e2 ▸ e)))
/-- THE ACTIVITIES REPLACED: by a row in their own block, or a new one -/
theorem GS.repA (h : GS T B q m gs va vp w) (ok : T.Ok) (hk : Kp w W) (hg : W.grownBy w3 va.ownBlock) {L : Nat} (hL : gs'.length = L) (ho : w3.ownsRow B T.ac 8 va' L (acE.row gs'))
    (hb : ∀ b, va'.ownBlock = some b → va.ownBlock = some b ∨ w.heap.size ≤ b) (hs : ∀ g ∈ gs', g ∈ gs ∨ (g.a.regs = [] ∧ g.o = none ∧ g.c = 0))
    (hd : ∀ (i j : Nat) (g h : AcG), gs'[i]? = some g → gs'[j]? = some h → i ≠ j → ∀ b, g.v.ownBlock = some b → h.v.ownBlock ≠ some b) :
    GS T B q { m with acts := gs'.map AcG.a } gs' va' vp (w3.setCell ⟨q, 2, none⟩ va') ∧ Asd (Ow q gs va vp) (Ow q gs' va' vp) w (w3.setCell ⟨q, 2, none⟩ va') := by
  subst hL
  have hsz := Below.size hk
  have hlt := old_of_row h.row
  have keep : ∀ b, b < w.heap.size → va.ownBlock ≠ some b → w3.heap[b]? = w.heap[b]? := fun b h1 h2 => by
    rw [hg.block b (by omega) (fun e => h2 e.symm)]
    exact Below.block hk b h1
  have n6 : va'.ownBlock ≠ some q := fun e => (hb q e).elim (h.qa ok) (fun e => by omega)
  have r1 := (keep q hlt (h.qa ok)).trans h.row
  have ne : ∀ (b : Nat), b ≠ q → (w3.setCell ⟨q, 2, none⟩ va').heap[b]? = w3.heap[b]? := fun b hb => Below.heap_setCell _ _ _ _ hb
  have nv : ∀ g : AcG, g.a.regs = [] ∧ g.o = none ∧ g.c = 0 → g.v = .slice none 0 0 := fun g ⟨q1, q2, q3⟩ => by unfold AcG.v; rw [q1, q2, q3]; rfl
  refine ⟨⟨(Joins.block_setCell r1 _).trans rfl, h.bq, rfl, ?_, ?_, ?_, hd⟩, ?_⟩
  · exact own_stayG ho (fun b e => ne b (fun e2 => n6 (e2 ▸ e)))
  · refine own_stayG h.op (fun b e => ?_)
    have hb2 := h.op.lt b e
    rw [ne b (fun e2 => h.qp ok (e2 ▸ e))]
    exact keep b hb2.2 (fun e2 => own_apartQ h.oa h.op ok.ap b e2 e)
  · intro g hgm
    rcases hs g hgm with q1 | q1
    · refine own_stayG (h.og g q1) (fun b e => ?_)
      have hb2 := (h.og g q1).lt b e
      rw [ne b (fun e2 => h.qg ok q1 (e2 ▸ e))]
      exact keep b hb2.2 (fun e2 => own_apartQ h.oa (h.og g q1) ok.ar b e2 e)
    · rw [nv g q1, q1.1]
      exact World.ownsRow_nil _ _ _ _
  · refine ⟨hg.os.trans hk.os, hg.tape.trans hk.tape, hg.output.trans hk.output, by simpa using Nat.le_trans hsz hg.size, fun b hb2 hn => ?_, fun b e => ?_⟩
    · rw [ne b (fun e => hn (.inl e))]
      exact keep b hb2 (fun e => hn (.inr (.inl e)))
    · rcases e with rfl | e | e | ⟨g, q1, e⟩
      · exact .inl (.inl rfl)
      · exact (hb b e).imp (fun e => .inr (.inl e)) id
      · exact .inl (.inr (.inr (.inl e)))
      · rcases hs g q1 with q2 | q2
        · exact .inl (.inr (.inr (.inr ⟨g, q2, e⟩)))
        · rw [nv g q2] at e
          cases e
/-- THE PARTICIPANTS REPLACED -/
theorem GS.repP (h : GS T B q m gs va vp w) (ok : T.Ok) (hk : Kp w W) (hg : W.grownBy w3 vp.ownBlock) {L : Nat} {ps : List PaM} (hL : ps.length = L) (ho : w3.ownsRow B T.pt 7 vp' L (paE.row ps))
    (hb : ∀ b, vp'.ownBlock = some b → vp.ownBlock = some b ∨ w.heap.size ≤ b) :
    GS T B q { m with parts := ps } gs va vp' (w3.setCell ⟨q, 3, none⟩ vp') ∧ Asd (Ow q gs va vp) (Ow q gs va vp') w (w3.setCell ⟨q, 3, none⟩ vp') := by
  subst hL
  have hsz := Below.size hk
  have hlt := old_of_row h.row
  have keep : ∀ b, b < w.heap.size → vp.ownBlock ≠ some b → w3.heap[b]? = w.heap[b]? := fun b h1 h2 => by
    rw [hg.block b (by omega) (fun e => h2 e.symm)]
    exact Below.block hk b h1
  have n6 : vp'.ownBlock ≠ some q := fun e => (hb q e).elim (h.qp ok) (fun e => by omega)
  have r1 := (keep q hlt (h.qp ok)).trans h.row
  have ne : ∀ (b : Nat), b ≠ q → (w3.setCell ⟨q, 3, none⟩ vp').heap[b]? = w3.heap[b]? := fun b hb => Below.heap_setCell _ _ _ _ hb
  refine ⟨⟨(Joins.block_setCell r1 _).trans rfl, h.bq, h.acts, ?_, ?_, ?_, h.dis⟩, ?_⟩
  · refine own_stayG h.oa (fun b e => ?_)
    have hb2 := h.oa.lt b e
    rw [ne b (fun e2 => h.qa ok (e2 ▸ e))]
    exact keep b hb2.2 (fun e2 => own_apartQ h.oa h.op ok.ap b e e2)
  · exact own_stayG ho (fun b e => ne b (fun e2 => n6 (e2 ▸ e)))
  · intro g hgm
    refine own_stayG (h.og g hgm) (fun b e => ?_)
    have hb2 := (h.og g hgm).lt b e
    rw [ne b (fun e2 => h.qg ok hgm (e2 ▸ e))]
    exact keep b hb2.2 (fun e2 => own_apartQ h.op (h.og g hgm) ok.pr b e2 e)
  · refine ⟨hg.os.trans hk.os, hg.tape.trans hk.tape, hg.output.trans hk.output, by simpa using Nat.le_trans hsz hg.size, fun b hb2 hn => ?_, fun b e => ?_⟩
    · rw [ne b (fun e => hn (.inl e))]
      exact keep b hb2 (fun e => hn (.inr (.inr (.inl e))))
    · rcases e with rfl | e | e | e
      · exact .inl (.inl rfl)
      · exact .inl (.inr (.inl e))
      · exact (hb b e).imp (fun e => .inr (.inr (.inl e))) id
      · exact .inl (.inr (.inr (.inr e)))
/-- A CELL OF A PARTICIPANT is set -/
theorem GS.setP {g n cp j i : Nat} {x x' : PaM} {y : Value} (h : GS T B q m gs va (.slice (some ⟨g, 0, none⟩) n cp) w) (ok : T.Ok) (hx : m.parts[j]? = some x) (hi : i < 7) (he : paE.enc x' = (paE.enc x).set i y) :
    GS T B q { m with parts := m.parts.set j x' } gs va (.slice (some ⟨g, 0, none⟩) n cp) (w.setCell ⟨g, j * 7 + i, none⟩ y) ∧ Asd (Ow q gs va (.slice (some ⟨g, 0, none⟩) n cp)) (Ow q gs va (.slice (some ⟨g, 0, none⟩) n cp)) w (w.setCell ⟨g, j * 7 + i, none⟩ y) := by
  obtain ⟨hj, hx⟩ := List.getElem?_eq_some_iff.1 hx
  have ne : ∀ (b : Nat), b ≠ g → (w.setCell ⟨g, j * 7 + i, none⟩ y).heap[b]? = w.heap[b]? := fun b hb => Below.heap_setCell _ _ _ _ hb
  have hn : m.parts.length = n := own_lenG (E := paE) (by decide) (by
    obtain ⟨a, c, e⟩ := own_formG h.op
    injection e with _ e _
    rw [e]; exact h.op)
  subst hn
  have hrow := row_set1 paE m.parts j hj i hi y x' (by rw [hx]; exact he)
  have o1 := (h.op.stored (j * 7 + i) y).1
  rw [show (paE.row m.parts).set (j * 7 + i) y = paE.row (m.parts.set j x') from hrow] at o1
  refine ⟨⟨?_, h.bq, h.acts, ?_, ?_, ?_, h.dis⟩, asdQ (.inr (.inr (.inl rfl))) _⟩
  · rw [ne q (fun e => h.qp ok (by rw [e]; rfl))]
    exact h.row
  · exact own_stayG h.oa (fun b e => ne b (fun e2 => own_apartQ h.oa h.op ok.ap b e (by rw [e2]; rfl)))
  · show World.ownsRow _ B T.pt 7 _ (m.parts.set j x').length _
    rw [List.length_set]
    exact o1
  · exact fun x hx => own_stayG (h.og x hx) (fun b e => ne b (fun e2 => own_apartQ h.op (h.og x hx) ok.pr b (by rw [e2]; rfl) e))
theorem set_at {α : Type} {l : List α} {i j : Nat} {x y : α} (h : (l.set i x)[j]? = some y) : (i = j ∧ y = x) ∨ (i ≠ j ∧ l[j]? = some y) := by
  rw [List.getElem?_set] at h
  by_cases e : i = j
  · rw [if_pos e] at h
    split at h
    · exact .inl ⟨e, by injection h with h; exact h.symm⟩
    · cases h
  · rw [if_neg e] at h
    exact .inr ⟨e, h⟩
/-- an activity turned, its registrations let be -/
theorem dis_set {i : Nat} {g g' : AcG} (hd : ∀ (i j : Nat) (g h : AcG), gs[i]? = some g → gs[j]? = some h → i ≠ j → ∀ b, g.v.ownBlock = some b → h.v.ownBlock ≠ some b) (hg : gs[i]? = some g) {N : Nat} (hN : ∀ x ∈ gs, ∀ b, x.v.ownBlock = some b → b < N) (hb : ∀ b, g'.v.ownBlock = some b → g.v.ownBlock = some b ∨ N ≤ b) :
    ∀ (k j : Nat) (x y : AcG), (gs.set i g')[k]? = some x → (gs.set i g')[j]? = some y → k ≠ j → ∀ b, x.v.ownBlock = some b → y.v.ownBlock ≠ some b := by
  intro k j x y hx hy hkj b e1 e2
  rcases set_at hx with ⟨k1, k2⟩ | ⟨h1, hx2⟩
  · rcases set_at hy with ⟨k3, k4⟩ | ⟨h2, hy2⟩
    · exact hkj (k1.symm.trans k3)
    · subst k2
      rcases hb b e1 with q | q
      · exact hd i j g y hg hy2 (fun e => h2 e) b q e2
      · have := hN y (List.mem_of_getElem? hy2) b e2
        omega
  · rcases set_at hy with ⟨k3, k4⟩ | ⟨h2, hy2⟩
    · subst k4
      rcases hb b e2 with q | q
      · exact hd k i x g hx2 hg (fun e => h1 e.symm) b e1 q
      · have := hN x (List.mem_of_getElem? hx2) b e1
        omega
    · exact hd k j x y hx2 hy2 hkj b e1 e2
/-- A CELL OF AN ACTIVITY is set -/
theorem GS.setA {g n cp j i : Nat} {x x' : AcG} {y : Value} (h : GS T B q m gs (.slice (some ⟨g, 0, none⟩) n cp) vp w) (ok : T.Ok) (hx : gs[j]? = some x) (hi : i < 8) (he : acE.enc x' = (acE.enc x).set i y) (hr : x'.a.regs = x.a.regs) (hv : x'.v = x.v) :
    GS T B q { m with acts := m.acts.set j x'.a } (gs.set j x') (.slice (some ⟨g, 0, none⟩) n cp) vp (w.setCell ⟨g, j * 8 + i, none⟩ y) ∧ Asd (Ow q gs (.slice (some ⟨g, 0, none⟩) n cp) vp) (Ow q (gs.set j x') (.slice (some ⟨g, 0, none⟩) n cp) vp) w (w.setCell ⟨g, j * 8 + i, none⟩ y) := by
  obtain ⟨hj, hx'⟩ := List.getElem?_eq_some_iff.1 hx
  have ne : ∀ (b : Nat), b ≠ g → (w.setCell ⟨g, j * 8 + i, none⟩ y).heap[b]? = w.heap[b]? := fun b hb => Below.heap_setCell _ _ _ _ hb
  have hn : gs.length = n := own_lenG (E := acE) (by decide) (by
    obtain ⟨a, c, e⟩ := own_formG h.oa
    injection e with _ e _
    rw [e]; exact h.oa)
  subst hn
  have hrow := row_set1 acE gs j hj i hi y x' (by rw [hx']; exact he)
  have o1 := (h.oa.stored (j * 8 + i) y).1
  rw [show (acE.row gs).set (j * 8 + i) y = acE.row (gs.set j x') from hrow] at o1
  have hmem : x ∈ gs := List.mem_of_getElem? hx
  refine ⟨⟨?_, h.bq, ?_, ?_, ?_, ?_, ?_⟩, ?_⟩
  · rw [ne q (fun e => h.qa ok (by rw [e]; rfl))]
    exact h.row
  · show m.acts.set j x'.a = _
    rw [h.acts, List.map_set]
  · rw [List.length_set]
    exact o1
  · exact own_stayG h.op (fun b e => ne b (fun e2 => own_apartQ h.oa h.op ok.ap b (by rw [e2]; rfl) e))
  · intro z hz
    have : ∃ z0 ∈ gs, z.v = z0.v ∧ z.a.regs = z0.a.regs := by
      rcases mem_set hz with hz | rfl
      · exact ⟨z, hz, rfl, rfl⟩
      · exact ⟨x, hmem, hv, hr⟩
    obtain ⟨z0, hz0, e1, e2⟩ := this
    rw [e1, e2]
    exact own_stayG (h.og z0 hz0) (fun b e => ne b (fun e3 => own_apartQ h.oa (h.og z0 hz0) ok.ar b (by rw [e3]; rfl) e))
  · exact dis_set h.dis hx (N := w.heap.size) (fun z hz b e => ((h.og z hz).lt b e).2) (fun b e => .inl (by rw [← hv]; exact e))
  · refine ⟨rfl, rfl, rfl, by simp, fun b _ hn => ne b (fun e => hn (.inr (.inl (by rw [e]; rfl)))), fun b e => .inl ?_⟩
    rcases e with rfl | e | e | ⟨z, hz, e⟩
    · exact .inl rfl
    · exact .inr (.inl e)
    · exact .inr (.inr (.inl e))
    · rcases mem_set hz with hz | rfl
      · exact .inr (.inr (.inr ⟨z, hz, e⟩))
      · exact .inr (.inr (.inr ⟨x, hmem, by rw [← hv]; exact e⟩))
/-- A CELL OF A REGISTRATION is set -/
theorem GS.setR {gr cr j k i : Nat} {a : AcM} {r r' : RgM} {y : Value} (h : GS T B q m gs va vp w) (ok : T.Ok) (hx : gs[j]? = some ⟨a, some ⟨gr, 0, none⟩, cr⟩) (hk : a.regs[k]? = some r) (hi : i < 6) (he : rgE.enc r' = (rgE.enc r).set i y) :
    GS T B q { m with acts := m.acts.set j { a with regs := a.regs.set k r' } } (gs.set j ⟨{ a with regs := a.regs.set k r' }, some ⟨gr, 0, none⟩, cr⟩) va vp (w.setCell ⟨gr, k * 6 + i, none⟩ y) ∧ Asd (Ow q gs va vp) (Ow q (gs.set j ⟨{ a with regs := a.regs.set k r' }, some ⟨gr, 0, none⟩, cr⟩) va vp) w (w.setCell ⟨gr, k * 6 + i, none⟩ y) := by
  obtain ⟨hk2, hk'⟩ := List.getElem?_eq_some_iff.1 hk
  have ne : ∀ (b : Nat), b ≠ gr → (w.setCell ⟨gr, k * 6 + i, none⟩ y).heap[b]? = w.heap[b]? := fun b hb => Below.heap_setCell _ _ _ _ hb
  have hmem : (⟨a, some ⟨gr, 0, none⟩, cr⟩ : AcG) ∈ gs := List.mem_of_getElem? hx
  have hO := h.og _ hmem
  have hrow := row_set1 rgE a.regs k hk2 i hi y r' (by rw [hk']; exact he)
  have o1 := (World.ownsRow.stored (n := a.regs.length) (cap := cr) hO (k * 6 + i) y).1
  rw [show (rgE.row a.regs).set (k * 6 + i) y = rgE.row (a.regs.set k r') from hrow] at o1
  have hv : (⟨{ a with regs := a.regs.set k r' }, some ⟨gr, 0, none⟩, cr⟩ : AcG).v = .slice (some ⟨gr, 0, none⟩) a.regs.length cr := by
    unfold AcG.v
    dsimp only
    rw [List.length_set]
  have hob : (⟨{ a with regs := a.regs.set k r' }, some ⟨gr, 0, none⟩, cr⟩ : AcG).v.ownBlock = some gr := rfl
  have hob2 : (⟨a, some ⟨gr, 0, none⟩, cr⟩ : AcG).v.ownBlock = some gr := rfl
  obtain ⟨hj, hxj⟩ := List.getElem?_eq_some_iff.1 hx
  have erow : acE.row (gs.set j ⟨{ a with regs := a.regs.set k r' }, some ⟨gr, 0, none⟩, cr⟩) = acE.row gs := by
    have := row_set1 acE gs j hj 7 (by decide) (.slice (some ⟨gr, 0, none⟩) a.regs.length cr) ⟨{ a with regs := a.regs.set k r' }, some ⟨gr, 0, none⟩, cr⟩ (by
      rw [hxj]
      simp only [acE, AcG.v, List.length_set, List.set_cons_succ, List.set_cons_zero])
    rw [← this]
    apply List.ext_getElem?
    intro p
    rw [List.getElem?_set]
    split
    · rename_i e
      subst e
      split
      · rw [row_at acE gs j hj 7 (by decide), hxj]
        rfl
      · rename_i e
        exact absurd (by rw [row_len]; have : acE.k = 8 := rfl; rw [this]; omega) e
    · rfl
  refine ⟨⟨?_, h.bq, ?_, ?_, ?_, ?_, ?_⟩, ?_⟩
  · rw [ne q (fun e => h.qg ok hmem (by rw [e]; rfl))]
    exact h.row
  · show m.acts.set j _ = _
    rw [h.acts, List.map_set]
  · rw [List.length_set, erow]
    exact own_stayG h.oa (fun b e => ne b (fun e2 => own_apartQ h.oa hO ok.ar b e (by rw [e2]; rfl)))
  · exact own_stayG h.op (fun b e => ne b (fun e2 => own_apartQ h.op hO ok.pr b e (by rw [e2]; rfl)))
  · intro z hz
    obtain ⟨p, hp⟩ := List.getElem?_of_mem hz
    rcases set_at hp with ⟨rfl, rfl⟩ | ⟨hne, hp⟩
    · rw [hv]
      dsimp only
      rw [List.length_set]
      exact o1
    · exact own_stayG (h.og z (List.mem_of_getElem? hp)) (fun b e => ne b (fun e2 => h.dis j p _ z hx hp hne gr hob2 (by rw [← e2]; exact e)))
  · exact dis_set h.dis hx (N := w.heap.size) (fun z hz b e => ((h.og z hz).lt b e).2) (fun b e => .inl e)
  · refine ⟨rfl, rfl, rfl, by simp, fun b _ hn => ne b (fun e => hn (.inr (.inr (.inr ⟨_, hmem, by rw [e]; rfl⟩)))), fun b e => .inl ?_⟩
    rcases e with rfl | e | e | ⟨z, hz, e⟩
    · exact .inl rfl
    · exact .inr (.inl e)
    · exact .inr (.inr (.inl e))
    · rcases mem_set hz with hz | rfl
      · exact .inr (.inr (.inr ⟨z, hz, e⟩))
      · exact .inr (.inr (.inr ⟨_, hmem, e⟩))
/-- AN ACTIVITY's REGISTRATIONS REPLACED: by a row in their own block, or a new one -/
theorem GS.repR {ga n cp j L c' : Nat} {o' : Option Addr} {x : AcG} {rs : List RgM} (h : GS T B q m gs (.slice (some ⟨ga, 0, none⟩) n cp) vp w) (ok : T.Ok) (hx : gs[j]? = some x) (hk : Kp w W) (hg : W.grownBy w3 x.v.ownBlock) (hL : rs.length = L) (ho : w3.ownsRow B T.rg 6 (.slice o' L c') L (rgE.row rs))
    (hb : ∀ b, (Value.slice o' L c').ownBlock = some b → x.v.ownBlock = some b ∨ w.heap.size ≤ b) :
    GS T B q { m with acts := m.acts.set j { x.a with regs := rs } } (gs.set j ⟨{ x.a with regs := rs }, o', c'⟩) (.slice (some ⟨ga, 0, none⟩) n cp) vp (w3.setCell ⟨ga, j * 8 + 7, none⟩ (.slice o' L c')) ∧
      Asd (Ow q gs (.slice (some ⟨ga, 0, none⟩) n cp) vp) (Ow q (gs.set j ⟨{ x.a with regs := rs }, o', c'⟩) (.slice (some ⟨ga, 0, none⟩) n cp) vp) w (w3.setCell ⟨ga, j * 8 + 7, none⟩ (.slice o' L c')) := by
  subst hL
  obtain ⟨hj, hxj⟩ := List.getElem?_eq_some_iff.1 hx
  have hmem : x ∈ gs := List.mem_of_getElem? hx
  have hO := h.og _ hmem
  have hsz := Below.size hk
  have hlt := old_of_row h.row
  have keep : ∀ b, b < w.heap.size → x.v.ownBlock ≠ some b → w3.heap[b]? = w.heap[b]? := fun b h1 h2 => by
    rw [hg.block b (by omega) (fun e => h2 e.symm)]
    exact Below.block hk b h1
  have hga := h.oa.lt ga rfl
  have gaq : ga ≠ q := fun e => h.qa ok (by rw [e]; rfl)
  have gax : x.v.ownBlock ≠ some ga := fun e => own_apartQ h.oa hO ok.ar ga rfl e
  have gav : (Value.slice o' rs.length c').ownBlock ≠ some ga := fun e => (hb ga e).elim gax (fun e => by omega)
  have ne : ∀ (b : Nat), b ≠ ga → (w3.setCell ⟨ga, j * 8 + 7, none⟩ (.slice o' rs.length c')).heap[b]? = w3.heap[b]? := fun b hb => Below.heap_setCell _ _ _ _ hb
  have hn : gs.length = n := own_lenG (E := acE) (by decide) (by
    obtain ⟨a, c, e⟩ := own_formG h.oa
    injection e with _ e _
    rw [e]; exact h.oa)
  subst hn
  have hrow := row_set1 acE gs j hj 7 (by decide) (.slice o' rs.length c') ⟨{ x.a with regs := rs }, o', c'⟩ (by
    rw [hxj]
    simp only [acE, AcG.v, List.set_cons_succ, List.set_cons_zero])
  have oa3 : w3.ownsRow B T.ac 8 (.slice (some ⟨ga, 0, none⟩) gs.length cp) gs.length (acE.row gs) := own_stayG h.oa (fun b e => keep b (h.oa.lt b e).2 (fun e2 => own_apartQ h.oa hO ok.ar b e e2))
  have o1 := (oa3.stored (j * 8 + 7) (.slice o' rs.length c')).1
  rw [show (acE.row gs).set (j * 8 + 7) (.slice o' rs.length c') = acE.row (gs.set j ⟨{ x.a with regs := rs }, o', c'⟩) from hrow] at o1
  refine ⟨⟨?_, h.bq, ?_, ?_, ?_, ?_, ?_⟩, ?_⟩
  · rw [ne q (fun e => gaq e.symm), keep q hlt (h.qg ok hmem)]
    exact h.row
  · show m.acts.set j _ = _
    rw [h.acts, List.map_set]
  · rw [List.length_set]
    exact o1
  · refine own_stayG h.op (fun b e => ?_)
    rw [ne b (fun e2 => own_apartQ h.oa h.op ok.ap b (by rw [e2]; rfl) e)]
    exact keep b (h.op.lt b e).2 (fun e2 => own_apartQ h.op hO ok.pr b e e2)
  · intro z hz
    obtain ⟨p, hp⟩ := List.getElem?_of_mem hz
    rcases set_at hp with ⟨rfl, rfl⟩ | ⟨hne, hp⟩
    · exact own_stayG ho (fun b e => ne b (fun e2 => gav (by rw [← e2]; exact e)))
    · have hz0 := List.mem_of_getElem? hp
      refine own_stayG (h.og z hz0) (fun b e => ?_)
      rw [ne b (fun e2 => own_apartQ h.oa (h.og z hz0) ok.ar b (by rw [e2]; rfl) e)]
      exact keep b ((h.og z hz0).lt b e).2 (fun e2 => h.dis j p _ z hx hp hne b e2 e)
  · exact dis_set h.dis hx (N := w.heap.size) (fun z hz b e => ((h.og z hz).lt b e).2) (fun b e => hb b e)
  · refine ⟨hg.os.trans hk.os, hg.tape.trans hk.tape, hg.output.trans hk.output, by simpa using Nat.le_trans hsz hg.size, fun b hb2 hn => ?_, fun b e => ?_⟩
    · rw [ne b (fun e => hn (.inr (.inl (by rw [e]; rfl))))]
      exact keep b hb2 (fun e => hn (.inr (.inr (.inr ⟨x, hmem, e⟩))))
    · rcases e with rfl | e | e | ⟨z, hz, e⟩
      · exact .inl (.inl rfl)
      · exact .inl (.inr (.inl e))
      · exact .inl (.inr (.inr (.inl e)))
      · rcases mem_set hz with hz | rfl
        · exact .inl (.inr (.inr (.inr ⟨z, hz, e⟩)))
        · exact (hb b e).imp (fun e => .inr (.inr (.inr ⟨x, hmem, e⟩))) id
end
open Go.RowKit

def i64M (x : Int) : Prop := -9223372036854775808 ≤ x ∧ x ≤ 9223372036854775807
instance (x : Int) : Decidable (i64M x) := by unfold i64M; infer_instance
/-- the cells of a seat; of an effect -/
def seatV (z : SeatM) : Array Value := #[.int .i64 z.p, .int .i64 z.e, .int .i64 z.s, .int .i64 z.h]
def SeatM.ok (z : SeatM) : Prop := i64M z.p ∧ i64M z.e ∧ i64M z.s ∧ i64M z.h
def newS (p e : Int) : SeatM := if rightT p e = true then ⟨p, e, 1, 0⟩ else ⟨0, 0, 0, 0⟩
open Go.RowKit Go.ChangeShapes Go.WideShapes

theorem refHas_any (p e s : Int) (w : World) : Calls Tryz.prog 122 #[.int .i64 p, .int .i64 e, .int .i64 s] w fun e' w' => e' = .returned (.bool (hasT p e s)) ∧ w = w' := by
  by_cases h4 : s = 4
  · subst h4
    rw [show hasT p e 4 = (p == 2) by simp [hasT]; rw [Bool.eq_iff_iff]; simp]
    (go_enter Tryz.func122, Tryz.ntmps122; go_wp2; go_ret; exact ⟨rfl, rfl⟩)
  by_cases h10 : s = 10
  · subst h10
    rw [show hasT p e 10 = (p == 2) by simp [hasT]; rw [Bool.eq_iff_iff]; simp]
    (go_enter Tryz.func122, Tryz.ntmps122; go_wp2; go_ret; exact ⟨rfl, rfl⟩)
  have b4 : (s == 4) = false := by simpa using h4
  have b10 : (s == 10) = false := by simpa using h10
  by_cases h3 : s = 3
  · subst h3
    by_cases hp : p = 2
    · subst hp
      rw [show hasT 2 e 3 = (e == 1) by simp [hasT]; rw [Bool.eq_iff_iff]; simp]
      (go_enter Tryz.func122, Tryz.ntmps122; go_wp2; go_ret; exact ⟨rfl, rfl⟩)
    · rw [show hasT p e 3 = false by simp [hasT, hp]]
      have bp : (p == 2) = false := by simpa using hp
      (go_enter Tryz.func122, Tryz.ntmps122; go_wp2; go_ret; exact ⟨rfl, rfl⟩)
  have b3 : (s == 3) = false := by simpa using h3
  by_cases h1 : 1 ≤ s
  · by_cases h2 : s ≤ 14
    · rw [show hasT p e s = true by simp [hasT, h4, h10, h3, h1, h2]]
      (go_enter Tryz.func122, Tryz.ntmps122; go_wp2; go_ret; exact ⟨rfl, rfl⟩)
    · rw [show hasT p e s = false by simp [hasT, h4, h10, h3, h2]]
      (go_enter Tryz.func122, Tryz.ntmps122; go_wp2; go_ret; exact ⟨rfl, rfl⟩)
  · rw [show hasT p e s = false by simp [hasT, h4, h10, h3, h1]]
    (go_enter Tryz.func122, Tryz.ntmps122; go_wp2; go_ret; exact ⟨rfl, rfl⟩)
open Go.RowKit Go.ChangeShapes Go.WideShapes

theorem cells_4 {b : Nat} {t : TypeId} {w : World} {x0 x1 x2 x3 : Value} (h : w.heap[b]? = some (.cells #[x0, x1, x2, x3] t (0, 0))) : w.cell? ⟨b, 0, none⟩ = some x0 ∧ w.cell? ⟨b, 1, none⟩ = some x1 ∧ w.cell? ⟨b, 2, none⟩ = some x2 ∧ w.cell? ⟨b, 3, none⟩ = some x3 := by
  refine ⟨?_, ?_, ?_, ?_⟩ <;> (unfold World.cell?; dsimp only; rw [h]; rfl)
theorem set_4 {b : Nat} {t : TypeId} {w : World} {x0 x1 x2 x3 : Value} (y0 y1 y2 y3 : Value) (h : w.heap[b]? = some (.cells #[x0, x1, x2, x3] t (0, 0))) : ((((w.setCell ⟨b, 0, none⟩ y0).setCell ⟨b, 1, none⟩ y1).setCell ⟨b, 2, none⟩ y2).setCell ⟨b, 3, none⟩ y3).heap[b]? = some (.cells #[y0, y1, y2, y3] t (0, 0)) := by
  have h0 : (w.setCell ⟨b, 0, none⟩ y0).heap[b]? = some (.cells #[y0, x1, x2, x3] t (0, 0)) := (Joins.block_setCell h _).trans rfl
  have h1 : ((w.setCell ⟨b, 0, none⟩ y0).setCell ⟨b, 1, none⟩ y1).heap[b]? = some (.cells #[y0, y1, x2, x3] t (0, 0)) := (Joins.block_setCell h0 _).trans rfl
  have h2 : (((w.setCell ⟨b, 0, none⟩ y0).setCell ⟨b, 1, none⟩ y1).setCell ⟨b, 2, none⟩ y2).heap[b]? = some (.cells #[y0, y1, y2, x3] t (0, 0)) := (Joins.block_setCell h1 _).trans rfl
  have h3 : ((((w.setCell ⟨b, 0, none⟩ y0).setCell ⟨b, 1, none⟩ y1).setCell ⟨b, 2, none⟩ y2).setCell ⟨b, 3, none⟩ y3).heap[b]? = some (.cells #[y0, y1, y2, y3] t (0, 0)) := (Joins.block_setCell h2 _).trans rfl
  exact h3
theorem set_4_kp {b : Nat} {w0 w : World} (hk : Kp w0 w) (hb : w0.heap.size ≤ b) (y0 y1 y2 y3 : Value) : Kp w0 ((((w.setCell ⟨b, 0, none⟩ y0).setCell ⟨b, 1, none⟩ y1).setCell ⟨b, 2, none⟩ y2).setCell ⟨b, 3, none⟩ y3) := by
  refine Below.setCell ?_ hb _
  refine Below.setCell ?_ hb _
  refine Below.setCell ?_ hb _
  refine Below.setCell ?_ hb _
  exact hk
theorem cells_5 {b : Nat} {t : TypeId} {w : World} {x0 x1 x2 x3 x4 : Value} (h : w.heap[b]? = some (.cells #[x0, x1, x2, x3, x4] t (0, 0))) : w.cell? ⟨b, 0, none⟩ = some x0 ∧ w.cell? ⟨b, 1, none⟩ = some x1 ∧ w.cell? ⟨b, 2, none⟩ = some x2 ∧ w.cell? ⟨b, 3, none⟩ = some x3 ∧ w.cell? ⟨b, 4, none⟩ = some x4 := by
  refine ⟨?_, ?_, ?_, ?_, ?_⟩ <;> (unfold World.cell?; dsimp only; rw [h]; rfl)
theorem cells_8 {b : Nat} {t : TypeId} {w : World} {x0 x1 x2 x3 x4 x5 x6 x7 : Value} (h : w.heap[b]? = some (.cells #[x0, x1, x2, x3, x4, x5, x6, x7] t (0, 0))) : w.cell? ⟨b, 0, none⟩ = some x0 ∧ w.cell? ⟨b, 1, none⟩ = some x1 ∧ w.cell? ⟨b, 2, none⟩ = some x2 ∧ w.cell? ⟨b, 3, none⟩ = some x3 ∧ w.cell? ⟨b, 4, none⟩ = some x4 ∧ w.cell? ⟨b, 5, none⟩ = some x5 ∧ w.cell? ⟨b, 6, none⟩ = some x6 ∧ w.cell? ⟨b, 7, none⟩ = some x7 := by
  refine ⟨?_, ?_, ?_, ?_, ?_, ?_, ?_, ?_⟩ <;> (unfold World.cell?; dsimp only; rw [h]; rfl)
theorem set_8 {b : Nat} {t : TypeId} {w : World} {x0 x1 x2 x3 x4 x5 x6 x7 : Value} (y0 y1 y2 y3 y4 y5 y6 y7 : Value) (h : w.heap[b]? = some (.cells #[x0, x1, x2, x3, x4, x5, x6, x7] t (0, 0))) : ((((((((w.setCell ⟨b, 0, none⟩ y0).setCell ⟨b, 1, none⟩ y1).setCell ⟨b, 2, none⟩ y2).setCell ⟨b, 3, none⟩ y3).setCell ⟨b, 4, none⟩ y4).setCell ⟨b, 5, none⟩ y5).setCell ⟨b, 6, none⟩ y6).setCell ⟨b, 7, none⟩ y7).heap[b]? = some (.cells #[y0, y1, y2, y3, y4, y5, y6, y7] t (0, 0)) := by
  have h0 : (w.setCell ⟨b, 0, none⟩ y0).heap[b]? = some (.cells #[y0, x1, x2, x3, x4, x5, x6, x7] t (0, 0)) := (Joins.block_setCell h _).trans rfl
  have h1 : ((w.setCell ⟨b, 0, none⟩ y0).setCell ⟨b, 1, none⟩ y1).heap[b]? = some (.cells #[y0, y1, x2, x3, x4, x5, x6, x7] t (0, 0)) := (Joins.block_setCell h0 _).trans rfl
  have h2 : (((w.setCell ⟨b, 0, none⟩ y0).setCell ⟨b, 1, none⟩ y1).setCell ⟨b, 2, none⟩ y2).heap[b]? = some (.cells #[y0, y1, y2, x3, x4, x5, x6, x7] t (0, 0)) := (Joins.block_setCell h1 _).trans rfl
  have h3 : ((((w.setCell ⟨b, 0, none⟩ y0).setCell ⟨b, 1, none⟩ y1).setCell ⟨b, 2, none⟩ y2).setCell ⟨b, 3, none⟩ y3).heap[b]? = some (.cells #[y0, y1, y2, y3, x4, x5, x6, x7] t (0, 0)) := (Joins.block_setCell h2 _).trans rfl
  have h4 : (((((w.setCell ⟨b, 0, none⟩ y0).setCell ⟨b, 1, none⟩ y1).setCell ⟨b, 2, none⟩ y2).setCell ⟨b, 3, none⟩ y3).setCell ⟨b, 4, none⟩ y4).heap[b]? = some (.cells #[y0, y1, y2, y3, y4, x5, x6, x7] t (0, 0)) := (Joins.block_setCell h3 _).trans rfl
  have h5 : ((((((w.setCell ⟨b, 0, none⟩ y0).setCell ⟨b, 1, none⟩ y1).setCell ⟨b, 2, none⟩ y2).setCell ⟨b, 3, none⟩ y3).setCell ⟨b, 4, none⟩ y4).setCell ⟨b, 5, none⟩ y5).heap[b]? = some (.cells #[y0, y1, y2, y3, y4, y5, x6, x7] t (0, 0)) := (Joins.block_setCell h4 _).trans rfl
  have h6 : (((((((w.setCell ⟨b, 0, none⟩ y0).setCell ⟨b, 1, none⟩ y1).setCell ⟨b, 2, none⟩ y2).setCell ⟨b, 3, none⟩ y3).setCell ⟨b, 4, none⟩ y4).setCell ⟨b, 5, none⟩ y5).setCell ⟨b, 6, none⟩ y6).heap[b]? = some (.cells #[y0, y1, y2, y3, y4, y5, y6, x7] t (0, 0)) := (Joins.block_setCell h5 _).trans rfl
  have h7 : ((((((((w.setCell ⟨b, 0, none⟩ y0).setCell ⟨b, 1, none⟩ y1).setCell ⟨b, 2, none⟩ y2).setCell ⟨b, 3, none⟩ y3).setCell ⟨b, 4, none⟩ y4).setCell ⟨b, 5, none⟩ y5).setCell ⟨b, 6, none⟩ y6).setCell ⟨b, 7, none⟩ y7).heap[b]? = some (.cells #[y0, y1, y2, y3, y4, y5, y6, y7] t (0, 0)) := (Joins.block_setCell h6 _).trans rfl
  exact h7
theorem set_8_kp {b : Nat} {w0 w : World} (hk : Kp w0 w) (hb : w0.heap.size ≤ b) (y0 y1 y2 y3 y4 y5 y6 y7 : Value) : Kp w0 ((((((((w.setCell ⟨b, 0, none⟩ y0).setCell ⟨b, 1, none⟩ y1).setCell ⟨b, 2, none⟩ y2).setCell ⟨b, 3, none⟩ y3).setCell ⟨b, 4, none⟩ y4).setCell ⟨b, 5, none⟩ y5).setCell ⟨b, 6, none⟩ y6).setCell ⟨b, 7, none⟩ y7) := by
  refine Below.setCell ?_ hb _
  refine Below.setCell ?_ hb _
  refine Below.setCell ?_ hb _
  refine Below.setCell ?_ hb _
  refine Below.setCell ?_ hb _
  refine Below.setCell ?_ hb _
  refine Below.setCell ?_ hb _
  refine Below.setCell ?_ hb _
  exact hk
theorem frozN {b : Nat} {t : TypeId} {w : World} {cs : Array Value} (h : w.heap[b]? = some (.cells cs t (0, 0))) (i : Nat) : w.frozen? ⟨b, i, none⟩ = false := by
  unfold World.frozen?
  dsimp only
  rw [h]
  simp
theorem kp_drewM {a b : World} (h : Kp a b) : Kp a b.drew := ⟨h.os, h.tape, h.output, h.size, h.block⟩
theorem drew_heapM (w : World) : w.drew.heap = w.heap := rfl
set_option maxHeartbeats 2000000 in
set_option maxRecDepth 100000 in
theorem refSeatRt_any (z : SeatM) (w : World) : Calls Tryz.prog 78 #[.agg (seatV z)] w fun r w' => r = .returned (.bool z.right) ∧ Kp w w' := by
  obtain ⟨p, e, s, h⟩ := z
  dsimp only [seatV]
  have KB := Lib.hid (kp_alloc w (.cells #[.int .i64 p, .int .i64 e, .int .i64 s, .int .i64 h] 90))
  have HR := Lib.hid (MapKept.heap_alloc w (.cells #[.int .i64 p, .int .i64 e, .int .i64 s, .int .i64 h] 90)).1
  obtain ⟨g0, g1, g2, g3⟩ := cells_4 HR.out
  cases hr : rightT p e with
  | false =>
    rw [show SeatM.right ⟨p, e, s, h⟩ = false by simp [SeatM.right, hr]]
    have hn := of_decide_eq_false hr
    by_cases h1 : p < 1
    · clear hn hr; (go_enter Tryz.func78, Tryz.ntmps78; go_wp2; go_ret; exact ⟨rfl, KB.out⟩)
    by_cases h2 : p > 2
    · clear hn hr; (go_enter Tryz.func78, Tryz.ntmps78; go_wp2; go_ret; exact ⟨rfl, KB.out⟩)
    by_cases h3 : e < 1
    · clear hn hr; (go_enter Tryz.func78, Tryz.ntmps78; go_wp2; go_ret; exact ⟨rfl, KB.out⟩)
    by_cases h4 : e > 2
    · clear hn hr; (go_enter Tryz.func78, Tryz.ntmps78; go_wp2; go_ret; exact ⟨rfl, KB.out⟩)
    · exact absurd ⟨by omega, by omega⟩ hn
  | true =>
    have hh := fun w => refHas_any p e s w
    cases hs : hasT p e s with
    | false =>
      rw [hs] at hh
      have HH := Lib.hid hh
      rw [show SeatM.right ⟨p, e, s, h⟩ = false by simp [SeatM.right, hr, hs]]
      obtain ⟨hp, he⟩ := of_decide_eq_true hr
      clear hr hs hh
      rcases hp with rfl | rfl <;> rcases he with rfl | rfl <;> (go_enter Tryz.func78, Tryz.ntmps78; go_wp2_with (go_at_call 122; (with_reducible refine (HH.out _).mono ?_); rintro e' w' ⟨rfl, rfl⟩); go_ret; exact ⟨rfl, KB.out⟩)
    | true =>
      rw [hs] at hh
      have HH := Lib.hid hh
      have hp := (of_decide_eq_true hr).1
      have he := (of_decide_eq_true hr).2
      by_cases h14 : s = 14
      · subst h14
        rw [show SeatM.right ⟨p, e, 14, h⟩ = decide (h = 1 ∨ (4 ≤ h ∧ h ≤ 8)) by simp [SeatM.right, hr, hs]]
        clear hr hs hh
        by_cases h1 : h = 1
        · subst h1
          rcases hp with rfl | rfl <;> rcases he with rfl | rfl <;> (go_enter Tryz.func78, Tryz.ntmps78; go_wp2_with (go_at_call 122; (with_reducible refine (HH.out _).mono ?_); rintro e' w' ⟨rfl, rfl⟩); go_ret; exact ⟨rfl, KB.out⟩)
        · have b1 : (h == 1) = false := by simpa using h1
          by_cases h4 : 4 ≤ h
          · by_cases h8 : h ≤ 8
            · rw [decide_eq_true (Or.inr (And.intro h4 h8))]
              have q4 : decide (h ≥ 4) = true := decide_eq_true h4
              have q8 : decide (h ≤ 8) = true := decide_eq_true h8
              rcases hp with rfl | rfl <;> rcases he with rfl | rfl <;> (go_enter Tryz.func78, Tryz.ntmps78; go_wp2_with (go_at_call 122; (with_reducible refine (HH.out _).mono ?_); rintro e' w' ⟨rfl, rfl⟩); go_ret; exact ⟨rfl, KB.out⟩)
            · rw [decide_eq_false (by omega)]
              have q4 : decide (h ≥ 4) = true := decide_eq_true h4
              have q8 : decide (h ≤ 8) = false := decide_eq_false h8
              rcases hp with rfl | rfl <;> rcases he with rfl | rfl <;> (go_enter Tryz.func78, Tryz.ntmps78; go_wp2_with (go_at_call 122; (with_reducible refine (HH.out _).mono ?_); rintro e' w' ⟨rfl, rfl⟩); go_ret; exact ⟨rfl, KB.out⟩)
          · rw [decide_eq_false (by omega)]
            have q4 : decide (h ≥ 4) = false := decide_eq_false h4
            rcases hp with rfl | rfl <;> rcases he with rfl | rfl <;> (go_enter Tryz.func78, Tryz.ntmps78; go_wp2_with (go_at_call 122; (with_reducible refine (HH.out _).mono ?_); rintro e' w' ⟨rfl, rfl⟩); go_ret; exact ⟨rfl, KB.out⟩)
      · rw [show SeatM.right ⟨p, e, s, h⟩ = (h == 0) by simp [SeatM.right, hr, hs, h14]; rw [Bool.eq_iff_iff]; simp]
        have b14 : (s == 14) = false := by simpa using h14
        clear hr hs hh
        rcases hp with rfl | rfl <;> rcases he with rfl | rfl <;> (go_enter Tryz.func78, Tryz.ntmps78; go_wp2_with (go_at_call 122; (with_reducible refine (HH.out _).mono ?_); rintro e' w' ⟨rfl, rfl⟩); go_ret; exact ⟨rfl, KB.out⟩)
end Go.Proofs.YtpemeenfhkgmpaaGreatDoor
