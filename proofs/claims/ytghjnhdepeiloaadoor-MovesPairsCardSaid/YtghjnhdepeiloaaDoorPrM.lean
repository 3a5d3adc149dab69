/-
  PARTS OF THIS PROOF (own work): RpA, RpB, RpC, RpD, RpE.
-/
import Derived.Test.YtghjnhdepeiloaaDoorFlyA
import Derived.Test.YtghjnhdepeiloaaDoorMvC
import Derived.Test.YtghjnhdepeiloaaDoorAsdW
import Derived.Lib.SliceRun
import Derived.Lib.Hide
import Derived.Deep.RegionHeld3
import Derived.Lib.SmallJoins
import Derived.Test.YtghjnhdepeiloaaDoorMpD
import Derived.Test.YtghjnhdepeiloaaDoorMpX

namespace Go.Proofs.YtghjnhdepeiloaaDoor
open Go.RowKit Go.ChangeShapes Go.WideShapes

theorem info_flyR0 : (Tryd.prog.info? 57).map (fun i => (i.zero, i.size, i.bytes)) = some (some (.agg #[.int .i64 0, .int .i64 0]), 2, 16) := by kernel_rfl
theorem info_flyR : ∃ i0, Tryd.prog.info? 57 = some i0 ∧ i0.zero = some (.agg #[.int .i64 0, .int .i64 0]) ∧ i0.size = 2 ∧ i0.bytes = 16 := by
  have h := info_flyR0
  cases g : Tryd.prog.info? 57 with
  | none => rw [g] at h; cases h
  | some i0 =>
    rw [g] at h
    simp only [Option.map_some, Option.some.injEq, Prod.mk.injEq] at h
    exact ⟨i0, rfl, h.1, h.2.1, h.2.2⟩
theorem own_baseR {w : World} {base base' n : Nat} {e : TypeId} {v : Value} {us : List Value} (h : w.ownsRow base e 2 v n us) (hb : base' ≤ base) : w.ownsRow base' e 2 v n us := by
  refine ⟨h.1, ?_⟩
  rcases h.2 with q | ⟨g', cap, cur, ee, hg, r⟩
  · exact Or.inl q
  · exact Or.inr ⟨g', cap, cur, ee, Nat.le_trans hb hg, r⟩
theorem grown_anyR {w w' : World} {r : Option Nat} (h : w.grownBy w' none) : w.grownBy w' r := ⟨h.os, h.tape, h.output, h.size, fun k hk _ => h.block k hk (by simp)⟩
set_option maxRecDepth 20000 in
theorem wpList_append_flr (w : World) {ops : Array Oper} {rest : List Oper} {o : Oper} {a : Act} {Q : Exit → Act → World → Prop} (hgd : o.guard = none) (s x : Operand)
    (ho : o.op = .call { callee := .builtin .append, args := #[s, x], argTypes := #[51, 51] })
    (base : Nat) (v : Value) (n : Nat) (xs : List Value) (hs : a.eval s = v) (hown : w.ownsRow base 57 2 v n xs)
    (u : Value) (f : List (Int × Int)) (hx : a.eval x = u) (hb : PartF u f w) (h63 : n + f.length ≤ 1000000) (hbase : base ≤ w.heap.size)
    (h : ∀ v' w', w'.ownsRow base 57 2 v' (n + f.length) (xs ++ flyB f) → w.grownBy w' v.ownBlock → (∀ b, v'.ownBlock = some b → v.ownBlock = some b ∨ w.heap.size ≤ b) → wpList Tryd.prog ops Q rest (a.put o.dst v') w') : wpList Tryd.prog ops Q (o :: rest) a w := by
  obtain ⟨i0, hi, hz0, hz1, hz2⟩ := info_flyR
  obtain ⟨ao, cap, rfl, hno, hc⟩ := hb
  cases ao with
  | none =>
    obtain ⟨h1, rfl⟩ := hno rfl
    have hf : f = [] := List.length_eq_zero_iff.1 h1
    subst hf
    exact wpList_append_own_none hgd s x 51 ho base 57 i0 2 Tryd.underlying51 hi v n xs hs hown hx (h v w (by simpa [flyB] using hown) ⟨rfl, rfl, rfl, Nat.le_refl _, fun _ _ _ => rfl⟩ (fun b q => .inl q))
  | some ad =>
    rcases hown.2 with ⟨rfl, rfl⟩ | ⟨g, cap2, cur, rfl, hg, hh, hnc, hcm, hcs, htk⟩
    · have hxs : xs = [] := List.length_eq_zero_iff.1 (by simpa using hown.1)
      subst hxs
      refine wpList_append_own w hgd s x 51 ho w.heap.size 57 i0 (.agg #[.int .i64 0, .int .i64 0]) 2 16 Tryd.underlying51 hi hz0 hz1 hz2 rfl (by decide) (.slice none 0 0) 0 [] hs (World.ownsRow_nil w _ _ _) ad f.length cap (flyB f) hx (flyB_len f) (hc ad rfl) (flyB_one f) (by unfold maxLen; omega) (by omega) (Nat.le_refl _) ?_
      intro v' w' h1 h2 _
      exact h v' w' (own_baseR h1 hbase) h2 (fun b q => .inr (h1.lt b q).1)
    · by_cases hfit : n + f.length ≤ cap2
      · refine wpList_append_fits w hgd s x 51 ho base 57 i0 2 Tryd.underlying51 hi hz1 g n cap2 xs hs hown ad f.length cap (flyB f) hx (flyB_len f) (hc ad rfl) (flyB_one f) hfit ?_
        intro w' h1 h2
        exact h _ w' h1 h2 (fun b q => .inl q)
      · have holds : ∀ b, (some ⟨g, 0, none⟩ : Option Addr) = some b → ∀ j u, xs[j]? = some u → w.cell? (b.add j) = some u := by
          intro b e j u hj
          injection e with e
          subst e
          exact hown.cells rfl j u hj
        refine wpList_append_grows w hgd s x 51 ho 57 i0 (.agg #[.int .i64 0, .int .i64 0]) 2 16 Tryd.underlying51 hi hz0 hz1 hz2 rfl (by decide) (some ⟨g, 0, none⟩) n cap2 xs hs (fun e => by cases e) hown.1 holds ad f.length cap (flyB f) hx (flyB_len f) (hc ad rfl) (flyB_one f) (by omega) (by unfold maxLen; omega) (by omega) ?_
        intro v' w' h1 h2
        exact h v' w' (own_baseR h1 hbase) (grown_anyR h2) (fun b q => .inr (h1.lt b q).1)
/-- THE DOCUMENT's PAIR: its block, its seats' block, its flight -/
structure Rp (w0 : World) (gm sb : Nat) (m : PairM) (v : Value) (w : World) : Prop where
  row : w.heap[gm]? = some (.cells #[.slice (some ⟨sb, 0, none⟩) 2 2, v] 53 (0, 0))
  seats : w.heap[sb]? = some (.cells #[.int .i64 m.c.p, .int .i64 m.c.e, .int .i64 m.c.s, .int .i64 m.c.h, .int .i64 m.x.p, .int .i64 m.x.e, .int .i64 m.x.s, .int .i64 m.x.h] 25 (0, 0))
  bg : w0.heap.size ≤ gm
  bs : w0.heap.size ≤ sb
  own : w.ownsRow w0.heap.size 57 2 v m.f.length (flyB m.f)
def Orf (gm sb : Nat) (v : Value) (b : Nat) : Prop := b = gm ∨ b = sb ∨ v.ownBlock = some b
variable {w0 w w' W w3 : World} {gm sb : Nat} {m : PairM} {v v' : Value}
theorem cells_2R {b : Nat} {t : TypeId} {w : World} {x0 x1 : Value} (h : w.heap[b]? = some (.cells #[x0, x1] t (0, 0))) : w.cell? ⟨b, 0, none⟩ = some x0 ∧ w.cell? ⟨b, 1, none⟩ = some x1 := by
  refine ⟨?_, ?_⟩ <;> (unfold World.cell?; dsimp only; rw [h]; rfl)
theorem Rp.ne (h : Rp w0 gm sb m v w) : gm ≠ sb ∧ v.ownBlock ≠ some gm ∧ v.ownBlock ≠ some sb := by
  refine ⟨fun q => ?_, fun q => ?_, fun q => ?_⟩
  · have h1 := h.row
    rw [q, h.seats] at h1
    injection h1 with h1
    injection h1 with _ h2 _
    exact absurd h2 (by decide)
  · rcases h.own.2 with ⟨rfl, _⟩ | ⟨g', cap, cur, rfl, _, hh, _⟩
    · cases q
    · injection q with q
      have q : g' = gm := q
      subst q
      have h1 := h.row
      rw [hh] at h1
      injection h1 with h1
      injection h1 with _ h2 _
      exact absurd h2 (by decide)
  · rcases h.own.2 with ⟨rfl, _⟩ | ⟨g', cap, cur, rfl, _, hh, _⟩
    · cases q
    · injection q with q
      have q : g' = sb := q
      subst q
      have h1 := h.seats
      rw [hh] at h1
      injection h1 with h1
      injection h1 with _ h2 _
      exact absurd h2 (by decide)
theorem Rp.mem (h : Rp w0 gm sb m v w) : ∀ b, Orf gm sb v b → w0.heap.size ≤ b ∧ b < w.heap.size := by
  rintro b (rfl | rfl | q)
  · exact ⟨h.bg, old_of_row h.row⟩
  · exact ⟨h.bs, old_of_row h.seats⟩
  · exact h.own.lt b q
theorem Rp.stay (h : Rp w0 gm sb m v w) (hb : ∀ b, Orf gm sb v b → w'.heap[b]? = w.heap[b]?) : Rp w0 gm sb m v w' := by
  refine ⟨by rw [hb gm (.inl rfl)]; exact h.row, by rw [hb sb (.inr (.inl rfl))]; exact h.seats, h.bg, h.bs, h.own.1, ?_⟩
  rcases h.own.2 with q | ⟨g', cap, cur, e, hg, hh, r⟩
  · exact Or.inl q
  · exact Or.inr ⟨g', cap, cur, e, hg, by rw [hb g' (.inr (.inr (by rw [e]; rfl)))]; exact hh, r⟩
theorem Rp.kp (h : Rp w0 gm sb m v w) (hk : Kp w w') : Rp w0 gm sb m v w' := h.stay fun b hb => Below.block hk b (h.mem b hb).2
theorem Rp.form (h : Rp w0 gm sb m v w) : ∃ a cp, v = .slice a m.f.length cp := by
  rcases h.own.2 with ⟨rfl, h0⟩ | ⟨g', cap, cur, rfl, _⟩
  · exact ⟨none, 0, by rw [h0]⟩
  · exact ⟨_, _, rfl⟩
theorem own_formR {base n : Nat} {e : TypeId} {us : List Value} (h : w.ownsRow base e 2 v n us) : ∃ a cp, v = .slice a n cp := by
  rcases h.2 with ⟨rfl, h0⟩ | ⟨g', cap, cur, rfl, _⟩
  · exact ⟨none, 0, by rw [h0]⟩
  · exact ⟨_, _, rfl⟩
/-- THE FLIGHT REPLACED: by a row in its own block, or a new one -/
theorem Rp.fly (h : Rp w0 gm sb m v w) (hk : Kp w W) (hg : W.grownBy w3 v.ownBlock) {L : Nat} {f : List (Int × Int)} (hL : f.length = L) (ho : w3.ownsRow w0.heap.size 57 2 v' L (flyB f)) (hb : ∀ b, v'.ownBlock = some b → v.ownBlock = some b ∨ w.heap.size ≤ b) :
    Rp w0 gm sb ⟨m.c, m.x, f⟩ v' (w3.setCell ⟨gm, 1, none⟩ v') ∧ Asd (Orf gm sb v) (Orf gm sb v') w (w3.setCell ⟨gm, 1, none⟩ v') := by
  subst hL
  obtain ⟨n1, n2, n3⟩ := h.ne
  have lg := old_of_row h.row
  have ls := old_of_row h.seats
  have hs := Below.size hk
  have r1 : w3.heap[gm]? = some (.cells #[.slice (some ⟨sb, 0, none⟩) 2 2, v] 53 (0, 0)) := by rw [hg.block gm (by omega) (fun q => n2 q.symm)]; exact kp_row hk h.row
  have r2 : w3.heap[sb]? = some (.cells #[.int .i64 m.c.p, .int .i64 m.c.e, .int .i64 m.c.s, .int .i64 m.c.h, .int .i64 m.x.p, .int .i64 m.x.e, .int .i64 m.x.s, .int .i64 m.x.h] 25 (0, 0)) := by rw [hg.block sb (by omega) (fun q => n3 q.symm)]; exact kp_row hk h.seats
  have n4 : v'.ownBlock ≠ some gm := fun q => (hb gm q).elim n2 (fun q => by omega)
  have r3 : (w3.setCell ⟨gm, 1, none⟩ v').ownsRow w0.heap.size 57 2 v' f.length (flyB f) := by
    refine ⟨ho.1, ?_⟩
    rcases ho.2 with q | ⟨g', cap, cur, ee, hg', hh, r⟩
    · exact Or.inl q
    · refine Or.inr ⟨g', cap, cur, ee, hg', ?_, r⟩
      rw [Below.heap_setCell _ _ _ _ (fun q => n4 (by have q : g' = gm := q; rw [ee, q]; rfl))]
      exact hh
  refine ⟨⟨(Joins.block_setCell r1 _).trans rfl, by rw [Below.heap_setCell _ _ _ _ (fun q => n1 q.symm)]; exact r2, h.bg, h.bs, r3⟩, ?_⟩
  refine ⟨hg.os.trans hk.os, hg.tape.trans hk.tape, hg.output.trans hk.output, by simpa using Nat.le_trans hs hg.size, fun b hb2 hn => ?_, fun b q => ?_⟩
  · rw [Below.heap_setCell _ _ _ _ (fun e => hn (.inl e)), hg.block b (Nat.lt_of_lt_of_le hb2 hs) (fun q => hn (.inr (.inr q.symm)))]
    exact Below.block hk b hb2
  · rcases q with rfl | rfl | q
    · exact .inl (.inl rfl)
    · exact .inl (.inr (.inl rfl))
    · exact (hb b q).imp (fun q => .inr (.inr q)) id
set_option maxRecDepth 100000 in
theorem rpNew_any (p : Int) (hw0 : w0.heap.size ≤ w.heap.size) : Calls Tryd.prog 22 #[.int .i64 p] w fun r w' => ∃ gm sb, r = .returned (.pointer (some ⟨gm, 0, none⟩)) ∧ Rp w0 gm sb (PairM.new p) (.slice none 0 0) w' ∧ (∀ b, Orf gm sb (.slice none 0 0) b → w.heap.size ≤ b) ∧ Kp w w' := by
  have k1 := kp_alloc w (.cells #[.int .i64 p, .int .i64 1, .int .i64 1, .int .i64 0, .int .i64 p, .int .i64 2, .int .i64 1, .int .i64 0] 25)
  have k2 := kp_alloc (w.alloc (.cells #[.int .i64 p, .int .i64 1, .int .i64 1, .int .i64 0, .int .i64 p, .int .i64 2, .int .i64 1, .int .i64 0] 25)) (.cells #[.slice (some ⟨w.heap.size, 0, none⟩) 2 2, .slice none 0 0] 53)
  have s1 : (w.alloc (.cells #[.int .i64 p, .int .i64 1, .int .i64 1, .int .i64 0, .int .i64 p, .int .i64 2, .int .i64 1, .int .i64 0] 25)).heap.size = w.heap.size + 1 := by simp
  have r1 := kp_row k2 (MapKept.heap_alloc w (.cells #[.int .i64 p, .int .i64 1, .int .i64 1, .int .i64 0, .int .i64 p, .int .i64 2, .int .i64 1, .int .i64 0] 25)).1
  have r2 := (MapKept.heap_alloc (w.alloc (.cells #[.int .i64 p, .int .i64 1, .int .i64 1, .int .i64 0, .int .i64 p, .int .i64 2, .int .i64 1, .int .i64 0] 25)) (.cells #[.slice (some ⟨w.heap.size, 0, none⟩) 2 2, .slice none 0 0] 53)).1
  rw [s1] at r2
  have K2 := Lib.hid (Kp.trans k1 k2)
  have RR := Lib.hid (show Rp w0 (w.heap.size + 1) w.heap.size (PairM.new p) (.slice none 0 0) ((w.alloc (.cells #[.int .i64 p, .int .i64 1, .int .i64 1, .int .i64 0, .int .i64 p, .int .i64 2, .int .i64 1, .int .i64 0] 25)).alloc (.cells #[.slice (some ⟨w.heap.size, 0, none⟩) 2 2, .slice none 0 0] 53)) from ⟨r2, r1, by omega, hw0, World.ownsRow_nil _ _ _ _⟩)
  clear k1 k2 s1 r1 r2 hw0
  go_enter Tryd.func22, Tryd.ntmps22
  go_wp2
  go_ret
  refine ⟨_, _, rfl, RR.out, ?_, K2.out⟩
  rintro b (rfl | rfl | q)
  · exact Nat.le_succ _
  · exact Nat.le_refl _
  · cases q
set_option maxRecDepth 100000 in
theorem rpPut_no (e : Int) : Calls Tryd.prog 72 #[.pointer (some ⟨gm, 0, none⟩), .int .i64 e, .int .i64 0] w fun r w' => r = .returned (.tuple #[]) ∧ w = w' := by
  go_enter Tryd.func72, Tryd.ntmps72
  go_wp2
  go_end0
  exact ⟨rfl, rfl⟩
set_option maxRecDepth 100000 in
set_option maxHeartbeats 1000000 in
theorem rpPut_go (H : Rp w0 gm sb m v w) (e k : Int) (he : e = 1 ∨ e = 2) (hk0 : (k == 0) = false) (hl : m.f.length ≤ 100) : Calls Tryd.prog 72 #[.pointer (some ⟨gm, 0, none⟩), .int .i64 e, .int .i64 k] w fun r w' => r = .returned (.tuple #[]) ∧ ∃ v', Rp w0 gm sb ⟨m.c, m.x, m.f ++ [(3 - e, k)]⟩ v' w' ∧ Asd (Orf gm sb v) (Orf gm sb v') w w' := by
  obtain ⟨a, cp, rfl⟩ := H.form
  obtain ⟨n, hn⟩ : ∃ n, m.f.length = n := ⟨_, rfl⟩
  have hr := H.row
  rw [hn] at hl hr H ⊢
  obtain ⟨-, e1⟩ := cells_2R hr
  obtain ⟨y, hy⟩ : ∃ y : Int, 3 - e = y := ⟨_, rfl⟩
  rw [hy]
  obtain ⟨W, hW⟩ : ∃ W, w.alloc (.cells #[.int .i64 y, .int .i64 k] 57) = W := ⟨_, rfl⟩
  have KW := Lib.hid (show Kp w W from hW ▸ kp_alloc w (.cells #[.int .i64 y, .int .i64 k] 57))
  have rb := (MapKept.heap_alloc w (.cells #[.int .i64 y, .int .i64 k] 57)).1
  rw [hW] at rb
  have p2 : PartF (.slice (some ⟨w.heap.size, 0, none⟩) 1 1) [(y, k)] W := by
    refine ⟨_, _, rfl, fun q => (by cases q), fun ad q j u hj => ?_⟩
    injection q with q
    subst q
    rw [Addr.add_lit]
    match j, hj with
    | 0, hj => simp [flyB] at hj; subst hj; unfold World.cell?; dsimp only; rw [rb]; rfl
    | 1, hj => simp [flyB] at hj; subst hj; unfold World.cell?; dsimp only; rw [rb]; rfl
    | j + 2, hj => simp [flyB] at hj
  have P2 := Lib.hid p2
  have HH := Lib.hid H
  have OO := Lib.hid ((H.kp KW.out).own)
  have HN := Lib.hid hn
  have HW := Lib.hid hW
  have HL := Lib.hid hl
  have le1 : -10 ≤ e := by omega
  have le2 : e ≤ 10 := by omega
  clear p2 rb H hr hn hW he hl
  go_enter Tryd.func72, Tryd.ntmps72
  go_wp2_with (at_builtin; rw [HW.out]; refine wpList_append_flr _ rfl (.tmp 12) (.tmp 17) rfl w0.heap.size _ _ _ rfl OO.out _ [(y, k)] rfl P2.out ?f1 ?f2 ?_)
  case f1 => have := HN.out; have := HL.out; simp; omega
  case f2 => have := HH.out.bg; have := old_of_row HH.out.row; have := Below.size KW.out; omega
  rintro v3 w3 ho hg hb
  obtain ⟨a3, c3, rfl⟩ := own_formR ho
  have RF := Lib.hid (HH.out.fly KW.out hg (f := m.f ++ [(y, k)]) (by rw [List.length_append]) (by rw [flyB_app]; exact ho) (fun b q => (hb b q).imp id (fun q => Nat.le_trans (Below.size KW.out) q)))
  have r3 := hg.block gm (Nat.lt_of_lt_of_le (old_of_row HH.out.row) (Below.size KW.out)) (fun q => HH.out.ne.2.1 q.symm)
  have r4 := r3.trans (kp_row KW.out HH.out.row)
  obtain ⟨x0, x1⟩ := cells_2R r4
  have fz := frozN r4
  clear ho hg hb r3 r4
  go_wp2
  go_end0
  exact ⟨rfl, _, RF.out.1, RF.out.2⟩
theorem rpPut_any (H : Rp w0 gm sb m v w) (e k : Int) (he : e = 1 ∨ e = 2) (hl : m.f.length ≤ 100) : Calls Tryd.prog 72 #[.pointer (some ⟨gm, 0, none⟩), .int .i64 e, .int .i64 k] w fun r w' => r = .returned (.tuple #[]) ∧ ∃ v', Rp w0 gm sb ⟨m.c, m.x, putF m.f e k⟩ v' w' ∧ Asd (Orf gm sb v) (Orf gm sb v') w w' := by
  unfold putF
  by_cases h0 : k = 0
  · subst h0
    rw [if_pos rfl]
    exact (rpPut_no e).mono fun r w' ⟨q1, q2⟩ => ⟨q1, v, q2 ▸ H, q2 ▸ Asd.refl _ _⟩
  · rw [if_neg h0]
    exact rpPut_go H e k he (by simpa using h0) hl
end Go.Proofs.YtghjnhdepeiloaaDoor

namespace Go.Proofs.YtghjnhdepeiloaaDoor
open Go.RowKit Go.ChangeShapes Go.WideShapes

/-- an operation that may come up, as a list of its own -/
theorem wpOp_of_listR {P : Program} {ops : Array Oper} {Q : Exit → Act → World → Prop} {K : Act → World → Prop} {i : Nat} {o : Oper} {a : Act} {w : World} (h0 : ops[i]? = some o) (h : wpList P ops (Exit.then K Q) [o] a w) : wpOp P ops Q i K a w := by
  unfold wpOp
  simp only [h0]
  exact h
theorem AllReadyH.consLR {P : Program} {md : Region.Mode} {ops : Array Oper} {Q : Exit → Act → World → Prop} {S : World → Prop} {fuel : Nat} {listed : Array Bool} {a : Act} {w : World} {i : Nat} {o : Oper} {rs : List Nat} (ho : ops[i]? = some o)
    (h : ∀ K' : Act → World → Prop, Shut (∀ a w, S w → (S w → wpAnyH P md ops Q S fuel (listed.setIfInBounds i true) a w) → K' a w) → wpList P ops (Exit.then K' Q) [o] a w)
    (hs : AllReadyH P md ops Q S fuel listed a w rs) : AllReadyH P md ops Q S fuel listed a w (i :: rs) := fun j hj => by
  rcases List.mem_cons.1 hj with rfl | hj
  · exact wpOp_of_listR ho (h _ (fun a w h1 h2 => ⟨h1, h2 h1⟩))
  · exact hs j hj
theorem flyR_sz : ∀ w, (Go.sizeOf 57).run Tryd.prog w = .ok 2 w := by
  obtain ⟨i0, hi, -, hz1, -⟩ := info_flyR
  intro w
  simp [sizeOf, typeInfo, hi, hz1]
theorem flyR_elem : Tryd.prog.elem 51 = 57 := by simp [Program.elem, Tryd.underlying51]
theorem flyR_sl : Tryd.prog.underlying 51 = some (.slice (Tryd.prog.elem 51)) := by simp [Program.elem, Tryd.underlying51]
theorem flyR_head {b n cp i : Nat} {ii : Int} (hii : (i : Int) = ii) (hi : i ≤ n) (hnc : n ≤ cp) (w : World) :
    (Instr.slice 51 (.slice (some ⟨b, 0, none⟩) n cp) none (some (.int .i64 ii)) none).run Tryd.prog w = .ok (.slice (some ⟨b, 0, none⟩) i cp) w := by
  rw [run_slice_h w 51 _ _ _ flyR_sl .i64 _ (by omega) (by omega), flyR_elem, flyR_sz]
  have e : ii.toNat = i := by omega
  simp [Result.andThen, sliced, Addr.add, e]
theorem flyR_tail {b n cp i : Nat} {ii : Int} (hii : (i : Int) = ii) (hi : i ≤ n) (w : World) :
    (Instr.slice 51 (.slice (some ⟨b, 0, none⟩) n cp) (some (.int .i64 ii)) none none).run Tryd.prog w = .ok (.slice (some ⟨b, if cp = i then 0 else i * 2, none⟩) (n - i) (cp - i)) w := by
  rw [run_slice_l w 51 _ _ _ flyR_sl .i64 _ (by omega) (by omega), flyR_elem, flyR_sz]
  have e : ii.toNat = i := by omega
  simp [Result.andThen, sliced, Addr.add, e]
  split <;> simp <;> omega
variable {w0 w w' W w3 : World} {gm sb : Nat} {m : PairM} {v v' : Value}
set_option maxRecDepth 100000 in
set_option maxHeartbeats 4000000 in
theorem rpDrop_go (H : Rp w0 gm sb m v w) (hl : m.f.length ≤ 64) (i : Nat) (ii : Int) (hii : (i : Int) = ii) (hi : i < m.f.length) : Calls Tryd.prog 47 #[.pointer (some ⟨gm, 0, none⟩), .int .i64 ii] w fun r w' => r = .returned (.int .i64 0) ∧ ∃ v', Rp w0 gm sb ⟨m.c, m.x, m.f.take i ++ m.f.drop (i + 1)⟩ v' w' ∧ Asd (Orf gm sb v) (Orf gm sb v') w w' := by
  have hown := H.own
  obtain ⟨n, hn⟩ : ∃ n, m.f.length = n := ⟨_, rfl⟩
  rcases hown.2 with ⟨rfl, h0⟩ | ⟨bv, cp, cur, rfl, hb, hh, hnc, hcm, hcs, ht⟩
  · omega
  rw [hn] at hl hi H hnc ⊢
  have HS := Lib.hid H
  clear hown hb hh hcm hcs ht cur H
  have kD : Kp w (w).drew := kp_drewM (Kp.refl _)
  obtain ⟨wD, hwD⟩ : ∃ x, (w).drew = x := ⟨_, rfl⟩
  rw [hwD] at kD
  have RD := HS.out.kp kD
  have ownD := RD.own
  rw [show PairM.f _ = m.f from rfl, hn] at ownD
  obtain ⟨jj, hjj⟩ : ∃ jj : Int, ii + 1 = jj := ⟨_, rfl⟩
  have sh := fun w => flyR_head (b := bv) hii (Nat.le_of_lt hi) hnc w
  have st := fun w => flyR_tail (b := bv) (cp := cp) (i := i + 1) (ii := jj) (n := n) (by omega) (by omega) w
  obtain ⟨at2, hat⟩ : ∃ x : Nat, (if cp = i + 1 then 0 else (i + 1) * 2) = x := ⟨_, rfl⟩
  rw [hat] at st
  have p1 := own_takeF ownD (Nat.le_of_lt hi)
  have p2 := own_dropF ownD (i := i + 1) (by omega) ⟨bv, at2, none⟩ (fun q => by rw [← hat, if_neg (by omega)]) (cp - (i + 1))
  obtain ⟨q2, hq2⟩ : ∃ x, n - (i + 1) = x := ⟨_, rfl⟩
  obtain ⟨q3, hq3⟩ : ∃ x, cp - (i + 1) = x := ⟨_, rfl⟩
  rw [hq2, hq3] at st p2
  have hwj : IntKind.i64.wrap jj = jj := IntWalk.i64_in jj (by omega)
  have i0 : 0 ≤ ii := by omega
  have i1 : ii ≤ 1000 := by omega
  obtain ⟨-, e1D⟩ := cells_2R RD.row
  have kE := kp_alloc wD (.cells #[] 57)
  have e1E := kp_cell kE e1D
  have O1 := Lib.hid (show (wD.alloc (.cells #[] 57)).ownsRow wD.heap.size 57 2 (.slice (some ⟨wD.heap.size, 0, none⟩) 0 0) 0 [] from ⟨by simp, Or.inr ⟨wD.heap.size, 0, #[], rfl, Nat.le_refl _, (MapKept.heap_alloc wD _).1, Nat.le_refl _, by omega, by simp, by simp⟩⟩)
  have P1 := Lib.hid (p1.kp kE)
  have P2 := Lib.hid p2
  obtain ⟨wE, hwE⟩ : ∃ x, wD.alloc (.cells #[] 57) = x := ⟨_, rfl⟩
  obtain ⟨sE, hsE⟩ : ∃ x, wD.heap.size = x := ⟨_, rfl⟩
  rw [hwE] at kE e1E O1 P1
  rw [hsE] at O1
  have KE := Lib.hid (Kp.trans kD kE)
  have KDE := Lib.hid kE
  have SE := Lib.hid (show w.heap.size ≤ sE by rw [← hsE]; exact Below.size kD)
  have HWD := Lib.hid hwD
  have HWE := Lib.hid hwE
  have HSE := Lib.hid hsE
  have HN := Lib.hid hn
  have HQ2 := Lib.hid hq2
  have HI := Lib.hid (And.intro hi hl)
  have HTI := Lib.hid (show (m.f.take i).length = i by rw [List.length_take]; omega)
  obtain ⟨L2, hL2⟩ : ∃ L, i + (m.f.drop (i + 1)).length = L := ⟨_, rfl⟩
  have HL2 := Lib.hid hL2
  clear hL2 kD RD ownD hat p1 p2 hq2 hq3 kE hwD hwE hsE
  have g0 : decide (ii < 0) = false := decide_eq_false (by omega)
  have g1 : decide (ii ≥ (n : Int)) = false := decide_eq_false (by omega)
  have e1w := (cells_2R HS.out.row).2
  clear hi hl hn hnc
  go_enter Tryd.func47, Tryd.ntmps47
  go_wp2_with fail
  refine wp_region_held_drew (S := fun _ => True) (by kernel_rfl) ?_ (fun hHeld => ?_)
  · exact trivial
  rw [HWD.out]
  refine wpAnyH_take (i := 0) (v := ?_) rfl (by kernel_rfl) (by kernel_rfl) (by kernel_rfl) (fun _ _ _ h => h) (Or.inl ⟨by rfl, ?_⟩) (by assumption) ?_
  rotate_left
  · intro w hSw; go_simp; try with_reducible rfl
  go_simp
  refine wpAnyH_take (i := 2) (v := ?_) rfl (by kernel_rfl) (by kernel_rfl) (by kernel_rfl) (fun _ _ _ h => h) (Or.inl ⟨by rfl, ?_⟩) (by assumption) ?_
  rotate_left
  · intro w hSw; go_simp; try with_reducible rfl
  go_simp
  refine wpAnyH_take (i := 3) (v := ?_) rfl (by kernel_rfl) (by kernel_rfl) (by kernel_rfl) (fun _ _ _ h => h) (Or.inl ⟨by rfl, ?_⟩) (by assumption) ?_
  rotate_left
  · intro w hSw; go_simp; try with_reducible rfl
  go_simp
  refine wpAnyH_take (i := 4) (v := ?_) rfl (by kernel_rfl) (by kernel_rfl) (by kernel_rfl) (fun _ _ _ h => h) (Or.inl ⟨by rfl, ?_⟩) (by assumption) ?_
  rotate_left
  · intro w hSw; go_simp; try with_reducible rfl
  go_simp
  refine wpAnyH_take (i := 6) (v := ?_) rfl (by kernel_rfl) (by kernel_rfl) (by kernel_rfl) (fun _ _ _ h => h) (Or.inl ⟨by rfl, ?_⟩) (by assumption) ?_
  rotate_left
  · intro w hSw; go_simp; try with_reducible rfl
  go_simp
  refine wpAnyH_take (i := 9) (v := ?_) rfl (by kernel_rfl) (by kernel_rfl) (by kernel_rfl) (fun _ _ _ h => h) (Or.inl ⟨by rfl, ?_⟩) (by assumption) ?_
  rotate_left
  · intro w hSw; go_simp; try with_reducible rfl
  go_simp
  refine wpAnyH_take (i := 10) (v := ?_) rfl (by kernel_rfl) (by kernel_rfl) (by kernel_rfl) (fun _ _ _ h => h) (Or.inl ⟨by rfl, ?_⟩) (by assumption) ?_
  rotate_left
  · intro w hSw; go_simp; try with_reducible rfl
  go_simp
  refine wpAnyH_take (i := 11) (v := ?_) rfl (by kernel_rfl) (by kernel_rfl) (by kernel_rfl) (fun _ _ _ h => h) (Or.inl ⟨by rfl, ?_⟩) (by assumption) ?_
  rotate_left
  · intro w hSw; go_simp; try with_reducible rfl
  go_simp
  refine wpAnyH_take (i := 13) (v := ?_) rfl (by kernel_rfl) (by kernel_rfl) (by kernel_rfl) (fun _ _ _ h => h) (Or.inl ⟨by rfl, ?_⟩) (by assumption) ?_
  rotate_left
  · intro w hSw; go_simp; try with_reducible rfl
  go_simp
  refine wpAnyH_take (i := 14) (v := ?_) rfl (by kernel_rfl) (by kernel_rfl) (by kernel_rfl) (fun _ _ _ h => h) (Or.inl ⟨by rfl, ?_⟩) (by assumption) ?_
  rotate_left
  · intro w hSw; go_simp; try with_reducible rfl
  go_simp
  refine wpAnyH_ready (rs := [1, 5, 12]) (by kernel_rfl) (by simp) ?_
  refine AllReadyH.cons rfl (fun K hK => ?_) (AllReadyH.cons rfl (fun K hK => ?_) (AllReadyH.cons rfl (fun K hK => ?_) AllReadyH.nil))
  · go_simp
    try rw [HSE.out]
    try rw [HWE.out]
    refine hK.out _ _ trivial (fun hHeld => ?_)
    clear hK K
    refine wpAnyH_ready (rs := [5, 12]) (by kernel_rfl) (by simp) ?_
    refine AllReadyH.cons rfl (fun K hK => ?_) (AllReadyH.cons rfl (fun K hK => ?_) AllReadyH.nil)
    · go_simp
      refine hK.out _ _ trivial (fun hHeld => ?_)
      clear hK K
      refine wpAnyH_take (i := 7) (v := ?_) rfl (by kernel_rfl) (by kernel_rfl) (by kernel_rfl) (fun _ _ _ h => h) (Or.inl ⟨by rfl, ?_⟩) (by assumption) ?_
      rotate_left
      · intro w hSw; go_simp; try with_reducible rfl
      go_simp
      refine wpAnyH_ready (rs := [8, 12]) (by kernel_rfl) (by simp) ?_
      refine AllReadyH.consLR rfl (fun K hK => ?_) (AllReadyH.cons rfl (fun K hK => ?_) AllReadyH.nil)
      · go_simp
        refine wpList_append_flr _ rfl _ _ rfl sE _ _ _ rfl O1.out _ (m.f.take i) rfl P1.out ?f1 ?f2 ?_
        case f1 => have := HI.out; have := HN.out; simp; omega
        case f2 => have := O1.out.lt sE rfl; omega
        rintro v3 w3 ho hg hb
        rw [HTI.out, Nat.zero_add, List.nil_append] at ho
        obtain ⟨ad3, c3, rfl⟩ := own_formR ho
        have K3 := Lib.hid (show Kp w w3 from Below.grown KE.out hg (Below.size KE.out) (fun k hk => by have := (O1.out.lt k hk).1; have := SE.out; omega))
        have O3 := Lib.hid ho
        have S3 := Lib.hid (show sE ≤ w3.heap.size from Nat.le_trans (by have := O1.out.lt sE rfl; omega) hg.size)
        have P3 := Lib.hid (P2.out.kp (show Kp wD w3 from Below.grown KDE.out hg (Below.size KDE.out) (fun k hk => by have := (O1.out.lt k hk).1; have := HSE.out; omega)))
        have e13 := kp_cell K3.out (cells_2R HS.out.row).2
        clear ho hg hb
        refine hK.out _ _ trivial (fun hHeld => ?_)
        clear hK K
        refine wpAnyH_ready (rs := [12]) (by kernel_rfl) (by simp) ?_
        refine AllReadyH.cons rfl (fun K hK => ?_) AllReadyH.nil
        go_simp
        refine hK.out _ _ trivial (fun hHeld => ?_)
        clear hK K
        refine wpAnyH_take (i := 15) (v := ?_) rfl (by kernel_rfl) (by kernel_rfl) (by kernel_rfl) (fun _ _ _ h => h) (Or.inl ⟨by rfl, ?_⟩) (by assumption) ?_
        rotate_left
        · intro w hSw; go_simp; try with_reducible rfl
        go_simp
        refine wpAnyH_ready (rs := [16]) (by kernel_rfl) (by simp) ?_
        refine AllReadyH.consLR rfl (fun K hK => ?_) AllReadyH.nil
        go_simp
        refine wpList_append_flr _ rfl _ _ rfl sE _ _ _ rfl O3.out _ (m.f.drop (i + 1)) rfl P3.out ?f3 ?f4 ?_
        case f3 => have := HI.out; have := HN.out; simp; omega
        case f4 => exact S3.out
        rintro v4 w4 ho hg hb
        rw [HL2.out] at ho
        obtain ⟨ad4, c4, rfl⟩ := own_formR ho
        have K4 := Lib.hid (show Kp w w4 from Below.grown K3.out hg (Below.size K3.out) (fun k hk => by have := (O3.out.lt k hk).1; have := SE.out; omega))
        have RF := Lib.hid (HS.out.fly K4.out (w3 := w4) (L := L2) ⟨rfl, rfl, rfl, Nat.le_refl _, fun _ _ _ => rfl⟩ (f := m.f.take i ++ m.f.drop (i + 1)) (by rw [List.length_append, HTI.out, HL2.out]) (by rw [flyB_app]; exact own_baseR (base := sE) ho (Nat.le_trans HS.out.bg (Nat.le_trans (Nat.le_of_lt (old_of_row HS.out.row)) SE.out))) (fun b q => .inr (by have := (ho.lt b q).1; have := SE.out; omega)))
        have r4 := kp_row K4.out HS.out.row
        obtain ⟨x0, x1⟩ := cells_2R r4
        have fz := frozN r4
        clear ho hg hb r4
        refine hK.out _ _ trivial (fun hHeld => ?_)
        clear hK K
        refine wpAnyH_take (i := 17) (v := ?_) rfl (by kernel_rfl) (by kernel_rfl) (by kernel_rfl) (fun _ _ _ h => h) (Or.inl ⟨by rfl, ?_⟩) (by assumption) ?_
        rotate_left
        · intro w hSw; go_simp; try with_reducible rfl
        go_simp
        refine wpAnyH_take (i := 18) (v := ?_) rfl (by kernel_rfl) (by kernel_rfl) (by kernel_rfl) (fun _ _ _ h => h) (Or.inl ⟨by rfl, ?_⟩) (by assumption) ?_
        rotate_left
        · intro w hSw; go_simp; try with_reducible rfl
        go_simp
        refine wpAnyH_ready (rs := [19]) (by kernel_rfl) (by simp) ?_
        refine AllReadyH.cons rfl (fun K hK => ?_) AllReadyH.nil
        go_simp
        refine hK.out _ _ trivial (fun hHeld => ?_)
        clear hK K
        refine wpAnyH_done (by kernel_rfl) ?_ _
        go_wp2
        go_ret
        exact ⟨rfl, _, RF.out.1, RF.out.2⟩
      · go_simp
        refine hK.out _ _ trivial (fun hHeld => ?_)
        clear hK K
        refine wpAnyH_take (i := 15) (v := ?_) rfl (by kernel_rfl) (by kernel_rfl) (by kernel_rfl) (fun _ _ _ h => h) (Or.inl ⟨by rfl, ?_⟩) (by assumption) ?_
        rotate_left
        · intro w hSw; go_simp; try with_reducible rfl
        go_simp
        refine wpAnyH_ready (rs := [8]) (by kernel_rfl) (by simp) ?_
        refine AllReadyH.consLR rfl (fun K hK => ?_) AllReadyH.nil
        go_simp
        refine wpList_append_flr _ rfl _ _ rfl sE _ _ _ rfl O1.out _ (m.f.take i) rfl P1.out ?f1 ?f2 ?_
        case f1 => have := HI.out; have := HN.out; simp; omega
        case f2 => have := O1.out.lt sE rfl; omega
        rintro v3 w3 ho hg hb
        rw [HTI.out, Nat.zero_add, List.nil_append] at ho
        obtain ⟨ad3, c3, rfl⟩ := own_formR ho
        have K3 := Lib.hid (show Kp w w3 from Below.grown KE.out hg (Below.size KE.out) (fun k hk => by have := (O1.out.lt k hk).1; have := SE.out; omega))
        have O3 := Lib.hid ho
        have S3 := Lib.hid (show sE ≤ w3.heap.size from Nat.le_trans (by have := O1.out.lt sE rfl; omega) hg.size)
        have P3 := Lib.hid (P2.out.kp (show Kp wD w3 from Below.grown KDE.out hg (Below.size KDE.out) (fun k hk => by have := (O1.out.lt k hk).1; have := HSE.out; omega)))
        have e13 := kp_cell K3.out (cells_2R HS.out.row).2
        clear ho hg hb
        refine hK.out _ _ trivial (fun hHeld => ?_)
        clear hK K
        refine wpAnyH_ready (rs := [16]) (by kernel_rfl) (by simp) ?_
        refine AllReadyH.consLR rfl (fun K hK => ?_) AllReadyH.nil
        go_simp
        refine wpList_append_flr _ rfl _ _ rfl sE _ _ _ rfl O3.out _ (m.f.drop (i + 1)) rfl P3.out ?f3 ?f4 ?_
        case f3 => have := HI.out; have := HN.out; simp; omega
        case f4 => exact S3.out
        rintro v4 w4 ho hg hb
        rw [HL2.out] at ho
        obtain ⟨ad4, c4, rfl⟩ := own_formR ho
        have K4 := Lib.hid (show Kp w w4 from Below.grown K3.out hg (Below.size K3.out) (fun k hk => by have := (O3.out.lt k hk).1; have := SE.out; omega))
        have RF := Lib.hid (HS.out.fly K4.out (w3 := w4) (L := L2) ⟨rfl, rfl, rfl, Nat.le_refl _, fun _ _ _ => rfl⟩ (f := m.f.take i ++ m.f.drop (i + 1)) (by rw [List.length_append, HTI.out, HL2.out]) (by rw [flyB_app]; exact own_baseR (base := sE) ho (Nat.le_trans HS.out.bg (Nat.le_trans (Nat.le_of_lt (old_of_row HS.out.row)) SE.out))) (fun b q => .inr (by have := (ho.lt b q).1; have := SE.out; omega)))
        have r4 := kp_row K4.out HS.out.row
        obtain ⟨x0, x1⟩ := cells_2R r4
        have fz := frozN r4
        clear ho hg hb r4
        refine hK.out _ _ trivial (fun hHeld => ?_)
        clear hK K
        refine wpAnyH_take (i := 17) (v := ?_) rfl (by kernel_rfl) (by kernel_rfl) (by kernel_rfl) (fun _ _ _ h => h) (Or.inl ⟨by rfl, ?_⟩) (by assumption) ?_
        rotate_left
        · intro w hSw; go_simp; try with_reducible rfl
        go_simp
        refine wpAnyH_take (i := 18) (v := ?_) rfl (by kernel_rfl) (by kernel_rfl) (by kernel_rfl) (fun _ _ _ h => h) (Or.inl ⟨by rfl, ?_⟩) (by assumption) ?_
        rotate_left
        · intro w hSw; go_simp; try with_reducible rfl
        go_simp
        refine wpAnyH_ready (rs := [19]) (by kernel_rfl) (by simp) ?_
        refine AllReadyH.cons rfl (fun K hK => ?_) AllReadyH.nil
        go_simp
        refine hK.out _ _ trivial (fun hHeld => ?_)
        clear hK K
        refine wpAnyH_done (by kernel_rfl) ?_ _
        go_wp2
        go_ret
        exact ⟨rfl, _, RF.out.1, RF.out.2⟩
    · go_simp
      refine hK.out _ _ trivial (fun hHeld => ?_)
      clear hK K
      refine wpAnyH_take (i := 15) (v := ?_) rfl (by kernel_rfl) (by kernel_rfl) (by kernel_rfl) (fun _ _ _ h => h) (Or.inl ⟨by rfl, ?_⟩) (by assumption) ?_
      rotate_left
      · intro w hSw; go_simp; try with_reducible rfl
      go_simp
      refine wpAnyH_ready (rs := [5]) (by kernel_rfl) (by simp) ?_
      refine AllReadyH.cons rfl (fun K hK => ?_) AllReadyH.nil
      go_simp
      refine hK.out _ _ trivial (fun hHeld => ?_)
      clear hK K
      refine wpAnyH_take (i := 7) (v := ?_) rfl (by kernel_rfl) (by kernel_rfl) (by kernel_rfl) (fun _ _ _ h => h) (Or.inl ⟨by rfl, ?_⟩) (by assumption) ?_
      rotate_left
      · intro w hSw; go_simp; try with_reducible rfl
      go_simp
      refine wpAnyH_ready (rs := [8]) (by kernel_rfl) (by simp) ?_
      refine AllReadyH.consLR rfl (fun K hK => ?_) AllReadyH.nil
      go_simp
      refine wpList_append_flr _ rfl _ _ rfl sE _ _ _ rfl O1.out _ (m.f.take i) rfl P1.out ?f1 ?f2 ?_
      case f1 => have := HI.out; have := HN.out; simp; omega
      case f2 => have := O1.out.lt sE rfl; omega
      rintro v3 w3 ho hg hb
      rw [HTI.out, Nat.zero_add, List.nil_append] at ho
      obtain ⟨ad3, c3, rfl⟩ := own_formR ho
      have K3 := Lib.hid (show Kp w w3 from Below.grown KE.out hg (Below.size KE.out) (fun k hk => by have := (O1.out.lt k hk).1; have := SE.out; omega))
      have O3 := Lib.hid ho
      have S3 := Lib.hid (show sE ≤ w3.heap.size from Nat.le_trans (by have := O1.out.lt sE rfl; omega) hg.size)
      have P3 := Lib.hid (P2.out.kp (show Kp wD w3 from Below.grown KDE.out hg (Below.size KDE.out) (fun k hk => by have := (O1.out.lt k hk).1; have := HSE.out; omega)))
      have e13 := kp_cell K3.out (cells_2R HS.out.row).2
      clear ho hg hb
      refine hK.out _ _ trivial (fun hHeld => ?_)
      clear hK K
      refine wpAnyH_ready (rs := [16]) (by kernel_rfl) (by simp) ?_
      refine AllReadyH.consLR rfl (fun K hK => ?_) AllReadyH.nil
      go_simp
      refine wpList_append_flr _ rfl _ _ rfl sE _ _ _ rfl O3.out _ (m.f.drop (i + 1)) rfl P3.out ?f3 ?f4 ?_
      case f3 => have := HI.out; have := HN.out; simp; omega
      case f4 => exact S3.out
      rintro v4 w4 ho hg hb
      rw [HL2.out] at ho
      obtain ⟨ad4, c4, rfl⟩ := own_formR ho
      have K4 := Lib.hid (show Kp w w4 from Below.grown K3.out hg (Below.size K3.out) (fun k hk => by have := (O3.out.lt k hk).1; have := SE.out; omega))
      have RF := Lib.hid (HS.out.fly K4.out (w3 := w4) (L := L2) ⟨rfl, rfl, rfl, Nat.le_refl _, fun _ _ _ => rfl⟩ (f := m.f.take i ++ m.f.drop (i + 1)) (by rw [List.length_append, HTI.out, HL2.out]) (by rw [flyB_app]; exact own_baseR (base := sE) ho (Nat.le_trans HS.out.bg (Nat.le_trans (Nat.le_of_lt (old_of_row HS.out.row)) SE.out))) (fun b q => .inr (by have := (ho.lt b q).1; have := SE.out; omega)))
      have r4 := kp_row K4.out HS.out.row
      obtain ⟨x0, x1⟩ := cells_2R r4
      have fz := frozN r4
      clear ho hg hb r4
      refine hK.out _ _ trivial (fun hHeld => ?_)
      clear hK K
      refine wpAnyH_take (i := 17) (v := ?_) rfl (by kernel_rfl) (by kernel_rfl) (by kernel_rfl) (fun _ _ _ h => h) (Or.inl ⟨by rfl, ?_⟩) (by assumption) ?_
      rotate_left
      · intro w hSw; go_simp; try with_reducible rfl
      go_simp
      refine wpAnyH_take (i := 18) (v := ?_) rfl (by kernel_rfl) (by kernel_rfl) (by kernel_rfl) (fun _ _ _ h => h) (Or.inl ⟨by rfl, ?_⟩) (by assumption) ?_
      rotate_left
      · intro w hSw; go_simp; try with_reducible rfl
      go_simp
      refine wpAnyH_ready (rs := [19]) (by kernel_rfl) (by simp) ?_
      refine AllReadyH.cons rfl (fun K hK => ?_) AllReadyH.nil
      go_simp
      refine hK.out _ _ trivial (fun hHeld => ?_)
      clear hK K
      refine wpAnyH_done (by kernel_rfl) ?_ _
      go_wp2
      go_ret
      exact ⟨rfl, _, RF.out.1, RF.out.2⟩
  · go_simp
    refine hK.out _ _ trivial (fun hHeld => ?_)
    clear hK K
    refine wpAnyH_take (i := 7) (v := ?_) rfl (by kernel_rfl) (by kernel_rfl) (by kernel_rfl) (fun _ _ _ h => h) (Or.inl ⟨by rfl, ?_⟩) (by assumption) ?_
    rotate_left
    · intro w hSw; go_simp; try with_reducible rfl
    go_simp
    refine wpAnyH_ready (rs := [1, 12]) (by kernel_rfl) (by simp) ?_
    refine AllReadyH.cons rfl (fun K hK => ?_) (AllReadyH.cons rfl (fun K hK => ?_) AllReadyH.nil)
    · go_simp
      try rw [HSE.out]
      try rw [HWE.out]
      refine hK.out _ _ trivial (fun hHeld => ?_)
      clear hK K
      refine wpAnyH_ready (rs := [8, 12]) (by kernel_rfl) (by simp) ?_
      refine AllReadyH.consLR rfl (fun K hK => ?_) (AllReadyH.cons rfl (fun K hK => ?_) AllReadyH.nil)
      · go_simp
        refine wpList_append_flr _ rfl _ _ rfl sE _ _ _ rfl O1.out _ (m.f.take i) rfl P1.out ?f1 ?f2 ?_
        case f1 => have := HI.out; have := HN.out; simp; omega
        case f2 => have := O1.out.lt sE rfl; omega
        rintro v3 w3 ho hg hb
        rw [HTI.out, Nat.zero_add, List.nil_append] at ho
        obtain ⟨ad3, c3, rfl⟩ := own_formR ho
        have K3 := Lib.hid (show Kp w w3 from Below.grown KE.out hg (Below.size KE.out) (fun k hk => by have := (O1.out.lt k hk).1; have := SE.out; omega))
        have O3 := Lib.hid ho
        have S3 := Lib.hid (show sE ≤ w3.heap.size from Nat.le_trans (by have := O1.out.lt sE rfl; omega) hg.size)
        have P3 := Lib.hid (P2.out.kp (show Kp wD w3 from Below.grown KDE.out hg (Below.size KDE.out) (fun k hk => by have := (O1.out.lt k hk).1; have := HSE.out; omega)))
        have e13 := kp_cell K3.out (cells_2R HS.out.row).2
        clear ho hg hb
        refine hK.out _ _ trivial (fun hHeld => ?_)
        clear hK K
        refine wpAnyH_ready (rs := [12]) (by kernel_rfl) (by simp) ?_
        refine AllReadyH.cons rfl (fun K hK => ?_) AllReadyH.nil
        go_simp
        refine hK.out _ _ trivial (fun hHeld => ?_)
        clear hK K
        refine wpAnyH_take (i := 15) (v := ?_) rfl (by kernel_rfl) (by kernel_rfl) (by kernel_rfl) (fun _ _ _ h => h) (Or.inl ⟨by rfl, ?_⟩) (by assumption) ?_
        rotate_left
        · intro w hSw; go_simp; try with_reducible rfl
        go_simp
        refine wpAnyH_ready (rs := [16]) (by kernel_rfl) (by simp) ?_
        refine AllReadyH.consLR rfl (fun K hK => ?_) AllReadyH.nil
        go_simp
        refine wpList_append_flr _ rfl _ _ rfl sE _ _ _ rfl O3.out _ (m.f.drop (i + 1)) rfl P3.out ?f3 ?f4 ?_
        case f3 => have := HI.out; have := HN.out; simp; omega
        case f4 => exact S3.out
        rintro v4 w4 ho hg hb
        rw [HL2.out] at ho
        obtain ⟨ad4, c4, rfl⟩ := own_formR ho
        have K4 := Lib.hid (show Kp w w4 from Below.grown K3.out hg (Below.size K3.out) (fun k hk => by have := (O3.out.lt k hk).1; have := SE.out; omega))
        have RF := Lib.hid (HS.out.fly K4.out (w3 := w4) (L := L2) ⟨rfl, rfl, rfl, Nat.le_refl _, fun _ _ _ => rfl⟩ (f := m.f.take i ++ m.f.drop (i + 1)) (by rw [List.length_append, HTI.out, HL2.out]) (by rw [flyB_app]; exact own_baseR (base := sE) ho (Nat.le_trans HS.out.bg (Nat.le_trans (Nat.le_of_lt (old_of_row HS.out.row)) SE.out))) (fun b q => .inr (by have := (ho.lt b q).1; have := SE.out; omega)))
        have r4 := kp_row K4.out HS.out.row
        obtain ⟨x0, x1⟩ := cells_2R r4
        have fz := frozN r4
        clear ho hg hb r4
        refine hK.out _ _ trivial (fun hHeld => ?_)
        clear hK K
        refine wpAnyH_take (i := 17) (v := ?_) rfl (by kernel_rfl) (by kernel_rfl) (by kernel_rfl) (fun _ _ _ h => h) (Or.inl ⟨by rfl, ?_⟩) (by assumption) ?_
        rotate_left
        · intro w hSw; go_simp; try with_reducible rfl
        go_simp
        refine wpAnyH_take (i := 18) (v := ?_) rfl (by kernel_rfl) (by kernel_rfl) (by kernel_rfl) (fun _ _ _ h => h) (Or.inl ⟨by rfl, ?_⟩) (by assumption) ?_
        rotate_left
        · intro w hSw; go_simp; try with_reducible rfl
        go_simp
        refine wpAnyH_ready (rs := [19]) (by kernel_rfl) (by simp) ?_
        refine AllReadyH.cons rfl (fun K hK => ?_) AllReadyH.nil
        go_simp
        refine hK.out _ _ trivial (fun hHeld => ?_)
        clear hK K
        refine wpAnyH_done (by kernel_rfl) ?_ _
        go_wp2
        go_ret
        exact ⟨rfl, _, RF.out.1, RF.out.2⟩
      · go_simp
        refine hK.out _ _ trivial (fun hHeld => ?_)
        clear hK K
        refine wpAnyH_take (i := 15) (v := ?_) rfl (by kernel_rfl) (by kernel_rfl) (by kernel_rfl) (fun _ _ _ h => h) (Or.inl ⟨by rfl, ?_⟩) (by assumption) ?_
        rotate_left
        · intro w hSw; go_simp; try with_reducible rfl
        go_simp
        refine wpAnyH_ready (rs := [8]) (by kernel_rfl) (by simp) ?_
        refine AllReadyH.consLR rfl (fun K hK => ?_) AllReadyH.nil
        go_simp
        refine wpList_append_flr _ rfl _ _ rfl sE _ _ _ rfl O1.out _ (m.f.take i) rfl P1.out ?f1 ?f2 ?_
        case f1 => have := HI.out; have := HN.out; simp; omega
        case f2 => have := O1.out.lt sE rfl; omega
        rintro v3 w3 ho hg hb
        rw [HTI.out, Nat.zero_add, List.nil_append] at ho
        obtain ⟨ad3, c3, rfl⟩ := own_formR ho
        have K3 := Lib.hid (show Kp w w3 from Below.grown KE.out hg (Below.size KE.out) (fun k hk => by have := (O1.out.lt k hk).1; have := SE.out; omega))
        have O3 := Lib.hid ho
        have S3 := Lib.hid (show sE ≤ w3.heap.size from Nat.le_trans (by have := O1.out.lt sE rfl; omega) hg.size)
        have P3 := Lib.hid (P2.out.kp (show Kp wD w3 from Below.grown KDE.out hg (Below.size KDE.out) (fun k hk => by have := (O1.out.lt k hk).1; have := HSE.out; omega)))
        have e13 := kp_cell K3.out (cells_2R HS.out.row).2
        clear ho hg hb
        refine hK.out _ _ trivial (fun hHeld => ?_)
        clear hK K
        refine wpAnyH_ready (rs := [16]) (by kernel_rfl) (by simp) ?_
        refine AllReadyH.consLR rfl (fun K hK => ?_) AllReadyH.nil
        go_simp
        refine wpList_append_flr _ rfl _ _ rfl sE _ _ _ rfl O3.out _ (m.f.drop (i + 1)) rfl P3.out ?f3 ?f4 ?_
        case f3 => have := HI.out; have := HN.out; simp; omega
        case f4 => exact S3.out
        rintro v4 w4 ho hg hb
        rw [HL2.out] at ho
        obtain ⟨ad4, c4, rfl⟩ := own_formR ho
        have K4 := Lib.hid (show Kp w w4 from Below.grown K3.out hg (Below.size K3.out) (fun k hk => by have := (O3.out.lt k hk).1; have := SE.out; omega))
        have RF := Lib.hid (HS.out.fly K4.out (w3 := w4) (L := L2) ⟨rfl, rfl, rfl, Nat.le_refl _, fun _ _ _ => rfl⟩ (f := m.f.take i ++ m.f.drop (i + 1)) (by rw [List.length_append, HTI.out, HL2.out]) (by rw [flyB_app]; exact own_baseR (base := sE) ho (Nat.le_trans HS.out.bg (Nat.le_trans (Nat.le_of_lt (old_of_row HS.out.row)) SE.out))) (fun b q => .inr (by have := (ho.lt b q).1; have := SE.out; omega)))
        have r4 := kp_row K4.out HS.out.row
        obtain ⟨x0, x1⟩ := cells_2R r4
        have fz := frozN r4
        clear ho hg hb r4
        refine hK.out _ _ trivial (fun hHeld => ?_)
        clear hK K
        refine wpAnyH_take (i := 17) (v := ?_) rfl (by kernel_rfl) (by kernel_rfl) (by kernel_rfl) (fun _ _ _ h => h) (Or.inl ⟨by rfl, ?_⟩) (by assumption) ?_
        rotate_left
        · intro w hSw; go_simp; try with_reducible rfl
        go_simp
        refine wpAnyH_take (i := 18) (v := ?_) rfl (by kernel_rfl) (by kernel_rfl) (by kernel_rfl) (fun _ _ _ h => h) (Or.inl ⟨by rfl, ?_⟩) (by assumption) ?_
        rotate_left
        · intro w hSw; go_simp; try with_reducible rfl
        go_simp
        refine wpAnyH_ready (rs := [19]) (by kernel_rfl) (by simp) ?_
        refine AllReadyH.cons rfl (fun K hK => ?_) AllReadyH.nil
        go_simp
        refine hK.out _ _ trivial (fun hHeld => ?_)
        clear hK K
        refine wpAnyH_done (by kernel_rfl) ?_ _
        go_wp2
        go_ret
        exact ⟨rfl, _, RF.out.1, RF.out.2⟩
    · go_simp
      refine hK.out _ _ trivial (fun hHeld => ?_)
      clear hK K
      refine wpAnyH_take (i := 15) (v := ?_) rfl (by kernel_rfl) (by kernel_rfl) (by kernel_rfl) (fun _ _ _ h => h) (Or.inl ⟨by rfl, ?_⟩) (by assumption) ?_
      rotate_left
      · intro w hSw; go_simp; try with_reducible rfl
      go_simp
      refine wpAnyH_ready (rs := [1]) (by kernel_rfl) (by simp) ?_
      refine AllReadyH.cons rfl (fun K hK => ?_) AllReadyH.nil
      go_simp
      try rw [HSE.out]
      try rw [HWE.out]
      refine hK.out _ _ trivial (fun hHeld => ?_)
      clear hK K
      refine wpAnyH_ready (rs := [8]) (by kernel_rfl) (by simp) ?_
      refine AllReadyH.consLR rfl (fun K hK => ?_) AllReadyH.nil
      go_simp
      refine wpList_append_flr _ rfl _ _ rfl sE _ _ _ rfl O1.out _ (m.f.take i) rfl P1.out ?f1 ?f2 ?_
      case f1 => have := HI.out; have := HN.out; simp; omega
      case f2 => have := O1.out.lt sE rfl; omega
      rintro v3 w3 ho hg hb
      rw [HTI.out, Nat.zero_add, List.nil_append] at ho
      obtain ⟨ad3, c3, rfl⟩ := own_formR ho
      have K3 := Lib.hid (show Kp w w3 from Below.grown KE.out hg (Below.size KE.out) (fun k hk => by have := (O1.out.lt k hk).1; have := SE.out; omega))
      have O3 := Lib.hid ho
      have S3 := Lib.hid (show sE ≤ w3.heap.size from Nat.le_trans (by have := O1.out.lt sE rfl; omega) hg.size)
      have P3 := Lib.hid (P2.out.kp (show Kp wD w3 from Below.grown KDE.out hg (Below.size KDE.out) (fun k hk => by have := (O1.out.lt k hk).1; have := HSE.out; omega)))
      have e13 := kp_cell K3.out (cells_2R HS.out.row).2
      clear ho hg hb
      refine hK.out _ _ trivial (fun hHeld => ?_)
      clear hK K
      refine wpAnyH_ready (rs := [16]) (by kernel_rfl) (by simp) ?_
      refine AllReadyH.consLR rfl (fun K hK => ?_) AllReadyH.nil
      go_simp
      refine wpList_append_flr _ rfl _ _ rfl sE _ _ _ rfl O3.out _ (m.f.drop (i + 1)) rfl P3.out ?f3 ?f4 ?_
      case f3 => have := HI.out; have := HN.out; simp; omega
      case f4 => exact S3.out
      rintro v4 w4 ho hg hb
      rw [HL2.out] at ho
      obtain ⟨ad4, c4, rfl⟩ := own_formR ho
      have K4 := Lib.hid (show Kp w w4 from Below.grown K3.out hg (Below.size K3.out) (fun k hk => by have := (O3.out.lt k hk).1; have := SE.out; omega))
      have RF := Lib.hid (HS.out.fly K4.out (w3 := w4) (L := L2) ⟨rfl, rfl, rfl, Nat.le_refl _, fun _ _ _ => rfl⟩ (f := m.f.take i ++ m.f.drop (i + 1)) (by rw [List.length_append, HTI.out, HL2.out]) (by rw [flyB_app]; exact own_baseR (base := sE) ho (Nat.le_trans HS.out.bg (Nat.le_trans (Nat.le_of_lt (old_of_row HS.out.row)) SE.out))) (fun b q => .inr (by have := (ho.lt b q).1; have := SE.out; omega)))
      have r4 := kp_row K4.out HS.out.row
      obtain ⟨x0, x1⟩ := cells_2R r4
      have fz := frozN r4
      clear ho hg hb r4
      refine hK.out _ _ trivial (fun hHeld => ?_)
      clear hK K
      refine wpAnyH_take (i := 17) (v := ?_) rfl (by kernel_rfl) (by kernel_rfl) (by kernel_rfl) (fun _ _ _ h => h) (Or.inl ⟨by rfl, ?_⟩) (by assumption) ?_
      rotate_left
      · intro w hSw; go_simp; try with_reducible rfl
      go_simp
      refine wpAnyH_take (i := 18) (v := ?_) rfl (by kernel_rfl) (by kernel_rfl) (by kernel_rfl) (fun _ _ _ h => h) (Or.inl ⟨by rfl, ?_⟩) (by assumption) ?_
      rotate_left
      · intro w hSw; go_simp; try with_reducible rfl
      go_simp
      refine wpAnyH_ready (rs := [19]) (by kernel_rfl) (by simp) ?_
      refine AllReadyH.cons rfl (fun K hK => ?_) AllReadyH.nil
      go_simp
      refine hK.out _ _ trivial (fun hHeld => ?_)
      clear hK K
      refine wpAnyH_done (by kernel_rfl) ?_ _
      go_wp2
      go_ret
      exact ⟨rfl, _, RF.out.1, RF.out.2⟩
  · go_simp
    refine hK.out _ _ trivial (fun hHeld => ?_)
    clear hK K
    refine wpAnyH_take (i := 15) (v := ?_) rfl (by kernel_rfl) (by kernel_rfl) (by kernel_rfl) (fun _ _ _ h => h) (Or.inl ⟨by rfl, ?_⟩) (by assumption) ?_
    rotate_left
    · intro w hSw; go_simp; try with_reducible rfl
    go_simp
    refine wpAnyH_ready (rs := [1, 5]) (by kernel_rfl) (by simp) ?_
    refine AllReadyH.cons rfl (fun K hK => ?_) (AllReadyH.cons rfl (fun K hK => ?_) AllReadyH.nil)
    · go_simp
      try rw [HSE.out]
      try rw [HWE.out]
      refine hK.out _ _ trivial (fun hHeld => ?_)
      clear hK K
      refine wpAnyH_ready (rs := [5]) (by kernel_rfl) (by simp) ?_
      refine AllReadyH.cons rfl (fun K hK => ?_) AllReadyH.nil
      go_simp
      refine hK.out _ _ trivial (fun hHeld => ?_)
      clear hK K
      refine wpAnyH_take (i := 7) (v := ?_) rfl (by kernel_rfl) (by kernel_rfl) (by kernel_rfl) (fun _ _ _ h => h) (Or.inl ⟨by rfl, ?_⟩) (by assumption) ?_
      rotate_left
      · intro w hSw; go_simp; try with_reducible rfl
      go_simp
      refine wpAnyH_ready (rs := [8]) (by kernel_rfl) (by simp) ?_
      refine AllReadyH.consLR rfl (fun K hK => ?_) AllReadyH.nil
      go_simp
      refine wpList_append_flr _ rfl _ _ rfl sE _ _ _ rfl O1.out _ (m.f.take i) rfl P1.out ?f1 ?f2 ?_
      case f1 => have := HI.out; have := HN.out; simp; omega
      case f2 => have := O1.out.lt sE rfl; omega
      rintro v3 w3 ho hg hb
      rw [HTI.out, Nat.zero_add, List.nil_append] at ho
      obtain ⟨ad3, c3, rfl⟩ := own_formR ho
      have K3 := Lib.hid (show Kp w w3 from Below.grown KE.out hg (Below.size KE.out) (fun k hk => by have := (O1.out.lt k hk).1; have := SE.out; omega))
      have O3 := Lib.hid ho
      have S3 := Lib.hid (show sE ≤ w3.heap.size from Nat.le_trans (by have := O1.out.lt sE rfl; omega) hg.size)
      have P3 := Lib.hid (P2.out.kp (show Kp wD w3 from Below.grown KDE.out hg (Below.size KDE.out) (fun k hk => by have := (O1.out.lt k hk).1; have := HSE.out; omega)))
      have e13 := kp_cell K3.out (cells_2R HS.out.row).2
      clear ho hg hb
      refine hK.out _ _ trivial (fun hHeld => ?_)
      clear hK K
      refine wpAnyH_ready (rs := [16]) (by kernel_rfl) (by simp) ?_
      refine AllReadyH.consLR rfl (fun K hK => ?_) AllReadyH.nil
      go_simp
      refine wpList_append_flr _ rfl _ _ rfl sE _ _ _ rfl O3.out _ (m.f.drop (i + 1)) rfl P3.out ?f3 ?f4 ?_
      case f3 => have := HI.out; have := HN.out; simp; omega
      case f4 => exact S3.out
      rintro v4 w4 ho hg hb
      rw [HL2.out] at ho
      obtain ⟨ad4, c4, rfl⟩ := own_formR ho
      have K4 := Lib.hid (show Kp w w4 from Below.grown K3.out hg (Below.size K3.out) (fun k hk => by have := (O3.out.lt k hk).1; have := SE.out; omega))
      have RF := Lib.hid (HS.out.fly K4.out (w3 := w4) (L := L2) ⟨rfl, rfl, rfl, Nat.le_refl _, fun _ _ _ => rfl⟩ (f := m.f.take i ++ m.f.drop (i + 1)) (by rw [List.length_append, HTI.out, HL2.out]) (by rw [flyB_app]; exact own_baseR (base := sE) ho (Nat.le_trans HS.out.bg (Nat.le_trans (Nat.le_of_lt (old_of_row HS.out.row)) SE.out))) (fun b q => .inr (by have := (ho.lt b q).1; have := SE.out; omega)))
      have r4 := kp_row K4.out HS.out.row
      obtain ⟨x0, x1⟩ := cells_2R r4
      have fz := frozN r4
      clear ho hg hb r4
      refine hK.out _ _ trivial (fun hHeld => ?_)
      clear hK K
      refine wpAnyH_take (i := 17) (v := ?_) rfl (by kernel_rfl) (by kernel_rfl) (by kernel_rfl) (fun _ _ _ h => h) (Or.inl ⟨by rfl, ?_⟩) (by assumption) ?_
      rotate_left
      · intro w hSw; go_simp; try with_reducible rfl
      go_simp
      refine wpAnyH_take (i := 18) (v := ?_) rfl (by kernel_rfl) (by kernel_rfl) (by kernel_rfl) (fun _ _ _ h => h) (Or.inl ⟨by rfl, ?_⟩) (by assumption) ?_
      rotate_left
      · intro w hSw; go_simp; try with_reducible rfl
      go_simp
      refine wpAnyH_ready (rs := [19]) (by kernel_rfl) (by simp) ?_
      refine AllReadyH.cons rfl (fun K hK => ?_) AllReadyH.nil
      go_simp
      refine hK.out _ _ trivial (fun hHeld => ?_)
      clear hK K
      refine wpAnyH_done (by kernel_rfl) ?_ _
      go_wp2
      go_ret
      exact ⟨rfl, _, RF.out.1, RF.out.2⟩
    · go_simp
      refine hK.out _ _ trivial (fun hHeld => ?_)
      clear hK K
      refine wpAnyH_take (i := 7) (v := ?_) rfl (by kernel_rfl) (by kernel_rfl) (by kernel_rfl) (fun _ _ _ h => h) (Or.inl ⟨by rfl, ?_⟩) (by assumption) ?_
      rotate_left
      · intro w hSw; go_simp; try with_reducible rfl
      go_simp
      refine wpAnyH_ready (rs := [1]) (by kernel_rfl) (by simp) ?_
      refine AllReadyH.cons rfl (fun K hK => ?_) AllReadyH.nil
      go_simp
      try rw [HSE.out]
      try rw [HWE.out]
      refine hK.out _ _ trivial (fun hHeld => ?_)
      clear hK K
      refine wpAnyH_ready (rs := [8]) (by kernel_rfl) (by simp) ?_
      refine AllReadyH.consLR rfl (fun K hK => ?_) AllReadyH.nil
      go_simp
      refine wpList_append_flr _ rfl _ _ rfl sE _ _ _ rfl O1.out _ (m.f.take i) rfl P1.out ?f1 ?f2 ?_
      case f1 => have := HI.out; have := HN.out; simp; omega
      case f2 => have := O1.out.lt sE rfl; omega
      rintro v3 w3 ho hg hb
      rw [HTI.out, Nat.zero_add, List.nil_append] at ho
      obtain ⟨ad3, c3, rfl⟩ := own_formR ho
      have K3 := Lib.hid (show Kp w w3 from Below.grown KE.out hg (Below.size KE.out) (fun k hk => by have := (O1.out.lt k hk).1; have := SE.out; omega))
      have O3 := Lib.hid ho
      have S3 := Lib.hid (show sE ≤ w3.heap.size from Nat.le_trans (by have := O1.out.lt sE rfl; omega) hg.size)
      have P3 := Lib.hid (P2.out.kp (show Kp wD w3 from Below.grown KDE.out hg (Below.size KDE.out) (fun k hk => by have := (O1.out.lt k hk).1; have := HSE.out; omega)))
      have e13 := kp_cell K3.out (cells_2R HS.out.row).2
      clear ho hg hb
      refine hK.out _ _ trivial (fun hHeld => ?_)
      clear hK K
      refine wpAnyH_ready (rs := [16]) (by kernel_rfl) (by simp) ?_
      refine AllReadyH.consLR rfl (fun K hK => ?_) AllReadyH.nil
      go_simp
      refine wpList_append_flr _ rfl _ _ rfl sE _ _ _ rfl O3.out _ (m.f.drop (i + 1)) rfl P3.out ?f3 ?f4 ?_
      case f3 => have := HI.out; have := HN.out; simp; omega
      case f4 => exact S3.out
      rintro v4 w4 ho hg hb
      rw [HL2.out] at ho
      obtain ⟨ad4, c4, rfl⟩ := own_formR ho
      have K4 := Lib.hid (show Kp w w4 from Below.grown K3.out hg (Below.size K3.out) (fun k hk => by have := (O3.out.lt k hk).1; have := SE.out; omega))
      have RF := Lib.hid (HS.out.fly K4.out (w3 := w4) (L := L2) ⟨rfl, rfl, rfl, Nat.le_refl _, fun _ _ _ => rfl⟩ (f := m.f.take i ++ m.f.drop (i + 1)) (by rw [List.length_append, HTI.out, HL2.out]) (by rw [flyB_app]; exact own_baseR (base := sE) ho (Nat.le_trans HS.out.bg (Nat.le_trans (Nat.le_of_lt (old_of_row HS.out.row)) SE.out))) (fun b q => .inr (by have := (ho.lt b q).1; have := SE.out; omega)))
      have r4 := kp_row K4.out HS.out.row
      obtain ⟨x0, x1⟩ := cells_2R r4
      have fz := frozN r4
      clear ho hg hb r4
      refine hK.out _ _ trivial (fun hHeld => ?_)
      clear hK K
      refine wpAnyH_take (i := 17) (v := ?_) rfl (by kernel_rfl) (by kernel_rfl) (by kernel_rfl) (fun _ _ _ h => h) (Or.inl ⟨by rfl, ?_⟩) (by assumption) ?_
      rotate_left
      · intro w hSw; go_simp; try with_reducible rfl
      go_simp
      refine wpAnyH_take (i := 18) (v := ?_) rfl (by kernel_rfl) (by kernel_rfl) (by kernel_rfl) (fun _ _ _ h => h) (Or.inl ⟨by rfl, ?_⟩) (by assumption) ?_
      rotate_left
      · intro w hSw; go_simp; try with_reducible rfl
      go_simp
      refine wpAnyH_ready (rs := [19]) (by kernel_rfl) (by simp) ?_
      refine AllReadyH.cons rfl (fun K hK => ?_) AllReadyH.nil
      go_simp
      refine hK.out _ _ trivial (fun hHeld => ?_)
      clear hK K
      refine wpAnyH_done (by kernel_rfl) ?_ _
      go_wp2
      go_ret
      exact ⟨rfl, _, RF.out.1, RF.out.2⟩
set_option maxRecDepth 100000 in
theorem rpDrop_no (H : Rp w0 gm sb m v w) (ii : Int) (hi : ¬ (0 ≤ ii ∧ ii < m.f.length)) : Calls Tryd.prog 47 #[.pointer (some ⟨gm, 0, none⟩), .int .i64 ii] w fun r w' => r = .returned (.int .i64 1) ∧ w = w' := by
  obtain ⟨a, cp, rfl⟩ := H.form
  obtain ⟨n, hn⟩ : ∃ n, m.f.length = n := ⟨_, rfl⟩
  have e1 := (cells_2R H.row).2
  rw [hn] at e1 hi
  clear H hn
  by_cases h0 : ii < 0
  · have g0 : decide (ii < 0) = true := decide_eq_true h0
    clear hi h0
    go_enter Tryd.func47, Tryd.ntmps47
    go_wp2
    go_ret
    exact ⟨rfl, rfl⟩
  · have g0 : decide (ii < 0) = false := decide_eq_false h0
    have g1 : decide (ii ≥ (n : Int)) = true := decide_eq_true (by omega)
    clear hi h0
    go_enter Tryd.func47, Tryd.ntmps47
    go_wp2
    go_ret
    exact ⟨rfl, rfl⟩
theorem rpDrop_any (H : Rp w0 gm sb m v w) (hl : m.f.length ≤ 64) (ii : Int) : Calls Tryd.prog 47 #[.pointer (some ⟨gm, 0, none⟩), .int .i64 ii] w fun r w' => r = .returned (.int .i64 (m.drop ii).1) ∧ ∃ v', Rp w0 gm sb (m.drop ii).2 v' w' ∧ Asd (Orf gm sb v) (Orf gm sb v') w w' := by
  unfold PairM.drop
  by_cases hi : 0 ≤ ii ∧ ii < m.f.length
  · rw [if_neg (by omega)]
    exact rpDrop_go H hl ii.toNat ii (by omega) (by omega)
  · rw [if_pos (by omega)]
    exact (rpDrop_no H ii hi).mono fun r w' ⟨q1, q2⟩ => ⟨q1, v, q2 ▸ H, q2 ▸ Asd.refl _ _⟩
end Go.Proofs.YtghjnhdepeiloaaDoor

namespace Go.Proofs.YtghjnhdepeiloaaDoor
open Go.RowKit Go.ChangeShapes Go.WideShapes
variable {w0 w w' W w3 : World} {gm sb : Nat} {m : PairM} {v v' : Value}

theorem Rp.drew (h : Rp w0 gm sb m v w) : Rp w0 gm sb m v w.drew := h.stay fun _ _ => rfl
theorem Asd.drewR {O O' : Nat → Prop} {w w' : World} (h : Asd O O' w w') : Asd O O' w w'.drew := ⟨h.os, h.tape, h.output, h.size, h.block, h.own⟩
theorem asd_setR {O : Nat → Prop} {g i : Nat} {w : World} (h : O g) (y : Value) : Asd O O w (w.setCell ⟨g, i, none⟩ y) where
  os := rfl
  tape := rfl
  output := rfl
  size := by simp
  block := fun b _ hn => Below.heap_setCell _ _ _ _ (fun e => hn (by rw [e]; exact h))
  own := fun b q => .inl q
theorem own_setR {w : World} {base n g i : Nat} {e : TypeId} {v y : Value} {us : List Value} (h : w.ownsRow base e 2 v n us) (hne : v.ownBlock ≠ some g) : (w.setCell ⟨g, i, none⟩ y).ownsRow base e 2 v n us := by
  refine ⟨h.1, ?_⟩
  rcases h.2 with q | ⟨g', cap, cur, ee, hg, hh, r⟩
  · exact Or.inl q
  · refine Or.inr ⟨g', cap, cur, ee, hg, ?_, r⟩
    rw [Below.heap_setCell _ _ _ _ (fun q => hne (by have q : g' = g := q; rw [ee, q]; rfl))]
    exact hh
theorem Rp.seat1 (h : Rp w0 gm sb m v w) (z : SeatM) : Rp w0 gm sb ⟨z, m.x, m.f⟩ v ((((w.setCell ⟨sb, 0, none⟩ (.int .i64 z.p)).setCell ⟨sb, 1, none⟩ (.int .i64 z.e)).setCell ⟨sb, 2, none⟩ (.int .i64 z.s)).setCell ⟨sb, 3, none⟩ (.int .i64 z.h)) ∧ Asd (Orf gm sb v) (Orf gm sb v) w ((((w.setCell ⟨sb, 0, none⟩ (.int .i64 z.p)).setCell ⟨sb, 1, none⟩ (.int .i64 z.e)).setCell ⟨sb, 2, none⟩ (.int .i64 z.s)).setCell ⟨sb, 3, none⟩ (.int .i64 z.h)) := by
  obtain ⟨n1, n2, n3⟩ := h.ne
  have h0 := h.seats
  have h1 : (w.setCell ⟨sb, 0, none⟩ (.int .i64 z.p)).heap[sb]? = some (.cells #[.int .i64 z.p, .int .i64 m.c.e, .int .i64 m.c.s, .int .i64 m.c.h, .int .i64 m.x.p, .int .i64 m.x.e, .int .i64 m.x.s, .int .i64 m.x.h] 25 (0, 0)) := (Joins.block_setCell h0 _).trans rfl
  have h2 : ((w.setCell ⟨sb, 0, none⟩ (.int .i64 z.p)).setCell ⟨sb, 1, none⟩ (.int .i64 z.e)).heap[sb]? = some (.cells #[.int .i64 z.p, .int .i64 z.e, .int .i64 m.c.s, .int .i64 m.c.h, .int .i64 m.x.p, .int .i64 m.x.e, .int .i64 m.x.s, .int .i64 m.x.h] 25 (0, 0)) := (Joins.block_setCell h1 _).trans rfl
  have h3 : (((w.setCell ⟨sb, 0, none⟩ (.int .i64 z.p)).setCell ⟨sb, 1, none⟩ (.int .i64 z.e)).setCell ⟨sb, 2, none⟩ (.int .i64 z.s)).heap[sb]? = some (.cells #[.int .i64 z.p, .int .i64 z.e, .int .i64 z.s, .int .i64 m.c.h, .int .i64 m.x.p, .int .i64 m.x.e, .int .i64 m.x.s, .int .i64 m.x.h] 25 (0, 0)) := (Joins.block_setCell h2 _).trans rfl
  have h4 : ((((w.setCell ⟨sb, 0, none⟩ (.int .i64 z.p)).setCell ⟨sb, 1, none⟩ (.int .i64 z.e)).setCell ⟨sb, 2, none⟩ (.int .i64 z.s)).setCell ⟨sb, 3, none⟩ (.int .i64 z.h)).heap[sb]? = some (.cells #[.int .i64 z.p, .int .i64 z.e, .int .i64 z.s, .int .i64 z.h, .int .i64 m.x.p, .int .i64 m.x.e, .int .i64 m.x.s, .int .i64 m.x.h] 25 (0, 0)) := (Joins.block_setCell h3 _).trans rfl
  refine ⟨⟨by rw [Below.heap_setCell _ _ _ _ n1, Below.heap_setCell _ _ _ _ n1, Below.heap_setCell _ _ _ _ n1, Below.heap_setCell _ _ _ _ n1]; exact h.row, h4, h.bg, h.bs, own_setR (own_setR (own_setR (own_setR h.own n3) n3) n3) n3⟩, ?_⟩
  have hg : Orf gm sb v sb := .inr (.inl rfl)
  exact (((asd_setR hg _).trans (asd_setR hg _)).trans (asd_setR hg _)).trans (asd_setR hg _)
theorem Rp.seat2 (h : Rp w0 gm sb m v w) (z : SeatM) : Rp w0 gm sb ⟨m.c, z, m.f⟩ v ((((w.setCell ⟨sb, 4, none⟩ (.int .i64 z.p)).setCell ⟨sb, 5, none⟩ (.int .i64 z.e)).setCell ⟨sb, 6, none⟩ (.int .i64 z.s)).setCell ⟨sb, 7, none⟩ (.int .i64 z.h)) ∧ Asd (Orf gm sb v) (Orf gm sb v) w ((((w.setCell ⟨sb, 4, none⟩ (.int .i64 z.p)).setCell ⟨sb, 5, none⟩ (.int .i64 z.e)).setCell ⟨sb, 6, none⟩ (.int .i64 z.s)).setCell ⟨sb, 7, none⟩ (.int .i64 z.h)) := by
  obtain ⟨n1, n2, n3⟩ := h.ne
  have h0 := h.seats
  have h1 : (w.setCell ⟨sb, 4, none⟩ (.int .i64 z.p)).heap[sb]? = some (.cells #[.int .i64 m.c.p, .int .i64 m.c.e, .int .i64 m.c.s, .int .i64 m.c.h, .int .i64 z.p, .int .i64 m.x.e, .int .i64 m.x.s, .int .i64 m.x.h] 25 (0, 0)) := (Joins.block_setCell h0 _).trans rfl
  have h2 : ((w.setCell ⟨sb, 4, none⟩ (.int .i64 z.p)).setCell ⟨sb, 5, none⟩ (.int .i64 z.e)).heap[sb]? = some (.cells #[.int .i64 m.c.p, .int .i64 m.c.e, .int .i64 m.c.s, .int .i64 m.c.h, .int .i64 z.p, .int .i64 z.e, .int .i64 m.x.s, .int .i64 m.x.h] 25 (0, 0)) := (Joins.block_setCell h1 _).trans rfl
  have h3 : (((w.setCell ⟨sb, 4, none⟩ (.int .i64 z.p)).setCell ⟨sb, 5, none⟩ (.int .i64 z.e)).setCell ⟨sb, 6, none⟩ (.int .i64 z.s)).heap[sb]? = some (.cells #[.int .i64 m.c.p, .int .i64 m.c.e, .int .i64 m.c.s, .int .i64 m.c.h, .int .i64 z.p, .int .i64 z.e, .int .i64 z.s, .int .i64 m.x.h] 25 (0, 0)) := (Joins.block_setCell h2 _).trans rfl
  have h4 : ((((w.setCell ⟨sb, 4, none⟩ (.int .i64 z.p)).setCell ⟨sb, 5, none⟩ (.int .i64 z.e)).setCell ⟨sb, 6, none⟩ (.int .i64 z.s)).setCell ⟨sb, 7, none⟩ (.int .i64 z.h)).heap[sb]? = some (.cells #[.int .i64 m.c.p, .int .i64 m.c.e, .int .i64 m.c.s, .int .i64 m.c.h, .int .i64 z.p, .int .i64 z.e, .int .i64 z.s, .int .i64 z.h] 25 (0, 0)) := (Joins.block_setCell h3 _).trans rfl
  refine ⟨⟨by rw [Below.heap_setCell _ _ _ _ n1, Below.heap_setCell _ _ _ _ n1, Below.heap_setCell _ _ _ _ n1, Below.heap_setCell _ _ _ _ n1]; exact h.row, h4, h.bg, h.bs, own_setR (own_setR (own_setR (own_setR h.own n3) n3) n3) n3⟩, ?_⟩
  have hg : Orf gm sb v sb := .inr (.inl rfl)
  exact (((asd_setR hg _).trans (asd_setR hg _)).trans (asd_setR hg _)).trans (asd_setR hg _)
set_option maxRecDepth 100000 in
theorem rpDo_side (e k : Int) (he : ¬ (e = 1 ∨ e = 2)) : Calls Tryd.prog 43 #[.pointer (some ⟨gm, 0, none⟩), .int .i64 e, .int .i64 k] w fun r w' => r = .returned (.int .i64 1) ∧ w = w' := by
  have b1 : (e == 1) = false := by simpa using fun q => he (.inl q)
  have b2 : (e == 2) = false := by simpa using fun q => he (.inr q)
  have c1 : (!(e == 1)) = true := by rw [b1]; rfl
  have c2 : (!(e == 2)) = true := by rw [b2]; rfl
  have d1 : (e != 1) = true := c1
  have d2 : (e != 2) = true := c2
  have n1 : ¬ e = 1 := fun q => he (.inl q)
  have n2 : ¬ e = 2 := fun q => he (.inr q)
  clear he
  go_enter Tryd.func43, Tryd.ntmps43
  go_wp2
  go_ret
  exact ⟨rfl, rfl⟩
set_option maxRecDepth 100000 in
theorem rpDo_full1 (H : Rp w0 gm sb m v w) (k : Int) (hf : 63 < m.f.length) : Calls Tryd.prog 43 #[.pointer (some ⟨gm, 0, none⟩), .int .i64 1, .int .i64 k] w fun r w' => r = .returned (.int .i64 6) ∧ w = w' := by
  obtain ⟨a, cp, rfl⟩ := H.form
  obtain ⟨n, hn⟩ : ∃ n, m.f.length = n := ⟨_, rfl⟩
  have e1 := (cells_2R H.row).2
  rw [hn] at hf e1
  obtain ⟨nn, hnn⟩ : ∃ x : Int, (n : Int) = x := ⟨_, rfl⟩
  have g1 : decide (nn > 63) = true := decide_eq_true (by omega)
  clear H hn hf
  go_enter Tryd.func43, Tryd.ntmps43
  go_wp2
  go_ret
  exact ⟨rfl, rfl⟩
set_option maxRecDepth 100000 in
set_option maxHeartbeats 1000000 in
theorem rpDo_err1 (H : Rp w0 gm sb m v w) (k : Int) (hf : ¬ 63 < m.f.length) (q : Int) (a0 a1 a2 a3 b1 b2 b3 : Int) (b4 : Bool) (hq : (q == 0) = false) (hy : m.c.act k = (q, ⟨⟨a0, a1, a2, a3⟩, b1, b2, b3, b4⟩)) : Calls Tryd.prog 43 #[.pointer (some ⟨gm, 0, none⟩), .int .i64 1, .int .i64 k] w fun r w' => r = .returned (.int .i64 q) ∧ Kp w w' := by
  have ha := fun w1 => refAct_any m.c k w1
  rw [hy] at ha
  dsimp only [seatV, effV] at ha
  have HA := Lib.hid ha
  have HH := Lib.hid H
  obtain ⟨a, cp, rfl⟩ := H.form
  obtain ⟨n, hn⟩ : ∃ n, m.f.length = n := ⟨_, rfl⟩
  have e1 := (cells_2R H.row).2
  rw [hn] at hf e1
  obtain ⟨nn, hnn⟩ : ∃ x : Int, (n : Int) = x := ⟨_, rfl⟩
  have g1 : decide (nn > 63) = false := decide_eq_false (by omega)
  obtain ⟨v0, v1⟩ := cells_2R H.row
  rw [hn] at v1
  obtain ⟨x0, x1, x2, x3, x4, x5, x6, x7⟩ := cells_8 H.seats
  clear H hn hf ha hy
  go_enter Tryd.func43, Tryd.ntmps43
  go_wp2_with (go_at_call 13; (with_reducible refine (HA.out _).mono ?_); rintro e' w5 ⟨rfl, hk⟩; have K5 := Lib.hid (Kp.trans hk (kp_alloc w5 (.cells #[.int .i64 a0, .int .i64 a1, .int .i64 a2, .int .i64 a3, .int .i64 b1, .int .i64 b2, .int .i64 b3, .bool b4] 33))); clear hk)
  go_ret
  exact ⟨rfl, K5.out⟩
set_option maxRecDepth 100000 in
set_option maxHeartbeats 1000000 in
theorem rpDo_ok1 (H : Rp w0 gm sb m v w) (k : Int) (hf : ¬ 63 < m.f.length) (a0 a1 a2 a3 b1 b2 b3 : Int) (b4 : Bool) (hy : m.c.act k = (0, ⟨⟨a0, a1, a2, a3⟩, b1, b2, b3, b4⟩)) : Calls Tryd.prog 43 #[.pointer (some ⟨gm, 0, none⟩), .int .i64 1, .int .i64 k] w fun r w' => r = .returned (.int .i64 0) ∧ ∃ v', Rp w0 gm sb ⟨⟨a0, a1, a2, a3⟩, m.x, putF m.f 1 b1⟩ v' w' ∧ Asd (Orf gm sb v) (Orf gm sb v') w w' := by
  have ha := fun w1 => refAct_any m.c k w1
  rw [hy] at ha
  dsimp only [seatV, effV] at ha
  have HA := Lib.hid ha
  have HLL := Lib.hid (show m.f.length ≤ 100 by omega)
  obtain ⟨a, cp, rfl⟩ := H.form
  obtain ⟨n, hn⟩ : ∃ n, m.f.length = n := ⟨_, rfl⟩
  have e1 := (cells_2R H.row).2
  rw [hn] at hf e1
  obtain ⟨nn, hnn⟩ : ∃ x : Int, (n : Int) = x := ⟨_, rfl⟩
  have HH := Lib.hid H
  have g1 : decide (nn > 63) = false := decide_eq_false (by omega)
  obtain ⟨v0, v1⟩ := cells_2R H.row
  rw [hn] at v1
  obtain ⟨x0, x1, x2, x3, x4, x5, x6, x7⟩ := cells_8 H.seats
  rw [hn] at HH
  rw [hn]
  clear H hn hf ha hy
  go_enter Tryd.func43, Tryd.ntmps43
  go_wp2_with (go_at_call 13; (with_reducible refine (HA.out _).mono ?_); rintro e' w5 ⟨rfl, hk⟩; have B5LE := Lib.hid (Below.size hk); have hk5 := Kp.trans hk (kp_alloc w5 (.cells #[.int .i64 a0, .int .i64 a1, .int .i64 a2, .int .i64 a3, .int .i64 b1, .int .i64 b2, .int .i64 b3, .bool b4] 33)); have K5 := Lib.hid hk5; have R5 := Lib.hid (HH.out.kp hk5); have B5 := Lib.hid (MapKept.heap_alloc w5 (.cells #[.int .i64 a0, .int .i64 a1, .int .i64 a2, .int .i64 a3, .int .i64 b1, .int .i64 b2, .int .i64 b3, .bool b4] 33)).1; obtain ⟨y0, y1, y2, y3, y4, y5, y6, y7⟩ := cells_8 B5.out; obtain ⟨u0, u1⟩ := cells_2R R5.out.row; obtain ⟨s0, s1, s2, s3, s4, s5, s6, s7⟩ := cells_8 R5.out.seats; have fs := frozN R5.out.seats; clear hk hk5)
  go_region
  have sx := R5.out.seat1 ⟨a0, a1, a2, a3⟩
  dsimp only at sx
  obtain ⟨X, hX⟩ : ∃ X, (((((w5.alloc (.cells #[.int .i64 a0, .int .i64 a1, .int .i64 a2, .int .i64 a3, .int .i64 b1, .int .i64 b2, .int .i64 b3, .bool b4] 33)).setCell ⟨sb, 0, none⟩ (.int .i64 a0)).setCell ⟨sb, 1, none⟩ (.int .i64 a1)).setCell ⟨sb, 2, none⟩ (.int .i64 a2)).setCell ⟨sb, 3, none⟩ (.int .i64 a3)).drew = X := ⟨_, rfl⟩
  have PX := Lib.hid (show Rp w0 gm sb ⟨⟨a0, a1, a2, a3⟩, m.x, m.f⟩ (.slice a n cp) X ∧ Asd (Orf gm sb (.slice a n cp)) (Orf gm sb (.slice a n cp)) (w5.alloc (.cells #[.int .i64 a0, .int .i64 a1, .int .i64 a2, .int .i64 a3, .int .i64 b1, .int .i64 b2, .int .i64 b3, .bool b4] 33)) X by rw [← hX]; exact ⟨sx.1.drew, sx.2.drewR⟩)
  have BX := (PX.out.2.row B5.out (fun q => absurd ((HH.out.mem _ q).2) (by have := Below.size K5.out; have := old_of_row B5.out; exact Nat.not_lt.2 (B5LE.out))))
  rw [hX]
  clear sx hX y0 y1 y2 y3 y4 y5 y6 y7 u0 u1 s0 s1 s2 s3 s4 s5 s6 s7 fs
  obtain ⟨y0, y1, y2, y3, y4, y5, y6, y7⟩ := cells_8 BX
  have HPT := Lib.hid (rpPut_any PX.out.1 1 b1 (by decide) HLL.out)
  dsimp only at HPT
  clear BX
  go_wp2_with (go_at_call 72; (with_reducible refine HPT.out.mono ?_); rintro e' w6 ⟨rfl, v', hp, ha⟩; have R6 := Lib.hid (And.intro hp (((Asd.of_kp _ K5.out).trans PX.out.2).trans ha)); clear hp ha)
  go_ret
  exact ⟨rfl, _, R6.out.1, R6.out.2⟩
set_option maxRecDepth 100000 in
theorem rpDo_full2 (H : Rp w0 gm sb m v w) (k : Int) (hf : 63 < m.f.length) : Calls Tryd.prog 43 #[.pointer (some ⟨gm, 0, none⟩), .int .i64 2, .int .i64 k] w fun r w' => r = .returned (.int .i64 6) ∧ w = w' := by
  obtain ⟨a, cp, rfl⟩ := H.form
  obtain ⟨n, hn⟩ : ∃ n, m.f.length = n := ⟨_, rfl⟩
  have e1 := (cells_2R H.row).2
  rw [hn] at hf e1
  obtain ⟨nn, hnn⟩ : ∃ x : Int, (n : Int) = x := ⟨_, rfl⟩
  have g1 : decide (nn > 63) = true := decide_eq_true (by omega)
  clear H hn hf
  go_enter Tryd.func43, Tryd.ntmps43
  go_wp2
  go_ret
  exact ⟨rfl, rfl⟩
set_option maxRecDepth 100000 in
set_option maxHeartbeats 1000000 in
theorem rpDo_err2 (H : Rp w0 gm sb m v w) (k : Int) (hf : ¬ 63 < m.f.length) (q : Int) (a0 a1 a2 a3 b1 b2 b3 : Int) (b4 : Bool) (hq : (q == 0) = false) (hy : m.x.act k = (q, ⟨⟨a0, a1, a2, a3⟩, b1, b2, b3, b4⟩)) : Calls Tryd.prog 43 #[.pointer (some ⟨gm, 0, none⟩), .int .i64 2, .int .i64 k] w fun r w' => r = .returned (.int .i64 q) ∧ Kp w w' := by
  have ha := fun w1 => refAct_any m.x k w1
  rw [hy] at ha
  dsimp only [seatV, effV] at ha
  have HA := Lib.hid ha
  have HH := Lib.hid H
  obtain ⟨a, cp, rfl⟩ := H.form
  obtain ⟨n, hn⟩ : ∃ n, m.f.length = n := ⟨_, rfl⟩
  have e1 := (cells_2R H.row).2
  rw [hn] at hf e1
  obtain ⟨nn, hnn⟩ : ∃ x : Int, (n : Int) = x := ⟨_, rfl⟩
  have g1 : decide (nn > 63) = false := decide_eq_false (by omega)
  obtain ⟨v0, v1⟩ := cells_2R H.row
  rw [hn] at v1
  obtain ⟨x0, x1, x2, x3, x4, x5, x6, x7⟩ := cells_8 H.seats
  clear H hn hf ha hy
  go_enter Tryd.func43, Tryd.ntmps43
  go_wp2_with (go_at_call 13; (with_reducible refine (HA.out _).mono ?_); rintro e' w5 ⟨rfl, hk⟩; have K5 := Lib.hid (Kp.trans hk (kp_alloc w5 (.cells #[.int .i64 a0, .int .i64 a1, .int .i64 a2, .int .i64 a3, .int .i64 b1, .int .i64 b2, .int .i64 b3, .bool b4] 33))); clear hk)
  go_ret
  exact ⟨rfl, K5.out⟩
set_option maxRecDepth 100000 in
set_option maxHeartbeats 1000000 in
theorem rpDo_ok2 (H : Rp w0 gm sb m v w) (k : Int) (hf : ¬ 63 < m.f.length) (a0 a1 a2 a3 b1 b2 b3 : Int) (b4 : Bool) (hy : m.x.act k = (0, ⟨⟨a0, a1, a2, a3⟩, b1, b2, b3, b4⟩)) : Calls Tryd.prog 43 #[.pointer (some ⟨gm, 0, none⟩), .int .i64 2, .int .i64 k] w fun r w' => r = .returned (.int .i64 0) ∧ ∃ v', Rp w0 gm sb ⟨m.c, ⟨a0, a1, a2, a3⟩, putF m.f 2 b1⟩ v' w' ∧ Asd (Orf gm sb v) (Orf gm sb v') w w' := by
  have ha := fun w1 => refAct_any m.x k w1
  rw [hy] at ha
  dsimp only [seatV, effV] at ha
  have HA := Lib.hid ha
  have HLL := Lib.hid (show m.f.length ≤ 100 by omega)
  obtain ⟨a, cp, rfl⟩ := H.form
  obtain ⟨n, hn⟩ : ∃ n, m.f.length = n := ⟨_, rfl⟩
  have e1 := (cells_2R H.row).2
  rw [hn] at hf e1
  obtain ⟨nn, hnn⟩ : ∃ x : Int, (n : Int) = x := ⟨_, rfl⟩
  have HH := Lib.hid H
  have g1 : decide (nn > 63) = false := decide_eq_false (by omega)
  obtain ⟨v0, v1⟩ := cells_2R H.row
  rw [hn] at v1
  obtain ⟨x0, x1, x2, x3, x4, x5, x6, x7⟩ := cells_8 H.seats
  rw [hn] at HH
  rw [hn]
  clear H hn hf ha hy
  go_enter Tryd.func43, Tryd.ntmps43
  go_wp2_with (go_at_call 13; (with_reducible refine (HA.out _).mono ?_); rintro e' w5 ⟨rfl, hk⟩; have B5LE := Lib.hid (Below.size hk); have hk5 := Kp.trans hk (kp_alloc w5 (.cells #[.int .i64 a0, .int .i64 a1, .int .i64 a2, .int .i64 a3, .int .i64 b1, .int .i64 b2, .int .i64 b3, .bool b4] 33)); have K5 := Lib.hid hk5; have R5 := Lib.hid (HH.out.kp hk5); have B5 := Lib.hid (MapKept.heap_alloc w5 (.cells #[.int .i64 a0, .int .i64 a1, .int .i64 a2, .int .i64 a3, .int .i64 b1, .int .i64 b2, .int .i64 b3, .bool b4] 33)).1; obtain ⟨y0, y1, y2, y3, y4, y5, y6, y7⟩ := cells_8 B5.out; obtain ⟨u0, u1⟩ := cells_2R R5.out.row; obtain ⟨s0, s1, s2, s3, s4, s5, s6, s7⟩ := cells_8 R5.out.seats; have fs := frozN R5.out.seats; clear hk hk5)
  go_region
  have sx := R5.out.seat2 ⟨a0, a1, a2, a3⟩
  dsimp only at sx
  obtain ⟨X, hX⟩ : ∃ X, (((((w5.alloc (.cells #[.int .i64 a0, .int .i64 a1, .int .i64 a2, .int .i64 a3, .int .i64 b1, .int .i64 b2, .int .i64 b3, .bool b4] 33)).setCell ⟨sb, 4, none⟩ (.int .i64 a0)).setCell ⟨sb, 5, none⟩ (.int .i64 a1)).setCell ⟨sb, 6, none⟩ (.int .i64 a2)).setCell ⟨sb, 7, none⟩ (.int .i64 a3)).drew = X := ⟨_, rfl⟩
  have PX := Lib.hid (show Rp w0 gm sb ⟨m.c, ⟨a0, a1, a2, a3⟩, m.f⟩ (.slice a n cp) X ∧ Asd (Orf gm sb (.slice a n cp)) (Orf gm sb (.slice a n cp)) (w5.alloc (.cells #[.int .i64 a0, .int .i64 a1, .int .i64 a2, .int .i64 a3, .int .i64 b1, .int .i64 b2, .int .i64 b3, .bool b4] 33)) X by rw [← hX]; exact ⟨sx.1.drew, sx.2.drewR⟩)
  have BX := (PX.out.2.row B5.out (fun q => absurd ((HH.out.mem _ q).2) (by have := Below.size K5.out; have := old_of_row B5.out; exact Nat.not_lt.2 (B5LE.out))))
  rw [hX]
  clear sx hX y0 y1 y2 y3 y4 y5 y6 y7 u0 u1 s0 s1 s2 s3 s4 s5 s6 s7 fs
  obtain ⟨y0, y1, y2, y3, y4, y5, y6, y7⟩ := cells_8 BX
  have HPT := Lib.hid (rpPut_any PX.out.1 2 b1 (by decide) HLL.out)
  dsimp only at HPT
  clear BX
  go_wp2_with (go_at_call 72; (with_reducible refine HPT.out.mono ?_); rintro e' w6 ⟨rfl, v', hp, ha⟩; have R6 := Lib.hid (And.intro hp (((Asd.of_kp _ K5.out).trans PX.out.2).trans ha)); clear hp ha)
  go_ret
  exact ⟨rfl, _, R6.out.1, R6.out.2⟩
theorem rpDo_any (H : Rp w0 gm sb m v w) (hl : m.f.length ≤ 64) (e k : Int) : Calls Tryd.prog 43 #[.pointer (some ⟨gm, 0, none⟩), .int .i64 e, .int .i64 k] w fun r w' => r = .returned (.int .i64 (m.act e k).1) ∧ ∃ v', Rp w0 gm sb (m.act e k).2 v' w' ∧ Asd (Orf gm sb v) (Orf gm sb v') w w' := by
  have _u := hl
  clear _u
  unfold PairM.act
  by_cases he : e = 1 ∨ e = 2
  · rw [if_neg (by omega)]
    by_cases hf : 63 < m.f.length
    · rw [if_pos hf]
      rcases he with rfl | rfl
      · exact (rpDo_full1 H k hf).mono fun r w' ⟨q1, q2⟩ => ⟨q1, v, q2 ▸ H, q2 ▸ Asd.refl _ _⟩
      · exact (rpDo_full2 H k hf).mono fun r w' ⟨q1, q2⟩ => ⟨q1, v, q2 ▸ H, q2 ▸ Asd.refl _ _⟩
    · rw [if_neg hf]
      obtain ⟨⟨q, ⟨⟨a0, a1, a2, a3⟩, b1, b2, b3, b4⟩⟩, hy⟩ : ∃ x, (m.seat e).act k = x := ⟨_, rfl⟩
      rw [hy]
      dsimp only
      by_cases hq : q ≠ 0
      · rw [if_pos hq]
        dsimp only
        rcases he with rfl | rfl
        · exact (rpDo_err1 H k hf q a0 a1 a2 a3 b1 b2 b3 b4 (by simpa using hq) hy).mono fun r w' ⟨q1, q2⟩ => ⟨q1, v, H.kp q2, Asd.of_kp _ q2⟩
        · exact (rpDo_err2 H k hf q a0 a1 a2 a3 b1 b2 b3 b4 (by simpa using hq) hy).mono fun r w' ⟨q1, q2⟩ => ⟨q1, v, H.kp q2, Asd.of_kp _ q2⟩
      · rw [if_neg hq]
        have hq : q = 0 := by omega
        subst hq
        rcases he with rfl | rfl
        · exact rpDo_ok1 H k hf a0 a1 a2 a3 b1 b2 b3 b4 hy
        · exact rpDo_ok2 H k hf a0 a1 a2 a3 b1 b2 b3 b4 hy
  · rw [if_pos (by omega)]
    exact (rpDo_side e k he).mono fun r w' ⟨q1, q2⟩ => ⟨q1, v, q2 ▸ H, q2 ▸ Asd.refl _ _⟩
theorem ne_decR (k : Int) : (Ending.returned (.bool (k != 0)) : Ending) = .returned (.bool (decide (k ≠ 0))) := by
  by_cases h : k = 0 <;> simp [h]
set_option maxRecDepth 100000 in
theorem rpAgain_side (e : Int) (he : ¬ (e = 1 ∨ e = 2)) : Calls Tryd.prog 44 #[.pointer (some ⟨gm, 0, none⟩), .int .i64 e] w fun r w' => r = .returned (.bool false) ∧ w = w' := by
  have b1 : (e == 1) = false := by simpa using fun q => he (.inl q)
  have b2 : (e == 2) = false := by simpa using fun q => he (.inr q)
  have c1 : (!(e == 1)) = true := by rw [b1]; rfl
  have c2 : (!(e == 2)) = true := by rw [b2]; rfl
  have d1 : (e != 1) = true := c1
  have d2 : (e != 2) = true := c2
  have n1 : ¬ e = 1 := fun q => he (.inl q)
  have n2 : ¬ e = 2 := fun q => he (.inr q)
  clear he
  go_enter Tryd.func44, Tryd.ntmps44
  go_wp2
  go_ret
  exact ⟨rfl, rfl⟩
set_option maxRecDepth 100000 in
theorem rpAgain_full1 (H : Rp w0 gm sb m v w) (hf : 63 < m.f.length) : Calls Tryd.prog 44 #[.pointer (some ⟨gm, 0, none⟩), .int .i64 1] w fun r w' => r = .returned (.bool false) ∧ w = w' := by
  obtain ⟨a, cp, rfl⟩ := H.form
  obtain ⟨n, hn⟩ : ∃ n, m.f.length = n := ⟨_, rfl⟩
  have e1 := (cells_2R H.row).2
  rw [hn] at hf e1
  obtain ⟨nn, hnn⟩ : ∃ x : Int, (n : Int) = x := ⟨_, rfl⟩
  have g1 : decide (nn > 63) = true := decide_eq_true (by omega)
  clear H hn hf
  go_enter Tryd.func44, Tryd.ntmps44
  go_wp2
  go_ret
  exact ⟨rfl, rfl⟩
set_option maxRecDepth 100000 in
set_option maxHeartbeats 1000000 in
theorem rpAgain_ok1 (H : Rp w0 gm sb m v w) (hf : ¬ 63 < m.f.length) : Calls Tryd.prog 44 #[.pointer (some ⟨gm, 0, none⟩), .int .i64 1] w fun r w' => r = .returned (.bool (decide ((waitT 1 m.c.s) ≠ 0))) ∧ ∃ v', Rp w0 gm sb ⟨m.c, m.x, putF m.f 1 (waitT 1 m.c.s)⟩ v' w' ∧ Asd (Orf gm sb v) (Orf gm sb v') w w' := by
  have HLL := Lib.hid (show m.f.length ≤ 100 by omega)
  obtain ⟨k, hk⟩ : ∃ k, waitT 1 m.c.s = k := ⟨_, rfl⟩
  have hw := fun w1 => refWaits_any 1 m.c.s w1
  rw [hk] at hw ⊢
  have HW := Lib.hid hw
  have HPT := Lib.hid (rpPut_any H 1 k (by decide) HLL.out)
  obtain ⟨a, cp, rfl⟩ := H.form
  obtain ⟨n, hn⟩ : ∃ n, m.f.length = n := ⟨_, rfl⟩
  obtain ⟨v0, v1⟩ := cells_2R H.row
  rw [hn] at hf v1 HPT ⊢
  obtain ⟨nn, hnn⟩ : ∃ x : Int, (n : Int) = x := ⟨_, rfl⟩
  have g1 : decide (nn > 63) = false := decide_eq_false (by omega)
  obtain ⟨x0, x1, x2, x3, x4, x5, x6, x7⟩ := cells_8 H.seats
  clear H hn hf hw hk
  go_enter Tryd.func44, Tryd.ntmps44
  go_wp2_with (first | (go_at_call 73; (with_reducible refine (HW.out _).mono ?_); rintro e' w5 ⟨rfl, rfl⟩) | (go_at_call 72; (with_reducible refine HPT.out.mono ?_); rintro e' w6 ⟨rfl, v', hp, ha⟩; have R6 := Lib.hid (And.intro hp ha); clear hp ha))
  go_ret
  exact ⟨by first | rfl | exact ne_decR k, _, R6.out.1, R6.out.2⟩
set_option maxRecDepth 100000 in
theorem rpAgain_full2 (H : Rp w0 gm sb m v w) (hf : 63 < m.f.length) : Calls Tryd.prog 44 #[.pointer (some ⟨gm, 0, none⟩), .int .i64 2] w fun r w' => r = .returned (.bool false) ∧ w = w' := by
  obtain ⟨a, cp, rfl⟩ := H.form
  obtain ⟨n, hn⟩ : ∃ n, m.f.length = n := ⟨_, rfl⟩
  have e1 := (cells_2R H.row).2
  rw [hn] at hf e1
  obtain ⟨nn, hnn⟩ : ∃ x : Int, (n : Int) = x := ⟨_, rfl⟩
  have g1 : decide (nn > 63) = true := decide_eq_true (by omega)
  clear H hn hf
  go_enter Tryd.func44, Tryd.ntmps44
  go_wp2
  go_ret
  exact ⟨rfl, rfl⟩
set_option maxRecDepth 100000 in
set_option maxHeartbeats 1000000 in
theorem rpAgain_ok2 (H : Rp w0 gm sb m v w) (hf : ¬ 63 < m.f.length) : Calls Tryd.prog 44 #[.pointer (some ⟨gm, 0, none⟩), .int .i64 2] w fun r w' => r = .returned (.bool (decide ((waitT 2 m.x.s) ≠ 0))) ∧ ∃ v', Rp w0 gm sb ⟨m.c, m.x, putF m.f 2 (waitT 2 m.x.s)⟩ v' w' ∧ Asd (Orf gm sb v) (Orf gm sb v') w w' := by
  have HLL := Lib.hid (show m.f.length ≤ 100 by omega)
  obtain ⟨k, hk⟩ : ∃ k, waitT 2 m.x.s = k := ⟨_, rfl⟩
  have hw := fun w1 => refWaits_any 2 m.x.s w1
  rw [hk] at hw ⊢
  have HW := Lib.hid hw
  have HPT := Lib.hid (rpPut_any H 2 k (by decide) HLL.out)
  obtain ⟨a, cp, rfl⟩ := H.form
  obtain ⟨n, hn⟩ : ∃ n, m.f.length = n := ⟨_, rfl⟩
  obtain ⟨v0, v1⟩ := cells_2R H.row
  rw [hn] at hf v1 HPT ⊢
  obtain ⟨nn, hnn⟩ : ∃ x : Int, (n : Int) = x := ⟨_, rfl⟩
  have g1 : decide (nn > 63) = false := decide_eq_false (by omega)
  obtain ⟨x0, x1, x2, x3, x4, x5, x6, x7⟩ := cells_8 H.seats
  clear H hn hf hw hk
  go_enter Tryd.func44, Tryd.ntmps44
  go_wp2_with (first | (go_at_call 73; (with_reducible refine (HW.out _).mono ?_); rintro e' w5 ⟨rfl, rfl⟩) | (go_at_call 72; (with_reducible refine HPT.out.mono ?_); rintro e' w6 ⟨rfl, v', hp, ha⟩; have R6 := Lib.hid (And.intro hp ha); clear hp ha))
  go_ret
  exact ⟨by first | rfl | exact ne_decR k, _, R6.out.1, R6.out.2⟩
theorem rpAgain_any (H : Rp w0 gm sb m v w) (h1 : m.c.e = 1) (h2 : m.x.e = 2) (e : Int) : Calls Tryd.prog 44 #[.pointer (some ⟨gm, 0, none⟩), .int .i64 e] w fun r w' => r = .returned (.bool (m.again e).1) ∧ ∃ v', Rp w0 gm sb (m.again e).2 v' w' ∧ Asd (Orf gm sb v) (Orf gm sb v') w w' := by
  unfold PairM.again
  by_cases he : e = 1 ∨ e = 2
  · by_cases hf : 63 < m.f.length
    · rw [if_pos (.inr hf)]
      rcases he with rfl | rfl
      · exact (rpAgain_full1 H hf).mono fun r w' ⟨q1, q2⟩ => ⟨q1, v, q2 ▸ H, q2 ▸ Asd.refl _ _⟩
      · exact (rpAgain_full2 H hf).mono fun r w' ⟨q1, q2⟩ => ⟨q1, v, q2 ▸ H, q2 ▸ Asd.refl _ _⟩
    · rw [if_neg (by omega)]
      rcases he with rfl | rfl
      · have q : (m.seat 1).waits = waitT 1 m.c.s := by show waitT m.c.e m.c.s = _; rw [h1]
        rw [q]
        exact rpAgain_ok1 H hf
      · have q : (m.seat 2).waits = waitT 2 m.x.s := by show waitT m.x.e m.x.s = _; rw [h2]
        rw [q]
        exact rpAgain_ok2 H hf
  · rw [if_pos (.inl (by omega))]
    exact (rpAgain_side e he).mono fun r w' ⟨q1, q2⟩ => ⟨q1, v, q2 ▸ H, q2 ▸ Asd.refl _ _⟩
end Go.Proofs.YtghjnhdepeiloaaDoor

namespace Go.Proofs.YtghjnhdepeiloaaDoor
open Go.RowKit Go.ChangeShapes Go.WideShapes
variable {w0 w w' W w3 : World} {gm sb : Nat} {m : PairM} {v v' : Value}

set_option maxRecDepth 100000 in
theorem rpDl_range (H : Rp w0 gm sb m v w) (ii : Int) (cp : Bool) (hi : ¬ (0 ≤ ii ∧ ii < m.f.length)) : Calls Tryd.prog 45 #[.pointer (some ⟨gm, 0, none⟩), .int .i64 ii, .bool cp] w fun r w' => r = .returned (.tuple #[.agg #[.int .i64 0, .int .i64 0, .int .i64 0, .int .i64 0, .int .i64 0, .int .i64 0, .int .i64 0, .bool false], .int .i64 1]) ∧ Kp w w' := by
  have K1 := Lib.hid (kp_alloc w (.cells #[.int .i64 0, .int .i64 0, .int .i64 0, .int .i64 0, .int .i64 0, .int .i64 0, .int .i64 0, .bool false] 33))
  have HZ := Lib.hid (MapKept.heap_alloc w (.cells #[.int .i64 0, .int .i64 0, .int .i64 0, .int .i64 0, .int .i64 0, .int .i64 0, .int .i64 0, .bool false] 33)).1
  obtain ⟨a, cpp, rfl⟩ := H.form
  obtain ⟨n, hn⟩ : ∃ n, m.f.length = n := ⟨_, rfl⟩
  have e1 := kp_cell K1.out (cells_2R H.row).2
  obtain ⟨z0, z1, z2, z3, z4, z5, z6, z7⟩ := cells_8 HZ.out
  have fz := frozN HZ.out
  obtain ⟨nn, hnn⟩ : ∃ x : Int, (n : Int) = x := ⟨_, rfl⟩
  rw [hn] at e1 hi
  clear H hn
  by_cases h0 : ii < 0
  · have g0 : decide (ii < 0) = true := decide_eq_true h0
    clear hi h0
    go_enter Tryd.func45, Tryd.ntmps45
    go_wp2
    first
      | refine bodyPost_ret (results_row_tmpT (p := 6) (u := 7) rfl _ _ w.heap.size 33 _ (0, 0) _ rfl HZ.out Tryd.underlying33 rfl (by kernel_rfl)) rfl ?_; exact ⟨rfl, K1.out⟩
      | refine bodyPost_ret (results_row_tmpT (p := 6) (u := 7) rfl _ _ w.heap.size 33 _ (0, 0) _ rfl (set_8 _ _ _ _ _ _ _ _ HZ.out) Tryd.underlying33 rfl (by kernel_rfl)) rfl ?_; exact ⟨rfl, set_8_kp K1.out (Nat.le_refl _) _ _ _ _ _ _ _ _⟩
  · have g0 : decide (ii < 0) = false := decide_eq_false h0
    have g1 : decide (ii ≥ nn) = true := decide_eq_true (by omega)
    clear hi h0
    go_enter Tryd.func45, Tryd.ntmps45
    go_wp2
    first
      | refine bodyPost_ret (results_row_tmpT (p := 6) (u := 7) rfl _ _ w.heap.size 33 _ (0, 0) _ rfl HZ.out Tryd.underlying33 rfl (by kernel_rfl)) rfl ?_; exact ⟨rfl, K1.out⟩
      | refine bodyPost_ret (results_row_tmpT (p := 6) (u := 7) rfl _ _ w.heap.size 33 _ (0, 0) _ rfl (set_8 _ _ _ _ _ _ _ _ HZ.out) Tryd.underlying33 rfl (by kernel_rfl)) rfl ?_; exact ⟨rfl, set_8_kp K1.out (Nat.le_refl _) _ _ _ _ _ _ _ _⟩
set_option maxRecDepth 100000 in
theorem rpDl_full (H : Rp w0 gm sb m v w) (ii : Int) (hi : 0 ≤ ii ∧ ii < m.f.length) (hl : 63 < m.f.length) : Calls Tryd.prog 45 #[.pointer (some ⟨gm, 0, none⟩), .int .i64 ii, .bool true] w fun r w' => r = .returned (.tuple #[.agg #[.int .i64 0, .int .i64 0, .int .i64 0, .int .i64 0, .int .i64 0, .int .i64 0, .int .i64 0, .bool false], .int .i64 6]) ∧ Kp w w' := by
  have K1 := Lib.hid (kp_alloc w (.cells #[.int .i64 0, .int .i64 0, .int .i64 0, .int .i64 0, .int .i64 0, .int .i64 0, .int .i64 0, .bool false] 33))
  have HZ := Lib.hid (MapKept.heap_alloc w (.cells #[.int .i64 0, .int .i64 0, .int .i64 0, .int .i64 0, .int .i64 0, .int .i64 0, .int .i64 0, .bool false] 33)).1
  obtain ⟨a, cpp, rfl⟩ := H.form
  obtain ⟨n, hn⟩ : ∃ n, m.f.length = n := ⟨_, rfl⟩
  have e1 := kp_cell K1.out (cells_2R H.row).2
  obtain ⟨z0, z1, z2, z3, z4, z5, z6, z7⟩ := cells_8 HZ.out
  have fz := frozN HZ.out
  obtain ⟨nn, hnn⟩ : ∃ x : Int, (n : Int) = x := ⟨_, rfl⟩
  rw [hn] at e1 hi hl
  have g0 : decide (ii < 0) = false := decide_eq_false (by omega)
  have g1 : decide (ii ≥ nn) = false := decide_eq_false (by omega)
  have g2 : decide (nn > 63) = true := decide_eq_true (by omega)
  clear H hn hi hl
  go_enter Tryd.func45, Tryd.ntmps45
  go_wp2
  first
    | refine bodyPost_ret (results_row_tmpT (p := 6) (u := 7) rfl _ _ w.heap.size 33 _ (0, 0) _ rfl HZ.out Tryd.underlying33 rfl (by kernel_rfl)) rfl ?_; exact ⟨rfl, K1.out⟩
    | refine bodyPost_ret (results_row_tmpT (p := 6) (u := 7) rfl _ _ w.heap.size 33 _ (0, 0) _ rfl (set_8 _ _ _ _ _ _ _ _ HZ.out) Tryd.underlying33 rfl (by kernel_rfl)) rfl ?_; exact ⟨rfl, set_8_kp K1.out (Nat.le_refl _) _ _ _ _ _ _ _ _⟩
set_option maxRecDepth 100000 in
set_option maxHeartbeats 8000000 in
theorem rpDl_true1 (H : Rp w0 gm sb m v w) (hl : m.f.length ≤ 63) (i : Nat) (ii : Int) (hii : (i : Int) = ii) (hi : i < m.f.length) (k : Int) (hq : m.f[i] = (1, k)) (a0 a1 a2 a3 b1 b2 b3 : Int) (b4 : Bool) (hy : m.c.tell k = (0, ⟨⟨a0, a1, a2, a3⟩, b1, b2, b3, b4⟩)) :
    Calls Tryd.prog 45 #[.pointer (some ⟨gm, 0, none⟩), .int .i64 ii, .bool true] w fun r w' => r = .returned (.tuple #[.agg #[.int .i64 a0, .int .i64 a1, .int .i64 a2, .int .i64 a3, .int .i64 b1, .int .i64 b2, .int .i64 b3, .bool b4], .int .i64 0]) ∧ ∃ v', Rp w0 gm sb ⟨⟨a0, a1, a2, a3⟩, m.x, putF m.f 1 b1⟩ v' w' ∧ Asd (Orf gm sb v) (Orf gm sb v') w w' := by
  have K1 := kp_alloc w (.cells #[.int .i64 0, .int .i64 0, .int .i64 0, .int .i64 0, .int .i64 0, .int .i64 0, .int .i64 0, .bool false] 33)
  have HZ := (MapKept.heap_alloc w (.cells #[.int .i64 0, .int .i64 0, .int .i64 0, .int .i64 0, .int .i64 0, .int .i64 0, .int .i64 0, .bool false] 33)).1
  obtain ⟨W, hW⟩ : ∃ W, ((w.alloc (.cells #[.int .i64 0, .int .i64 0, .int .i64 0, .int .i64 0, .int .i64 0, .int .i64 0, .int .i64 0, .bool false] 33)).alloc (.cells #[.int .i64 1, .int .i64 k] 57)) = W := ⟨_, rfl⟩
  have k2 := kp_alloc (w.alloc (.cells #[.int .i64 0, .int .i64 0, .int .i64 0, .int .i64 0, .int .i64 0, .int .i64 0, .int .i64 0, .bool false] 33)) (.cells #[.int .i64 1, .int .i64 k] 57)
  have t2 := (MapKept.heap_alloc (w.alloc (.cells #[.int .i64 0, .int .i64 0, .int .i64 0, .int .i64 0, .int .i64 0, .int .i64 0, .int .i64 0, .bool false] 33)) (.cells #[.int .i64 1, .int .i64 k] 57)).1
  rw [show (w.alloc (.cells #[.int .i64 0, .int .i64 0, .int .i64 0, .int .i64 0, .int .i64 0, .int .i64 0, .int .i64 0, .bool false] 33)).heap.size = w.heap.size + 1 by simp] at t2
  have WS := Lib.hid (show W.heap.size = w.heap.size + 2 by rw [← hW]; simp)
  have zw := kp_row k2 HZ
  rw [hW] at k2 t2 zw
  have KW := Lib.hid (Kp.trans K1 k2)
  have TW := Lib.hid t2
  have ZW := Lib.hid zw
  have GW := Lib.hid (kp_row KW.out H.row)
  have SW := Lib.hid (kp_row KW.out H.seats)
  have ht := fun w1 => refTell_any m.c k w1
  rw [hy] at ht
  dsimp only [seatV, effV] at ht
  have HT := Lib.hid ht
  have HPT := Lib.hid (fun v1 w1 (H1 : Rp w0 gm sb ⟨⟨a0, a1, a2, a3⟩, m.x, m.f⟩ v1 w1) => (show Calls Tryd.prog 72 #[.pointer (some ⟨gm, 0, none⟩), .int .i64 1, .int .i64 b1] w1 fun r w' => r = .returned (.tuple #[]) ∧ ∃ v', Rp w0 gm sb ⟨⟨a0, a1, a2, a3⟩, m.x, putF m.f 1 b1⟩ v' w' ∧ Asd (Orf gm sb v1) (Orf gm sb v') w1 w' from rpPut_any H1 1 b1 (by decide) (by show m.f.length ≤ 100; omega)))
  have hown := H.own
  rcases hown.2 with ⟨rfl, h0⟩ | ⟨bv, cp, cur, rfl, hb, hh, hnc, hcm, hcs, ht2⟩
  · omega
  have NOB := Lib.hid (fun b (h1 : w.heap.size ≤ b) => (fun q => absurd (H.mem b q).2 (by omega) : ¬ Orf gm sb _ b))
  have c0 := kp_cell K1 (H.own.cells rfl (2 * i) _ (flyB_at m.f i hi).1)
  have c1 := kp_cell K1 (H.own.cells rfl (2 * i + 1) _ (flyB_at m.f i hi).2)
  rw [Addr.add_lit, hq] at c0 c1
  dsimp only at c0 c1
  rw [Nat.zero_add, show 2 * i = ii.toNat * 2 by omega] at c0
  rw [Nat.zero_add, show 2 * i + 1 = ii.toNat * 2 + 1 by omega] at c1
  have e1 := kp_cell K1 (cells_2R H.row).2
  obtain ⟨n, hn⟩ : ∃ n, m.f.length = n := ⟨_, rfl⟩
  rw [hn] at H NOB GW e1 hi hl hnc ⊢
  have HH := Lib.hid H
  have PK := Lib.hid (And.intro hii (And.intro hi (And.intro (show n ≤ 64 by omega) (And.intro hn hnc))))
  obtain ⟨nn, hnn⟩ : ∃ x : Int, (n : Int) = x := ⟨_, rfl⟩
  have g0 : decide (ii < 0) = false := decide_eq_false (by omega)
  have g1 : decide (ii ≥ nn) = false := decide_eq_false (by omega)
  have g2 : decide (nn > 63) = false := decide_eq_false (by omega)
  have y0 : 0 ≤ ii := by omega
  have y1 : ii < nn := by omega
  have y2 : ii < n := by omega
  have HW := Lib.hid hW
  clear hW K1 HZ k2 t2 zw H hown ht hy hh ht2 hcs hcm hb hn hq hi hii hl hnc
  go_enter Tryd.func45, Tryd.ntmps45
  go_wp2_with fail
  try rw [HW.out]
  have wr : IntKind.i64.wrap 0 = 0 := by decide
  clear hnn g0 g1 y0 y1 y2 c0 c1 e1 g2
  refine wp_region_held_drew (S := fun w' => Kp W w') (by kernel_rfl) ?_ (fun hHeld => ?_)
  · exact kp_drewM (Kp.refl _)
  refine wpAnyH_take (i := 0) (v := ?_) rfl (by kernel_rfl) (by kernel_rfl) (by kernel_rfl) (fun _ _ _ h => h) (Or.inl ⟨by rfl, ?_⟩) (by assumption) ?_
  rotate_left
  · intro w hSw; go_simp; try with_reducible rfl
  go_simp
  refine wpAnyH_take (i := 1) (v := ?_) rfl (by kernel_rfl) (by kernel_rfl) (by kernel_rfl) (fun _ _ _ h => h) (Or.inl ⟨by rfl, ?_⟩) (by assumption) ?_
  rotate_left
  · intro w hSw; go_simp; try with_reducible rfl
  go_simp
  refine wpAnyH_take (i := 2) (v := ?_) rfl (by kernel_rfl) (by kernel_rfl) (by kernel_rfl) (fun _ _ _ h => h) (Or.inl ⟨by rfl, ?_⟩) (by assumption) ?_
  rotate_left
  · intro w hSw; go_simp; try with_reducible rfl
  go_simp
  refine wpAnyH_take (i := 3) (v := ?_) rfl (by kernel_rfl) (by kernel_rfl) (by kernel_rfl) (fun _ _ _ h => h) (Or.inl ⟨by rfl, ?_⟩) (by assumption) ?_
  rotate_left
  · intro w hSw; obtain ⟨q0, q1⟩ := cells_2R (kp_row hSw GW.out); go_simp; try with_reducible rfl
  go_simp
  refine wpAnyH_take (i := 4) (v := ?_) rfl (by kernel_rfl) (by kernel_rfl) (by kernel_rfl) (fun _ _ _ h => h) (Or.inl ⟨by rfl, ?_⟩) (by assumption) ?_
  rotate_left
  · intro w hSw; go_simp; try with_reducible rfl
  go_simp
  refine wpAnyH_take (i := 5) (v := ?_) rfl (by kernel_rfl) (by kernel_rfl) (by kernel_rfl) (fun _ _ _ h => h) (Or.inl ⟨by rfl, ?_⟩) (by assumption) ?_
  rotate_left
  · intro w hSw; obtain ⟨q0, q1⟩ := cells_2M (kp_row hSw TW.out); go_simp; try with_reducible rfl
  go_simp
  refine wpAnyH_take (i := 6) (v := ?_) rfl (by kernel_rfl) (by kernel_rfl) (by kernel_rfl) (fun _ _ _ h => h) (Or.inl ⟨by rfl, ?_⟩) (by assumption) ?_
  rotate_left
  · intro w hSw; go_simp; try with_reducible rfl
  go_simp
  refine wpAnyH_take (i := 7) (v := ?_) rfl (by kernel_rfl) (by kernel_rfl) (by kernel_rfl) (fun _ _ _ h => h) (Or.inl ⟨by rfl, ?_⟩) (by assumption) ?_
  rotate_left
  · intro w hSw; go_simp; try with_reducible rfl
  go_simp
  refine wpAnyH_take (i := 8) (v := ?_) rfl (by kernel_rfl) (by kernel_rfl) (by kernel_rfl) (fun _ _ _ h => h) (Or.inl ⟨by rfl, ?_⟩) (by assumption) ?_
  rotate_left
  · intro w hSw; obtain ⟨q0, q1, q2, q3, q4, q5, q6, q7⟩ := cells_8 (kp_row hSw SW.out); go_simp; try with_reducible rfl
  go_simp
  refine wpAnyH_take (i := 9) (v := ?_) rfl (by kernel_rfl) (by kernel_rfl) (by kernel_rfl) (fun _ _ _ h => h) (Or.inl ⟨by rfl, ?_⟩) (by assumption) ?_
  rotate_left
  · intro w hSw; go_simp; try with_reducible rfl
  go_simp
  refine wpAnyH_take (i := 10) (v := ?_) rfl (by kernel_rfl) (by kernel_rfl) (by kernel_rfl) (fun _ _ _ h => h) (Or.inl ⟨by rfl, ?_⟩) (by assumption) ?_
  rotate_left
  · intro w hSw; obtain ⟨q0, q1⟩ := cells_2M (kp_row hSw TW.out); go_simp; try with_reducible rfl
  go_simp
  refine wpAnyH_ready (rs := [11, 15]) (by kernel_rfl) (by simp) ?_
  refine AllReadyH.cons rfl (fun K hK => ?_) (AllReadyH.cons rfl (fun K hK => ?_) AllReadyH.nil)
  · go_simp
    go_wp2_with (go_at_call 11; (with_reducible refine (HT.out _).mono ?_); rintro e' w6 ⟨rfl, hk6⟩; have K6 := Lib.hid (Kp.trans hHeld hk6); have HKT := Lib.hid hk6; clear hk6)
    refine hK.out _ _ K6.out (fun hHeld => ?_)
    clear hK K
    refine wpAnyH_take (i := 12) (v := ?_) rfl (by kernel_rfl) (by kernel_rfl) (by kernel_rfl) (fun _ _ _ h => h) (Or.inl ⟨by rfl, ?_⟩) (by assumption) ?_
    rotate_left
    · intro w hSw; go_simp; try with_reducible rfl
    go_simp
    refine wpAnyH_take (i := 13) (v := ?_) rfl (by kernel_rfl) (by kernel_rfl) (by kernel_rfl) (fun _ _ _ h => h) (Or.inl ⟨by rfl, ?_⟩) (by assumption) ?_
    rotate_left
    · intro w hSw; go_simp; try with_reducible rfl
    go_simp
    refine wpAnyH_take (i := 14) (v := ?_) rfl (by kernel_rfl) (by kernel_rfl) (by kernel_rfl) (fun _ _ _ h => h) (Or.inl ⟨by rfl, ?_⟩) (by assumption) ?_
    rotate_left
    · intro w hSw; go_simp; try with_reducible rfl
    go_simp
    refine wpAnyH_ready (rs := [15]) (by kernel_rfl) (by simp) ?_
    refine AllReadyH.cons rfl (fun K hK => ?_) AllReadyH.nil
    go_simp
    refine hK.out _ _ ?_ (fun hHeld => ?_)
    · exact Kp.trans hHeld (kp_alloc _ _)
    clear hK K
    have BR := Lib.hid ((MapKept.heap_alloc w6 (.cells #[.int .i64 0, .int .i64 0, .int .i64 0, .int .i64 0, .int .i64 0, .int .i64 0, .int .i64 0, .bool false] 33)).1)
    obtain ⟨z0, z1, z2, z3, z4, z5, z6, z7⟩ := cells_8 BR.out
    have fzz := frozN BR.out
    refine wpAnyH_ready (rs := [16]) (by kernel_rfl) (by simp) ?_
    refine AllReadyH.cons rfl (fun K hK => ?_) AllReadyH.nil
    go_simp
    refine hK.out _ _ ?_ (fun hHeld => ?_)
    · exact Kp.trans K6.out (kp_alloc _ _)
    clear hK K z0 z1 z2 z3 z4 z5 z6 z7 fzz
    refine wpAnyH_take (i := 17) (v := ?_) rfl (by kernel_rfl) (by kernel_rfl) (by kernel_rfl) (fun _ _ _ h => h) (Or.inl ⟨by rfl, ?_⟩) (by assumption) ?_
    rotate_left
    · intro w hSw; go_simp; try with_reducible rfl
    go_simp
    refine wpAnyH_done (by kernel_rfl) ?_ _
    obtain ⟨X, hX⟩ : ∃ X, w6.alloc (.cells #[.int .i64 a0, .int .i64 a1, .int .i64 a2, .int .i64 a3, .int .i64 b1, .int .i64 b2, .int .i64 b3, .bool b4] 33) = X := ⟨_, rfl⟩
    obtain ⟨qB, hqB⟩ : ∃ q, w6.heap.size = q := ⟨_, rfl⟩
    have KX := Lib.hid (show Kp W X from hX ▸ hHeld)
    have TX := Lib.hid (kp_row KX.out TW.out)
    have BX := Lib.hid (show X.heap[qB]? = some (.cells #[.int .i64 a0, .int .i64 a1, .int .i64 a2, .int .i64 a3, .int .i64 b1, .int .i64 b2, .int .i64 b3, .bool b4] 33) by rw [← hX, ← hqB]; exact (MapKept.heap_alloc w6 (.cells #[.int .i64 a0, .int .i64 a1, .int .i64 a2, .int .i64 a3, .int .i64 b1, .int .i64 b2, .int .i64 b3, .bool b4] 33)).1)
    have LW := Lib.hid (show W.heap.size ≤ qB by rw [← hqB]; exact Below.size K6.out)
    try rw [hX]
    try rw [hqB]
    clear hX hqB hHeld
    have AX := Lib.hid (Asd.of_kp (Orf gm sb (.slice (some ⟨bv, 0, none⟩) n cp)) (Kp.trans KW.out KX.out))
    have ZX := Lib.hid (kp_row KX.out ZW.out)
    have HX := Lib.hid (HH.out.kp (Kp.trans KW.out KX.out))
    have LQ := Lib.hid (show w.heap.size ≤ qB by have := LW.out; have := WS.out; omega)
    obtain ⟨x0, x1, x2, x3, x4, x5, x6, x7⟩ := cells_8 BX.out
    obtain ⟨u0, u1⟩ := cells_2M TX.out
    obtain ⟨j0, j1⟩ := cells_2R HX.out.row
    obtain ⟨s0, s1, s2, s3, s4, s5, s6, s7⟩ := cells_8 HX.out.seats
    have fs := frozN HX.out.seats
    go_wp2
    go_region
    have sx := HX.out.seat1 ⟨a0, a1, a2, a3⟩
    dsimp only at sx
    obtain ⟨X9, hX9⟩ : ∃ X9, ((((X.setCell ⟨sb, 0, none⟩ (.int .i64 a0)).setCell ⟨sb, 1, none⟩ (.int .i64 a1)).setCell ⟨sb, 2, none⟩ (.int .i64 a2)).setCell ⟨sb, 3, none⟩ (.int .i64 a3)).drew = X9 := ⟨_, rfl⟩
    have HS := Lib.hid (show Rp w0 gm sb ⟨⟨a0, a1, a2, a3⟩, m.x, m.f⟩ (.slice (some ⟨bv, 0, none⟩) n cp) X9 by rw [← hX9]; exact sx.1.drew)
    have a9 : Asd (Orf gm sb (.slice (some ⟨bv, 0, none⟩) n cp)) (Orf gm sb (.slice (some ⟨bv, 0, none⟩) n cp)) X X9 := by rw [← hX9]; exact sx.2.drewR
    have A9 := Lib.hid (AX.out.trans a9)
    have B9 := Lib.hid (a9.row BX.out (NOB.out _ LQ.out))
    have Z9 := Lib.hid (a9.row ZX.out (NOB.out _ (Nat.le_refl _)))
    have T9 := Lib.hid (a9.row TX.out (NOB.out _ (Nat.le_succ _)))
    have LB9 := Lib.hid (old_of_row B9.out)
    have LZ9 := Lib.hid (old_of_row Z9.out)
    rw [hX9]
    clear sx hX9 a9 x0 x1 x2 x3 x4 x5 x6 x7 u0 u1 j0 j1 s0 s1 s2 s3 s4 s5 s6 s7 fs
    obtain ⟨x0, x1, x2, x3, x4, x5, x6, x7⟩ := cells_8 B9.out
    obtain ⟨u0, u1⟩ := cells_2M T9.out
    have NB9 := Lib.hid (fun b (h1 : w.heap.size ≤ b) (_ : b < X9.heap.size) => NOB.out b h1)
    go_wp2_with (go_at_call 72; (with_reducible refine (HPT.out _ _ HS.out).mono ?_); rintro e' w8 ⟨rfl, v', hp, ha⟩; have P8 := Lib.hid hp; have A8 := Lib.hid (A9.out.trans ha); have NO := Lib.hid (show ¬ Orf gm sb v' w.heap.size from fun q => (ha.own _ q).elim (NB9.out _ (Nat.le_refl _) LZ9.out) (fun q => by have := LZ9.out; omega)); have B8 := Lib.hid (ha.row B9.out (NB9.out _ LQ.out LB9.out)); have Z8 := Lib.hid (ha.row Z9.out (NB9.out _ (Nat.le_refl _) LZ9.out)); obtain ⟨s0, s1, s2, s3, s4, s5, s6, s7⟩ := cells_8 B8.out; obtain ⟨r0, r1, r2, r3, r4, r5, r6, r7⟩ := cells_8 Z8.out; have fz8 := frozN Z8.out; clear hp ha)
    refine bodyPost_ret (results_row_tmpT (p := 6) (u := 7) rfl _ _ w.heap.size 33 _ (0, 0) _ rfl (set_8 _ _ _ _ _ _ _ _ Z8.out) Tryd.underlying33 rfl (by kernel_rfl)) rfl ?_
    exact ⟨rfl, v', P8.out.stay (fun b hb => set_8_eq (fun q => NO.out (q ▸ hb))), set_8_asd A8.out (Nat.le_refl _)⟩
  · go_simp
    refine hK.out _ _ (Kp.trans hHeld (kp_alloc _ _)) (fun hHeld => ?_)
    clear hK K
    refine wpAnyH_ready (rs := [11]) (by kernel_rfl) (by simp) ?_
    refine AllReadyH.cons rfl (fun K hK => ?_) AllReadyH.nil
    go_simp
    go_wp2_with (go_at_call 11; (with_reducible refine (HT.out _).mono ?_); rintro e' w6 ⟨rfl, hk6⟩; have K6 := Lib.hid (Kp.trans hHeld hk6); have HKT := Lib.hid hk6; clear hk6)
    refine hK.out _ _ ?_ (fun hHeld => ?_)
    · exact K6.out
    clear hK K
    refine wpAnyH_take (i := 12) (v := ?_) rfl (by kernel_rfl) (by kernel_rfl) (by kernel_rfl) (fun _ _ _ h => h) (Or.inl ⟨by rfl, ?_⟩) (by assumption) ?_
    rotate_left
    · intro w hSw; go_simp; try with_reducible rfl
    go_simp
    refine wpAnyH_take (i := 13) (v := ?_) rfl (by kernel_rfl) (by kernel_rfl) (by kernel_rfl) (fun _ _ _ h => h) (Or.inl ⟨by rfl, ?_⟩) (by assumption) ?_
    rotate_left
    · intro w hSw; go_simp; try with_reducible rfl
    go_simp
    refine wpAnyH_take (i := 14) (v := ?_) rfl (by kernel_rfl) (by kernel_rfl) (by kernel_rfl) (fun _ _ _ h => h) (Or.inl ⟨by rfl, ?_⟩) (by assumption) ?_
    rotate_left
    · intro w hSw; go_simp; try with_reducible rfl
    go_simp
    have BR := Lib.hid (kp_row HKT.out (show (W.alloc (.cells #[.int .i64 0, .int .i64 0, .int .i64 0, .int .i64 0, .int .i64 0, .int .i64 0, .int .i64 0, .bool false] 33)).drew.heap[W.heap.size]? = some (.cells #[.int .i64 0, .int .i64 0, .int .i64 0, .int .i64 0, .int .i64 0, .int .i64 0, .int .i64 0, .bool false] 33) from (MapKept.heap_alloc W (.cells #[.int .i64 0, .int .i64 0, .int .i64 0, .int .i64 0, .int .i64 0, .int .i64 0, .int .i64 0, .bool false] 33)).1))
    obtain ⟨z0, z1, z2, z3, z4, z5, z6, z7⟩ := cells_8 BR.out
    have fzz := frozN BR.out
    refine wpAnyH_ready (rs := [16]) (by kernel_rfl) (by simp) ?_
    refine AllReadyH.cons rfl (fun K hK => ?_) AllReadyH.nil
    go_simp
    refine hK.out _ _ ?_ (fun hHeld => ?_)
    · exact set_8_kp K6.out (Nat.le_refl _) _ _ _ _ _ _ _ _
    clear hK K z0 z1 z2 z3 z4 z5 z6 z7 fzz
    refine wpAnyH_take (i := 17) (v := ?_) rfl (by kernel_rfl) (by kernel_rfl) (by kernel_rfl) (fun _ _ _ h => h) (Or.inl ⟨by rfl, ?_⟩) (by assumption) ?_
    rotate_left
    · intro w hSw; go_simp; try with_reducible rfl
    go_simp
    refine wpAnyH_done (by kernel_rfl) ?_ _
    obtain ⟨X, hX⟩ : ∃ X, ((((((((w6.setCell ⟨W.heap.size, 0, none⟩ (.int .i64 a0)).setCell ⟨W.heap.size, 1, none⟩ (.int .i64 a1)).setCell ⟨W.heap.size, 2, none⟩ (.int .i64 a2)).setCell ⟨W.heap.size, 3, none⟩ (.int .i64 a3)).setCell ⟨W.heap.size, 4, none⟩ (.int .i64 b1)).setCell ⟨W.heap.size, 5, none⟩ (.int .i64 b2)).setCell ⟨W.heap.size, 6, none⟩ (.int .i64 b3)).setCell ⟨W.heap.size, 7, none⟩ (.bool b4)) = X := ⟨_, rfl⟩
    obtain ⟨qB, hqB⟩ : ∃ q, W.heap.size = q := ⟨_, rfl⟩
    have KX := Lib.hid (show Kp W X from hX ▸ hHeld)
    have TX := Lib.hid (kp_row KX.out TW.out)
    have BX := Lib.hid (show X.heap[qB]? = some (.cells #[.int .i64 a0, .int .i64 a1, .int .i64 a2, .int .i64 a3, .int .i64 b1, .int .i64 b2, .int .i64 b3, .bool b4] 33) by rw [← hX, ← hqB]; exact set_8 _ _ _ _ _ _ _ _ BR.out)
    have LW := Lib.hid (show W.heap.size ≤ qB by rw [← hqB]; exact Nat.le_refl _)
    try rw [hX]
    try rw [hqB]
    clear hX hqB hHeld
    have AX := Lib.hid (Asd.of_kp (Orf gm sb (.slice (some ⟨bv, 0, none⟩) n cp)) (Kp.trans KW.out KX.out))
    have ZX := Lib.hid (kp_row KX.out ZW.out)
    have HX := Lib.hid (HH.out.kp (Kp.trans KW.out KX.out))
    have LQ := Lib.hid (show w.heap.size ≤ qB by have := LW.out; have := WS.out; omega)
    obtain ⟨x0, x1, x2, x3, x4, x5, x6, x7⟩ := cells_8 BX.out
    obtain ⟨u0, u1⟩ := cells_2M TX.out
    obtain ⟨j0, j1⟩ := cells_2R HX.out.row
    obtain ⟨s0, s1, s2, s3, s4, s5, s6, s7⟩ := cells_8 HX.out.seats
    have fs := frozN HX.out.seats
    go_wp2
    go_region
    have sx := HX.out.seat1 ⟨a0, a1, a2, a3⟩
    dsimp only at sx
    obtain ⟨X9, hX9⟩ : ∃ X9, ((((X.setCell ⟨sb, 0, none⟩ (.int .i64 a0)).setCell ⟨sb, 1, none⟩ (.int .i64 a1)).setCell ⟨sb, 2, none⟩ (.int .i64 a2)).setCell ⟨sb, 3, none⟩ (.int .i64 a3)).drew = X9 := ⟨_, rfl⟩
    have HS := Lib.hid (show Rp w0 gm sb ⟨⟨a0, a1, a2, a3⟩, m.x, m.f⟩ (.slice (some ⟨bv, 0, none⟩) n cp) X9 by rw [← hX9]; exact sx.1.drew)
    have a9 : Asd (Orf gm sb (.slice (some ⟨bv, 0, none⟩) n cp)) (Orf gm sb (.slice (some ⟨bv, 0, none⟩) n cp)) X X9 := by rw [← hX9]; exact sx.2.drewR
    have A9 := Lib.hid (AX.out.trans a9)
    have B9 := Lib.hid (a9.row BX.out (NOB.out _ LQ.out))
    have Z9 := Lib.hid (a9.row ZX.out (NOB.out _ (Nat.le_refl _)))
    have T9 := Lib.hid (a9.row TX.out (NOB.out _ (Nat.le_succ _)))
    have LB9 := Lib.hid (old_of_row B9.out)
    have LZ9 := Lib.hid (old_of_row Z9.out)
    rw [hX9]
    clear sx hX9 a9 x0 x1 x2 x3 x4 x5 x6 x7 u0 u1 j0 j1 s0 s1 s2 s3 s4 s5 s6 s7 fs
    obtain ⟨x0, x1, x2, x3, x4, x5, x6, x7⟩ := cells_8 B9.out
    obtain ⟨u0, u1⟩ := cells_2M T9.out
    have NB9 := Lib.hid (fun b (h1 : w.heap.size ≤ b) (_ : b < X9.heap.size) => NOB.out b h1)
    go_wp2_with (go_at_call 72; (with_reducible refine (HPT.out _ _ HS.out).mono ?_); rintro e' w8 ⟨rfl, v', hp, ha⟩; have P8 := Lib.hid hp; have A8 := Lib.hid (A9.out.trans ha); have NO := Lib.hid (show ¬ Orf gm sb v' w.heap.size from fun q => (ha.own _ q).elim (NB9.out _ (Nat.le_refl _) LZ9.out) (fun q => by have := LZ9.out; omega)); have B8 := Lib.hid (ha.row B9.out (NB9.out _ LQ.out LB9.out)); have Z8 := Lib.hid (ha.row Z9.out (NB9.out _ (Nat.le_refl _) LZ9.out)); obtain ⟨s0, s1, s2, s3, s4, s5, s6, s7⟩ := cells_8 B8.out; obtain ⟨r0, r1, r2, r3, r4, r5, r6, r7⟩ := cells_8 Z8.out; have fz8 := frozN Z8.out; clear hp ha)
    refine bodyPost_ret (results_row_tmpT (p := 6) (u := 7) rfl _ _ w.heap.size 33 _ (0, 0) _ rfl (set_8 _ _ _ _ _ _ _ _ Z8.out) Tryd.underlying33 rfl (by kernel_rfl)) rfl ?_
    exact ⟨rfl, v', P8.out.stay (fun b hb => set_8_eq (fun q => NO.out (q ▸ hb))), set_8_asd A8.out (Nat.le_refl _)⟩
set_option maxRecDepth 100000 in
set_option maxHeartbeats 8000000 in
theorem rpDl_true2 (H : Rp w0 gm sb m v w) (hl : m.f.length ≤ 63) (i : Nat) (ii : Int) (hii : (i : Int) = ii) (hi : i < m.f.length) (k : Int) (hq : m.f[i] = (2, k)) (a0 a1 a2 a3 b1 b2 b3 : Int) (b4 : Bool) (hy : m.x.tell k = (0, ⟨⟨a0, a1, a2, a3⟩, b1, b2, b3, b4⟩)) :
    Calls Tryd.prog 45 #[.pointer (some ⟨gm, 0, none⟩), .int .i64 ii, .bool true] w fun r w' => r = .returned (.tuple #[.agg #[.int .i64 a0, .int .i64 a1, .int .i64 a2, .int .i64 a3, .int .i64 b1, .int .i64 b2, .int .i64 b3, .bool b4], .int .i64 0]) ∧ ∃ v', Rp w0 gm sb ⟨m.c, ⟨a0, a1, a2, a3⟩, putF m.f 2 b1⟩ v' w' ∧ Asd (Orf gm sb v) (Orf gm sb v') w w' := by
  have K1 := kp_alloc w (.cells #[.int .i64 0, .int .i64 0, .int .i64 0, .int .i64 0, .int .i64 0, .int .i64 0, .int .i64 0, .bool false] 33)
  have HZ := (MapKept.heap_alloc w (.cells #[.int .i64 0, .int .i64 0, .int .i64 0, .int .i64 0, .int .i64 0, .int .i64 0, .int .i64 0, .bool false] 33)).1
  obtain ⟨W, hW⟩ : ∃ W, ((w.alloc (.cells #[.int .i64 0, .int .i64 0, .int .i64 0, .int .i64 0, .int .i64 0, .int .i64 0, .int .i64 0, .bool false] 33)).alloc (.cells #[.int .i64 2, .int .i64 k] 57)) = W := ⟨_, rfl⟩
  have k2 := kp_alloc (w.alloc (.cells #[.int .i64 0, .int .i64 0, .int .i64 0, .int .i64 0, .int .i64 0, .int .i64 0, .int .i64 0, .bool false] 33)) (.cells #[.int .i64 2, .int .i64 k] 57)
  have t2 := (MapKept.heap_alloc (w.alloc (.cells #[.int .i64 0, .int .i64 0, .int .i64 0, .int .i64 0, .int .i64 0, .int .i64 0, .int .i64 0, .bool false] 33)) (.cells #[.int .i64 2, .int .i64 k] 57)).1
  rw [show (w.alloc (.cells #[.int .i64 0, .int .i64 0, .int .i64 0, .int .i64 0, .int .i64 0, .int .i64 0, .int .i64 0, .bool false] 33)).heap.size = w.heap.size + 1 by simp] at t2
  have WS := Lib.hid (show W.heap.size = w.heap.size + 2 by rw [← hW]; simp)
  have zw := kp_row k2 HZ
  rw [hW] at k2 t2 zw
  have KW := Lib.hid (Kp.trans K1 k2)
  have TW := Lib.hid t2
  have ZW := Lib.hid zw
  have GW := Lib.hid (kp_row KW.out H.row)
  have SW := Lib.hid (kp_row KW.out H.seats)
  have ht := fun w1 => refTell_any m.x k w1
  rw [hy] at ht
  dsimp only [seatV, effV] at ht
  have HT := Lib.hid ht
  have HPT := Lib.hid (fun v1 w1 (H1 : Rp w0 gm sb ⟨m.c, ⟨a0, a1, a2, a3⟩, m.f⟩ v1 w1) => (show Calls Tryd.prog 72 #[.pointer (some ⟨gm, 0, none⟩), .int .i64 2, .int .i64 b1] w1 fun r w' => r = .returned (.tuple #[]) ∧ ∃ v', Rp w0 gm sb ⟨m.c, ⟨a0, a1, a2, a3⟩, putF m.f 2 b1⟩ v' w' ∧ Asd (Orf gm sb v1) (Orf gm sb v') w1 w' from rpPut_any H1 2 b1 (by decide) (by show m.f.length ≤ 100; omega)))
  have hown := H.own
  rcases hown.2 with ⟨rfl, h0⟩ | ⟨bv, cp, cur, rfl, hb, hh, hnc, hcm, hcs, ht2⟩
  · omega
  have NOB := Lib.hid (fun b (h1 : w.heap.size ≤ b) => (fun q => absurd (H.mem b q).2 (by omega) : ¬ Orf gm sb _ b))
  have c0 := kp_cell K1 (H.own.cells rfl (2 * i) _ (flyB_at m.f i hi).1)
  have c1 := kp_cell K1 (H.own.cells rfl (2 * i + 1) _ (flyB_at m.f i hi).2)
  rw [Addr.add_lit, hq] at c0 c1
  dsimp only at c0 c1
  rw [Nat.zero_add, show 2 * i = ii.toNat * 2 by omega] at c0
  rw [Nat.zero_add, show 2 * i + 1 = ii.toNat * 2 + 1 by omega] at c1
  have e1 := kp_cell K1 (cells_2R H.row).2
  obtain ⟨n, hn⟩ : ∃ n, m.f.length = n := ⟨_, rfl⟩
  rw [hn] at H NOB GW e1 hi hl hnc ⊢
  have HH := Lib.hid H
  have PK := Lib.hid (And.intro hii (And.intro hi (And.intro (show n ≤ 64 by omega) (And.intro hn hnc))))
  obtain ⟨nn, hnn⟩ : ∃ x : Int, (n : Int) = x := ⟨_, rfl⟩
  have g0 : decide (ii < 0) = false := decide_eq_false (by omega)
  have g1 : decide (ii ≥ nn) = false := decide_eq_false (by omega)
  have g2 : decide (nn > 63) = false := decide_eq_false (by omega)
  have y0 : 0 ≤ ii := by omega
  have y1 : ii < nn := by omega
  have y2 : ii < n := by omega
  have HW := Lib.hid hW
  clear hW K1 HZ k2 t2 zw H hown ht hy hh ht2 hcs hcm hb hn hq hi hii hl hnc
  go_enter Tryd.func45, Tryd.ntmps45
  go_wp2_with fail
  try rw [HW.out]
  have wr : IntKind.i64.wrap 1 = 1 := by decide
  clear hnn g0 g1 y0 y1 y2 c0 c1 e1 g2
  refine wp_region_held_drew (S := fun w' => Kp W w') (by kernel_rfl) ?_ (fun hHeld => ?_)
  · exact kp_drewM (Kp.refl _)
  refine wpAnyH_take (i := 0) (v := ?_) rfl (by kernel_rfl) (by kernel_rfl) (by kernel_rfl) (fun _ _ _ h => h) (Or.inl ⟨by rfl, ?_⟩) (by assumption) ?_
  rotate_left
  · intro w hSw; go_simp; try with_reducible rfl
  go_simp
  refine wpAnyH_take (i := 1) (v := ?_) rfl (by kernel_rfl) (by kernel_rfl) (by kernel_rfl) (fun _ _ _ h => h) (Or.inl ⟨by rfl, ?_⟩) (by assumption) ?_
  rotate_left
  · intro w hSw; go_simp; try with_reducible rfl
  go_simp
  refine wpAnyH_take (i := 2) (v := ?_) rfl (by kernel_rfl) (by kernel_rfl) (by kernel_rfl) (fun _ _ _ h => h) (Or.inl ⟨by rfl, ?_⟩) (by assumption) ?_
  rotate_left
  · intro w hSw; go_simp; try with_reducible rfl
  go_simp
  refine wpAnyH_take (i := 3) (v := ?_) rfl (by kernel_rfl) (by kernel_rfl) (by kernel_rfl) (fun _ _ _ h => h) (Or.inl ⟨by rfl, ?_⟩) (by assumption) ?_
  rotate_left
  · intro w hSw; obtain ⟨q0, q1⟩ := cells_2R (kp_row hSw GW.out); go_simp; try with_reducible rfl
  go_simp
  refine wpAnyH_take (i := 4) (v := ?_) rfl (by kernel_rfl) (by kernel_rfl) (by kernel_rfl) (fun _ _ _ h => h) (Or.inl ⟨by rfl, ?_⟩) (by assumption) ?_
  rotate_left
  · intro w hSw; go_simp; try with_reducible rfl
  go_simp
  refine wpAnyH_take (i := 5) (v := ?_) rfl (by kernel_rfl) (by kernel_rfl) (by kernel_rfl) (fun _ _ _ h => h) (Or.inl ⟨by rfl, ?_⟩) (by assumption) ?_
  rotate_left
  · intro w hSw; obtain ⟨q0, q1⟩ := cells_2M (kp_row hSw TW.out); go_simp; try with_reducible rfl
  go_simp
  refine wpAnyH_take (i := 6) (v := ?_) rfl (by kernel_rfl) (by kernel_rfl) (by kernel_rfl) (fun _ _ _ h => h) (Or.inl ⟨by rfl, ?_⟩) (by assumption) ?_
  rotate_left
  · intro w hSw; go_simp; try with_reducible rfl
  go_simp
  refine wpAnyH_take (i := 7) (v := ?_) rfl (by kernel_rfl) (by kernel_rfl) (by kernel_rfl) (fun _ _ _ h => h) (Or.inl ⟨by rfl, ?_⟩) (by assumption) ?_
  rotate_left
  · intro w hSw; go_simp; try with_reducible rfl
  go_simp
  refine wpAnyH_take (i := 8) (v := ?_) rfl (by kernel_rfl) (by kernel_rfl) (by kernel_rfl) (fun _ _ _ h => h) (Or.inl ⟨by rfl, ?_⟩) (by assumption) ?_
  rotate_left
  · intro w hSw; obtain ⟨q0, q1, q2, q3, q4, q5, q6, q7⟩ := cells_8 (kp_row hSw SW.out); go_simp; try with_reducible rfl
  go_simp
  refine wpAnyH_take (i := 9) (v := ?_) rfl (by kernel_rfl) (by kernel_rfl) (by kernel_rfl) (fun _ _ _ h => h) (Or.inl ⟨by rfl, ?_⟩) (by assumption) ?_
  rotate_left
  · intro w hSw; go_simp; try with_reducible rfl
  go_simp
  refine wpAnyH_take (i := 10) (v := ?_) rfl (by kernel_rfl) (by kernel_rfl) (by kernel_rfl) (fun _ _ _ h => h) (Or.inl ⟨by rfl, ?_⟩) (by assumption) ?_
  rotate_left
  · intro w hSw; obtain ⟨q0, q1⟩ := cells_2M (kp_row hSw TW.out); go_simp; try with_reducible rfl
  go_simp
  refine wpAnyH_ready (rs := [11, 15]) (by kernel_rfl) (by simp) ?_
  refine AllReadyH.cons rfl (fun K hK => ?_) (AllReadyH.cons rfl (fun K hK => ?_) AllReadyH.nil)
  · go_simp
    go_wp2_with (go_at_call 11; (with_reducible refine (HT.out _).mono ?_); rintro e' w6 ⟨rfl, hk6⟩; have K6 := Lib.hid (Kp.trans hHeld hk6); have HKT := Lib.hid hk6; clear hk6)
    refine hK.out _ _ K6.out (fun hHeld => ?_)
    clear hK K
    refine wpAnyH_take (i := 12) (v := ?_) rfl (by kernel_rfl) (by kernel_rfl) (by kernel_rfl) (fun _ _ _ h => h) (Or.inl ⟨by rfl, ?_⟩) (by assumption) ?_
    rotate_left
    · intro w hSw; go_simp; try with_reducible rfl
    go_simp
    refine wpAnyH_take (i := 13) (v := ?_) rfl (by kernel_rfl) (by kernel_rfl) (by kernel_rfl) (fun _ _ _ h => h) (Or.inl ⟨by rfl, ?_⟩) (by assumption) ?_
    rotate_left
    · intro w hSw; go_simp; try with_reducible rfl
    go_simp
    refine wpAnyH_take (i := 14) (v := ?_) rfl (by kernel_rfl) (by kernel_rfl) (by kernel_rfl) (fun _ _ _ h => h) (Or.inl ⟨by rfl, ?_⟩) (by assumption) ?_
    rotate_left
    · intro w hSw; go_simp; try with_reducible rfl
    go_simp
    refine wpAnyH_ready (rs := [15]) (by kernel_rfl) (by simp) ?_
    refine AllReadyH.cons rfl (fun K hK => ?_) AllReadyH.nil
    go_simp
    refine hK.out _ _ ?_ (fun hHeld => ?_)
    · exact Kp.trans hHeld (kp_alloc _ _)
    clear hK K
    have BR := Lib.hid ((MapKept.heap_alloc w6 (.cells #[.int .i64 0, .int .i64 0, .int .i64 0, .int .i64 0, .int .i64 0, .int .i64 0, .int .i64 0, .bool false] 33)).1)
    obtain ⟨z0, z1, z2, z3, z4, z5, z6, z7⟩ := cells_8 BR.out
    have fzz := frozN BR.out
    refine wpAnyH_ready (rs := [16]) (by kernel_rfl) (by simp) ?_
    refine AllReadyH.cons rfl (fun K hK => ?_) AllReadyH.nil
    go_simp
    refine hK.out _ _ ?_ (fun hHeld => ?_)
    · exact Kp.trans K6.out (kp_alloc _ _)
    clear hK K z0 z1 z2 z3 z4 z5 z6 z7 fzz
    refine wpAnyH_take (i := 17) (v := ?_) rfl (by kernel_rfl) (by kernel_rfl) (by kernel_rfl) (fun _ _ _ h => h) (Or.inl ⟨by rfl, ?_⟩) (by assumption) ?_
    rotate_left
    · intro w hSw; go_simp; try with_reducible rfl
    go_simp
    refine wpAnyH_done (by kernel_rfl) ?_ _
    obtain ⟨X, hX⟩ : ∃ X, w6.alloc (.cells #[.int .i64 a0, .int .i64 a1, .int .i64 a2, .int .i64 a3, .int .i64 b1, .int .i64 b2, .int .i64 b3, .bool b4] 33) = X := ⟨_, rfl⟩
    obtain ⟨qB, hqB⟩ : ∃ q, w6.heap.size = q := ⟨_, rfl⟩
    have KX := Lib.hid (show Kp W X from hX ▸ hHeld)
    have TX := Lib.hid (kp_row KX.out TW.out)
    have BX := Lib.hid (show X.heap[qB]? = some (.cells #[.int .i64 a0, .int .i64 a1, .int .i64 a2, .int .i64 a3, .int .i64 b1, .int .i64 b2, .int .i64 b3, .bool b4] 33) by rw [← hX, ← hqB]; exact (MapKept.heap_alloc w6 (.cells #[.int .i64 a0, .int .i64 a1, .int .i64 a2, .int .i64 a3, .int .i64 b1, .int .i64 b2, .int .i64 b3, .bool b4] 33)).1)
    have LW := Lib.hid (show W.heap.size ≤ qB by rw [← hqB]; exact Below.size K6.out)
    try rw [hX]
    try rw [hqB]
    clear hX hqB hHeld
    have AX := Lib.hid (Asd.of_kp (Orf gm sb (.slice (some ⟨bv, 0, none⟩) n cp)) (Kp.trans KW.out KX.out))
    have ZX := Lib.hid (kp_row KX.out ZW.out)
    have HX := Lib.hid (HH.out.kp (Kp.trans KW.out KX.out))
    have LQ := Lib.hid (show w.heap.size ≤ qB by have := LW.out; have := WS.out; omega)
    obtain ⟨x0, x1, x2, x3, x4, x5, x6, x7⟩ := cells_8 BX.out
    obtain ⟨u0, u1⟩ := cells_2M TX.out
    obtain ⟨j0, j1⟩ := cells_2R HX.out.row
    obtain ⟨s0, s1, s2, s3, s4, s5, s6, s7⟩ := cells_8 HX.out.seats
    have fs := frozN HX.out.seats
    go_wp2
    go_region
    have sx := HX.out.seat2 ⟨a0, a1, a2, a3⟩
    dsimp only at sx
    obtain ⟨X9, hX9⟩ : ∃ X9, ((((X.setCell ⟨sb, 4, none⟩ (.int .i64 a0)).setCell ⟨sb, 5, none⟩ (.int .i64 a1)).setCell ⟨sb, 6, none⟩ (.int .i64 a2)).setCell ⟨sb, 7, none⟩ (.int .i64 a3)).drew = X9 := ⟨_, rfl⟩
    have HS := Lib.hid (show Rp w0 gm sb ⟨m.c, ⟨a0, a1, a2, a3⟩, m.f⟩ (.slice (some ⟨bv, 0, none⟩) n cp) X9 by rw [← hX9]; exact sx.1.drew)
    have a9 : Asd (Orf gm sb (.slice (some ⟨bv, 0, none⟩) n cp)) (Orf gm sb (.slice (some ⟨bv, 0, none⟩) n cp)) X X9 := by rw [← hX9]; exact sx.2.drewR
    have A9 := Lib.hid (AX.out.trans a9)
    have B9 := Lib.hid (a9.row BX.out (NOB.out _ LQ.out))
    have Z9 := Lib.hid (a9.row ZX.out (NOB.out _ (Nat.le_refl _)))
    have T9 := Lib.hid (a9.row TX.out (NOB.out _ (Nat.le_succ _)))
    have LB9 := Lib.hid (old_of_row B9.out)
    have LZ9 := Lib.hid (old_of_row Z9.out)
    rw [hX9]
    clear sx hX9 a9 x0 x1 x2 x3 x4 x5 x6 x7 u0 u1 j0 j1 s0 s1 s2 s3 s4 s5 s6 s7 fs
    obtain ⟨x0, x1, x2, x3, x4, x5, x6, x7⟩ := cells_8 B9.out
    obtain ⟨u0, u1⟩ := cells_2M T9.out
    have NB9 := Lib.hid (fun b (h1 : w.heap.size ≤ b) (_ : b < X9.heap.size) => NOB.out b h1)
    go_wp2_with (go_at_call 72; (with_reducible refine (HPT.out _ _ HS.out).mono ?_); rintro e' w8 ⟨rfl, v', hp, ha⟩; have P8 := Lib.hid hp; have A8 := Lib.hid (A9.out.trans ha); have NO := Lib.hid (show ¬ Orf gm sb v' w.heap.size from fun q => (ha.own _ q).elim (NB9.out _ (Nat.le_refl _) LZ9.out) (fun q => by have := LZ9.out; omega)); have B8 := Lib.hid (ha.row B9.out (NB9.out _ LQ.out LB9.out)); have Z8 := Lib.hid (ha.row Z9.out (NB9.out _ (Nat.le_refl _) LZ9.out)); obtain ⟨s0, s1, s2, s3, s4, s5, s6, s7⟩ := cells_8 B8.out; obtain ⟨r0, r1, r2, r3, r4, r5, r6, r7⟩ := cells_8 Z8.out; have fz8 := frozN Z8.out; clear hp ha)
    refine bodyPost_ret (results_row_tmpT (p := 6) (u := 7) rfl _ _ w.heap.size 33 _ (0, 0) _ rfl (set_8 _ _ _ _ _ _ _ _ Z8.out) Tryd.underlying33 rfl (by kernel_rfl)) rfl ?_
    exact ⟨rfl, v', P8.out.stay (fun b hb => set_8_eq (fun q => NO.out (q ▸ hb))), set_8_asd A8.out (Nat.le_refl _)⟩
  · go_simp
    refine hK.out _ _ (Kp.trans hHeld (kp_alloc _ _)) (fun hHeld => ?_)
    clear hK K
    refine wpAnyH_ready (rs := [11]) (by kernel_rfl) (by simp) ?_
    refine AllReadyH.cons rfl (fun K hK => ?_) AllReadyH.nil
    go_simp
    go_wp2_with (go_at_call 11; (with_reducible refine (HT.out _).mono ?_); rintro e' w6 ⟨rfl, hk6⟩; have K6 := Lib.hid (Kp.trans hHeld hk6); have HKT := Lib.hid hk6; clear hk6)
    refine hK.out _ _ ?_ (fun hHeld => ?_)
    · exact K6.out
    clear hK K
    refine wpAnyH_take (i := 12) (v := ?_) rfl (by kernel_rfl) (by kernel_rfl) (by kernel_rfl) (fun _ _ _ h => h) (Or.inl ⟨by rfl, ?_⟩) (by assumption) ?_
    rotate_left
    · intro w hSw; go_simp; try with_reducible rfl
    go_simp
    refine wpAnyH_take (i := 13) (v := ?_) rfl (by kernel_rfl) (by kernel_rfl) (by kernel_rfl) (fun _ _ _ h => h) (Or.inl ⟨by rfl, ?_⟩) (by assumption) ?_
    rotate_left
    · intro w hSw; go_simp; try with_reducible rfl
    go_simp
    refine wpAnyH_take (i := 14) (v := ?_) rfl (by kernel_rfl) (by kernel_rfl) (by kernel_rfl) (fun _ _ _ h => h) (Or.inl ⟨by rfl, ?_⟩) (by assumption) ?_
    rotate_left
    · intro w hSw; go_simp; try with_reducible rfl
    go_simp
    have BR := Lib.hid (kp_row HKT.out (show (W.alloc (.cells #[.int .i64 0, .int .i64 0, .int .i64 0, .int .i64 0, .int .i64 0, .int .i64 0, .int .i64 0, .bool false] 33)).drew.heap[W.heap.size]? = some (.cells #[.int .i64 0, .int .i64 0, .int .i64 0, .int .i64 0, .int .i64 0, .int .i64 0, .int .i64 0, .bool false] 33) from (MapKept.heap_alloc W (.cells #[.int .i64 0, .int .i64 0, .int .i64 0, .int .i64 0, .int .i64 0, .int .i64 0, .int .i64 0, .bool false] 33)).1))
    obtain ⟨z0, z1, z2, z3, z4, z5, z6, z7⟩ := cells_8 BR.out
    have fzz := frozN BR.out
    refine wpAnyH_ready (rs := [16]) (by kernel_rfl) (by simp) ?_
    refine AllReadyH.cons rfl (fun K hK => ?_) AllReadyH.nil
    go_simp
    refine hK.out _ _ ?_ (fun hHeld => ?_)
    · exact set_8_kp K6.out (Nat.le_refl _) _ _ _ _ _ _ _ _
    clear hK K z0 z1 z2 z3 z4 z5 z6 z7 fzz
    refine wpAnyH_take (i := 17) (v := ?_) rfl (by kernel_rfl) (by kernel_rfl) (by kernel_rfl) (fun _ _ _ h => h) (Or.inl ⟨by rfl, ?_⟩) (by assumption) ?_
    rotate_left
    · intro w hSw; go_simp; try with_reducible rfl
    go_simp
    refine wpAnyH_done (by kernel_rfl) ?_ _
    obtain ⟨X, hX⟩ : ∃ X, ((((((((w6.setCell ⟨W.heap.size, 0, none⟩ (.int .i64 a0)).setCell ⟨W.heap.size, 1, none⟩ (.int .i64 a1)).setCell ⟨W.heap.size, 2, none⟩ (.int .i64 a2)).setCell ⟨W.heap.size, 3, none⟩ (.int .i64 a3)).setCell ⟨W.heap.size, 4, none⟩ (.int .i64 b1)).setCell ⟨W.heap.size, 5, none⟩ (.int .i64 b2)).setCell ⟨W.heap.size, 6, none⟩ (.int .i64 b3)).setCell ⟨W.heap.size, 7, none⟩ (.bool b4)) = X := ⟨_, rfl⟩
    obtain ⟨qB, hqB⟩ : ∃ q, W.heap.size = q := ⟨_, rfl⟩
    have KX := Lib.hid (show Kp W X from hX ▸ hHeld)
    have TX := Lib.hid (kp_row KX.out TW.out)
    have BX := Lib.hid (show X.heap[qB]? = some (.cells #[.int .i64 a0, .int .i64 a1, .int .i64 a2, .int .i64 a3, .int .i64 b1, .int .i64 b2, .int .i64 b3, .bool b4] 33) by rw [← hX, ← hqB]; exact set_8 _ _ _ _ _ _ _ _ BR.out)
    have LW := Lib.hid (show W.heap.size ≤ qB by rw [← hqB]; exact Nat.le_refl _)
    try rw [hX]
    try rw [hqB]
    clear hX hqB hHeld
    have AX := Lib.hid (Asd.of_kp (Orf gm sb (.slice (some ⟨bv, 0, none⟩) n cp)) (Kp.trans KW.out KX.out))
    have ZX := Lib.hid (kp_row KX.out ZW.out)
    have HX := Lib.hid (HH.out.kp (Kp.trans KW.out KX.out))
    have LQ := Lib.hid (show w.heap.size ≤ qB by have := LW.out; have := WS.out; omega)
    obtain ⟨x0, x1, x2, x3, x4, x5, x6, x7⟩ := cells_8 BX.out
    obtain ⟨u0, u1⟩ := cells_2M TX.out
    obtain ⟨j0, j1⟩ := cells_2R HX.out.row
    obtain ⟨s0, s1, s2, s3, s4, s5, s6, s7⟩ := cells_8 HX.out.seats
    have fs := frozN HX.out.seats
    go_wp2
    go_region
    have sx := HX.out.seat2 ⟨a0, a1, a2, a3⟩
    dsimp only at sx
    obtain ⟨X9, hX9⟩ : ∃ X9, ((((X.setCell ⟨sb, 4, none⟩ (.int .i64 a0)).setCell ⟨sb, 5, none⟩ (.int .i64 a1)).setCell ⟨sb, 6, none⟩ (.int .i64 a2)).setCell ⟨sb, 7, none⟩ (.int .i64 a3)).drew = X9 := ⟨_, rfl⟩
    have HS := Lib.hid (show Rp w0 gm sb ⟨m.c, ⟨a0, a1, a2, a3⟩, m.f⟩ (.slice (some ⟨bv, 0, none⟩) n cp) X9 by rw [← hX9]; exact sx.1.drew)
    have a9 : Asd (Orf gm sb (.slice (some ⟨bv, 0, none⟩) n cp)) (Orf gm sb (.slice (some ⟨bv, 0, none⟩) n cp)) X X9 := by rw [← hX9]; exact sx.2.drewR
    have A9 := Lib.hid (AX.out.trans a9)
    have B9 := Lib.hid (a9.row BX.out (NOB.out _ LQ.out))
    have Z9 := Lib.hid (a9.row ZX.out (NOB.out _ (Nat.le_refl _)))
    have T9 := Lib.hid (a9.row TX.out (NOB.out _ (Nat.le_succ _)))
    have LB9 := Lib.hid (old_of_row B9.out)
    have LZ9 := Lib.hid (old_of_row Z9.out)
    rw [hX9]
    clear sx hX9 a9 x0 x1 x2 x3 x4 x5 x6 x7 u0 u1 j0 j1 s0 s1 s2 s3 s4 s5 s6 s7 fs
    obtain ⟨x0, x1, x2, x3, x4, x5, x6, x7⟩ := cells_8 B9.out
    obtain ⟨u0, u1⟩ := cells_2M T9.out
    have NB9 := Lib.hid (fun b (h1 : w.heap.size ≤ b) (_ : b < X9.heap.size) => NOB.out b h1)
    go_wp2_with (go_at_call 72; (with_reducible refine (HPT.out _ _ HS.out).mono ?_); rintro e' w8 ⟨rfl, v', hp, ha⟩; have P8 := Lib.hid hp; have A8 := Lib.hid (A9.out.trans ha); have NO := Lib.hid (show ¬ Orf gm sb v' w.heap.size from fun q => (ha.own _ q).elim (NB9.out _ (Nat.le_refl _) LZ9.out) (fun q => by have := LZ9.out; omega)); have B8 := Lib.hid (ha.row B9.out (NB9.out _ LQ.out LB9.out)); have Z8 := Lib.hid (ha.row Z9.out (NB9.out _ (Nat.le_refl _) LZ9.out)); obtain ⟨s0, s1, s2, s3, s4, s5, s6, s7⟩ := cells_8 B8.out; obtain ⟨r0, r1, r2, r3, r4, r5, r6, r7⟩ := cells_8 Z8.out; have fz8 := frozN Z8.out; clear hp ha)
    refine bodyPost_ret (results_row_tmpT (p := 6) (u := 7) rfl _ _ w.heap.size 33 _ (0, 0) _ rfl (set_8 _ _ _ _ _ _ _ _ Z8.out) Tryd.underlying33 rfl (by kernel_rfl)) rfl ?_
    exact ⟨rfl, v', P8.out.stay (fun b hb => set_8_eq (fun q => NO.out (q ▸ hb))), set_8_asd A8.out (Nat.le_refl _)⟩
end Go.Proofs.YtghjnhdepeiloaaDoor

namespace Go.Proofs.YtghjnhdepeiloaaDoor
open Go.RowKit Go.ChangeShapes Go.WideShapes
variable {w0 w w' W w3 : World} {gm sb : Nat} {m : PairM} {v v' : Value}
set_option maxRecDepth 100000 in
set_option maxHeartbeats 8000000 in
theorem rpDl_false1 (H : Rp w0 gm sb m v w) (hl : m.f.length ≤ 64) (i : Nat) (ii : Int) (hii : (i : Int) = ii) (hi : i < m.f.length) (k : Int) (hq : m.f[i] = (1, k)) (a0 a1 a2 a3 b1 b2 b3 : Int) (b4 : Bool) (hy : m.c.tell k = (0, ⟨⟨a0, a1, a2, a3⟩, b1, b2, b3, b4⟩)) :
    Calls Tryd.prog 45 #[.pointer (some ⟨gm, 0, none⟩), .int .i64 ii, .bool false] w fun r w' => r = .returned (.tuple #[.agg #[.int .i64 a0, .int .i64 a1, .int .i64 a2, .int .i64 a3, .int .i64 b1, .int .i64 b2, .int .i64 b3, .bool b4], .int .i64 0]) ∧ ∃ v', Rp w0 gm sb ⟨⟨a0, a1, a2, a3⟩, m.x, putF (m.f.take i ++ m.f.drop (i + 1)) 1 b1⟩ v' w' ∧ Asd (Orf gm sb v) (Orf gm sb v') w w' := by
  have K1 := kp_alloc w (.cells #[.int .i64 0, .int .i64 0, .int .i64 0, .int .i64 0, .int .i64 0, .int .i64 0, .int .i64 0, .bool false] 33)
  have HZ := (MapKept.heap_alloc w (.cells #[.int .i64 0, .int .i64 0, .int .i64 0, .int .i64 0, .int .i64 0, .int .i64 0, .int .i64 0, .bool false] 33)).1
  obtain ⟨W, hW⟩ : ∃ W, ((w.alloc (.cells #[.int .i64 0, .int .i64 0, .int .i64 0, .int .i64 0, .int .i64 0, .int .i64 0, .int .i64 0, .bool false] 33)).alloc (.cells #[.int .i64 1, .int .i64 k] 57)) = W := ⟨_, rfl⟩
  have k2 := kp_alloc (w.alloc (.cells #[.int .i64 0, .int .i64 0, .int .i64 0, .int .i64 0, .int .i64 0, .int .i64 0, .int .i64 0, .bool false] 33)) (.cells #[.int .i64 1, .int .i64 k] 57)
  have t2 := (MapKept.heap_alloc (w.alloc (.cells #[.int .i64 0, .int .i64 0, .int .i64 0, .int .i64 0, .int .i64 0, .int .i64 0, .int .i64 0, .bool false] 33)) (.cells #[.int .i64 1, .int .i64 k] 57)).1
  rw [show (w.alloc (.cells #[.int .i64 0, .int .i64 0, .int .i64 0, .int .i64 0, .int .i64 0, .int .i64 0, .int .i64 0, .bool false] 33)).heap.size = w.heap.size + 1 by simp] at t2
  have WS := Lib.hid (show W.heap.size = w.heap.size + 2 by rw [← hW]; simp)
  have zw := kp_row k2 HZ
  rw [hW] at k2 t2 zw
  have KW := Lib.hid (Kp.trans K1 k2)
  have TW := Lib.hid t2
  have ZW := Lib.hid zw
  have GW := Lib.hid (kp_row KW.out H.row)
  have SW := Lib.hid (kp_row KW.out H.seats)
  have ht := fun w1 => refTell_any m.c k w1
  rw [hy] at ht
  dsimp only [seatV, effV] at ht
  have HT := Lib.hid ht
  have HPT := Lib.hid (fun v1 w1 (H1 : Rp w0 gm sb ⟨⟨a0, a1, a2, a3⟩, m.x, (m.f.take i ++ m.f.drop (i + 1))⟩ v1 w1) => (show Calls Tryd.prog 72 #[.pointer (some ⟨gm, 0, none⟩), .int .i64 1, .int .i64 b1] w1 fun r w' => r = .returned (.tuple #[]) ∧ ∃ v', Rp w0 gm sb ⟨⟨a0, a1, a2, a3⟩, m.x, putF (m.f.take i ++ m.f.drop (i + 1)) 1 b1⟩ v' w' ∧ Asd (Orf gm sb v1) (Orf gm sb v') w1 w' from rpPut_any H1 1 b1 (by decide) (by show (m.f.take i ++ m.f.drop (i + 1)).length ≤ 100; have := cut_len (f := m.f) hi; omega)))
  have hown := H.own
  rcases hown.2 with ⟨rfl, h0⟩ | ⟨bv, cp, cur, rfl, hb, hh, hnc, hcm, hcs, ht2⟩
  · omega
  have NOB := Lib.hid (fun b (h1 : w.heap.size ≤ b) => (fun q => absurd (H.mem b q).2 (by omega) : ¬ Orf gm sb _ b))
  have c0 := kp_cell K1 (H.own.cells rfl (2 * i) _ (flyB_at m.f i hi).1)
  have c1 := kp_cell K1 (H.own.cells rfl (2 * i + 1) _ (flyB_at m.f i hi).2)
  rw [Addr.add_lit, hq] at c0 c1
  dsimp only at c0 c1
  rw [Nat.zero_add, show 2 * i = ii.toNat * 2 by omega] at c0
  rw [Nat.zero_add, show 2 * i + 1 = ii.toNat * 2 + 1 by omega] at c1
  have e1 := kp_cell K1 (cells_2R H.row).2
  obtain ⟨n, hn⟩ : ∃ n, m.f.length = n := ⟨_, rfl⟩
  rw [hn] at H NOB GW e1 hi hl hnc ⊢
  have HH := Lib.hid H
  have PK := Lib.hid (And.intro hii (And.intro hi (And.intro (show n ≤ 64 by omega) (And.intro hn hnc))))
  obtain ⟨nn, hnn⟩ : ∃ x : Int, (n : Int) = x := ⟨_, rfl⟩
  have g0 : decide (ii < 0) = false := decide_eq_false (by omega)
  have g1 : decide (ii ≥ nn) = false := decide_eq_false (by omega)
  have y0 : 0 ≤ ii := by omega
  have y1 : ii < nn := by omega
  have y2 : ii < n := by omega
  have HW := Lib.hid hW
  clear hW K1 HZ k2 t2 zw H hown ht hy hh ht2 hcs hcm hb hn hq hi hii hl hnc
  go_enter Tryd.func45, Tryd.ntmps45
  go_wp2_with fail
  try rw [HW.out]
  have wr : IntKind.i64.wrap 0 = 0 := by decide
  clear hnn g0 g1 y0 y1 y2 c0 c1 e1 
  refine wp_region_held_drew (S := fun w' => Kp W w') (by kernel_rfl) ?_ (fun hHeld => ?_)
  · exact kp_drewM (Kp.refl _)
  refine wpAnyH_take (i := 0) (v := ?_) rfl (by kernel_rfl) (by kernel_rfl) (by kernel_rfl) (fun _ _ _ h => h) (Or.inl ⟨by rfl, ?_⟩) (by assumption) ?_
  rotate_left
  · intro w hSw; go_simp; try with_reducible rfl
  go_simp
  refine wpAnyH_take (i := 1) (v := ?_) rfl (by kernel_rfl) (by kernel_rfl) (by kernel_rfl) (fun _ _ _ h => h) (Or.inl ⟨by rfl, ?_⟩) (by assumption) ?_
  rotate_left
  · intro w hSw; go_simp; try with_reducible rfl
  go_simp
  refine wpAnyH_take (i := 2) (v := ?_) rfl (by kernel_rfl) (by kernel_rfl) (by kernel_rfl) (fun _ _ _ h => h) (Or.inl ⟨by rfl, ?_⟩) (by assumption) ?_
  rotate_left
  · intro w hSw; go_simp; try with_reducible rfl
  go_simp
  refine wpAnyH_take (i := 3) (v := ?_) rfl (by kernel_rfl) (by kernel_rfl) (by kernel_rfl) (fun _ _ _ h => h) (Or.inl ⟨by rfl, ?_⟩) (by assumption) ?_
  rotate_left
  · intro w hSw; obtain ⟨q0, q1⟩ := cells_2R (kp_row hSw GW.out); go_simp; try with_reducible rfl
  go_simp
  refine wpAnyH_take (i := 4) (v := ?_) rfl (by kernel_rfl) (by kernel_rfl) (by kernel_rfl) (fun _ _ _ h => h) (Or.inl ⟨by rfl, ?_⟩) (by assumption) ?_
  rotate_left
  · intro w hSw; go_simp; try with_reducible rfl
  go_simp
  refine wpAnyH_take (i := 5) (v := ?_) rfl (by kernel_rfl) (by kernel_rfl) (by kernel_rfl) (fun _ _ _ h => h) (Or.inl ⟨by rfl, ?_⟩) (by assumption) ?_
  rotate_left
  · intro w hSw; obtain ⟨q0, q1⟩ := cells_2M (kp_row hSw TW.out); go_simp; try with_reducible rfl
  go_simp
  refine wpAnyH_take (i := 6) (v := ?_) rfl (by kernel_rfl) (by kernel_rfl) (by kernel_rfl) (fun _ _ _ h => h) (Or.inl ⟨by rfl, ?_⟩) (by assumption) ?_
  rotate_left
  · intro w hSw; go_simp; try with_reducible rfl
  go_simp
  refine wpAnyH_take (i := 7) (v := ?_) rfl (by kernel_rfl) (by kernel_rfl) (by kernel_rfl) (fun _ _ _ h => h) (Or.inl ⟨by rfl, ?_⟩) (by assumption) ?_
  rotate_left
  · intro w hSw; go_simp; try with_reducible rfl
  go_simp
  refine wpAnyH_take (i := 8) (v := ?_) rfl (by kernel_rfl) (by kernel_rfl) (by kernel_rfl) (fun _ _ _ h => h) (Or.inl ⟨by rfl, ?_⟩) (by assumption) ?_
  rotate_left
  · intro w hSw; obtain ⟨q0, q1, q2, q3, q4, q5, q6, q7⟩ := cells_8 (kp_row hSw SW.out); go_simp; try with_reducible rfl
  go_simp
  refine wpAnyH_take (i := 9) (v := ?_) rfl (by kernel_rfl) (by kernel_rfl) (by kernel_rfl) (fun _ _ _ h => h) (Or.inl ⟨by rfl, ?_⟩) (by assumption) ?_
  rotate_left
  · intro w hSw; go_simp; try with_reducible rfl
  go_simp
  refine wpAnyH_take (i := 10) (v := ?_) rfl (by kernel_rfl) (by kernel_rfl) (by kernel_rfl) (fun _ _ _ h => h) (Or.inl ⟨by rfl, ?_⟩) (by assumption) ?_
  rotate_left
  · intro w hSw; obtain ⟨q0, q1⟩ := cells_2M (kp_row hSw TW.out); go_simp; try with_reducible rfl
  go_simp
  refine wpAnyH_ready (rs := [11, 15]) (by kernel_rfl) (by simp) ?_
  refine AllReadyH.cons rfl (fun K hK => ?_) (AllReadyH.cons rfl (fun K hK => ?_) AllReadyH.nil)
  · go_simp
    go_wp2_with (go_at_call 11; (with_reducible refine (HT.out _).mono ?_); rintro e' w6 ⟨rfl, hk6⟩; have K6 := Lib.hid (Kp.trans hHeld hk6); have HKT := Lib.hid hk6; clear hk6)
    refine hK.out _ _ K6.out (fun hHeld => ?_)
    clear hK K
    refine wpAnyH_take (i := 12) (v := ?_) rfl (by kernel_rfl) (by kernel_rfl) (by kernel_rfl) (fun _ _ _ h => h) (Or.inl ⟨by rfl, ?_⟩) (by assumption) ?_
    rotate_left
    · intro w hSw; go_simp; try with_reducible rfl
    go_simp
    refine wpAnyH_take (i := 13) (v := ?_) rfl (by kernel_rfl) (by kernel_rfl) (by kernel_rfl) (fun _ _ _ h => h) (Or.inl ⟨by rfl, ?_⟩) (by assumption) ?_
    rotate_left
    · intro w hSw; go_simp; try with_reducible rfl
    go_simp
    refine wpAnyH_take (i := 14) (v := ?_) rfl (by kernel_rfl) (by kernel_rfl) (by kernel_rfl) (fun _ _ _ h => h) (Or.inl ⟨by rfl, ?_⟩) (by assumption) ?_
    rotate_left
    · intro w hSw; go_simp; try with_reducible rfl
    go_simp
    refine wpAnyH_ready (rs := [15]) (by kernel_rfl) (by simp) ?_
    refine AllReadyH.cons rfl (fun K hK => ?_) AllReadyH.nil
    go_simp
    refine hK.out _ _ ?_ (fun hHeld => ?_)
    · exact Kp.trans hHeld (kp_alloc _ _)
    clear hK K
    have BR := Lib.hid ((MapKept.heap_alloc w6 (.cells #[.int .i64 0, .int .i64 0, .int .i64 0, .int .i64 0, .int .i64 0, .int .i64 0, .int .i64 0, .bool false] 33)).1)
    obtain ⟨z0, z1, z2, z3, z4, z5, z6, z7⟩ := cells_8 BR.out
    have fzz := frozN BR.out
    refine wpAnyH_ready (rs := [16]) (by kernel_rfl) (by simp) ?_
    refine AllReadyH.cons rfl (fun K hK => ?_) AllReadyH.nil
    go_simp
    refine hK.out _ _ ?_ (fun hHeld => ?_)
    · exact Kp.trans K6.out (kp_alloc _ _)
    clear hK K z0 z1 z2 z3 z4 z5 z6 z7 fzz
    refine wpAnyH_take (i := 17) (v := ?_) rfl (by kernel_rfl) (by kernel_rfl) (by kernel_rfl) (fun _ _ _ h => h) (Or.inl ⟨by rfl, ?_⟩) (by assumption) ?_
    rotate_left
    · intro w hSw; go_simp; try with_reducible rfl
    go_simp
    refine wpAnyH_done (by kernel_rfl) ?_ _
    obtain ⟨X, hX⟩ : ∃ X, w6.alloc (.cells #[.int .i64 a0, .int .i64 a1, .int .i64 a2, .int .i64 a3, .int .i64 b1, .int .i64 b2, .int .i64 b3, .bool b4] 33) = X := ⟨_, rfl⟩
    obtain ⟨qB, hqB⟩ : ∃ q, w6.heap.size = q := ⟨_, rfl⟩
    have KX := Lib.hid (show Kp W X from hX ▸ hHeld)
    have TX := Lib.hid (kp_row KX.out TW.out)
    have BX := Lib.hid (show X.heap[qB]? = some (.cells #[.int .i64 a0, .int .i64 a1, .int .i64 a2, .int .i64 a3, .int .i64 b1, .int .i64 b2, .int .i64 b3, .bool b4] 33) by rw [← hX, ← hqB]; exact (MapKept.heap_alloc w6 (.cells #[.int .i64 a0, .int .i64 a1, .int .i64 a2, .int .i64 a3, .int .i64 b1, .int .i64 b2, .int .i64 b3, .bool b4] 33)).1)
    have LW := Lib.hid (show W.heap.size ≤ qB by rw [← hqB]; exact Below.size K6.out)
    try rw [hX]
    try rw [hqB]
    clear hX hqB hHeld
    have AX := Lib.hid (Asd.of_kp (Orf gm sb (.slice (some ⟨bv, 0, none⟩) n cp)) (Kp.trans KW.out KX.out))
    have ZX := Lib.hid (kp_row KX.out ZW.out)
    have HX := Lib.hid (HH.out.kp (Kp.trans KW.out KX.out))
    have LQ := Lib.hid (show w.heap.size ≤ qB by have := LW.out; have := WS.out; omega)
    obtain ⟨x0, x1, x2, x3, x4, x5, x6, x7⟩ := cells_8 BX.out
    obtain ⟨u0, u1⟩ := cells_2M TX.out
    obtain ⟨j0, j1⟩ := cells_2R HX.out.row
    obtain ⟨s0, s1, s2, s3, s4, s5, s6, s7⟩ := cells_8 HX.out.seats
    have fs := frozN HX.out.seats
    go_wp2
    go_region
    have sx := HX.out.seat1 ⟨a0, a1, a2, a3⟩
    dsimp only at sx
    obtain ⟨X9, hX9⟩ : ∃ X9, ((((X.setCell ⟨sb, 0, none⟩ (.int .i64 a0)).setCell ⟨sb, 1, none⟩ (.int .i64 a1)).setCell ⟨sb, 2, none⟩ (.int .i64 a2)).setCell ⟨sb, 3, none⟩ (.int .i64 a3)).drew = X9 := ⟨_, rfl⟩
    have HS := Lib.hid (show Rp w0 gm sb ⟨⟨a0, a1, a2, a3⟩, m.x, m.f⟩ (.slice (some ⟨bv, 0, none⟩) n cp) X9 by rw [← hX9]; exact sx.1.drew)
    have a9 : Asd (Orf gm sb (.slice (some ⟨bv, 0, none⟩) n cp)) (Orf gm sb (.slice (some ⟨bv, 0, none⟩) n cp)) X X9 := by rw [← hX9]; exact sx.2.drewR
    have A9 := Lib.hid (AX.out.trans a9)
    have B9 := Lib.hid (a9.row BX.out (NOB.out _ LQ.out))
    have Z9 := Lib.hid (a9.row ZX.out (NOB.out _ (Nat.le_refl _)))
    have T9 := Lib.hid (a9.row TX.out (NOB.out _ (Nat.le_succ _)))
    have LB9 := Lib.hid (old_of_row B9.out)
    have LZ9 := Lib.hid (old_of_row Z9.out)
    rw [hX9]
    clear sx hX9 a9 x0 x1 x2 x3 x4 x5 x6 x7 u0 u1 j0 j1 s0 s1 s2 s3 s4 s5 s6 s7 fs
    obtain ⟨hii, hi, hl, hn, hnc⟩ := PK.out
    have kD : Kp X9 (X9).drew := kp_drewM (Kp.refl _)
    obtain ⟨wD, hwD⟩ : ∃ x, (X9).drew = x := ⟨_, rfl⟩
    rw [hwD] at kD
    have RD := HS.out.kp kD
    have ownD := RD.own
    rw [show PairM.f _ = m.f from rfl, hn] at ownD
    obtain ⟨jj, hjj⟩ : ∃ jj : Int, ii + 1 = jj := ⟨_, rfl⟩
    have sh := fun w => flyR_head (b := bv) hii (Nat.le_of_lt hi) hnc w
    have st := fun w => flyR_tail (b := bv) (cp := cp) (i := i + 1) (ii := jj) (n := n) (by omega) (by omega) w
    obtain ⟨at2, hat⟩ : ∃ x : Nat, (if cp = i + 1 then 0 else (i + 1) * 2) = x := ⟨_, rfl⟩
    rw [hat] at st
    have p1 := own_takeF ownD (Nat.le_of_lt hi)
    have p2 := own_dropF ownD (i := i + 1) (by omega) ⟨bv, at2, none⟩ (fun q => by rw [← hat, if_neg (by omega)]) (cp - (i + 1))
    obtain ⟨q2, hq2⟩ : ∃ x, n - (i + 1) = x := ⟨_, rfl⟩
    obtain ⟨q3, hq3⟩ : ∃ x, cp - (i + 1) = x := ⟨_, rfl⟩
    rw [hq2, hq3] at st p2
    have hwj : IntKind.i64.wrap jj = jj := IntWalk.i64_in jj (by omega)
    have i0 : 0 ≤ ii := by omega
    have i1 : ii ≤ 1000 := by omega
    obtain ⟨-, e1D⟩ := cells_2R RD.row
    have kE := kp_alloc wD (.cells #[] 57)
    have e1E := kp_cell kE e1D
    have O1 := Lib.hid (show (wD.alloc (.cells #[] 57)).ownsRow wD.heap.size 57 2 (.slice (some ⟨wD.heap.size, 0, none⟩) 0 0) 0 [] from ⟨by simp, Or.inr ⟨wD.heap.size, 0, #[], rfl, Nat.le_refl _, (MapKept.heap_alloc wD _).1, Nat.le_refl _, by omega, by simp, by simp⟩⟩)
    have P1 := Lib.hid (p1.kp kE)
    have P2 := Lib.hid p2
    obtain ⟨wE, hwE⟩ : ∃ x, wD.alloc (.cells #[] 57) = x := ⟨_, rfl⟩
    obtain ⟨sE, hsE⟩ : ∃ x, wD.heap.size = x := ⟨_, rfl⟩
    rw [hwE] at kE e1E O1 P1
    rw [hsE] at O1
    have KE := Lib.hid (Kp.trans kD kE)
    have KDE := Lib.hid kE
    have SE := Lib.hid (show X9.heap.size ≤ sE by rw [← hsE]; exact Below.size kD)
    have HWD := Lib.hid hwD
    have HWE := Lib.hid hwE
    have HSE := Lib.hid hsE
    have HN := Lib.hid hn
    have HQ2 := Lib.hid hq2
    have HI := Lib.hid (And.intro hi hl)
    have HTI := Lib.hid (show (m.f.take i).length = i by rw [List.length_take]; omega)
    obtain ⟨L2, hL2⟩ : ∃ L, i + (m.f.drop (i + 1)).length = L := ⟨_, rfl⟩
    have HL2 := Lib.hid hL2
    clear hL2 kD RD ownD hat p1 p2 hq2 hq3 kE hwD hwE hsE
    clear hi hl hn hnc
    go_wp2_with fail
    refine wp_region_held_drew (S := fun _ => True) (by kernel_rfl) ?_ (fun hHeld => ?_)
    · exact trivial
    rw [HWD.out]
    refine wpAnyH_take (i := 0) (v := ?_) rfl (by kernel_rfl) (by kernel_rfl) (by kernel_rfl) (fun _ _ _ h => h) (Or.inl ⟨by rfl, ?_⟩) (by assumption) ?_
    rotate_left
    · intro w hSw; go_simp; try with_reducible rfl
    go_simp
    refine wpAnyH_take (i := 2) (v := ?_) rfl (by kernel_rfl) (by kernel_rfl) (by kernel_rfl) (fun _ _ _ h => h) (Or.inl ⟨by rfl, ?_⟩) (by assumption) ?_
    rotate_left
    · intro w hSw; go_simp; try with_reducible rfl
    go_simp
    refine wpAnyH_take (i := 3) (v := ?_) rfl (by kernel_rfl) (by kernel_rfl) (by kernel_rfl) (fun _ _ _ h => h) (Or.inl ⟨by rfl, ?_⟩) (by assumption) ?_
    rotate_left
    · intro w hSw; go_simp; try with_reducible rfl
    go_simp
    refine wpAnyH_take (i := 4) (v := ?_) rfl (by kernel_rfl) (by kernel_rfl) (by kernel_rfl) (fun _ _ _ h => h) (Or.inl ⟨by rfl, ?_⟩) (by assumption) ?_
    rotate_left
    · intro w hSw; go_simp; try with_reducible rfl
    go_simp
    refine wpAnyH_take (i := 6) (v := ?_) rfl (by kernel_rfl) (by kernel_rfl) (by kernel_rfl) (fun _ _ _ h => h) (Or.inl ⟨by rfl, ?_⟩) (by assumption) ?_
    rotate_left
    · intro w hSw; go_simp; try with_reducible rfl
    go_simp
    refine wpAnyH_take (i := 9) (v := ?_) rfl (by kernel_rfl) (by kernel_rfl) (by kernel_rfl) (fun _ _ _ h => h) (Or.inl ⟨by rfl, ?_⟩) (by assumption) ?_
    rotate_left
    · intro w hSw; go_simp; try with_reducible rfl
    go_simp
    refine wpAnyH_take (i := 10) (v := ?_) rfl (by kernel_rfl) (by kernel_rfl) (by kernel_rfl) (fun _ _ _ h => h) (Or.inl ⟨by rfl, ?_⟩) (by assumption) ?_
    rotate_left
    · intro w hSw; go_simp; try with_reducible rfl
    go_simp
    refine wpAnyH_take (i := 11) (v := ?_) rfl (by kernel_rfl) (by kernel_rfl) (by kernel_rfl) (fun _ _ _ h => h) (Or.inl ⟨by rfl, ?_⟩) (by assumption) ?_
    rotate_left
    · intro w hSw; go_simp; try with_reducible rfl
    go_simp
    refine wpAnyH_take (i := 13) (v := ?_) rfl (by kernel_rfl) (by kernel_rfl) (by kernel_rfl) (fun _ _ _ h => h) (Or.inl ⟨by rfl, ?_⟩) (by assumption) ?_
    rotate_left
    · intro w hSw; go_simp; try with_reducible rfl
    go_simp
    refine wpAnyH_take (i := 14) (v := ?_) rfl (by kernel_rfl) (by kernel_rfl) (by kernel_rfl) (fun _ _ _ h => h) (Or.inl ⟨by rfl, ?_⟩) (by assumption) ?_
    rotate_left
    · intro w hSw; go_simp; try with_reducible rfl
    go_simp
    refine wpAnyH_ready (rs := [1, 5, 12]) (by kernel_rfl) (by simp) ?_
    refine AllReadyH.cons rfl (fun K hK => ?_) (AllReadyH.cons rfl (fun K hK => ?_) (AllReadyH.cons rfl (fun K hK => ?_) AllReadyH.nil))
    · go_simp
      try rw [HSE.out]
      try rw [HWE.out]
      refine hK.out _ _ trivial (fun hHeld => ?_)
      clear hK K
      refine wpAnyH_ready (rs := [5, 12]) (by kernel_rfl) (by simp) ?_
      refine AllReadyH.cons rfl (fun K hK => ?_) (AllReadyH.cons rfl (fun K hK => ?_) AllReadyH.nil)
      · go_simp
        refine hK.out _ _ trivial (fun hHeld => ?_)
        clear hK K
        refine wpAnyH_take (i := 7) (v := ?_) rfl (by kernel_rfl) (by kernel_rfl) (by kernel_rfl) (fun _ _ _ h => h) (Or.inl ⟨by rfl, ?_⟩) (by assumption) ?_
        rotate_left
        · intro w hSw; go_simp; try with_reducible rfl
        go_simp
        refine wpAnyH_ready (rs := [8, 12]) (by kernel_rfl) (by simp) ?_
        refine AllReadyH.consLR rfl (fun K hK => ?_) (AllReadyH.cons rfl (fun K hK => ?_) AllReadyH.nil)
        · go_simp
          refine wpList_append_flr _ rfl _ _ rfl sE _ _ _ rfl O1.out _ (m.f.take i) rfl P1.out ?f1 ?f2 ?_
          case f1 => have := HI.out; have := HN.out; simp; omega
          case f2 => have := O1.out.lt sE rfl; omega
          rintro v3 w3 ho hg hb
          rw [HTI.out, Nat.zero_add, List.nil_append] at ho
          obtain ⟨ad3, c3, rfl⟩ := own_formR ho
          have K3 := Lib.hid (show Kp X9 w3 from Below.grown KE.out hg (Below.size KE.out) (fun k hk => by have := (O1.out.lt k hk).1; have := SE.out; omega))
          have O3 := Lib.hid ho
          have S3 := Lib.hid (show sE ≤ w3.heap.size from Nat.le_trans (by have := O1.out.lt sE rfl; omega) hg.size)
          have P3 := Lib.hid (P2.out.kp (show Kp wD w3 from Below.grown KDE.out hg (Below.size KDE.out) (fun k hk => by have := (O1.out.lt k hk).1; have := HSE.out; omega)))
          have e13 := kp_cell K3.out (cells_2R HS.out.row).2
          clear ho hg hb
          refine hK.out _ _ trivial (fun hHeld => ?_)
          clear hK K
          refine wpAnyH_ready (rs := [12]) (by kernel_rfl) (by simp) ?_
          refine AllReadyH.cons rfl (fun K hK => ?_) AllReadyH.nil
          go_simp
          refine hK.out _ _ trivial (fun hHeld => ?_)
          clear hK K
          refine wpAnyH_take (i := 15) (v := ?_) rfl (by kernel_rfl) (by kernel_rfl) (by kernel_rfl) (fun _ _ _ h => h) (Or.inl ⟨by rfl, ?_⟩) (by assumption) ?_
          rotate_left
          · intro w hSw; go_simp; try with_reducible rfl
          go_simp
          refine wpAnyH_ready (rs := [16]) (by kernel_rfl) (by simp) ?_
          refine AllReadyH.consLR rfl (fun K hK => ?_) AllReadyH.nil
          go_simp
          refine wpList_append_flr _ rfl _ _ rfl sE _ _ _ rfl O3.out _ (m.f.drop (i + 1)) rfl P3.out ?f3 ?f4 ?_
          case f3 => have := HI.out; have := HN.out; simp; omega
          case f4 => exact S3.out
          rintro v4 w4 ho hg hb
          rw [HL2.out] at ho
          obtain ⟨ad4, c4, rfl⟩ := own_formR ho
          have K4 := Lib.hid (show Kp X9 w4 from Below.grown K3.out hg (Below.size K3.out) (fun k hk => by have := (O3.out.lt k hk).1; have := SE.out; omega))
          have RF := Lib.hid (HS.out.fly K4.out (w3 := w4) (L := L2) ⟨rfl, rfl, rfl, Nat.le_refl _, fun _ _ _ => rfl⟩ (f := m.f.take i ++ m.f.drop (i + 1)) (by rw [List.length_append, HTI.out, HL2.out]) (by rw [flyB_app]; exact own_baseR (base := sE) ho (Nat.le_trans HS.out.bg (Nat.le_trans (Nat.le_of_lt (old_of_row HS.out.row)) SE.out))) (fun b q => .inr (by have := (ho.lt b q).1; have := SE.out; omega)))
          have r4 := kp_row K4.out HS.out.row
          obtain ⟨x0, x1⟩ := cells_2R r4
          have fz := frozN r4
          clear ho hg hb r4
          refine hK.out _ _ trivial (fun hHeld => ?_)
          clear hK K
          refine wpAnyH_take (i := 17) (v := ?_) rfl (by kernel_rfl) (by kernel_rfl) (by kernel_rfl) (fun _ _ _ h => h) (Or.inl ⟨by rfl, ?_⟩) (by assumption) ?_
          rotate_left
          · intro w hSw; go_simp; try with_reducible rfl
          go_simp
          refine wpAnyH_take (i := 18) (v := ?_) rfl (by kernel_rfl) (by kernel_rfl) (by kernel_rfl) (fun _ _ _ h => h) (Or.inl ⟨by rfl, ?_⟩) (by assumption) ?_
          rotate_left
          · intro w hSw; go_simp; try with_reducible rfl
          go_simp
          refine wpAnyH_ready (rs := [19]) (by kernel_rfl) (by simp) ?_
          refine AllReadyH.cons rfl (fun K hK => ?_) AllReadyH.nil
          go_simp
          refine hK.out _ _ trivial (fun hHeld => ?_)
          clear hK K
          refine wpAnyH_done (by kernel_rfl) ?_ _
          have PY := Lib.hid (show Rp w0 gm sb ⟨⟨a0, a1, a2, a3⟩, m.x, (m.f.take i ++ m.f.drop (i + 1))⟩ (.slice ad4 L2 c4) (w4.setCell ⟨gm, 1, none⟩ (.slice ad4 L2 c4)) from RF.out.1)
          have AY := Lib.hid (A9.out.trans RF.out.2)
          have BY := Lib.hid (RF.out.2.row B9.out (NOB.out _ LQ.out))
          have ZY := Lib.hid (RF.out.2.row Z9.out (NOB.out _ (Nat.le_refl _)))
          have TY := Lib.hid (RF.out.2.row T9.out (NOB.out _ (Nat.le_succ _)))
          have NBY := Lib.hid (fun b (h1 : w.heap.size ≤ b) (h2 : b < X9.heap.size) => (fun q => (RF.out.2.own b q).elim (NOB.out b h1) (fun q => absurd h2 (by omega)) : ¬ Orf gm sb (.slice ad4 L2 c4) b))
          obtain ⟨YY, hY⟩ : ∃ Y, (w4.setCell ⟨gm, 1, none⟩ (.slice ad4 L2 c4)) = Y := ⟨_, rfl⟩
          rw [hY] at PY AY BY ZY TY
          rw [hY]
          have LZY := Lib.hid (old_of_row ZY.out)
          clear hY x0 x1 fz
          obtain ⟨x0, x1, x2, x3, x4, x5, x6, x7⟩ := cells_8 BY.out
          obtain ⟨u0, u1⟩ := cells_2M TY.out
          go_wp2_with (go_at_call 72; (with_reducible refine (HPT.out _ _ PY.out).mono ?_); rintro e' w8 ⟨rfl, v', hp, ha⟩; have P8 := Lib.hid hp; have A8 := Lib.hid (AY.out.trans ha); have NO := Lib.hid (show ¬ Orf gm sb v' w.heap.size from fun q => (ha.own _ q).elim (NBY.out _ (Nat.le_refl _) LZ9.out) (fun q => by have := LZY.out; omega)); have B8 := Lib.hid (ha.row BY.out (NBY.out _ LQ.out LB9.out)); have Z8 := Lib.hid (ha.row ZY.out (NBY.out _ (Nat.le_refl _) LZ9.out)); obtain ⟨s0, s1, s2, s3, s4, s5, s6, s7⟩ := cells_8 B8.out; obtain ⟨r0, r1, r2, r3, r4, r5, r6, r7⟩ := cells_8 Z8.out; have fz8 := frozN Z8.out; clear hp ha)
          refine bodyPost_ret (results_row_tmpT (p := 6) (u := 7) rfl _ _ w.heap.size 33 _ (0, 0) _ rfl (set_8 _ _ _ _ _ _ _ _ Z8.out) Tryd.underlying33 rfl (by kernel_rfl)) rfl ?_
          exact ⟨rfl, v', P8.out.stay (fun b hb => set_8_eq (fun q => NO.out (q ▸ hb))), set_8_asd A8.out (Nat.le_refl _)⟩
        · go_simp
          refine hK.out _ _ trivial (fun hHeld => ?_)
          clear hK K
          refine wpAnyH_take (i := 15) (v := ?_) rfl (by kernel_rfl) (by kernel_rfl) (by kernel_rfl) (fun _ _ _ h => h) (Or.inl ⟨by rfl, ?_⟩) (by assumption) ?_
          rotate_left
          · intro w hSw; go_simp; try with_reducible rfl
          go_simp
          refine wpAnyH_ready (rs := [8]) (by kernel_rfl) (by simp) ?_
          refine AllReadyH.consLR rfl (fun K hK => ?_) AllReadyH.nil
          go_simp
          refine wpList_append_flr _ rfl _ _ rfl sE _ _ _ rfl O1.out _ (m.f.take i) rfl P1.out ?f1 ?f2 ?_
          case f1 => have := HI.out; have := HN.out; simp; omega
          case f2 => have := O1.out.lt sE rfl; omega
          rintro v3 w3 ho hg hb
          rw [HTI.out, Nat.zero_add, List.nil_append] at ho
          obtain ⟨ad3, c3, rfl⟩ := own_formR ho
          have K3 := Lib.hid (show Kp X9 w3 from Below.grown KE.out hg (Below.size KE.out) (fun k hk => by have := (O1.out.lt k hk).1; have := SE.out; omega))
          have O3 := Lib.hid ho
          have S3 := Lib.hid (show sE ≤ w3.heap.size from Nat.le_trans (by have := O1.out.lt sE rfl; omega) hg.size)
          have P3 := Lib.hid (P2.out.kp (show Kp wD w3 from Below.grown KDE.out hg (Below.size KDE.out) (fun k hk => by have := (O1.out.lt k hk).1; have := HSE.out; omega)))
          have e13 := kp_cell K3.out (cells_2R HS.out.row).2
          clear ho hg hb
          refine hK.out _ _ trivial (fun hHeld => ?_)
          clear hK K
          refine wpAnyH_ready (rs := [16]) (by kernel_rfl) (by simp) ?_
          refine AllReadyH.consLR rfl (fun K hK => ?_) AllReadyH.nil
          go_simp
          refine wpList_append_flr _ rfl _ _ rfl sE _ _ _ rfl O3.out _ (m.f.drop (i + 1)) rfl P3.out ?f3 ?f4 ?_
          case f3 => have := HI.out; have := HN.out; simp; omega
          case f4 => exact S3.out
          rintro v4 w4 ho hg hb
          rw [HL2.out] at ho
          obtain ⟨ad4, c4, rfl⟩ := own_formR ho
          have K4 := Lib.hid (show Kp X9 w4 from Below.grown K3.out hg (Below.size K3.out) (fun k hk => by have := (O3.out.lt k hk).1; have := SE.out; omega))
          have RF := Lib.hid (HS.out.fly K4.out (w3 := w4) (L := L2) ⟨rfl, rfl, rfl, Nat.le_refl _, fun _ _ _ => rfl⟩ (f := m.f.take i ++ m.f.drop (i + 1)) (by rw [List.length_append, HTI.out, HL2.out]) (by rw [flyB_app]; exact own_baseR (base := sE) ho (Nat.le_trans HS.out.bg (Nat.le_trans (Nat.le_of_lt (old_of_row HS.out.row)) SE.out))) (fun b q => .inr (by have := (ho.lt b q).1; have := SE.out; omega)))
          have r4 := kp_row K4.out HS.out.row
          obtain ⟨x0, x1⟩ := cells_2R r4
          have fz := frozN r4
          clear ho hg hb r4
          refine hK.out _ _ trivial (fun hHeld => ?_)
          clear hK K
          refine wpAnyH_take (i := 17) (v := ?_) rfl (by kernel_rfl) (by kernel_rfl) (by kernel_rfl) (fun _ _ _ h => h) (Or.inl ⟨by rfl, ?_⟩) (by assumption) ?_
          rotate_left
          · intro w hSw; go_simp; try with_reducible rfl
          go_simp
          refine wpAnyH_take (i := 18) (v := ?_) rfl (by kernel_rfl) (by kernel_rfl) (by kernel_rfl) (fun _ _ _ h => h) (Or.inl ⟨by rfl, ?_⟩) (by assumption) ?_
          rotate_left
          · intro w hSw; go_simp; try with_reducible rfl
          go_simp
          refine wpAnyH_ready (rs := [19]) (by kernel_rfl) (by simp) ?_
          refine AllReadyH.cons rfl (fun K hK => ?_) AllReadyH.nil
          go_simp
          refine hK.out _ _ trivial (fun hHeld => ?_)
          clear hK K
          refine wpAnyH_done (by kernel_rfl) ?_ _
          have PY := Lib.hid (show Rp w0 gm sb ⟨⟨a0, a1, a2, a3⟩, m.x, (m.f.take i ++ m.f.drop (i + 1))⟩ (.slice ad4 L2 c4) (w4.setCell ⟨gm, 1, none⟩ (.slice ad4 L2 c4)) from RF.out.1)
          have AY := Lib.hid (A9.out.trans RF.out.2)
          have BY := Lib.hid (RF.out.2.row B9.out (NOB.out _ LQ.out))
          have ZY := Lib.hid (RF.out.2.row Z9.out (NOB.out _ (Nat.le_refl _)))
          have TY := Lib.hid (RF.out.2.row T9.out (NOB.out _ (Nat.le_succ _)))
          have NBY := Lib.hid (fun b (h1 : w.heap.size ≤ b) (h2 : b < X9.heap.size) => (fun q => (RF.out.2.own b q).elim (NOB.out b h1) (fun q => absurd h2 (by omega)) : ¬ Orf gm sb (.slice ad4 L2 c4) b))
          obtain ⟨YY, hY⟩ : ∃ Y, (w4.setCell ⟨gm, 1, none⟩ (.slice ad4 L2 c4)) = Y := ⟨_, rfl⟩
          rw [hY] at PY AY BY ZY TY
          rw [hY]
          have LZY := Lib.hid (old_of_row ZY.out)
          clear hY x0 x1 fz
          obtain ⟨x0, x1, x2, x3, x4, x5, x6, x7⟩ := cells_8 BY.out
          obtain ⟨u0, u1⟩ := cells_2M TY.out
          go_wp2_with (go_at_call 72; (with_reducible refine (HPT.out _ _ PY.out).mono ?_); rintro e' w8 ⟨rfl, v', hp, ha⟩; have P8 := Lib.hid hp; have A8 := Lib.hid (AY.out.trans ha); have NO := Lib.hid (show ¬ Orf gm sb v' w.heap.size from fun q => (ha.own _ q).elim (NBY.out _ (Nat.le_refl _) LZ9.out) (fun q => by have := LZY.out; omega)); have B8 := Lib.hid (ha.row BY.out (NBY.out _ LQ.out LB9.out)); have Z8 := Lib.hid (ha.row ZY.out (NBY.out _ (Nat.le_refl _) LZ9.out)); obtain ⟨s0, s1, s2, s3, s4, s5, s6, s7⟩ := cells_8 B8.out; obtain ⟨r0, r1, r2, r3, r4, r5, r6, r7⟩ := cells_8 Z8.out; have fz8 := frozN Z8.out; clear hp ha)
          refine bodyPost_ret (results_row_tmpT (p := 6) (u := 7) rfl _ _ w.heap.size 33 _ (0, 0) _ rfl (set_8 _ _ _ _ _ _ _ _ Z8.out) Tryd.underlying33 rfl (by kernel_rfl)) rfl ?_
          exact ⟨rfl, v', P8.out.stay (fun b hb => set_8_eq (fun q => NO.out (q ▸ hb))), set_8_asd A8.out (Nat.le_refl _)⟩
      · go_simp
        refine hK.out _ _ trivial (fun hHeld => ?_)
        clear hK K
        refine wpAnyH_take (i := 15) (v := ?_) rfl (by kernel_rfl) (by kernel_rfl) (by kernel_rfl) (fun _ _ _ h => h) (Or.inl ⟨by rfl, ?_⟩) (by assumption) ?_
        rotate_left
        · intro w hSw; go_simp; try with_reducible rfl
        go_simp
        refine wpAnyH_ready (rs := [5]) (by kernel_rfl) (by simp) ?_
        refine AllReadyH.cons rfl (fun K hK => ?_) AllReadyH.nil
        go_simp
        refine hK.out _ _ trivial (fun hHeld => ?_)
        clear hK K
        refine wpAnyH_take (i := 7) (v := ?_) rfl (by kernel_rfl) (by kernel_rfl) (by kernel_rfl) (fun _ _ _ h => h) (Or.inl ⟨by rfl, ?_⟩) (by assumption) ?_
        rotate_left
        · intro w hSw; go_simp; try with_reducible rfl
        go_simp
        refine wpAnyH_ready (rs := [8]) (by kernel_rfl) (by simp) ?_
        refine AllReadyH.consLR rfl (fun K hK => ?_) AllReadyH.nil
        go_simp
        refine wpList_append_flr _ rfl _ _ rfl sE _ _ _ rfl O1.out _ (m.f.take i) rfl P1.out ?f1 ?f2 ?_
        case f1 => have := HI.out; have := HN.out; simp; omega
        case f2 => have := O1.out.lt sE rfl; omega
        rintro v3 w3 ho hg hb
        rw [HTI.out, Nat.zero_add, List.nil_append] at ho
        obtain ⟨ad3, c3, rfl⟩ := own_formR ho
        have K3 := Lib.hid (show Kp X9 w3 from Below.grown KE.out hg (Below.size KE.out) (fun k hk => by have := (O1.out.lt k hk).1; have := SE.out; omega))
        have O3 := Lib.hid ho
        have S3 := Lib.hid (show sE ≤ w3.heap.size from Nat.le_trans (by have := O1.out.lt sE rfl; omega) hg.size)
        have P3 := Lib.hid (P2.out.kp (show Kp wD w3 from Below.grown KDE.out hg (Below.size KDE.out) (fun k hk => by have := (O1.out.lt k hk).1; have := HSE.out; omega)))
        have e13 := kp_cell K3.out (cells_2R HS.out.row).2
        clear ho hg hb
        refine hK.out _ _ trivial (fun hHeld => ?_)
        clear hK K
        refine wpAnyH_ready (rs := [16]) (by kernel_rfl) (by simp) ?_
        refine AllReadyH.consLR rfl (fun K hK => ?_) AllReadyH.nil
        go_simp
        refine wpList_append_flr _ rfl _ _ rfl sE _ _ _ rfl O3.out _ (m.f.drop (i + 1)) rfl P3.out ?f3 ?f4 ?_
        case f3 => have := HI.out; have := HN.out; simp; omega
        case f4 => exact S3.out
        rintro v4 w4 ho hg hb
        rw [HL2.out] at ho
        obtain ⟨ad4, c4, rfl⟩ := own_formR ho
        have K4 := Lib.hid (show Kp X9 w4 from Below.grown K3.out hg (Below.size K3.out) (fun k hk => by have := (O3.out.lt k hk).1; have := SE.out; omega))
        have RF := Lib.hid (HS.out.fly K4.out (w3 := w4) (L := L2) ⟨rfl, rfl, rfl, Nat.le_refl _, fun _ _ _ => rfl⟩ (f := m.f.take i ++ m.f.drop (i + 1)) (by rw [List.length_append, HTI.out, HL2.out]) (by rw [flyB_app]; exact own_baseR (base := sE) ho (Nat.le_trans HS.out.bg (Nat.le_trans (Nat.le_of_lt (old_of_row HS.out.row)) SE.out))) (fun b q => .inr (by have := (ho.lt b q).1; have := SE.out; omega)))
        have r4 := kp_row K4.out HS.out.row
        obtain ⟨x0, x1⟩ := cells_2R r4
        have fz := frozN r4
        clear ho hg hb r4
        refine hK.out _ _ trivial (fun hHeld => ?_)
        clear hK K
        refine wpAnyH_take (i := 17) (v := ?_) rfl (by kernel_rfl) (by kernel_rfl) (by kernel_rfl) (fun _ _ _ h => h) (Or.inl ⟨by rfl, ?_⟩) (by assumption) ?_
        rotate_left
        · intro w hSw; go_simp; try with_reducible rfl
        go_simp
        refine wpAnyH_take (i := 18) (v := ?_) rfl (by kernel_rfl) (by kernel_rfl) (by kernel_rfl) (fun _ _ _ h => h) (Or.inl ⟨by rfl, ?_⟩) (by assumption) ?_
        rotate_left
        · intro w hSw; go_simp; try with_reducible rfl
        go_simp
        refine wpAnyH_ready (rs := [19]) (by kernel_rfl) (by simp) ?_
        refine AllReadyH.cons rfl (fun K hK => ?_) AllReadyH.nil
        go_simp
        refine hK.out _ _ trivial (fun hHeld => ?_)
        clear hK K
        refine wpAnyH_done (by kernel_rfl) ?_ _
        have PY := Lib.hid (show Rp w0 gm sb ⟨⟨a0, a1, a2, a3⟩, m.x, (m.f.take i ++ m.f.drop (i + 1))⟩ (.slice ad4 L2 c4) (w4.setCell ⟨gm, 1, none⟩ (.slice ad4 L2 c4)) from RF.out.1)
        have AY := Lib.hid (A9.out.trans RF.out.2)
        have BY := Lib.hid (RF.out.2.row B9.out (NOB.out _ LQ.out))
        have ZY := Lib.hid (RF.out.2.row Z9.out (NOB.out _ (Nat.le_refl _)))
        have TY := Lib.hid (RF.out.2.row T9.out (NOB.out _ (Nat.le_succ _)))
        have NBY := Lib.hid (fun b (h1 : w.heap.size ≤ b) (h2 : b < X9.heap.size) => (fun q => (RF.out.2.own b q).elim (NOB.out b h1) (fun q => absurd h2 (by omega)) : ¬ Orf gm sb (.slice ad4 L2 c4) b))
        obtain ⟨YY, hY⟩ : ∃ Y, (w4.setCell ⟨gm, 1, none⟩ (.slice ad4 L2 c4)) = Y := ⟨_, rfl⟩
        rw [hY] at PY AY BY ZY TY
        rw [hY]
        have LZY := Lib.hid (old_of_row ZY.out)
        clear hY x0 x1 fz
        obtain ⟨x0, x1, x2, x3, x4, x5, x6, x7⟩ := cells_8 BY.out
        obtain ⟨u0, u1⟩ := cells_2M TY.out
        go_wp2_with (go_at_call 72; (with_reducible refine (HPT.out _ _ PY.out).mono ?_); rintro e' w8 ⟨rfl, v', hp, ha⟩; have P8 := Lib.hid hp; have A8 := Lib.hid (AY.out.trans ha); have NO := Lib.hid (show ¬ Orf gm sb v' w.heap.size from fun q => (ha.own _ q).elim (NBY.out _ (Nat.le_refl _) LZ9.out) (fun q => by have := LZY.out; omega)); have B8 := Lib.hid (ha.row BY.out (NBY.out _ LQ.out LB9.out)); have Z8 := Lib.hid (ha.row ZY.out (NBY.out _ (Nat.le_refl _) LZ9.out)); obtain ⟨s0, s1, s2, s3, s4, s5, s6, s7⟩ := cells_8 B8.out; obtain ⟨r0, r1, r2, r3, r4, r5, r6, r7⟩ := cells_8 Z8.out; have fz8 := frozN Z8.out; clear hp ha)
        refine bodyPost_ret (results_row_tmpT (p := 6) (u := 7) rfl _ _ w.heap.size 33 _ (0, 0) _ rfl (set_8 _ _ _ _ _ _ _ _ Z8.out) Tryd.underlying33 rfl (by kernel_rfl)) rfl ?_
        exact ⟨rfl, v', P8.out.stay (fun b hb => set_8_eq (fun q => NO.out (q ▸ hb))), set_8_asd A8.out (Nat.le_refl _)⟩
    · go_simp
      refine hK.out _ _ trivial (fun hHeld => ?_)
      clear hK K
      refine wpAnyH_take (i := 7) (v := ?_) rfl (by kernel_rfl) (by kernel_rfl) (by kernel_rfl) (fun _ _ _ h => h) (Or.inl ⟨by rfl, ?_⟩) (by assumption) ?_
      rotate_left
      · intro w hSw; go_simp; try with_reducible rfl
      go_simp
      refine wpAnyH_ready (rs := [1, 12]) (by kernel_rfl) (by simp) ?_
      refine AllReadyH.cons rfl (fun K hK => ?_) (AllReadyH.cons rfl (fun K hK => ?_) AllReadyH.nil)
      · go_simp
        try rw [HSE.out]
        try rw [HWE.out]
        refine hK.out _ _ trivial (fun hHeld => ?_)
        clear hK K
        refine wpAnyH_ready (rs := [8, 12]) (by kernel_rfl) (by simp) ?_
        refine AllReadyH.consLR rfl (fun K hK => ?_) (AllReadyH.cons rfl (fun K hK => ?_) AllReadyH.nil)
        · go_simp
          refine wpList_append_flr _ rfl _ _ rfl sE _ _ _ rfl O1.out _ (m.f.take i) rfl P1.out ?f1 ?f2 ?_
          case f1 => have := HI.out; have := HN.out; simp; omega
          case f2 => have := O1.out.lt sE rfl; omega
          rintro v3 w3 ho hg hb
          rw [HTI.out, Nat.zero_add, List.nil_append] at ho
          obtain ⟨ad3, c3, rfl⟩ := own_formR ho
          have K3 := Lib.hid (show Kp X9 w3 from Below.grown KE.out hg (Below.size KE.out) (fun k hk => by have := (O1.out.lt k hk).1; have := SE.out; omega))
          have O3 := Lib.hid ho
          have S3 := Lib.hid (show sE ≤ w3.heap.size from Nat.le_trans (by have := O1.out.lt sE rfl; omega) hg.size)
          have P3 := Lib.hid (P2.out.kp (show Kp wD w3 from Below.grown KDE.out hg (Below.size KDE.out) (fun k hk => by have := (O1.out.lt k hk).1; have := HSE.out; omega)))
          have e13 := kp_cell K3.out (cells_2R HS.out.row).2
          clear ho hg hb
          refine hK.out _ _ trivial (fun hHeld => ?_)
          clear hK K
          refine wpAnyH_ready (rs := [12]) (by kernel_rfl) (by simp) ?_
          refine AllReadyH.cons rfl (fun K hK => ?_) AllReadyH.nil
          go_simp
          refine hK.out _ _ trivial (fun hHeld => ?_)
          clear hK K
          refine wpAnyH_take (i := 15) (v := ?_) rfl (by kernel_rfl) (by kernel_rfl) (by kernel_rfl) (fun _ _ _ h => h) (Or.inl ⟨by rfl, ?_⟩) (by assumption) ?_
          rotate_left
          · intro w hSw; go_simp; try with_reducible rfl
          go_simp
          refine wpAnyH_ready (rs := [16]) (by kernel_rfl) (by simp) ?_
          refine AllReadyH.consLR rfl (fun K hK => ?_) AllReadyH.nil
          go_simp
          refine wpList_append_flr _ rfl _ _ rfl sE _ _ _ rfl O3.out _ (m.f.drop (i + 1)) rfl P3.out ?f3 ?f4 ?_
          case f3 => have := HI.out; have := HN.out; simp; omega
          case f4 => exact S3.out
          rintro v4 w4 ho hg hb
          rw [HL2.out] at ho
          obtain ⟨ad4, c4, rfl⟩ := own_formR ho
          have K4 := Lib.hid (show Kp X9 w4 from Below.grown K3.out hg (Below.size K3.out) (fun k hk => by have := (O3.out.lt k hk).1; have := SE.out; omega))
          have RF := Lib.hid (HS.out.fly K4.out (w3 := w4) (L := L2) ⟨rfl, rfl, rfl, Nat.le_refl _, fun _ _ _ => rfl⟩ (f := m.f.take i ++ m.f.drop (i + 1)) (by rw [List.length_append, HTI.out, HL2.out]) (by rw [flyB_app]; exact own_baseR (base := sE) ho (Nat.le_trans HS.out.bg (Nat.le_trans (Nat.le_of_lt (old_of_row HS.out.row)) SE.out))) (fun b q => .inr (by have := (ho.lt b q).1; have := SE.out; omega)))
          have r4 := kp_row K4.out HS.out.row
          obtain ⟨x0, x1⟩ := cells_2R r4
          have fz := frozN r4
          clear ho hg hb r4
          refine hK.out _ _ trivial (fun hHeld => ?_)
          clear hK K
          refine wpAnyH_take (i := 17) (v := ?_) rfl (by kernel_rfl) (by kernel_rfl) (by kernel_rfl) (fun _ _ _ h => h) (Or.inl ⟨by rfl, ?_⟩) (by assumption) ?_
          rotate_left
          · intro w hSw; go_simp; try with_reducible rfl
          go_simp
          refine wpAnyH_take (i := 18) (v := ?_) rfl (by kernel_rfl) (by kernel_rfl) (by kernel_rfl) (fun _ _ _ h => h) (Or.inl ⟨by rfl, ?_⟩) (by assumption) ?_
          rotate_left
          · intro w hSw; go_simp; try with_reducible rfl
          go_simp
          refine wpAnyH_ready (rs := [19]) (by kernel_rfl) (by simp) ?_
          refine AllReadyH.cons rfl (fun K hK => ?_) AllReadyH.nil
          go_simp
          refine hK.out _ _ trivial (fun hHeld => ?_)
          clear hK K
          refine wpAnyH_done (by kernel_rfl) ?_ _
          have PY := Lib.hid (show Rp w0 gm sb ⟨⟨a0, a1, a2, a3⟩, m.x, (m.f.take i ++ m.f.drop (i + 1))⟩ (.slice ad4 L2 c4) (w4.setCell ⟨gm, 1, none⟩ (.slice ad4 L2 c4)) from RF.out.1)
          have AY := Lib.hid (A9.out.trans RF.out.2)
          have BY := Lib.hid (RF.out.2.row B9.out (NOB.out _ LQ.out))
          have ZY := Lib.hid (RF.out.2.row Z9.out (NOB.out _ (Nat.le_refl _)))
          have TY := Lib.hid (RF.out.2.row T9.out (NOB.out _ (Nat.le_succ _)))
          have NBY := Lib.hid (fun b (h1 : w.heap.size ≤ b) (h2 : b < X9.heap.size) => (fun q => (RF.out.2.own b q).elim (NOB.out b h1) (fun q => absurd h2 (by omega)) : ¬ Orf gm sb (.slice ad4 L2 c4) b))
          obtain ⟨YY, hY⟩ : ∃ Y, (w4.setCell ⟨gm, 1, none⟩ (.slice ad4 L2 c4)) = Y := ⟨_, rfl⟩
          rw [hY] at PY AY BY ZY TY
          rw [hY]
          have LZY := Lib.hid (old_of_row ZY.out)
          clear hY x0 x1 fz
          obtain ⟨x0, x1, x2, x3, x4, x5, x6, x7⟩ := cells_8 BY.out
          obtain ⟨u0, u1⟩ := cells_2M TY.out
          go_wp2_with (go_at_call 72; (with_reducible refine (HPT.out _ _ PY.out).mono ?_); rintro e' w8 ⟨rfl, v', hp, ha⟩; have P8 := Lib.hid hp; have A8 := Lib.hid (AY.out.trans ha); have NO := Lib.hid (show ¬ Orf gm sb v' w.heap.size from fun q => (ha.own _ q).elim (NBY.out _ (Nat.le_refl _) LZ9.out) (fun q => by have := LZY.out; omega)); have B8 := Lib.hid (ha.row BY.out (NBY.out _ LQ.out LB9.out)); have Z8 := Lib.hid (ha.row ZY.out (NBY.out _ (Nat.le_refl _) LZ9.out)); obtain ⟨s0, s1, s2, s3, s4, s5, s6, s7⟩ := cells_8 B8.out; obtain ⟨r0, r1, r2, r3, r4, r5, r6, r7⟩ := cells_8 Z8.out; have fz8 := frozN Z8.out; clear hp ha)
          refine bodyPost_ret (results_row_tmpT (p := 6) (u := 7) rfl _ _ w.heap.size 33 _ (0, 0) _ rfl (set_8 _ _ _ _ _ _ _ _ Z8.out) Tryd.underlying33 rfl (by kernel_rfl)) rfl ?_
          exact ⟨rfl, v', P8.out.stay (fun b hb => set_8_eq (fun q => NO.out (q ▸ hb))), set_8_asd A8.out (Nat.le_refl _)⟩
        · go_simp
          refine hK.out _ _ trivial (fun hHeld => ?_)
          clear hK K
          refine wpAnyH_take (i := 15) (v := ?_) rfl (by kernel_rfl) (by kernel_rfl) (by kernel_rfl) (fun _ _ _ h => h) (Or.inl ⟨by rfl, ?_⟩) (by assumption) ?_
          rotate_left
          · intro w hSw; go_simp; try with_reducible rfl
          go_simp
          refine wpAnyH_ready (rs := [8]) (by kernel_rfl) (by simp) ?_
          refine AllReadyH.consLR rfl (fun K hK => ?_) AllReadyH.nil
          go_simp
          refine wpList_append_flr _ rfl _ _ rfl sE _ _ _ rfl O1.out _ (m.f.take i) rfl P1.out ?f1 ?f2 ?_
          case f1 => have := HI.out; have := HN.out; simp; omega
          case f2 => have := O1.out.lt sE rfl; omega
          rintro v3 w3 ho hg hb
          rw [HTI.out, Nat.zero_add, List.nil_append] at ho
          obtain ⟨ad3, c3, rfl⟩ := own_formR ho
          have K3 := Lib.hid (show Kp X9 w3 from Below.grown KE.out hg (Below.size KE.out) (fun k hk => by have := (O1.out.lt k hk).1; have := SE.out; omega))
          have O3 := Lib.hid ho
          have S3 := Lib.hid (show sE ≤ w3.heap.size from Nat.le_trans (by have := O1.out.lt sE rfl; omega) hg.size)
          have P3 := Lib.hid (P2.out.kp (show Kp wD w3 from Below.grown KDE.out hg (Below.size KDE.out) (fun k hk => by have := (O1.out.lt k hk).1; have := HSE.out; omega)))
          have e13 := kp_cell K3.out (cells_2R HS.out.row).2
          clear ho hg hb
          refine hK.out _ _ trivial (fun hHeld => ?_)
          clear hK K
          refine wpAnyH_ready (rs := [16]) (by kernel_rfl) (by simp) ?_
          refine AllReadyH.consLR rfl (fun K hK => ?_) AllReadyH.nil
          go_simp
          refine wpList_append_flr _ rfl _ _ rfl sE _ _ _ rfl O3.out _ (m.f.drop (i + 1)) rfl P3.out ?f3 ?f4 ?_
          case f3 => have := HI.out; have := HN.out; simp; omega
          case f4 => exact S3.out
          rintro v4 w4 ho hg hb
          rw [HL2.out] at ho
          obtain ⟨ad4, c4, rfl⟩ := own_formR ho
          have K4 := Lib.hid (show Kp X9 w4 from Below.grown K3.out hg (Below.size K3.out) (fun k hk => by have := (O3.out.lt k hk).1; have := SE.out; omega))
          have RF := Lib.hid (HS.out.fly K4.out (w3 := w4) (L := L2) ⟨rfl, rfl, rfl, Nat.le_refl _, fun _ _ _ => rfl⟩ (f := m.f.take i ++ m.f.drop (i + 1)) (by rw [List.length_append, HTI.out, HL2.out]) (by rw [flyB_app]; exact own_baseR (base := sE) ho (Nat.le_trans HS.out.bg (Nat.le_trans (Nat.le_of_lt (old_of_row HS.out.row)) SE.out))) (fun b q => .inr (by have := (ho.lt b q).1; have := SE.out; omega)))
          have r4 := kp_row K4.out HS.out.row
          obtain ⟨x0, x1⟩ := cells_2R r4
          have fz := frozN r4
          clear ho hg hb r4
          refine hK.out _ _ trivial (fun hHeld => ?_)
          clear hK K
          refine wpAnyH_take (i := 17) (v := ?_) rfl (by kernel_rfl) (by kernel_rfl) (by kernel_rfl) (fun _ _ _ h => h) (Or.inl ⟨by rfl, ?_⟩) (by assumption) ?_
          rotate_left
          · intro w hSw; go_simp; try with_reducible rfl
          go_simp
          refine wpAnyH_take (i := 18) (v := ?_) rfl (by kernel_rfl) (by kernel_rfl) (by kernel_rfl) (fun _ _ _ h => h) (Or.inl ⟨by rfl, ?_⟩) (by assumption) ?_
          rotate_left
          · intro w hSw; go_simp; try with_reducible rfl
          go_simp
          refine wpAnyH_ready (rs := [19]) (by kernel_rfl) (by simp) ?_
          refine AllReadyH.cons rfl (fun K hK => ?_) AllReadyH.nil
          go_simp
          refine hK.out _ _ trivial (fun hHeld => ?_)
          clear hK K
          refine wpAnyH_done (by kernel_rfl) ?_ _
          have PY := Lib.hid (show Rp w0 gm sb ⟨⟨a0, a1, a2, a3⟩, m.x, (m.f.take i ++ m.f.drop (i + 1))⟩ (.slice ad4 L2 c4) (w4.setCell ⟨gm, 1, none⟩ (.slice ad4 L2 c4)) from RF.out.1)
          have AY := Lib.hid (A9.out.trans RF.out.2)
          have BY := Lib.hid (RF.out.2.row B9.out (NOB.out _ LQ.out))
          have ZY := Lib.hid (RF.out.2.row Z9.out (NOB.out _ (Nat.le_refl _)))
          have TY := Lib.hid (RF.out.2.row T9.out (NOB.out _ (Nat.le_succ _)))
          have NBY := Lib.hid (fun b (h1 : w.heap.size ≤ b) (h2 : b < X9.heap.size) => (fun q => (RF.out.2.own b q).elim (NOB.out b h1) (fun q => absurd h2 (by omega)) : ¬ Orf gm sb (.slice ad4 L2 c4) b))
          obtain ⟨YY, hY⟩ : ∃ Y, (w4.setCell ⟨gm, 1, none⟩ (.slice ad4 L2 c4)) = Y := ⟨_, rfl⟩
          rw [hY] at PY AY BY ZY TY
          rw [hY]
          have LZY := Lib.hid (old_of_row ZY.out)
          clear hY x0 x1 fz
          obtain ⟨x0, x1, x2, x3, x4, x5, x6, x7⟩ := cells_8 BY.out
          obtain ⟨u0, u1⟩ := cells_2M TY.out
          go_wp2_with (go_at_call 72; (with_reducible refine (HPT.out _ _ PY.out).mono ?_); rintro e' w8 ⟨rfl, v', hp, ha⟩; have P8 := Lib.hid hp; have A8 := Lib.hid (AY.out.trans ha); have NO := Lib.hid (show ¬ Orf gm sb v' w.heap.size from fun q => (ha.own _ q).elim (NBY.out _ (Nat.le_refl _) LZ9.out) (fun q => by have := LZY.out; omega)); have B8 := Lib.hid (ha.row BY.out (NBY.out _ LQ.out LB9.out)); have Z8 := Lib.hid (ha.row ZY.out (NBY.out _ (Nat.le_refl _) LZ9.out)); obtain ⟨s0, s1, s2, s3, s4, s5, s6, s7⟩ := cells_8 B8.out; obtain ⟨r0, r1, r2, r3, r4, r5, r6, r7⟩ := cells_8 Z8.out; have fz8 := frozN Z8.out; clear hp ha)
          refine bodyPost_ret (results_row_tmpT (p := 6) (u := 7) rfl _ _ w.heap.size 33 _ (0, 0) _ rfl (set_8 _ _ _ _ _ _ _ _ Z8.out) Tryd.underlying33 rfl (by kernel_rfl)) rfl ?_
          exact ⟨rfl, v', P8.out.stay (fun b hb => set_8_eq (fun q => NO.out (q ▸ hb))), set_8_asd A8.out (Nat.le_refl _)⟩
      · go_simp
        refine hK.out _ _ trivial (fun hHeld => ?_)
        clear hK K
        refine wpAnyH_take (i := 15) (v := ?_) rfl (by kernel_rfl) (by kernel_rfl) (by kernel_rfl) (fun _ _ _ h => h) (Or.inl ⟨by rfl, ?_⟩) (by assumption) ?_
        rotate_left
        · intro w hSw; go_simp; try with_reducible rfl
        go_simp
        refine wpAnyH_ready (rs := [1]) (by kernel_rfl) (by simp) ?_
        refine AllReadyH.cons rfl (fun K hK => ?_) AllReadyH.nil
        go_simp
        try rw [HSE.out]
        try rw [HWE.out]
        refine hK.out _ _ trivial (fun hHeld => ?_)
        clear hK K
        refine wpAnyH_ready (rs := [8]) (by kernel_rfl) (by simp) ?_
        refine AllReadyH.consLR rfl (fun K hK => ?_) AllReadyH.nil
        go_simp
        refine wpList_append_flr _ rfl _ _ rfl sE _ _ _ rfl O1.out _ (m.f.take i) rfl P1.out ?f1 ?f2 ?_
        case f1 => have := HI.out; have := HN.out; simp; omega
        case f2 => have := O1.out.lt sE rfl; omega
        rintro v3 w3 ho hg hb
        rw [HTI.out, Nat.zero_add, List.nil_append] at ho
        obtain ⟨ad3, c3, rfl⟩ := own_formR ho
        have K3 := Lib.hid (show Kp X9 w3 from Below.grown KE.out hg (Below.size KE.out) (fun k hk => by have := (O1.out.lt k hk).1; have := SE.out; omega))
        have O3 := Lib.hid ho
        have S3 := Lib.hid (show sE ≤ w3.heap.size from Nat.le_trans (by have := O1.out.lt sE rfl; omega) hg.size)
        have P3 := Lib.hid (P2.out.kp (show Kp wD w3 from Below.grown KDE.out hg (Below.size KDE.out) (fun k hk => by have := (O1.out.lt k hk).1; have := HSE.out; omega)))
        have e13 := kp_cell K3.out (cells_2R HS.out.row).2
        clear ho hg hb
        refine hK.out _ _ trivial (fun hHeld => ?_)
        clear hK K
        refine wpAnyH_ready (rs := [16]) (by kernel_rfl) (by simp) ?_
        refine AllReadyH.consLR rfl (fun K hK => ?_) AllReadyH.nil
        go_simp
        refine wpList_append_flr _ rfl _ _ rfl sE _ _ _ rfl O3.out _ (m.f.drop (i + 1)) rfl P3.out ?f3 ?f4 ?_
        case f3 => have := HI.out; have := HN.out; simp; omega
        case f4 => exact S3.out
        rintro v4 w4 ho hg hb
        rw [HL2.out] at ho
        obtain ⟨ad4, c4, rfl⟩ := own_formR ho
        have K4 := Lib.hid (show Kp X9 w4 from Below.grown K3.out hg (Below.size K3.out) (fun k hk => by have := (O3.out.lt k hk).1; have := SE.out; omega))
        have RF := Lib.hid (HS.out.fly K4.out (w3 := w4) (L := L2) ⟨rfl, rfl, rfl, Nat.le_refl _, fun _ _ _ => rfl⟩ (f := m.f.take i ++ m.f.drop (i + 1)) (by rw [List.length_append, HTI.out, HL2.out]) (by rw [flyB_app]; exact own_baseR (base := sE) ho (Nat.le_trans HS.out.bg (Nat.le_trans (Nat.le_of_lt (old_of_row HS.out.row)) SE.out))) (fun b q => .inr (by have := (ho.lt b q).1; have := SE.out; omega)))
        have r4 := kp_row K4.out HS.out.row
        obtain ⟨x0, x1⟩ := cells_2R r4
        have fz := frozN r4
        clear ho hg hb r4
        refine hK.out _ _ trivial (fun hHeld => ?_)
        clear hK K
        refine wpAnyH_take (i := 17) (v := ?_) rfl (by kernel_rfl) (by kernel_rfl) (by kernel_rfl) (fun _ _ _ h => h) (Or.inl ⟨by rfl, ?_⟩) (by assumption) ?_
        rotate_left
        · intro w hSw; go_simp; try with_reducible rfl
        go_simp
        refine wpAnyH_take (i := 18) (v := ?_) rfl (by kernel_rfl) (by kernel_rfl) (by kernel_rfl) (fun _ _ _ h => h) (Or.inl ⟨by rfl, ?_⟩) (by assumption) ?_
        rotate_left
        · intro w hSw; go_simp; try with_reducible rfl
        go_simp
        refine wpAnyH_ready (rs := [19]) (by kernel_rfl) (by simp) ?_
        refine AllReadyH.cons rfl (fun K hK => ?_) AllReadyH.nil
        go_simp
        refine hK.out _ _ trivial (fun hHeld => ?_)
        clear hK K
        refine wpAnyH_done (by kernel_rfl) ?_ _
        have PY := Lib.hid (show Rp w0 gm sb ⟨⟨a0, a1, a2, a3⟩, m.x, (m.f.take i ++ m.f.drop (i + 1))⟩ (.slice ad4 L2 c4) (w4.setCell ⟨gm, 1, none⟩ (.slice ad4 L2 c4)) from RF.out.1)
        have AY := Lib.hid (A9.out.trans RF.out.2)
        have BY := Lib.hid (RF.out.2.row B9.out (NOB.out _ LQ.out))
        have ZY := Lib.hid (RF.out.2.row Z9.out (NOB.out _ (Nat.le_refl _)))
        have TY := Lib.hid (RF.out.2.row T9.out (NOB.out _ (Nat.le_succ _)))
        have NBY := Lib.hid (fun b (h1 : w.heap.size ≤ b) (h2 : b < X9.heap.size) => (fun q => (RF.out.2.own b q).elim (NOB.out b h1) (fun q => absurd h2 (by omega)) : ¬ Orf gm sb (.slice ad4 L2 c4) b))
        obtain ⟨YY, hY⟩ : ∃ Y, (w4.setCell ⟨gm, 1, none⟩ (.slice ad4 L2 c4)) = Y := ⟨_, rfl⟩
        rw [hY] at PY AY BY ZY TY
        rw [hY]
        have LZY := Lib.hid (old_of_row ZY.out)
        clear hY x0 x1 fz
        obtain ⟨x0, x1, x2, x3, x4, x5, x6, x7⟩ := cells_8 BY.out
        obtain ⟨u0, u1⟩ := cells_2M TY.out
        go_wp2_with (go_at_call 72; (with_reducible refine (HPT.out _ _ PY.out).mono ?_); rintro e' w8 ⟨rfl, v', hp, ha⟩; have P8 := Lib.hid hp; have A8 := Lib.hid (AY.out.trans ha); have NO := Lib.hid (show ¬ Orf gm sb v' w.heap.size from fun q => (ha.own _ q).elim (NBY.out _ (Nat.le_refl _) LZ9.out) (fun q => by have := LZY.out; omega)); have B8 := Lib.hid (ha.row BY.out (NBY.out _ LQ.out LB9.out)); have Z8 := Lib.hid (ha.row ZY.out (NBY.out _ (Nat.le_refl _) LZ9.out)); obtain ⟨s0, s1, s2, s3, s4, s5, s6, s7⟩ := cells_8 B8.out; obtain ⟨r0, r1, r2, r3, r4, r5, r6, r7⟩ := cells_8 Z8.out; have fz8 := frozN Z8.out; clear hp ha)
        refine bodyPost_ret (results_row_tmpT (p := 6) (u := 7) rfl _ _ w.heap.size 33 _ (0, 0) _ rfl (set_8 _ _ _ _ _ _ _ _ Z8.out) Tryd.underlying33 rfl (by kernel_rfl)) rfl ?_
        exact ⟨rfl, v', P8.out.stay (fun b hb => set_8_eq (fun q => NO.out (q ▸ hb))), set_8_asd A8.out (Nat.le_refl _)⟩
    · go_simp
      refine hK.out _ _ trivial (fun hHeld => ?_)
      clear hK K
      refine wpAnyH_take (i := 15) (v := ?_) rfl (by kernel_rfl) (by kernel_rfl) (by kernel_rfl) (fun _ _ _ h => h) (Or.inl ⟨by rfl, ?_⟩) (by assumption) ?_
      rotate_left
      · intro w hSw; go_simp; try with_reducible rfl
      go_simp
      refine wpAnyH_ready (rs := [1, 5]) (by kernel_rfl) (by simp) ?_
      refine AllReadyH.cons rfl (fun K hK => ?_) (AllReadyH.cons rfl (fun K hK => ?_) AllReadyH.nil)
      · go_simp
        try rw [HSE.out]
        try rw [HWE.out]
        refine hK.out _ _ trivial (fun hHeld => ?_)
        clear hK K
        refine wpAnyH_ready (rs := [5]) (by kernel_rfl) (by simp) ?_
        refine AllReadyH.cons rfl (fun K hK => ?_) AllReadyH.nil
        go_simp
        refine hK.out _ _ trivial (fun hHeld => ?_)
        clear hK K
        refine wpAnyH_take (i := 7) (v := ?_) rfl (by kernel_rfl) (by kernel_rfl) (by kernel_rfl) (fun _ _ _ h => h) (Or.inl ⟨by rfl, ?_⟩) (by assumption) ?_
        rotate_left
        · intro w hSw; go_simp; try with_reducible rfl
        go_simp
        refine wpAnyH_ready (rs := [8]) (by kernel_rfl) (by simp) ?_
        refine AllReadyH.consLR rfl (fun K hK => ?_) AllReadyH.nil
        go_simp
        refine wpList_append_flr _ rfl _ _ rfl sE _ _ _ rfl O1.out _ (m.f.take i) rfl P1.out ?f1 ?f2 ?_
        case f1 => have := HI.out; have := HN.out; simp; omega
        case f2 => have := O1.out.lt sE rfl; omega
        rintro v3 w3 ho hg hb
        rw [HTI.out, Nat.zero_add, List.nil_append] at ho
        obtain ⟨ad3, c3, rfl⟩ := own_formR ho
        have K3 := Lib.hid (show Kp X9 w3 from Below.grown KE.out hg (Below.size KE.out) (fun k hk => by have := (O1.out.lt k hk).1; have := SE.out; omega))
        have O3 := Lib.hid ho
        have S3 := Lib.hid (show sE ≤ w3.heap.size from Nat.le_trans (by have := O1.out.lt sE rfl; omega) hg.size)
        have P3 := Lib.hid (P2.out.kp (show Kp wD w3 from Below.grown KDE.out hg (Below.size KDE.out) (fun k hk => by have := (O1.out.lt k hk).1; have := HSE.out; omega)))
        have e13 := kp_cell K3.out (cells_2R HS.out.row).2
        clear ho hg hb
        refine hK.out _ _ trivial (fun hHeld => ?_)
        clear hK K
        refine wpAnyH_ready (rs := [16]) (by kernel_rfl) (by simp) ?_
        refine AllReadyH.consLR rfl (fun K hK => ?_) AllReadyH.nil
        go_simp
        refine wpList_append_flr _ rfl _ _ rfl sE _ _ _ rfl O3.out _ (m.f.drop (i + 1)) rfl P3.out ?f3 ?f4 ?_
        case f3 => have := HI.out; have := HN.out; simp; omega
        case f4 => exact S3.out
        rintro v4 w4 ho hg hb
        rw [HL2.out] at ho
        obtain ⟨ad4, c4, rfl⟩ := own_formR ho
        have K4 := Lib.hid (show Kp X9 w4 from Below.grown K3.out hg (Below.size K3.out) (fun k hk => by have := (O3.out.lt k hk).1; have := SE.out; omega))
        have RF := Lib.hid (HS.out.fly K4.out (w3 := w4) (L := L2) ⟨rfl, rfl, rfl, Nat.le_refl _, fun _ _ _ => rfl⟩ (f := m.f.take i ++ m.f.drop (i + 1)) (by rw [List.length_append, HTI.out, HL2.out]) (by rw [flyB_app]; exact own_baseR (base := sE) ho (Nat.le_trans HS.out.bg (Nat.le_trans (Nat.le_of_lt (old_of_row HS.out.row)) SE.out))) (fun b q => .inr (by have := (ho.lt b q).1; have := SE.out; omega)))
        have r4 := kp_row K4.out HS.out.row
        obtain ⟨x0, x1⟩ := cells_2R r4
        have fz := frozN r4
        clear ho hg hb r4
        refine hK.out _ _ trivial (fun hHeld => ?_)
        clear hK K
        refine wpAnyH_take (i := 17) (v := ?_) rfl (by kernel_rfl) (by kernel_rfl) (by kernel_rfl) (fun _ _ _ h => h) (Or.inl ⟨by rfl, ?_⟩) (by assumption) ?_
        rotate_left
        · intro w hSw; go_simp; try with_reducible rfl
        go_simp
        refine wpAnyH_take (i := 18) (v := ?_) rfl (by kernel_rfl) (by kernel_rfl) (by kernel_rfl) (fun _ _ _ h => h) (Or.inl ⟨by rfl, ?_⟩) (by assumption) ?_
        rotate_left
        · intro w hSw; go_simp; try with_reducible rfl
        go_simp
        refine wpAnyH_ready (rs := [19]) (by kernel_rfl) (by simp) ?_
        refine AllReadyH.cons rfl (fun K hK => ?_) AllReadyH.nil
        go_simp
        refine hK.out _ _ trivial (fun hHeld => ?_)
        clear hK K
        refine wpAnyH_done (by kernel_rfl) ?_ _
        have PY := Lib.hid (show Rp w0 gm sb ⟨⟨a0, a1, a2, a3⟩, m.x, (m.f.take i ++ m.f.drop (i + 1))⟩ (.slice ad4 L2 c4) (w4.setCell ⟨gm, 1, none⟩ (.slice ad4 L2 c4)) from RF.out.1)
        have AY := Lib.hid (A9.out.trans RF.out.2)
        have BY := Lib.hid (RF.out.2.row B9.out (NOB.out _ LQ.out))
        have ZY := Lib.hid (RF.out.2.row Z9.out (NOB.out _ (Nat.le_refl _)))
        have TY := Lib.hid (RF.out.2.row T9.out (NOB.out _ (Nat.le_succ _)))
        have NBY := Lib.hid (fun b (h1 : w.heap.size ≤ b) (h2 : b < X9.heap.size) => (fun q => (RF.out.2.own b q).elim (NOB.out b h1) (fun q => absurd h2 (by omega)) : ¬ Orf gm sb (.slice ad4 L2 c4) b))
        obtain ⟨YY, hY⟩ : ∃ Y, (w4.setCell ⟨gm, 1, none⟩ (.slice ad4 L2 c4)) = Y := ⟨_, rfl⟩
        rw [hY] at PY AY BY ZY TY
        rw [hY]
        have LZY := Lib.hid (old_of_row ZY.out)
        clear hY x0 x1 fz
        obtain ⟨x0, x1, x2, x3, x4, x5, x6, x7⟩ := cells_8 BY.out
        obtain ⟨u0, u1⟩ := cells_2M TY.out
        go_wp2_with (go_at_call 72; (with_reducible refine (HPT.out _ _ PY.out).mono ?_); rintro e' w8 ⟨rfl, v', hp, ha⟩; have P8 := Lib.hid hp; have A8 := Lib.hid (AY.out.trans ha); have NO := Lib.hid (show ¬ Orf gm sb v' w.heap.size from fun q => (ha.own _ q).elim (NBY.out _ (Nat.le_refl _) LZ9.out) (fun q => by have := LZY.out; omega)); have B8 := Lib.hid (ha.row BY.out (NBY.out _ LQ.out LB9.out)); have Z8 := Lib.hid (ha.row ZY.out (NBY.out _ (Nat.le_refl _) LZ9.out)); obtain ⟨s0, s1, s2, s3, s4, s5, s6, s7⟩ := cells_8 B8.out; obtain ⟨r0, r1, r2, r3, r4, r5, r6, r7⟩ := cells_8 Z8.out; have fz8 := frozN Z8.out; clear hp ha)
        refine bodyPost_ret (results_row_tmpT (p := 6) (u := 7) rfl _ _ w.heap.size 33 _ (0, 0) _ rfl (set_8 _ _ _ _ _ _ _ _ Z8.out) Tryd.underlying33 rfl (by kernel_rfl)) rfl ?_
        exact ⟨rfl, v', P8.out.stay (fun b hb => set_8_eq (fun q => NO.out (q ▸ hb))), set_8_asd A8.out (Nat.le_refl _)⟩
      · go_simp
        refine hK.out _ _ trivial (fun hHeld => ?_)
        clear hK K
        refine wpAnyH_take (i := 7) (v := ?_) rfl (by kernel_rfl) (by kernel_rfl) (by kernel_rfl) (fun _ _ _ h => h) (Or.inl ⟨by rfl, ?_⟩) (by assumption) ?_
        rotate_left
        · intro w hSw; go_simp; try with_reducible rfl
        go_simp
        refine wpAnyH_ready (rs := [1]) (by kernel_rfl) (by simp) ?_
        refine AllReadyH.cons rfl (fun K hK => ?_) AllReadyH.nil
        go_simp
        try rw [HSE.out]
        try rw [HWE.out]
        refine hK.out _ _ trivial (fun hHeld => ?_)
        clear hK K
        refine wpAnyH_ready (rs := [8]) (by kernel_rfl) (by simp) ?_
        refine AllReadyH.consLR rfl (fun K hK => ?_) AllReadyH.nil
        go_simp
        refine wpList_append_flr _ rfl _ _ rfl sE _ _ _ rfl O1.out _ (m.f.take i) rfl P1.out ?f1 ?f2 ?_
        case f1 => have := HI.out; have := HN.out; simp; omega
        case f2 => have := O1.out.lt sE rfl; omega
        rintro v3 w3 ho hg hb
        rw [HTI.out, Nat.zero_add, List.nil_append] at ho
        obtain ⟨ad3, c3, rfl⟩ := own_formR ho
        have K3 := Lib.hid (show Kp X9 w3 from Below.grown KE.out hg (Below.size KE.out) (fun k hk => by have := (O1.out.lt k hk).1; have := SE.out; omega))
        have O3 := Lib.hid ho
        have S3 := Lib.hid (show sE ≤ w3.heap.size from Nat.le_trans (by have := O1.out.lt sE rfl; omega) hg.size)
        have P3 := Lib.hid (P2.out.kp (show Kp wD w3 from Below.grown KDE.out hg (Below.size KDE.out) (fun k hk => by have := (O1.out.lt k hk).1; have := HSE.out; omega)))
        have e13 := kp_cell K3.out (cells_2R HS.out.row).2
        clear ho hg hb
        refine hK.out _ _ trivial (fun hHeld => ?_)
        clear hK K
        refine wpAnyH_ready (rs := [16]) (by kernel_rfl) (by simp) ?_
        refine AllReadyH.consLR rfl (fun K hK => ?_) AllReadyH.nil
        go_simp
        refine wpList_append_flr _ rfl _ _ rfl sE _ _ _ rfl O3.out _ (m.f.drop (i + 1)) rfl P3.out ?f3 ?f4 ?_
        case f3 => have := HI.out; have := HN.out; simp; omega
        case f4 => exact S3.out
        rintro v4 w4 ho hg hb
        rw [HL2.out] at ho
        obtain ⟨ad4, c4, rfl⟩ := own_formR ho
        have K4 := Lib.hid (show Kp X9 w4 from Below.grown K3.out hg (Below.size K3.out) (fun k hk => by have := (O3.out.lt k hk).1; have := SE.out; omega))
        have RF := Lib.hid (HS.out.fly K4.out (w3 := w4) (L := L2) ⟨rfl, rfl, rfl, Nat.le_refl _, fun _ _ _ => rfl⟩ (f := m.f.take i ++ m.f.drop (i + 1)) (by rw [List.length_append, HTI.out, HL2.out]) (by rw [flyB_app]; exact own_baseR (base := sE) ho (Nat.le_trans HS.out.bg (Nat.le_trans (Nat.le_of_lt (old_of_row HS.out.row)) SE.out))) (fun b q => .inr (by have := (ho.lt b q).1; have := SE.out; omega)))
        have r4 := kp_row K4.out HS.out.row
        obtain ⟨x0, x1⟩ := cells_2R r4
        have fz := frozN r4
        clear ho hg hb r4
        refine hK.out _ _ trivial (fun hHeld => ?_)
        clear hK K
        refine wpAnyH_take (i := 17) (v := ?_) rfl (by kernel_rfl) (by kernel_rfl) (by kernel_rfl) (fun _ _ _ h => h) (Or.inl ⟨by rfl, ?_⟩) (by assumption) ?_
        rotate_left
        · intro w hSw; go_simp; try with_reducible rfl
        go_simp
        refine wpAnyH_take (i := 18) (v := ?_) rfl (by kernel_rfl) (by kernel_rfl) (by kernel_rfl) (fun _ _ _ h => h) (Or.inl ⟨by rfl, ?_⟩) (by assumption) ?_
        rotate_left
        · intro w hSw; go_simp; try with_reducible rfl
        go_simp
        refine wpAnyH_ready (rs := [19]) (by kernel_rfl) (by simp) ?_
        refine AllReadyH.cons rfl (fun K hK => ?_) AllReadyH.nil
        go_simp
        refine hK.out _ _ trivial (fun hHeld => ?_)
        clear hK K
        refine wpAnyH_done (by kernel_rfl) ?_ _
        have PY := Lib.hid (show Rp w0 gm sb ⟨⟨a0, a1, a2, a3⟩, m.x, (m.f.take i ++ m.f.drop (i + 1))⟩ (.slice ad4 L2 c4) (w4.setCell ⟨gm, 1, none⟩ (.slice ad4 L2 c4)) from RF.out.1)
        have AY := Lib.hid (A9.out.trans RF.out.2)
        have BY := Lib.hid (RF.out.2.row B9.out (NOB.out _ LQ.out))
        have ZY := Lib.hid (RF.out.2.row Z9.out (NOB.out _ (Nat.le_refl _)))
        have TY := Lib.hid (RF.out.2.row T9.out (NOB.out _ (Nat.le_succ _)))
        have NBY := Lib.hid (fun b (h1 : w.heap.size ≤ b) (h2 : b < X9.heap.size) => (fun q => (RF.out.2.own b q).elim (NOB.out b h1) (fun q => absurd h2 (by omega)) : ¬ Orf gm sb (.slice ad4 L2 c4) b))
        obtain ⟨YY, hY⟩ : ∃ Y, (w4.setCell ⟨gm, 1, none⟩ (.slice ad4 L2 c4)) = Y := ⟨_, rfl⟩
        rw [hY] at PY AY BY ZY TY
        rw [hY]
        have LZY := Lib.hid (old_of_row ZY.out)
        clear hY x0 x1 fz
        obtain ⟨x0, x1, x2, x3, x4, x5, x6, x7⟩ := cells_8 BY.out
        obtain ⟨u0, u1⟩ := cells_2M TY.out
        go_wp2_with (go_at_call 72; (with_reducible refine (HPT.out _ _ PY.out).mono ?_); rintro e' w8 ⟨rfl, v', hp, ha⟩; have P8 := Lib.hid hp; have A8 := Lib.hid (AY.out.trans ha); have NO := Lib.hid (show ¬ Orf gm sb v' w.heap.size from fun q => (ha.own _ q).elim (NBY.out _ (Nat.le_refl _) LZ9.out) (fun q => by have := LZY.out; omega)); have B8 := Lib.hid (ha.row BY.out (NBY.out _ LQ.out LB9.out)); have Z8 := Lib.hid (ha.row ZY.out (NBY.out _ (Nat.le_refl _) LZ9.out)); obtain ⟨s0, s1, s2, s3, s4, s5, s6, s7⟩ := cells_8 B8.out; obtain ⟨r0, r1, r2, r3, r4, r5, r6, r7⟩ := cells_8 Z8.out; have fz8 := frozN Z8.out; clear hp ha)
        refine bodyPost_ret (results_row_tmpT (p := 6) (u := 7) rfl _ _ w.heap.size 33 _ (0, 0) _ rfl (set_8 _ _ _ _ _ _ _ _ Z8.out) Tryd.underlying33 rfl (by kernel_rfl)) rfl ?_
        exact ⟨rfl, v', P8.out.stay (fun b hb => set_8_eq (fun q => NO.out (q ▸ hb))), set_8_asd A8.out (Nat.le_refl _)⟩
  · go_simp
    refine hK.out _ _ (Kp.trans hHeld (kp_alloc _ _)) (fun hHeld => ?_)
    clear hK K
    refine wpAnyH_ready (rs := [11]) (by kernel_rfl) (by simp) ?_
    refine AllReadyH.cons rfl (fun K hK => ?_) AllReadyH.nil
    go_simp
    go_wp2_with (go_at_call 11; (with_reducible refine (HT.out _).mono ?_); rintro e' w6 ⟨rfl, hk6⟩; have K6 := Lib.hid (Kp.trans hHeld hk6); have HKT := Lib.hid hk6; clear hk6)
    refine hK.out _ _ ?_ (fun hHeld => ?_)
    · exact K6.out
    clear hK K
    refine wpAnyH_take (i := 12) (v := ?_) rfl (by kernel_rfl) (by kernel_rfl) (by kernel_rfl) (fun _ _ _ h => h) (Or.inl ⟨by rfl, ?_⟩) (by assumption) ?_
    rotate_left
    · intro w hSw; go_simp; try with_reducible rfl
    go_simp
    refine wpAnyH_take (i := 13) (v := ?_) rfl (by kernel_rfl) (by kernel_rfl) (by kernel_rfl) (fun _ _ _ h => h) (Or.inl ⟨by rfl, ?_⟩) (by assumption) ?_
    rotate_left
    · intro w hSw; go_simp; try with_reducible rfl
    go_simp
    refine wpAnyH_take (i := 14) (v := ?_) rfl (by kernel_rfl) (by kernel_rfl) (by kernel_rfl) (fun _ _ _ h => h) (Or.inl ⟨by rfl, ?_⟩) (by assumption) ?_
    rotate_left
    · intro w hSw; go_simp; try with_reducible rfl
    go_simp
    have BR := Lib.hid (kp_row HKT.out (show (W.alloc (.cells #[.int .i64 0, .int .i64 0, .int .i64 0, .int .i64 0, .int .i64 0, .int .i64 0, .int .i64 0, .bool false] 33)).drew.heap[W.heap.size]? = some (.cells #[.int .i64 0, .int .i64 0, .int .i64 0, .int .i64 0, .int .i64 0, .int .i64 0, .int .i64 0, .bool false] 33) from (MapKept.heap_alloc W (.cells #[.int .i64 0, .int .i64 0, .int .i64 0, .int .i64 0, .int .i64 0, .int .i64 0, .int .i64 0, .bool false] 33)).1))
    obtain ⟨z0, z1, z2, z3, z4, z5, z6, z7⟩ := cells_8 BR.out
    have fzz := frozN BR.out
    refine wpAnyH_ready (rs := [16]) (by kernel_rfl) (by simp) ?_
    refine AllReadyH.cons rfl (fun K hK => ?_) AllReadyH.nil
    go_simp
    refine hK.out _ _ ?_ (fun hHeld => ?_)
    · exact set_8_kp K6.out (Nat.le_refl _) _ _ _ _ _ _ _ _
    clear hK K z0 z1 z2 z3 z4 z5 z6 z7 fzz
    refine wpAnyH_take (i := 17) (v := ?_) rfl (by kernel_rfl) (by kernel_rfl) (by kernel_rfl) (fun _ _ _ h => h) (Or.inl ⟨by rfl, ?_⟩) (by assumption) ?_
    rotate_left
    · intro w hSw; go_simp; try with_reducible rfl
    go_simp
    refine wpAnyH_done (by kernel_rfl) ?_ _
    obtain ⟨X, hX⟩ : ∃ X, ((((((((w6.setCell ⟨W.heap.size, 0, none⟩ (.int .i64 a0)).setCell ⟨W.heap.size, 1, none⟩ (.int .i64 a1)).setCell ⟨W.heap.size, 2, none⟩ (.int .i64 a2)).setCell ⟨W.heap.size, 3, none⟩ (.int .i64 a3)).setCell ⟨W.heap.size, 4, none⟩ (.int .i64 b1)).setCell ⟨W.heap.size, 5, none⟩ (.int .i64 b2)).setCell ⟨W.heap.size, 6, none⟩ (.int .i64 b3)).setCell ⟨W.heap.size, 7, none⟩ (.bool b4)) = X := ⟨_, rfl⟩
    obtain ⟨qB, hqB⟩ : ∃ q, W.heap.size = q := ⟨_, rfl⟩
    have KX := Lib.hid (show Kp W X from hX ▸ hHeld)
    have TX := Lib.hid (kp_row KX.out TW.out)
    have BX := Lib.hid (show X.heap[qB]? = some (.cells #[.int .i64 a0, .int .i64 a1, .int .i64 a2, .int .i64 a3, .int .i64 b1, .int .i64 b2, .int .i64 b3, .bool b4] 33) by rw [← hX, ← hqB]; exact set_8 _ _ _ _ _ _ _ _ BR.out)
    have LW := Lib.hid (show W.heap.size ≤ qB by rw [← hqB]; exact Nat.le_refl _)
    try rw [hX]
    try rw [hqB]
    clear hX hqB hHeld
    have AX := Lib.hid (Asd.of_kp (Orf gm sb (.slice (some ⟨bv, 0, none⟩) n cp)) (Kp.trans KW.out KX.out))
    have ZX := Lib.hid (kp_row KX.out ZW.out)
    have HX := Lib.hid (HH.out.kp (Kp.trans KW.out KX.out))
    have LQ := Lib.hid (show w.heap.size ≤ qB by have := LW.out; have := WS.out; omega)
    obtain ⟨x0, x1, x2, x3, x4, x5, x6, x7⟩ := cells_8 BX.out
    obtain ⟨u0, u1⟩ := cells_2M TX.out
    obtain ⟨j0, j1⟩ := cells_2R HX.out.row
    obtain ⟨s0, s1, s2, s3, s4, s5, s6, s7⟩ := cells_8 HX.out.seats
    have fs := frozN HX.out.seats
    go_wp2
    go_region
    have sx := HX.out.seat1 ⟨a0, a1, a2, a3⟩
    dsimp only at sx
    obtain ⟨X9, hX9⟩ : ∃ X9, ((((X.setCell ⟨sb, 0, none⟩ (.int .i64 a0)).setCell ⟨sb, 1, none⟩ (.int .i64 a1)).setCell ⟨sb, 2, none⟩ (.int .i64 a2)).setCell ⟨sb, 3, none⟩ (.int .i64 a3)).drew = X9 := ⟨_, rfl⟩
    have HS := Lib.hid (show Rp w0 gm sb ⟨⟨a0, a1, a2, a3⟩, m.x, m.f⟩ (.slice (some ⟨bv, 0, none⟩) n cp) X9 by rw [← hX9]; exact sx.1.drew)
    have a9 : Asd (Orf gm sb (.slice (some ⟨bv, 0, none⟩) n cp)) (Orf gm sb (.slice (some ⟨bv, 0, none⟩) n cp)) X X9 := by rw [← hX9]; exact sx.2.drewR
    have A9 := Lib.hid (AX.out.trans a9)
    have B9 := Lib.hid (a9.row BX.out (NOB.out _ LQ.out))
    have Z9 := Lib.hid (a9.row ZX.out (NOB.out _ (Nat.le_refl _)))
    have T9 := Lib.hid (a9.row TX.out (NOB.out _ (Nat.le_succ _)))
    have LB9 := Lib.hid (old_of_row B9.out)
    have LZ9 := Lib.hid (old_of_row Z9.out)
    rw [hX9]
    clear sx hX9 a9 x0 x1 x2 x3 x4 x5 x6 x7 u0 u1 j0 j1 s0 s1 s2 s3 s4 s5 s6 s7 fs
    obtain ⟨hii, hi, hl, hn, hnc⟩ := PK.out
    have kD : Kp X9 (X9).drew := kp_drewM (Kp.refl _)
    obtain ⟨wD, hwD⟩ : ∃ x, (X9).drew = x := ⟨_, rfl⟩
    rw [hwD] at kD
    have RD := HS.out.kp kD
    have ownD := RD.own
    rw [show PairM.f _ = m.f from rfl, hn] at ownD
    obtain ⟨jj, hjj⟩ : ∃ jj : Int, ii + 1 = jj := ⟨_, rfl⟩
    have sh := fun w => flyR_head (b := bv) hii (Nat.le_of_lt hi) hnc w
    have st := fun w => flyR_tail (b := bv) (cp := cp) (i := i + 1) (ii := jj) (n := n) (by omega) (by omega) w
    obtain ⟨at2, hat⟩ : ∃ x : Nat, (if cp = i + 1 then 0 else (i + 1) * 2) = x := ⟨_, rfl⟩
    rw [hat] at st
    have p1 := own_takeF ownD (Nat.le_of_lt hi)
    have p2 := own_dropF ownD (i := i + 1) (by omega) ⟨bv, at2, none⟩ (fun q => by rw [← hat, if_neg (by omega)]) (cp - (i + 1))
    obtain ⟨q2, hq2⟩ : ∃ x, n - (i + 1) = x := ⟨_, rfl⟩
    obtain ⟨q3, hq3⟩ : ∃ x, cp - (i + 1) = x := ⟨_, rfl⟩
    rw [hq2, hq3] at st p2
    have hwj : IntKind.i64.wrap jj = jj := IntWalk.i64_in jj (by omega)
    have i0 : 0 ≤ ii := by omega
    have i1 : ii ≤ 1000 := by omega
    obtain ⟨-, e1D⟩ := cells_2R RD.row
    have kE := kp_alloc wD (.cells #[] 57)
    have e1E := kp_cell kE e1D
    have O1 := Lib.hid (show (wD.alloc (.cells #[] 57)).ownsRow wD.heap.size 57 2 (.slice (some ⟨wD.heap.size, 0, none⟩) 0 0) 0 [] from ⟨by simp, Or.inr ⟨wD.heap.size, 0, #[], rfl, Nat.le_refl _, (MapKept.heap_alloc wD _).1, Nat.le_refl _, by omega, by simp, by simp⟩⟩)
    have P1 := Lib.hid (p1.kp kE)
    have P2 := Lib.hid p2
    obtain ⟨wE, hwE⟩ : ∃ x, wD.alloc (.cells #[] 57) = x := ⟨_, rfl⟩
    obtain ⟨sE, hsE⟩ : ∃ x, wD.heap.size = x := ⟨_, rfl⟩
    rw [hwE] at kE e1E O1 P1
    rw [hsE] at O1
    have KE := Lib.hid (Kp.trans kD kE)
    have KDE := Lib.hid kE
    have SE := Lib.hid (show X9.heap.size ≤ sE by rw [← hsE]; exact Below.size kD)
    have HWD := Lib.hid hwD
    have HWE := Lib.hid hwE
    have HSE := Lib.hid hsE
    have HN := Lib.hid hn
    have HQ2 := Lib.hid hq2
    have HI := Lib.hid (And.intro hi hl)
    have HTI := Lib.hid (show (m.f.take i).length = i by rw [List.length_take]; omega)
    obtain ⟨L2, hL2⟩ : ∃ L, i + (m.f.drop (i + 1)).length = L := ⟨_, rfl⟩
    have HL2 := Lib.hid hL2
    clear hL2 kD RD ownD hat p1 p2 hq2 hq3 kE hwD hwE hsE
    clear hi hl hn hnc
    go_wp2_with fail
    refine wp_region_held_drew (S := fun _ => True) (by kernel_rfl) ?_ (fun hHeld => ?_)
    · exact trivial
    rw [HWD.out]
    refine wpAnyH_take (i := 0) (v := ?_) rfl (by kernel_rfl) (by kernel_rfl) (by kernel_rfl) (fun _ _ _ h => h) (Or.inl ⟨by rfl, ?_⟩) (by assumption) ?_
    rotate_left
    · intro w hSw; go_simp; try with_reducible rfl
    go_simp
    refine wpAnyH_take (i := 2) (v := ?_) rfl (by kernel_rfl) (by kernel_rfl) (by kernel_rfl) (fun _ _ _ h => h) (Or.inl ⟨by rfl, ?_⟩) (by assumption) ?_
    rotate_left
    · intro w hSw; go_simp; try with_reducible rfl
    go_simp
    refine wpAnyH_take (i := 3) (v := ?_) rfl (by kernel_rfl) (by kernel_rfl) (by kernel_rfl) (fun _ _ _ h => h) (Or.inl ⟨by rfl, ?_⟩) (by assumption) ?_
    rotate_left
    · intro w hSw; go_simp; try with_reducible rfl
    go_simp
    refine wpAnyH_take (i := 4) (v := ?_) rfl (by kernel_rfl) (by kernel_rfl) (by kernel_rfl) (fun _ _ _ h => h) (Or.inl ⟨by rfl, ?_⟩) (by assumption) ?_
    rotate_left
    · intro w hSw; go_simp; try with_reducible rfl
    go_simp
    refine wpAnyH_take (i := 6) (v := ?_) rfl (by kernel_rfl) (by kernel_rfl) (by kernel_rfl) (fun _ _ _ h => h) (Or.inl ⟨by rfl, ?_⟩) (by assumption) ?_
    rotate_left
    · intro w hSw; go_simp; try with_reducible rfl
    go_simp
    refine wpAnyH_take (i := 9) (v := ?_) rfl (by kernel_rfl) (by kernel_rfl) (by kernel_rfl) (fun _ _ _ h => h) (Or.inl ⟨by rfl, ?_⟩) (by assumption) ?_
    rotate_left
    · intro w hSw; go_simp; try with_reducible rfl
    go_simp
    refine wpAnyH_take (i := 10) (v := ?_) rfl (by kernel_rfl) (by kernel_rfl) (by kernel_rfl) (fun _ _ _ h => h) (Or.inl ⟨by rfl, ?_⟩) (by assumption) ?_
    rotate_left
    · intro w hSw; go_simp; try with_reducible rfl
    go_simp
    refine wpAnyH_take (i := 11) (v := ?_) rfl (by kernel_rfl) (by kernel_rfl) (by kernel_rfl) (fun _ _ _ h => h) (Or.inl ⟨by rfl, ?_⟩) (by assumption) ?_
    rotate_left
    · intro w hSw; go_simp; try with_reducible rfl
    go_simp
    refine wpAnyH_take (i := 13) (v := ?_) rfl (by kernel_rfl) (by kernel_rfl) (by kernel_rfl) (fun _ _ _ h => h) (Or.inl ⟨by rfl, ?_⟩) (by assumption) ?_
    rotate_left
    · intro w hSw; go_simp; try with_reducible rfl
    go_simp
    refine wpAnyH_take (i := 14) (v := ?_) rfl (by kernel_rfl) (by kernel_rfl) (by kernel_rfl) (fun _ _ _ h => h) (Or.inl ⟨by rfl, ?_⟩) (by assumption) ?_
    rotate_left
    · intro w hSw; go_simp; try with_reducible rfl
    go_simp
    refine wpAnyH_ready (rs := [1, 5, 12]) (by kernel_rfl) (by simp) ?_
    refine AllReadyH.cons rfl (fun K hK => ?_) (AllReadyH.cons rfl (fun K hK => ?_) (AllReadyH.cons rfl (fun K hK => ?_) AllReadyH.nil))
    · go_simp
      try rw [HSE.out]
      try rw [HWE.out]
      refine hK.out _ _ trivial (fun hHeld => ?_)
      clear hK K
      refine wpAnyH_ready (rs := [5, 12]) (by kernel_rfl) (by simp) ?_
      refine AllReadyH.cons rfl (fun K hK => ?_) (AllReadyH.cons rfl (fun K hK => ?_) AllReadyH.nil)
      · go_simp
        refine hK.out _ _ trivial (fun hHeld => ?_)
        clear hK K
        refine wpAnyH_take (i := 7) (v := ?_) rfl (by kernel_rfl) (by kernel_rfl) (by kernel_rfl) (fun _ _ _ h => h) (Or.inl ⟨by rfl, ?_⟩) (by assumption) ?_
        rotate_left
        · intro w hSw; go_simp; try with_reducible rfl
        go_simp
        refine wpAnyH_ready (rs := [8, 12]) (by kernel_rfl) (by simp) ?_
        refine AllReadyH.consLR rfl (fun K hK => ?_) (AllReadyH.cons rfl (fun K hK => ?_) AllReadyH.nil)
        · go_simp
          refine wpList_append_flr _ rfl _ _ rfl sE _ _ _ rfl O1.out _ (m.f.take i) rfl P1.out ?f1 ?f2 ?_
          case f1 => have := HI.out; have := HN.out; simp; omega
          case f2 => have := O1.out.lt sE rfl; omega
          rintro v3 w3 ho hg hb
          rw [HTI.out, Nat.zero_add, List.nil_append] at ho
          obtain ⟨ad3, c3, rfl⟩ := own_formR ho
          have K3 := Lib.hid (show Kp X9 w3 from Below.grown KE.out hg (Below.size KE.out) (fun k hk => by have := (O1.out.lt k hk).1; have := SE.out; omega))
          have O3 := Lib.hid ho
          have S3 := Lib.hid (show sE ≤ w3.heap.size from Nat.le_trans (by have := O1.out.lt sE rfl; omega) hg.size)
          have P3 := Lib.hid (P2.out.kp (show Kp wD w3 from Below.grown KDE.out hg (Below.size KDE.out) (fun k hk => by have := (O1.out.lt k hk).1; have := HSE.out; omega)))
          have e13 := kp_cell K3.out (cells_2R HS.out.row).2
          clear ho hg hb
          refine hK.out _ _ trivial (fun hHeld => ?_)
          clear hK K
          refine wpAnyH_ready (rs := [12]) (by kernel_rfl) (by simp) ?_
          refine AllReadyH.cons rfl (fun K hK => ?_) AllReadyH.nil
          go_simp
          refine hK.out _ _ trivial (fun hHeld => ?_)
          clear hK K
          refine wpAnyH_take (i := 15) (v := ?_) rfl (by kernel_rfl) (by kernel_rfl) (by kernel_rfl) (fun _ _ _ h => h) (Or.inl ⟨by rfl, ?_⟩) (by assumption) ?_
          rotate_left
          · intro w hSw; go_simp; try with_reducible rfl
          go_simp
          refine wpAnyH_ready (rs := [16]) (by kernel_rfl) (by simp) ?_
          refine AllReadyH.consLR rfl (fun K hK => ?_) AllReadyH.nil
          go_simp
          refine wpList_append_flr _ rfl _ _ rfl sE _ _ _ rfl O3.out _ (m.f.drop (i + 1)) rfl P3.out ?f3 ?f4 ?_
          case f3 => have := HI.out; have := HN.out; simp; omega
          case f4 => exact S3.out
          rintro v4 w4 ho hg hb
          rw [HL2.out] at ho
          obtain ⟨ad4, c4, rfl⟩ := own_formR ho
          have K4 := Lib.hid (show Kp X9 w4 from Below.grown K3.out hg (Below.size K3.out) (fun k hk => by have := (O3.out.lt k hk).1; have := SE.out; omega))
          have RF := Lib.hid (HS.out.fly K4.out (w3 := w4) (L := L2) ⟨rfl, rfl, rfl, Nat.le_refl _, fun _ _ _ => rfl⟩ (f := m.f.take i ++ m.f.drop (i + 1)) (by rw [List.length_append, HTI.out, HL2.out]) (by rw [flyB_app]; exact own_baseR (base := sE) ho (Nat.le_trans HS.out.bg (Nat.le_trans (Nat.le_of_lt (old_of_row HS.out.row)) SE.out))) (fun b q => .inr (by have := (ho.lt b q).1; have := SE.out; omega)))
          have r4 := kp_row K4.out HS.out.row
          obtain ⟨x0, x1⟩ := cells_2R r4
          have fz := frozN r4
          clear ho hg hb r4
          refine hK.out _ _ trivial (fun hHeld => ?_)
          clear hK K
          refine wpAnyH_take (i := 17) (v := ?_) rfl (by kernel_rfl) (by kernel_rfl) (by kernel_rfl) (fun _ _ _ h => h) (Or.inl ⟨by rfl, ?_⟩) (by assumption) ?_
          rotate_left
          · intro w hSw; go_simp; try with_reducible rfl
          go_simp
          refine wpAnyH_take (i := 18) (v := ?_) rfl (by kernel_rfl) (by kernel_rfl) (by kernel_rfl) (fun _ _ _ h => h) (Or.inl ⟨by rfl, ?_⟩) (by assumption) ?_
          rotate_left
          · intro w hSw; go_simp; try with_reducible rfl
          go_simp
          refine wpAnyH_ready (rs := [19]) (by kernel_rfl) (by simp) ?_
          refine AllReadyH.cons rfl (fun K hK => ?_) AllReadyH.nil
          go_simp
          refine hK.out _ _ trivial (fun hHeld => ?_)
          clear hK K
          refine wpAnyH_done (by kernel_rfl) ?_ _
          have PY := Lib.hid (show Rp w0 gm sb ⟨⟨a0, a1, a2, a3⟩, m.x, (m.f.take i ++ m.f.drop (i + 1))⟩ (.slice ad4 L2 c4) (w4.setCell ⟨gm, 1, none⟩ (.slice ad4 L2 c4)) from RF.out.1)
          have AY := Lib.hid (A9.out.trans RF.out.2)
          have BY := Lib.hid (RF.out.2.row B9.out (NOB.out _ LQ.out))
          have ZY := Lib.hid (RF.out.2.row Z9.out (NOB.out _ (Nat.le_refl _)))
          have TY := Lib.hid (RF.out.2.row T9.out (NOB.out _ (Nat.le_succ _)))
          have NBY := Lib.hid (fun b (h1 : w.heap.size ≤ b) (h2 : b < X9.heap.size) => (fun q => (RF.out.2.own b q).elim (NOB.out b h1) (fun q => absurd h2 (by omega)) : ¬ Orf gm sb (.slice ad4 L2 c4) b))
          obtain ⟨YY, hY⟩ : ∃ Y, (w4.setCell ⟨gm, 1, none⟩ (.slice ad4 L2 c4)) = Y := ⟨_, rfl⟩
          rw [hY] at PY AY BY ZY TY
          rw [hY]
          have LZY := Lib.hid (old_of_row ZY.out)
          clear hY x0 x1 fz
          obtain ⟨x0, x1, x2, x3, x4, x5, x6, x7⟩ := cells_8 BY.out
          obtain ⟨u0, u1⟩ := cells_2M TY.out
          go_wp2_with (go_at_call 72; (with_reducible refine (HPT.out _ _ PY.out).mono ?_); rintro e' w8 ⟨rfl, v', hp, ha⟩; have P8 := Lib.hid hp; have A8 := Lib.hid (AY.out.trans ha); have NO := Lib.hid (show ¬ Orf gm sb v' w.heap.size from fun q => (ha.own _ q).elim (NBY.out _ (Nat.le_refl _) LZ9.out) (fun q => by have := LZY.out; omega)); have B8 := Lib.hid (ha.row BY.out (NBY.out _ LQ.out LB9.out)); have Z8 := Lib.hid (ha.row ZY.out (NBY.out _ (Nat.le_refl _) LZ9.out)); obtain ⟨s0, s1, s2, s3, s4, s5, s6, s7⟩ := cells_8 B8.out; obtain ⟨r0, r1, r2, r3, r4, r5, r6, r7⟩ := cells_8 Z8.out; have fz8 := frozN Z8.out; clear hp ha)
          refine bodyPost_ret (results_row_tmpT (p := 6) (u := 7) rfl _ _ w.heap.size 33 _ (0, 0) _ rfl (set_8 _ _ _ _ _ _ _ _ Z8.out) Tryd.underlying33 rfl (by kernel_rfl)) rfl ?_
          exact ⟨rfl, v', P8.out.stay (fun b hb => set_8_eq (fun q => NO.out (q ▸ hb))), set_8_asd A8.out (Nat.le_refl _)⟩
        · go_simp
          refine hK.out _ _ trivial (fun hHeld => ?_)
          clear hK K
          refine wpAnyH_take (i := 15) (v := ?_) rfl (by kernel_rfl) (by kernel_rfl) (by kernel_rfl) (fun _ _ _ h => h) (Or.inl ⟨by rfl, ?_⟩) (by assumption) ?_
          rotate_left
          · intro w hSw; go_simp; try with_reducible rfl
          go_simp
          refine wpAnyH_ready (rs := [8]) (by kernel_rfl) (by simp) ?_
          refine AllReadyH.consLR rfl (fun K hK => ?_) AllReadyH.nil
          go_simp
          refine wpList_append_flr _ rfl _ _ rfl sE _ _ _ rfl O1.out _ (m.f.take i) rfl P1.out ?f1 ?f2 ?_
          case f1 => have := HI.out; have := HN.out; simp; omega
          case f2 => have := O1.out.lt sE rfl; omega
          rintro v3 w3 ho hg hb
          rw [HTI.out, Nat.zero_add, List.nil_append] at ho
          obtain ⟨ad3, c3, rfl⟩ := own_formR ho
          have K3 := Lib.hid (show Kp X9 w3 from Below.grown KE.out hg (Below.size KE.out) (fun k hk => by have := (O1.out.lt k hk).1; have := SE.out; omega))
          have O3 := Lib.hid ho
          have S3 := Lib.hid (show sE ≤ w3.heap.size from Nat.le_trans (by have := O1.out.lt sE rfl; omega) hg.size)
          have P3 := Lib.hid (P2.out.kp (show Kp wD w3 from Below.grown KDE.out hg (Below.size KDE.out) (fun k hk => by have := (O1.out.lt k hk).1; have := HSE.out; omega)))
          have e13 := kp_cell K3.out (cells_2R HS.out.row).2
          clear ho hg hb
          refine hK.out _ _ trivial (fun hHeld => ?_)
          clear hK K
          refine wpAnyH_ready (rs := [16]) (by kernel_rfl) (by simp) ?_
          refine AllReadyH.consLR rfl (fun K hK => ?_) AllReadyH.nil
          go_simp
          refine wpList_append_flr _ rfl _ _ rfl sE _ _ _ rfl O3.out _ (m.f.drop (i + 1)) rfl P3.out ?f3 ?f4 ?_
          case f3 => have := HI.out; have := HN.out; simp; omega
          case f4 => exact S3.out
          rintro v4 w4 ho hg hb
          rw [HL2.out] at ho
          obtain ⟨ad4, c4, rfl⟩ := own_formR ho
          have K4 := Lib.hid (show Kp X9 w4 from Below.grown K3.out hg (Below.size K3.out) (fun k hk => by have := (O3.out.lt k hk).1; have := SE.out; omega))
          have RF := Lib.hid (HS.out.fly K4.out (w3 := w4) (L := L2) ⟨rfl, rfl, rfl, Nat.le_refl _, fun _ _ _ => rfl⟩ (f := m.f.take i ++ m.f.drop (i + 1)) (by rw [List.length_append, HTI.out, HL2.out]) (by rw [flyB_app]; exact own_baseR (base := sE) ho (Nat.le_trans HS.out.bg (Nat.le_trans (Nat.le_of_lt (old_of_row HS.out.row)) SE.out))) (fun b q => .inr (by have := (ho.lt b q).1; have := SE.out; omega)))
          have r4 := kp_row K4.out HS.out.row
          obtain ⟨x0, x1⟩ := cells_2R r4
          have fz := frozN r4
          clear ho hg hb r4
          refine hK.out _ _ trivial (fun hHeld => ?_)
          clear hK K
          refine wpAnyH_take (i := 17) (v := ?_) rfl (by kernel_rfl) (by kernel_rfl) (by kernel_rfl) (fun _ _ _ h => h) (Or.inl ⟨by rfl, ?_⟩) (by assumption) ?_
          rotate_left
          · intro w hSw; go_simp; try with_reducible rfl
          go_simp
          refine wpAnyH_take (i := 18) (v := ?_) rfl (by kernel_rfl) (by kernel_rfl) (by kernel_rfl) (fun _ _ _ h => h) (Or.inl ⟨by rfl, ?_⟩) (by assumption) ?_
          rotate_left
          · intro w hSw; go_simp; try with_reducible rfl
          go_simp
          refine wpAnyH_ready (rs := [19]) (by kernel_rfl) (by simp) ?_
          refine AllReadyH.cons rfl (fun K hK => ?_) AllReadyH.nil
          go_simp
          refine hK.out _ _ trivial (fun hHeld => ?_)
          clear hK K
          refine wpAnyH_done (by kernel_rfl) ?_ _
          have PY := Lib.hid (show Rp w0 gm sb ⟨⟨a0, a1, a2, a3⟩, m.x, (m.f.take i ++ m.f.drop (i + 1))⟩ (.slice ad4 L2 c4) (w4.setCell ⟨gm, 1, none⟩ (.slice ad4 L2 c4)) from RF.out.1)
          have AY := Lib.hid (A9.out.trans RF.out.2)
          have BY := Lib.hid (RF.out.2.row B9.out (NOB.out _ LQ.out))
          have ZY := Lib.hid (RF.out.2.row Z9.out (NOB.out _ (Nat.le_refl _)))
          have TY := Lib.hid (RF.out.2.row T9.out (NOB.out _ (Nat.le_succ _)))
          have NBY := Lib.hid (fun b (h1 : w.heap.size ≤ b) (h2 : b < X9.heap.size) => (fun q => (RF.out.2.own b q).elim (NOB.out b h1) (fun q => absurd h2 (by omega)) : ¬ Orf gm sb (.slice ad4 L2 c4) b))
          obtain ⟨YY, hY⟩ : ∃ Y, (w4.setCell ⟨gm, 1, none⟩ (.slice ad4 L2 c4)) = Y := ⟨_, rfl⟩
          rw [hY] at PY AY BY ZY TY
          rw [hY]
          have LZY := Lib.hid (old_of_row ZY.out)
          clear hY x0 x1 fz
          obtain ⟨x0, x1, x2, x3, x4, x5, x6, x7⟩ := cells_8 BY.out
          obtain ⟨u0, u1⟩ := cells_2M TY.out
          go_wp2_with (go_at_call 72; (with_reducible refine (HPT.out _ _ PY.out).mono ?_); rintro e' w8 ⟨rfl, v', hp, ha⟩; have P8 := Lib.hid hp; have A8 := Lib.hid (AY.out.trans ha); have NO := Lib.hid (show ¬ Orf gm sb v' w.heap.size from fun q => (ha.own _ q).elim (NBY.out _ (Nat.le_refl _) LZ9.out) (fun q => by have := LZY.out; omega)); have B8 := Lib.hid (ha.row BY.out (NBY.out _ LQ.out LB9.out)); have Z8 := Lib.hid (ha.row ZY.out (NBY.out _ (Nat.le_refl _) LZ9.out)); obtain ⟨s0, s1, s2, s3, s4, s5, s6, s7⟩ := cells_8 B8.out; obtain ⟨r0, r1, r2, r3, r4, r5, r6, r7⟩ := cells_8 Z8.out; have fz8 := frozN Z8.out; clear hp ha)
          refine bodyPost_ret (results_row_tmpT (p := 6) (u := 7) rfl _ _ w.heap.size 33 _ (0, 0) _ rfl (set_8 _ _ _ _ _ _ _ _ Z8.out) Tryd.underlying33 rfl (by kernel_rfl)) rfl ?_
          exact ⟨rfl, v', P8.out.stay (fun b hb => set_8_eq (fun q => NO.out (q ▸ hb))), set_8_asd A8.out (Nat.le_refl _)⟩
      · go_simp
        refine hK.out _ _ trivial (fun hHeld => ?_)
        clear hK K
        refine wpAnyH_take (i := 15) (v := ?_) rfl (by kernel_rfl) (by kernel_rfl) (by kernel_rfl) (fun _ _ _ h => h) (Or.inl ⟨by rfl, ?_⟩) (by assumption) ?_
        rotate_left
        · intro w hSw; go_simp; try with_reducible rfl
        go_simp
        refine wpAnyH_ready (rs := [5]) (by kernel_rfl) (by simp) ?_
        refine AllReadyH.cons rfl (fun K hK => ?_) AllReadyH.nil
        go_simp
        refine hK.out _ _ trivial (fun hHeld => ?_)
        clear hK K
        refine wpAnyH_take (i := 7) (v := ?_) rfl (by kernel_rfl) (by kernel_rfl) (by kernel_rfl) (fun _ _ _ h => h) (Or.inl ⟨by rfl, ?_⟩) (by assumption) ?_
        rotate_left
        · intro w hSw; go_simp; try with_reducible rfl
        go_simp
        refine wpAnyH_ready (rs := [8]) (by kernel_rfl) (by simp) ?_
        refine AllReadyH.consLR rfl (fun K hK => ?_) AllReadyH.nil
        go_simp
        refine wpList_append_flr _ rfl _ _ rfl sE _ _ _ rfl O1.out _ (m.f.take i) rfl P1.out ?f1 ?f2 ?_
        case f1 => have := HI.out; have := HN.out; simp; omega
        case f2 => have := O1.out.lt sE rfl; omega
        rintro v3 w3 ho hg hb
        rw [HTI.out, Nat.zero_add, List.nil_append] at ho
        obtain ⟨ad3, c3, rfl⟩ := own_formR ho
        have K3 := Lib.hid (show Kp X9 w3 from Below.grown KE.out hg (Below.size KE.out) (fun k hk => by have := (O1.out.lt k hk).1; have := SE.out; omega))
        have O3 := Lib.hid ho
        have S3 := Lib.hid (show sE ≤ w3.heap.size from Nat.le_trans (by have := O1.out.lt sE rfl; omega) hg.size)
        have P3 := Lib.hid (P2.out.kp (show Kp wD w3 from Below.grown KDE.out hg (Below.size KDE.out) (fun k hk => by have := (O1.out.lt k hk).1; have := HSE.out; omega)))
        have e13 := kp_cell K3.out (cells_2R HS.out.row).2
        clear ho hg hb
        refine hK.out _ _ trivial (fun hHeld => ?_)
        clear hK K
        refine wpAnyH_ready (rs := [16]) (by kernel_rfl) (by simp) ?_
        refine AllReadyH.consLR rfl (fun K hK => ?_) AllReadyH.nil
        go_simp
        refine wpList_append_flr _ rfl _ _ rfl sE _ _ _ rfl O3.out _ (m.f.drop (i + 1)) rfl P3.out ?f3 ?f4 ?_
        case f3 => have := HI.out; have := HN.out; simp; omega
        case f4 => exact S3.out
        rintro v4 w4 ho hg hb
        rw [HL2.out] at ho
        obtain ⟨ad4, c4, rfl⟩ := own_formR ho
        have K4 := Lib.hid (show Kp X9 w4 from Below.grown K3.out hg (Below.size K3.out) (fun k hk => by have := (O3.out.lt k hk).1; have := SE.out; omega))
        have RF := Lib.hid (HS.out.fly K4.out (w3 := w4) (L := L2) ⟨rfl, rfl, rfl, Nat.le_refl _, fun _ _ _ => rfl⟩ (f := m.f.take i ++ m.f.drop (i + 1)) (by rw [List.length_append, HTI.out, HL2.out]) (by rw [flyB_app]; exact own_baseR (base := sE) ho (Nat.le_trans HS.out.bg (Nat.le_trans (Nat.le_of_lt (old_of_row HS.out.row)) SE.out))) (fun b q => .inr (by have := (ho.lt b q).1; have := SE.out; omega)))
        have r4 := kp_row K4.out HS.out.row
        obtain ⟨x0, x1⟩ := cells_2R r4
        have fz := frozN r4
        clear ho hg hb r4
        refine hK.out _ _ trivial (fun hHeld => ?_)
        clear hK K
        refine wpAnyH_take (i := 17) (v := ?_) rfl (by kernel_rfl) (by kernel_rfl) (by kernel_rfl) (fun _ _ _ h => h) (Or.inl ⟨by rfl, ?_⟩) (by assumption) ?_
        rotate_left
        · intro w hSw; go_simp; try with_reducible rfl
        go_simp
        refine wpAnyH_take (i := 18) (v := ?_) rfl (by kernel_rfl) (by kernel_rfl) (by kernel_rfl) (fun _ _ _ h => h) (Or.inl ⟨by rfl, ?_⟩) (by assumption) ?_
        rotate_left
        · intro w hSw; go_simp; try with_reducible rfl
        go_simp
        refine wpAnyH_ready (rs := [19]) (by kernel_rfl) (by simp) ?_
        refine AllReadyH.cons rfl (fun K hK => ?_) AllReadyH.nil
        go_simp
        refine hK.out _ _ trivial (fun hHeld => ?_)
        clear hK K
        refine wpAnyH_done (by kernel_rfl) ?_ _
        have PY := Lib.hid (show Rp w0 gm sb ⟨⟨a0, a1, a2, a3⟩, m.x, (m.f.take i ++ m.f.drop (i + 1))⟩ (.slice ad4 L2 c4) (w4.setCell ⟨gm, 1, none⟩ (.slice ad4 L2 c4)) from RF.out.1)
        have AY := Lib.hid (A9.out.trans RF.out.2)
        have BY := Lib.hid (RF.out.2.row B9.out (NOB.out _ LQ.out))
        have ZY := Lib.hid (RF.out.2.row Z9.out (NOB.out _ (Nat.le_refl _)))
        have TY := Lib.hid (RF.out.2.row T9.out (NOB.out _ (Nat.le_succ _)))
        have NBY := Lib.hid (fun b (h1 : w.heap.size ≤ b) (h2 : b < X9.heap.size) => (fun q => (RF.out.2.own b q).elim (NOB.out b h1) (fun q => absurd h2 (by omega)) : ¬ Orf gm sb (.slice ad4 L2 c4) b))
        obtain ⟨YY, hY⟩ : ∃ Y, (w4.setCell ⟨gm, 1, none⟩ (.slice ad4 L2 c4)) = Y := ⟨_, rfl⟩
        rw [hY] at PY AY BY ZY TY
        rw [hY]
        have LZY := Lib.hid (old_of_row ZY.out)
        clear hY x0 x1 fz
        obtain ⟨x0, x1, x2, x3, x4, x5, x6, x7⟩ := cells_8 BY.out
        obtain ⟨u0, u1⟩ := cells_2M TY.out
        go_wp2_with (go_at_call 72; (with_reducible refine (HPT.out _ _ PY.out).mono ?_); rintro e' w8 ⟨rfl, v', hp, ha⟩; have P8 := Lib.hid hp; have A8 := Lib.hid (AY.out.trans ha); have NO := Lib.hid (show ¬ Orf gm sb v' w.heap.size from fun q => (ha.own _ q).elim (NBY.out _ (Nat.le_refl _) LZ9.out) (fun q => by have := LZY.out; omega)); have B8 := Lib.hid (ha.row BY.out (NBY.out _ LQ.out LB9.out)); have Z8 := Lib.hid (ha.row ZY.out (NBY.out _ (Nat.le_refl _) LZ9.out)); obtain ⟨s0, s1, s2, s3, s4, s5, s6, s7⟩ := cells_8 B8.out; obtain ⟨r0, r1, r2, r3, r4, r5, r6, r7⟩ := cells_8 Z8.out; have fz8 := frozN Z8.out; clear hp ha)
        refine bodyPost_ret (results_row_tmpT (p := 6) (u := 7) rfl _ _ w.heap.size 33 _ (0, 0) _ rfl (set_8 _ _ _ _ _ _ _ _ Z8.out) Tryd.underlying33 rfl (by kernel_rfl)) rfl ?_
        exact ⟨rfl, v', P8.out.stay (fun b hb => set_8_eq (fun q => NO.out (q ▸ hb))), set_8_asd A8.out (Nat.le_refl _)⟩
    · go_simp
      refine hK.out _ _ trivial (fun hHeld => ?_)
      clear hK K
      refine wpAnyH_take (i := 7) (v := ?_) rfl (by kernel_rfl) (by kernel_rfl) (by kernel_rfl) (fun _ _ _ h => h) (Or.inl ⟨by rfl, ?_⟩) (by assumption) ?_
      rotate_left
      · intro w hSw; go_simp; try with_reducible rfl
      go_simp
      refine wpAnyH_ready (rs := [1, 12]) (by kernel_rfl) (by simp) ?_
      refine AllReadyH.cons rfl (fun K hK => ?_) (AllReadyH.cons rfl (fun K hK => ?_) AllReadyH.nil)
      · go_simp
        try rw [HSE.out]
        try rw [HWE.out]
        refine hK.out _ _ trivial (fun hHeld => ?_)
        clear hK K
        refine wpAnyH_ready (rs := [8, 12]) (by kernel_rfl) (by simp) ?_
        refine AllReadyH.consLR rfl (fun K hK => ?_) (AllReadyH.cons rfl (fun K hK => ?_) AllReadyH.nil)
        · go_simp
          refine wpList_append_flr _ rfl _ _ rfl sE _ _ _ rfl O1.out _ (m.f.take i) rfl P1.out ?f1 ?f2 ?_
          case f1 => have := HI.out; have := HN.out; simp; omega
          case f2 => have := O1.out.lt sE rfl; omega
          rintro v3 w3 ho hg hb
          rw [HTI.out, Nat.zero_add, List.nil_append] at ho
          obtain ⟨ad3, c3, rfl⟩ := own_formR ho
          have K3 := Lib.hid (show Kp X9 w3 from Below.grown KE.out hg (Below.size KE.out) (fun k hk => by have := (O1.out.lt k hk).1; have := SE.out; omega))
          have O3 := Lib.hid ho
          have S3 := Lib.hid (show sE ≤ w3.heap.size from Nat.le_trans (by have := O1.out.lt sE rfl; omega) hg.size)
          have P3 := Lib.hid (P2.out.kp (show Kp wD w3 from Below.grown KDE.out hg (Below.size KDE.out) (fun k hk => by have := (O1.out.lt k hk).1; have := HSE.out; omega)))
          have e13 := kp_cell K3.out (cells_2R HS.out.row).2
          clear ho hg hb
          refine hK.out _ _ trivial (fun hHeld => ?_)
          clear hK K
          refine wpAnyH_ready (rs := [12]) (by kernel_rfl) (by simp) ?_
          refine AllReadyH.cons rfl (fun K hK => ?_) AllReadyH.nil
          go_simp
          refine hK.out _ _ trivial (fun hHeld => ?_)
          clear hK K
          refine wpAnyH_take (i := 15) (v := ?_) rfl (by kernel_rfl) (by kernel_rfl) (by kernel_rfl) (fun _ _ _ h => h) (Or.inl ⟨by rfl, ?_⟩) (by assumption) ?_
          rotate_left
          · intro w hSw; go_simp; try with_reducible rfl
          go_simp
          refine wpAnyH_ready (rs := [16]) (by kernel_rfl) (by simp) ?_
          refine AllReadyH.consLR rfl (fun K hK => ?_) AllReadyH.nil
          go_simp
          refine wpList_append_flr _ rfl _ _ rfl sE _ _ _ rfl O3.out _ (m.f.drop (i + 1)) rfl P3.out ?f3 ?f4 ?_
          case f3 => have := HI.out; have := HN.out; simp; omega
          case f4 => exact S3.out
          rintro v4 w4 ho hg hb
          rw [HL2.out] at ho
          obtain ⟨ad4, c4, rfl⟩ := own_formR ho
          have K4 := Lib.hid (show Kp X9 w4 from Below.grown K3.out hg (Below.size K3.out) (fun k hk => by have := (O3.out.lt k hk).1; have := SE.out; omega))
          have RF := Lib.hid (HS.out.fly K4.out (w3 := w4) (L := L2) ⟨rfl, rfl, rfl, Nat.le_refl _, fun _ _ _ => rfl⟩ (f := m.f.take i ++ m.f.drop (i + 1)) (by rw [List.length_append, HTI.out, HL2.out]) (by rw [flyB_app]; exact own_baseR (base := sE) ho (Nat.le_trans HS.out.bg (Nat.le_trans (Nat.le_of_lt (old_of_row HS.out.row)) SE.out))) (fun b q => .inr (by have := (ho.lt b q).1; have := SE.out; omega)))
          have r4 := kp_row K4.out HS.out.row
          obtain ⟨x0, x1⟩ := cells_2R r4
          have fz := frozN r4
          clear ho hg hb r4
          refine hK.out _ _ trivial (fun hHeld => ?_)
          clear hK K
          refine wpAnyH_take (i := 17) (v := ?_) rfl (by kernel_rfl) (by kernel_rfl) (by kernel_rfl) (fun _ _ _ h => h) (Or.inl ⟨by rfl, ?_⟩) (by assumption) ?_
          rotate_left
          · intro w hSw; go_simp; try with_reducible rfl
          go_simp
          refine wpAnyH_take (i := 18) (v := ?_) rfl (by kernel_rfl) (by kernel_rfl) (by kernel_rfl) (fun _ _ _ h => h) (Or.inl ⟨by rfl, ?_⟩) (by assumption) ?_
          rotate_left
          · intro w hSw; go_simp; try with_reducible rfl
          go_simp
          refine wpAnyH_ready (rs := [19]) (by kernel_rfl) (by simp) ?_
          refine AllReadyH.cons rfl (fun K hK => ?_) AllReadyH.nil
          go_simp
          refine hK.out _ _ trivial (fun hHeld => ?_)
          clear hK K
          refine wpAnyH_done (by kernel_rfl) ?_ _
          have PY := Lib.hid (show Rp w0 gm sb ⟨⟨a0, a1, a2, a3⟩, m.x, (m.f.take i ++ m.f.drop (i + 1))⟩ (.slice ad4 L2 c4) (w4.setCell ⟨gm, 1, none⟩ (.slice ad4 L2 c4)) from RF.out.1)
          have AY := Lib.hid (A9.out.trans RF.out.2)
          have BY := Lib.hid (RF.out.2.row B9.out (NOB.out _ LQ.out))
          have ZY := Lib.hid (RF.out.2.row Z9.out (NOB.out _ (Nat.le_refl _)))
          have TY := Lib.hid (RF.out.2.row T9.out (NOB.out _ (Nat.le_succ _)))
          have NBY := Lib.hid (fun b (h1 : w.heap.size ≤ b) (h2 : b < X9.heap.size) => (fun q => (RF.out.2.own b q).elim (NOB.out b h1) (fun q => absurd h2 (by omega)) : ¬ Orf gm sb (.slice ad4 L2 c4) b))
          obtain ⟨YY, hY⟩ : ∃ Y, (w4.setCell ⟨gm, 1, none⟩ (.slice ad4 L2 c4)) = Y := ⟨_, rfl⟩
          rw [hY] at PY AY BY ZY TY
          rw [hY]
          have LZY := Lib.hid (old_of_row ZY.out)
          clear hY x0 x1 fz
          obtain ⟨x0, x1, x2, x3, x4, x5, x6, x7⟩ := cells_8 BY.out
          obtain ⟨u0, u1⟩ := cells_2M TY.out
          go_wp2_with (go_at_call 72; (with_reducible refine (HPT.out _ _ PY.out).mono ?_); rintro e' w8 ⟨rfl, v', hp, ha⟩; have P8 := Lib.hid hp; have A8 := Lib.hid (AY.out.trans ha); have NO := Lib.hid (show ¬ Orf gm sb v' w.heap.size from fun q => (ha.own _ q).elim (NBY.out _ (Nat.le_refl _) LZ9.out) (fun q => by have := LZY.out; omega)); have B8 := Lib.hid (ha.row BY.out (NBY.out _ LQ.out LB9.out)); have Z8 := Lib.hid (ha.row ZY.out (NBY.out _ (Nat.le_refl _) LZ9.out)); obtain ⟨s0, s1, s2, s3, s4, s5, s6, s7⟩ := cells_8 B8.out; obtain ⟨r0, r1, r2, r3, r4, r5, r6, r7⟩ := cells_8 Z8.out; have fz8 := frozN Z8.out; clear hp ha)
          refine bodyPost_ret (results_row_tmpT (p := 6) (u := 7) rfl _ _ w.heap.size 33 _ (0, 0) _ rfl (set_8 _ _ _ _ _ _ _ _ Z8.out) Tryd.underlying33 rfl (by kernel_rfl)) rfl ?_
          exact ⟨rfl, v', P8.out.stay (fun b hb => set_8_eq (fun q => NO.out (q ▸ hb))), set_8_asd A8.out (Nat.le_refl _)⟩
        · go_simp
          refine hK.out _ _ trivial (fun hHeld => ?_)
          clear hK K
          refine wpAnyH_take (i := 15) (v := ?_) rfl (by kernel_rfl) (by kernel_rfl) (by kernel_rfl) (fun _ _ _ h => h) (Or.inl ⟨by rfl, ?_⟩) (by assumption) ?_
          rotate_left
          · intro w hSw; go_simp; try with_reducible rfl
          go_simp
          refine wpAnyH_ready (rs := [8]) (by kernel_rfl) (by simp) ?_
          refine AllReadyH.consLR rfl (fun K hK => ?_) AllReadyH.nil
          go_simp
          refine wpList_append_flr _ rfl _ _ rfl sE _ _ _ rfl O1.out _ (m.f.take i) rfl P1.out ?f1 ?f2 ?_
          case f1 => have := HI.out; have := HN.out; simp; omega
          case f2 => have := O1.out.lt sE rfl; omega
          rintro v3 w3 ho hg hb
          rw [HTI.out, Nat.zero_add, List.nil_append] at ho
          obtain ⟨ad3, c3, rfl⟩ := own_formR ho
          have K3 := Lib.hid (show Kp X9 w3 from Below.grown KE.out hg (Below.size KE.out) (fun k hk => by have := (O1.out.lt k hk).1; have := SE.out; omega))
          have O3 := Lib.hid ho
          have S3 := Lib.hid (show sE ≤ w3.heap.size from Nat.le_trans (by have := O1.out.lt sE rfl; omega) hg.size)
          have P3 := Lib.hid (P2.out.kp (show Kp wD w3 from Below.grown KDE.out hg (Below.size KDE.out) (fun k hk => by have := (O1.out.lt k hk).1; have := HSE.out; omega)))
          have e13 := kp_cell K3.out (cells_2R HS.out.row).2
          clear ho hg hb
          refine hK.out _ _ trivial (fun hHeld => ?_)
          clear hK K
          refine wpAnyH_ready (rs := [16]) (by kernel_rfl) (by simp) ?_
          refine AllReadyH.consLR rfl (fun K hK => ?_) AllReadyH.nil
          go_simp
          refine wpList_append_flr _ rfl _ _ rfl sE _ _ _ rfl O3.out _ (m.f.drop (i + 1)) rfl P3.out ?f3 ?f4 ?_
          case f3 => have := HI.out; have := HN.out; simp; omega
          case f4 => exact S3.out
          rintro v4 w4 ho hg hb
          rw [HL2.out] at ho
          obtain ⟨ad4, c4, rfl⟩ := own_formR ho
          have K4 := Lib.hid (show Kp X9 w4 from Below.grown K3.out hg (Below.size K3.out) (fun k hk => by have := (O3.out.lt k hk).1; have := SE.out; omega))
          have RF := Lib.hid (HS.out.fly K4.out (w3 := w4) (L := L2) ⟨rfl, rfl, rfl, Nat.le_refl _, fun _ _ _ => rfl⟩ (f := m.f.take i ++ m.f.drop (i + 1)) (by rw [List.length_append, HTI.out, HL2.out]) (by rw [flyB_app]; exact own_baseR (base := sE) ho (Nat.le_trans HS.out.bg (Nat.le_trans (Nat.le_of_lt (old_of_row HS.out.row)) SE.out))) (fun b q => .inr (by have := (ho.lt b q).1; have := SE.out; omega)))
          have r4 := kp_row K4.out HS.out.row
          obtain ⟨x0, x1⟩ := cells_2R r4
          have fz := frozN r4
          clear ho hg hb r4
          refine hK.out _ _ trivial (fun hHeld => ?_)
          clear hK K
          refine wpAnyH_take (i := 17) (v := ?_) rfl (by kernel_rfl) (by kernel_rfl) (by kernel_rfl) (fun _ _ _ h => h) (Or.inl ⟨by rfl, ?_⟩) (by assumption) ?_
          rotate_left
          · intro w hSw; go_simp; try with_reducible rfl
          go_simp
          refine wpAnyH_take (i := 18) (v := ?_) rfl (by kernel_rfl) (by kernel_rfl) (by kernel_rfl) (fun _ _ _ h => h) (Or.inl ⟨by rfl, ?_⟩) (by assumption) ?_
          rotate_left
          · intro w hSw; go_simp; try with_reducible rfl
          go_simp
          refine wpAnyH_ready (rs := [19]) (by kernel_rfl) (by simp) ?_
          refine AllReadyH.cons rfl (fun K hK => ?_) AllReadyH.nil
          go_simp
          refine hK.out _ _ trivial (fun hHeld => ?_)
          clear hK K
          refine wpAnyH_done (by kernel_rfl) ?_ _
          have PY := Lib.hid (show Rp w0 gm sb ⟨⟨a0, a1, a2, a3⟩, m.x, (m.f.take i ++ m.f.drop (i + 1))⟩ (.slice ad4 L2 c4) (w4.setCell ⟨gm, 1, none⟩ (.slice ad4 L2 c4)) from RF.out.1)
          have AY := Lib.hid (A9.out.trans RF.out.2)
          have BY := Lib.hid (RF.out.2.row B9.out (NOB.out _ LQ.out))
          have ZY := Lib.hid (RF.out.2.row Z9.out (NOB.out _ (Nat.le_refl _)))
          have TY := Lib.hid (RF.out.2.row T9.out (NOB.out _ (Nat.le_succ _)))
          have NBY := Lib.hid (fun b (h1 : w.heap.size ≤ b) (h2 : b < X9.heap.size) => (fun q => (RF.out.2.own b q).elim (NOB.out b h1) (fun q => absurd h2 (by omega)) : ¬ Orf gm sb (.slice ad4 L2 c4) b))
          obtain ⟨YY, hY⟩ : ∃ Y, (w4.setCell ⟨gm, 1, none⟩ (.slice ad4 L2 c4)) = Y := ⟨_, rfl⟩
          rw [hY] at PY AY BY ZY TY
          rw [hY]
          have LZY := Lib.hid (old_of_row ZY.out)
          clear hY x0 x1 fz
          obtain ⟨x0, x1, x2, x3, x4, x5, x6, x7⟩ := cells_8 BY.out
          obtain ⟨u0, u1⟩ := cells_2M TY.out
          go_wp2_with (go_at_call 72; (with_reducible refine (HPT.out _ _ PY.out).mono ?_); rintro e' w8 ⟨rfl, v', hp, ha⟩; have P8 := Lib.hid hp; have A8 := Lib.hid (AY.out.trans ha); have NO := Lib.hid (show ¬ Orf gm sb v' w.heap.size from fun q => (ha.own _ q).elim (NBY.out _ (Nat.le_refl _) LZ9.out) (fun q => by have := LZY.out; omega)); have B8 := Lib.hid (ha.row BY.out (NBY.out _ LQ.out LB9.out)); have Z8 := Lib.hid (ha.row ZY.out (NBY.out _ (Nat.le_refl _) LZ9.out)); obtain ⟨s0, s1, s2, s3, s4, s5, s6, s7⟩ := cells_8 B8.out; obtain ⟨r0, r1, r2, r3, r4, r5, r6, r7⟩ := cells_8 Z8.out; have fz8 := frozN Z8.out; clear hp ha)
          refine bodyPost_ret (results_row_tmpT (p := 6) (u := 7) rfl _ _ w.heap.size 33 _ (0, 0) _ rfl (set_8 _ _ _ _ _ _ _ _ Z8.out) Tryd.underlying33 rfl (by kernel_rfl)) rfl ?_
          exact ⟨rfl, v', P8.out.stay (fun b hb => set_8_eq (fun q => NO.out (q ▸ hb))), set_8_asd A8.out (Nat.le_refl _)⟩
      · go_simp
        refine hK.out _ _ trivial (fun hHeld => ?_)
        clear hK K
        refine wpAnyH_take (i := 15) (v := ?_) rfl (by kernel_rfl) (by kernel_rfl) (by kernel_rfl) (fun _ _ _ h => h) (Or.inl ⟨by rfl, ?_⟩) (by assumption) ?_
        rotate_left
        · intro w hSw; go_simp; try with_reducible rfl
        go_simp
        refine wpAnyH_ready (rs := [1]) (by kernel_rfl) (by simp) ?_
        refine AllReadyH.cons rfl (fun K hK => ?_) AllReadyH.nil
        go_simp
        try rw [HSE.out]
        try rw [HWE.out]
        refine hK.out _ _ trivial (fun hHeld => ?_)
        clear hK K
        refine wpAnyH_ready (rs := [8]) (by kernel_rfl) (by simp) ?_
        refine AllReadyH.consLR rfl (fun K hK => ?_) AllReadyH.nil
        go_simp
        refine wpList_append_flr _ rfl _ _ rfl sE _ _ _ rfl O1.out _ (m.f.take i) rfl P1.out ?f1 ?f2 ?_
        case f1 => have := HI.out; have := HN.out; simp; omega
        case f2 => have := O1.out.lt sE rfl; omega
        rintro v3 w3 ho hg hb
        rw [HTI.out, Nat.zero_add, List.nil_append] at ho
        obtain ⟨ad3, c3, rfl⟩ := own_formR ho
        have K3 := Lib.hid (show Kp X9 w3 from Below.grown KE.out hg (Below.size KE.out) (fun k hk => by have := (O1.out.lt k hk).1; have := SE.out; omega))
        have O3 := Lib.hid ho
        have S3 := Lib.hid (show sE ≤ w3.heap.size from Nat.le_trans (by have := O1.out.lt sE rfl; omega) hg.size)
        have P3 := Lib.hid (P2.out.kp (show Kp wD w3 from Below.grown KDE.out hg (Below.size KDE.out) (fun k hk => by have := (O1.out.lt k hk).1; have := HSE.out; omega)))
        have e13 := kp_cell K3.out (cells_2R HS.out.row).2
        clear ho hg hb
        refine hK.out _ _ trivial (fun hHeld => ?_)
        clear hK K
        refine wpAnyH_ready (rs := [16]) (by kernel_rfl) (by simp) ?_
        refine AllReadyH.consLR rfl (fun K hK => ?_) AllReadyH.nil
        go_simp
        refine wpList_append_flr _ rfl _ _ rfl sE _ _ _ rfl O3.out _ (m.f.drop (i + 1)) rfl P3.out ?f3 ?f4 ?_
        case f3 => have := HI.out; have := HN.out; simp; omega
        case f4 => exact S3.out
        rintro v4 w4 ho hg hb
        rw [HL2.out] at ho
        obtain ⟨ad4, c4, rfl⟩ := own_formR ho
        have K4 := Lib.hid (show Kp X9 w4 from Below.grown K3.out hg (Below.size K3.out) (fun k hk => by have := (O3.out.lt k hk).1; have := SE.out; omega))
        have RF := Lib.hid (HS.out.fly K4.out (w3 := w4) (L := L2) ⟨rfl, rfl, rfl, Nat.le_refl _, fun _ _ _ => rfl⟩ (f := m.f.take i ++ m.f.drop (i + 1)) (by rw [List.length_append, HTI.out, HL2.out]) (by rw [flyB_app]; exact own_baseR (base := sE) ho (Nat.le_trans HS.out.bg (Nat.le_trans (Nat.le_of_lt (old_of_row HS.out.row)) SE.out))) (fun b q => .inr (by have := (ho.lt b q).1; have := SE.out; omega)))
        have r4 := kp_row K4.out HS.out.row
        obtain ⟨x0, x1⟩ := cells_2R r4
        have fz := frozN r4
        clear ho hg hb r4
        refine hK.out _ _ trivial (fun hHeld => ?_)
        clear hK K
        refine wpAnyH_take (i := 17) (v := ?_) rfl (by kernel_rfl) (by kernel_rfl) (by kernel_rfl) (fun _ _ _ h => h) (Or.inl ⟨by rfl, ?_⟩) (by assumption) ?_
        rotate_left
        · intro w hSw; go_simp; try with_reducible rfl
        go_simp
        refine wpAnyH_take (i := 18) (v := ?_) rfl (by kernel_rfl) (by kernel_rfl) (by kernel_rfl) (fun _ _ _ h => h) (Or.inl ⟨by rfl, ?_⟩) (by assumption) ?_
        rotate_left
        · intro w hSw; go_simp; try with_reducible rfl
        go_simp
        refine wpAnyH_ready (rs := [19]) (by kernel_rfl) (by simp) ?_
        refine AllReadyH.cons rfl (fun K hK => ?_) AllReadyH.nil
        go_simp
        refine hK.out _ _ trivial (fun hHeld => ?_)
        clear hK K
        refine wpAnyH_done (by kernel_rfl) ?_ _
        have PY := Lib.hid (show Rp w0 gm sb ⟨⟨a0, a1, a2, a3⟩, m.x, (m.f.take i ++ m.f.drop (i + 1))⟩ (.slice ad4 L2 c4) (w4.setCell ⟨gm, 1, none⟩ (.slice ad4 L2 c4)) from RF.out.1)
        have AY := Lib.hid (A9.out.trans RF.out.2)
        have BY := Lib.hid (RF.out.2.row B9.out (NOB.out _ LQ.out))
        have ZY := Lib.hid (RF.out.2.row Z9.out (NOB.out _ (Nat.le_refl _)))
        have TY := Lib.hid (RF.out.2.row T9.out (NOB.out _ (Nat.le_succ _)))
        have NBY := Lib.hid (fun b (h1 : w.heap.size ≤ b) (h2 : b < X9.heap.size) => (fun q => (RF.out.2.own b q).elim (NOB.out b h1) (fun q => absurd h2 (by omega)) : ¬ Orf gm sb (.slice ad4 L2 c4) b))
        obtain ⟨YY, hY⟩ : ∃ Y, (w4.setCell ⟨gm, 1, none⟩ (.slice ad4 L2 c4)) = Y := ⟨_, rfl⟩
        rw [hY] at PY AY BY ZY TY
        rw [hY]
        have LZY := Lib.hid (old_of_row ZY.out)
        clear hY x0 x1 fz
        obtain ⟨x0, x1, x2, x3, x4, x5, x6, x7⟩ := cells_8 BY.out
        obtain ⟨u0, u1⟩ := cells_2M TY.out
        go_wp2_with (go_at_call 72; (with_reducible refine (HPT.out _ _ PY.out).mono ?_); rintro e' w8 ⟨rfl, v', hp, ha⟩; have P8 := Lib.hid hp; have A8 := Lib.hid (AY.out.trans ha); have NO := Lib.hid (show ¬ Orf gm sb v' w.heap.size from fun q => (ha.own _ q).elim (NBY.out _ (Nat.le_refl _) LZ9.out) (fun q => by have := LZY.out; omega)); have B8 := Lib.hid (ha.row BY.out (NBY.out _ LQ.out LB9.out)); have Z8 := Lib.hid (ha.row ZY.out (NBY.out _ (Nat.le_refl _) LZ9.out)); obtain ⟨s0, s1, s2, s3, s4, s5, s6, s7⟩ := cells_8 B8.out; obtain ⟨r0, r1, r2, r3, r4, r5, r6, r7⟩ := cells_8 Z8.out; have fz8 := frozN Z8.out; clear hp ha)
        refine bodyPost_ret (results_row_tmpT (p := 6) (u := 7) rfl _ _ w.heap.size 33 _ (0, 0) _ rfl (set_8 _ _ _ _ _ _ _ _ Z8.out) Tryd.underlying33 rfl (by kernel_rfl)) rfl ?_
        exact ⟨rfl, v', P8.out.stay (fun b hb => set_8_eq (fun q => NO.out (q ▸ hb))), set_8_asd A8.out (Nat.le_refl _)⟩
    · go_simp
      refine hK.out _ _ trivial (fun hHeld => ?_)
      clear hK K
      refine wpAnyH_take (i := 15) (v := ?_) rfl (by kernel_rfl) (by kernel_rfl) (by kernel_rfl) (fun _ _ _ h => h) (Or.inl ⟨by rfl, ?_⟩) (by assumption) ?_
      rotate_left
      · intro w hSw; go_simp; try with_reducible rfl
      go_simp
      refine wpAnyH_ready (rs := [1, 5]) (by kernel_rfl) (by simp) ?_
      refine AllReadyH.cons rfl (fun K hK => ?_) (AllReadyH.cons rfl (fun K hK => ?_) AllReadyH.nil)
      · go_simp
        try rw [HSE.out]
        try rw [HWE.out]
        refine hK.out _ _ trivial (fun hHeld => ?_)
        clear hK K
        refine wpAnyH_ready (rs := [5]) (by kernel_rfl) (by simp) ?_
        refine AllReadyH.cons rfl (fun K hK => ?_) AllReadyH.nil
        go_simp
        refine hK.out _ _ trivial (fun hHeld => ?_)
        clear hK K
        refine wpAnyH_take (i := 7) (v := ?_) rfl (by kernel_rfl) (by kernel_rfl) (by kernel_rfl) (fun _ _ _ h => h) (Or.inl ⟨by rfl, ?_⟩) (by assumption) ?_
        rotate_left
        · intro w hSw; go_simp; try with_reducible rfl
        go_simp
        refine wpAnyH_ready (rs := [8]) (by kernel_rfl) (by simp) ?_
        refine AllReadyH.consLR rfl (fun K hK => ?_) AllReadyH.nil
        go_simp
        refine wpList_append_flr _ rfl _ _ rfl sE _ _ _ rfl O1.out _ (m.f.take i) rfl P1.out ?f1 ?f2 ?_
        case f1 => have := HI.out; have := HN.out; simp; omega
        case f2 => have := O1.out.lt sE rfl; omega
        rintro v3 w3 ho hg hb
        rw [HTI.out, Nat.zero_add, List.nil_append] at ho
        obtain ⟨ad3, c3, rfl⟩ := own_formR ho
        have K3 := Lib.hid (show Kp X9 w3 from Below.grown KE.out hg (Below.size KE.out) (fun k hk => by have := (O1.out.lt k hk).1; have := SE.out; omega))
        have O3 := Lib.hid ho
        have S3 := Lib.hid (show sE ≤ w3.heap.size from Nat.le_trans (by have := O1.out.lt sE rfl; omega) hg.size)
        have P3 := Lib.hid (P2.out.kp (show Kp wD w3 from Below.grown KDE.out hg (Below.size KDE.out) (fun k hk => by have := (O1.out.lt k hk).1; have := HSE.out; omega)))
        have e13 := kp_cell K3.out (cells_2R HS.out.row).2
        clear ho hg hb
        refine hK.out _ _ trivial (fun hHeld => ?_)
        clear hK K
        refine wpAnyH_ready (rs := [16]) (by kernel_rfl) (by simp) ?_
        refine AllReadyH.consLR rfl (fun K hK => ?_) AllReadyH.nil
        go_simp
        refine wpList_append_flr _ rfl _ _ rfl sE _ _ _ rfl O3.out _ (m.f.drop (i + 1)) rfl P3.out ?f3 ?f4 ?_
        case f3 => have := HI.out; have := HN.out; simp; omega
        case f4 => exact S3.out
        rintro v4 w4 ho hg hb
        rw [HL2.out] at ho
        obtain ⟨ad4, c4, rfl⟩ := own_formR ho
        have K4 := Lib.hid (show Kp X9 w4 from Below.grown K3.out hg (Below.size K3.out) (fun k hk => by have := (O3.out.lt k hk).1; have := SE.out; omega))
        have RF := Lib.hid (HS.out.fly K4.out (w3 := w4) (L := L2) ⟨rfl, rfl, rfl, Nat.le_refl _, fun _ _ _ => rfl⟩ (f := m.f.take i ++ m.f.drop (i + 1)) (by rw [List.length_append, HTI.out, HL2.out]) (by rw [flyB_app]; exact own_baseR (base := sE) ho (Nat.le_trans HS.out.bg (Nat.le_trans (Nat.le_of_lt (old_of_row HS.out.row)) SE.out))) (fun b q => .inr (by have := (ho.lt b q).1; have := SE.out; omega)))
        have r4 := kp_row K4.out HS.out.row
        obtain ⟨x0, x1⟩ := cells_2R r4
        have fz := frozN r4
        clear ho hg hb r4
        refine hK.out _ _ trivial (fun hHeld => ?_)
        clear hK K
        refine wpAnyH_take (i := 17) (v := ?_) rfl (by kernel_rfl) (by kernel_rfl) (by kernel_rfl) (fun _ _ _ h => h) (Or.inl ⟨by rfl, ?_⟩) (by assumption) ?_
        rotate_left
        · intro w hSw; go_simp; try with_reducible rfl
        go_simp
        refine wpAnyH_take (i := 18) (v := ?_) rfl (by kernel_rfl) (by kernel_rfl) (by kernel_rfl) (fun _ _ _ h => h) (Or.inl ⟨by rfl, ?_⟩) (by assumption) ?_
        rotate_left
        · intro w hSw; go_simp; try with_reducible rfl
        go_simp
        refine wpAnyH_ready (rs := [19]) (by kernel_rfl) (by simp) ?_
        refine AllReadyH.cons rfl (fun K hK => ?_) AllReadyH.nil
        go_simp
        refine hK.out _ _ trivial (fun hHeld => ?_)
        clear hK K
        refine wpAnyH_done (by kernel_rfl) ?_ _
        have PY := Lib.hid (show Rp w0 gm sb ⟨⟨a0, a1, a2, a3⟩, m.x, (m.f.take i ++ m.f.drop (i + 1))⟩ (.slice ad4 L2 c4) (w4.setCell ⟨gm, 1, none⟩ (.slice ad4 L2 c4)) from RF.out.1)
        have AY := Lib.hid (A9.out.trans RF.out.2)
        have BY := Lib.hid (RF.out.2.row B9.out (NOB.out _ LQ.out))
        have ZY := Lib.hid (RF.out.2.row Z9.out (NOB.out _ (Nat.le_refl _)))
        have TY := Lib.hid (RF.out.2.row T9.out (NOB.out _ (Nat.le_succ _)))
        have NBY := Lib.hid (fun b (h1 : w.heap.size ≤ b) (h2 : b < X9.heap.size) => (fun q => (RF.out.2.own b q).elim (NOB.out b h1) (fun q => absurd h2 (by omega)) : ¬ Orf gm sb (.slice ad4 L2 c4) b))
        obtain ⟨YY, hY⟩ : ∃ Y, (w4.setCell ⟨gm, 1, none⟩ (.slice ad4 L2 c4)) = Y := ⟨_, rfl⟩
        rw [hY] at PY AY BY ZY TY
        rw [hY]
        have LZY := Lib.hid (old_of_row ZY.out)
        clear hY x0 x1 fz
        obtain ⟨x0, x1, x2, x3, x4, x5, x6, x7⟩ := cells_8 BY.out
        obtain ⟨u0, u1⟩ := cells_2M TY.out
        go_wp2_with (go_at_call 72; (with_reducible refine (HPT.out _ _ PY.out).mono ?_); rintro e' w8 ⟨rfl, v', hp, ha⟩; have P8 := Lib.hid hp; have A8 := Lib.hid (AY.out.trans ha); have NO := Lib.hid (show ¬ Orf gm sb v' w.heap.size from fun q => (ha.own _ q).elim (NBY.out _ (Nat.le_refl _) LZ9.out) (fun q => by have := LZY.out; omega)); have B8 := Lib.hid (ha.row BY.out (NBY.out _ LQ.out LB9.out)); have Z8 := Lib.hid (ha.row ZY.out (NBY.out _ (Nat.le_refl _) LZ9.out)); obtain ⟨s0, s1, s2, s3, s4, s5, s6, s7⟩ := cells_8 B8.out; obtain ⟨r0, r1, r2, r3, r4, r5, r6, r7⟩ := cells_8 Z8.out; have fz8 := frozN Z8.out; clear hp ha)
        refine bodyPost_ret (results_row_tmpT (p := 6) (u := 7) rfl _ _ w.heap.size 33 _ (0, 0) _ rfl (set_8 _ _ _ _ _ _ _ _ Z8.out) Tryd.underlying33 rfl (by kernel_rfl)) rfl ?_
        exact ⟨rfl, v', P8.out.stay (fun b hb => set_8_eq (fun q => NO.out (q ▸ hb))), set_8_asd A8.out (Nat.le_refl _)⟩
      · go_simp
        refine hK.out _ _ trivial (fun hHeld => ?_)
        clear hK K
        refine wpAnyH_take (i := 7) (v := ?_) rfl (by kernel_rfl) (by kernel_rfl) (by kernel_rfl) (fun _ _ _ h => h) (Or.inl ⟨by rfl, ?_⟩) (by assumption) ?_
        rotate_left
        · intro w hSw; go_simp; try with_reducible rfl
        go_simp
        refine wpAnyH_ready (rs := [1]) (by kernel_rfl) (by simp) ?_
        refine AllReadyH.cons rfl (fun K hK => ?_) AllReadyH.nil
        go_simp
        try rw [HSE.out]
        try rw [HWE.out]
        refine hK.out _ _ trivial (fun hHeld => ?_)
        clear hK K
        refine wpAnyH_ready (rs := [8]) (by kernel_rfl) (by simp) ?_
        refine AllReadyH.consLR rfl (fun K hK => ?_) AllReadyH.nil
        go_simp
        refine wpList_append_flr _ rfl _ _ rfl sE _ _ _ rfl O1.out _ (m.f.take i) rfl P1.out ?f1 ?f2 ?_
        case f1 => have := HI.out; have := HN.out; simp; omega
        case f2 => have := O1.out.lt sE rfl; omega
        rintro v3 w3 ho hg hb
        rw [HTI.out, Nat.zero_add, List.nil_append] at ho
        obtain ⟨ad3, c3, rfl⟩ := own_formR ho
        have K3 := Lib.hid (show Kp X9 w3 from Below.grown KE.out hg (Below.size KE.out) (fun k hk => by have := (O1.out.lt k hk).1; have := SE.out; omega))
        have O3 := Lib.hid ho
        have S3 := Lib.hid (show sE ≤ w3.heap.size from Nat.le_trans (by have := O1.out.lt sE rfl; omega) hg.size)
        have P3 := Lib.hid (P2.out.kp (show Kp wD w3 from Below.grown KDE.out hg (Below.size KDE.out) (fun k hk => by have := (O1.out.lt k hk).1; have := HSE.out; omega)))
        have e13 := kp_cell K3.out (cells_2R HS.out.row).2
        clear ho hg hb
        refine hK.out _ _ trivial (fun hHeld => ?_)
        clear hK K
        refine wpAnyH_ready (rs := [16]) (by kernel_rfl) (by simp) ?_
        refine AllReadyH.consLR rfl (fun K hK => ?_) AllReadyH.nil
        go_simp
        refine wpList_append_flr _ rfl _ _ rfl sE _ _ _ rfl O3.out _ (m.f.drop (i + 1)) rfl P3.out ?f3 ?f4 ?_
        case f3 => have := HI.out; have := HN.out; simp; omega
        case f4 => exact S3.out
        rintro v4 w4 ho hg hb
        rw [HL2.out] at ho
        obtain ⟨ad4, c4, rfl⟩ := own_formR ho
        have K4 := Lib.hid (show Kp X9 w4 from Below.grown K3.out hg (Below.size K3.out) (fun k hk => by have := (O3.out.lt k hk).1; have := SE.out; omega))
        have RF := Lib.hid (HS.out.fly K4.out (w3 := w4) (L := L2) ⟨rfl, rfl, rfl, Nat.le_refl _, fun _ _ _ => rfl⟩ (f := m.f.take i ++ m.f.drop (i + 1)) (by rw [List.length_append, HTI.out, HL2.out]) (by rw [flyB_app]; exact own_baseR (base := sE) ho (Nat.le_trans HS.out.bg (Nat.le_trans (Nat.le_of_lt (old_of_row HS.out.row)) SE.out))) (fun b q => .inr (by have := (ho.lt b q).1; have := SE.out; omega)))
        have r4 := kp_row K4.out HS.out.row
        obtain ⟨x0, x1⟩ := cells_2R r4
        have fz := frozN r4
        clear ho hg hb r4
        refine hK.out _ _ trivial (fun hHeld => ?_)
        clear hK K
        refine wpAnyH_take (i := 17) (v := ?_) rfl (by kernel_rfl) (by kernel_rfl) (by kernel_rfl) (fun _ _ _ h => h) (Or.inl ⟨by rfl, ?_⟩) (by assumption) ?_
        rotate_left
        · intro w hSw; go_simp; try with_reducible rfl
        go_simp
        refine wpAnyH_take (i := 18) (v := ?_) rfl (by kernel_rfl) (by kernel_rfl) (by kernel_rfl) (fun _ _ _ h => h) (Or.inl ⟨by rfl, ?_⟩) (by assumption) ?_
        rotate_left
        · intro w hSw; go_simp; try with_reducible rfl
        go_simp
        refine wpAnyH_ready (rs := [19]) (by kernel_rfl) (by simp) ?_
        refine AllReadyH.cons rfl (fun K hK => ?_) AllReadyH.nil
        go_simp
        refine hK.out _ _ trivial (fun hHeld => ?_)
        clear hK K
        refine wpAnyH_done (by kernel_rfl) ?_ _
        have PY := Lib.hid (show Rp w0 gm sb ⟨⟨a0, a1, a2, a3⟩, m.x, (m.f.take i ++ m.f.drop (i + 1))⟩ (.slice ad4 L2 c4) (w4.setCell ⟨gm, 1, none⟩ (.slice ad4 L2 c4)) from RF.out.1)
        have AY := Lib.hid (A9.out.trans RF.out.2)
        have BY := Lib.hid (RF.out.2.row B9.out (NOB.out _ LQ.out))
        have ZY := Lib.hid (RF.out.2.row Z9.out (NOB.out _ (Nat.le_refl _)))
        have TY := Lib.hid (RF.out.2.row T9.out (NOB.out _ (Nat.le_succ _)))
        have NBY := Lib.hid (fun b (h1 : w.heap.size ≤ b) (h2 : b < X9.heap.size) => (fun q => (RF.out.2.own b q).elim (NOB.out b h1) (fun q => absurd h2 (by omega)) : ¬ Orf gm sb (.slice ad4 L2 c4) b))
        obtain ⟨YY, hY⟩ : ∃ Y, (w4.setCell ⟨gm, 1, none⟩ (.slice ad4 L2 c4)) = Y := ⟨_, rfl⟩
        rw [hY] at PY AY BY ZY TY
        rw [hY]
        have LZY := Lib.hid (old_of_row ZY.out)
        clear hY x0 x1 fz
        obtain ⟨x0, x1, x2, x3, x4, x5, x6, x7⟩ := cells_8 BY.out
        obtain ⟨u0, u1⟩ := cells_2M TY.out
        go_wp2_with (go_at_call 72; (with_reducible refine (HPT.out _ _ PY.out).mono ?_); rintro e' w8 ⟨rfl, v', hp, ha⟩; have P8 := Lib.hid hp; have A8 := Lib.hid (AY.out.trans ha); have NO := Lib.hid (show ¬ Orf gm sb v' w.heap.size from fun q => (ha.own _ q).elim (NBY.out _ (Nat.le_refl _) LZ9.out) (fun q => by have := LZY.out; omega)); have B8 := Lib.hid (ha.row BY.out (NBY.out _ LQ.out LB9.out)); have Z8 := Lib.hid (ha.row ZY.out (NBY.out _ (Nat.le_refl _) LZ9.out)); obtain ⟨s0, s1, s2, s3, s4, s5, s6, s7⟩ := cells_8 B8.out; obtain ⟨r0, r1, r2, r3, r4, r5, r6, r7⟩ := cells_8 Z8.out; have fz8 := frozN Z8.out; clear hp ha)
        refine bodyPost_ret (results_row_tmpT (p := 6) (u := 7) rfl _ _ w.heap.size 33 _ (0, 0) _ rfl (set_8 _ _ _ _ _ _ _ _ Z8.out) Tryd.underlying33 rfl (by kernel_rfl)) rfl ?_
        exact ⟨rfl, v', P8.out.stay (fun b hb => set_8_eq (fun q => NO.out (q ▸ hb))), set_8_asd A8.out (Nat.le_refl _)⟩
end Go.Proofs.YtghjnhdepeiloaaDoor

