/-
  WHAT NetPlays' WALK NEEDS (own work): the last letter to a node; marks at the end; letters as they are read.
-/
import Derived.Test.YtjffkfcokgcenaaDoorNetF
import Derived.Test.YtjffkfcokgcenaaDoorNtJ
namespace Go.Proofs.YtjffkfcokgcenaaDoor
open Go.RowKit Go.Shelf Go.ChangeShapes Go.WideShapes

/-- the last one's place -/
def lastT (rs : List (Nat × LtM)) : Int := match rs.getLast? with | none => -1 | some p => p.1
theorem lastT_nil : lastT [] = -1 := rfl
theorem lastT_app (rs : List (Nat × LtM)) (j : Nat) (x : LtM) : lastT (rs ++ [(j, x)]) = j := by
  unfold lastT
  rw [List.getLast?_append]
  rfl
theorem lastT_toM (f : List LtM) (nd : Int) : ∀ j, j ≤ f.length → -1 ≤ lastT (toM (f.take j) nd) ∧ lastT (toM (f.take j) nd) < j ∧ ∀ (k : Nat) (x : LtM), k < j → lastT (toM (f.take j) nd) < k → f[k]? = some x → x.b ≠ nd
  | 0, _ => ⟨by rw [List.take_zero, toM_nil, lastT_nil]; omega, by rw [List.take_zero, toM_nil, lastT_nil]; omega, fun k x h => by omega⟩
  | j + 1, hj => by
    obtain ⟨h1, h2, h3⟩ := lastT_toM f nd j (by omega)
    have hx := List.getElem?_eq_getElem (show j < f.length by omega)
    rw [toM_succ hx nd]
    by_cases hb : f[j].b = nd
    · rw [if_pos hb, lastT_app]
      exact ⟨by omega, by omega, fun k x hk hl => by omega⟩
    · rw [if_neg hb, List.append_nil]
      refine ⟨h1, by omega, fun k x hk hl hkx => ?_⟩
      by_cases hkj : k = j
      · subst hkj
        rw [hx] at hkx
        injection hkx with hkx
        rw [← hkx]
        exact hb
      · exact h3 k x (by omega) hl hkx
/-- a mark among a frame's deferred calls -/
def mkD (r : Nat) : Deferred := { target := .collected r, args := #[] }
theorem leaves_marks {F : Fence} {n : Nat} {P : Program} {fn : Func} {tmps : Array Value} {R : Ending → World → Prop} : ∀ (rs : List Nat) (w : World), (∀ r ∈ rs, w.heap[r]? = some (.deferred (some []))) → rs.Nodup →
    (∀ w', Asd (fun b => b ∈ rs) (fun b => b ∈ rs) w w' → ∃ v, (results fn tmps).run P w' = .ok v w' ∧ R (.returned v) w') → LeavesInM F n P fn tmps R (rs.map mkD) .returning w
  | [], w, _, _, h => h w (Asd.refl _ _)
  | r :: rs, w, hr, hn, h => by
    refine ⟨by simp, .inl ⟨r, _, rfl, run_takeDeferred (hr r List.mem_cons_self), ?_⟩⟩
    have hnr : r ∉ rs := (List.nodup_cons.1 hn).1
    refine leaves_marks rs _ (fun x hx => ?_) (List.nodup_cons.1 hn).2 (fun w' ha => h w' ?_)
    · exact (World.putObj_heap_other (fun e => hnr (by rw [← e]; exact hx))).trans (hr x (List.mem_cons_of_mem _ hx))
    · refine ⟨ha.os, ha.tape, ha.output, by have := ha.size; rw [World.putObj_size] at this; exact this, fun b hb hnb => ?_, fun b hb => .inl hb⟩
      have h1 : b ≠ r := fun e => hnb (e ▸ List.mem_cons_self)
      exact (ha.block b (by rw [World.putObj_size]; exact hb) (fun q => hnb (List.mem_cons_of_mem _ q))).trans (World.putObj_heap_other h1)
/-- how a function that holds a range is left: it returns -/
def QM (P : Program) (fn : Func) (R : Ending → World → Prop) : Exit → Act → World → Prop
  | .normal, a, w | .ret, a, w => LeavesInM Fence.wide 4 P fn a.tmps R a.defers .returning w
  | _, _, _ => False
theorem calls_of_marksQ {P : Program} {f : FuncId} {fn : Func} {c : Code} {args : Array Value} {w : World} {R : Ending → World → Prop} (hf : P.funcs[f]? = some fn) (hb : fn.body = some c)
    (h : c.wp P (QM P fn R) { tmps := args ++ Array.replicate (fn.ntmps - args.size) undef, defers := [] } w) : Calls P f args w R :=
  calls_of_marks hf hb (wp_mono h (fun e a w q => by
    cases e with
    | normal => exact q
    | ret => exact q
    | _ => exact q.elim))
theorem results_boolN {fn : Func} {p : Tmp} (h : fn.results = #[.cell p 4]) (tmps : Array Value) (w : World) (g : Nat) (x : Bool)
    (hp : tmps.getD p undef = .pointer (some ⟨g, 0, none⟩)) (hg : w.cell? ⟨g, 0, none⟩ = some (.bool x)) : (results fn tmps).run Tryd.prog w = .ok (.bool x) w := by
  have hp' : tmps[p]?.getD undef = .pointer (some ⟨g, 0, none⟩) := by simpa using hp
  simp [results, h, hp', asAddr, go_sem, hg]
variable {ads : List Addr} {J : Nat → NetM → (Nat → Prop) → World → Prop} {w0 B w w' w1 w2 : World} {F F2 G : Nat → Prop} {g q : Nat} {m : NetM}
/-- what was there ahead of the net isn't the net's -/
theorem AtN.old (h : AtN J w0 B F g m w1) : AtN J w0 w0 (fun b => F b ∨ b < B.heap.size) g m w1 := by
  obtain ⟨O, hj, hO, hb, hB, hF, hp⟩ := h
  refine ⟨O, hj, fun b q => Nat.le_trans (Below.size hb) (hO b q), Kp.refl _, Kp.trans hb hB, fun b q => ?_, hp⟩
  rcases q with q | q
  · exact hF b q
  · exact ⟨fun q2 => absurd (hO b q2) (by omega), Nat.lt_of_lt_of_le q (Below.size hB)⟩
/-- the document's letters, as they are read -/
theorem Rn.let {v vc : Value} {rb : List Nat} (h : Rn w0 q m v vc rb w) : ∃ a cp, v = .slice a m.f.length cp ∧ ∀ (i : Nat) (hi : i < m.f.length), ∃ b, a = some ⟨b, 0, none⟩ ∧ ∀ w', Kp w w' → w'.cell? ⟨b, i * 3, none⟩ = some (.int .i64 m.f[i].a) ∧ w'.cell? ⟨b, i * 3 + 1, none⟩ = some (.int .i64 m.f[i].b) ∧ w'.cell? ⟨b, i * 3 + 2, none⟩ = some (.string (strOfNums m.f[i].d)) := by
  obtain ⟨a, cp, rfl⟩ := h.form
  refine ⟨a, cp, rfl, fun i hi => ?_⟩
  have ho := h.own
  rcases ho.2 with ⟨e, hz⟩ | ⟨b, cp2, cur, e, -⟩
  · omega
  · injection e with e1 e2 e3
    subst e1
    refine ⟨b, rfl, fun w' hk => ?_⟩
    have hrow : ∀ (k : Nat) (u : Value), k < 3 → (ltE.enc m.f[i])[k]? = some u → w'.cell? ⟨b, i * 3 + k, none⟩ = some u := fun k u hk' hu => by
      have := ho.cells rfl (i * 3 + k) u (by rw [← hu]; exact row_at ltE m.f i hi k hk')
      rw [Addr.add_lit, Nat.zero_add] at this
      exact kp_cell hk this
    exact ⟨hrow 0 _ (by omega) rfl, hrow 1 _ (by omega) rfl, hrow 2 _ (by omega) rfl⟩
theorem own_ltP {base n lc : Nat} {la : Option Addr} {ps : List LtP} (h : w.ownsRow base 45 3 (.slice la n lc) n (pE.row ps)) (i : Nat) (hi : i < ps.length) : ∃ b, la = some ⟨b, 0, none⟩ ∧ base ≤ b ∧ w.cell? ⟨b, i * 3, none⟩ = some (.int .i64 ps[i].l.a) ∧ w.cell? ⟨b, i * 3 + 1, none⟩ = some (.int .i64 ps[i].l.b) ∧ w.cell? ⟨b, i * 3 + 2, none⟩ = some ps[i].v := by
  have hpl : ps.length = n := own_lenG (E := pE) (by decide) h
  rcases h.2 with ⟨e, hz⟩ | ⟨b, cp2, cur, e, hb, -⟩
  · omega
  · injection e with e1 e2 e3
    subst e1
    have hrow : ∀ (k : Nat) (u : Value), k < 3 → (pE.enc ps[i])[k]? = some u → w.cell? ⟨b, i * 3 + k, none⟩ = some u := fun k u hk' hu => by
      have := h.cells rfl (i * 3 + k) u (by rw [← hu]; exact row_at pE ps i hi k hk')
      rw [Addr.add_lit, Nat.zero_add] at this
      exact this
    exact ⟨b, rfl, hb, hrow 0 _ (by omega) rfl, hrow 1 _ (by omega) rfl, hrow 2 _ (by omega) rfl⟩
/-- a letter's bytes, whatever they are -/
theorem own_rowB {base k c : Nat} {o : Option Addr} {d : List Int} (h : w.ownsRow base 5 1 (.slice o k c) k (d.map (Value.int .u8))) : (k = 0) ∨ ∃ g, o = some ⟨g, 0, none⟩ ∧ base ≤ g ∧ RowB g k w := by
  rcases h.2 with ⟨e, hz⟩ | ⟨g, cp, cur, e, hg, hh, hc, hm, hs, ht⟩
  · exact .inl hz
  · injection e with e1 e2 e3
    refine .inr ⟨g, e1, hg, cur, hh, by omega, fun j hj => ?_⟩
    have hl : (d.map (Value.int .u8)).length = k * 1 := h.1
    have hjl : j < (d.map (Value.int .u8)).length := by omega
    have e4 : (cur.toList.take (k * 1))[j]? = (d.map (Value.int .u8))[j]? := by rw [ht]
    rw [List.getElem?_take, if_pos (by omega)] at e4
    rw [List.getElem?_map, List.getElem?_eq_getElem (l := d) (by simpa using hjl)] at e4
    exact ⟨_, by simpa using e4⟩
end Go.Proofs.YtjffkfcokgcenaaDoor
