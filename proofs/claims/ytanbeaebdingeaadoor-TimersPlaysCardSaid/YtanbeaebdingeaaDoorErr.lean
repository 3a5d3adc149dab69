/-
  PACKAGE api's ERRORS (own work): what the listed variables hold when the call begins; errors.Is at two of them; liaisonnum.Num.
-/
import Derived.Test.YtanbeaebdingeaaDoorChecked
import Derived.WalkKit
import Derived.WalkSpells
import Derived.LaidEql
import Derived.Stop.Asserts
import Derived.Stop.IfaceNil
import Derived.RowKitTokens
import Derived.LaidLaws
import Derived.Lib.Hide
import Derived.Laws.Externs
namespace Go.Proofs.YtanbeaebdingeaaDoor
open Go.RowKit Go.Extern.Stop Go.Stop Go.Extern Go.ChangeShapes

/-- THE SENTINELS OF THE GLOBALS gs LIE IN w AT THE ADDRESSES ads, each its own, none frozen. -/
structure Errs (gs : List Nat) (ads : List Addr) (w : World) : Prop where
  len : ads.length = gs.length
  cell : ∀ (i : Nat) (h : i < gs.length), w.cell? ⟨gs[i], 0, none⟩ = some (.iface 131 (.pointer (some (ads[i]'(by omega)))))
  row : ∀ a ∈ ads, ∃ c t, w.heap[a.block]? = some (.cells c t (0, 0))
  nodup : ads.Nodup

theorem Errs.old {gs : List Nat} {ads : List Addr} {w : World} (h : Errs gs ads w) : (∀ (i : Nat) (hi : i < gs.length), gs[i] < w.heap.size) ∧ ∀ a ∈ ads, a.block < w.heap.size := by
  constructor
  · intro i hi
    have := h.cell i hi
    rcases Nat.lt_or_ge gs[i] w.heap.size with g | g
    · exact g
    · simp [World.cell?, Array.getElem?_eq_none g] at this
  · intro a ha
    obtain ⟨c, t, hr⟩ := h.row a ha
    rcases Nat.lt_or_ge a.block w.heap.size with g | g
    · exact g
    · simp [Array.getElem?_eq_none g] at hr

theorem Errs.below {gs : List Nat} {ads : List Addr} {w w' : World} (h : Errs gs ads w) (hb : Below w.heap.size w w') : Errs gs ads w' :=
  ⟨h.len, fun i hi => by rw [hb.cell (p := ⟨gs[i], 0, none⟩) (h.old.1 i hi)]; exact h.cell i hi,
   fun a ha => by rw [hb.block _ (h.old.2 a ha)]; exact h.row a ha, h.nodup⟩

theorem errRow : ∀ u, Tryd.prog.typeName? 3 u = some "*errors.errorString" → u = 131 :=
  typeName_ptr_named (nm := "errors.errorString") (by kernel_rfl) (by kernel_rfl) (by decide)
theorem errCells : Tryd.prog.cellsOf 155 = 1 := by kernel_rfl
theorem strCells : Tryd.prog.cellsOf 9 = 1 := by kernel_rfl
theorem errFields : ∃ f : Field, Tryd.prog.underlying 155 = some (.struct #[f]) ∧ f.type = 9 ∧ f.offset = 0 := ⟨_, Tryd.underlying155, rfl, rfl⟩

def sentD (x : String × List UInt8) : String × DataW Unit := (x.1, .iface "*errors.errorString" (.ptr (.agg [.lit (.string x.2)])))

set_option maxRecDepth 100000 in
theorem sents_vars {W : World} (l : List (String × List UInt8)) : ∀ (gs : List Nat) (ps : List MemPlace), gs.length = l.length →
    (∀ (i : Nat) (h : i < l.length) (h' : i < gs.length), Tryd.prog.globalNamed (l[i]).1 = some gs[i] ∧ (Tryd.prog.globals[gs[i]]?).map (·.type) = some 49) →
    DataW.LaidVars Tryd.prog W (l.map sentD) ps →
    (∀ b off, MemPlace.cell b off ∈ ps → (∃ c t, W.heap[b]? = some (.cells c t (0, 0))) ∧ ∀ u v, W.cell? ⟨b, off, none⟩ = some (.iface u v) → Value.okWide Tryd.prog W .any 0 u v) →
    ∃ ads : List Addr, ads.length = gs.length ∧ (∀ (i : Nat) (h : i < gs.length) (h' : i < ads.length), W.cell? ⟨gs[i], 0, none⟩ = some (.iface 131 (.pointer (some ads[i])))) ∧
      List.Sublist (ads.map fun a => MemPlace.cell a.block a.off) ps := by
  induction l with
  | nil =>
    intro gs ps hl _ hv _
    obtain rfl : gs = [] := by cases gs; rfl; cases hl
    exact ⟨[], rfl, (fun i h => by cases h), (by simp)⟩
  | cons x l ih =>
    intro gs ps hl hn hv hrows
    match gs, hl, hn with
    | g0 :: gs, hl, hn =>
      obtain ⟨hg, ht⟩ := hn 0 (by simp) (by simp)
      obtain ⟨g, t, cs0, f0, p0, q0, hg0, ht0, hv0, hd0, hq, e0⟩ := hv
      have hg' : Tryd.prog.globalNamed x.1 = some g0 := hg
      obtain rfl := Option.some.inj (hg'.symm.trans hg0)
      obtain rfl := Option.some.inj ((show (Tryd.prog.globals[g0]?).map (·.type) = some 49 from ht).symm.trans ht0)
      subst e0
      obtain ⟨l0⟩ := cs0
      have ok0 : ∀ u v, l0 = [.iface u v] → Value.okWide Tryd.prog W .any 0 u v := fun u v e => by
        subst e
        exact (hrows g0 0 (by simp [MemPlace.row])).2 u v (by simpa using World.var?_cell hg0 hv0 0)
      obtain ⟨f, he, hft, hfo⟩ := errFields
      obtain ⟨a0, s0, rfl, _, _, _, rfl⟩ := errorString_of_trod Tryd.underlying49 errRow Tryd.underlying131 he hft hfo Tryd.underlying9 errCells strCells hd0 ok0
      obtain ⟨ads, h1, h2, h3⟩ := ih gs q0 (by simpa using hl) (fun i h h' => hn (i + 1) (by simpa using h) (by simpa using h')) hq (fun b off hm => hrows b off (List.mem_append_right _ hm))
      refine ⟨a0 :: ads, by simp [h1], ?_, ?_⟩
      · intro i hi hi'
        match i, hi, hi' with
        | 0, _, _ => simpa using World.var?_cell hg0 hv0 0
        | i + 1, hi, hi' => simpa using h2 i (by simpa using hi) (by simpa using hi')
      · have : MemPlace.row a0 1 = [MemPlace.cell a0.block a0.off] := by simp [MemPlace.row]
        rw [this, List.map_cons]
        refine List.Sublist.trans ?_ (List.Sublist.append (List.sublist_append_right (MemPlace.row ⟨g0, 0, none⟩ _) [MemPlace.cell a0.block a0.off]) h3)
        simp

/-- WHAT A LIST OF SENTINELS GIVES. -/
theorem errs_of_laid {W : World} (l : List (String × List UInt8)) (gs : List Nat) (hl : gs.length = l.length)
    (hn : ∀ (i : Nat) (h : i < l.length) (h' : i < gs.length), Tryd.prog.globalNamed (l[i]).1 = some gs[i] ∧ (Tryd.prog.globals[gs[i]]?).map (·.type) = some 49)
    (h : laidMet Tryd.prog (l.map sentD) W) : ∃ ads, Errs gs ads W := by
  obtain ⟨ps, hv, hnd, hrows⟩ := h
  obtain ⟨ads, h1, h2, h3⟩ := sents_vars l gs ps hl hn hv hrows
  refine ⟨ads, h1, fun i hi => h2 i hi (by omega), fun a ha => ?_, ?_⟩
  · exact (hrows a.block a.off (h3.subset (List.mem_map_of_mem ha))).1
  · have := List.Nodup.sublist h3 hnd
    unfold List.Nodup at *
    rw [List.pairwise_map] at this
    exact this.imp fun hab e => hab (by rw [e])

theorem isTypeOf (v : Value) (w : World) : (Extern.ReflectliteType.typeOf #[.iface 131 v]).run Tryd.prog w = .ok (.iface 113 (.agg #[.pointer (some ⟨15, 131, none⟩)])) w := by kernel_rfl
theorem callTypeOf (v : Value) (w : World) : (callFunc 57 #[.iface 131 v]).run Tryd.prog w = .ok (.value (.iface 113 (.agg #[.pointer (some ⟨15, 131, none⟩)]))) w := by
  rw [run_callFunc_extern (e := Extern.ReflectliteType.typeOf) Tryd.func57 (by kernel_rfl) (by kernel_rfl) (by kernel_rfl) (by kernel_rfl), isTypeOf]; rfl
theorem callComparable (w : World) : (callFunc 98 #[.agg #[.pointer (some ⟨15, 131, none⟩)]]).run Tryd.prog w = .ok (.value (.bool true)) w := by kernel_rfl
theorem isMethodComparable (v : Value) (w : World) : (Go.method 266 113 v "Comparable").run Tryd.prog w = .ok (98, v) w := by kernel_rfl
theorem isComp : (Tryd.prog.info? 131).map (·.comparable) = some true := by kernel_rfl
theorem isSize : (Tryd.prog.info? 155).map (·.size) = some 1 := by kernel_rfl
theorem noIsE (v : Value) (xT : TypeId) (w : World) : (Instr.typeAssert (.iface 131 v) xT 115 true).run Tryd.prog w = .ok (.tuple #[.nilIface, .bool false]) w := run_typeAssert_lacksB Tryd.underlying115 (by kernel_rfl) (by kernel_rfl) v xT w
theorem noUnwrapE (v : Value) (xT : TypeId) (w : World) : (Instr.typeAssert (.iface 131 v) xT 118 true).run Tryd.prog w = .ok (.tuple #[.nilIface, .bool false]) w := run_typeAssert_lacksB Tryd.underlying118 (by kernel_rfl) (by kernel_rfl) v xT w
theorem noUnwrapsE (v : Value) (xT : TypeId) (w : World) : (Instr.typeAssert (.iface 131 v) xT 120 true).run Tryd.prog w = .ok (.tuple #[.nilIface, .bool false]) w := run_typeAssert_lacksB Tryd.underlying120 (by kernel_rfl) (by kernel_rfl) v xT w

/-- errors.Is(x, x), x a sentinel. -/
theorem is_same (a : Addr) (w : World) :
    Calls Tryd.prog 41 #[.iface 131 (.pointer (some a)), .iface 131 (.pointer (some a))] w fun e w' => e = .returned (.bool true) ∧ w = w' := by
  obtain ⟨i, hi, hcmp⟩ := Option.map_eq_some_iff.1 isComp
  obtain ⟨j, hj, hjs⟩ := Option.map_eq_some_iff.1 isSize
  have tT := callTypeOf
  have cT := callComparable
  have mR := isMethodComparable
  have heq := run_eql_iface_ptr_same (P := Tryd.prog) w a Tryd.underlying49 Tryd.underlying131 hi hcmp hj
  go_enter Tryd.func41, Tryd.ntmps41
  go_wp2
  refine wp_loop_rounds 1 ?_
  rw [rounds_succ]
  go_wp2
  go_ret
  exact ⟨rfl, rfl⟩

/-- errors.Is(x, y), two different sentinels. -/
theorem is_other (a b : Addr) (ca cb : Array Value) (ta tb : TypeId) (w : World) (hne : a ≠ b) (ha : w.heap[a.block]? = some (.cells ca ta (0, 0))) (hb : w.heap[b.block]? = some (.cells cb tb (0, 0))) :
    Calls Tryd.prog 41 #[.iface 131 (.pointer (some a)), .iface 131 (.pointer (some b))] w fun e w' => e = .returned (.bool false) ∧ w = w' := by
  obtain ⟨i, hi, hcmp⟩ := Option.map_eq_some_iff.1 isComp
  obtain ⟨j, hj, hjs⟩ := Option.map_eq_some_iff.1 isSize
  have tT := callTypeOf
  have cT := callComparable
  have mR := isMethodComparable
  have nE := noIsE
  have uE := noUnwrapE
  have vE := noUnwrapsE
  have heq := run_eql_iface_ptr_other (P := Tryd.prog) w Tryd.underlying49 Tryd.underlying131 hi hcmp hj (by rw [hjs]; decide) hne ha hb
  go_enter Tryd.func41, Tryd.ntmps41
  go_wp2
  refine wp_loop_rounds 1 ?_
  rw [rounds_succ]
  go_wp2
  go_ret
  exact ⟨rfl, rfl⟩
end Go.Proofs.YtanbeaebdingeaaDoor
