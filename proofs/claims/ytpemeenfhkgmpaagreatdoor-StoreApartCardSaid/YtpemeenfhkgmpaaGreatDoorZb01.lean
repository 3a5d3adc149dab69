/-
  PARTS OF THIS PROOF (own work): Frame, TkW, Err, Num, Kp, StE, SlB, DecD, RiA, TxtR, ErrI, IdsC, LibI, LaidI, LaidE, RefN, JoinQ, SplR, Enc8, CisE.
-/
import Derived.Test.YtpemeenfhkgmpaaGreatDoorRows
import Derived.ProofKit
import Derived.LaidMore
import Derived.OpenShut
import Derived.Stop.Joined
import Derived.Carry
import Derived.OneCell
import Derived.SevenTiedAt
import Derived.Deep.RegionHeld
import Derived.Lib.Hide
import Derived.KernelRfl
import Derived.Test.YtpemeenfhkgmpaaGreatDoorChecked
import Derived.WalkKit
import Derived.WalkSpells
import Derived.LaidEql
import Derived.Stop.Asserts
import Derived.Stop.IfaceNil
import Derived.RowKitTokens
import Derived.LaidLaws
import Derived.Laws.Externs
import Derived.ArgAppend
import Derived.OwnWalk
import Derived.LoopTactic
import Derived.RegionTactic
import Derived.ChangeAlike
import Derived.Laws.EntriesVeiled
import Derived.Deep.Slices
import Derived.Laws.BytesArg
import Derived.Shelf.Bytes.SlSmallAll
import Derived.Laws.AppendOwnNone
import Derived.Deep.RegionHeld3
import Derived.Lib.Strings
import Derived.BigQuiet
import Derived.WalkSmall
import Derived.Laws.OwnMore
import Derived.Test.YtpemeenfhkgmpaaGreatDoorLayI
import Derived.Lib.SmallJoins
import Derived.Lib.AppendIntMem
import Derived.MakeChecks
import Derived.Stop.LaidErr
import Derived.LaidSub
import Derived.Deep.SlicePairs
import Derived.Lib.SlBytesRow
import Derived.Recover
import Derived.Laws.Pointers
namespace Go.Proofs.YtpemeenfhkgmpaaGreatDoor
open Go.ChangeShapes Go.WideShapes Go.ChangeAt Go.RowKit

theorem own : ownKnob Tryz.prog.godebug = none := by kernel_rfl
theorem laidOut : laidOutB Tryz.prog = true := by kernel_rfl

theorem trodAll_below {H : Type} {enc : TypeId × Value → H} {P : Program} (hl : laidOutB P = true) {W W' : World} (hb : Below W.heap.size W W') :
    ∀ (ts : List TypeId) (vs : List Value) (ds : List (DataW H)) (ps : List MemPlace), (∀ t ∈ ts, P.readableRec t = true ∧ t < P.types.size) → (∀ x ∈ ps, x.block < W.heap.size) →
      DataW.TrodAll enc P W 0 (fun _ => true) true ts vs ds ps → DataW.TrodAll enc P W' 0 (fun b => decide (b < W.heap.size)) true ts vs ds ps := by
  intro ts
  induction ts with
  | nil =>
    intro vs ds ps _ _ h
    obtain ⟨rfl, rfl, rfl⟩ := trodAll_nil h
    exact trodAll_mk0
  | cons t ts ih =>
    intro vs ds ps hr hlt h
    obtain ⟨v, vs', d, ds', p, q, rfl, rfl, rfl, h0, h1⟩ := trodAll_cons h
    obtain ⟨hr0, ht0⟩ := hr t (List.mem_cons_self ..)
    exact trodAll_cons_mk (Below.trod hl hr0 ht0 h0 hb (fun x hx => hlt x (List.mem_append_left _ hx)))
      (ih vs' ds' q (fun u hu => hr u (List.mem_cons_of_mem _ hu)) (fun x hx => hlt x (List.mem_append_right _ hx)) h1)

theorem law_post {H : Type} {enc : TypeId × Value → H} {P : Program} (hl : laidOutB P = true) {f : Func} {s : ChangeSpec} {apart : Bool} {W W' : World} {args : Array Value} {ds gs : List (DataW H)} {before : List MemPlace} {tb : TypeId}
    (hW : DataW.Whole enc P f.params.toList s.vars apart W args.toList ds gs before) (hv : s.vars = []) (hspec : s.fn H (ds ++ gs) = { results := [.lit (.bool true)], args := ds })
    (hr : f.resultTypes = #[tb]) (htb : P.underlying tb = some .bool) (hpar : ∀ t ∈ f.params.toList, P.readableRec t = true ∧ t < P.types.size) (hb : Below W.heap.size W W') :
    s.post enc P f apart true false false W args (.bool true) W' := by
  have hW' := hW
  obtain ⟨p, q, hA, hV, hpq, hfz, hnd⟩ := hW
  rw [hv] at hV
  obtain ⟨rfl, rfl⟩ := trodVars_none hV
  refine ⟨ds, [], before, [], p, [], hW', ?_, ?_, ?_, hb.frame _, fun h => by cases h⟩
  · rw [hspec, hr]; exact trodAll_mk1 (shut_bool htb _)
  · rw [hspec]
    refine trodAll_below hl hb _ _ _ _ hpar (fun x hx => ?_) hA
    have := hW'.lt x (by rw [hpq]; exact List.mem_append_left _ hx)
    simpa using this
  · rw [hspec, hv]; rfl

theorem par_ok {P : Program} {ts : List TypeId} (h : (ts.all fun t => P.readableRec t && decide (t < P.types.size)) = true) : ∀ t ∈ ts, P.readableRec t = true ∧ t < P.types.size := by
  intro t ht
  have := List.all_eq_true.1 h t ht
  simpa using this
theorem stand_ok {P : Program} {ps : Array TypeId} (h : (ps.toList.all fun u => !P.wantsStandIn u) = true) : ∀ (j : Nat) t, ps[j]? = some t → P.wantsStandIn t = false := by
  intro j t ht
  have hm : t ∈ ps.toList := by simpa using Array.mem_of_getElem? ht
  simpa using List.all_eq_true.1 h t hm
section
variable {P : Program} {ops : Array Oper} {Q : Exit → Act → World → Prop} {md : Region.Mode} {S : World → Prop} {oi : Oper} {fuel : Nat} {listed : Array Bool} {a : Act} {w : World}
theorem tkW (v : Value) (i : Nat) (y : ∀ w, S w → (execOp a.eval oi).run P w = .ok (.value v) w) (h : wpAnyH P md ops Q S fuel (listed.setIfInBounds i true) (a.put oi.dst v) w) (hi : ops[i]? = some oi := by rfl) (hs : Region.noSelect ops = true := by kernel_rfl) (hf : Region.free md ops listed i = true := by kernel_rfl) (hr : (Region.ready md ops listed).contains i = true := by kernel_rfl)
    (hQ : ∀ c a w, Q (.panic c) (a.put oi.dst v) w → Q (.panic c) a w := by exact fun _ _ _ h => h) (hg : Region.wanted oi (yielded ops a.tmps) = true := by rfl) (hS : S w := by assumption) : wpAnyH P md ops Q S (fuel + 1) listed a w :=
  wpAnyH_take (i := i) hi hs hf hr hQ (Or.inl ⟨hg, y⟩) hS h
theorem skW (i : Nat) (h : wpAnyH P md ops Q S fuel (listed.setIfInBounds i true) (a.put oi.dst undef) w) (hi : ops[i]? = some oi := by rfl) (hs : Region.noSelect ops = true := by kernel_rfl) (hf : Region.free md ops listed i = true := by kernel_rfl) (hr : (Region.ready md ops listed).contains i = true := by kernel_rfl)
    (hQ : ∀ c a w, Q (.panic c) (a.put oi.dst undef) w → Q (.panic c) a w := by exact fun _ _ _ h => h) (hg : Region.wanted oi (yielded ops a.tmps) = false := by rfl) (hS : S w := by assumption) : wpAnyH P md ops Q S (fuel + 1) listed a w :=
  wpAnyH_take (i := i) hi hs hf hr hQ (Or.inr ⟨hg, rfl⟩) hS h
end
open Go.RowKit Go.Extern.Stop Go.Stop Go.Extern Go.ChangeShapes

/-- THE SENTINELS OF THE GLOBALS gs LIE IN w AT THE ADDRESSES ads, each its own, none frozen. -/
structure Errs (gs : List Nat) (ads : List Addr) (w : World) : Prop where
  len : ads.length = gs.length
  cell : ∀ (i : Nat) (h : i < gs.length), w.cell? ⟨gs[i], 0, none⟩ = some (.iface 240 (.pointer (some (ads[i]'(by omega)))))
  row : ∀ a ∈ ads, ∃ c t, w.heap[a.block]? = some (.cells c t (0, 0))
  nodup : ads.Nodup

theorem Errs.old {gs : List Nat} {ads : List Addr} {w : World} (h : Errs gs ads w) : (∀ (i : Nat) (hi : i < gs.length), gs[i] < w.heap.size) ∧ ∀ a ∈ ads, a.block < w.heap.size := by
  constructor
  · intro i hi
    have := h.cell i hi
    rcases Nat.lt_or_ge gs[i] w.heap.size with g | g
    · exact g
    · simp [World.cell?, Array.getElem?_eq_none g] at this
  · intro a ha
    obtain ⟨c, t, hr⟩ := h.row a ha
    rcases Nat.lt_or_ge a.block w.heap.size with g | g
    · exact g
    · simp [Array.getElem?_eq_none g] at hr

theorem Errs.below {gs : List Nat} {ads : List Addr} {w w' : World} (h : Errs gs ads w) (hb : Below w.heap.size w w') : Errs gs ads w' :=
  ⟨h.len, fun i hi => by rw [hb.cell (p := ⟨gs[i], 0, none⟩) (h.old.1 i hi)]; exact h.cell i hi,
   fun a ha => by rw [hb.block _ (h.old.2 a ha)]; exact h.row a ha, h.nodup⟩

theorem errRow : ∀ u, Tryz.prog.typeName? 3 u = some "*errors.errorString" → u = 240 :=
  typeName_ptr_named (nm := "errors.errorString") (by kernel_rfl) (by kernel_rfl) (by decide)
theorem errCells : Tryz.prog.cellsOf 263 = 1 := by kernel_rfl
theorem strCells : Tryz.prog.cellsOf 9 = 1 := by kernel_rfl
theorem errFields : ∃ f : Field, Tryz.prog.underlying 263 = some (.struct #[f]) ∧ f.type = 9 ∧ f.offset = 0 := ⟨_, Tryz.underlying263, rfl, rfl⟩

def sentD (x : String × List UInt8) : String × DataW Unit := (x.1, .iface "*errors.errorString" (.ptr (.agg [.lit (.string x.2)])))

set_option maxRecDepth 100000 in
theorem sents_vars {W : World} (l : List (String × List UInt8)) : ∀ (gs : List Nat) (ps : List MemPlace), gs.length = l.length →
    (∀ (i : Nat) (h : i < l.length) (h' : i < gs.length), Tryz.prog.globalNamed (l[i]).1 = some gs[i] ∧ (Tryz.prog.globals[gs[i]]?).map (·.type) = some 26) →
    DataW.LaidVars Tryz.prog W (l.map sentD) ps →
    (∀ b off, MemPlace.cell b off ∈ ps → (∃ c t, W.heap[b]? = some (.cells c t (0, 0))) ∧ ∀ u v, W.cell? ⟨b, off, none⟩ = some (.iface u v) → Value.okWide Tryz.prog W .any 0 u v) →
    ∃ ads : List Addr, ads.length = gs.length ∧ (∀ (i : Nat) (h : i < gs.length) (h' : i < ads.length), W.cell? ⟨gs[i], 0, none⟩ = some (.iface 240 (.pointer (some ads[i])))) ∧
      List.Sublist (ads.map fun a => MemPlace.cell a.block a.off) ps := by
  induction l with
  | nil =>
    intro gs ps hl _ hv _
    obtain rfl : gs = [] := by cases gs; rfl; cases hl
    exact ⟨[], rfl, (fun i h => by cases h), (by simp)⟩
  | cons x l ih =>
    intro gs ps hl hn hv hrows
    match gs, hl, hn with
    | g0 :: gs, hl, hn =>
      obtain ⟨hg, ht⟩ := hn 0 (by simp) (by simp)
      obtain ⟨g, t, cs0, f0, p0, q0, hg0, ht0, hv0, hd0, hq, e0⟩ := hv
      have hg' : Tryz.prog.globalNamed x.1 = some g0 := hg
      obtain rfl := Option.some.inj (hg'.symm.trans hg0)
      obtain rfl := Option.some.inj ((show (Tryz.prog.globals[g0]?).map (·.type) = some 26 from ht).symm.trans ht0)
      subst e0
      obtain ⟨l0⟩ := cs0
      have ok0 : ∀ u v, l0 = [.iface u v] → Value.okWide Tryz.prog W .any 0 u v := fun u v e => by
        subst e
        exact (hrows g0 0 (by simp [MemPlace.row])).2 u v (by simpa using World.var?_cell hg0 hv0 0)
      obtain ⟨f, he, hft, hfo⟩ := errFields
      obtain ⟨a0, s0, rfl, _, _, _, rfl⟩ := errorString_of_trod Tryz.underlying26 errRow Tryz.underlying240 he hft hfo Tryz.underlying9 errCells strCells hd0 ok0
      obtain ⟨ads, h1, h2, h3⟩ := ih gs q0 (by simpa using hl) (fun i h h' => hn (i + 1) (by simpa using h) (by simpa using h')) hq (fun b off hm => hrows b off (List.mem_append_right _ hm))
      refine ⟨a0 :: ads, by simp [h1], ?_, ?_⟩
      · intro i hi hi'
        match i, hi, hi' with
        | 0, _, _ => simpa using World.var?_cell hg0 hv0 0
        | i + 1, hi, hi' => simpa using h2 i (by simpa using hi) (by simpa using hi')
      · have : MemPlace.row a0 1 = [MemPlace.cell a0.block a0.off] := by simp [MemPlace.row]
        rw [this, List.map_cons]
        refine List.Sublist.trans ?_ (List.Sublist.append (List.sublist_append_right (MemPlace.row ⟨g0, 0, none⟩ _) [MemPlace.cell a0.block a0.off]) h3)
        simp

/-- WHAT A LIST OF SENTINELS GIVES. -/
theorem errs_of_laid {W : World} (l : List (String × List UInt8)) (gs : List Nat) (hl : gs.length = l.length)
    (hn : ∀ (i : Nat) (h : i < l.length) (h' : i < gs.length), Tryz.prog.globalNamed (l[i]).1 = some gs[i] ∧ (Tryz.prog.globals[gs[i]]?).map (·.type) = some 26)
    (h : laidMet Tryz.prog (l.map sentD) W) : ∃ ads, Errs gs ads W := by
  obtain ⟨ps, hv, hnd, hrows⟩ := h
  obtain ⟨ads, h1, h2, h3⟩ := sents_vars l gs ps hl hn hv hrows
  refine ⟨ads, h1, fun i hi => h2 i hi (by omega), fun a ha => ?_, ?_⟩
  · exact (hrows a.block a.off (h3.subset (List.mem_map_of_mem ha))).1
  · have := List.Nodup.sublist h3 hnd
    unfold List.Nodup at *
    rw [List.pairwise_map] at this
    exact this.imp fun hab e => hab (by rw [e])

theorem isTypeOf (v : Value) (w : World) : (Extern.ReflectliteType.typeOf #[.iface 240 v]).run Tryz.prog w = .ok (.iface 172 (.agg #[.pointer (some ⟨18, 240, none⟩)])) w := by kernel_rfl
theorem callTypeOf (v : Value) (w : World) : (callFunc 60 #[.iface 240 v]).run Tryz.prog w = .ok (.value (.iface 172 (.agg #[.pointer (some ⟨18, 240, none⟩)]))) w := by
  rw [run_callFunc_extern (e := Extern.ReflectliteType.typeOf) Tryz.func60 (by kernel_rfl) (by kernel_rfl) (by kernel_rfl) (by kernel_rfl), isTypeOf]; rfl
theorem callComparable (w : World) : (callFunc 206 #[.agg #[.pointer (some ⟨18, 240, none⟩)]]).run Tryz.prog w = .ok (.value (.bool true)) w := by kernel_rfl
theorem isMethodComparable (v : Value) (w : World) : (Go.method 375 172 v "Comparable").run Tryz.prog w = .ok (206, v) w := by kernel_rfl
theorem isComp : (Tryz.prog.info? 240).map (·.comparable) = some true := by kernel_rfl
theorem isSize : (Tryz.prog.info? 263).map (·.size) = some 1 := by kernel_rfl
theorem noIsE (v : Value) (xT : TypeId) (w : World) : (Instr.typeAssert (.iface 240 v) xT 174 true).run Tryz.prog w = .ok (.tuple #[.nilIface, .bool false]) w := run_typeAssert_lacksB Tryz.underlying174 (by kernel_rfl) (by kernel_rfl) v xT w
theorem noUnwrapE (v : Value) (xT : TypeId) (w : World) : (Instr.typeAssert (.iface 240 v) xT 177 true).run Tryz.prog w = .ok (.tuple #[.nilIface, .bool false]) w := run_typeAssert_lacksB Tryz.underlying177 (by kernel_rfl) (by kernel_rfl) v xT w
theorem noUnwrapsE (v : Value) (xT : TypeId) (w : World) : (Instr.typeAssert (.iface 240 v) xT 179 true).run Tryz.prog w = .ok (.tuple #[.nilIface, .bool false]) w := run_typeAssert_lacksB Tryz.underlying179 (by kernel_rfl) (by kernel_rfl) v xT w

/-- errors.Is(x, x), x a sentinel. -/
theorem is_same (a : Addr) (w : World) :
    Calls Tryz.prog 26 #[.iface 240 (.pointer (some a)), .iface 240 (.pointer (some a))] w fun e w' => e = .returned (.bool true) ∧ w = w' := by
  obtain ⟨i, hi, hcmp⟩ := Option.map_eq_some_iff.1 isComp
  obtain ⟨j, hj, hjs⟩ := Option.map_eq_some_iff.1 isSize
  have tT := callTypeOf
  have cT := callComparable
  have mR := isMethodComparable
  have heq := run_eql_iface_ptr_same (P := Tryz.prog) w a Tryz.underlying26 Tryz.underlying240 hi hcmp hj
  go_enter Tryz.func26, Tryz.ntmps26
  go_wp2
  refine wp_loop_rounds 1 ?_
  rw [rounds_succ]
  go_wp2
  go_ret
  exact ⟨rfl, rfl⟩

/-- errors.Is(x, y), two different sentinels. -/
theorem is_other (a b : Addr) (ca cb : Array Value) (ta tb : TypeId) (w : World) (hne : a ≠ b) (ha : w.heap[a.block]? = some (.cells ca ta (0, 0))) (hb : w.heap[b.block]? = some (.cells cb tb (0, 0))) :
    Calls Tryz.prog 26 #[.iface 240 (.pointer (some a)), .iface 240 (.pointer (some b))] w fun e w' => e = .returned (.bool false) ∧ w = w' := by
  obtain ⟨i, hi, hcmp⟩ := Option.map_eq_some_iff.1 isComp
  obtain ⟨j, hj, hjs⟩ := Option.map_eq_some_iff.1 isSize
  have tT := callTypeOf
  have cT := callComparable
  have mR := isMethodComparable
  have nE := noIsE
  have uE := noUnwrapE
  have vE := noUnwrapsE
  have heq := run_eql_iface_ptr_other (P := Tryz.prog) w Tryz.underlying26 Tryz.underlying240 hi hcmp hj (by rw [hjs]; decide) hne ha hb
  go_enter Tryz.func26, Tryz.ntmps26
  go_wp2
  refine wp_loop_rounds 1 ?_
  rw [rounds_succ]
  go_wp2
  go_ret
  exact ⟨rfl, rfl⟩
open Go.RowKit Go.Stop

def gs14 : List Nat := [0, 1, 2, 3, 4, 5, 6, 7, 8, 9, 10, 11, 12, 13]
def text14 : List (String × List UInt8) := [("liaison/api.ErrRange", [108, 105, 97, 105, 115, 111, 110, 58, 32, 114, 97, 110, 103, 101]), ("liaison/api.ErrShort", [108, 105, 97, 105, 115, 111, 110, 58, 32, 115, 104, 111, 114, 116]), ("liaison/api.ErrLong", [108, 105, 97, 105, 115, 111, 110, 58, 32, 108, 111, 110, 103]), ("liaison/api.ErrForm", [108, 105, 97, 105, 115, 111, 110, 58, 32, 102, 111, 114, 109]), ("liaison/api.ErrCheck", [108, 105, 97, 105, 115, 111, 110, 58, 32, 99, 104, 101, 99, 107]), ("liaison/api.ErrFull", [108, 105, 97, 105, 115, 111, 110, 58, 32, 102, 117, 108, 108]), ("liaison/api.ErrPower", [108, 105, 97, 105, 115, 111, 110, 58, 32, 112, 111, 119, 101, 114]), ("liaison/api.ErrNone", [108, 105, 97, 105, 115, 111, 110, 58, 32, 110, 111, 110, 101]), ("liaison/api.ErrState", [108, 105, 97, 105, 115, 111, 110, 58, 32, 115, 116, 97, 116, 101]), ("liaison/api.ErrTwice", [108, 105, 97, 105, 115, 111, 110, 58, 32, 116, 119, 105, 99, 101]), ("liaison/api.ErrDepth", [108, 105, 97, 105, 115, 111, 110, 58, 32, 100, 101, 112, 116, 104]), ("liaison/api.ErrExpired", [108, 105, 97, 105, 115, 111, 110, 58, 32, 101, 120, 112, 105, 114, 101, 100]), ("liaison/api.ErrPanic", [108, 105, 97, 105, 115, 111, 110, 58, 32, 112, 97, 110, 105, 99]), ("liaison/api.ErrProtocol", [108, 105, 97, 105, 115, 111, 110, 58, 32, 112, 114, 111, 116, 111, 99, 111, 108])]

theorem cells_new (w : World) (l : List Addr) (t : TypeId) (j : Nat) (h : j < l.length) :
    (w.alloc (.cells (l.map fun a => Value.iface 240 (.pointer (some a))).toArray t)).cell? ⟨w.heap.size, j, none⟩ = some (.iface 240 (.pointer (some l[j]))) := by
  have e : (w.alloc (.cells (l.map fun a => Value.iface 240 (.pointer (some a))).toArray t)).heap[w.heap.size]? = some (.cells (l.map fun a => Value.iface 240 (.pointer (some a))).toArray t) := (MapKept.heap_alloc w _).1
  unfold World.cell?
  dsimp only
  rw [e]
  simp [h]

theorem num_nil (w : World) :
    Calls Tryz.prog 10 #[.nilIface] w fun e w' => e = .returned (.int .i64 0) ∧ w = w' := by
  go_enter Tryz.func10, Tryz.ntmps10
  go_wp2
  go_ret
  exact ⟨rfl, rfl⟩

theorem num_err (ads : List Addr) (w : World) (E : Errs gs14 ads w) (k : Nat) (hk : k < 14) (hka : k < ads.length) :
    Calls Tryz.prog 10 #[.iface 240 (.pointer (some ads[k]))] w fun e w' => e = .returned (.int .i64 (k + 1)) ∧ Below w.heap.size w w' := by
  obtain ⟨a, hak⟩ : ∃ a, ads[k] = a := ⟨_, rfl⟩
  rw [hak]
  match ads, E, hka, hak with
  | [a0, a1, a2, a3, a4, a5, a6, a7, a8, a9, a10, a11, a12, a13], E, hka, hak =>
    have c0 : w.cell? ⟨0, 0, none⟩ = some (.iface 240 (.pointer (some a0))) := E.cell 0 (by decide)
    have c1 : w.cell? ⟨1, 0, none⟩ = some (.iface 240 (.pointer (some a1))) := E.cell 1 (by decide)
    have c2 : w.cell? ⟨2, 0, none⟩ = some (.iface 240 (.pointer (some a2))) := E.cell 2 (by decide)
    have c3 : w.cell? ⟨3, 0, none⟩ = some (.iface 240 (.pointer (some a3))) := E.cell 3 (by decide)
    have c4 : w.cell? ⟨4, 0, none⟩ = some (.iface 240 (.pointer (some a4))) := E.cell 4 (by decide)
    have c5 : w.cell? ⟨5, 0, none⟩ = some (.iface 240 (.pointer (some a5))) := E.cell 5 (by decide)
    have c6 : w.cell? ⟨6, 0, none⟩ = some (.iface 240 (.pointer (some a6))) := E.cell 6 (by decide)
    have c7 : w.cell? ⟨7, 0, none⟩ = some (.iface 240 (.pointer (some a7))) := E.cell 7 (by decide)
    have c8 : w.cell? ⟨8, 0, none⟩ = some (.iface 240 (.pointer (some a8))) := E.cell 8 (by decide)
    have c9 : w.cell? ⟨9, 0, none⟩ = some (.iface 240 (.pointer (some a9))) := E.cell 9 (by decide)
    have c10 : w.cell? ⟨10, 0, none⟩ = some (.iface 240 (.pointer (some a10))) := E.cell 10 (by decide)
    have c11 : w.cell? ⟨11, 0, none⟩ = some (.iface 240 (.pointer (some a11))) := E.cell 11 (by decide)
    have c12 : w.cell? ⟨12, 0, none⟩ = some (.iface 240 (.pointer (some a12))) := E.cell 12 (by decide)
    have c13 : w.cell? ⟨13, 0, none⟩ = some (.iface 240 (.pointer (some a13))) := E.cell 13 (by decide)
    have HE := Lib.hid E
    have HA := Lib.hid hak
    clear E hak
    go_enter Tryz.func10, Tryz.ntmps10
    go_wp2
    go_loop [25] (fun i => ∃ j : Nat, j ≤ k ∧ i = .int .i64 j) (fun i => 14 - (intOf i).toNat)
    case atStart => exact ⟨0, Nat.zero_le _, rfl⟩
    case round =>
      obtain ⟨j, hj, rfl⟩ := hrel
      have hj14 : j < 14 := by omega
      obtain ⟨x, hx⟩ : ∃ x, ([a0, a1, a2, a3, a4, a5, a6, a7, a8, a9, a10, a11, a12, a13] : List Addr)[j]'(by simpa using hj14) = x := ⟨_, rfl⟩
      have hel : (w.alloc (.cells #[.iface 240 (.pointer (some a0)), .iface 240 (.pointer (some a1)), .iface 240 (.pointer (some a2)), .iface 240 (.pointer (some a3)), .iface 240 (.pointer (some a4)), .iface 240 (.pointer (some a5)), .iface 240 (.pointer (some a6)), .iface 240 (.pointer (some a7)), .iface 240 (.pointer (some a8)), .iface 240 (.pointer (some a9)), .iface 240 (.pointer (some a10)), .iface 240 (.pointer (some a11)), .iface 240 (.pointer (some a12)), .iface 240 (.pointer (some a13))] 26)).cell? ⟨w.heap.size, j, none⟩ = some (.iface 240 (.pointer (some x))) := by
        rw [← hx]; exact cells_new w [a0, a1, a2, a3, a4, a5, a6, a7, a8, a9, a10, a11, a12, a13] 26 j (by simpa using hj14)
      by_cases hjk : j = k
      · subst hjk
        obtain rfl : x = a := hx.symm.trans HA.out
        have HX := Lib.hid hx
        clear hx
        go_wp2_with (go_at_call 26; (with_reducible refine (is_same x _).mono ?_); rintro e w' ⟨rfl, rfl⟩)
        go_ret
        exact ⟨rfl, (Below.refl _ _).alloc (Nat.le_refl _) _⟩
      · have hne : a ≠ x := by
          rw [← HA.out, ← hx]
          intro e
          have hnd := List.pairwise_iff_getElem.1 HE.out.nodup
          rcases Nat.lt_or_gt_of_ne hjk with g | g
          · exact hnd j k _ _ g e.symm
          · exact hnd k j _ _ g e
        have hma : a ∈ ([a0, a1, a2, a3, a4, a5, a6, a7, a8, a9, a10, a11, a12, a13] : List Addr) := HA.out ▸ List.getElem_mem _
        have hmx : x ∈ ([a0, a1, a2, a3, a4, a5, a6, a7, a8, a9, a10, a11, a12, a13] : List Addr) := hx ▸ List.getElem_mem _
        obtain ⟨ca, ta, ra⟩ := (HE.out.below ((Below.refl w.heap.size w).alloc (Nat.le_refl _) (.cells #[.iface 240 (.pointer (some a0)), .iface 240 (.pointer (some a1)), .iface 240 (.pointer (some a2)), .iface 240 (.pointer (some a3)), .iface 240 (.pointer (some a4)), .iface 240 (.pointer (some a5)), .iface 240 (.pointer (some a6)), .iface 240 (.pointer (some a7)), .iface 240 (.pointer (some a8)), .iface 240 (.pointer (some a9)), .iface 240 (.pointer (some a10)), .iface 240 (.pointer (some a11)), .iface 240 (.pointer (some a12)), .iface 240 (.pointer (some a13))] 26))).row a hma
        obtain ⟨cx, tx, rx⟩ := (HE.out.below ((Below.refl w.heap.size w).alloc (Nat.le_refl _) (.cells #[.iface 240 (.pointer (some a0)), .iface 240 (.pointer (some a1)), .iface 240 (.pointer (some a2)), .iface 240 (.pointer (some a3)), .iface 240 (.pointer (some a4)), .iface 240 (.pointer (some a5)), .iface 240 (.pointer (some a6)), .iface 240 (.pointer (some a7)), .iface 240 (.pointer (some a8)), .iface 240 (.pointer (some a9)), .iface 240 (.pointer (some a10)), .iface 240 (.pointer (some a11)), .iface 240 (.pointer (some a12)), .iface 240 (.pointer (some a13))] 26))).row x hmx
        have RA := Lib.hid ra
        have RX := Lib.hid rx
        have HX := Lib.hid hx
        have HN := Lib.hid hne
        clear ra rx hx hne hma hmx
        go_wp2_with (go_at_call 26; (with_reducible refine (is_other a x ca cx ta tx _ HN.out RA.out RX.out).mono ?_); rintro e w' ⟨rfl, rfl⟩)
        go_round
        case rel => exact ⟨j + 1, by omega, by go_num⟩
        case measure => simp [intOf]; omega
open Go.RowKit

/-- OLD MEMORY IS AS IT WAS. -/
def Kp (w w' : World) : Prop := Below w.heap.size w w'
theorem Kp.refl (w : World) : Kp w w := Below.refl _ _
theorem Kp.trans {a b c : World} (h : Kp a b) (k : Kp b c) : Kp a c := Below.trans h (Below.mono k h.size)
theorem Kp.drew {a b : World} (h : Kp a b) : Kp a b.drew := Below.drew h
theorem kp_alloc (w : World) (o : Obj) : Kp w (w.alloc o) := (Below.refl _ _).alloc (Nat.le_refl _) _
theorem kp_size {w w' : World} (h : Kp w w') : w.heap.size ≤ w'.heap.size := Below.size h

theorem old_of_cell {w : World} {q : Addr} {v : Value} (hq : w.cell? q = some v) : q.block < w.heap.size := by
  rcases Nat.lt_or_ge q.block w.heap.size with g | g
  · exact g
  · simp [World.cell?, Array.getElem?_eq_none g] at hq
theorem old_of_row {w : World} {b : Nat} {o : Obj} (h : w.heap[b]? = some o) : b < w.heap.size := by
  rcases Nat.lt_or_ge b w.heap.size with g | g
  · exact g
  · simp [Array.getElem?_eq_none g] at h
theorem kp_cell {w w' : World} {q : Addr} {v : Value} (h : Kp w w') (hc : w.cell? q = some v) : w'.cell? q = some v := by
  rw [Below.cell h (old_of_cell hc)]; exact hc
theorem kp_row {w w' : World} {b : Nat} {o : Obj} (h : Kp w w') (hr : w.heap[b]? = some o) : w'.heap[b]? = some o := by
  rw [Below.block h b (old_of_row hr)]; exact hr

theorem box_cell (w : World) (u : Value) (t : TypeId) : (w.alloc (.cells #[u] t)).cell? ⟨w.heap.size, 0, none⟩ = some u := by
  have e : (w.alloc (.cells #[u] t)).heap[w.heap.size]? = some (.cells #[u] t) := (MapKept.heap_alloc w _).1
  unfold World.cell?
  dsimp only
  rw [e]
  rfl
theorem own_kp {w w' : World} {base : Nat} {e : TypeId} {size n : Nat} {v : Value} {xs : List Value} (h : w.ownsRow base e size v n xs) (hk : Kp w w') : w'.ownsRow base e size v n xs := by
  obtain ⟨h1, h2⟩ := h
  refine ⟨h1, ?_⟩
  rcases h2 with h2 | ⟨g, cap, cur, hv, hg, hh, r⟩
  · exact Or.inl h2
  · exact Or.inr ⟨g, cap, cur, hv, hg, kp_row hk hh, r⟩
open Go.RowKit

abbrev snt (a : Addr) : Value := .iface 240 (.pointer (some a))
abbrev St (ads : List Addr) (w : World) : Prop := Errs gs14 ads w
open Go.RowKit Go.ChangeShapes Go.WideShapes

/-- THE SLICE VALUE v READS AS THE BYTES bs. -/
def SlB (v : Value) (bs : List Int) (w : World) : Prop :=
  (bs = [] ∧ ∃ (a : Option Addr) (cap : Nat), v = .slice a 0 cap ∧ (a = none → cap = 0)) ∨
  ∃ b off cap, 0 < bs.length ∧ v = .slice (some ⟨b, off, none⟩) bs.length cap ∧ ∀ j, j < bs.length → w.cell? ⟨b, off + j, none⟩ = some (.int .u8 (bs.getD j 0))
/-- EACH IS A BYTE. -/
def InB (bs : List Int) : Prop := ∀ x ∈ bs, 0 ≤ x ∧ x < 256

open Go.RowKit Go.ChangeShapes Go.WideShapes

theorem str_append (xs ys : List Int) : strOfNums xs ++ strOfNums ys = strOfNums (xs ++ ys) := by
  apply ByteArray.ext
  apply Array.ext'
  rw [ByteArray.data_append, Array.toList_append, strOfNums_data, strOfNums_data, strOfNums_data, List.map_append]
/-- a number's digits, k at most -/
def decF : Nat → Nat → List Int
  | 0, _ => []
  | k + 1, n => if n < 10 then [((48 + n : Nat) : Int)] else decF k (n / 10) ++ [((48 + n % 10 : Nat) : Int)]
theorem decF_len : ∀ k n, (decF k n).length ≤ k
  | 0, _ => Nat.le_refl _
  | k + 1, n => by
    unfold decF
    split
    · simp
    · have := decF_len k (n / 10)
      simp; omega
/-- A NUMBER's DIGITS. -/
def dec (n : Nat) : List Int := decF 8 n

open Go.RowKit Go.ChangeShapes Go.WideShapes

def rightA (n s : Int) : Bool := decide (0 ≤ n ∧ n < 4 ∧ 0 ≤ s ∧ s < 1000000)
set_option maxRecDepth 20000 in
theorem refRight_any (nn si : Int) (w : World) :
    Calls Tryz.prog 73 #[.agg #[.int .i64 nn, .int .i64 si]] w fun e w' => e = .returned (.bool (rightA nn si)) ∧ Kp w w' := by
  go_enter Tryz.func73, Tryz.ntmps73
  go_wp2
  all_goals (go_ret; refine ⟨?_, kp_alloc _ _⟩; simp [rightA, *] <;> (intros; omega))
open Go.RowKit Go.ChangeShapes Go.WideShapes

theorem dec_len (n : Nat) : (dec n).length ≤ 8 := decF_len 8 n
def actT (n s : Nat) : List Int := (([97] ++ dec n) ++ [46]) ++ dec s
open Go.RowKit

/-- the error of a number (0: none) -/
def errI (ads : List Addr) (k : Int) : Value := if k = 0 then .nilIface else .iface 240 (.pointer (ads[(k - 1).toNat]?))
theorem errI_nil (ads : List Addr) : errI ads 0 = .nilIface := rfl
theorem errI_at (ads : List Addr) (k : Nat) (hk : k < ads.length) : errI ads ((k : Int) + 1) = snt ads[k] := by
  unfold errI
  rw [if_neg (by omega), show ((k : Int) + 1 - 1).toNat = k by omega, List.getElem?_eq_getElem hk]
/-- Num of such an error -/
theorem num_errN (ads : List Addr) (w : World) (V : St ads w) (k : Int) (h0 : 0 ≤ k) (h1 : k ≤ 14) :
    Calls Tryz.prog 10 #[errI ads k] w fun e w' => e = .returned (.int .i64 k) ∧ Kp w w' := by
  have h14 : ads.length = 14 := V.len
  by_cases hk : k = 0
  · subst hk
    refine (num_nil w).mono ?_
    rintro e w' ⟨h, rfl⟩
    exact ⟨h, Kp.refl _⟩
  · obtain ⟨j, hj⟩ : ∃ j : Nat, k = (j : Int) + 1 := ⟨(k - 1).toNat, by omega⟩
    subst hj
    rw [errI_at ads j (by omega)]
    exact num_err ads w V j (by omega) (by omega)
open Go.RowKit Go.ChangeShapes Go.WideShapes

/-- a text, or ErrRange -/
def textR (ads : List Addr) : Option (List Int) → Value
  | some t => .tuple #[.string (strOfNums t), .nilIface]
  | none => .tuple #[.string ⟨#[]⟩, errI ads 1]
def actO (n s : Int) : Option (List Int) := if rightA n s = true then some (actT n.toNat s.toNat) else none
open Go.RowKit

/-- strconv's table of powers lies there. -/
abbrev Tab (w : World) : Prop := Lib.TabIs Tryz.prog w "internal/strconv.uint64pow10" .u64 Lib.pow10Tab
theorem Tab.kp {w w' : World} (h : Tab w) (hk : Kp w w') : Tab w' :=
  Joins.tab_stays (g := 15) (by kernel_rfl) h hk (Nat.le_refl _)

/-- a byte of a number -/
def toB (z : Int) : UInt8 := UInt8.ofNat z.toNat
theorem str_mk (S : List Int) : strOfNums S = ⟨(S.map toB).toArray⟩ := rfl
theorem decF_lib : ∀ k n, n < 10 ^ k → 0 < k → (decF k n).map toB = Lib.decDigits n
  | 0, _, _, h => absurd h (by decide)
  | k + 1, n, h, _ => by
    unfold decF
    rw [Lib.decDigits]
    by_cases g : n < 10
    · rw [if_pos g, dif_pos g]
      simp only [List.map_cons, List.map_nil, toB, Int.toNat_natCast]
    · rw [if_neg g, dif_neg g]
      have hk : 0 < k := by
        rcases Nat.eq_zero_or_pos k with rfl | q
        · simp at h; omega
        · exact q
      rw [List.map_append, decF_lib k (n / 10) (by rw [Nat.pow_succ] at h; omega) hk]
      simp only [List.map_cons, List.map_nil, toB, Int.toNat_natCast]

theorem itoa_any (n : Nat) (hn : n < 100000000) (nn : Int) (hnn : (n : Int) = nn) (w : World) (T : Tab w) :
    Calls Tryz.prog 174 #[.int .i64 nn] w fun e w' => e = .returned (.string (strOfNums (dec n))) ∧ Kp w w' := by
  subst hnn
  have h : Calls Tryz.prog 174 #[.int .i64 n] w _ := Any.strconv_Itoa Tryz.laysM171 n (by omega) (by omega) w T
  refine h.mono ?_
  rintro e w' ⟨rfl, k, os, rfl⟩
  refine ⟨?_, Lib.below_grow _ _ (Nat.le_refl _) _ _⟩
  have e1 : Lib.itoa (n : Int) = (dec n).map toB := by
    unfold Lib.itoa
    rw [if_neg (by omega), Int.toNat_natCast, dec, decF_lib 8 n (by omega) (by decide)]
  rw [e1, str_mk]

open Go.RowKit

def powD : String × DataW Unit := ("internal/strconv.uint64pow10", Lib.tabData .u64 Lib.pow10Tab)
theorem tab_of_laid {W : World} (h : laidMet Tryz.prog [powD] W) : Tab W := by
  obtain ⟨n, e, t, hty, ht, he, hce, hct⟩ : ∃ n e t, (Tryz.prog.globals[15]?).map (·.type) = some t ∧ Tryz.prog.underlying t = some (.array n e) ∧ Tryz.prog.underlying e = some (.int .u64) ∧ Tryz.prog.cellsOf e = 1 ∧ Tryz.prog.cellsOf t = n :=
    ⟨20, 107, _, rfl, by kernel_rfl, by kernel_rfl, by kernel_rfl, by kernel_rfl⟩
  have hg : Tryz.prog.globalNamed "internal/strconv.uint64pow10" = some 15 := by kernel_rfl
  exact Lib.tabIs_of_head hg hty ht he hce hct h
/-- is it one of package api's? -/
def apiX (x : String × DataW Unit) : Bool := text14.any fun y => y.1 == x.1
theorem st_tab_of {W : World} {l : List (String × DataW Unit)} (h1 : l.filter apiX = text14.map sentD) (h2 : l.filter (fun x => x.1 == "internal/strconv.uint64pow10") = [powD]) (hp : (l.all fun x => x.2.handleName?.isNone) = true) (h : laidMetH Tryz.prog l W) : (∃ ads, St ads W) ∧ Tab W := by
  rw [MakeChecks.laidMetH_plain _ _ _ hp] at h
  have g1 := h.filter apiX
  have g2 := h.filter fun x => x.1 == "internal/strconv.uint64pow10"
  rw [h1] at g1
  rw [h2] at g2
  exact ⟨errs_of_laid text14 gs14 rfl (by
    intro i hi hi'
    have hi14 : i < 14 := hi
    match i, hi14 with
    | 0, _ | 1, _ | 2, _ | 3, _ | 4, _ | 5, _ | 6, _ | 7, _ | 8, _ | 9, _ | 10, _ | 11, _ | 12, _ | 13, _ => exact ⟨by kernel_rfl, by kernel_rfl⟩) g1, tab_of_laid g2⟩
open Go.RowKit

/-- THE ERRORS S (counted from 0) LIE IN w. -/
structure EP (S : List Nat) (ads : List Addr) (w : World) : Prop where
  cell : ∀ i ∈ S, w.cell? ⟨gs14.getD i 0, 0, none⟩ = some (errI ads ((i : Int) + 1))
theorem EP.kp {S : List Nat} {ads : List Addr} {w w' : World} (E : EP S ads w) (hk : Kp w w') : EP S ads w' := ⟨fun i hi => kp_cell hk (E.cell i hi)⟩
theorem EP.sub {S T : List Nat} {ads : List Addr} {w : World} (E : EP S ads w) (h : ∀ i ∈ T, i ∈ S) : EP T ads w := ⟨fun i hi => E.cell i (h i hi)⟩
theorem ep_of_st {S : List Nat} {ads : List Addr} {w : World} (V : St ads w) (h : ∀ i ∈ S, i < 14) : EP S ads w := ⟨fun i hi => by
  have h14 : ads.length = 14 := V.len
  have hi14 := h i hi
  have c := V.cell i (show i < gs14.length by exact hi14)
  rw [errI_at ads i (by omega)]
  rw [← c]
  congr 2
  simp [List.getD, List.getElem?_eq_getElem (show i < gs14.length by exact hi14)]⟩
open Go.RowKit Go.ChangeShapes Go.WideShapes

/-- bytes as a number, the high one first -/
def beNum (bs : List Int) : Int := bs.foldl (fun u c => 256 * u + c) 0
/-- WHAT ToNumber ANSWERS: the number, the error's number. -/
def toNum (bs : List Int) : Int × Int :=
  if 0 < bs.length ∧ bs.getD 0 0 = 0 then (0, 4) else if 8 < bs.length then (0, 1) else if 9223372036854775807 < beNum bs then (0, 1) else (beNum bs, 0)

/-- the bytes of a number, the high one first; k: as many as may be needed -/
def beF : Nat → Nat → List Int
  | 0, _ => []
  | k + 1, n => if n = 0 then [] else beF k (n / 256) ++ [((n % 256 : Nat) : Int)]
open Go.RowKit Go.ChangeShapes Go.WideShapes

/-- the bytes of one field, of a row -/
def fieldB (f : Int × List Int) : List Int := [f.1, 0, f.2.length] ++ f.2
def joinB (fs : List (Int × List Int)) : List Int := fs.flatMap fieldB
open Go.RowKit Go.ChangeShapes Go.WideShapes

/-- WHAT THE BYTES SAY: the error's number, the fields; from the bytes bs on, the tag before: last, fields before: k. -/
def splitQ : Nat → List Int → Int → Nat → Int × List (Int × List Int)
  | 0, _, _, _ => (4, [])
  | f + 1, bs, last, k =>
    if bs.length = 0 then (0, [])
    else if bs.length < 3 then (2, [])
    else if bs.getD 0 0 ≤ last ∨ 200 < bs.getD 1 0 * 256 + bs.getD 2 0 ∨ k = 16 then (4, [])
    else if (bs.length : Int) - 3 < bs.getD 1 0 * 256 + bs.getD 2 0 then (2, [])
    else
      let r := splitQ f (bs.drop (3 + (bs.getD 1 0 * 256 + bs.getD 2 0).toNat)) (bs.getD 0 0) (k + 1)
      (r.1, (bs.getD 0 0, (bs.drop 3).take (bs.getD 1 0 * 256 + bs.getD 2 0).toNat) :: r.2)

open Go.RowKit Go.ChangeShapes Go.WideShapes

/-- the fields of numbers, from tag i on -/
def rowF : Int → List Int → List (Int × List Int)
  | _, [] => []
  | i, n :: ns => if n = 0 then rowF (i + 1) ns else (i, beF 8 n.toNat) :: rowF (i + 1) ns
open Go.RowKit Go.Extern.Stop Go.Stop Go.Extern

theorem isErrorE (v : Value) (w : World) : (Instr.typeAssert (.iface 240 v) 20 26 true).run Tryz.prog w = .ok (.tuple #[.iface 240 v, .bool true]) w := run_typeAssert_hasB Tryz.underlying26 (by kernel_rfl) v _ w

theorem is_door (w : World) :
    CallsD Tryz.prog 162 #[] .returning w fun e u' w' => e = .returned (.tuple #[]) ∧ u' = .returning ∧ w' = w := by
  refine callsD_of_wpS Tryz.func162 rfl fun c₀ cs hu => ?_
  apply wpS_region
  cases c₀
  simp_all [wpOpsS, go_sem, recoverD, Tryz.ntmps162, bodyPostS, results, Tryz.results162]

theorem cis_of {v t : Value} {b : Bool} {w : World} (h : Calls Tryz.prog 26 #[v, t] w fun e w' => e = .returned (.bool b) ∧ w = w') :
    Calls Tryz.prog 150 #[v, t] w fun e w' => e = .returned (.bool b) ∧ w = w' := by
  go_enter_defers Tryz.func150, Tryz.ntmps150
  go_wp2_with (go_at_call 26; (with_reducible refine h.mono ?_); rintro e w' ⟨rfl, rfl⟩)
  refine leaves_cons (f := 162) (args := #[]) (by simp) (by simp [go_sem]) ?_
  refine (is_door _).mono ?_
  rintro e u' w'' ⟨rfl, rfl, rfl⟩
  simp [Leaves, settle, results, Tryz.results150, go_sem]

end Go.Proofs.YtpemeenfhkgmpaaGreatDoor
