/- Parts of this proof (own work). -/
import Derived.Test.YtpemeenfhkgmpaaGreatDoorRows
import Derived.ProofKit
import Derived.LaidMore
import Derived.OpenShut
import Derived.Stop.Joined
import Derived.Carry
import Derived.OneCell
import Derived.SevenTiedAt
import Derived.Deep.RegionHeld
import Derived.Lib.Hide
import Derived.MapKept
import Derived.Below
import Derived.KernelRfl
import Derived.Test.YtpemeenfhkgmpaaGreatDoorChecked
import Derived.WalkKit
import Derived.WalkSpells
import Derived.LaidEql
import Derived.Stop.Asserts
import Derived.Stop.IfaceNil
import Derived.RowKitTokens
import Derived.LaidLaws
import Derived.Laws.Externs
import Derived.ArgAppend
import Derived.OwnWalk
import Derived.LoopTactic
import Derived.RegionTactic
import Derived.ChangeAlike
import Derived.Laws.EntriesVeiled
import Derived.Deep.Slices
import Derived.Laws.BytesArg
import Derived.Shelf.Bytes.SlSmallAll
import Derived.Laws.AppendOwnNone
import Derived.Deep.RegionHeld3
import Derived.Lib.Strings
import Derived.BigQuiet
import Derived.WalkSmall
import Derived.Laws.OwnMore
import Derived.Test.YtpemeenfhkgmpaaGreatDoorLayI
import Derived.Lib.SmallJoins
import Derived.Lib.AppendIntMem
set_option maxRecDepth 100000
set_option maxHeartbeats 40000000
namespace Go.Proofs.YtpemeenfhkgmpaaGreatDoor
open Go.ChangeShapes Go.WideShapes Go.ChangeAt Go.RowKit
theorem own : ownKnob Tryz.prog.godebug = none := by kernel_rfl
theorem laidOut : laidOutB Tryz.prog = true := by kernel_rfl
theorem trodAll_below {H : Type} {enc : TypeId × Value → H} {P : Program} (hl : laidOutB P = true) {W W' : World} (hb : Below W.heap.size W W') :
  ∀ (ts : List TypeId) (vs : List Value) (ds : List (DataW H)) (ps : List MemPlace), (∀ t ∈ ts, P.readableRec t = true ∧ t < P.types.size) → (∀ x ∈ ps, x.block < W.heap.size) →
   DataW.TrodAll enc P W 0 (fun _ => true) true ts vs ds ps → DataW.TrodAll enc P W' 0 (fun b => decide (b < W.heap.size)) true ts vs ds ps := by
 intro ts
 induction ts with
 | nil =>
  intro vs ds ps _ _ h; obtain ⟨rfl, rfl, rfl⟩ := trodAll_nil h; exact trodAll_mk0
 | cons t ts ih =>
  intro vs ds ps hr hlt h; obtain ⟨v, vs', d, ds', p, q, rfl, rfl, rfl, h0, h1⟩ := trodAll_cons h; obtain ⟨hr0, ht0⟩ := hr t (List.mem_cons_self ..); exact trodAll_cons_mk (Below.trod hl hr0 ht0 h0 hb (fun x hx => hlt x (List.mem_append_left _ hx)))
   (ih vs' ds' q (fun u hu => hr u (List.mem_cons_of_mem _ hu)) (fun x hx => hlt x (List.mem_append_right _ hx)) h1)
theorem law_post {H : Type} {enc : TypeId × Value → H} {P : Program} (hl : laidOutB P = true) {f : Func} {s : ChangeSpec} {apart : Bool} {W W' : World} {args : Array Value} {ds gs : List (DataW H)} {before : List MemPlace} {tb : TypeId}
  (hW : DataW.Whole enc P f.params.toList s.vars apart W args.toList ds gs before) (hv : s.vars = []) (hspec : s.fn H (ds ++ gs) = { results := [.lit (.bool true)], args := ds })
  (hr : f.resultTypes = #[tb]) (htb : P.underlying tb = some .bool) (hpar : ∀ t ∈ f.params.toList, P.readableRec t = true ∧ t < P.types.size) (hb : Below W.heap.size W W') :
  s.post enc P f apart true false false W args (.bool true) W' := by
 have hW' := hW; obtain ⟨p, q, hA, hV, hpq, hfz, hnd⟩ := hW; rw [hv] at hV; obtain ⟨rfl, rfl⟩ := trodVars_none hV; refine ⟨ds, [], before, [], p, [], hW', ?_, ?_, ?_, hb.frame _, fun h => by cases h⟩
 ·rw [hspec, hr]; exact trodAll_mk1 (shut_bool htb _)
 ·rw [hspec]; refine trodAll_below hl hb _ _ _ _ hpar (fun x hx => ?_) hA
  have := hW'.lt x (by rw [hpq]; exact List.mem_append_left _ hx)
  simpa using this
 ·rw [hspec, hv]; rfl
theorem par_ok {P : Program} {ts : List TypeId} (h : (ts.all fun t => P.readableRec t && decide (t < P.types.size)) = true) : ∀ t ∈ ts, P.readableRec t = true ∧ t < P.types.size := by
 intro t ht; have := List.all_eq_true.1 h t ht
 simpa using this
theorem stand_ok {P : Program} {ps : Array TypeId} (h : (ps.toList.all fun u => !P.wantsStandIn u) = true) : ∀ (j : Nat) t, ps[j]? = some t → P.wantsStandIn t = false := by
 intro j t ht; have hm : t ∈ ps.toList := by simpa using Array.mem_of_getElem? ht
 simpa using List.all_eq_true.1 h t hm
section
variable {P : Program} {ops : Array Oper} {Q : Exit → Act → World → Prop} {md : Region.Mode} {S : World → Prop} {oi : Oper} {fuel : Nat} {listed : Array Bool} {a : Act} {w : World}
theorem tkW (v : Value) (i : Nat) (y : ∀ w, S w → (execOp a.eval oi).run P w = .ok (.value v) w) (h : wpAnyH P md ops Q S fuel (listed.setIfInBounds i true) (a.put oi.dst v) w) (hi : ops[i]? = some oi := by rfl) (hs : Region.noSelect ops = true := by kernel_rfl) (hf : Region.free md ops listed i = true := by kernel_rfl) (hr : (Region.ready md ops listed).contains i = true := by kernel_rfl)
    (hQ : ∀ c a w, Q (.panic c) (a.put oi.dst v) w → Q (.panic c) a w := by exact fun _ _ _ h => h) (hg : Region.wanted oi (yielded ops a.tmps) = true := by rfl) (hS : S w := by assumption) : wpAnyH P md ops Q S (fuel + 1) listed a w :=
  wpAnyH_take (i := i) hi hs hf hr hQ (Or.inl ⟨hg, y⟩) hS h
theorem skW (i : Nat) (h : wpAnyH P md ops Q S fuel (listed.setIfInBounds i true) (a.put oi.dst undef) w) (hi : ops[i]? = some oi := by rfl) (hs : Region.noSelect ops = true := by kernel_rfl) (hf : Region.free md ops listed i = true := by kernel_rfl) (hr : (Region.ready md ops listed).contains i = true := by kernel_rfl)
    (hQ : ∀ c a w, Q (.panic c) (a.put oi.dst undef) w → Q (.panic c) a w := by exact fun _ _ _ h => h) (hg : Region.wanted oi (yielded ops a.tmps) = false := by rfl) (hS : S w := by assumption) : wpAnyH P md ops Q S (fuel + 1) listed a w :=
  wpAnyH_take (i := i) hi hs hf hr hQ (Or.inr ⟨hg, rfl⟩) hS h
end
theorem rdW {P : Program} {ops : Array Oper} {Q : Exit → Act → World → Prop} {md : Region.Mode} {S : World → Prop} {o : Oper} {fuel : Nat} {listed : Array Bool} {a : Act} {w : World} (i : Nat) (h : ∀ K : Act → World → Prop, Shut (∀ a w, S w → (S w → wpAnyH P md ops Q S fuel (listed.setIfInBounds i true) a w) → K a w) → if Region.wanted o (yielded ops a.tmps) = true then Oper.wp P o a w K Q else K (a.put o.dst undef) w) (ho : ops[i]? = some o := by rfl) (hr : Region.ready md ops listed = [i] := by kernel_rfl) : wpAnyH P md ops Q S (fuel + 1) listed a w :=
  wpAnyH_ready (rs := [i]) hr (by simp) (AllReadyH.cons ho h AllReadyH.nil)
instance : Coe Int Value := ⟨fun x => .int .i64 x⟩
theorem mH (w : World) (o : Obj) : (w.alloc o).heap[w.heap.size]? = some o := (MapKept.heap_alloc w o).1
theorem bS (w : World) (p : Addr) (v : Value) (k : Nat) (h : k ≠ p.block) : (w.setCell p v).heap[k]? = w.heap[k]? := Below.heap_setCell w p v k h
open RowKit in
theorem hD {p : Prop} (h : p) : Hid p := h
theorem dF {p : Prop} [inst : Decidable p] (h : ¬p) : decide p = false := decide_eq_false h
theorem dT {p : Prop} [inst : Decidable p] (h : p) : decide p = true := decide_eq_true h
open Go.RowKit Go.Extern.Stop Go.Stop Go.Extern Go.ChangeShapes
structure Errs (gs : List Nat) (ads : List Addr) (w : World) : Prop where
 len : ads.length = gs.length
 cell : ∀ (i : Nat) (h : i < gs.length), w.cell? ⟨gs[i], 0, none⟩ = some (.iface 240 (.pointer (some (ads[i]'(by omega)))))
 row : ∀ a ∈ ads, ∃ c t, w.heap[a.block]? = some (.cells c t (0, 0))
 nodup : ads.Nodup
theorem Errs.old {gs : List Nat} {ads : List Addr} {w : World} (h : Errs gs ads w) : (∀ (i : Nat) (hi : i < gs.length), gs[i] < w.heap.size) ∧ ∀ a ∈ ads, a.block < w.heap.size := by
 constructor
 ·intro i hi; have := h.cell i hi
  rcases Nat.lt_or_ge gs[i] w.heap.size with g | g
  ·exact g
  ·simp [World.cell?, Array.getElem?_eq_none g] at this
 ·intro a ha; obtain ⟨c, t, hr⟩ := h.row a ha
  rcases Nat.lt_or_ge a.block w.heap.size with g | g
  ·exact g
  ·simp [Array.getElem?_eq_none g] at hr
theorem Errs.below {gs : List Nat} {ads : List Addr} {w w' : World} (h : Errs gs ads w) (hb : Below w.heap.size w w') : Errs gs ads w' :=
 ⟨h.len, fun i hi => by rw [hb.cell (p := ⟨gs[i], 0, none⟩) (h.old.1 i hi)]; exact h.cell i hi,
  fun a ha => by rw [hb.block _ (h.old.2 a ha)]; exact h.row a ha, h.nodup⟩
theorem errRow : ∀ u, Tryz.prog.typeName? 3 u = some "*errors.errorString" → u = 240 :=
 typeName_ptr_named (nm := "errors.errorString") (by kernel_rfl) (by kernel_rfl) (by decide)
theorem errCells : Tryz.prog.cellsOf 263 = 1 := by kernel_rfl
theorem strCells : Tryz.prog.cellsOf 9 = 1 := by kernel_rfl
theorem errFields : ∃ f : Field, Tryz.prog.underlying 263 = some (.struct #[f]) ∧ f.type = 9 ∧ f.offset = 0 := ⟨_, Tryz.underlying263, rfl, rfl⟩
def sentD (x : String × List UInt8) : String × DataW Unit := (x.1, .iface "*errors.errorString" (.ptr (.agg [.lit (.string x.2)])))
theorem sents_vars {W : World} (l : List (String × List UInt8)) : ∀ (gs : List Nat) (ps : List MemPlace), gs.length = l.length →
  (∀ (i : Nat) (h : i < l.length) (h' : i < gs.length), Tryz.prog.globalNamed (l[i]).1 = some gs[i] ∧ (Tryz.prog.globals[gs[i]]?).map (·.type) = some 26) →
  DataW.LaidVars Tryz.prog W (l.map sentD) ps →
  (∀ b off, MemPlace.cell b off ∈ ps → (∃ c t, W.heap[b]? = some (.cells c t (0, 0))) ∧ ∀ u v, W.cell? ⟨b, off, none⟩ = some (.iface u v) → Value.okWide Tryz.prog W .any 0 u v) →
  ∃ ads : List Addr, ads.length = gs.length ∧ (∀ (i : Nat) (h : i < gs.length) (h' : i < ads.length), W.cell? ⟨gs[i], 0, none⟩ = some (.iface 240 (.pointer (some ads[i])))) ∧
   List.Sublist (ads.map fun a => MemPlace.cell a.block a.off) ps := by
 induction l with
 | nil =>
  intro gs ps hl _ hv _; obtain rfl : gs = [] := by cases gs; rfl; cases hl
  exact ⟨[], rfl, (fun i h => by cases h), (by simp)⟩
 | cons x l ih =>
  intro gs ps hl hn hv hrows
  match gs, hl, hn with
  | g0 :: gs, hl, hn =>
   obtain ⟨hg, ht⟩ := hn 0 (by simp) (by simp); obtain ⟨g, t, cs0, f0, p0, q0, hg0, ht0, hv0, hd0, hq, e0⟩ := hv; have hg' : Tryz.prog.globalNamed x.1 = some g0 := hg; obtain rfl := Option.some.inj (hg'.symm.trans hg0); obtain rfl := Option.some.inj ((show (Tryz.prog.globals[g0]?).map (·.type) = some 26 from ht).symm.trans ht0); subst e0; obtain ⟨l0⟩ := cs0; have ok0 : ∀ u v, l0 = [.iface u v] → Value.okWide Tryz.prog W .any 0 u v := fun u v e => by
    subst e; exact (hrows g0 0 (by simp [MemPlace.row])).2 u v (by simpa using World.var?_cell hg0 hv0 0)
   obtain ⟨f, he, hft, hfo⟩ := errFields; obtain ⟨a0, s0, rfl, _, _, _, rfl⟩ := errorString_of_trod Tryz.underlying26 errRow Tryz.underlying240 he hft hfo Tryz.underlying9 errCells strCells hd0 ok0; obtain ⟨ads, h1, h2, h3⟩ := ih gs q0 (by simpa using hl) (fun i h h' => hn (i + 1) (by simpa using h) (by simpa using h')) hq (fun b off hm => hrows b off (List.mem_append_right _ hm)); refine ⟨a0 :: ads, by simp [h1], ?_, ?_⟩
   ·intro i hi hi'
    match i, hi, hi' with
    | 0, _, _ => simpa using World.var?_cell hg0 hv0 0
    | i + 1, hi, hi' => simpa using h2 i (by simpa using hi) (by simpa using hi')
   ·have : MemPlace.row a0 1 = [MemPlace.cell a0.block a0.off] := by simp [MemPlace.row]
    rw [this, List.map_cons]; refine List.Sublist.trans ?_ (List.Sublist.append (List.sublist_append_right (MemPlace.row ⟨g0, 0, none⟩ _) [MemPlace.cell a0.block a0.off]) h3)
    simp
theorem errs_of_laid {W : World} (l : List (String × List UInt8)) (gs : List Nat) (hl : gs.length = l.length)
  (hn : ∀ (i : Nat) (h : i < l.length) (h' : i < gs.length), Tryz.prog.globalNamed (l[i]).1 = some gs[i] ∧ (Tryz.prog.globals[gs[i]]?).map (·.type) = some 26)
  (h : laidMet Tryz.prog (l.map sentD) W) : ∃ ads, Errs gs ads W := by
 obtain ⟨ps, hv, hnd, hrows⟩ := h; obtain ⟨ads, h1, h2, h3⟩ := sents_vars l gs ps hl hn hv hrows; refine ⟨ads, h1, fun i hi => h2 i hi (by omega), fun a ha => ?_, ?_⟩
 ·exact (hrows a.block a.off (h3.subset (List.mem_map_of_mem ha))).1
 ·have := List.Nodup.sublist h3 hnd; unfold List.Nodup at *; rw [List.pairwise_map] at this; exact this.imp fun hab e => hab (by rw [e])
theorem isTypeOf (v : Value) (w : World) : (Extern.ReflectliteType.typeOf #[.iface 240 v]).run Tryz.prog w = .ok (.iface 172 (.agg #[.pointer (some ⟨18, 240, none⟩)])) w := by kernel_rfl
theorem callTypeOf (v : Value) (w : World) : (callFunc 60 #[.iface 240 v]).run Tryz.prog w = .ok (.value (.iface 172 (.agg #[.pointer (some ⟨18, 240, none⟩)]))) w := by
 rw [run_callFunc_extern (e := Extern.ReflectliteType.typeOf) Tryz.func60 (by kernel_rfl) (by kernel_rfl) (by kernel_rfl) (by kernel_rfl), isTypeOf]; rfl
theorem callComparable (w : World) : (callFunc 206 #[.agg #[.pointer (some ⟨18, 240, none⟩)]]).run Tryz.prog w = .ok (.value (.bool true)) w := by kernel_rfl
theorem isMethodComparable (v : Value) (w : World) : (Go.method 375 172 v "Comparable").run Tryz.prog w = .ok (206, v) w := by kernel_rfl
theorem isComp : (Tryz.prog.info? 240).map (·.comparable) = some true := by kernel_rfl
theorem isSize : (Tryz.prog.info? 263).map (·.size) = some 1 := by kernel_rfl
theorem noIsE (v : Value) (xT : TypeId) (w : World) : (Instr.typeAssert (.iface 240 v) xT 174 true).run Tryz.prog w = .ok (.tuple #[.nilIface, .bool false]) w := run_typeAssert_lacksB Tryz.underlying174 (by kernel_rfl) (by kernel_rfl) v xT w
theorem noUnwrapE (v : Value) (xT : TypeId) (w : World) : (Instr.typeAssert (.iface 240 v) xT 177 true).run Tryz.prog w = .ok (.tuple #[.nilIface, .bool false]) w := run_typeAssert_lacksB Tryz.underlying177 (by kernel_rfl) (by kernel_rfl) v xT w
theorem noUnwrapsE (v : Value) (xT : TypeId) (w : World) : (Instr.typeAssert (.iface 240 v) xT 179 true).run Tryz.prog w = .ok (.tuple #[.nilIface, .bool false]) w := run_typeAssert_lacksB Tryz.underlying179 (by kernel_rfl) (by kernel_rfl) v xT w
theorem is_same (a : Addr) (w : World) :
  Calls Tryz.prog 26 #[.iface 240 (.pointer (some a)), .iface 240 (.pointer (some a))] w fun e w' => e = .returned (.bool true) ∧ w = w' := by
 obtain ⟨i, hi, hcmp⟩ := Option.map_eq_some_iff.1 isComp; obtain ⟨j, hj, hjs⟩ := Option.map_eq_some_iff.1 isSize; have tT := callTypeOf; have cT := callComparable; have mR := isMethodComparable; have heq := run_eql_iface_ptr_same (P := Tryz.prog) w a Tryz.underlying26 Tryz.underlying240 hi hcmp hj; go_enter Tryz.func26, Tryz.ntmps26; go_wp2; refine wp_loop_rounds 1 ?_
 rw [rounds_succ]; go_wp2; go_ret; exact ⟨rfl, rfl⟩
theorem is_other (a b : Addr) (ca cb : Array Value) (ta tb : TypeId) (w : World) (hne : a ≠ b) (ha : w.heap[a.block]? = some (.cells ca ta (0, 0))) (hb : w.heap[b.block]? = some (.cells cb tb (0, 0))) :
  Calls Tryz.prog 26 #[.iface 240 (.pointer (some a)), .iface 240 (.pointer (some b))] w fun e w' => e = .returned (.bool false) ∧ w = w' := by
 obtain ⟨i, hi, hcmp⟩ := Option.map_eq_some_iff.1 isComp; obtain ⟨j, hj, hjs⟩ := Option.map_eq_some_iff.1 isSize; have tT := callTypeOf; have cT := callComparable; have mR := isMethodComparable; have nE := noIsE; have uE := noUnwrapE; have vE := noUnwrapsE; have heq := run_eql_iface_ptr_other (P := Tryz.prog) w Tryz.underlying26 Tryz.underlying240 hi hcmp hj (by rw [hjs]; decide) hne ha hb; go_enter Tryz.func26, Tryz.ntmps26; go_wp2; refine wp_loop_rounds 1 ?_
 rw [rounds_succ]; go_wp2; go_ret; exact ⟨rfl, rfl⟩
open Go.RowKit Go.Stop
def gs14 : List Nat := [0, 1, 2, 3, 4, 5, 6, 7, 8, 9, 10, 11, 12, 13]
def text14 : List (String × List UInt8) := [("liaison/api.ErrRange", [108, 105, 97, 105, 115, 111, 110, 58, 32, 114, 97, 110, 103, 101]), ("liaison/api.ErrShort", [108, 105, 97, 105, 115, 111, 110, 58, 32, 115, 104, 111, 114, 116]), ("liaison/api.ErrLong", [108, 105, 97, 105, 115, 111, 110, 58, 32, 108, 111, 110, 103]), ("liaison/api.ErrForm", [108, 105, 97, 105, 115, 111, 110, 58, 32, 102, 111, 114, 109]), ("liaison/api.ErrCheck", [108, 105, 97, 105, 115, 111, 110, 58, 32, 99, 104, 101, 99, 107]), ("liaison/api.ErrFull", [108, 105, 97, 105, 115, 111, 110, 58, 32, 102, 117, 108, 108]), ("liaison/api.ErrPower", [108, 105, 97, 105, 115, 111, 110, 58, 32, 112, 111, 119, 101, 114]), ("liaison/api.ErrNone", [108, 105, 97, 105, 115, 111, 110, 58, 32, 110, 111, 110, 101]), ("liaison/api.ErrState", [108, 105, 97, 105, 115, 111, 110, 58, 32, 115, 116, 97, 116, 101]), ("liaison/api.ErrTwice", [108, 105, 97, 105, 115, 111, 110, 58, 32, 116, 119, 105, 99, 101]), ("liaison/api.ErrDepth", [108, 105, 97, 105, 115, 111, 110, 58, 32, 100, 101, 112, 116, 104]), ("liaison/api.ErrExpired", [108, 105, 97, 105, 115, 111, 110, 58, 32, 101, 120, 112, 105, 114, 101, 100]), ("liaison/api.ErrPanic", [108, 105, 97, 105, 115, 111, 110, 58, 32, 112, 97, 110, 105, 99]), ("liaison/api.ErrProtocol", [108, 105, 97, 105, 115, 111, 110, 58, 32, 112, 114, 111, 116, 111, 99, 111, 108])]
theorem cells_new (w : World) (l : List Addr) (t : TypeId) (j : Nat) (h : j < l.length) :
  (w.alloc (.cells (l.map fun a => Value.iface 240 (.pointer (some a))).toArray t)).cell? ⟨w.heap.size, j, none⟩ = some (.iface 240 (.pointer (some l[j]))) := by
 have e : (w.alloc (.cells (l.map fun a => Value.iface 240 (.pointer (some a))).toArray t)).heap[w.heap.size]? = some (.cells (l.map fun a => Value.iface 240 (.pointer (some a))).toArray t) := (mH w _)
 unfold World.cell?; dsimp only; rw [e]
 simp [h]
theorem num_nil (w : World) :
  Calls Tryz.prog 10 #[.nilIface] w fun e w' => e = .returned (.int .i64 0) ∧ w = w' := by
 go_enter Tryz.func10, Tryz.ntmps10; go_wp2; go_ret; exact ⟨rfl, rfl⟩
theorem num_err (ads : List Addr) (w : World) (E : Errs gs14 ads w) (k : Nat) (hk : k < 14) (hka : k < ads.length) :
  Calls Tryz.prog 10 #[.iface 240 (.pointer (some ads[k]))] w fun e w' => e = .returned (.int .i64 (k + 1)) ∧ Below w.heap.size w w' := by
 obtain ⟨a, hak⟩ : ∃ a, ads[k] = a := ⟨_, rfl⟩
 rw [hak]
 match ads, E, hka, hak with
 | [a0, a1, a2, a3, a4, a5, a6, a7, a8, a9, a10, a11, a12, a13], E, hka, hak =>
  have c0 : w.cell? ⟨0, 0, none⟩ = some (.iface 240 (.pointer (some a0))) := E.cell 0 (by decide); have c1 : w.cell? ⟨1, 0, none⟩ = some (.iface 240 (.pointer (some a1))) := E.cell 1 (by decide); have c2 : w.cell? ⟨2, 0, none⟩ = some (.iface 240 (.pointer (some a2))) := E.cell 2 (by decide); have c3 : w.cell? ⟨3, 0, none⟩ = some (.iface 240 (.pointer (some a3))) := E.cell 3 (by decide); have c4 : w.cell? ⟨4, 0, none⟩ = some (.iface 240 (.pointer (some a4))) := E.cell 4 (by decide); have c5 : w.cell? ⟨5, 0, none⟩ = some (.iface 240 (.pointer (some a5))) := E.cell 5 (by decide); have c6 : w.cell? ⟨6, 0, none⟩ = some (.iface 240 (.pointer (some a6))) := E.cell 6 (by decide); have c7 : w.cell? ⟨7, 0, none⟩ = some (.iface 240 (.pointer (some a7))) := E.cell 7 (by decide); have c8 : w.cell? ⟨8, 0, none⟩ = some (.iface 240 (.pointer (some a8))) := E.cell 8 (by decide); have c9 : w.cell? ⟨9, 0, none⟩ = some (.iface 240 (.pointer (some a9))) := E.cell 9 (by decide)
  have c10 : w.cell? ⟨10, 0, none⟩ = some (.iface 240 (.pointer (some a10))) := E.cell 10 (by decide); have c11 : w.cell? ⟨11, 0, none⟩ = some (.iface 240 (.pointer (some a11))) := E.cell 11 (by decide); have c12 : w.cell? ⟨12, 0, none⟩ = some (.iface 240 (.pointer (some a12))) := E.cell 12 (by decide); have c13 : w.cell? ⟨13, 0, none⟩ = some (.iface 240 (.pointer (some a13))) := E.cell 13 (by decide); have HE := hD E; have HA := hD hak; clear E hak; go_enter Tryz.func10, Tryz.ntmps10; go_wp2; go_loop [25] (fun i => ∃ j : Nat, j ≤ k ∧ i = .int .i64 j) (fun i => 14 - (intOf i).toNat)
  case atStart => exact ⟨0, Nat.zero_le _, rfl⟩
  case round =>
   obtain ⟨j, hj, rfl⟩ := hrel; have hj14 : j < 14 := by omega
   obtain ⟨x, hx⟩ : ∃ x, ([a0, a1, a2, a3, a4, a5, a6, a7, a8, a9, a10, a11, a12, a13] : List Addr)[j]'(by simpa using hj14) = x := ⟨_, rfl⟩
   have hel : (w.alloc (.cells #[.iface 240 (.pointer (some a0)), .iface 240 (.pointer (some a1)), .iface 240 (.pointer (some a2)), .iface 240 (.pointer (some a3)), .iface 240 (.pointer (some a4)), .iface 240 (.pointer (some a5)), .iface 240 (.pointer (some a6)), .iface 240 (.pointer (some a7)), .iface 240 (.pointer (some a8)), .iface 240 (.pointer (some a9)), .iface 240 (.pointer (some a10)), .iface 240 (.pointer (some a11)), .iface 240 (.pointer (some a12)), .iface 240 (.pointer (some a13))] 26)).cell? ⟨w.heap.size, j, none⟩ = some (.iface 240 (.pointer (some x))) := by
    rw [← hx]; exact cells_new w [a0, a1, a2, a3, a4, a5, a6, a7, a8, a9, a10, a11, a12, a13] 26 j (by simpa using hj14)
   by_cases hjk : j = k
   ·subst hjk; obtain rfl : x = a := hx.symm.trans HA.out; have HX := hD hx; clear hx; go_wp2_with (go_at_call 26; (with_reducible refine (is_same x _).mono ?_); rintro e w' ⟨rfl, rfl⟩)
    go_ret; exact ⟨rfl, (Below.refl _ _).alloc (Nat.le_refl _) _⟩
   ·have hne : a ≠ x := by
     rw [← HA.out, ← hx]; intro e; have hnd := List.pairwise_iff_getElem.1 HE.out.nodup
     rcases Nat.lt_or_gt_of_ne hjk with g | g
     ·exact hnd j k _ _ g e.symm
     ·exact hnd k j _ _ g e
    have hma : a ∈ ([a0, a1, a2, a3, a4, a5, a6, a7, a8, a9, a10, a11, a12, a13] : List Addr) := HA.out ▸ List.getElem_mem _; have hmx : x ∈ ([a0, a1, a2, a3, a4, a5, a6, a7, a8, a9, a10, a11, a12, a13] : List Addr) := hx ▸ List.getElem_mem _; obtain ⟨ca, ta, ra⟩ := (HE.out.below ((Below.refl w.heap.size w).alloc (Nat.le_refl _) (.cells #[.iface 240 (.pointer (some a0)), .iface 240 (.pointer (some a1)), .iface 240 (.pointer (some a2)), .iface 240 (.pointer (some a3)), .iface 240 (.pointer (some a4)), .iface 240 (.pointer (some a5)), .iface 240 (.pointer (some a6)), .iface 240 (.pointer (some a7)), .iface 240 (.pointer (some a8)), .iface 240 (.pointer (some a9)), .iface 240 (.pointer (some a10)), .iface 240 (.pointer (some a11)), .iface 240 (.pointer (some a12)), .iface 240 (.pointer (some a13))] 26))).row a hma; obtain ⟨cx, tx, rx⟩ := (HE.out.below ((Below.refl w.heap.size w).alloc (Nat.le_refl _) (.cells #[.iface 240 (.pointer (some a0)), .iface 240 (.pointer (some a1)), .iface 240 (.pointer (some a2)), .iface 240 (.pointer (some a3)), .iface 240 (.pointer (some a4)), .iface 240 (.pointer (some a5)), .iface 240 (.pointer (some a6)), .iface 240 (.pointer (some a7)), .iface 240 (.pointer (some a8)), .iface 240 (.pointer (some a9)), .iface 240 (.pointer (some a10)), .iface 240 (.pointer (some a11)), .iface 240 (.pointer (some a12)), .iface 240 (.pointer (some a13))] 26))).row x hmx
    have RA := hD ra; have RX := hD rx; have HX := hD hx; have HN := hD hne; clear ra rx hx hne hma hmx; go_wp2_with (go_at_call 26; (with_reducible refine (is_other a x ca cx ta tx _ HN.out RA.out RX.out).mono ?_); rintro e w' ⟨rfl, rfl⟩)
    go_round
    case rel => exact ⟨j + 1, by omega, by go_num⟩
    case measure => simp [intOf]; omega
open Go.RowKit
def Kp (w w' : World) : Prop := Below w.heap.size w w'
theorem Kp.refl (w : World) : Kp w w := Below.refl _ _
theorem Kp.trans {a b c : World} (h : Kp a b) (k : Kp b c) : Kp a c := Below.trans h (Below.mono k h.size)
theorem kT {a b c : World} (h : Kp a b) (k : Kp b c) : Kp a c := Kp.trans h k
theorem Kp.drew {a b : World} (h : Kp a b) : Kp a b.drew := Below.drew h
theorem kA (w : World) (o : Obj) : Kp w (w.alloc o) := (Below.refl _ _).alloc (Nat.le_refl _) _
theorem kS {w w' : World} (h : Kp w w') : w.heap.size ≤ w'.heap.size := Below.size h
theorem old_of_cell {w : World} {q : Addr} {v : Value} (hq : w.cell? q = some v) : q.block < w.heap.size := by
 rcases Nat.lt_or_ge q.block w.heap.size with g | g
 ·exact g
 ·simp [World.cell?, Array.getElem?_eq_none g] at hq
theorem oZ {w : World} {b : Nat} {o : Obj} (h : w.heap[b]? = some o) : b < w.heap.size := by
 rcases Nat.lt_or_ge b w.heap.size with g | g
 ·exact g
 ·simp [Array.getElem?_eq_none g] at h
theorem kZ {w w' : World} {q : Addr} {v : Value} (h : Kp w w') (hc : w.cell? q = some v) : w'.cell? q = some v := by
 rw [Below.cell h (old_of_cell hc)]; exact hc
theorem rZ {w w' : World} {b : Nat} {o : Obj} (h : Kp w w') (hr : w.heap[b]? = some o) : w'.heap[b]? = some o := by
 rw [Below.block h b (oZ hr)]; exact hr
theorem box_cell (w : World) (u : Value) (t : TypeId) : (w.alloc (.cells #[u] t)).cell? ⟨w.heap.size, 0, none⟩ = some u := by
 have e : (w.alloc (.cells #[u] t)).heap[w.heap.size]? = some (.cells #[u] t) := (mH w _)
 unfold World.cell?; dsimp only; rw [e]
 rfl
theorem oK {w w' : World} {base : Nat} {e : TypeId} {size n : Nat} {v : Value} {xs : List Value} (h : w.ownsRow base e size v n xs) (hk : Kp w w') : w'.ownsRow base e size v n xs := by
 obtain ⟨h1, h2⟩ := h; refine ⟨h1, ?_⟩
 rcases h2 with h2 | ⟨g, cap, cur, hv, hg, hh, r⟩
 ·exact Or.inl h2
 ·exact Or.inr ⟨g, cap, cur, hv, hg, rZ hk hh, r⟩
theorem own_mono {w : World} {base base' : Nat} {e : TypeId} {size n : Nat} {v : Value} {xs : List Value} (h : w.ownsRow base e size v n xs) (hb : base' ≤ base) : w.ownsRow base' e size v n xs := by
 obtain ⟨h1, h2⟩ := h; refine ⟨h1, ?_⟩
 rcases h2 with h2 | ⟨g, cap, cur, hv, hg, r⟩
 ·exact Or.inl h2
 ·exact Or.inr ⟨g, cap, cur, hv, Nat.le_trans hb hg, r⟩
theorem own_empty (w : World) (e : TypeId) : (w.alloc (.cells #[] e)).ownsRow w.heap.size e 1 (.slice (some ⟨w.heap.size, 0, none⟩) 0 0) 0 [] :=
 ⟨by simp, Or.inr ⟨w.heap.size, 0, #[], rfl, Nat.le_refl _, (mH w _), Nat.le_refl _, by omega, by simp, by simp⟩⟩
theorem row_kp {w0 w w' : World} {n : Nat} {e : TypeId} {v : Value} {xs : List Value} (hown : w.ownsRow w0.heap.size e 1 v n xs) (hgr : w.grownBy w' v.ownBlock) (hk : Kp w0 w) : Kp w0 w' := by
 obtain ⟨-, hr⟩ := hown
 rcases hr with ⟨rfl, -⟩ | ⟨g, cap, cur, rfl, hg, hh, -⟩
 ·exact Below.grown hk hgr (Below.size hk) (fun k hk' => by simp [Value.ownBlock] at hk')
 ·exact Below.grown hk hgr (Below.size hk) (fun k hk' => by simp [Value.ownBlock] at hk'; omega)
abbrev snt (a : Addr) : Value := .iface 240 (.pointer (some a))
abbrev St (ads : List Addr) (w : World) : Prop := Errs gs14 ads w
open Go.RowKit Go.ChangeShapes Go.WideShapes
def SlB (v : Value) (bs : List Int) (w : World) : Prop :=
 (bs = [] ∧ ∃ (a : Option Addr) (cap : Nat), v = .slice a 0 cap ∧ (a = none → cap = 0)) ∨
 ∃ b off cap, 0 < bs.length ∧ v = .slice (some ⟨b, off, none⟩) bs.length cap ∧ ∀ j, j < bs.length → w.cell? ⟨b, off + j, none⟩ = some (.int .u8 (bs.getD j 0))
def InB (bs : List Int) : Prop := ∀ x ∈ bs, 0 ≤ x ∧ x < 256
theorem SlB.kp {v : Value} {bs : List Int} {w w' : World} (h : SlB v bs w) (hb : Kp w w') : SlB v bs w' := by
 rcases h with h | ⟨b, off, cap, h0, h1, h2⟩
 ·exact Or.inl h
 ·exact Or.inr ⟨b, off, cap, h0, h1, fun j hj => kZ hb (h2 j hj)⟩
theorem SlB.form {v : Value} {bs : List Int} {w : World} (h : SlB v bs w) : ∃ a cap, v = .slice a bs.length cap := by
 rcases h with ⟨rfl, a, cap, rfl, _⟩ | ⟨b, off, cap, _, rfl, _⟩
 ·exact ⟨a, cap, rfl⟩
 ·exact ⟨_, cap, rfl⟩
theorem SlB.at {a : Option Addr} {n cap : Nat} {bs : List Int} {w : World} (h : SlB (.slice a n cap) bs w) (j : Nat) (hj : j < bs.length) : ∃ b off, a = some ⟨b, off, none⟩ ∧ w.cell? ⟨b, off + j, none⟩ = some (.int .u8 (bs.getD j 0)) := by
 rcases h with ⟨hz, _⟩ | ⟨b, off, cap', _, hv, hcc⟩
 ·rw [hz] at hj; cases hj
 ·injection hv with hv1 _ _
  exact ⟨b, off, hv1, hcc j hj⟩
theorem byte_wf {x : Int} (h : (Lit.int .u8 x).wf = true) : 0 ≤ x ∧ x < 256 := by
 have h1 : IntKind.u8.min = 0 := rfl; have h2 : IntKind.u8.max = 255 := rfl; simp only [Lit.wf, Bool.and_eq_true, decide_eq_true_eq] at h
 omega
theorem trod_byte0 {H : Type} {enc : TypeId × Value → H} {P : Program} {w : World} {base : Nat} {spare : Nat → Bool} {held : Bool} {fuel : Nat} {t : TypeId} {cs : List Value} {x : DataW H × List MemPlace}
  (ht : P.underlying t = some (.int .u8)) (h : DataW.trod enc P w base spare held fuel t cs = some x) : ∃ b, cs = [.int .u8 b] ∧ x = (.lit (.int .u8 b), []) ∧ (Lit.int .u8 b).wf = true := by
 cases fuel with
 | zero => simp [DataW.trod] at h
 | succ n =>
  unfold DataW.trod at h; rw [ht] at h
  split at h <;> simp_all
theorem trod_byte {H : Type} {enc : TypeId × Value → H} {P : Program} {w : World} {base : Nat} {spare : Nat → Bool} {held : Bool} {fuel : Nat} {t : TypeId} {cs : List Value} {x : DataW H × List MemPlace}
  (ht : P.underlying t = some (.int .u8)) (h : DataW.trod enc P w base spare held fuel t cs = some x) : ∃ b, cs = [.int .u8 b] ∧ 0 ≤ b ∧ b < 256 := by
 obtain ⟨b, h1, _, h2⟩ := trod_byte0 ht h; exact ⟨b, h1, byte_wf h2⟩
theorem open_byte_elem {H : Type} {enc : TypeId × Value → H} {P : Program} {W : World} {fuel : Nat} {t e : TypeId} {cs : List Value} {x : DataW H × List MemPlace}
  (ht : P.underlying t = some (.slice e)) (he : P.underlying e = some (.int .u8)) (hc : P.cellsOf e = 1)
  (hf : DataW.trod enc P W 0 (fun _ => true) true fuel t cs = some x) : ∃ (bs : List Int) (a : Option Addr) (c : Nat), cs = [.slice a bs.length c] ∧ SlB (.slice a bs.length c) bs W ∧ InB bs ∧ bs.length ≤ maxLen ∧ bs.length ≤ c := by
 rcases Deep.open_slice1 ht hc hf with ⟨hcs, hx⟩ | ⟨a, len, cap, m, n, V, D, Pl, hcs, _, hl, hm, hmm, hx, hcell⟩
 ·exact ⟨[], none, 0, hcs, Or.inl ⟨rfl, none, 0, rfl, fun _ => rfl⟩, (fun x hx => by cases hx), by simp, by simp⟩
 ·simp only [if_true] at hmm
  have hel : ∀ i, i < len → ∃ b, V i = .int .u8 b ∧ 0 ≤ b ∧ b < 256 := by
   intro i hi; obtain ⟨b, h1, h2⟩ := trod_byte he (hcell i (by omega)).2; exact ⟨b, by simpa using h1, h2⟩
  let f : Nat → Int := fun i => match V i with | .int _ b => b | _ => 0
  have hf' : ∀ i, i < len → V i = .int .u8 (f i) ∧ 0 ≤ f i ∧ f i < 256 := by
   intro i hi; obtain ⟨b, h1, h2⟩ := hel i hi; have : f i = b := by show (match V i with | .int _ b => b | _ => 0) = b; rw [h1]
   rw [this]; exact ⟨h1, h2⟩
  refine ⟨(List.range len).map f, some a, cap, by simpa using hcs, ?_, ?_, by simp; omega, by simpa using hl⟩
  ·by_cases h0 : len = 0
   ·subst h0; exact Or.inl ⟨by simp, some a, cap, rfl, fun h => by cases h⟩
   ·obtain ⟨b, off, spot⟩ := a; have hspot : spot = none := by simpa [Addr.add] using World.cell?_spot (hcell 0 (by omega)).1
    subst hspot; refine Or.inr ⟨b, off, cap, by simp; omega, by simp, fun j hj => ?_⟩
    have hj' : j < len := by simpa using hj
    rw [← add_plain, (hcell j (by omega)).1, (hf' j hj').1]
    simp [List.getD, hj']
  ·intro b hb; obtain ⟨i, hi, rfl⟩ := List.mem_map.1 hb; exact (hf' i (by simpa using hi)).2
theorem own_slb {w : World} {base n : Nat} {v : Value} {bs : List Int} (h : w.ownsRow base 5 1 v n (bs.map (Value.int .u8))) : SlB v bs w := by
 obtain ⟨h1, h2⟩ := h; have hlen : bs.length = n := by simpa using h1
 rcases h2 with ⟨rfl, hn⟩ | ⟨g, cap, cur, rfl, hg, hh, hc, hm, hs, ht⟩
 ·left
  exact ⟨List.length_eq_zero_iff.1 (by omega), none, 0, rfl, fun _ => rfl⟩
 ·by_cases h0 : n = 0
  ·left
   subst h0; exact ⟨List.length_eq_zero_iff.1 (by omega), _, cap, rfl, fun h => by cases h⟩
  ·right
   refine ⟨g, 0, cap, by omega, by rw [hlen], fun j hj => ?_⟩
   unfold World.cell?; dsimp only; rw [hh]; simp only [Option.isSome_none, Bool.false_eq_true, if_false, Nat.zero_add]
   have : (cur.toList.take (n * 1))[j]? = some (.int .u8 (bs.getD j 0)) := by
    rw [ht]; simp [List.getD, hj]
   rw [List.getElem?_take, Nat.mul_one, if_pos (by omega)] at this
   simpa using this
theorem SlB.app {ao : Option Addr} {n c : Nat} {bs : List Int} {w : World} (h : SlB (.slice ao n c) bs w) : (ao = none → n = 0 ∧ c = 0) ∧ ∀ ad, ao = some ad → ∀ j u, (bs.map (Value.int .u8))[j]? = some u → w.cell? (ad.add j) = some u := by
 rcases h with ⟨rfl, a, cap, hv, hn⟩ | ⟨b, off, cap, h0, hv, hc⟩
 ·injection hv with h1 h2 h3
  subst h1 h2 h3; exact ⟨fun h => ⟨rfl, hn h⟩, fun ad _ j u hj => by simp at hj⟩
 ·injection hv with h1 h2 h3
  subst h1 h2 h3; refine ⟨(fun h => by cases h), fun ad had j u hj => ?_⟩
  injection had with had
  subst had; rw [List.getElem?_map] at hj
  cases hb : bs[j]? with
  | none => rw [hb] at hj; simp at hj
  | some x =>
   rw [hb] at hj; have hx : Value.int .u8 x = u := by simpa using hj
   have hjl : j < bs.length := by
    rcases Nat.lt_or_ge j bs.length with q | q
    ·exact q
    ·rw [List.getElem?_eq_none q] at hb; cases hb
   rw [add_plain, hc j hjl, ← hx]
   simp [List.getD, hb]
theorem bytes_one (bs : List Int) : ∀ u ∈ bs.map (Value.int .u8), u.oneCell' = true := by
 intro u hu; obtain ⟨x, _, rfl⟩ := List.mem_map.1 hu
 rfl
theorem info_byte : (Tryz.prog.info? 5).map (fun i => (i.zero, i.size, i.bytes)) = some (some (.int .u8 0), 1, 1) := by kernel_rfl
theorem SlB.len {ao : Option Addr} {m c : Nat} {bs : List Int} {w : World} (hb : SlB (.slice ao m c) bs w) : bs.length = m := by
 rcases hb with ⟨rfl, a', cap, hv, _⟩ | ⟨b, off, cap, _, hv, _⟩
 ·injection hv with _ h2 _; rw [h2]; rfl
 ·injection hv with _ h2 _; rw [h2]
theorem wpList_append_slb (w : World) {ops : Array Oper} {rest : List Oper} {o : Oper} {a : Act} {Q : Exit → Act → World → Prop} (hgd : o.guard = none) (s x : Operand)
  (ho : o.op = .call { callee := .builtin .append, args := #[s, x], argTypes := #[55, 55] })
  (base : Nat) (v : Value) (n : Nat) (xs : List Value) (hs : a.eval s = v) (hown : w.ownsRow base 5 1 v n xs)
  (ao : Option Addr) (m c : Nat) (bs : List Int) (hx : a.eval x = .slice ao m c) (hb : SlB (.slice ao m c) bs w) (h63 : n + m ≤ 1000000) (hbase : base ≤ w.heap.size)
  (h : ∀ v' w', w'.ownsRow base 5 1 v' (n + m) (xs ++ bs.map (Value.int .u8)) → w.grownBy w' v.ownBlock → (v ≠ .slice none 0 0 → v' ≠ .slice none 0 0) → wpList Tryz.prog ops Q rest (a.put o.dst v') w') : wpList Tryz.prog ops Q (o :: rest) a w := by
 obtain ⟨i0, hi, hz0, hz1, hz2⟩ := info_parts info_byte; have hlen := hb.len
 cases ao with
 | none =>
  obtain ⟨rfl, rfl⟩ := hb.app.1 rfl; have hbs : bs = [] := List.length_eq_zero_iff.1 hlen; subst hbs; refine wpList_append_own_none hgd s x 55 ho base 5 i0 1 Tryz.underlying55 hi v n xs hs hown hx (h v w (by simpa using hown) ⟨rfl, rfl, rfl, Nat.le_refl _, fun _ _ _ => rfl⟩ (fun h => h))
 | some ad =>
  refine wpList_append_own w hgd s x 55 ho base 5 i0 (.int .u8 0) 1 1 Tryz.underlying55 hi hz0 hz1 hz2 rfl (by decide) v n xs hs hown ad m c (bs.map (Value.int .u8)) hx (by rw [List.length_map, hlen, Nat.mul_one]) (hb.app.2 ad rfl) (bytes_one bs) (by unfold maxLen; omega) (by omega) hbase ?_
  intro v' w' h1 h2 h3; exact h v' w' h1 h2 (fun hv hv' => hv (h3.1 hv').1)
theorem str_append (xs ys : List Int) : strOfNums xs ++ strOfNums ys = strOfNums (xs ++ ys) := by
 apply ByteArray.ext
 apply Array.ext'
 rw [ByteArray.data_append, Array.toList_append, strOfNums_data, strOfNums_data, strOfNums_data, List.map_append]
def decF : Nat → Nat → List Int
 | 0, _ => []
 | k + 1, n => if n < 10 then [((48 + n : Nat) : Int)] else decF k (n / 10) ++ [((48 + n % 10 : Nat) : Int)]
theorem decF_len : ∀ k n, (decF k n).length ≤ k
 | 0, _ => Nat.le_refl _
 | k + 1, n => by
  unfold decF
  split
  ·simp
  ·have := decF_len k (n / 10)
   simp; omega
def dec (n : Nat) : List Int := decF 8 n
def rightA (n s : Int) : Bool := decide (0 ≤ n ∧ n < 4 ∧ 0 ≤ s ∧ s < 1000000)
theorem refRight_any (nn si : Int) (w : World) :
  Calls Tryz.prog 73 #[.agg #[nn, si]] w fun e w' => e = .returned (.bool (rightA nn si)) ∧ Kp w w' := by
 go_enter Tryz.func73, Tryz.ntmps73; go_wp2
 all_goals (go_ret; refine ⟨?_, kA _ _⟩; simp [rightA, *] <;> (intros; omega))
theorem dec_len (n : Nat) : (dec n).length ≤ 8 := decF_len 8 n
def actT (n s : Nat) : List Int := (([97] ++ dec n) ++ [46]) ++ dec s
def errI (ads : List Addr) (k : Int) : Value := if k = 0 then .nilIface else .iface 240 (.pointer (ads[(k - 1).toNat]?))
theorem eN (ads : List Addr) : errI ads 0 = .nilIface := rfl
theorem errI_at (ads : List Addr) (k : Nat) (hk : k < ads.length) : errI ads ((k : Int) + 1) = snt ads[k] := by
 unfold errI; rw [if_neg (by omega), show ((k : Int) + 1 - 1).toNat = k by omega, List.getElem?_eq_getElem hk]
theorem num_errN (ads : List Addr) (w : World) (V : St ads w) (k : Int) (h0 : 0 ≤ k) (h1 : k ≤ 14) :
  Calls Tryz.prog 10 #[errI ads k] w fun e w' => e = .returned (.int .i64 k) ∧ Kp w w' := by
 have h14 : ads.length = 14 := V.len
 by_cases hk : k = 0
 ·subst hk; refine (num_nil w).mono ?_
  rintro e w' ⟨h, rfl⟩; exact ⟨h, Kp.refl _⟩
 ·obtain ⟨j, hj⟩ : ∃ j : Nat, k = (j : Int) + 1 := ⟨(k - 1).toNat, by omega⟩
  subst hj; rw [errI_at ads j (by omega)]; exact num_err ads w V j (by omega) (by omega)
def textR (ads : List Addr) : Option (List Int) → Value
 | some t => .tuple #[.string (strOfNums t), .nilIface]
 | none => .tuple #[.string ⟨#[]⟩, errI ads 1]
def actO (n s : Int) : Option (List Int) := if rightA n s = true then some (actT n.toNat s.toNat) else none
abbrev Tab (w : World) : Prop := Lib.TabIs Tryz.prog w "internal/strconv.uint64pow10" .u64 Lib.pow10Tab
theorem Tab.kp {w w' : World} (h : Tab w) (hk : Kp w w') : Tab w' :=
 Joins.tab_stays (g := 15) (by kernel_rfl) h hk (Nat.le_refl _)
def toB (z : Int) : UInt8 := UInt8.ofNat z.toNat
theorem str_mk (S : List Int) : strOfNums S = ⟨(S.map toB).toArray⟩ := rfl
theorem decF_lib : ∀ k n, n < 10 ^ k → 0 < k → (decF k n).map toB = Lib.decDigits n
 | 0, _, _, h => absurd h (by decide)
 | k + 1, n, h, _ => by
  unfold decF; rw [Lib.decDigits]
  by_cases g : n < 10
  ·rw [if_pos g, dif_pos g]; simp only [List.map_cons, List.map_nil, toB, Int.toNat_natCast]
  ·rw [if_neg g, dif_neg g]; have hk : 0 < k := by
    rcases Nat.eq_zero_or_pos k with rfl | q
    ·simp at h; omega
    ·exact q
   rw [List.map_append, decF_lib k (n / 10) (by rw [Nat.pow_succ] at h; omega) hk]; simp only [List.map_cons, List.map_nil, toB, Int.toNat_natCast]
theorem itoa_any (n : Nat) (hn : n < 100000000) (nn : Int) (hnn : (n : Int) = nn) (w : World) (T : Tab w) :
  Calls Tryz.prog 174 #[.int .i64 nn] w fun e w' => e = .returned (.string (strOfNums (dec n))) ∧ Kp w w' := by
 subst hnn; have h : Calls Tryz.prog 174 #[.int .i64 n] w _ := Any.strconv_Itoa Tryz.laysM171 n (by omega) (by omega) w T; refine h.mono ?_
 rintro e w' ⟨rfl, k, os, rfl⟩; refine ⟨?_, Lib.below_grow _ _ (Nat.le_refl _) _ _⟩
 have e1 : Lib.itoa (n : Int) = (dec n).map toB := by
  unfold Lib.itoa; rw [if_neg (by omega), Int.toNat_natCast, dec, decF_lib 8 n (by omega) (by decide)]
 rw [e1, str_mk]
end Go.Proofs.YtpemeenfhkgmpaaGreatDoor
