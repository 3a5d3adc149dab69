/- Parts of this proof (own work). -/
import Derived.Test.YtlmlmhmhgdjhnaaGreatDoorRows
import Derived.ProofKit
import Derived.LaidMore
import Derived.OpenShut
import Derived.Stop.Joined
import Derived.Carry
import Derived.OneCell
import Derived.SevenTiedAt
import Derived.Deep.RegionHeld
import Derived.Lib.Hide
import Derived.MapKept
import Derived.Below
import Derived.KernelRfl
import Derived.Test.YtlmlmhmhgdjhnaaGreatDoorChecked
import Derived.WalkKit
import Derived.WalkSpells
import Derived.LaidEql
import Derived.Stop.Asserts
import Derived.Stop.IfaceNil
import Derived.RowKitTokens
import Derived.LaidLaws
import Derived.Laws.Externs
import Derived.ArgAppend
import Derived.OwnWalk
import Derived.LoopTactic
import Derived.RegionTactic
import Derived.ChangeAlike
import Derived.Laws.EntriesVeiled
import Derived.Deep.Slices
import Derived.Laws.BytesArg
import Derived.Shelf.Bytes.SlSmallAll
import Derived.Laws.AppendOwnNone
import Derived.Deep.RegionHeld3
import Derived.Lib.Strings
import Derived.BigQuiet
import Derived.WalkSmall
import Derived.Laws.OwnMore
import Derived.Test.YtlmlmhmhgdjhnaaGreatDoorLayI
import Derived.Lib.SmallJoins
import Derived.Lib.AppendIntMem
import Derived.MakeChecks
import Derived.Stop.LaidErr
import Derived.LaidSub
set_option maxRecDepth 100000
set_option maxHeartbeats 40000000
namespace Go.Proofs.YtlmlmhmhgdjhnaaGreatDoor
open Go.ChangeShapes Go.WideShapes Go.ChangeAt Go.RowKit
theorem own : ownKnob Tryz.prog.godebug = none := by kernel_rfl
theorem laidOut : laidOutB Tryz.prog = true := by kernel_rfl
theorem trodAll_below {H : Type} {enc : TypeId × Value → H} {P : Program} (hl : laidOutB P = true) {W W' : World} (hb : Below W.heap.size W W') :
  ∀ (ts : List TypeId) (vs : List Value) (ds : List (DataW H)) (ps : List MemPlace), (∀ t ∈ ts, P.readableRec t = true ∧ t < P.types.size) → (∀ x ∈ ps, x.block < W.heap.size) →
   DataW.TrodAll enc P W 0 (fun _ => true) true ts vs ds ps → DataW.TrodAll enc P W' 0 (fun b => decide (b < W.heap.size)) true ts vs ds ps := by
 intro ts
 induction ts with
 | nil =>
  intro vs ds ps _ _ h; obtain ⟨rfl, rfl, rfl⟩ := trodAll_nil h; exact trodAll_mk0
 | cons t ts ih =>
  intro vs ds ps hr hlt h; obtain ⟨v, vs', d, ds', p, q, rfl, rfl, rfl, h0, h1⟩ := trodAll_cons h; obtain ⟨hr0, ht0⟩ := hr t (List.mem_cons_self ..); exact trodAll_cons_mk (Below.trod hl hr0 ht0 h0 hb (fun x hx => hlt x (List.mem_append_left _ hx)))
   (ih vs' ds' q (fun u hu => hr u (List.mem_cons_of_mem _ hu)) (fun x hx => hlt x (List.mem_append_right _ hx)) h1)
theorem law_post {H : Type} {enc : TypeId × Value → H} {P : Program} (hl : laidOutB P = true) {f : Func} {s : ChangeSpec} {apart : Bool} {W W' : World} {args : Array Value} {ds gs : List (DataW H)} {before : List MemPlace} {tb : TypeId}
  (hW : DataW.Whole enc P f.params.toList s.vars apart W args.toList ds gs before) (hv : s.vars = []) (hspec : s.fn H (ds ++ gs) = { results := [.lit (.bool true)], args := ds })
  (hr : f.resultTypes = #[tb]) (htb : P.underlying tb = some .bool) (hpar : ∀ t ∈ f.params.toList, P.readableRec t = true ∧ t < P.types.size) (hb : Below W.heap.size W W') :
  s.post enc P f apart true false false W args (.bool true) W' := by
 have hW' := hW; obtain ⟨p, q, hA, hV, hpq, hfz, hnd⟩ := hW; rw [hv] at hV; obtain ⟨rfl, rfl⟩ := trodVars_none hV; refine ⟨ds, [], before, [], p, [], hW', ?_, ?_, ?_, hb.frame _, fun h => by cases h⟩
 ·rw [hspec, hr]; exact trodAll_mk1 (shut_bool htb _)
 ·rw [hspec]; refine trodAll_below hl hb _ _ _ _ hpar (fun x hx => ?_) hA
  have := hW'.lt x (by rw [hpq]; exact List.mem_append_left _ hx)
  simpa using this
 ·rw [hspec, hv]; rfl
theorem par_ok {P : Program} {ts : List TypeId} (h : (ts.all fun t => P.readableRec t && decide (t < P.types.size)) = true) : ∀ t ∈ ts, P.readableRec t = true ∧ t < P.types.size := by
 intro t ht; have := List.all_eq_true.1 h t ht
 simpa using this
theorem stand_ok {P : Program} {ps : Array TypeId} (h : (ps.toList.all fun u => !P.wantsStandIn u) = true) : ∀ (j : Nat) t, ps[j]? = some t → P.wantsStandIn t = false := by
 intro j t ht; have hm : t ∈ ps.toList := by simpa using Array.mem_of_getElem? ht
 simpa using List.all_eq_true.1 h t hm
section
variable {P : Program} {ops : Array Oper} {Q : Exit → Act → World → Prop} {md : Region.Mode} {S : World → Prop} {oi : Oper} {fuel : Nat} {listed : Array Bool} {a : Act} {w : World}
theorem tkW (v : Value) (i : Nat) (y : ∀ w, S w → (execOp a.eval oi).run P w = .ok (.value v) w) (h : wpAnyH P md ops Q S fuel (listed.setIfInBounds i true) (a.put oi.dst v) w) (hi : ops[i]? = some oi := by rfl) (hs : Region.noSelect ops = true := by kernel_rfl) (hf : Region.free md ops listed i = true := by kernel_rfl) (hr : (Region.ready md ops listed).contains i = true := by kernel_rfl)
    (hQ : ∀ c a w, Q (.panic c) (a.put oi.dst v) w → Q (.panic c) a w := by exact fun _ _ _ h => h) (hg : Region.wanted oi (yielded ops a.tmps) = true := by rfl) (hS : S w := by assumption) : wpAnyH P md ops Q S (fuel + 1) listed a w :=
  wpAnyH_take (i := i) hi hs hf hr hQ (Or.inl ⟨hg, y⟩) hS h
theorem skW (i : Nat) (h : wpAnyH P md ops Q S fuel (listed.setIfInBounds i true) (a.put oi.dst undef) w) (hi : ops[i]? = some oi := by rfl) (hs : Region.noSelect ops = true := by kernel_rfl) (hf : Region.free md ops listed i = true := by kernel_rfl) (hr : (Region.ready md ops listed).contains i = true := by kernel_rfl)
    (hQ : ∀ c a w, Q (.panic c) (a.put oi.dst undef) w → Q (.panic c) a w := by exact fun _ _ _ h => h) (hg : Region.wanted oi (yielded ops a.tmps) = false := by rfl) (hS : S w := by assumption) : wpAnyH P md ops Q S (fuel + 1) listed a w :=
  wpAnyH_take (i := i) hi hs hf hr hQ (Or.inr ⟨hg, rfl⟩) hS h
end
theorem rdW {P : Program} {ops : Array Oper} {Q : Exit → Act → World → Prop} {md : Region.Mode} {S : World → Prop} {o : Oper} {fuel : Nat} {listed : Array Bool} {a : Act} {w : World} (i : Nat) (h : ∀ K : Act → World → Prop, Shut (∀ a w, S w → (S w → wpAnyH P md ops Q S fuel (listed.setIfInBounds i true) a w) → K a w) → if Region.wanted o (yielded ops a.tmps) = true then Oper.wp P o a w K Q else K (a.put o.dst undef) w) (ho : ops[i]? = some o := by rfl) (hr : Region.ready md ops listed = [i] := by kernel_rfl) : wpAnyH P md ops Q S (fuel + 1) listed a w :=
  wpAnyH_ready (rs := [i]) hr (by simp) (AllReadyH.cons ho h AllReadyH.nil)
theorem tkP {P : Program} {ops : Array Oper} {Q : Exit → Act → World → Prop} {md : Region.Mode} {S : World → Prop} {oi : Oper} {fuel : Nat} {listed : Array Bool} {a : Act} {w : World} {v : Value} (i : Nat) (h : wpAnyH P md ops Q S fuel (listed.setIfInBounds i true) (a.put oi.dst v) w) (hi : ops[i]? = some oi := by rfl) (y : ∀ w, S w → (execOp a.eval oi).run P w = .ok (.value v) w := by intro w hZ; go_simp; try with_reducible rfl) (hs : Region.noSelect ops = true := by kernel_rfl) (hf : Region.free md ops listed i = true := by kernel_rfl) (hr : (Region.ready md ops listed).contains i = true := by kernel_rfl) (hQ : ∀ c a w, Q (.panic c) (a.put oi.dst v) w → Q (.panic c) a w := by exact fun _ _ _ h => h) (hg : Region.wanted oi (yielded ops a.tmps) = true := by rfl) (hS : S w := by assumption) : wpAnyH P md ops Q S (fuel + 1) listed a w :=
  wpAnyH_take (i := i) hi hs hf hr hQ (Or.inl ⟨hg, y⟩) hS h
theorem aN0 {P : Program} {ops : Array Oper} {Q : Exit → Act → World → Prop} {md : Region.Mode} {S : World → Prop} {fuel : Nat} {listed : Array Bool} {a : Act} {w : World} : AllReadyH P md ops Q S fuel listed a w [] := AllReadyH.nil
theorem aC {P : Program} {ops : Array Oper} {Q : Exit → Act → World → Prop} {md : Region.Mode} {S : World → Prop} {fuel : Nat} {listed : Array Bool} {a : Act} {w : World} {i : Nat} {o : Oper} {rs : List Nat} (h : ∀ K : Act → World → Prop, Shut (∀ a w, S w → (S w → wpAnyH P md ops Q S fuel (listed.setIfInBounds i true) a w) → K a w) → if Region.wanted o (yielded ops a.tmps) = true then Oper.wp P o a w K Q else K (a.put o.dst undef) w) (hs : AllReadyH P md ops Q S fuel listed a w rs) (ho : ops[i]? = some o := by rfl) : AllReadyH P md ops Q S fuel listed a w (i :: rs) := AllReadyH.cons ho h hs
theorem rgW {P : Program} {ops : Array Oper} {Q : Exit → Act → World → Prop} {id : Nat} {a : Act} {w : World} (S : World → Prop) (hS : S w.drew) (h : S w.drew → wpAnyH P .any ops Q S ops.size (Array.replicate ops.size false) a w.drew) (hm : P.follows .mixedOrders = true := by kernel_rfl) : (Code.region id ops true).wp P Q a w := wp_region_held_drew hm hS h
theorem dnW {P : Program} {ops : Array Oper} {Q : Exit → Act → World → Prop} {md : Region.Mode} {S : World → Prop} {listed : Array Bool} {a : Act} {w : World} (h : Q .normal a w) (fuel : Nat) (hr : Region.ready md ops listed = [] := by kernel_rfl) : wpAnyH P md ops Q S fuel listed a w := wpAnyH_done hr h fuel
instance : Coe Int Value := ⟨fun x => .int .i64 x⟩
instance : Coe Nat Value := ⟨fun x => .float .f64 x⟩
theorem mH (w : World) (o : Obj) : (w.alloc o).heap[w.heap.size]? = some o := (MapKept.heap_alloc w o).1
theorem bS (w : World) (p : Addr) (v : Value) (k : Nat) (h : k ≠ p.block) : (w.setCell p v).heap[k]? = w.heap[k]? := Below.heap_setCell w p v k h
open RowKit in
theorem hD {p : Prop} (h : p) : Hid p := h
theorem dF {p : Prop} [inst : Decidable p] (h : ¬p) : decide p = false := decide_eq_false h
theorem dT {p : Prop} [inst : Decidable p] (h : p) : decide p = true := decide_eq_true h
theorem cW6 {w : World} {g o : Nat} {v0 v1 v2 v3 v4 v5 : Value} (h : ∀ (i : Nat) (u : Value), i < 6 → [v0, v1, v2, v3, v4, v5][i]? = some u → w.cell? ⟨g, o + i, none⟩ = some u) : w.cell? ⟨g, o, none⟩ = some v0 ∧ w.cell? ⟨g, o + 1, none⟩ = some v1 ∧ w.cell? ⟨g, o + 2, none⟩ = some v2 ∧ w.cell? ⟨g, o + 3, none⟩ = some v3 ∧ w.cell? ⟨g, o + 4, none⟩ = some v4 ∧ w.cell? ⟨g, o + 5, none⟩ = some v5 := ⟨h 0 _ (by decide) rfl, h 1 _ (by decide) rfl, h 2 _ (by decide) rfl, h 3 _ (by decide) rfl, h 4 _ (by decide) rfl, h 5 _ (by decide) rfl⟩
theorem cW8 {w : World} {g o : Nat} {v0 v1 v2 v3 v4 v5 v6 v7 : Value} (h : ∀ (i : Nat) (u : Value), i < 8 → [v0, v1, v2, v3, v4, v5, v6, v7][i]? = some u → w.cell? ⟨g, o + i, none⟩ = some u) : w.cell? ⟨g, o, none⟩ = some v0 ∧ w.cell? ⟨g, o + 1, none⟩ = some v1 ∧ w.cell? ⟨g, o + 2, none⟩ = some v2 ∧ w.cell? ⟨g, o + 3, none⟩ = some v3 ∧ w.cell? ⟨g, o + 4, none⟩ = some v4 ∧ w.cell? ⟨g, o + 5, none⟩ = some v5 ∧ w.cell? ⟨g, o + 6, none⟩ = some v6 ∧ w.cell? ⟨g, o + 7, none⟩ = some v7 := ⟨h 0 _ (by decide) rfl, h 1 _ (by decide) rfl, h 2 _ (by decide) rfl, h 3 _ (by decide) rfl, h 4 _ (by decide) rfl, h 5 _ (by decide) rfl, h 6 _ (by decide) rfl, h 7 _ (by decide) rfl⟩
theorem cW14 {w : World} {g o : Nat} {v0 v1 v2 v3 v4 v5 v6 v7 v8 v9 v10 v11 v12 v13 : Value} (h : ∀ (i : Nat) (u : Value), i < 14 → [v0, v1, v2, v3, v4, v5, v6, v7, v8, v9, v10, v11, v12, v13][i]? = some u → w.cell? ⟨g, o + i, none⟩ = some u) : w.cell? ⟨g, o, none⟩ = some v0 ∧ w.cell? ⟨g, o + 1, none⟩ = some v1 ∧ w.cell? ⟨g, o + 2, none⟩ = some v2 ∧ w.cell? ⟨g, o + 3, none⟩ = some v3 ∧ w.cell? ⟨g, o + 4, none⟩ = some v4 ∧ w.cell? ⟨g, o + 5, none⟩ = some v5 ∧ w.cell? ⟨g, o + 6, none⟩ = some v6 ∧ w.cell? ⟨g, o + 7, none⟩ = some v7 ∧ w.cell? ⟨g, o + 8, none⟩ = some v8 ∧ w.cell? ⟨g, o + 9, none⟩ = some v9 ∧ w.cell? ⟨g, o + 10, none⟩ = some v10 ∧ w.cell? ⟨g, o + 11, none⟩ = some v11 ∧ w.cell? ⟨g, o + 12, none⟩ = some v12 ∧ w.cell? ⟨g, o + 13, none⟩ = some v13 := ⟨h 0 _ (by decide) rfl, h 1 _ (by decide) rfl, h 2 _ (by decide) rfl, h 3 _ (by decide) rfl, h 4 _ (by decide) rfl, h 5 _ (by decide) rfl, h 6 _ (by decide) rfl, h 7 _ (by decide) rfl, h 8 _ (by decide) rfl, h 9 _ (by decide) rfl, h 10 _ (by decide) rfl, h 11 _ (by decide) rfl, h 12 _ (by decide) rfl, h 13 _ (by decide) rfl⟩
theorem hD2 {p0 p1 : Prop} (h0 : p0) (h1 : p1) : RowKit.Hid p0 ∧ RowKit.Hid p1 := ⟨h0, h1⟩
theorem hD3 {p0 p1 p2 : Prop} (h0 : p0) (h1 : p1) (h2 : p2) : RowKit.Hid p0 ∧ RowKit.Hid p1 ∧ RowKit.Hid p2 := ⟨h0, h1, h2⟩
theorem hD4 {p0 p1 p2 p3 : Prop} (h0 : p0) (h1 : p1) (h2 : p2) (h3 : p3) : RowKit.Hid p0 ∧ RowKit.Hid p1 ∧ RowKit.Hid p2 ∧ RowKit.Hid p3 := ⟨h0, h1, h2, h3⟩
theorem hD5 {p0 p1 p2 p3 p4 : Prop} (h0 : p0) (h1 : p1) (h2 : p2) (h3 : p3) (h4 : p4) : RowKit.Hid p0 ∧ RowKit.Hid p1 ∧ RowKit.Hid p2 ∧ RowKit.Hid p3 ∧ RowKit.Hid p4 := ⟨h0, h1, h2, h3, h4⟩
theorem hD6 {p0 p1 p2 p3 p4 p5 : Prop} (h0 : p0) (h1 : p1) (h2 : p2) (h3 : p3) (h4 : p4) (h5 : p5) : RowKit.Hid p0 ∧ RowKit.Hid p1 ∧ RowKit.Hid p2 ∧ RowKit.Hid p3 ∧ RowKit.Hid p4 ∧ RowKit.Hid p5 := ⟨h0, h1, h2, h3, h4, h5⟩
theorem hD8 {p0 p1 p2 p3 p4 p5 p6 p7 : Prop} (h0 : p0) (h1 : p1) (h2 : p2) (h3 : p3) (h4 : p4) (h5 : p5) (h6 : p6) (h7 : p7) : RowKit.Hid p0 ∧ RowKit.Hid p1 ∧ RowKit.Hid p2 ∧ RowKit.Hid p3 ∧ RowKit.Hid p4 ∧ RowKit.Hid p5 ∧ RowKit.Hid p6 ∧ RowKit.Hid p7 := ⟨h0, h1, h2, h3, h4, h5, h6, h7⟩
open Go.RowKit Go.Extern.Stop Go.Stop Go.Extern Go.ChangeShapes
structure Errs (gs : List Nat) (ads : List Addr) (w : World) : Prop where
 len : ads.length = gs.length
 cell : ∀ (i : Nat) (h : i < gs.length), w.cell? ⟨gs[i], 0, none⟩ = some (.iface 283 (.pointer (some (ads[i]'(by omega)))))
 row : ∀ a ∈ ads, ∃ c t, w.heap[a.block]? = some (.cells c t (0, 0))
 nodup : ads.Nodup
theorem Errs.old {gs : List Nat} {ads : List Addr} {w : World} (h : Errs gs ads w) : (∀ (i : Nat) (hi : i < gs.length), gs[i] < w.heap.size) ∧ ∀ a ∈ ads, a.block < w.heap.size := by
 constructor
 ·intro i hi; have := h.cell i hi
  rcases Nat.lt_or_ge gs[i] w.heap.size with g | g
  ·exact g
  ·simp [World.cell?, Array.getElem?_eq_none g] at this
 ·intro a ha; obtain ⟨c, t, hr⟩ := h.row a ha
  rcases Nat.lt_or_ge a.block w.heap.size with g | g
  ·exact g
  ·simp [Array.getElem?_eq_none g] at hr
theorem Errs.below {gs : List Nat} {ads : List Addr} {w w' : World} (h : Errs gs ads w) (hb : Below w.heap.size w w') : Errs gs ads w' :=
 ⟨h.len, fun i hi => by rw [hb.cell (p := ⟨gs[i], 0, none⟩) (h.old.1 i hi)]; exact h.cell i hi,
  fun a ha => by rw [hb.block _ (h.old.2 a ha)]; exact h.row a ha, h.nodup⟩
theorem errRow : ∀ u, Tryz.prog.typeName? 3 u = some "*errors.errorString" → u = 283 :=
 typeName_ptr_named (nm := "errors.errorString") (by kernel_rfl) (by kernel_rfl) (by decide)
theorem errCells : Tryz.prog.cellsOf 307 = 1 := by kernel_rfl
theorem strCells : Tryz.prog.cellsOf 9 = 1 := by kernel_rfl
theorem errFields : ∃ f : Field, Tryz.prog.underlying 307 = some (.struct #[f]) ∧ f.type = 9 ∧ f.offset = 0 := ⟨_, Tryz.underlying307, rfl, rfl⟩
def sentD (x : String × List UInt8) : String × DataW Unit := (x.1, .iface "*errors.errorString" (.ptr (.agg [.lit (.string x.2)])))
theorem sents_vars {W : World} (l : List (String × List UInt8)) : ∀ (gs : List Nat) (ps : List MemPlace), gs.length = l.length →
  (∀ (i : Nat) (h : i < l.length) (h' : i < gs.length), Tryz.prog.globalNamed (l[i]).1 = some gs[i] ∧ (Tryz.prog.globals[gs[i]]?).map (·.type) = some 39) →
  DataW.LaidVars Tryz.prog W (l.map sentD) ps →
  (∀ b off, MemPlace.cell b off ∈ ps → (∃ c t, W.heap[b]? = some (.cells c t (0, 0))) ∧ ∀ u v, W.cell? ⟨b, off, none⟩ = some (.iface u v) → Value.okWide Tryz.prog W .any 0 u v) →
  ∃ ads : List Addr, ads.length = gs.length ∧ (∀ (i : Nat) (h : i < gs.length) (h' : i < ads.length), W.cell? ⟨gs[i], 0, none⟩ = some (.iface 283 (.pointer (some ads[i])))) ∧
   List.Sublist (ads.map fun a => MemPlace.cell a.block a.off) ps := by
 induction l with
 | nil =>
  intro gs ps hl _ hv _; obtain rfl : gs = [] := by cases gs; rfl; cases hl
  exact ⟨[], rfl, (fun i h => by cases h), (by simp)⟩
 | cons x l ih =>
  intro gs ps hl hn hv hrows
  match gs, hl, hn with
  | g0 :: gs, hl, hn =>
   obtain ⟨hg, ht⟩ := hn 0 (by simp) (by simp); obtain ⟨g, t, cs0, f0, p0, q0, hg0, ht0, hv0, hd0, hq, e0⟩ := hv; have hg' : Tryz.prog.globalNamed x.1 = some g0 := hg; obtain rfl := Option.some.inj (hg'.symm.trans hg0); obtain rfl := Option.some.inj ((show (Tryz.prog.globals[g0]?).map (·.type) = some 39 from ht).symm.trans ht0); subst e0; obtain ⟨l0⟩ := cs0; have ok0 : ∀ u v, l0 = [.iface u v] → Value.okWide Tryz.prog W .any 0 u v := fun u v e => by
    subst e; exact (hrows g0 0 (by simp [MemPlace.row])).2 u v (by simpa using World.var?_cell hg0 hv0 0)
   obtain ⟨f, he, hft, hfo⟩ := errFields; obtain ⟨a0, s0, rfl, _, _, _, rfl⟩ := errorString_of_trod Tryz.underlying39 errRow Tryz.underlying283 he hft hfo Tryz.underlying9 errCells strCells hd0 ok0; obtain ⟨ads, h1, h2, h3⟩ := ih gs q0 (by simpa using hl) (fun i h h' => hn (i + 1) (by simpa using h) (by simpa using h')) hq (fun b off hm => hrows b off (List.mem_append_right _ hm)); refine ⟨a0 :: ads, by simp [h1], ?_, ?_⟩
   ·intro i hi hi'
    match i, hi, hi' with
    | 0, _, _ => simpa using World.var?_cell hg0 hv0 0
    | i + 1, hi, hi' => simpa using h2 i (by simpa using hi) (by simpa using hi')
   ·have : MemPlace.row a0 1 = [MemPlace.cell a0.block a0.off] := by simp [MemPlace.row]
    rw [this, List.map_cons]; refine List.Sublist.trans ?_ (List.Sublist.append (List.sublist_append_right (MemPlace.row ⟨g0, 0, none⟩ _) [MemPlace.cell a0.block a0.off]) h3)
    simp
theorem errs_of_laid {W : World} (l : List (String × List UInt8)) (gs : List Nat) (hl : gs.length = l.length)
  (hn : ∀ (i : Nat) (h : i < l.length) (h' : i < gs.length), Tryz.prog.globalNamed (l[i]).1 = some gs[i] ∧ (Tryz.prog.globals[gs[i]]?).map (·.type) = some 39)
  (h : laidMet Tryz.prog (l.map sentD) W) : ∃ ads, Errs gs ads W := by
 obtain ⟨ps, hv, hnd, hrows⟩ := h; obtain ⟨ads, h1, h2, h3⟩ := sents_vars l gs ps hl hn hv hrows; refine ⟨ads, h1, fun i hi => h2 i hi (by omega), fun a ha => ?_, ?_⟩
 ·exact (hrows a.block a.off (h3.subset (List.mem_map_of_mem ha))).1
 ·have := List.Nodup.sublist h3 hnd; unfold List.Nodup at *; rw [List.pairwise_map] at this; exact this.imp fun hab e => hab (by rw [e])
theorem isTypeOf (v : Value) (w : World) : (Extern.ReflectliteType.typeOf #[.iface 283 v]).run Tryz.prog w = .ok (.iface 219 (.agg #[.pointer (some ⟨18, 283, none⟩)])) w := by kernel_rfl
theorem callTypeOf (v : Value) (w : World) : (callFunc 105 #[.iface 283 v]).run Tryz.prog w = .ok (.value (.iface 219 (.agg #[.pointer (some ⟨18, 283, none⟩)]))) w := by
 rw [run_callFunc_extern (e := Extern.ReflectliteType.typeOf) Tryz.func105 (by kernel_rfl) (by kernel_rfl) (by kernel_rfl) (by kernel_rfl), isTypeOf]; rfl
theorem callComparable (w : World) : (callFunc 246 #[.agg #[.pointer (some ⟨18, 283, none⟩)]]).run Tryz.prog w = .ok (.value (.bool true)) w := by kernel_rfl
theorem isMethodComparable (v : Value) (w : World) : (Go.method 419 219 v "Comparable").run Tryz.prog w = .ok (246, v) w := by kernel_rfl
theorem isComp : (Tryz.prog.info? 283).map (·.comparable) = some true := by kernel_rfl
theorem isSize : (Tryz.prog.info? 307).map (·.size) = some 1 := by kernel_rfl
theorem noIsE (v : Value) (xT : TypeId) (w : World) : (Instr.typeAssert (.iface 283 v) xT 221 true).run Tryz.prog w = .ok (.tuple #[.nilIface, .bool false]) w := run_typeAssert_lacksB Tryz.underlying221 (by kernel_rfl) (by kernel_rfl) v xT w
theorem noUnwrapE (v : Value) (xT : TypeId) (w : World) : (Instr.typeAssert (.iface 283 v) xT 224 true).run Tryz.prog w = .ok (.tuple #[.nilIface, .bool false]) w := run_typeAssert_lacksB Tryz.underlying224 (by kernel_rfl) (by kernel_rfl) v xT w
theorem noUnwrapsE (v : Value) (xT : TypeId) (w : World) : (Instr.typeAssert (.iface 283 v) xT 226 true).run Tryz.prog w = .ok (.tuple #[.nilIface, .bool false]) w := run_typeAssert_lacksB Tryz.underlying226 (by kernel_rfl) (by kernel_rfl) v xT w
theorem is_same (a : Addr) (w : World) :
  Calls Tryz.prog 46 #[.iface 283 (.pointer (some a)), .iface 283 (.pointer (some a))] w fun e w' => e = .returned (.bool true) ∧ w = w' := by
 obtain ⟨i, hi, hcmp⟩ := Option.map_eq_some_iff.1 isComp; obtain ⟨j, hj, hjs⟩ := Option.map_eq_some_iff.1 isSize; have tT := callTypeOf; have cT := callComparable; have mR := isMethodComparable; have heq := run_eql_iface_ptr_same (P := Tryz.prog) w a Tryz.underlying39 Tryz.underlying283 hi hcmp hj; go_enter Tryz.func46, Tryz.ntmps46; go_wp2; refine wp_loop_rounds 1 ?_
 rw [rounds_succ]; go_wp2; go_ret; exact ⟨rfl, rfl⟩
theorem is_other (a b : Addr) (ca cb : Array Value) (ta tb : TypeId) (w : World) (hne : a ≠ b) (ha : w.heap[a.block]? = some (.cells ca ta (0, 0))) (hb : w.heap[b.block]? = some (.cells cb tb (0, 0))) :
  Calls Tryz.prog 46 #[.iface 283 (.pointer (some a)), .iface 283 (.pointer (some b))] w fun e w' => e = .returned (.bool false) ∧ w = w' := by
 obtain ⟨i, hi, hcmp⟩ := Option.map_eq_some_iff.1 isComp; obtain ⟨j, hj, hjs⟩ := Option.map_eq_some_iff.1 isSize; have tT := callTypeOf; have cT := callComparable; have mR := isMethodComparable; have nE := noIsE; have uE := noUnwrapE; have vE := noUnwrapsE; have heq := run_eql_iface_ptr_other (P := Tryz.prog) w Tryz.underlying39 Tryz.underlying283 hi hcmp hj (by rw [hjs]; decide) hne ha hb; go_enter Tryz.func46, Tryz.ntmps46; go_wp2; refine wp_loop_rounds 1 ?_
 rw [rounds_succ]; go_wp2; go_ret; exact ⟨rfl, rfl⟩
open Go.RowKit Go.Stop
def gs14 : List Nat := [0, 1, 2, 3, 4, 5, 6, 7, 8, 9, 10, 11, 12, 13]
def text14 : List (String × List UInt8) := [("liaison/api.ErrRange", [108, 105, 97, 105, 115, 111, 110, 58, 32, 114, 97, 110, 103, 101]), ("liaison/api.ErrShort", [108, 105, 97, 105, 115, 111, 110, 58, 32, 115, 104, 111, 114, 116]), ("liaison/api.ErrLong", [108, 105, 97, 105, 115, 111, 110, 58, 32, 108, 111, 110, 103]), ("liaison/api.ErrForm", [108, 105, 97, 105, 115, 111, 110, 58, 32, 102, 111, 114, 109]), ("liaison/api.ErrCheck", [108, 105, 97, 105, 115, 111, 110, 58, 32, 99, 104, 101, 99, 107]), ("liaison/api.ErrFull", [108, 105, 97, 105, 115, 111, 110, 58, 32, 102, 117, 108, 108]), ("liaison/api.ErrPower", [108, 105, 97, 105, 115, 111, 110, 58, 32, 112, 111, 119, 101, 114]), ("liaison/api.ErrNone", [108, 105, 97, 105, 115, 111, 110, 58, 32, 110, 111, 110, 101]), ("liaison/api.ErrState", [108, 105, 97, 105, 115, 111, 110, 58, 32, 115, 116, 97, 116, 101]), ("liaison/api.ErrTwice", [108, 105, 97, 105, 115, 111, 110, 58, 32, 116, 119, 105, 99, 101]), ("liaison/api.ErrDepth", [108, 105, 97, 105, 115, 111, 110, 58, 32, 100, 101, 112, 116, 104]), ("liaison/api.ErrExpired", [108, 105, 97, 105, 115, 111, 110, 58, 32, 101, 120, 112, 105, 114, 101, 100]), ("liaison/api.ErrPanic", [108, 105, 97, 105, 115, 111, 110, 58, 32, 112, 97, 110, 105, 99]), ("liaison/api.ErrProtocol", [108, 105, 97, 105, 115, 111, 110, 58, 32, 112, 114, 111, 116, 111, 99, 111, 108])]
theorem cells_new (w : World) (l : List Addr) (t : TypeId) (j : Nat) (h : j < l.length) :
  (w.alloc (.cells (l.map fun a => Value.iface 283 (.pointer (some a))).toArray t)).cell? ⟨w.heap.size, j, none⟩ = some (.iface 283 (.pointer (some l[j]))) := by
 have e : (w.alloc (.cells (l.map fun a => Value.iface 283 (.pointer (some a))).toArray t)).heap[w.heap.size]? = some (.cells (l.map fun a => Value.iface 283 (.pointer (some a))).toArray t) := (mH w _)
 unfold World.cell?; dsimp only; rw [e]
 simp [h]
open Go.RowKit
def Kp (w w' : World) : Prop := Below w.heap.size w w'
theorem Kp.refl (w : World) : Kp w w := Below.refl _ _
theorem Kp.trans {a b c : World} (h : Kp a b) (k : Kp b c) : Kp a c := Below.trans h (Below.mono k h.size)
theorem kT {a b c : World} (h : Kp a b) (k : Kp b c) : Kp a c := Kp.trans h k
theorem Kp.drew {a b : World} (h : Kp a b) : Kp a b.drew := Below.drew h
theorem kA (w : World) (o : Obj) : Kp w (w.alloc o) := (Below.refl _ _).alloc (Nat.le_refl _) _
theorem kS {w w' : World} (h : Kp w w') : w.heap.size ≤ w'.heap.size := Below.size h
theorem old_of_cell {w : World} {q : Addr} {v : Value} (hq : w.cell? q = some v) : q.block < w.heap.size := by
 rcases Nat.lt_or_ge q.block w.heap.size with g | g
 ·exact g
 ·simp [World.cell?, Array.getElem?_eq_none g] at hq
theorem oZ {w : World} {b : Nat} {o : Obj} (h : w.heap[b]? = some o) : b < w.heap.size := by
 rcases Nat.lt_or_ge b w.heap.size with g | g
 ·exact g
 ·simp [Array.getElem?_eq_none g] at h
theorem kZ {w w' : World} {q : Addr} {v : Value} (h : Kp w w') (hc : w.cell? q = some v) : w'.cell? q = some v := by
 rw [Below.cell h (old_of_cell hc)]; exact hc
theorem rZ {w w' : World} {b : Nat} {o : Obj} (h : Kp w w') (hr : w.heap[b]? = some o) : w'.heap[b]? = some o := by
 rw [Below.block h b (oZ hr)]; exact hr
theorem box_cell (w : World) (u : Value) (t : TypeId) : (w.alloc (.cells #[u] t)).cell? ⟨w.heap.size, 0, none⟩ = some u := by
 have e : (w.alloc (.cells #[u] t)).heap[w.heap.size]? = some (.cells #[u] t) := (mH w _)
 unfold World.cell?; dsimp only; rw [e]
 rfl
theorem oK {w w' : World} {base : Nat} {e : TypeId} {size n : Nat} {v : Value} {xs : List Value} (h : w.ownsRow base e size v n xs) (hk : Kp w w') : w'.ownsRow base e size v n xs := by
 obtain ⟨h1, h2⟩ := h; refine ⟨h1, ?_⟩
 rcases h2 with h2 | ⟨g, cap, cur, hv, hg, hh, r⟩
 ·exact Or.inl h2
 ·exact Or.inr ⟨g, cap, cur, hv, hg, rZ hk hh, r⟩
theorem kZ2 {w w' : World} (h : Kp w w') {a0 a1 : Addr} {v0 v1 : Value} (h0 : w.cell? a0 = some v0) (h1 : w.cell? a1 = some v1) : w'.cell? a0 = some v0 ∧ w'.cell? a1 = some v1 := ⟨kZ h h0, kZ h h1⟩
theorem kZ3 {w w' : World} (h : Kp w w') {a0 a1 a2 : Addr} {v0 v1 v2 : Value} (h0 : w.cell? a0 = some v0) (h1 : w.cell? a1 = some v1) (h2 : w.cell? a2 = some v2) : w'.cell? a0 = some v0 ∧ w'.cell? a1 = some v1 ∧ w'.cell? a2 = some v2 := ⟨kZ h h0, kZ h h1, kZ h h2⟩
theorem kZ4 {w w' : World} (h : Kp w w') {a0 a1 a2 a3 : Addr} {v0 v1 v2 v3 : Value} (h0 : w.cell? a0 = some v0) (h1 : w.cell? a1 = some v1) (h2 : w.cell? a2 = some v2) (h3 : w.cell? a3 = some v3) : w'.cell? a0 = some v0 ∧ w'.cell? a1 = some v1 ∧ w'.cell? a2 = some v2 ∧ w'.cell? a3 = some v3 := ⟨kZ h h0, kZ h h1, kZ h h2, kZ h h3⟩
theorem kZ5 {w w' : World} (h : Kp w w') {a0 a1 a2 a3 a4 : Addr} {v0 v1 v2 v3 v4 : Value} (h0 : w.cell? a0 = some v0) (h1 : w.cell? a1 = some v1) (h2 : w.cell? a2 = some v2) (h3 : w.cell? a3 = some v3) (h4 : w.cell? a4 = some v4) : w'.cell? a0 = some v0 ∧ w'.cell? a1 = some v1 ∧ w'.cell? a2 = some v2 ∧ w'.cell? a3 = some v3 ∧ w'.cell? a4 = some v4 := ⟨kZ h h0, kZ h h1, kZ h h2, kZ h h3, kZ h h4⟩
theorem kZ7 {w w' : World} (h : Kp w w') {a0 a1 a2 a3 a4 a5 a6 : Addr} {v0 v1 v2 v3 v4 v5 v6 : Value} (h0 : w.cell? a0 = some v0) (h1 : w.cell? a1 = some v1) (h2 : w.cell? a2 = some v2) (h3 : w.cell? a3 = some v3) (h4 : w.cell? a4 = some v4) (h5 : w.cell? a5 = some v5) (h6 : w.cell? a6 = some v6) : w'.cell? a0 = some v0 ∧ w'.cell? a1 = some v1 ∧ w'.cell? a2 = some v2 ∧ w'.cell? a3 = some v3 ∧ w'.cell? a4 = some v4 ∧ w'.cell? a5 = some v5 ∧ w'.cell? a6 = some v6 := ⟨kZ h h0, kZ h h1, kZ h h2, kZ h h3, kZ h h4, kZ h h5, kZ h h6⟩
theorem kZ14 {w w' : World} (h : Kp w w') {a0 a1 a2 a3 a4 a5 a6 a7 a8 a9 a10 a11 a12 a13 : Addr} {v0 v1 v2 v3 v4 v5 v6 v7 v8 v9 v10 v11 v12 v13 : Value} (h0 : w.cell? a0 = some v0) (h1 : w.cell? a1 = some v1) (h2 : w.cell? a2 = some v2) (h3 : w.cell? a3 = some v3) (h4 : w.cell? a4 = some v4) (h5 : w.cell? a5 = some v5) (h6 : w.cell? a6 = some v6) (h7 : w.cell? a7 = some v7) (h8 : w.cell? a8 = some v8) (h9 : w.cell? a9 = some v9) (h10 : w.cell? a10 = some v10) (h11 : w.cell? a11 = some v11) (h12 : w.cell? a12 = some v12) (h13 : w.cell? a13 = some v13) : w'.cell? a0 = some v0 ∧ w'.cell? a1 = some v1 ∧ w'.cell? a2 = some v2 ∧ w'.cell? a3 = some v3 ∧ w'.cell? a4 = some v4 ∧ w'.cell? a5 = some v5 ∧ w'.cell? a6 = some v6 ∧ w'.cell? a7 = some v7 ∧ w'.cell? a8 = some v8 ∧ w'.cell? a9 = some v9 ∧ w'.cell? a10 = some v10 ∧ w'.cell? a11 = some v11 ∧ w'.cell? a12 = some v12 ∧ w'.cell? a13 = some v13 := ⟨kZ h h0, kZ h h1, kZ h h2, kZ h h3, kZ h h4, kZ h h5, kZ h h6, kZ h h7, kZ h h8, kZ h h9, kZ h h10, kZ h h11, kZ h h12, kZ h h13⟩
theorem kZ17 {w w' : World} (h : Kp w w') {a0 a1 a2 a3 a4 a5 a6 a7 a8 a9 a10 a11 a12 a13 a14 a15 a16 : Addr} {v0 v1 v2 v3 v4 v5 v6 v7 v8 v9 v10 v11 v12 v13 v14 v15 v16 : Value} (h0 : w.cell? a0 = some v0) (h1 : w.cell? a1 = some v1) (h2 : w.cell? a2 = some v2) (h3 : w.cell? a3 = some v3) (h4 : w.cell? a4 = some v4) (h5 : w.cell? a5 = some v5) (h6 : w.cell? a6 = some v6) (h7 : w.cell? a7 = some v7) (h8 : w.cell? a8 = some v8) (h9 : w.cell? a9 = some v9) (h10 : w.cell? a10 = some v10) (h11 : w.cell? a11 = some v11) (h12 : w.cell? a12 = some v12) (h13 : w.cell? a13 = some v13) (h14 : w.cell? a14 = some v14) (h15 : w.cell? a15 = some v15) (h16 : w.cell? a16 = some v16) : w'.cell? a0 = some v0 ∧ w'.cell? a1 = some v1 ∧ w'.cell? a2 = some v2 ∧ w'.cell? a3 = some v3 ∧ w'.cell? a4 = some v4 ∧ w'.cell? a5 = some v5 ∧ w'.cell? a6 = some v6 ∧ w'.cell? a7 = some v7 ∧ w'.cell? a8 = some v8 ∧ w'.cell? a9 = some v9 ∧ w'.cell? a10 = some v10 ∧ w'.cell? a11 = some v11 ∧ w'.cell? a12 = some v12 ∧ w'.cell? a13 = some v13 ∧ w'.cell? a14 = some v14 ∧ w'.cell? a15 = some v15 ∧ w'.cell? a16 = some v16 := ⟨kZ h h0, kZ h h1, kZ h h2, kZ h h3, kZ h h4, kZ h h5, kZ h h6, kZ h h7, kZ h h8, kZ h h9, kZ h h10, kZ h h11, kZ h h12, kZ h h13, kZ h h14, kZ h h15, kZ h h16⟩
theorem kZ18 {w w' : World} (h : Kp w w') {a0 a1 a2 a3 a4 a5 a6 a7 a8 a9 a10 a11 a12 a13 a14 a15 a16 a17 : Addr} {v0 v1 v2 v3 v4 v5 v6 v7 v8 v9 v10 v11 v12 v13 v14 v15 v16 v17 : Value} (h0 : w.cell? a0 = some v0) (h1 : w.cell? a1 = some v1) (h2 : w.cell? a2 = some v2) (h3 : w.cell? a3 = some v3) (h4 : w.cell? a4 = some v4) (h5 : w.cell? a5 = some v5) (h6 : w.cell? a6 = some v6) (h7 : w.cell? a7 = some v7) (h8 : w.cell? a8 = some v8) (h9 : w.cell? a9 = some v9) (h10 : w.cell? a10 = some v10) (h11 : w.cell? a11 = some v11) (h12 : w.cell? a12 = some v12) (h13 : w.cell? a13 = some v13) (h14 : w.cell? a14 = some v14) (h15 : w.cell? a15 = some v15) (h16 : w.cell? a16 = some v16) (h17 : w.cell? a17 = some v17) : w'.cell? a0 = some v0 ∧ w'.cell? a1 = some v1 ∧ w'.cell? a2 = some v2 ∧ w'.cell? a3 = some v3 ∧ w'.cell? a4 = some v4 ∧ w'.cell? a5 = some v5 ∧ w'.cell? a6 = some v6 ∧ w'.cell? a7 = some v7 ∧ w'.cell? a8 = some v8 ∧ w'.cell? a9 = some v9 ∧ w'.cell? a10 = some v10 ∧ w'.cell? a11 = some v11 ∧ w'.cell? a12 = some v12 ∧ w'.cell? a13 = some v13 ∧ w'.cell? a14 = some v14 ∧ w'.cell? a15 = some v15 ∧ w'.cell? a16 = some v16 ∧ w'.cell? a17 = some v17 := ⟨kZ h h0, kZ h h1, kZ h h2, kZ h h3, kZ h h4, kZ h h5, kZ h h6, kZ h h7, kZ h h8, kZ h h9, kZ h h10, kZ h h11, kZ h h12, kZ h h13, kZ h h14, kZ h h15, kZ h h16, kZ h h17⟩
abbrev snt (a : Addr) : Value := .iface 283 (.pointer (some a))
abbrev St (ads : List Addr) (w : World) : Prop := Errs gs14 ads w
open Go.RowKit Go.ChangeShapes Go.WideShapes
theorem str_append (xs ys : List Int) : strOfNums xs ++ strOfNums ys = strOfNums (xs ++ ys) := by
 apply ByteArray.ext
 apply Array.ext'
 rw [ByteArray.data_append, Array.toList_append, strOfNums_data, strOfNums_data, strOfNums_data, List.map_append]
def decF : Nat → Nat → List Int
 | 0, _ => []
 | k + 1, n => if n < 10 then [((48 + n : Nat) : Int)] else decF k (n / 10) ++ [((48 + n % 10 : Nat) : Int)]
theorem decF_len : ∀ k n, (decF k n).length ≤ k
 | 0, _ => Nat.le_refl _
 | k + 1, n => by
  unfold decF
  split
  ·simp
  ·have := decF_len k (n / 10)
   simp; omega
def dec (n : Nat) : List Int := decF 8 n
def rightA (n s : Int) : Bool := decide (0 ≤ n ∧ n < 4 ∧ 0 ≤ s ∧ s < 1000000)
theorem refRight_any (nn si : Int) (w : World) :
  Calls Tryz.prog 98 #[.agg #[nn, si]] w fun e w' => e = .returned (.bool (rightA nn si)) ∧ Kp w w' := by
 go_enter Tryz.func98, Tryz.ntmps98; go_wp2
 all_goals (go_ret; refine ⟨?_, kA _ _⟩; simp [rightA, *] <;> (intros; omega))
theorem dec_len (n : Nat) : (dec n).length ≤ 8 := decF_len 8 n
def actT (n s : Nat) : List Int := (([97] ++ dec n) ++ [46]) ++ dec s
def errI (ads : List Addr) (k : Int) : Value := if k = 0 then .nilIface else .iface 283 (.pointer (ads[(k - 1).toNat]?))
theorem eN (ads : List Addr) : errI ads 0 = .nilIface := rfl
theorem errI_at (ads : List Addr) (k : Nat) (hk : k < ads.length) : errI ads ((k : Int) + 1) = snt ads[k] := by
 unfold errI; rw [if_neg (by omega), show ((k : Int) + 1 - 1).toNat = k by omega, List.getElem?_eq_getElem hk]
def textR (ads : List Addr) : Option (List Int) → Value
 | some t => .tuple #[.string (strOfNums t), .nilIface]
 | none => .tuple #[.string ⟨#[]⟩, errI ads 1]
def actO (n s : Int) : Option (List Int) := if rightA n s = true then some (actT n.toNat s.toNat) else none
abbrev Tab (w : World) : Prop := Lib.TabIs Tryz.prog w "internal/strconv.uint64pow10" .u64 Lib.pow10Tab
theorem Tab.kp {w w' : World} (h : Tab w) (hk : Kp w w') : Tab w' :=
 Joins.tab_stays (g := 15) (by kernel_rfl) h hk (Nat.le_refl _)
def toB (z : Int) : UInt8 := UInt8.ofNat z.toNat
theorem str_mk (S : List Int) : strOfNums S = ⟨(S.map toB).toArray⟩ := rfl
theorem decF_lib : ∀ k n, n < 10 ^ k → 0 < k → (decF k n).map toB = Lib.decDigits n
 | 0, _, _, h => absurd h (by decide)
 | k + 1, n, h, _ => by
  unfold decF; rw [Lib.decDigits]
  by_cases g : n < 10
  ·rw [if_pos g, dif_pos g]; simp only [List.map_cons, List.map_nil, toB, Int.toNat_natCast]
  ·rw [if_neg g, dif_neg g]; have hk : 0 < k := by
    rcases Nat.eq_zero_or_pos k with rfl | q
    ·simp at h; omega
    ·exact q
   rw [List.map_append, decF_lib k (n / 10) (by rw [Nat.pow_succ] at h; omega) hk]; simp only [List.map_cons, List.map_nil, toB, Int.toNat_natCast]
theorem itoa_any (n : Nat) (hn : n < 100000000) (nn : Int) (hnn : (n : Int) = nn) (w : World) (T : Tab w) :
  Calls Tryz.prog 202 #[.int .i64 nn] w fun e w' => e = .returned (.string (strOfNums (dec n))) ∧ Kp w w' := by
 subst hnn; have h : Calls Tryz.prog 202 #[.int .i64 n] w _ := Any.strconv_Itoa Tryz.laysM171 n (by omega) (by omega) w T; refine h.mono ?_
 rintro e w' ⟨rfl, k, os, rfl⟩; refine ⟨?_, Lib.below_grow _ _ (Nat.le_refl _) _ _⟩
 have e1 : Lib.itoa (n : Int) = (dec n).map toB := by
  unfold Lib.itoa; rw [if_neg (by omega), Int.toNat_natCast, dec, decF_lib 8 n (by omega) (by decide)]
 rw [e1, str_mk]
def powD : String × DataW Unit := ("internal/strconv.uint64pow10", Lib.tabData .u64 Lib.pow10Tab)
theorem tab_of_laid {W : World} (h : laidMet Tryz.prog [powD] W) : Tab W := by
 obtain ⟨n, e, t, hty, ht, he, hce, hct⟩ : ∃ n e t, (Tryz.prog.globals[15]?).map (·.type) = some t ∧ Tryz.prog.underlying t = some (.array n e) ∧ Tryz.prog.underlying e = some (.int .u64) ∧ Tryz.prog.cellsOf e = 1 ∧ Tryz.prog.cellsOf t = n :=
  ⟨20, 114, _, rfl, by kernel_rfl, by kernel_rfl, by kernel_rfl, by kernel_rfl⟩
 have hg : Tryz.prog.globalNamed "internal/strconv.uint64pow10" = some 15 := by kernel_rfl
 exact Lib.tabIs_of_head hg hty ht he hce hct h
def apiX (x : String × DataW Unit) : Bool := text14.any fun y => y.1 == x.1
theorem st_tab_of {W : World} {l : List (String × DataW Unit)} (h1 : l.filter apiX = text14.map sentD) (h2 : l.filter (fun x => x.1 == "internal/strconv.uint64pow10") = [powD]) (hp : (l.all fun x => x.2.handleName?.isNone) = true) (h : laidMetH Tryz.prog l W) : (∃ ads, St ads W) ∧ Tab W := by
 rw [MakeChecks.laidMetH_plain _ _ _ hp] at h; have g1 := h.filter apiX; have g2 := h.filter fun x => x.1 == "internal/strconv.uint64pow10"
 rw [h1] at g1; rw [h2] at g2; exact ⟨errs_of_laid text14 gs14 rfl (by
  intro i hi hi'; have hi14 : i < 14 := hi
  match i, hi14 with
  | 0, _ | 1, _ | 2, _ | 3, _ | 4, _ | 5, _ | 6, _ | 7, _ | 8, _ | 9, _ | 10, _ | 11, _ | 12, _ | 13, _ => exact ⟨by kernel_rfl, by kernel_rfl⟩) g1, tab_of_laid g2⟩
structure EP (S : List Nat) (ads : List Addr) (w : World) : Prop where
 cell : ∀ i ∈ S, w.cell? ⟨gs14.getD i 0, 0, none⟩ = some (errI ads ((i : Int) + 1))
theorem EP.kp {S : List Nat} {ads : List Addr} {w w' : World} (E : EP S ads w) (hk : Kp w w') : EP S ads w' := ⟨fun i hi => kZ hk (E.cell i hi)⟩
theorem EP.sub {S T : List Nat} {ads : List Addr} {w : World} (E : EP S ads w) (h : ∀ i ∈ T, i ∈ S) : EP T ads w := ⟨fun i hi => E.cell i (h i hi)⟩
theorem ep_of_st {S : List Nat} {ads : List Addr} {w : World} (V : St ads w) (h : ∀ i ∈ S, i < 14) : EP S ads w := ⟨fun i hi => by
 have h14 : ads.length = 14 := V.len; have hi14 := h i hi; have c := V.cell i (show i < gs14.length by exact hi14); rw [errI_at ads i (by omega)]; rw [← c]
 congr 2
 simp [List.getD, List.getElem?_eq_getElem (show i < gs14.length by exact hi14)]⟩
end Go.Proofs.YtlmlmhmhgdjhnaaGreatDoor
