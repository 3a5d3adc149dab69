/-
  PARTS OF THIS PROOF (own work): Err, Num, Kp, StE, StFl, SlB, AppB, ErrI, RiA, LetM, NumC, NumB, RefN, SlQ, JoinQ, SplQ, SplR, SplT, Enc8, Dec8.
-/
import Derived.Test.YtahdoniggipmmaaGreatDoorChecked
import Derived.WalkKit
import Derived.WalkSpells
import Derived.LaidEql
import Derived.Stop.Asserts
import Derived.Stop.IfaceNil
import Derived.RowKitTokens
import Derived.LaidLaws
import Derived.Lib.Hide
import Derived.Laws.Externs
import Derived.ArgAppend
import Derived.OwnWalk
import Derived.LoopTactic
import Derived.RegionTactic
import Derived.ChangeAlike
import Derived.Laws.EntriesVeiled
import Derived.WalkLawsBesides
import Derived.Deep.Slices
import Derived.ProofKit
import Derived.Laws.BytesArg
import Derived.Shelf.Bytes.SlSmallAll
import Derived.Laws.AppendOwnNone
import Derived.Deep.SlicePairs
import Derived.Lib.SlBytesRow
import Derived.Lib.SmallJoins

namespace Go.Proofs.YtahdoniggipmmaaGreatDoor
open Go.RowKit Go.Extern.Stop Go.Stop Go.Extern Go.ChangeShapes

/-- THE SENTINELS OF THE GLOBALS gs LIE IN w AT THE ADDRESSES ads, each its own, none frozen. -/
structure Errs (gs : List Nat) (ads : List Addr) (w : World) : Prop where
  len : ads.length = gs.length
  cell : ∀ (i : Nat) (h : i < gs.length), w.cell? ⟨gs[i], 0, none⟩ = some (.iface 166 (.pointer (some (ads[i]'(by omega)))))
  row : ∀ a ∈ ads, ∃ c t, w.heap[a.block]? = some (.cells c t (0, 0))
  nodup : ads.Nodup

theorem Errs.old {gs : List Nat} {ads : List Addr} {w : World} (h : Errs gs ads w) : (∀ (i : Nat) (hi : i < gs.length), gs[i] < w.heap.size) ∧ ∀ a ∈ ads, a.block < w.heap.size := by
  constructor
  · intro i hi
    have := h.cell i hi
    rcases Nat.lt_or_ge gs[i] w.heap.size with g | g
    · exact g
    · simp [World.cell?, Array.getElem?_eq_none g] at this
  · intro a ha
    obtain ⟨c, t, hr⟩ := h.row a ha
    rcases Nat.lt_or_ge a.block w.heap.size with g | g
    · exact g
    · simp [Array.getElem?_eq_none g] at hr

theorem Errs.below {gs : List Nat} {ads : List Addr} {w w' : World} (h : Errs gs ads w) (hb : Below w.heap.size w w') : Errs gs ads w' :=
  ⟨h.len, fun i hi => by rw [hb.cell (p := ⟨gs[i], 0, none⟩) (h.old.1 i hi)]; exact h.cell i hi,
   fun a ha => by rw [hb.block _ (h.old.2 a ha)]; exact h.row a ha, h.nodup⟩

theorem errRow : ∀ u, Tryz.prog.typeName? 3 u = some "*errors.errorString" → u = 166 :=
  typeName_ptr_named (nm := "errors.errorString") (by kernel_rfl) (by kernel_rfl) (by decide)
theorem errCells : Tryz.prog.cellsOf 189 = 1 := by kernel_rfl
theorem strCells : Tryz.prog.cellsOf 9 = 1 := by kernel_rfl
theorem errFields : ∃ f : Field, Tryz.prog.underlying 189 = some (.struct #[f]) ∧ f.type = 9 ∧ f.offset = 0 := ⟨_, Tryz.underlying189, rfl, rfl⟩

def sentD (x : String × List UInt8) : String × DataW Unit := (x.1, .iface "*errors.errorString" (.ptr (.agg [.lit (.string x.2)])))

set_option maxRecDepth 100000 in
theorem sents_vars {W : World} (l : List (String × List UInt8)) : ∀ (gs : List Nat) (ps : List MemPlace), gs.length = l.length →
    (∀ (i : Nat) (h : i < l.length) (h' : i < gs.length), Tryz.prog.globalNamed (l[i]).1 = some gs[i] ∧ (Tryz.prog.globals[gs[i]]?).map (·.type) = some 31) →
    DataW.LaidVars Tryz.prog W (l.map sentD) ps →
    (∀ b off, MemPlace.cell b off ∈ ps → (∃ c t, W.heap[b]? = some (.cells c t (0, 0))) ∧ ∀ u v, W.cell? ⟨b, off, none⟩ = some (.iface u v) → Value.okWide Tryz.prog W .any 0 u v) →
    ∃ ads : List Addr, ads.length = gs.length ∧ (∀ (i : Nat) (h : i < gs.length) (h' : i < ads.length), W.cell? ⟨gs[i], 0, none⟩ = some (.iface 166 (.pointer (some ads[i])))) ∧
      List.Sublist (ads.map fun a => MemPlace.cell a.block a.off) ps := by
  induction l with
  | nil =>
    intro gs ps hl _ hv _
    obtain rfl : gs = [] := by cases gs; rfl; cases hl
    exact ⟨[], rfl, (fun i h => by cases h), (by simp)⟩
  | cons x l ih =>
    intro gs ps hl hn hv hrows
    match gs, hl, hn with
    | g0 :: gs, hl, hn =>
      obtain ⟨hg, ht⟩ := hn 0 (by simp) (by simp)
      obtain ⟨g, t, cs0, f0, p0, q0, hg0, ht0, hv0, hd0, hq, e0⟩ := hv
      have hg' : Tryz.prog.globalNamed x.1 = some g0 := hg
      obtain rfl := Option.some.inj (hg'.symm.trans hg0)
      obtain rfl := Option.some.inj ((show (Tryz.prog.globals[g0]?).map (·.type) = some 31 from ht).symm.trans ht0)
      subst e0
      obtain ⟨l0⟩ := cs0
      have ok0 : ∀ u v, l0 = [.iface u v] → Value.okWide Tryz.prog W .any 0 u v := fun u v e => by
        subst e
        exact (hrows g0 0 (by simp [MemPlace.row])).2 u v (by simpa using World.var?_cell hg0 hv0 0)
      obtain ⟨f, he, hft, hfo⟩ := errFields
      obtain ⟨a0, s0, rfl, _, _, _, rfl⟩ := errorString_of_trod Tryz.underlying31 errRow Tryz.underlying166 he hft hfo Tryz.underlying9 errCells strCells hd0 ok0
      obtain ⟨ads, h1, h2, h3⟩ := ih gs q0 (by simpa using hl) (fun i h h' => hn (i + 1) (by simpa using h) (by simpa using h')) hq (fun b off hm => hrows b off (List.mem_append_right _ hm))
      refine ⟨a0 :: ads, by simp [h1], ?_, ?_⟩
      · intro i hi hi'
        match i, hi, hi' with
        | 0, _, _ => simpa using World.var?_cell hg0 hv0 0
        | i + 1, hi, hi' => simpa using h2 i (by simpa using hi) (by simpa using hi')
      · have : MemPlace.row a0 1 = [MemPlace.cell a0.block a0.off] := by simp [MemPlace.row]
        rw [this, List.map_cons]
        refine List.Sublist.trans ?_ (List.Sublist.append (List.sublist_append_right (MemPlace.row ⟨g0, 0, none⟩ _) [MemPlace.cell a0.block a0.off]) h3)
        simp

/-- WHAT A LIST OF SENTINELS GIVES. -/
theorem errs_of_laid {W : World} (l : List (String × List UInt8)) (gs : List Nat) (hl : gs.length = l.length)
    (hn : ∀ (i : Nat) (h : i < l.length) (h' : i < gs.length), Tryz.prog.globalNamed (l[i]).1 = some gs[i] ∧ (Tryz.prog.globals[gs[i]]?).map (·.type) = some 31)
    (h : laidMet Tryz.prog (l.map sentD) W) : ∃ ads, Errs gs ads W := by
  obtain ⟨ps, hv, hnd, hrows⟩ := h
  obtain ⟨ads, h1, h2, h3⟩ := sents_vars l gs ps hl hn hv hrows
  refine ⟨ads, h1, fun i hi => h2 i hi (by omega), fun a ha => ?_, ?_⟩
  · exact (hrows a.block a.off (h3.subset (List.mem_map_of_mem ha))).1
  · have := List.Nodup.sublist h3 hnd
    unfold List.Nodup at *
    rw [List.pairwise_map] at this
    exact this.imp fun hab e => hab (by rw [e])

theorem isTypeOf (v : Value) (w : World) : (Extern.ReflectliteType.typeOf #[.iface 166 v]).run Tryz.prog w = .ok (.iface 129 (.agg #[.pointer (some ⟨18, 166, none⟩)])) w := by kernel_rfl
theorem callTypeOf (v : Value) (w : World) : (callFunc 70 #[.iface 166 v]).run Tryz.prog w = .ok (.value (.iface 129 (.agg #[.pointer (some ⟨18, 166, none⟩)]))) w := by
  rw [run_callFunc_extern (e := Extern.ReflectliteType.typeOf) Tryz.func70 (by kernel_rfl) (by kernel_rfl) (by kernel_rfl) (by kernel_rfl), isTypeOf]; rfl
theorem callComparable (w : World) : (callFunc 142 #[.agg #[.pointer (some ⟨18, 166, none⟩)]]).run Tryz.prog w = .ok (.value (.bool true)) w := by kernel_rfl
theorem isMethodComparable (v : Value) (w : World) : (Go.method 301 129 v "Comparable").run Tryz.prog w = .ok (142, v) w := by kernel_rfl
theorem isComp : (Tryz.prog.info? 166).map (·.comparable) = some true := by kernel_rfl
theorem isSize : (Tryz.prog.info? 189).map (·.size) = some 1 := by kernel_rfl
theorem noIsE (v : Value) (xT : TypeId) (w : World) : (Instr.typeAssert (.iface 166 v) xT 131 true).run Tryz.prog w = .ok (.tuple #[.nilIface, .bool false]) w := run_typeAssert_lacksB Tryz.underlying131 (by kernel_rfl) (by kernel_rfl) v xT w
theorem noUnwrapE (v : Value) (xT : TypeId) (w : World) : (Instr.typeAssert (.iface 166 v) xT 134 true).run Tryz.prog w = .ok (.tuple #[.nilIface, .bool false]) w := run_typeAssert_lacksB Tryz.underlying134 (by kernel_rfl) (by kernel_rfl) v xT w
theorem noUnwrapsE (v : Value) (xT : TypeId) (w : World) : (Instr.typeAssert (.iface 166 v) xT 136 true).run Tryz.prog w = .ok (.tuple #[.nilIface, .bool false]) w := run_typeAssert_lacksB Tryz.underlying136 (by kernel_rfl) (by kernel_rfl) v xT w

/-- errors.Is(x, x), x a sentinel. -/
theorem is_same (a : Addr) (w : World) :
    Calls Tryz.prog 37 #[.iface 166 (.pointer (some a)), .iface 166 (.pointer (some a))] w fun e w' => e = .returned (.bool true) ∧ w = w' := by
  obtain ⟨i, hi, hcmp⟩ := Option.map_eq_some_iff.1 isComp
  obtain ⟨j, hj, hjs⟩ := Option.map_eq_some_iff.1 isSize
  have tT := callTypeOf
  have cT := callComparable
  have mR := isMethodComparable
  have heq := run_eql_iface_ptr_same (P := Tryz.prog) w a Tryz.underlying31 Tryz.underlying166 hi hcmp hj
  go_enter Tryz.func37, Tryz.ntmps37
  go_wp2
  refine wp_loop_rounds 1 ?_
  rw [rounds_succ]
  go_wp2
  go_ret
  exact ⟨rfl, rfl⟩

/-- errors.Is(x, y), two different sentinels. -/
theorem is_other (a b : Addr) (ca cb : Array Value) (ta tb : TypeId) (w : World) (hne : a ≠ b) (ha : w.heap[a.block]? = some (.cells ca ta (0, 0))) (hb : w.heap[b.block]? = some (.cells cb tb (0, 0))) :
    Calls Tryz.prog 37 #[.iface 166 (.pointer (some a)), .iface 166 (.pointer (some b))] w fun e w' => e = .returned (.bool false) ∧ w = w' := by
  obtain ⟨i, hi, hcmp⟩ := Option.map_eq_some_iff.1 isComp
  obtain ⟨j, hj, hjs⟩ := Option.map_eq_some_iff.1 isSize
  have tT := callTypeOf
  have cT := callComparable
  have mR := isMethodComparable
  have nE := noIsE
  have uE := noUnwrapE
  have vE := noUnwrapsE
  have heq := run_eql_iface_ptr_other (P := Tryz.prog) w Tryz.underlying31 Tryz.underlying166 hi hcmp hj (by rw [hjs]; decide) hne ha hb
  go_enter Tryz.func37, Tryz.ntmps37
  go_wp2
  refine wp_loop_rounds 1 ?_
  rw [rounds_succ]
  go_wp2
  go_ret
  exact ⟨rfl, rfl⟩
end Go.Proofs.YtahdoniggipmmaaGreatDoor

namespace Go.Proofs.YtahdoniggipmmaaGreatDoor
open Go.RowKit Go.Stop

def gs14 : List Nat := [1, 2, 3, 0, 4, 5, 6, 7, 8, 9, 10, 11, 12, 13]
def text14 : List (String × List UInt8) := [("liaison/api.ErrRange", [108, 105, 97, 105, 115, 111, 110, 58, 32, 114, 97, 110, 103, 101]), ("liaison/api.ErrShort", [108, 105, 97, 105, 115, 111, 110, 58, 32, 115, 104, 111, 114, 116]), ("liaison/api.ErrLong", [108, 105, 97, 105, 115, 111, 110, 58, 32, 108, 111, 110, 103]), ("liaison/api.ErrForm", [108, 105, 97, 105, 115, 111, 110, 58, 32, 102, 111, 114, 109]), ("liaison/api.ErrCheck", [108, 105, 97, 105, 115, 111, 110, 58, 32, 99, 104, 101, 99, 107]), ("liaison/api.ErrFull", [108, 105, 97, 105, 115, 111, 110, 58, 32, 102, 117, 108, 108]), ("liaison/api.ErrPower", [108, 105, 97, 105, 115, 111, 110, 58, 32, 112, 111, 119, 101, 114]), ("liaison/api.ErrNone", [108, 105, 97, 105, 115, 111, 110, 58, 32, 110, 111, 110, 101]), ("liaison/api.ErrState", [108, 105, 97, 105, 115, 111, 110, 58, 32, 115, 116, 97, 116, 101]), ("liaison/api.ErrTwice", [108, 105, 97, 105, 115, 111, 110, 58, 32, 116, 119, 105, 99, 101]), ("liaison/api.ErrDepth", [108, 105, 97, 105, 115, 111, 110, 58, 32, 100, 101, 112, 116, 104]), ("liaison/api.ErrExpired", [108, 105, 97, 105, 115, 111, 110, 58, 32, 101, 120, 112, 105, 114, 101, 100]), ("liaison/api.ErrPanic", [108, 105, 97, 105, 115, 111, 110, 58, 32, 112, 97, 110, 105, 99]), ("liaison/api.ErrProtocol", [108, 105, 97, 105, 115, 111, 110, 58, 32, 112, 114, 111, 116, 111, 99, 111, 108])]

theorem cells_new (w : World) (l : List Addr) (t : TypeId) (j : Nat) (h : j < l.length) :
    (w.alloc (.cells (l.map fun a => Value.iface 166 (.pointer (some a))).toArray t)).cell? ⟨w.heap.size, j, none⟩ = some (.iface 166 (.pointer (some l[j]))) := by
  have e : (w.alloc (.cells (l.map fun a => Value.iface 166 (.pointer (some a))).toArray t)).heap[w.heap.size]? = some (.cells (l.map fun a => Value.iface 166 (.pointer (some a))).toArray t) := (MapKept.heap_alloc w _).1
  unfold World.cell?
  dsimp only
  rw [e]
  simp [h]

theorem num_nil (w : World) :
    Calls Tryz.prog 11 #[.nilIface] w fun e w' => e = .returned (.int .i64 0) ∧ w = w' := by
  go_enter Tryz.func11, Tryz.ntmps11
  go_wp2
  go_ret
  exact ⟨rfl, rfl⟩

theorem num_err (ads : List Addr) (w : World) (E : Errs gs14 ads w) (k : Nat) (hk : k < 14) (hka : k < ads.length) :
    Calls Tryz.prog 11 #[.iface 166 (.pointer (some ads[k]))] w fun e w' => e = .returned (.int .i64 (k + 1)) ∧ Below w.heap.size w w' := by
  obtain ⟨a, hak⟩ : ∃ a, ads[k] = a := ⟨_, rfl⟩
  rw [hak]
  match ads, E, hka, hak with
  | [a0, a1, a2, a3, a4, a5, a6, a7, a8, a9, a10, a11, a12, a13], E, hka, hak =>
    have c0 : w.cell? ⟨1, 0, none⟩ = some (.iface 166 (.pointer (some a0))) := E.cell 0 (by decide)
    have c1 : w.cell? ⟨2, 0, none⟩ = some (.iface 166 (.pointer (some a1))) := E.cell 1 (by decide)
    have c2 : w.cell? ⟨3, 0, none⟩ = some (.iface 166 (.pointer (some a2))) := E.cell 2 (by decide)
    have c3 : w.cell? ⟨0, 0, none⟩ = some (.iface 166 (.pointer (some a3))) := E.cell 3 (by decide)
    have c4 : w.cell? ⟨4, 0, none⟩ = some (.iface 166 (.pointer (some a4))) := E.cell 4 (by decide)
    have c5 : w.cell? ⟨5, 0, none⟩ = some (.iface 166 (.pointer (some a5))) := E.cell 5 (by decide)
    have c6 : w.cell? ⟨6, 0, none⟩ = some (.iface 166 (.pointer (some a6))) := E.cell 6 (by decide)
    have c7 : w.cell? ⟨7, 0, none⟩ = some (.iface 166 (.pointer (some a7))) := E.cell 7 (by decide)
    have c8 : w.cell? ⟨8, 0, none⟩ = some (.iface 166 (.pointer (some a8))) := E.cell 8 (by decide)
    have c9 : w.cell? ⟨9, 0, none⟩ = some (.iface 166 (.pointer (some a9))) := E.cell 9 (by decide)
    have c10 : w.cell? ⟨10, 0, none⟩ = some (.iface 166 (.pointer (some a10))) := E.cell 10 (by decide)
    have c11 : w.cell? ⟨11, 0, none⟩ = some (.iface 166 (.pointer (some a11))) := E.cell 11 (by decide)
    have c12 : w.cell? ⟨12, 0, none⟩ = some (.iface 166 (.pointer (some a12))) := E.cell 12 (by decide)
    have c13 : w.cell? ⟨13, 0, none⟩ = some (.iface 166 (.pointer (some a13))) := E.cell 13 (by decide)
    have HE := Lib.hid E
    have HA := Lib.hid hak
    clear E hak
    go_enter Tryz.func11, Tryz.ntmps11
    go_wp2
    go_loop [25] (fun i => ∃ j : Nat, j ≤ k ∧ i = .int .i64 j) (fun i => 14 - (intOf i).toNat)
    case atStart => exact ⟨0, Nat.zero_le _, rfl⟩
    case round =>
      obtain ⟨j, hj, rfl⟩ := hrel
      have hj14 : j < 14 := by omega
      obtain ⟨x, hx⟩ : ∃ x, ([a0, a1, a2, a3, a4, a5, a6, a7, a8, a9, a10, a11, a12, a13] : List Addr)[j]'(by simpa using hj14) = x := ⟨_, rfl⟩
      have hel : (w.alloc (.cells #[.iface 166 (.pointer (some a0)), .iface 166 (.pointer (some a1)), .iface 166 (.pointer (some a2)), .iface 166 (.pointer (some a3)), .iface 166 (.pointer (some a4)), .iface 166 (.pointer (some a5)), .iface 166 (.pointer (some a6)), .iface 166 (.pointer (some a7)), .iface 166 (.pointer (some a8)), .iface 166 (.pointer (some a9)), .iface 166 (.pointer (some a10)), .iface 166 (.pointer (some a11)), .iface 166 (.pointer (some a12)), .iface 166 (.pointer (some a13))] 31)).cell? ⟨w.heap.size, j, none⟩ = some (.iface 166 (.pointer (some x))) := by
        rw [← hx]; exact cells_new w [a0, a1, a2, a3, a4, a5, a6, a7, a8, a9, a10, a11, a12, a13] 31 j (by simpa using hj14)
      by_cases hjk : j = k
      · subst hjk
        obtain rfl : x = a := hx.symm.trans HA.out
        have HX := Lib.hid hx
        clear hx
        go_wp2_with (go_at_call 37; (with_reducible refine (is_same x _).mono ?_); rintro e w' ⟨rfl, rfl⟩)
        go_ret
        exact ⟨rfl, (Below.refl _ _).alloc (Nat.le_refl _) _⟩
      · have hne : a ≠ x := by
          rw [← HA.out, ← hx]
          intro e
          have hnd := List.pairwise_iff_getElem.1 HE.out.nodup
          rcases Nat.lt_or_gt_of_ne hjk with g | g
          · exact hnd j k _ _ g e.symm
          · exact hnd k j _ _ g e
        have hma : a ∈ ([a0, a1, a2, a3, a4, a5, a6, a7, a8, a9, a10, a11, a12, a13] : List Addr) := HA.out ▸ List.getElem_mem _
        have hmx : x ∈ ([a0, a1, a2, a3, a4, a5, a6, a7, a8, a9, a10, a11, a12, a13] : List Addr) := hx ▸ List.getElem_mem _
        obtain ⟨ca, ta, ra⟩ := (HE.out.below ((Below.refl w.heap.size w).alloc (Nat.le_refl _) (.cells #[.iface 166 (.pointer (some a0)), .iface 166 (.pointer (some a1)), .iface 166 (.pointer (some a2)), .iface 166 (.pointer (some a3)), .iface 166 (.pointer (some a4)), .iface 166 (.pointer (some a5)), .iface 166 (.pointer (some a6)), .iface 166 (.pointer (some a7)), .iface 166 (.pointer (some a8)), .iface 166 (.pointer (some a9)), .iface 166 (.pointer (some a10)), .iface 166 (.pointer (some a11)), .iface 166 (.pointer (some a12)), .iface 166 (.pointer (some a13))] 31))).row a hma
        obtain ⟨cx, tx, rx⟩ := (HE.out.below ((Below.refl w.heap.size w).alloc (Nat.le_refl _) (.cells #[.iface 166 (.pointer (some a0)), .iface 166 (.pointer (some a1)), .iface 166 (.pointer (some a2)), .iface 166 (.pointer (some a3)), .iface 166 (.pointer (some a4)), .iface 166 (.pointer (some a5)), .iface 166 (.pointer (some a6)), .iface 166 (.pointer (some a7)), .iface 166 (.pointer (some a8)), .iface 166 (.pointer (some a9)), .iface 166 (.pointer (some a10)), .iface 166 (.pointer (some a11)), .iface 166 (.pointer (some a12)), .iface 166 (.pointer (some a13))] 31))).row x hmx
        have RA := Lib.hid ra
        have RX := Lib.hid rx
        have HX := Lib.hid hx
        have HN := Lib.hid hne
        clear ra rx hx hne hma hmx
        go_wp2_with (go_at_call 37; (with_reducible refine (is_other a x ca cx ta tx _ HN.out RA.out RX.out).mono ?_); rintro e w' ⟨rfl, rfl⟩)
        go_round
        case rel => exact ⟨j + 1, by omega, by go_num⟩
        case measure => simp [intOf]; omega
end Go.Proofs.YtahdoniggipmmaaGreatDoor

namespace Go.Proofs.YtahdoniggipmmaaGreatDoor
open Go.RowKit

/-- OLD MEMORY IS AS IT WAS. -/
def Kp (w w' : World) : Prop := Below w.heap.size w w'
theorem Kp.refl (w : World) : Kp w w := Below.refl _ _
theorem Kp.trans {a b c : World} (h : Kp a b) (k : Kp b c) : Kp a c := Below.trans h (Below.mono k h.size)
theorem Kp.of_eq {a b : World} (h : a = b) : Kp a b := h ▸ Kp.refl _
theorem Kp.errs {gs : List Nat} {ads : List Addr} {w w' : World} (h : Kp w w') (E : Errs gs ads w) : Errs gs ads w' := E.below h
theorem Kp.drew {a b : World} (h : Kp a b) : Kp a b.drew := Below.drew h
theorem kp_alloc (w : World) (o : Obj) : Kp w (w.alloc o) := (Below.refl _ _).alloc (Nat.le_refl _) _
theorem kp_size {w w' : World} (h : Kp w w') : w.heap.size ≤ w'.heap.size := Below.size h

theorem old_of_cell {w : World} {q : Addr} {v : Value} (hq : w.cell? q = some v) : q.block < w.heap.size := by
  rcases Nat.lt_or_ge q.block w.heap.size with g | g
  · exact g
  · simp [World.cell?, Array.getElem?_eq_none g] at hq
theorem old_of_row {w : World} {b : Nat} {o : Obj} (h : w.heap[b]? = some o) : b < w.heap.size := by
  rcases Nat.lt_or_ge b w.heap.size with g | g
  · exact g
  · simp [Array.getElem?_eq_none g] at h
theorem kp_cell {w w' : World} {q : Addr} {v : Value} (h : Kp w w') (hc : w.cell? q = some v) : w'.cell? q = some v := by
  rw [Below.cell h (old_of_cell hc)]; exact hc
theorem kp_frozen {w w' : World} {q : Addr} {v : Value} (h : Kp w w') (hc : w.cell? q = some v) (hz : w.frozen? q = false) : w'.frozen? q = false := by
  rw [Below.frozen h (old_of_cell hc)]; exact hz
theorem kp_row {w w' : World} {b : Nat} {o : Obj} (h : Kp w w') (hr : w.heap[b]? = some o) : w'.heap[b]? = some o := by
  rw [Below.block h b (old_of_row hr)]; exact hr

theorem box_cell (w : World) (u : Value) (t : TypeId) : (w.alloc (.cells #[u] t)).cell? ⟨w.heap.size, 0, none⟩ = some u := by
  have e : (w.alloc (.cells #[u] t)).heap[w.heap.size]? = some (.cells #[u] t) := (MapKept.heap_alloc w _).1
  unfold World.cell?
  dsimp only
  rw [e]
  rfl
theorem box_frozen (w : World) (u : Value) (t : TypeId) : (w.alloc (.cells #[u] t)).frozen? ⟨w.heap.size, 0, none⟩ = false := by
  have e : (w.alloc (.cells #[u] t)).heap[w.heap.size]? = some (.cells #[u] t) := (MapKept.heap_alloc w _).1
  unfold World.frozen?
  dsimp only
  rw [e]
  rfl

theorem own_kp {w w' : World} {base : Nat} {e : TypeId} {size n : Nat} {v : Value} {xs : List Value} (h : w.ownsRow base e size v n xs) (hk : Kp w w') : w'.ownsRow base e size v n xs := by
  obtain ⟨h1, h2⟩ := h
  refine ⟨h1, ?_⟩
  rcases h2 with h2 | ⟨g, cap, cur, hv, hg, hh, r⟩
  · exact Or.inl h2
  · exact Or.inr ⟨g, cap, cur, hv, hg, kp_row hk hh, r⟩
theorem own_mono {w : World} {base base' : Nat} {e : TypeId} {size n : Nat} {v : Value} {xs : List Value} (h : w.ownsRow base e size v n xs) (hb : base' ≤ base) : w.ownsRow base' e size v n xs := by
  obtain ⟨h1, h2⟩ := h
  refine ⟨h1, ?_⟩
  rcases h2 with h2 | ⟨g, cap, cur, hv, hg, r⟩
  · exact Or.inl h2
  · exact Or.inr ⟨g, cap, cur, hv, Nat.le_trans hb hg, r⟩
theorem own_empty (w : World) (e : TypeId) : (w.alloc (.cells #[] e)).ownsRow w.heap.size e 1 (.slice (some ⟨w.heap.size, 0, none⟩) 0 0) 0 [] :=
  ⟨by simp, Or.inr ⟨w.heap.size, 0, #[], rfl, Nat.le_refl _, (MapKept.heap_alloc w _).1, Nat.le_refl _, by omega, by simp, by simp⟩⟩
theorem own_form {w : World} {base : Nat} {e : TypeId} {n : Nat} {v : Value} {xs : List Value} (h : w.ownsRow base e 1 v n xs) (hn : v ≠ .slice none 0 0) :
    ∃ g cap cur, v = .slice (some ⟨g, 0, none⟩) n cap ∧ base ≤ g ∧ w.heap[g]? = some (.cells cur e (0, 0)) ∧ n ≤ cap ∧ cap ≤ maxLen ∧ cur.size = cap ∧ cur.toList.take n = xs ∧ xs.length = n := by
  obtain ⟨h1, h2⟩ := h
  obtain ⟨g, cap, cur, a, b, c, d, e', f, i⟩ := h2.resolve_left (fun q => hn q.1)
  exact ⟨g, cap, cur, a, b, c, d, e', by omega, by simpa using i, by omega⟩
/-- An append of the call's own row turns no block of another type. -/
theorem row_grow {w w' : World} {base n : Nat} {e : TypeId} {v : Value} {xs : List Value} (hown : w.ownsRow base e 1 v n xs) (hgr : w.grownBy w' v.ownBlock) (b : Nat) (c : Array Value) (t : TypeId) (hb : w.heap[b]? = some (.cells c t (0, 0))) (ht : t ≠ e) :
    w'.heap[b]? = some (.cells c t (0, 0)) := by
  obtain ⟨-, hr⟩ := hown
  rcases hr with ⟨rfl, -⟩ | ⟨g, cap, cur, rfl, hg, hh, -⟩
  · rw [hgr.block b (old_of_row hb) (by simp [Value.ownBlock])]
    exact hb
  · rw [hgr.block b (old_of_row hb) ?_]
    · exact hb
    · intro q
      have : b = g := by simp [Value.ownBlock] at q; omega
      subst this
      rw [hh] at hb
      injection hb with hb
      injection hb with _ h2 _
      exact ht h2.symm
theorem row_kp {w0 w w' : World} {n : Nat} {e : TypeId} {v : Value} {xs : List Value} (hown : w.ownsRow w0.heap.size e 1 v n xs) (hgr : w.grownBy w' v.ownBlock) (hk : Kp w0 w) : Kp w0 w' := by
  obtain ⟨-, hr⟩ := hown
  rcases hr with ⟨rfl, -⟩ | ⟨g, cap, cur, rfl, hg, hh, -⟩
  · exact Below.grown hk hgr (Below.size hk) (fun k hk' => by simp [Value.ownBlock] at hk')
  · exact Below.grown hk hgr (Below.size hk) (fun k hk' => by simp [Value.ownBlock] at hk'; omega)
end Go.Proofs.YtahdoniggipmmaaGreatDoor

namespace Go.Proofs.YtahdoniggipmmaaGreatDoor
open Go.RowKit

abbrev snt (a : Addr) : Value := .iface 166 (.pointer (some a))
abbrev St (ads : List Addr) (w : World) : Prop := Errs gs14 ads w
end Go.Proofs.YtahdoniggipmmaaGreatDoor

namespace Go.Proofs.YtahdoniggipmmaaGreatDoor
open Go.RowKit Go.ChangeShapes Go.WideShapes

theorem store_fl (w : World) (a : Addr) (x : Nat) : (store a (.float .f64 x)).run Tryz.prog w = match w.cell? a with
      | some _ => if w.frozen? a then .halt (.unsupported (.unsafePointer "a write to bytes that a string shares")) w else .ok () (w.setCell a (.float .f64 x))
      | none => match w.farStore Tryz.prog a (.float .f64 x) (Mode.plain == .atomic) with
        | .ok (w', _) => .ok () w'
        | .error h => .halt h w := run_store Tryz.prog w a (.float .f64 x) .plain rfl
end Go.Proofs.YtahdoniggipmmaaGreatDoor

namespace Go.Proofs.YtahdoniggipmmaaGreatDoor
open Go.RowKit Go.ChangeShapes Go.WideShapes

/-- THE SLICE VALUE v READS AS THE BYTES bs. -/
def SlB (v : Value) (bs : List Int) (w : World) : Prop :=
  (bs = [] ∧ ∃ (a : Option Addr) (cap : Nat), v = .slice a 0 cap ∧ (a = none → cap = 0)) ∨
  ∃ b off cap, 0 < bs.length ∧ v = .slice (some ⟨b, off, none⟩) bs.length cap ∧ ∀ j, j < bs.length → w.cell? ⟨b, off + j, none⟩ = some (.int .u8 (bs.getD j 0))
/-- EACH IS A BYTE. -/
def InB (bs : List Int) : Prop := ∀ x ∈ bs, 0 ≤ x ∧ x < 256

theorem SlB.kp {v : Value} {bs : List Int} {w w' : World} (h : SlB v bs w) (hb : Kp w w') : SlB v bs w' := by
  rcases h with h | ⟨b, off, cap, h0, h1, h2⟩
  · exact Or.inl h
  · exact Or.inr ⟨b, off, cap, h0, h1, fun j hj => kp_cell hb (h2 j hj)⟩
theorem SlB.form {v : Value} {bs : List Int} {w : World} (h : SlB v bs w) : ∃ a cap, v = .slice a bs.length cap := by
  rcases h with ⟨rfl, a, cap, rfl, _⟩ | ⟨b, off, cap, _, rfl, _⟩
  · exact ⟨a, cap, rfl⟩
  · exact ⟨_, cap, rfl⟩
theorem SlB.at {a : Option Addr} {n cap : Nat} {bs : List Int} {w : World} (h : SlB (.slice a n cap) bs w) (j : Nat) (hj : j < bs.length) : ∃ b off, a = some ⟨b, off, none⟩ ∧ w.cell? ⟨b, off + j, none⟩ = some (.int .u8 (bs.getD j 0)) := by
  rcases h with ⟨hz, _⟩ | ⟨b, off, cap', _, hv, hcc⟩
  · rw [hz] at hj; cases hj
  · injection hv with hv1 _ _
    exact ⟨b, off, hv1, hcc j hj⟩

theorem byte_wf {x : Int} (h : (Lit.int .u8 x).wf = true) : 0 ≤ x ∧ x < 256 := by
  have h1 : IntKind.u8.min = 0 := rfl
  have h2 : IntKind.u8.max = 255 := rfl
  simp only [Lit.wf, Bool.and_eq_true, decide_eq_true_eq] at h
  omega
theorem trod_byte0 {H : Type} {enc : TypeId × Value → H} {P : Program} {w : World} {base : Nat} {spare : Nat → Bool} {held : Bool} {fuel : Nat} {t : TypeId} {cs : List Value} {x : DataW H × List MemPlace}
    (ht : P.underlying t = some (.int .u8)) (h : DataW.trod enc P w base spare held fuel t cs = some x) : ∃ b, cs = [.int .u8 b] ∧ x = (.lit (.int .u8 b), []) ∧ (Lit.int .u8 b).wf = true := by
  cases fuel with
  | zero => simp [DataW.trod] at h
  | succ n =>
    unfold DataW.trod at h
    rw [ht] at h
    split at h <;> simp_all
theorem trod_byte {H : Type} {enc : TypeId × Value → H} {P : Program} {w : World} {base : Nat} {spare : Nat → Bool} {held : Bool} {fuel : Nat} {t : TypeId} {cs : List Value} {x : DataW H × List MemPlace}
    (ht : P.underlying t = some (.int .u8)) (h : DataW.trod enc P w base spare held fuel t cs = some x) : ∃ b, cs = [.int .u8 b] ∧ 0 ≤ b ∧ b < 256 := by
  obtain ⟨b, h1, _, h2⟩ := trod_byte0 ht h
  exact ⟨b, h1, byte_wf h2⟩

theorem open_byte_elem {H : Type} {enc : TypeId × Value → H} {P : Program} {W : World} {fuel : Nat} {t e : TypeId} {cs : List Value} {x : DataW H × List MemPlace}
    (ht : P.underlying t = some (.slice e)) (he : P.underlying e = some (.int .u8)) (hc : P.cellsOf e = 1)
    (hf : DataW.trod enc P W 0 (fun _ => true) true fuel t cs = some x) : ∃ (bs : List Int) (a : Option Addr) (c : Nat), cs = [.slice a bs.length c] ∧ SlB (.slice a bs.length c) bs W ∧ InB bs ∧ bs.length ≤ maxLen ∧ bs.length ≤ c := by
  rcases Deep.open_slice1 ht hc hf with ⟨hcs, hx⟩ | ⟨a, len, cap, m, n, V, D, Pl, hcs, _, hl, hm, hmm, hx, hcell⟩
  · exact ⟨[], none, 0, hcs, Or.inl ⟨rfl, none, 0, rfl, fun _ => rfl⟩, (fun x hx => by cases hx), by simp, by simp⟩
  · simp only [if_true] at hmm
    have hel : ∀ i, i < len → ∃ b, V i = .int .u8 b ∧ 0 ≤ b ∧ b < 256 := by
      intro i hi
      obtain ⟨b, h1, h2⟩ := trod_byte he (hcell i (by omega)).2
      exact ⟨b, by simpa using h1, h2⟩
    let f : Nat → Int := fun i => match V i with | .int _ b => b | _ => 0
    have hf' : ∀ i, i < len → V i = .int .u8 (f i) ∧ 0 ≤ f i ∧ f i < 256 := by
      intro i hi
      obtain ⟨b, h1, h2⟩ := hel i hi
      have : f i = b := by show (match V i with | .int _ b => b | _ => 0) = b; rw [h1]
      rw [this]; exact ⟨h1, h2⟩
    refine ⟨(List.range len).map f, some a, cap, by simpa using hcs, ?_, ?_, by simp; omega, by simpa using hl⟩
    · by_cases h0 : len = 0
      · subst h0; exact Or.inl ⟨by simp, some a, cap, rfl, fun h => by cases h⟩
      · obtain ⟨b, off, spot⟩ := a
        have hspot : spot = none := by simpa [Addr.add] using World.cell?_spot (hcell 0 (by omega)).1
        subst hspot
        refine Or.inr ⟨b, off, cap, by simp; omega, by simp, fun j hj => ?_⟩
        have hj' : j < len := by simpa using hj
        rw [← add_plain, (hcell j (by omega)).1, (hf' j hj').1]
        simp [List.getD, hj']
    · intro b hb
      obtain ⟨i, hi, rfl⟩ := List.mem_map.1 hb
      exact (hf' i (by simpa using hi)).2

theorem open_bytes {H : Type} {enc : TypeId × Value → H} {P : Program} {W : World} {r : Reach} {b0 : Nat} {t e : TypeId} {v : Value} {d : DataW H} {ps : List MemPlace}
    (ht : P.underlying t = some (.slice e)) (he : P.underlying e = some (.int .u8)) (hc : P.cellsOf e = 1) (hval : Value.okWide P W r b0 t v)
    (h : DataW.Trod enc P W 0 (fun _ => true) true t v d ps) : ∃ (bs : List Int) (a : Option Addr) (c : Nat), v = .slice a bs.length c ∧ SlB (.slice a bs.length c) bs W ∧ InB bs ∧ bs.length ≤ maxLen ∧ bs.length ≤ c := by
  obtain ⟨a0, len0, cap0, rfl⟩ := okWide_slice ht hval
  obtain ⟨fuel, hf⟩ := h
  obtain ⟨bs, a, c, hcs, h1, h2, h3⟩ := open_byte_elem ht he hc hf
  simp [Value.cells] at hcs
  obtain ⟨rfl, rfl, rfl⟩ := hcs
  exact ⟨bs, a0, cap0, rfl, h1, h2, h3⟩

/-- string(b). -/
theorem conv_slb {w : World} {v : Value} {bs : List Int} (h : SlB v bs w) : (convert 29 9 v).run Tryz.prog w = .ok (.string (strOfNums bs)) w := by
  rcases h with ⟨rfl, a, cap, rfl, _⟩ | ⟨b, off, cap, h0, rfl, hc⟩
  · exact run_convert_bytes_zero w 29 5 Tryz.underlying29 Tryz.underlying5 a cap 9 Tryz.underlying9
  · exact run_convert_bytes_arg w 29 5 Tryz.underlying29 Tryz.underlying5 b off _ cap bs rfl hc 9 Tryz.underlying9

theorem str_inj {xs ys : List Int} (hx : InB xs) (hy : InB ys) (h : strOfNums xs = strOfNums ys) : xs = ys := by
  have h1 : (strOfNums xs).data.toList = (strOfNums ys).data.toList := by rw [h]
  rw [strOfNums_data, strOfNums_data] at h1
  clear h
  induction xs generalizing ys with
  | nil =>
    cases ys with
    | nil => rfl
    | cons y ys => simp at h1
  | cons x xs ih =>
    cases ys with
    | nil => simp at h1
    | cons y ys =>
      simp only [List.map_cons, List.cons.injEq] at h1
      have hx0 := hx x (by simp)
      have hy0 := hy y (by simp)
      have e : x = y := by
        have := congrArg UInt8.toNat h1.1
        simp at this
        omega
      rw [e, ih (fun z hz => hx z (by simp [hz])) (fun z hz => hy z (by simp [hz])) h1.2]

theorem own_slb {w : World} {base n : Nat} {v : Value} {bs : List Int} (h : w.ownsRow base 5 1 v n (bs.map (Value.int .u8))) : SlB v bs w := by
  obtain ⟨h1, h2⟩ := h
  have hlen : bs.length = n := by simpa using h1
  rcases h2 with ⟨rfl, hn⟩ | ⟨g, cap, cur, rfl, hg, hh, hc, hm, hs, ht⟩
  · left
    exact ⟨List.length_eq_zero_iff.1 (by omega), none, 0, rfl, fun _ => rfl⟩
  · by_cases h0 : n = 0
    · left
      subst h0
      exact ⟨List.length_eq_zero_iff.1 (by omega), _, cap, rfl, fun h => by cases h⟩
    · right
      refine ⟨g, 0, cap, by omega, by rw [hlen], fun j hj => ?_⟩
      unfold World.cell?
      dsimp only
      rw [hh]
      simp only [Option.isSome_none, Bool.false_eq_true, if_false, Nat.zero_add]
      have : (cur.toList.take (n * 1))[j]? = some (.int .u8 (bs.getD j 0)) := by
        rw [ht]; simp [List.getD, hj]
      rw [List.getElem?_take, Nat.mul_one, if_pos (by omega)] at this
      simpa using this

/-- WHAT AN append OF SUCH A SLICE ASKS. -/
theorem SlB.app {ao : Option Addr} {n c : Nat} {bs : List Int} {w : World} (h : SlB (.slice ao n c) bs w) : (ao = none → n = 0 ∧ c = 0) ∧ ∀ ad, ao = some ad → ∀ j u, (bs.map (Value.int .u8))[j]? = some u → w.cell? (ad.add j) = some u := by
  rcases h with ⟨rfl, a, cap, hv, hn⟩ | ⟨b, off, cap, h0, hv, hc⟩
  · injection hv with h1 h2 h3
    subst h1 h2 h3
    exact ⟨fun h => ⟨rfl, hn h⟩, fun ad _ j u hj => by simp at hj⟩
  · injection hv with h1 h2 h3
    subst h1 h2 h3
    refine ⟨(fun h => by cases h), fun ad had j u hj => ?_⟩
    injection had with had
    subst had
    rw [List.getElem?_map] at hj
    cases hb : bs[j]? with
    | none => rw [hb] at hj; simp at hj
    | some x =>
      rw [hb] at hj
      have hx : Value.int .u8 x = u := by simpa using hj
      have hjl : j < bs.length := by
        rcases Nat.lt_or_ge j bs.length with q | q
        · exact q
        · rw [List.getElem?_eq_none q] at hb; cases hb
      rw [add_plain, hc j hjl, ← hx]
      simp [List.getD, hb]
theorem bytes_one (bs : List Int) : ∀ u ∈ bs.map (Value.int .u8), u.oneCell' = true := by
  intro u hu
  obtain ⟨x, _, rfl⟩ := List.mem_map.1 hu
  rfl

theorem info_byte : (Tryz.prog.info? 5).map (fun i => (i.zero, i.size, i.bytes)) = some (some (.int .u8 0), 1, 1) := by kernel_rfl
end Go.Proofs.YtahdoniggipmmaaGreatDoor

namespace Go.Proofs.YtahdoniggipmmaaGreatDoor
open Go.RowKit

theorem SlB.len {ao : Option Addr} {m c : Nat} {bs : List Int} {w : World} (hb : SlB (.slice ao m c) bs w) : bs.length = m := by
  rcases hb with ⟨rfl, a', cap, hv, _⟩ | ⟨b, off, cap, _, hv, _⟩
  · injection hv with _ h2 _; rw [h2]; rfl
  · injection hv with _ h2 _; rw [h2]

set_option maxRecDepth 20000 in
theorem wpList_append_slb (w : World) {ops : Array Oper} {rest : List Oper} {o : Oper} {a : Act} {Q : Exit → Act → World → Prop} (hgd : o.guard = none) (s x : Operand)
    (ho : o.op = .call { callee := .builtin .append, args := #[s, x], argTypes := #[29, 29] })
    (base : Nat) (v : Value) (n : Nat) (xs : List Value) (hs : a.eval s = v) (hown : w.ownsRow base 5 1 v n xs)
    (ao : Option Addr) (m c : Nat) (bs : List Int) (hx : a.eval x = .slice ao m c) (hb : SlB (.slice ao m c) bs w) (h63 : n + m ≤ 1000000) (hbase : base ≤ w.heap.size)
    (h : ∀ v' w', w'.ownsRow base 5 1 v' (n + m) (xs ++ bs.map (Value.int .u8)) → w.grownBy w' v.ownBlock → (v ≠ .slice none 0 0 → v' ≠ .slice none 0 0) → wpList Tryz.prog ops Q rest (a.put o.dst v') w') : wpList Tryz.prog ops Q (o :: rest) a w := by
  obtain ⟨i0, hi, hz0, hz1, hz2⟩ := info_parts info_byte
  have hlen := hb.len
  cases ao with
  | none =>
    obtain ⟨rfl, rfl⟩ := hb.app.1 rfl
    have hbs : bs = [] := List.length_eq_zero_iff.1 hlen
    subst hbs
    refine wpList_append_own_none hgd s x 29 ho base 5 i0 1 Tryz.underlying29 hi v n xs hs hown hx (h v w (by simpa using hown) ⟨rfl, rfl, rfl, Nat.le_refl _, fun _ _ _ => rfl⟩ (fun h => h))
  | some ad =>
    refine wpList_append_own w hgd s x 29 ho base 5 i0 (.int .u8 0) 1 1 Tryz.underlying29 hi hz0 hz1 hz2 rfl (by decide) v n xs hs hown ad m c (bs.map (Value.int .u8)) hx (by rw [List.length_map, hlen, Nat.mul_one]) (hb.app.2 ad rfl) (bytes_one bs) (by unfold maxLen; omega) (by omega) hbase ?_
    intro v' w' h1 h2 h3
    exact h v' w' h1 h2 (fun hv hv' => hv (h3.1 hv').1)
end Go.Proofs.YtahdoniggipmmaaGreatDoor

namespace Go.Proofs.YtahdoniggipmmaaGreatDoor
open Go.RowKit

/-- the error of a number (0: none) -/
def errI (ads : List Addr) (k : Int) : Value := if k = 0 then .nilIface else .iface 166 (.pointer (ads[(k - 1).toNat]?))
theorem errI_nil (ads : List Addr) : errI ads 0 = .nilIface := rfl
theorem errI_at (ads : List Addr) (k : Nat) (hk : k < ads.length) : errI ads ((k : Int) + 1) = snt ads[k] := by
  unfold errI
  rw [if_neg (by omega), show ((k : Int) + 1 - 1).toNat = k by omega, List.getElem?_eq_getElem hk]
/-- Num of such an error -/
theorem num_errN (ads : List Addr) (w : World) (V : St ads w) (k : Int) (h0 : 0 ≤ k) (h1 : k ≤ 14) :
    Calls Tryz.prog 11 #[errI ads k] w fun e w' => e = .returned (.int .i64 k) ∧ Kp w w' := by
  have h14 : ads.length = 14 := V.len
  by_cases hk : k = 0
  · subst hk
    refine (num_nil w).mono ?_
    rintro e w' ⟨h, rfl⟩
    exact ⟨h, Kp.refl _⟩
  · obtain ⟨j, hj⟩ : ∃ j : Nat, k = (j : Int) + 1 := ⟨(k - 1).toNat, by omega⟩
    subst hj
    rw [errI_at ads j (by omega)]
    exact num_err ads w V j (by omega) (by omega)
end Go.Proofs.YtahdoniggipmmaaGreatDoor

namespace Go.Proofs.YtahdoniggipmmaaGreatDoor
open Go.RowKit Go.ChangeShapes Go.WideShapes

def rightA (n s : Int) : Bool := decide (0 ≤ n ∧ n < 4 ∧ 0 ≤ s ∧ s < 1000000)
set_option maxRecDepth 20000 in
theorem refRight_any (nn si : Int) (w : World) :
    Calls Tryz.prog 31 #[.agg #[.int .i64 nn, .int .i64 si]] w fun e w' => e = .returned (.bool (rightA nn si)) ∧ Kp w w' := by
  go_enter Tryz.func31, Tryz.ntmps31
  go_wp2
  all_goals (go_ret; refine ⟨?_, kp_alloc _ _⟩; simp [rightA, *] <;> (intros; omega))
end Go.Proofs.YtahdoniggipmmaaGreatDoor

namespace Go.Proofs.YtahdoniggipmmaaGreatDoor
open Go.RowKit

structure MM where
  k : Int
  f : Int
  t : Int
  n : Int
  s : Int
  r : Int
  p : Int
  o : Int
  c : Int
deriving DecidableEq
def MM.nums (m : MM) : List Int := [m.k, m.f, m.t, m.n, m.s, m.r, m.p, m.o, m.c]
def MM.cells (m : MM) : Array Value := #[.int .i64 m.k, .int .i64 m.f, .int .i64 m.t, .int .i64 m.n, .int .i64 m.s, .int .i64 m.r, .int .i64 m.p, .int .i64 m.o, .int .i64 m.c]
def noM : MM := ⟨0, 0, 0, 0, 0, 0, 0, 0, 0⟩
def rightM (m : MM) : Bool :=
  decide (1 ≤ m.k ∧ m.k ≤ 19 ∧ 0 ≤ m.f ∧ m.f ≤ 3 ∧ 0 ≤ m.t ∧ m.t ≤ 3) && rightA m.n m.s && decide (0 ≤ m.r ∧ m.r ≤ 5 ∧ 0 ≤ m.p ∧ m.p ≤ 7) &&
  (if m.k = 17 then decide (m.r = 0 ∧ m.c = 0 ∧ (m.o = 1 ∨ m.o = 2)) else if m.k = 18 then decide (m.c = 0 ∧ (m.o = 1 ∨ m.o = 2)) else if m.k = 19 then decide (m.o = 0 ∧ 1 ≤ m.c ∧ m.c ≤ 5) else if m.k = 16 then decide (m.o = 0 ∧ 1 ≤ m.c ∧ m.c ≤ 14) else decide (m.o = 0 ∧ m.c = 0))
def downM (k : Int) : Bool := decide (k = 2 ∨ 9 ≤ k ∧ k ≤ 14)
def upM (k : Int) : Bool := decide (k = 1 ∨ 3 ≤ k ∧ k ≤ 8)
def answerM (m : MM) (k c : Int) : MM := ⟨k, m.t, m.f, m.n, m.s, m.r, m.p, 0, c⟩
end Go.Proofs.YtahdoniggipmmaaGreatDoor

namespace Go.Proofs.YtahdoniggipmmaaGreatDoor
open Go.RowKit Go.ChangeShapes Go.WideShapes

def marks : List Int := [201, 202, 203, 204, 205, 206]
/-- A COPY WITH MARKED ROOM: the row g. -/
def Marked (g cap : Nat) (bs : List Int) (w : World) : Prop :=
  ∃ cur, w.heap[g]? = some (.cells cur 5 (0, 0)) ∧ cur.size = cap ∧ bs.length + 6 = cap ∧ cur.toList = (bs ++ marks).map (Value.int .u8)
theorem Marked.kp {g cap : Nat} {bs : List Int} {w w' : World} (h : Marked g cap bs w) (hk : Kp w w') : Marked g cap bs w' := by
  obtain ⟨cur, h1, h2⟩ := h
  exact ⟨cur, kp_row hk h1, h2⟩

set_option maxRecDepth 20000 in
theorem numBytes_any (a : Option Addr) (cap : Nat) (bs : List Int) (len : Nat) (hlen : bs.length = len) (hl : len ≤ 100000) (w : World) (hs : SlB (.slice a len cap) bs w) :
    Calls Tryz.prog 15 #[.slice a len cap] w fun e w' => e = .returned (.slice (some ⟨w.heap.size, 0, none⟩) len (len + 6)) ∧ Marked w.heap.size (len + 6) bs w' ∧ Kp w w' := by
  obtain ⟨i0, hi, hz0, hz1, hz2⟩ := info_parts info_byte
  have HS := Lib.hid hs
  have HI := Lib.hid (And.intro hz1 hz2)
  have HI2 := Lib.hid hi
  have HI3 := Lib.hid hz0
  have HL := Lib.hid hlen
  clear hs hlen hz1 hz2 hi hz0
  go_enter Tryz.func15, Tryz.ntmps15
  go_wp2_with (first | (refine wpList_make_own _ rfl _ _ 29 rfl w.heap.size 5 i0 (.int .u8 0) 1 Tryz.underlying29 HI2.out HI3.out HI.out.1 .i64 .i64 _ (len + 6) rfl rfl ?m1 ?m2 ?m3 ?m4 ?_))
  case m1 => omega
  case m2 => rw [HI.out.2]; omega
  case m3 => unfold maxLen; omega
  case m4 => exact Nat.le_refl _
  rintro w1 hown1 hgr1
  have K1 : Hid (Kp w w1) := Lib.hid ((Below.refl _ _).grown hgr1 (Nat.le_refl _) (fun k hk => by cases hk))
  have HS1 := Lib.hid (HS.out.kp K1.out)
  have OW1 := Lib.hid hown1
  clear hown1 hgr1
  go_wp2_with (at_builtin; refine wpList_append_fits_any _ rfl (.tmp 7) (.tmp 8) 29 rfl w.heap.size 5 i0 1 Tryz.underlying29 HI2.out HI.out.1 w.heap.size 0 (len + 6) _ rfl OW1.out a len cap (bs.map (Value.int .u8)) rfl ?c1 HS1.out.app.1 HS1.out.app.2 (bytes_one bs) ?c2 ?_)
  case c1 => rw [List.length_map, HL.out, Nat.mul_one]
  case c2 => omega
  rintro w2 hown2 hgr2
  have K2 : Hid (Kp w w2) := Lib.hid (Below.grown K1.out hgr2 (Below.size K1.out) (fun k hk => by injection hk with hk; omega))
  have OW2 := Lib.hid (own_kp hown2 (kp_alloc w2 (.cells #[.int .u8 201, .int .u8 202, .int .u8 203, .int .u8 204, .int .u8 205, .int .u8 206] 5)))
  have N2 : Hid ((w2.alloc (.cells #[.int .u8 201, .int .u8 202, .int .u8 203, .int .u8 204, .int .u8 205, .int .u8 206] 5)).heap[w2.heap.size]? = some (.cells #[.int .u8 201, .int .u8 202, .int .u8 203, .int .u8 204, .int .u8 205, .int .u8 206] 5 (0, 0))) := Lib.hid (MapKept.heap_alloc w2 _).1
  clear hown2 hgr2
  go_wp2_with (at_builtin; refine wpList_append_fits _ rfl (.tmp 9) (.tmp 10) 29 rfl w.heap.size 5 i0 1 Tryz.underlying29 HI2.out HI.out.1 w.heap.size _ (len + 6) _ rfl OW2.out ⟨w2.heap.size, 0, none⟩ 6 6 (marks.map (Value.int .u8)) rfl rfl ?d1 ?d2 ?d3 ?_)
  case d1 =>
    intro j u hj
    rw [add_plain]
    unfold World.cell?
    dsimp only
    rw [N2.out]
    have hj6 : j < 6 := by
      rcases Nat.lt_or_ge j 6 with q | q
      · exact q
      · rw [List.getElem?_eq_none (by simpa [marks] using q)] at hj; cases hj
    match j, hj6, hj with
    | 0, _, hj | 1, _, hj | 2, _, hj | 3, _, hj | 4, _, hj | 5, _, hj => simpa [marks] using hj
  case d2 => exact bytes_one marks
  case d3 => omega
  rintro w3 hown3 hgr3
  have K3 : Hid (Kp w w3) := Lib.hid (Below.grown (Kp.trans K2.out (kp_alloc w2 _)) hgr3 (by have := Below.size K2.out; simp; omega) (fun k hk => by injection hk with hk; omega))
  have OW3 := Lib.hid hown3
  clear hown3 hgr3
  go_wp2
  go_ret
  refine ⟨rfl, ?_, K3.out⟩
  obtain ⟨g, cap3, cur, hv, hg, hh, hnc, hcm, hcs, htk, hxl⟩ := own_form OW3.out (by intro h; cases h)
  injection hv with h1 h2 h3
  injection h1 with h1
  injection h1 with h1
  subst h1 h3
  refine ⟨cur, hh, hcs, by rw [HL.out], ?_⟩
  rw [List.map_append, ← htk, List.take_of_length_le]
  simp [hcs]

theorem Marked.sl {g cap : Nat} {bs : List Int} {w : World} (h : Marked g cap bs w) : SlB (.slice (some ⟨g, 0, none⟩) bs.length cap) bs w := by
  obtain ⟨cur, h1, h2, h3, h4⟩ := h
  by_cases h0 : bs.length = 0
  · left
    exact ⟨List.length_eq_zero_iff.1 h0, _, cap, by rw [h0], fun h => by cases h⟩
  · right
    refine ⟨g, 0, cap, by omega, rfl, fun j hj => ?_⟩
    unfold World.cell?
    dsimp only
    rw [h1]
    simp only [Option.isSome_none, Bool.false_eq_true, if_false, Nat.zero_add]
    have e : cur.toList[j]? = some (.int .u8 (bs.getD j 0)) := by
      rw [h4, List.getElem?_map, List.getElem?_append_left hj]
      simp [List.getD, hj]
    simpa using e
theorem Marked.mark {g cap : Nat} {bs : List Int} {w : World} (h : Marked g cap bs w) (j : Nat) (hj : j < 6) : w.cell? ⟨g, bs.length + j, none⟩ = some (.int .u8 (marks.getD j 0)) := by
  obtain ⟨cur, h1, h2, h3, h4⟩ := h
  unfold World.cell?
  dsimp only
  rw [h1]
  simp only [Option.isSome_none, Bool.false_eq_true, if_false]
  have hm : j < marks.length := hj
  have e : cur.toList[bs.length + j]? = some (.int .u8 (marks.getD j 0)) := by
    rw [h4, List.getElem?_map, List.getElem?_append_right (by omega)]
    simp [List.getD, hm]
  simpa using e
end Go.Proofs.YtahdoniggipmmaaGreatDoor

namespace Go.Proofs.YtahdoniggipmmaaGreatDoor
open Go.RowKit Go.ChangeShapes Go.WideShapes

set_option maxRecDepth 20000 in
theorem numKept_any (g : Nat) (v : Value) (bs : List Int) (len : Nat) (hlen : bs.length = len) (hl : len ≤ 100000) (w : World) (hm : Marked g (len + 6) bs w) (hs : SlB v bs w) :
    Calls Tryz.prog 17 #[.slice (some ⟨g, 0, none⟩) len (len + 6), v] w fun e w' => e = .returned (.bool true) ∧ Kp w w' := by
  obtain ⟨a, cap, rfl⟩ := hs.form
  have hsl := hm.sl
  rw [hlen] at hs hsl ⊢
  have v1 : (convert 29 9 (.slice (some ⟨g, 0, none⟩) len (len + 6))).run Tryz.prog w.drew = .ok (.string (strOfNums bs)) w.drew := conv_slb (hsl.kp (Kp.refl w).drew)
  have v2 : (convert 29 9 (.slice a len cap)).run Tryz.prog w.drew = .ok (.string (strOfNums bs)) w.drew := conv_slb (hs.kp (Kp.refl w).drew)
  have m0 : w.cell? ⟨g, len + 0, none⟩ = some (.int .u8 201) := by rw [← hlen]; exact hm.mark 0 (by omega)
  have m1 : w.cell? ⟨g, len + 1, none⟩ = some (.int .u8 202) := by rw [← hlen]; exact hm.mark 1 (by omega)
  have m2 : w.cell? ⟨g, len + 2, none⟩ = some (.int .u8 203) := by rw [← hlen]; exact hm.mark 2 (by omega)
  have m3 : w.cell? ⟨g, len + 3, none⟩ = some (.int .u8 204) := by rw [← hlen]; exact hm.mark 3 (by omega)
  have m4 : w.cell? ⟨g, len + 4, none⟩ = some (.int .u8 205) := by rw [← hlen]; exact hm.mark 4 (by omega)
  have m5 : w.cell? ⟨g, len + 5, none⟩ = some (.int .u8 206) := by rw [← hlen]; exact hm.mark 5 (by omega)
  rw [Nat.add_zero] at m0
  clear hm hs hsl hlen
  go_enter Tryz.func17, Tryz.ntmps17
  go_wp2
  go_region
  all_goals go_wp2
  refine wp_loop_rounds 7 ?_
  rw [rounds_succ]
  go_wp2
  rw [rounds_succ]
  go_wp2
  rw [rounds_succ]
  go_wp2
  rw [rounds_succ]
  go_wp2
  rw [rounds_succ]
  go_wp2
  rw [rounds_succ]
  go_wp2
  rw [rounds_succ]
  go_wp2
  go_ret
  exact ⟨rfl, (Kp.refl w).drew⟩
end Go.Proofs.YtahdoniggipmmaaGreatDoor

namespace Go.Proofs.YtahdoniggipmmaaGreatDoor
open Go.RowKit Go.ChangeShapes Go.WideShapes

/-- bytes as a number, the high one first -/
def beNum (bs : List Int) : Int := bs.foldl (fun u c => 256 * u + c) 0
theorem beNum_next {bs : List Int} {j : Nat} (h : j < bs.length) : beNum (bs.take (j + 1)) = 256 * beNum (bs.take j) + bs[j] := by
  rw [List.take_add_one, List.getElem?_eq_getElem h]
  unfold beNum
  rw [List.foldl_append]
  rfl
theorem beNum_range {bs : List Int} (h : InB bs) : ∀ j, j ≤ bs.length → 0 ≤ beNum (bs.take j) ∧ beNum (bs.take j) < 256 ^ j
  | 0, _ => by simp [beNum]
  | j + 1, hj => by
    rw [beNum_next (by omega)]
    have h1 := beNum_range h j (by omega)
    have h2 := h bs[j] (List.getElem_mem _)
    have e : (256 : Int) ^ (j + 1) = 256 * 256 ^ j := by rw [Int.pow_succ, Int.mul_comm]
    rw [e]
    generalize (256 : Int) ^ j = p at *
    omega

theorem p256_pos : ∀ j : Nat, 0 < (256 : Int) ^ j
  | 0 => by decide
  | j + 1 => by
    have := p256_pos j
    rw [Int.pow_succ]
    omega
theorem p256_le {j k : Nat} (h : j ≤ k) : (256 : Int) ^ j ≤ 256 ^ k := by
  induction h with
  | refl => exact Int.le_refl _
  | step _ ih =>
    rename_i m _
    have := p256_pos m
    rw [Int.pow_succ]
    omega

/-- WHAT ToNumber ANSWERS: the number, the error's number. -/
def toNum (bs : List Int) : Int × Int :=
  if 0 < bs.length ∧ bs.getD 0 0 = 0 then (0, 4) else if 8 < bs.length then (0, 1) else if 9223372036854775807 < beNum bs then (0, 1) else (beNum bs, 0)

set_option maxRecDepth 100000 in
theorem refToNumber_any (a : Option Addr) (cap : Nat) (bs : List Int) (len : Nat) (hlen : bs.length = len) (hl : len ≤ 100000) (hb : InB bs) (w : World) (hs : SlB (.slice a len cap) bs w) :
    Calls Tryz.prog 52 #[.slice a len cap] w fun e w' => e = .returned (.tuple #[.int .i64 (toNum bs).1, .int .i64 (toNum bs).2]) ∧ w = w' := by
  have hel : ∀ j (hj : j < bs.length), ∃ b off, a = some ⟨b, off, none⟩ ∧ w.cell? ⟨b, off + j, none⟩ = some (.int .u8 (bs.getD j 0)) := fun j hj => hs.at j hj
  by_cases h0 : 0 < bs.length ∧ bs.getD 0 0 = 0
  · have e : toNum bs = (0, 4) := by unfold toNum; rw [if_pos h0]
    rw [e]
    obtain ⟨b, off, rfl, hc⟩ := hel 0 h0.1
    rw [h0.2, Nat.add_zero] at hc
    have hp : 0 < len := by omega
    clear e hel hs h0
    go_enter Tryz.func52, Tryz.ntmps52
    go_wp2
    go_ret2
    exact ⟨rfl, rfl⟩
  · have e0 : toNum bs = if 8 < bs.length then (0, 1) else if 9223372036854775807 < beNum bs then (0, 1) else (beNum bs, 0) := by unfold toNum; rw [if_neg h0]
    have hd : len = 0 ∨ ∃ b off x, a = some ⟨b, off, none⟩ ∧ w.cell? ⟨b, off, none⟩ = some (.int .u8 x) ∧ x ≠ 0 := by
      rcases Nat.eq_zero_or_pos len with q | q
      · exact .inl q
      · obtain ⟨b, off, h1, h2⟩ := hel 0 (by omega)
        rw [Nat.add_zero] at h2
        exact .inr ⟨b, off, _, h1, h2, fun h => h0 ⟨by omega, h⟩⟩
    by_cases h8 : 8 < bs.length
    · have e : toNum bs = (0, 1) := by rw [e0, if_pos h8]
      rw [e]
      rcases hd with q | ⟨b, off, x, rfl, hc, hx⟩
      · omega
      have hp : 0 < len := by omega
      have h8' : ¬ len ≤ 8 := by omega
      have h8b : 8 < len := by omega
      have hx' : (x == 0) = false := by simp; exact hx
      clear e e0 hel hs h0 h8
      go_enter Tryz.func52, Tryz.ntmps52
      go_wp2
      go_ret2
      exact ⟨rfl, rfl⟩
    · obtain ⟨F, hF⟩ : ∃ F, beNum bs = F := ⟨_, rfl⟩
      have e : toNum bs = if 9223372036854775807 < F then (0, 1) else (F, 0) := by rw [e0, if_neg h8, hF]
      have h8' : ¬ 8 < len := by omega
      have hr := beNum_range hb
      have hn := fun j (h : j < bs.length) => beNum_next h
      have HEL := Lib.hid hel
      have HR := Lib.hid hr
      have HNX := Lib.hid hn
      have HB := Lib.hid hb
      have HF := Lib.hid hF
      have HL := Lib.hid hlen
      rw [e]
      clear e e0 hel hs h0 h8 hr hn hb hF hlen
      rcases Nat.eq_zero_or_pos len with rfl | hp
      · have hF0 : F = 0 := by
          have : bs = [] := List.length_eq_zero_iff.1 HL.out
          rw [← HF.out, this]; rfl
        subst hF0
        rw [if_neg (by decide)]
        go_enter Tryz.func52, Tryz.ntmps52
        go_wp2
        refine wp_loop_rounds 1 ?_
        rw [rounds_succ]
        go_wp2
        go_ret2
        exact ⟨rfl, rfl⟩
      · obtain ⟨b, off, x, rfl, hc, hx⟩ := hd.resolve_left (by omega)
        clear hd
        have hx' : (x == 0) = false := by simp; exact hx
        have hF64 : 0 ≤ F ∧ F < 18446744073709551616 := by
          have h := HR.out bs.length (Nat.le_refl _)
          rw [List.take_length, HF.out] at h
          have hp8 : (256 : Int) ^ bs.length ≤ 256 ^ 8 := p256_le (by have := HL.out; omega)
          have e8 : (256 : Int) ^ 8 = 18446744073709551616 := by decide
          omega
        obtain ⟨ret, hret⟩ : ∃ ret : Int × Int, (if 9223372036854775807 < F then ((0 : Int), (1 : Int)) else (F, 0)) = ret := ⟨_, rfl⟩
        rw [hret]
        have HRET := Lib.hid hret
        clear hret
        go_enter Tryz.func52, Tryz.ntmps52
        go_wp2
        go_loop [4, 21] (fun u i => ∃ j : Nat, j ≤ len ∧ i = .int .i64 j ∧ u = .int .u64 (beNum (bs.take j))) (fun _ i => len - (intOf i).toNat)
        case atStart => exact ⟨0, Nat.zero_le _, rfl, rfl⟩
        case round =>
          obtain ⟨j, hj, rfl, rfl⟩ := hrel
          obtain ⟨jj, hjj⟩ : ∃ jj : Int, (j : Int) = jj := ⟨_, rfl⟩
          obtain ⟨uu, huu⟩ : ∃ uu, beNum (bs.take j) = uu := ⟨_, rfl⟩
          rw [hjj, huu]
          have hl := HL.out
          by_cases hlt : j < len
          · have hjl : j < bs.length := by omega
            obtain ⟨b2, off2, hb2, hc2⟩ := HEL.out j hjl
            injection hb2 with hb2
            injection hb2 with h1 h2
            subst h1 h2
            have hnx := HNX.out j hjl
            have hbb := HB.out bs[j] (List.getElem_mem _)
            have hru := HR.out j (by omega)
            obtain ⟨y, hy⟩ : ∃ y, bs[j] = y := ⟨_, rfl⟩
            have hy2 : bs.getD j 0 = y := by simp [List.getD, hjl, hy]
            rw [hy2] at hc2
            rw [hy] at hnx hbb
            rw [huu] at hnx hru
            have hp7 : (256 : Int) ^ j ≤ 256 ^ 7 := p256_le (by omega)
            have e7 : (256 : Int) ^ 7 = 72057594037927936 := by decide
            have hub : 0 ≤ uu ∧ uu < 72057594037927936 := by omega
            have ej : jj.toNat = j := by omega
            rw [← ej] at hc2
            have hj0 : 0 ≤ jj := by omega
            have hltj : jj < len := by omega
            have HJ := Lib.hid hjj
            have HNXT := Lib.hid hnx
            clear hjj huu hnx hru hp7 e7 hy hy2 ej hlt hjl hl
            go_wp2
            have hjj := HJ.out
            go_round
            case rel =>
              refine ⟨j + 1, by omega, by congr 1; omega, ?_⟩
              rw [HNXT.out]
            case measure => simp [intOf]; omega
          · obtain rfl : j = len := by omega
            have hex : ¬ jj < j := by omega
            have hful : bs.take j = bs := by rw [List.take_of_length_le]; omega
            rw [hful, HF.out] at huu
            subst huu
            clear hjj hful hl
            by_cases hbig : 9223372036854775807 < F
            · obtain rfl : ret = (0, 1) := by rw [← HRET.out, if_pos hbig]
              go_wp2
              go_ret2
              exact ⟨rfl, rfl⟩
            · obtain rfl : ret = (F, 0) := by rw [← HRET.out, if_neg hbig]
              go_wp2
              go_ret2
              exact ⟨rfl, rfl⟩

/-- the bytes of a number, the high one first; k: as many as may be needed -/
def beF : Nat → Nat → List Int
  | 0, _ => []
  | k + 1, n => if n = 0 then [] else beF k (n / 256) ++ [((n % 256 : Nat) : Int)]
theorem beF_len : ∀ k n, (beF k n).length ≤ k
  | 0, _ => by simp [beF]
  | k + 1, n => by
    unfold beF
    split
    · simp
    · have := beF_len k (n / 256)
      simp
      omega
theorem beF_inB : ∀ k n, InB (beF k n)
  | 0, _ => by intro x hx; cases hx
  | k + 1, n => by
    unfold beF
    split
    · intro x hx; cases hx
    · intro x hx
      rcases List.mem_append.1 hx with h | h
      · exact beF_inB k _ x h
      · simp at h
        omega

set_option maxRecDepth 20000 in
theorem refNumber_any (k : Nat) (hk : k ≤ 8) : ∀ (n : Nat), n < 256 ^ k → ∀ (nn : Int), (n : Int) = nn → ∀ (w : World),
    Calls Tryz.prog 45 #[.int .i64 nn] w fun e w' => ∃ v, e = .returned v ∧ w'.ownsRow w.heap.size 5 1 v (beF k n).length ((beF k n).map (Value.int .u8)) ∧ Kp w w' := by
  induction k with
  | zero =>
    intro n hn nn hnn w
    obtain rfl : n = 0 := by simpa using hn
    subst hnn
    go_enter Tryz.func45, Tryz.ntmps45
    go_wp2
    go_ret
    exact ⟨_, rfl, ⟨by simp [beF], .inl ⟨rfl, rfl⟩⟩, Kp.refl _⟩
  | succ k ih =>
    intro n hn nn hnn w
    by_cases h0 : n = 0
    · subst h0
      subst hnn
      go_enter Tryz.func45, Tryz.ntmps45
      go_wp2
      go_ret
      exact ⟨_, rfl, ⟨by simp [beF], .inl ⟨rfl, rfl⟩⟩, Kp.refl _⟩
    · obtain ⟨i0, hi, hz0, hz1, hz2⟩ := info_parts info_byte
      have hn63 : n < 18446744073709551616 := by
        have h8 : 256 ^ (k + 1) ≤ 256 ^ 8 := Nat.pow_le_pow_right (by decide) hk
        have e8 : 256 ^ 8 = 18446744073709551616 := by decide
        omega
      have hq : n / 256 < 256 ^ k := by
        rw [Nat.pow_succ] at hn
        omega
      have hb : beF (k + 1) n = beF k (n / 256) ++ [((n % 256 : Nat) : Int)] := by rw [beF, if_neg h0]
      obtain ⟨qq, hqq⟩ : ∃ qq : Int, ((n / 256 : Nat) : Int) = qq := ⟨_, rfl⟩
      obtain ⟨rr, hrr⟩ : ∃ rr : Int, ((n % 256 : Nat) : Int) = rr := ⟨_, rfl⟩
      have IH := Lib.hid (ih (by omega) (n / 256) hq qq hqq w)
      have h1 : nn.tdiv 256 = qq := by rw [Int.tdiv_eq_ediv_of_nonneg (by omega)]; omega
      have h2 : nn.tmod 256 = rr := by rw [Int.tmod_eq_emod_of_nonneg (by omega)]; omega
      have hq0 : 0 ≤ qq ∧ qq < 72057594037927937 := by omega
      have hr0 : 0 ≤ rr ∧ rr < 256 := by omega
      have hne : (nn == 0) = false := by simp; omega
      rw [hrr] at hb
      rw [hb]
      have HL := Lib.hid (beF_len k (n / 256))
      have HI := Lib.hid (And.intro hz1 hz2)
      have HI2 := Lib.hid hi
      have HI3 := Lib.hid hz0
      obtain ⟨bl, hbl⟩ : ∃ bl, beF k (n / 256) = bl := ⟨_, rfl⟩
      rw [hbl] at IH HL ⊢
      clear ih hn hn63 hq hb hqq hrr hnn h0 hbl hz1 hz2 hi hz0
      go_enter Tryz.func45, Tryz.ntmps45
      go_wp2_with (first | (go_at_call 45; (with_reducible refine IH.out.mono ?_); rintro e w1 ⟨v1, rfl, hown1, hk1⟩; have OW1 := Lib.hid hown1; have HK1 := Lib.hid hk1; clear hown1 hk1) | (at_builtin; refine wpList_append_own _ rfl _ _ 29 rfl w.heap.size 5 i0 (.int .u8 0) 1 1 Tryz.underlying29 HI2.out HI3.out HI.out.1 HI.out.2 rfl (by decide) _ _ _ rfl (own_kp OW1.out (kp_alloc w1 _)) ⟨w1.heap.size, 0, none⟩ 1 1 [.int .u8 rr] rfl ?c1 ?c2 ?c3 ?c4 ?c5 ?c6 ?_))
      case c1 => rfl
      case c2 =>
        intro i u hi
        match i, hi with
        | 0, hi => simp at hi; subst hi; rw [add_plain]; exact box_cell _ _ _
      case c3 => intro u hu; simp at hu; subst hu; rfl
      case c4 => have := HL.out; unfold maxLen; omega
      case c5 => have := HL.out; omega
      case c6 => have := Below.size HK1.out; simp; omega
      rintro v2 w2 hown2 hgr2 -
      have kp2 : Kp w w2 := row_kp (own_kp OW1.out (kp_alloc w1 _)) hgr2 (Kp.trans HK1.out (kp_alloc w1 _))
      have OW2 := Lib.hid hown2
      have HK2 := Lib.hid kp2
      clear hown2 hgr2 kp2
      go_wp2
      go_ret
      exact ⟨_, rfl, by simpa using OW2.out, HK2.out⟩
end Go.Proofs.YtahdoniggipmmaaGreatDoor

namespace Go.Proofs.YtahdoniggipmmaaGreatDoor
open Go.RowKit Go.ChangeShapes Go.WideShapes

/-- THE VALUE OF THE DATA OF A FIELD reads as bytes. -/
def DatB (v : Value) (bs : List Int) (w : World) : Prop := ∃ (a : Option Addr) (c : Nat), v = .slice a bs.length c ∧ SlB (.slice a bs.length c) bs w ∧ InB bs
/-- THE SLICE VALUE v READS AS THE FIELDS fs. -/
def SlQ (v : Value) (fs : List (Int × List Int)) (w : World) : Prop :=
  (fs = [] ∧ ∃ (a : Option Addr) (cap : Nat), v = .slice a 0 cap ∧ (a = none → cap = 0)) ∨
  ∃ b off cap, 0 < fs.length ∧ v = .slice (some ⟨b, off, none⟩) fs.length cap ∧ ∀ (j : Nat) (h : j < fs.length), w.cell? ⟨b, off + j * 2, none⟩ = some (.int .i64 fs[j].1) ∧ ∃ d, w.cell? ⟨b, off + j * 2 + 1, none⟩ = some d ∧ DatB d fs[j].2 w

theorem DatB.kp {v : Value} {bs : List Int} {w w' : World} (h : DatB v bs w) (hb : Kp w w') : DatB v bs w' := by
  obtain ⟨a, c, h1, h2, h3⟩ := h
  exact ⟨a, c, h1, h2.kp hb, h3⟩
theorem SlQ.kp {v : Value} {fs : List (Int × List Int)} {w w' : World} (h : SlQ v fs w) (hb : Kp w w') : SlQ v fs w' := by
  rcases h with h | ⟨b, off, cap, h0, h1, h2⟩
  · exact Or.inl h
  · refine Or.inr ⟨b, off, cap, h0, h1, fun j hj => ?_⟩
    obtain ⟨h3, d, h4, h5⟩ := h2 j hj
    exact ⟨kp_cell hb h3, d, kp_cell hb h4, h5.kp hb⟩
theorem SlQ.form {v : Value} {fs : List (Int × List Int)} {w : World} (h : SlQ v fs w) : ∃ a cap, v = .slice a fs.length cap := by
  rcases h with ⟨rfl, a, cap, rfl, _⟩ | ⟨b, off, cap, _, rfl, _⟩
  · exact ⟨a, cap, rfl⟩
  · exact ⟨_, cap, rfl⟩
theorem SlQ.at {a : Option Addr} {n cap : Nat} {fs : List (Int × List Int)} {w : World} (h : SlQ (.slice a n cap) fs w) (j : Nat) (hj : j < fs.length) :
    ∃ b off, a = some ⟨b, off, none⟩ ∧ w.cell? ⟨b, off + j * 2, none⟩ = some (.int .i64 fs[j].1) ∧ ∃ a' c, w.cell? ⟨b, off + j * 2 + 1, none⟩ = some (.slice a' fs[j].2.length c) ∧ SlB (.slice a' fs[j].2.length c) fs[j].2 w ∧ InB fs[j].2 := by
  rcases h with ⟨hz, _⟩ | ⟨b, off, cap', _, hv, hcc⟩
  · rw [hz] at hj; cases hj
  · injection hv with hv1 _ _
    obtain ⟨h1, d, h2, a', c, rfl, h3, h4⟩ := hcc j hj
    exact ⟨b, off, hv1, h1, a', c, h2, h3, h4⟩

theorem trod_int {H : Type} {enc : TypeId × Value → H} {P : Program} {w : World} {base : Nat} {spare : Nat → Bool} {held : Bool} {fuel : Nat} {t : TypeId} {cs : List Value} {x : DataW H × List MemPlace} {k : IntKind}
    (ht : P.underlying t = some (.int k)) (h : DataW.trod enc P w base spare held fuel t cs = some x) : ∃ b, cs = [.int k b] := by
  cases fuel with
  | zero => simp [DataW.trod] at h
  | succ n =>
    unfold DataW.trod at h
    rw [ht] at h
    split at h <;> simp_all

theorem fieldFields : ∃ f0 f1 : Field, Tryz.prog.underlying 64 = some (.struct #[f0, f1]) ∧ f0.type = 3 ∧ f1.type = 29 ∧ f0.offset = 0 ∧ f1.offset = 1 := ⟨_, _, Tryz.underlying64, rfl, rfl, rfl, rfl⟩

theorem open_fields {H : Type} {enc : TypeId × Value → H} {P : Program} {W : World} {r : Reach} {b0 : Nat} {t e eb : TypeId} {f0 f1 : Field} {v : Value} {d : DataW H} {ps : List MemPlace}
    (ht : P.underlying t = some (.slice e)) (he : P.underlying e = some (.struct #[f0, f1])) (ce : P.cellsOf e = 2) (o0 : f0.offset = 0) (o1 : f1.offset = 1) (c0 : P.cellsOf f0.type = 1) (c1 : P.cellsOf f1.type = 1)
    (t0 : P.underlying f0.type = some (.int .i64)) (t1 : P.underlying f1.type = some (.slice eb)) (tb : P.underlying eb = some (.int .u8)) (cb : P.cellsOf eb = 1)
    (hval : Value.okWide P W r b0 t v)
    (h : DataW.Trod enc P W 0 (fun _ => true) true t v d ps) : ∃ fs : List (Int × List Int), SlQ v fs W ∧ fs.length ≤ maxLen := by
  obtain ⟨a0, len0, cap0, rfl⟩ := okWide_slice ht hval
  obtain ⟨fuel, hf⟩ := h
  rcases Deep.open_slice_pairs ht he ce o0 o1 c0 c1 hf with ⟨hcs, hx⟩ | ⟨a, len, cap, m, n, V0, V1, D0, D1, P0, P1, hcs, _, hl, hm, hmm, hx, hcell⟩
  · simp [Value.cells] at hcs
    obtain ⟨rfl, rfl, rfl⟩ := hcs
    exact ⟨[], Or.inl ⟨rfl, none, 0, rfl, fun _ => rfl⟩, by simp⟩
  · simp [Value.cells] at hcs
    obtain ⟨rfl, rfl, rfl⟩ := hcs
    simp only [if_true] at hmm
    have hel : ∀ i, i < len0 → ∃ q : Int × List Int, V0 i = .int .i64 q.1 ∧ DatB (V1 i) q.2 W := by
      intro i hi
      obtain ⟨_, _, h2, h3⟩ := hcell i (by omega)
      obtain ⟨x, hx⟩ := trod_int t0 h2
      obtain ⟨bs, a', c, h4, h5, h6, _⟩ := open_byte_elem t1 tb cb h3
      exact ⟨(x, bs), by simpa using hx, a', c, by simpa using h4, h5, h6⟩
    let f : Nat → Int × List Int := fun i => if h : i < len0 then (hel i h).choose else (0, [])
    have hf' : ∀ i, i < len0 → V0 i = .int .i64 (f i).1 ∧ DatB (V1 i) (f i).2 W := by
      intro i hi
      have e : f i = (hel i hi).choose := by show (if h : i < len0 then (hel i h).choose else (0, [])) = _; rw [dif_pos hi]
      rw [e]
      exact (hel i hi).choose_spec
    refine ⟨(List.range len0).map f, ?_, by simp; omega⟩
    by_cases h0 : len0 = 0
    · subst h0; exact Or.inl ⟨by simp, some a, cap0, rfl, fun h => by cases h⟩
    · obtain ⟨b, off, spot⟩ := a
      have hspot : spot = none := by simpa [Addr.add] using World.cell?_spot (hcell 0 (by omega)).1
      subst hspot
      refine Or.inr ⟨b, off, cap0, by simp; omega, by simp, fun j hj => ?_⟩
      have hj' : j < len0 := by simpa using hj
      obtain ⟨c0, c1, _⟩ := hcell j (by omega)
      obtain ⟨e0, e1⟩ := hf' j hj'
      rw [add_plain] at c0 c1
      refine ⟨by rw [c0, e0]; simp, V1 j, by rw [Nat.add_assoc]; exact c1, by simpa using e1⟩
end Go.Proofs.YtahdoniggipmmaaGreatDoor

namespace Go.Proofs.YtahdoniggipmmaaGreatDoor
open Go.RowKit Go.ChangeShapes Go.WideShapes

/-- the bytes of one field, of a row -/
def fieldB (f : Int × List Int) : List Int := [f.1, 0, f.2.length] ++ f.2
def joinB (fs : List (Int × List Int)) : List Int := fs.flatMap fieldB
theorem joinB_next {fs : List (Int × List Int)} {j : Nat} (h : j < fs.length) : joinB (fs.take (j + 1)) = joinB (fs.take j) ++ fieldB fs[j] := by
  rw [List.take_add_one, List.getElem?_eq_getElem h]
  unfold joinB
  rw [List.flatMap_append]
  simp
def Small (fs : List (Int × List Int)) : Prop := ∀ f ∈ fs, 0 ≤ f.1 ∧ f.1 ≤ 255 ∧ f.2.length ≤ 200
theorem joinB_len {fs : List (Int × List Int)} (h : Small fs) : ∀ j, j ≤ fs.length → (joinB (fs.take j)).length ≤ 203 * j
  | 0, _ => by simp [joinB]
  | j + 1, hj => by
    rw [joinB_next (by omega), List.length_append]
    have h1 := joinB_len h j (by omega)
    have h2 := (h fs[j] (List.getElem_mem _)).2.2
    simp [fieldB]
    omega

set_option maxRecDepth 20000 in
set_option maxHeartbeats 1000000 in
theorem refJoin_any (a : Option Addr) (cap : Nat) (fs : List (Int × List Int)) (len : Nat) (hlen : fs.length = len) (hl : len ≤ 16) (hsm : Small fs) (w : World) (hs : SlQ (.slice a len cap) fs w) :
    Calls Tryz.prog 47 #[.slice a len cap] w fun e w' => ∃ v, e = .returned v ∧ SlB v (joinB fs) w' ∧ Kp w w' := by
  have hel : ∀ wr, Kp w wr → ∀ j (hj : j < fs.length), ∃ b off, a = some ⟨b, off, none⟩ ∧ wr.cell? ⟨b, off + j * 2, none⟩ = some (.int .i64 fs[j].1) ∧ ∃ a' c, wr.cell? ⟨b, off + j * 2 + 1, none⟩ = some (.slice a' fs[j].2.length c) ∧ SlB (.slice a' fs[j].2.length c) fs[j].2 wr ∧ InB fs[j].2 :=
    fun wr hk j hj => (hs.kp hk).at j hj
  obtain ⟨i0, hi, hz0, hz1, hz2⟩ := info_parts info_byte
  have HI := Lib.hid (And.intro hz1 hz2)
  have HI2 := Lib.hid hi
  have HI3 := Lib.hid hz0
  have HEL := Lib.hid hel
  have HL := Lib.hid hlen
  have HSM := Lib.hid hsm
  have OW0 := Lib.hid (own_empty w 5)
  clear hel hs hlen hsm hz1 hz2 hi hz0
  go_enter Tryz.func47, Tryz.ntmps47
  go_wp2
  go_loopw [3, 9] (fun v i wr => ∃ j : Nat, j ≤ len ∧ i = .int .i64 j ∧ Kp w wr ∧ wr.ownsRow w.heap.size 5 1 v (joinB (fs.take j)).length ((joinB (fs.take j)).map (Value.int .u8)) ∧ v ≠ .slice none 0 0) (fun _ i _ => len - (intOf i).toNat)
  case atStart => exact ⟨0, Nat.zero_le _, rfl, kp_alloc _ _, OW0.out, (by intro h; cases h)⟩
  case round =>
    obtain ⟨j, hj, rfl, hk, hown, hnn⟩ := hrel
    have HK := Lib.hid hk
    have HOW := Lib.hid hown
    have HNN := Lib.hid hnn
    have hln := HL.out
    clear hk hown hnn
    obtain ⟨jj, hjj⟩ : ∃ jj : Int, (j : Int) = jj := ⟨_, rfl⟩
    rw [hjj]
    by_cases hlt : j < len
    · have hjl : j < fs.length := by omega
      obtain ⟨b, off, rfl, c0, a1, k1, c1, h1, h2⟩ := HEL.out w (Kp.refl _) j hjl
      have c0 := kp_cell HK.out c0
      have c1 := kp_cell HK.out c1
      have hjn := joinB_next hjl
      have hjb := joinB_len HSM.out j (by omega)
      have hsj := HSM.out fs[j] (List.getElem_mem _)
      obtain ⟨tj, htj⟩ : ∃ tj, fs[j].1 = tj := ⟨_, rfl⟩
      obtain ⟨bs, hbs⟩ : ∃ bs, fs[j].2 = bs := ⟨_, rfl⟩
      have hfb : fieldB fs[j] = [tj, 0, (bs.length : Int)] ++ bs := by simp only [fieldB, htj, hbs]
      rw [htj] at c0 hsj
      rw [hbs] at c1 h1 hsj
      rw [hfb] at hjn
      obtain ⟨n1, hn1⟩ : ∃ n1, bs.length = n1 := ⟨_, rfl⟩
      rw [hn1] at c1 h1 hsj hjn
      obtain ⟨jb, hjbe⟩ : ∃ jb, joinB (fs.take j) = jb := ⟨_, rfl⟩
      rw [hjbe] at HOW hjn hjb
      obtain ⟨m1, hm1⟩ : ∃ m1 : Int, (n1 : Int) = m1 := ⟨_, rfl⟩
      have ej : jj.toNat = j := by omega
      rw [← ej] at c0 c1
      have hj0 : 0 ≤ jj := by omega
      have hltj : jj < len := by omega
      have HJ := Lib.hid hjj
      have HJN := Lib.hid hjn
      have HN1 := Lib.hid hn1
      have q1 : m1.tdiv 256 = 0 := by rw [Int.tdiv_eq_ediv_of_nonneg (by omega)]; omega
      have q2 : m1.tmod 256 = m1 := by rw [Int.tmod_eq_emod_of_nonneg (by omega)]; omega
      have q3 : 0 ≤ m1 ∧ m1 ≤ 200 := by omega
      have q4 : 0 ≤ tj ∧ tj ≤ 255 := by omega
      have HB1 := Lib.hid h1
      clear hjj ej htj hn1 hbs hfb h1 h2 hln hlt hjn hjbe hsj
      have hz1 : (wr.alloc (.cells #[.int .i64 tj, .slice a1 n1 k1] 64)).heap.size = wr.heap.size + 1 := by simp
      have OW2 := Lib.hid (own_kp (own_kp HOW.out (kp_alloc wr (.cells #[.int .i64 tj, .slice a1 n1 k1] 64))) (kp_alloc (wr.alloc (.cells #[.int .i64 tj, .slice a1 n1 k1] 64)) (.cells #[.int .u8 tj, .int .u8 0, .int .u8 m1] 5)))
      have K2 := Lib.hid (Kp.trans (kp_alloc wr (.cells #[.int .i64 tj, .slice a1 n1 k1] 64)) (kp_alloc (wr.alloc (.cells #[.int .i64 tj, .slice a1 n1 k1] 64)) (.cells #[.int .u8 tj, .int .u8 0, .int .u8 m1] 5)))
      have N2 : ((wr.alloc (.cells #[.int .i64 tj, .slice a1 n1 k1] 64)).alloc (.cells #[.int .u8 tj, .int .u8 0, .int .u8 m1] 5)).heap[wr.heap.size + 1]? = some (.cells #[.int .u8 tj, .int .u8 0, .int .u8 m1] 5 (0, 0)) := by rw [← hz1]; exact (MapKept.heap_alloc _ _).1
      have B2 : ((wr.alloc (.cells #[.int .i64 tj, .slice a1 n1 k1] 64)).alloc (.cells #[.int .u8 tj, .int .u8 0, .int .u8 m1] 5)).heap[wr.heap.size]? = some (.cells #[.int .i64 tj, .slice a1 n1 k1] 64 (0, 0)) := kp_row (kp_alloc _ _) (MapKept.heap_alloc wr _).1
      have HN2 := Lib.hid N2
      have HB2 := Lib.hid B2
      have HSZ := Lib.hid (Below.size HK.out)
      clear hz1 N2 B2
      go_wp2_with (at_builtin; refine wpList_append_own _ rfl (.tmp 13) (.tmp 27) 29 rfl w.heap.size 5 i0 (.int .u8 0) 1 1 Tryz.underlying29 HI2.out HI3.out HI.out.1 HI.out.2 rfl (by decide) _ _ _ rfl OW2.out ⟨wr.heap.size + 1, 0, none⟩ 3 3 [.int .u8 tj, .int .u8 0, .int .u8 m1] rfl ?c1 ?c2 ?c3 ?c4 ?c5 ?c6 ?_)
      case c1 => rfl
      case c2 =>
        intro i u hi
        rw [add_plain]
        unfold World.cell?
        dsimp only
        rw [HN2.out]
        have hi3 : i < 3 := by
          rcases Nat.lt_or_ge i 3 with q | q
          · exact q
          · rw [List.getElem?_eq_none (by simpa using q)] at hi; cases hi
        match i, hi3, hi with
        | 0, _, hi | 1, _, hi | 2, _, hi => simpa using hi
      case c3 => intro u hu; simp at hu; rcases hu with rfl | rfl | rfl <;> rfl
      case c4 => unfold maxLen; omega
      case c5 => omega
      case c6 => have := HSZ.out; simp; omega
      rintro v5 w5 hown5 hgr5 hnil5
      have nn5 : v5 ≠ .slice none 0 0 := by first | exact hnil5 | exact (fun h => HNN.out (hnil5.1 h).1)
      have kp5 : Kp w w5 := row_kp OW2.out hgr5 (Kp.trans HK.out K2.out)
      have b5 := row_grow OW2.out hgr5 _ _ _ HB2.out (by decide)
      have cb5 : w5.cell? ⟨wr.heap.size, 1, none⟩ = some (.slice a1 n1 k1) := by unfold World.cell?; dsimp only; rw [b5]; rfl
      have OW5 := Lib.hid hown5
      have NN5 := Lib.hid nn5
      have KP5 := Lib.hid kp5
      have HB5 := Lib.hid (HB1.out.kp kp5)
      clear hown5 hgr5 hnil5 nn5 kp5 b5
      go_wp2_with (at_builtin; refine wpList_append_slb _ rfl (.tmp 29) (.tmp 31) rfl w.heap.size _ _ _ rfl OW5.out a1 n1 k1 bs rfl HB5.out ?d1 ?d2 ?_)
      case d1 => omega
      case d2 => exact Below.size KP5.out
      rintro v6 w6 hown6 hgr6 hnil6
      have kp6 : Kp w w6 := row_kp OW5.out hgr6 KP5.out
      have nn6 := hnil6 NN5.out
      have own6 : w6.ownsRow w.heap.size 5 1 v6 (joinB (fs.take (j + 1))).length ((joinB (fs.take (j + 1))).map (Value.int .u8)) := by
        rw [HJN.out]
        have e1 : (jb ++ ([tj, 0, (n1 : Int)] ++ bs)).length = jb.length + 3 + n1 := by simp [HN1.out]; omega
        have e2 : (jb ++ ([tj, 0, (n1 : Int)] ++ bs)).map (Value.int .u8) = jb.map (Value.int .u8) ++ .int .u8 tj :: .int .u8 0 :: .int .u8 m1 :: bs.map (Value.int .u8) := by simp [hm1]
        rw [e1, e2]
        exact hown6
      have O6 := Lib.hid own6
      have N6 := Lib.hid nn6
      have K6 := Lib.hid kp6
      clear own6 nn6 kp6 hown6 hgr6 hnil6
      go_wp2
      have hjj := HJ.out
      go_roundw
      case rel => exact ⟨j + 1, by omega, by congr 1; omega, K6.out, O6.out, N6.out⟩
      case measure => simp [intOf]; omega
    · obtain rfl : j = len := by omega
      have hex : ¬ jj < j := by omega
      have hful : fs.take j = fs := by rw [List.take_of_length_le]; omega
      have ho := HOW.out
      rw [hful] at ho
      have HO := Lib.hid (own_slb ho)
      clear hjj hful ho
      go_wp2
      go_ret
      exact ⟨_, rfl, HO.out, HK.out⟩
end Go.Proofs.YtahdoniggipmmaaGreatDoor

namespace Go.Proofs.YtahdoniggipmmaaGreatDoor
open Go.RowKit Go.ChangeShapes Go.WideShapes

theorem byte_sz : ∀ w, (Go.sizeOf 5).run Tryz.prog w = .ok 1 w := by
  obtain ⟨i0, hi, -, hz1, -⟩ := info_parts info_byte
  intro w
  simp [sizeOf, typeInfo, hi, hz1]

/-- A WINDOW of a slice of bytes. -/
theorem slb_window {b off len cap at' n : Nat} {bs : List Int} {w : World} (h : SlB (.slice (some ⟨b, off, none⟩) len cap) bs w) (hlc : len ≤ cap) (hn : at' + n ≤ len) :
    ∃ A C, (∀ w, (Instr.slice 29 (.slice (some ⟨b, off, none⟩) len cap) (some (.int .i64 (at' : Int))) (some (.int .i64 ((at' + n : Nat) : Int))) none).run Tryz.prog w = .ok (.slice (some A) n C) w) ∧ SlB (.slice (some A) n C) ((bs.drop at').take n) w := by
  have hlen := h.len
  rcases Nat.eq_zero_or_pos n with rfl | hp
  · have hz : ∀ w, (Instr.slice 29 (.slice (some ⟨b, off, none⟩) len cap) (some (.int .i64 (at' : Int))) (some (.int .i64 ((at' + 0 : Nat) : Int))) none).run Tryz.prog w = .ok (.slice (some (if cap - at' = 0 then ⟨b, off, none⟩ else ⟨b, off + at', none⟩)) 0 (cap - at')) w := by
      intro w
      have ht' : Tryz.prog.underlying 29 = some (.slice (Tryz.prog.elem 29)) := by simp [Program.elem, Tryz.underlying29]
      have he : Tryz.prog.elem 29 = 5 := by simp [Program.elem, Tryz.underlying29]
      rw [run_slice_lh w 29 _ _ _ ht' .i64 .i64 _ _ (by omega) (by omega) (by omega), he, byte_sz]
      by_cases hc : cap = at'
      · subst hc
        simp [Result.andThen, sliced]
      · have hc2 : ¬ cap - at' = 0 := by omega
        by_cases h0 : at' = 0
        · subst h0
          simp [Result.andThen, sliced, Addr.add, hc]
        · simp [Result.andThen, sliced, Addr.add, hc, hc2, h0]
    exact ⟨_, _, hz, .inl ⟨by simp, _, _, rfl, fun h => by cases h⟩⟩
  · have hw := fun w => Lib.run_slice_window (P := Tryz.prog) w 29 5 Tryz.underlying29 byte_sz b off len cap at' (at' + n) (by omega) (by omega)
    refine ⟨⟨b, off + at', none⟩, cap - at', fun w => ?_, ?_⟩
    · rw [hw w]
      congr 2
      omega
    · have hl2 : ((bs.drop at').take n).length = n := by simp; omega
      refine .inr ⟨b, off + at', cap - at', by omega, by rw [hl2], fun j hj => ?_⟩
      rw [hl2] at hj
      rcases h with ⟨rfl, _⟩ | ⟨b', off', cap', h0, hv, hc⟩
      · simp at hlen; omega
      · injection hv with h1 h2 h3
        injection h1 with h1
        injection h1 with h4 h5
        subst h4 h5
        rw [Nat.add_assoc, hc (at' + j) (by omega)]
        simp [List.getD, List.getElem?_drop, hj]
end Go.Proofs.YtahdoniggipmmaaGreatDoor

namespace Go.Proofs.YtahdoniggipmmaaGreatDoor
open Go.RowKit Go.ChangeShapes Go.WideShapes

/-- WHAT THE BYTES SAY: the error's number, the fields; from the bytes bs on, the tag before: last, fields before: k. -/
def splitQ : Nat → List Int → Int → Nat → Int × List (Int × List Int)
  | 0, _, _, _ => (4, [])
  | f + 1, bs, last, k =>
    if bs.length = 0 then (0, [])
    else if bs.length < 3 then (2, [])
    else if bs.getD 0 0 ≤ last ∨ 200 < bs.getD 1 0 * 256 + bs.getD 2 0 ∨ k = 16 then (4, [])
    else if (bs.length : Int) - 3 < bs.getD 1 0 * 256 + bs.getD 2 0 then (2, [])
    else
      let r := splitQ f (bs.drop (3 + (bs.getD 1 0 * 256 + bs.getD 2 0).toNat)) (bs.getD 0 0) (k + 1)
      (r.1, (bs.getD 0 0, (bs.drop 3).take (bs.getD 1 0 * 256 + bs.getD 2 0).toNat) :: r.2)

/-- An append of the call's own row turns no block of another type; whatever the size. -/
theorem row_grows {w w' : World} {base n size : Nat} {e : TypeId} {v : Value} {xs : List Value} (hown : w.ownsRow base e size v n xs) (hgr : w.grownBy w' v.ownBlock) (b : Nat) (c : Array Value) (t : TypeId) (hb : w.heap[b]? = some (.cells c t (0, 0))) (ht : t ≠ e) :
    w'.heap[b]? = some (.cells c t (0, 0)) := by
  obtain ⟨-, hr⟩ := hown
  rcases hr with ⟨rfl, -⟩ | ⟨g, cap, cur, rfl, hg, hh, -⟩
  · rw [hgr.block b (old_of_row hb) (by simp [Value.ownBlock])]
    exact hb
  · rw [hgr.block b (old_of_row hb) ?_]
    · exact hb
    · intro q
      have : b = g := by simp [Value.ownBlock] at q; omega
      subst this
      rw [hh] at hb
      injection hb with hb
      injection hb with _ h2 _
      exact ht h2.symm
theorem own_grows {w w' : World} {base base' n m size : Nat} {e t : TypeId} {v d : Value} {xs ys : List Value} (hown : w.ownsRow base e size v n xs) (hgr : w.grownBy w' v.ownBlock) (hd : w.ownsRow base' t 1 d m ys) (ht : t ≠ e) : w'.ownsRow base' t 1 d m ys := by
  obtain ⟨h1, h2⟩ := hd
  refine ⟨h1, ?_⟩
  rcases h2 with h2 | ⟨g, cap, cur, hv, hg, hh, r⟩
  · exact Or.inl h2
  · exact Or.inr ⟨g, cap, cur, hv, hg, row_grows hown hgr g cur t hh ht, r⟩
theorem rows_kp {w0 w w' : World} {n size : Nat} {e : TypeId} {v : Value} {xs : List Value} (hown : w.ownsRow w0.heap.size e size v n xs) (hgr : w.grownBy w' v.ownBlock) (hk : Kp w0 w) : Kp w0 w' := by
  obtain ⟨-, hr⟩ := hown
  rcases hr with ⟨rfl, -⟩ | ⟨g, cap, cur, rfl, hg, hh, -⟩
  · exact Below.grown hk hgr (Below.size hk) (fun k hk' => by simp [Value.ownBlock] at hk')
  · exact Below.grown hk hgr (Below.size hk) (fun k hk' => by simp [Value.ownBlock] at hk'; omega)
theorem own_empty2 (w : World) (e : TypeId) (size : Nat) : (w.alloc (.cells #[] e)).ownsRow w.heap.size e size (.slice (some ⟨w.heap.size, 0, none⟩) 0 0) 0 [] :=
  ⟨by simp, Or.inr ⟨w.heap.size, 0, #[], rfl, Nat.le_refl _, (MapKept.heap_alloc w _).1, Nat.le_refl _, by omega, by simp, by simp⟩⟩

/-- a field with the value of its data; the cells of such; the field -/
def cellQ (g : Int × List Int × Value) : List Value := [.int .i64 g.1, g.2.2]
def fldQ (g : Int × List Int × Value) : Int × List Int := (g.1, g.2.1)
theorem cellQ_at : ∀ (gs : List (Int × List Int × Value)) (j : Nat) (hj : j < gs.length), (gs.flatMap cellQ)[2 * j]? = some (.int .i64 gs[j].1) ∧ (gs.flatMap cellQ)[2 * j + 1]? = some gs[j].2.2
  | g :: gs, 0, _ => by simp [cellQ]
  | g :: gs, j + 1, hj => by
    have h := cellQ_at gs j (by simpa using hj)
    have e : 2 * (j + 1) = 2 * j + 2 := by omega
    have e2 : 2 * (j + 1) + 1 = 2 * j + 1 + 2 := by omega
    rw [e2, e]
    simpa [cellQ] using h
theorem cellQ_len (gs : List (Int × List Int × Value)) : (gs.flatMap cellQ).length = gs.length * 2 := by
  induction gs with
  | nil => rfl
  | cons g gs ih => rw [List.flatMap_cons, List.length_append, ih]; simp [cellQ]; omega
/-- THE DATA ARE ROWS OF THE CALL's OWN. -/
def OwnD (base : Nat) (gs : List (Int × List Int × Value)) (w : World) : Prop := ∀ g ∈ gs, w.ownsRow base 5 1 g.2.2 g.2.1.length (g.2.1.map (Value.int .u8)) ∧ InB g.2.1
theorem OwnD.kp {base : Nat} {gs : List (Int × List Int × Value)} {w w' : World} (h : OwnD base gs w) (hk : Kp w w') : OwnD base gs w' := fun g hg => ⟨own_kp (h g hg).1 hk, (h g hg).2⟩
theorem OwnD.grows {base b' n : Nat} {gs : List (Int × List Int × Value)} {w w' : World} {v : Value} {xs : List Value} (h : OwnD base gs w) (hown : w.ownsRow b' 64 2 v n xs) (hgr : w.grownBy w' v.ownBlock) : OwnD base gs w' :=
  fun g hg => ⟨own_grows hown hgr (h g hg).1 (by decide), (h g hg).2⟩
theorem own_slq {base base' n : Nat} {gs : List (Int × List Int × Value)} {w : World} {v : Value} (hn : gs.length = n) (h : w.ownsRow base 64 2 v n (gs.flatMap cellQ)) (hd : OwnD base' gs w) : SlQ v (gs.map fldQ) w := by
  subst hn
  obtain ⟨h1, h2⟩ := h
  rcases h2 with ⟨rfl, hn⟩ | ⟨g, cap, cur, rfl, hg, hh, hc, hm, hs, ht⟩
  · left
    have : gs = [] := List.length_eq_zero_iff.1 (by omega)
    subst this
    exact ⟨rfl, none, 0, rfl, fun _ => rfl⟩
  · by_cases h0 : gs.length = 0
    · left
      have : gs = [] := List.length_eq_zero_iff.1 h0
      subst this
      exact ⟨rfl, _, cap, rfl, fun h => by cases h⟩
    · right
      refine ⟨g, 0, cap, by simp; omega, by simp, fun j hj => ?_⟩
      have hj' : j < gs.length := by simpa using hj
      obtain ⟨q0, q1⟩ := cellQ_at gs j hj'
      rw [← ht] at q0 q1
      rw [List.getElem?_take, if_pos (by omega)] at q0 q1
      obtain ⟨d1, d2⟩ := hd gs[j] (List.getElem_mem _)
      have hsl := own_slb d1
      obtain ⟨a', c', he⟩ := hsl.form
      refine ⟨?_, gs[j].2.2, ?_, a', c', ?_, ?_, ?_⟩
      · unfold World.cell?
        dsimp only
        rw [hh]
        simp only [Option.isSome_none, Bool.false_eq_true, if_false, Nat.zero_add, Nat.mul_comm j 2]
        simpa [fldQ] using q0
      · unfold World.cell?
        dsimp only
        rw [hh]
        simp only [Option.isSome_none, Bool.false_eq_true, if_false, Nat.zero_add, Nat.mul_comm j 2]
        simpa using q1
      · simpa [fldQ] using he
      · simp only [List.getElem_map, fldQ]
        rw [← he]
        exact hsl
      · simpa [fldQ] using d2
theorem info_fieldT : (Tryz.prog.info? 64).map (fun i => (i.zero, i.size, i.bytes)) = some (some (.agg #[.int .i64 0, .slice none 0 0]), 2, 32) := by kernel_rfl
end Go.Proofs.YtahdoniggipmmaaGreatDoor

namespace Go.Proofs.YtahdoniggipmmaaGreatDoor
open Go.RowKit Go.ChangeShapes Go.WideShapes

set_option maxRecDepth 20000 in
set_option maxHeartbeats 2000000 in
theorem refSplit_any (a : Option Addr) (cap : Nat) (bs : List Int) (len : Nat) (hlen : bs.length = len) (hl : len ≤ 1000000) (hlc : len ≤ cap) (hb : InB bs) (w : World) (hs : SlB (.slice a len cap) bs w) :
    Calls Tryz.prog 50 #[.slice a len cap] w fun e w' => ∃ v, e = .returned (.tuple #[v, .int .i64 (splitQ 17 bs 0 0).1]) ∧ ((splitQ 17 bs 0 0).1 = 0 → SlQ v (splitQ 17 bs 0 0).2 w') ∧ ((splitQ 17 bs 0 0).1 ≠ 0 → v = .slice none 0 0) ∧ Kp w w' := by
  have hel : ∀ j (hj : j < bs.length), ∃ b off, a = some ⟨b, off, none⟩ ∧ w.cell? ⟨b, off + j, none⟩ = some (.int .u8 (bs.getD j 0)) := fun j hj => hs.at j hj
  have HEL := Lib.hid hel
  have HL := Lib.hid hlen
  have HB := Lib.hid hb
  have HS := Lib.hid hs
  have OW0 := Lib.hid (own_empty2 w 64 2)
  have HIB := Lib.hid (info_parts info_byte)
  have HIF := Lib.hid (info_parts info_fieldT)
  obtain ⟨RES, hres⟩ : ∃ RES, splitQ 17 bs 0 0 = RES := ⟨_, rfl⟩
  rw [hres]
  have HRES := Lib.hid hres
  clear hel hs hlen hb hres
  go_enter Tryz.func50, Tryz.ntmps50
  go_wp2
  go_loopw [4, 5, 6] (fun v l i wr => ∃ (gs : List (Int × List Int × Value)) (at' : Nat) (last : Int), at' ≤ len ∧ gs.length ≤ 16 ∧ l = .int .i64 last ∧ i = .int .i64 at' ∧ Kp w wr ∧ wr.ownsRow w.heap.size 64 2 v gs.length (gs.flatMap cellQ) ∧ OwnD w.heap.size gs wr ∧ RES = ((splitQ (17 - gs.length) (bs.drop at') last gs.length).1, gs.map fldQ ++ (splitQ (17 - gs.length) (bs.drop at') last gs.length).2)) (fun _ _ i _ => len - (intOf i).toNat)
  case atStart => exact ⟨[], 0, 0, Nat.zero_le _, by simp, rfl, rfl, kp_alloc _ _, OW0.out, (fun g hg => by cases hg), by rw [← HRES.out]; rfl⟩
  case round =>
    obtain ⟨gs, at', last, hat, hg16, rfl, rfl, hk, hown, hod, hR⟩ := hrel
    have HK := Lib.hid hk
    have HOW := Lib.hid hown
    have HOD := Lib.hid hod
    have HLL := HL.out
    obtain ⟨k, hk⟩ : ∃ k, gs.length = k := ⟨_, rfl⟩
    obtain ⟨cs, hcs⟩ : ∃ cs, bs.drop at' = cs := ⟨_, rfl⟩
    have hcl : cs.length = len - at' := by rw [← hcs, List.length_drop, HLL]
    have hf : 17 - gs.length = (16 - k) + 1 := by omega
    rw [hf, hk, hcs] at hR
    rw [splitQ] at hR
    obtain ⟨jj, hjj⟩ : ∃ jj : Int, (at' : Int) = jj := ⟨_, rfl⟩
    rw [hjj]
    clear hown hod hf
    by_cases h0 : cs.length = 0
    · rw [if_pos h0] at hR
      have hex : ¬ jj < len := by omega
      have hq := Lib.hid (own_slq rfl HOW.out HOD.out)
      subst hR
      clear hjj hcl h0 HEL
      go_wp2
      go_ret2
      exact ⟨_, rfl, hq.out, HK.out⟩
    · rw [if_neg h0] at hR
      have hlt : jj < len := by omega
      have hj0 : 0 ≤ jj := by omega
      by_cases h3 : cs.length < 3
      · rw [if_pos h3] at hR
        have h3' : (len : Int) - jj < 3 := by omega
        subst hR
        clear hjj hcl h0 HEL
        go_wp2
        go_ret2
        first | exact ⟨⟨_, rfl, rfl⟩, HK.out⟩ | exact ⟨_, rfl, rfl, HK.out⟩
      · rw [if_neg h3] at hR
        have h3' : ¬ (len : Int) - jj < 3 := by omega
        obtain ⟨b, off, rfl, c0⟩ := HEL.out at' (by omega)
        obtain ⟨b1, off1, e1, c1⟩ := HEL.out (at' + 1) (by omega)
        obtain ⟨b2, off2, e2, c2⟩ := HEL.out (at' + 2) (by omega)
        injection e1 with e1
        injection e1 with e1 e3
        subst e1 e3
        injection e2 with e2
        injection e2 with e2 e3
        subst e2 e3
        have g0 : cs.getD 0 0 = bs.getD at' 0 := by rw [← hcs]; simp [List.getD, List.getElem?_drop]
        have g1 : cs.getD 1 0 = bs.getD (at' + 1) 0 := by rw [← hcs]; simp [List.getD, List.getElem?_drop]
        have g2 : cs.getD 2 0 = bs.getD (at' + 2) 0 := by rw [← hcs]; simp [List.getD, List.getElem?_drop]
        have gb : ∀ i, 0 ≤ bs.getD i 0 ∧ bs.getD i 0 < 256 := by
          intro i
          rcases Nat.lt_or_ge i bs.length with q | q
          · have := HB.out bs[i] (List.getElem_mem _)
            simpa [List.getD, q] using this
          · simp [List.getD, q]
        have r0 := gb at'
        have r1 := gb (at' + 1)
        have r2 := gb (at' + 2)
        clear gb
        have c0 := kp_cell HK.out c0
        have c1 := kp_cell HK.out c1
        have c2 := kp_cell HK.out c2
        rw [g0, g1, g2] at hR
        clear g0 g1 g2
        obtain ⟨x0, hx0⟩ : ∃ x, bs.getD at' 0 = x := ⟨_, rfl⟩
        obtain ⟨x1, hx1⟩ : ∃ x, bs.getD (at' + 1) 0 = x := ⟨_, rfl⟩
        obtain ⟨x2, hx2⟩ : ∃ x, bs.getD (at' + 2) 0 = x := ⟨_, rfl⟩
        rw [hx0] at hR c0 r0
        rw [hx1] at hR c1 r1
        rw [hx2] at hR c2 r2
        have p0 : (jj + 0).toNat = at' := by omega
        have p1 : (jj + 1).toNat = at' + 1 := by omega
        have p2 : (jj + 2).toNat = at' + 2 := by omega
        have pz : jj.toNat = at' := by omega
        rw [← pz] at c0
        rw [← p1] at c1
        rw [← p2] at c2
        have l1 : jj + 1 < len := by omega
        have l2 : jj + 2 < len := by omega
        obtain ⟨n, hn⟩ : ∃ n : Int, x1 * 256 + x2 = n := ⟨_, rfl⟩
        rw [hn] at hR
        have HJ := Lib.hid hjj
        have HCL := Lib.hid hcl
        have HCS := Lib.hid hcs
        have HN := Lib.hid hn
        have HK16 := Lib.hid hk
        have HR := Lib.hid hR
        obtain ⟨av, cv, hv⟩ := (own_slq rfl HOW.out HOD.out).form
        rw [List.length_map, hk] at hv
        subst hv
        clear hx0 hx1 hx2 p0 p1 p2 pz hjj hcl hcs h0 h3 HEL hR
        go_wp2
        go_region
        by_cases q1 : x0 ≤ last
        · have hR := HR.out
          rw [if_pos (.inl q1)] at hR
          subst hR
          go_wp2
          go_ret2
          first | exact ⟨⟨_, rfl, rfl⟩, HK.out.drew⟩ | exact ⟨_, rfl, rfl, HK.out.drew⟩
        by_cases q2 : 200 < n
        · have hR := HR.out
          rw [if_pos (.inr (.inl q2))] at hR
          subst hR
          have q1' : last < x0 := by omega
          go_wp2
          go_ret2
          first | exact ⟨⟨_, rfl, rfl⟩, HK.out.drew⟩ | exact ⟨_, rfl, rfl, HK.out.drew⟩
        by_cases q3 : k = 16
        · have hR := HR.out
          rw [if_pos (.inr (.inr q3))] at hR
          subst hR
          subst q3
          have q1' : last < x0 := by omega
          have q2' : n ≤ 200 := by omega
          go_wp2
          go_ret2
          first | exact ⟨⟨_, rfl, rfl⟩, HK.out.drew⟩ | exact ⟨_, rfl, rfl, HK.out.drew⟩
        have hR := HR.out
        rw [if_neg (by omega)] at hR
        have q1' : last < x0 := by omega
        have q2' : n ≤ 200 := by omega
        have q3' : ((k : Int) == 16) = false := by simp; omega
        have hcl := HCL.out
        have hjj := HJ.out
        by_cases q4 : (len : Int) - jj - 3 < n
        · rw [if_pos (by omega)] at hR
          subst hR
          clear hcl hjj
          go_wp2
          go_ret2
          first | exact ⟨⟨_, rfl, rfl⟩, HK.out.drew⟩ | exact ⟨_, rfl, rfl, HK.out.drew⟩
        rw [if_neg (by omega)] at hR
        have q5 : jj + 3 + n ≤ len := by omega
        have n0 : 0 ≤ n := by omega
        obtain ⟨A, C, hrun, hwin⟩ := slb_window (HS.out.kp HK.out) hlc (show (at' + 3) + n.toNat ≤ len by omega)
        have z1 : ((at' + 3 : Nat) : Int) = jj + 3 := by omega
        have z2 : ((at' + 3 + n.toNat : Nat) : Int) = jj + 3 + n := by omega
        rw [z1, z2] at hrun
        have hdrop : (cs.drop 3).take n.toNat = (bs.drop (at' + 3)).take n.toNat := by rw [← HCS.out, List.drop_drop]
        have hwl : ((bs.drop (at' + 3)).take n.toNat).length = n.toNat := by have := HL.out; simp; omega
        obtain ⟨ws, hws⟩ : ∃ ws, (bs.drop (at' + 3)).take n.toNat = ws := ⟨_, rfl⟩
        rw [hws] at hwin hwl hdrop
        have HWL := Lib.hid hwl
        have hwb : InB ws := by
          intro x hx
          rw [← hws] at hx
          exact HB.out x (List.mem_of_mem_drop (List.mem_of_mem_take hx))
        have HWB := Lib.hid hwb
        rw [hdrop] at hR
        have HR2 := Lib.hid hR
        have how := HOW.out
        rw [hk] at how
        have HOWK := Lib.hid how
        have hod := HOD.out
        have HODK := Lib.hid hod
        have K1 := Lib.hid (Kp.refl wr).drew
        have K2 := Lib.hid (kp_alloc wr.drew (.cells #[] 5))
        have OWE := Lib.hid (own_empty2 wr.drew 5 1)
        have HWIN := Lib.hid (hwin.kp (Kp.trans K1.out K2.out))
        have hk16 : k < 16 := by omega
        have hn2 : n.toNat ≤ 200 := by omega
        clear hcl hjj hR z1 z2 hwin hws how hod hdrop hwl hwb
        go_wp2_with (at_builtin; refine wpList_append_slb _ rfl (.tmp 59) (.tmp 67) rfl wr.drew.heap.size _ _ _ rfl OWE.out A n.toNat C ws rfl HWIN.out ?d1 ?d2 ?_)
        case d1 => omega
        rintro v5 w5 hown5 hgr5 -
        have kp5 : Kp wr w5 := Kp.trans K1.out (row_kp OWE.out hgr5 K2.out)
        obtain ⟨a5, c5, rfl⟩ := (own_slb hown5).form
        rw [HWL.out] at hown5
        have HWL2 := HWL.out
        rw [HWL2]
        have HO5 := Lib.hid hown5
        have KP5 := Lib.hid kp5
        have K6 := Lib.hid (kp_alloc w5 (.cells #[.int .i64 x0, .slice a5 n.toNat c5] 64))
        have OW6 := Lib.hid (own_kp HOWK.out (Kp.trans kp5 (kp_alloc w5 (.cells #[.int .i64 x0, .slice a5 n.toNat c5] 64))))
        have hb6 : (w5.alloc (.cells #[.int .i64 x0, .slice a5 n.toNat c5] 64)).heap[w5.heap.size]? = some (.cells #[.int .i64 x0, .slice a5 n.toNat c5] 64 (0, 0)) := (MapKept.heap_alloc _ _).1
        have HB6 := Lib.hid hb6
        have HSZ := Lib.hid (Below.size (Kp.trans HK.out (Kp.trans kp5 (kp_alloc w5 (.cells #[.int .i64 x0, .slice a5 n.toNat c5] 64)))))
        obtain ⟨i0, hi, hz0, hz1, hz2⟩ := HIF.out
        have HI := Lib.hid (And.intro hz1 hz2)
        have HI2 := Lib.hid hi
        have HI3 := Lib.hid hz0
        clear hown5 hgr5 kp5 HWL2 hb6 hi hz0 hz1 hz2
        go_wp2_with (at_builtin; refine wpList_append_own _ rfl (.tmp 57) (.tmp 70) 56 rfl w.heap.size 64 i0 (.agg #[.int .i64 0, .slice none 0 0]) 2 32 Tryz.underlying56 HI2.out HI3.out HI.out.1 HI.out.2 rfl (by decide) _ _ _ rfl OW6.out ⟨w5.heap.size, 0, none⟩ 1 1 [.int .i64 x0, .slice a5 n.toNat c5] rfl ?c1 ?c2 ?c3 ?c4 ?c5 ?c6 ?_)
        case c1 => rfl
        case c2 =>
          intro i u hi
          rw [add_plain]
          unfold World.cell?
          dsimp only
          rw [HB6.out]
          have hi3 : i < 2 := by
            rcases Nat.lt_or_ge i 2 with q | q
            · exact q
            · rw [List.getElem?_eq_none (by simpa using q)] at hi; cases hi
          match i, hi3, hi with
          | 0, _, hi | 1, _, hi => simpa using hi
        case c3 => intro u hu; simp at hu; rcases hu with rfl | rfl <;> rfl
        case c4 => unfold maxLen; omega
        case c5 => omega
        case c6 => exact HSZ.out
        rintro v6 w6 hown6 hgr6 -
        have kp6 : Kp w w6 := rows_kp OW6.out hgr6 (Kp.trans HK.out (Kp.trans KP5.out K6.out))
        have hgl : (gs ++ [(x0, ws, Value.slice a5 n.toNat c5)]).length = k + 1 := by simp [HK16.out]
        have od6 : OwnD w.heap.size (gs ++ [(x0, ws, Value.slice a5 n.toNat c5)]) w6 := by
          intro g hg
          rcases List.mem_append.1 hg with hg | hg
          · exact ((HODK.out.kp (Kp.trans KP5.out K6.out)).grows OW6.out hgr6) g hg
          · have : g = (x0, ws, Value.slice a5 n.toNat c5) := by simpa using hg
            subst this
            refine ⟨?_, HWB.out⟩
            rw [HWL.out]
            exact own_grows OW6.out hgr6 (own_kp (own_mono HO5.out (Below.size HK.out)) K6.out) (by decide)
        have own6 : w6.ownsRow w.heap.size 64 2 v6 (gs ++ [(x0, ws, Value.slice a5 n.toNat c5)]).length ((gs ++ [(x0, ws, Value.slice a5 n.toNat c5)]).flatMap cellQ) := by
          rw [hgl, List.flatMap_append]
          exact hown6
        have O6 := Lib.hid own6
        have D6 := Lib.hid od6
        have KP6 := Lib.hid kp6
        have HGL := Lib.hid hgl
        clear own6 od6 kp6 hown6 hgr6 hgl
        go_wp2
        have hjj := HJ.out
        go_roundw
        case rel =>
          have e1 : ((at' + (3 + n.toNat) : Nat) : Int) = jj + (3 + n) := by omega
          refine ⟨gs ++ [(x0, ws, Value.slice a5 n.toNat c5)], at' + (3 + n.toNat), x0, by omega, by rw [HGL.out]; omega, rfl, by rw [e1], KP6.out, O6.out, D6.out, ?_⟩
          have e2 : bs.drop (at' + (3 + n.toNat)) = cs.drop (3 + n.toNat) := by rw [← HCS.out, List.drop_drop]
          rw [HGL.out, HR2.out, e2, show 17 - (k + 1) = 16 - k by omega]
          simp [fldQ]
        case measure => simp [intOf]; omega
end Go.Proofs.YtahdoniggipmmaaGreatDoor

namespace Go.Proofs.YtahdoniggipmmaaGreatDoor
open Go.RowKit Go.ChangeShapes Go.WideShapes

/-- the fields of numbers, from tag i on -/
def rowF : Int → List Int → List (Int × List Int)
  | _, [] => []
  | i, n :: ns => if n = 0 then rowF (i + 1) ns else (i, beF 8 n.toNat) :: rowF (i + 1) ns
theorem rowF_snoc : ∀ (ns : List Int) (i x : Int), rowF i (ns ++ [x]) = rowF i ns ++ (if x = 0 then [] else [(i + ns.length, beF 8 x.toNat)])
  | [], i, x => by simp only [List.nil_append, rowF, List.length_nil]; split <;> simp
  | n :: ns, i, x => by
    have ih := rowF_snoc ns (i + 1) x
    have e : i + 1 + (ns.length : Int) = i + ((n :: ns).length : Nat) := by rw [List.length_cons]; omega
    rw [e] at ih
    simp only [List.cons_append, rowF, ih]
    split <;> simp
theorem rowF_len : ∀ (ns : List Int) (i : Int), (rowF i ns).length ≤ ns.length
  | [], _ => Nat.le_refl _
  | n :: ns, i => by
    have := rowF_len ns (i + 1)
    simp only [rowF]
    split <;> simp <;> omega
theorem rowF_mem : ∀ (ns : List Int) (i : Int), ∀ x ∈ rowF i ns, i ≤ x.1 ∧ x.1 < i + ns.length ∧ x.2.length ≤ 8 ∧ InB x.2
  | [], _, x, hx => by cases hx
  | n :: ns, i, x, hx => by
    simp only [rowF] at hx
    split at hx
    · have := rowF_mem ns (i + 1) x hx
      rw [List.length_cons]
      exact ⟨by omega, by omega, this.2.2⟩
    · rcases List.mem_cons.1 hx with rfl | hx
      · exact ⟨Int.le_refl _, by rw [List.length_cons]; dsimp only; omega, beF_len _ _, beF_inB _ _⟩
      · have := rowF_mem ns (i + 1) x hx
        rw [List.length_cons]
        exact ⟨by omega, by omega, this.2.2⟩
/-- a message's bytes -/
def encM (m : MM) : List Int := joinB (rowF 1 m.nums)
theorem small_m (m : MM) : Small (rowF 1 m.nums) := fun x hx => by
  have h := rowF_mem m.nums 1 x hx
  have hl : m.nums.length = 9 := rfl
  rw [hl] at h
  exact ⟨by omega, by omega, by omega⟩
/-- all its numbers are from 0 to 999999 -/
def MM.okn (m : MM) : Prop := ∀ x ∈ m.nums, 0 ≤ x ∧ x ≤ 999999
theorem rightM_okn {m : MM} (h : rightM m = true) : m.okn := by
  obtain ⟨k, f, t, n, s, r, p, o, c⟩ := m
  have hko : 0 ≤ o ∧ o ≤ 2 ∧ 0 ≤ c ∧ c ≤ 14 := by
    unfold rightM at h
    dsimp only at h
    rw [Bool.and_eq_true] at h
    have h4 := h.2
    split at h4
    · have := of_decide_eq_true h4; omega
    split at h4
    · have := of_decide_eq_true h4; omega
    split at h4
    · have := of_decide_eq_true h4; omega
    split at h4
    · have := of_decide_eq_true h4; omega
    · have := of_decide_eq_true h4; omega
  unfold rightM rightA at h
  simp only [Bool.and_eq_true, decide_eq_true_eq] at h
  obtain ⟨⟨⟨h1, h2⟩, h3⟩, -⟩ := h
  intro x hx
  simp only [MM.nums, List.mem_cons, List.not_mem_nil, or_false] at hx
  rcases hx with rfl | rfl | rfl | rfl | rfl | rfl | rfl | rfl | rfl <;> omega

theorem enc_new1 (w : World) (o o' : Obj) : ((w.alloc o).alloc o').heap[w.heap.size + 1]? = some o' := by
  have := (MapKept.heap_alloc (w.alloc o) o').1
  simpa using this
theorem enc_len {w : World} {base n : Nat} {e : TypeId} {v : Value} {xs : List Value} (h : w.ownsRow base e 1 v n xs) : ∃ a c, v = .slice a n c ∧ n ≤ c := by
  rcases h.2 with ⟨rfl, rfl⟩ | ⟨g, cap, cur, rfl, _, _, hc, _⟩
  · exact ⟨none, 0, rfl, Nat.le_refl _⟩
  · exact ⟨_, cap, rfl, hc⟩

end Go.Proofs.YtahdoniggipmmaaGreatDoor

namespace Go.Proofs.YtahdoniggipmmaaGreatDoor
open Go.RowKit Go.ChangeShapes Go.WideShapes

theorem splitQ_tags : ∀ (f : Nat) (bs : List Int) (last : Int) (k : Nat), InB bs → ∀ x ∈ (splitQ f bs last k).2, last < x.1 ∧ x.1 ≤ 255 ∧ x.2.length ≤ 200
  | 0, _, _, _, _, x, hx => by simp [splitQ] at hx
  | f + 1, bs, last, k, hb, x, hx => by
    rw [splitQ] at hx
    have gb : ∀ i, 0 ≤ bs.getD i 0 ∧ bs.getD i 0 < 256 := by
      intro i
      rcases Nat.lt_or_ge i bs.length with q | q
      · have := hb bs[i] (List.getElem_mem _)
        simpa [List.getD, q] using this
      · simp [List.getD, q]
    have b0 := gb 0
    split at hx
    · cases hx
    split at hx
    · cases hx
    split at hx
    · cases hx
    rename_i h3
    split at hx
    · cases hx
    dsimp only at hx
    rcases List.mem_cons.1 hx with rfl | hx
    · dsimp only
      refine ⟨by omega, by omega, ?_⟩
      rw [List.length_take]
      omega
    · have ih := splitQ_tags f _ (bs.getD 0 0) (k + 1) (fun y hy => hb y (List.mem_of_mem_drop hy)) x hx
      exact ⟨by omega, ih.2.1, ih.2.2⟩
theorem splitQ_len : ∀ (f : Nat) (bs : List Int) (last : Int) (k : Nat), (splitQ f bs last k).2.length ≤ f
  | 0, _, _, _ => by simp [splitQ]
  | f + 1, bs, last, k => by
    rw [splitQ]
    split
    · simp
    split
    · simp
    split
    · simp
    split
    · simp
    · simp only [List.length_cons]
      exact Nat.succ_le_succ (splitQ_len f _ _ _)
theorem splitQ_num : ∀ (f : Nat) (bs : List Int) (last : Int) (k : Nat), (splitQ f bs last k).1 = 0 ∨ (splitQ f bs last k).1 = 2 ∨ (splitQ f bs last k).1 = 4
  | 0, _, _, _ => .inr (.inr rfl)
  | f + 1, bs, last, k => by
    rw [splitQ]
    split
    · exact .inl rfl
    split
    · exact .inr (.inl rfl)
    split
    · exact .inr (.inr rfl)
    split
    · exact .inr (.inl rfl)
    · exact splitQ_num f _ _ _
/-- the fields' numbers, each at its place -/
def putF : List Int → List (Int × List Int) → Option (List Int)
  | l, [] => some l
  | l, x :: fs => if 9 < x.1 ∨ x.2.length = 0 ∨ (toNum x.2).2 ≠ 0 then none else putF (l.set (x.1 - 1).toNat (toNum x.2).1) fs
def ofL (l : List Int) : MM := ⟨l.getD 0 0, l.getD 1 0, l.getD 2 0, l.getD 3 0, l.getD 4 0, l.getD 5 0, l.getD 6 0, l.getD 7 0, l.getD 8 0⟩
/-- WHAT Decode ANSWERS: the error's number, the message -/
def decM (bs : List Int) : Int × MM :=
  if 1000 < bs.length then (3, noM) else if (splitQ 17 bs 0 0).1 ≠ 0 then ((splitQ 17 bs 0 0).1, noM)
  else match putF (List.replicate 9 0) (splitQ 17 bs 0 0).2 with
    | none => (4, noM)
    | some l => if rightM (ofL l) = true then (0, ofL l) else (4, noM)
theorem toNum_rng (bs : List Int) (hb : InB bs) : 0 ≤ (toNum bs).1 ∧ (toNum bs).1 ≤ 9223372036854775807 := by
  unfold toNum
  split
  · exact ⟨by decide, by decide⟩
  split
  · exact ⟨by decide, by decide⟩
  split
  · exact ⟨by decide, by decide⟩
  · rename_i h
    have := beNum_range hb bs.length (Nat.le_refl _)
    rw [List.take_length] at this
    exact ⟨this.1, by omega⟩

theorem results_row_tmp8 {P : Program} {fn : Func} {p u : Tmp} {ty : TypeId} (h : fn.results = #[.cell p ty, .tmp u]) (tmps : Array Value) (w : World) (g : Nat) (t : TypeId) (cs : Array Value) (fr : Nat × Nat) (d : TypeDesc)
    (hp : tmps.getD p undef = .pointer (some ⟨g, 0, none⟩)) (hg : w.heap[g]? = some (.cells cs t fr))
    (hu : P.underlying ty = some d) (hd : (match d with | .struct _ | .array _ _ => true | _ => false) = true) (hi : (P.info? ty).map (·.size) = some cs.size) :
    (results fn tmps).run P w = .ok (.tuple #[.agg cs, tmps.getD u undef]) w := by
  have hp' : tmps[p]?.getD undef = .pointer (some ⟨g, 0, none⟩) := by simpa using hp
  simp [results, h, hp', asAddr, run_loadVar_row w g t ty cs fr d hg hu hd hi]
theorem cells9 {b : Nat} {t : TypeId} {w : World} {x0 x1 x2 x3 x4 x5 x6 x7 x8 : Value} (h : w.heap[b]? = some (.cells #[x0, x1, x2, x3, x4, x5, x6, x7, x8] t (0, 0))) : w.cell? ⟨b, 0, none⟩ = some x0 ∧ w.cell? ⟨b, 1, none⟩ = some x1 ∧ w.cell? ⟨b, 2, none⟩ = some x2 ∧ w.cell? ⟨b, 3, none⟩ = some x3 ∧ w.cell? ⟨b, 4, none⟩ = some x4 ∧ w.cell? ⟨b, 5, none⟩ = some x5 ∧ w.cell? ⟨b, 6, none⟩ = some x6 ∧ w.cell? ⟨b, 7, none⟩ = some x7 ∧ w.cell? ⟨b, 8, none⟩ = some x8 := by
  refine ⟨?_, ?_, ?_, ?_, ?_, ?_, ?_, ?_, ?_⟩ <;> (unfold World.cell?; dsimp only; rw [h]; rfl)
theorem froz9 {b : Nat} {t : TypeId} {w : World} {cs : Array Value} (h : w.heap[b]? = some (.cells cs t (0, 0))) (i : Nat) : w.frozen? ⟨b, i, none⟩ = false := by
  unfold World.frozen?
  dsimp only
  rw [h]
  simp
theorem set9 {b : Nat} {t : TypeId} {w : World} {x0 x1 x2 x3 x4 x5 x6 x7 x8 : Value} (y0 y1 y2 y3 y4 y5 y6 y7 y8 : Value) (h : w.heap[b]? = some (.cells #[x0, x1, x2, x3, x4, x5, x6, x7, x8] t (0, 0))) : (((((((((w.setCell ⟨b, 0, none⟩ y0).setCell ⟨b, 1, none⟩ y1).setCell ⟨b, 2, none⟩ y2).setCell ⟨b, 3, none⟩ y3).setCell ⟨b, 4, none⟩ y4).setCell ⟨b, 5, none⟩ y5).setCell ⟨b, 6, none⟩ y6).setCell ⟨b, 7, none⟩ y7).setCell ⟨b, 8, none⟩ y8).heap[b]? = some (.cells #[y0, y1, y2, y3, y4, y5, y6, y7, y8] t (0, 0)) := by
  have h1 : (w.setCell ⟨b, 0, none⟩ y0).heap[b]? = some (.cells #[y0, x1, x2, x3, x4, x5, x6, x7, x8] t (0, 0)) := (Joins.block_setCell h _).trans rfl
  have h2 : ((w.setCell ⟨b, 0, none⟩ y0).setCell ⟨b, 1, none⟩ y1).heap[b]? = some (.cells #[y0, y1, x2, x3, x4, x5, x6, x7, x8] t (0, 0)) := (Joins.block_setCell h1 _).trans rfl
  have h3 : (((w.setCell ⟨b, 0, none⟩ y0).setCell ⟨b, 1, none⟩ y1).setCell ⟨b, 2, none⟩ y2).heap[b]? = some (.cells #[y0, y1, y2, x3, x4, x5, x6, x7, x8] t (0, 0)) := (Joins.block_setCell h2 _).trans rfl
  have h4 : ((((w.setCell ⟨b, 0, none⟩ y0).setCell ⟨b, 1, none⟩ y1).setCell ⟨b, 2, none⟩ y2).setCell ⟨b, 3, none⟩ y3).heap[b]? = some (.cells #[y0, y1, y2, y3, x4, x5, x6, x7, x8] t (0, 0)) := (Joins.block_setCell h3 _).trans rfl
  have h5 : (((((w.setCell ⟨b, 0, none⟩ y0).setCell ⟨b, 1, none⟩ y1).setCell ⟨b, 2, none⟩ y2).setCell ⟨b, 3, none⟩ y3).setCell ⟨b, 4, none⟩ y4).heap[b]? = some (.cells #[y0, y1, y2, y3, y4, x5, x6, x7, x8] t (0, 0)) := (Joins.block_setCell h4 _).trans rfl
  have h6 : ((((((w.setCell ⟨b, 0, none⟩ y0).setCell ⟨b, 1, none⟩ y1).setCell ⟨b, 2, none⟩ y2).setCell ⟨b, 3, none⟩ y3).setCell ⟨b, 4, none⟩ y4).setCell ⟨b, 5, none⟩ y5).heap[b]? = some (.cells #[y0, y1, y2, y3, y4, y5, x6, x7, x8] t (0, 0)) := (Joins.block_setCell h5 _).trans rfl
  have h7 : (((((((w.setCell ⟨b, 0, none⟩ y0).setCell ⟨b, 1, none⟩ y1).setCell ⟨b, 2, none⟩ y2).setCell ⟨b, 3, none⟩ y3).setCell ⟨b, 4, none⟩ y4).setCell ⟨b, 5, none⟩ y5).setCell ⟨b, 6, none⟩ y6).heap[b]? = some (.cells #[y0, y1, y2, y3, y4, y5, y6, x7, x8] t (0, 0)) := (Joins.block_setCell h6 _).trans rfl
  have h8 : ((((((((w.setCell ⟨b, 0, none⟩ y0).setCell ⟨b, 1, none⟩ y1).setCell ⟨b, 2, none⟩ y2).setCell ⟨b, 3, none⟩ y3).setCell ⟨b, 4, none⟩ y4).setCell ⟨b, 5, none⟩ y5).setCell ⟨b, 6, none⟩ y6).setCell ⟨b, 7, none⟩ y7).heap[b]? = some (.cells #[y0, y1, y2, y3, y4, y5, y6, y7, x8] t (0, 0)) := (Joins.block_setCell h7 _).trans rfl
  have h9 : (((((((((w.setCell ⟨b, 0, none⟩ y0).setCell ⟨b, 1, none⟩ y1).setCell ⟨b, 2, none⟩ y2).setCell ⟨b, 3, none⟩ y3).setCell ⟨b, 4, none⟩ y4).setCell ⟨b, 5, none⟩ y5).setCell ⟨b, 6, none⟩ y6).setCell ⟨b, 7, none⟩ y7).setCell ⟨b, 8, none⟩ y8).heap[b]? = some (.cells #[y0, y1, y2, y3, y4, y5, y6, y7, y8] t (0, 0)) := (Joins.block_setCell h8 _).trans rfl
  exact h9
theorem set9_kp {b : Nat} {w0 w : World} (hk : Kp w0 w) (hb : w0.heap.size ≤ b) (y0 y1 y2 y3 y4 y5 y6 y7 y8 : Value) : Kp w0 (((((((((w.setCell ⟨b, 0, none⟩ y0).setCell ⟨b, 1, none⟩ y1).setCell ⟨b, 2, none⟩ y2).setCell ⟨b, 3, none⟩ y3).setCell ⟨b, 4, none⟩ y4).setCell ⟨b, 5, none⟩ y5).setCell ⟨b, 6, none⟩ y6).setCell ⟨b, 7, none⟩ y7).setCell ⟨b, 8, none⟩ y8) := by
  refine Below.setCell ?_ hb _
  refine Below.setCell ?_ hb _
  refine Below.setCell ?_ hb _
  refine Below.setCell ?_ hb _
  refine Below.setCell ?_ hb _
  refine Below.setCell ?_ hb _
  refine Below.setCell ?_ hb _
  refine Below.setCell ?_ hb _
  refine Below.setCell ?_ hb _
  exact hk
theorem dec_new0 (w : World) (o o' : Obj) : ((w.alloc o).alloc o').heap[w.heap.size]? = some o := by
  rw [Below.heap_alloc _ _ _ (by simp)]
  exact (MapKept.heap_alloc w o).1

end Go.Proofs.YtahdoniggipmmaaGreatDoor

