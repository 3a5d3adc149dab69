/-
  A FACT HANDED IN BY VALUE (own work): its numbers and its float.
-/
import Derived.Test.YtahdoniggipmmaaGreatDoorRows
import Derived.ProofKit
import Derived.LaidMore
import Derived.OpenShut
import Derived.Stop.Joined
import Derived.Carry
import Derived.OneCell
import Derived.SevenTiedAt
import Derived.Test.YtahdoniggipmmaaGreatDoorPkA
import Derived.Test.YtahdoniggipmmaaGreatDoorPkG
import Derived.MakeChecks
import Derived.Stop.LaidErr
import Derived.LaidSub
import Derived.Test.YtahdoniggipmmaaGreatDoorPkB
import Derived.ChangeSame
import Derived.Lib.SmallJoins
import Derived.Test.YtahdoniggipmmaaGreatDoorPkI

namespace Go.Proofs.YtahdoniggipmmaaGreatDoor
open Go.ChangeShapes Go.WideShapes Go.ChangeAt Go.RowKit

theorem own : ownKnob Tryz.prog.godebug = none := by kernel_rfl
theorem laidOut : laidOutB Tryz.prog = true := by kernel_rfl

theorem trodAll_below {H : Type} {enc : TypeId × Value → H} {P : Program} (hl : laidOutB P = true) {W W' : World} (hb : Below W.heap.size W W') :
    ∀ (ts : List TypeId) (vs : List Value) (ds : List (DataW H)) (ps : List MemPlace), (∀ t ∈ ts, P.readableRec t = true ∧ t < P.types.size) → (∀ x ∈ ps, x.block < W.heap.size) →
      DataW.TrodAll enc P W 0 (fun _ => true) true ts vs ds ps → DataW.TrodAll enc P W' 0 (fun b => decide (b < W.heap.size)) true ts vs ds ps := by
  intro ts
  induction ts with
  | nil =>
    intro vs ds ps _ _ h
    obtain ⟨rfl, rfl, rfl⟩ := trodAll_nil h
    exact trodAll_mk0
  | cons t ts ih =>
    intro vs ds ps hr hlt h
    obtain ⟨v, vs', d, ds', p, q, rfl, rfl, rfl, h0, h1⟩ := trodAll_cons h
    obtain ⟨hr0, ht0⟩ := hr t (List.mem_cons_self ..)
    exact trodAll_cons_mk (Below.trod hl hr0 ht0 h0 hb (fun x hx => hlt x (List.mem_append_left _ hx)))
      (ih vs' ds' q (fun u hu => hr u (List.mem_cons_of_mem _ hu)) (fun x hx => hlt x (List.mem_append_right _ hx)) h1)

theorem law_post {H : Type} {enc : TypeId × Value → H} {P : Program} (hl : laidOutB P = true) {f : Func} {s : ChangeSpec} {apart : Bool} {W W' : World} {args : Array Value} {ds gs : List (DataW H)} {before : List MemPlace} {tb : TypeId}
    (hW : DataW.Whole enc P f.params.toList s.vars apart W args.toList ds gs before) (hv : s.vars = []) (hspec : s.fn H (ds ++ gs) = { results := [.lit (.bool true)], args := ds })
    (hr : f.resultTypes = #[tb]) (htb : P.underlying tb = some .bool) (hpar : ∀ t ∈ f.params.toList, P.readableRec t = true ∧ t < P.types.size) (hb : Below W.heap.size W W') :
    s.post enc P f apart true false false W args (.bool true) W' := by
  have hW' := hW
  obtain ⟨p, q, hA, hV, hpq, hfz, hnd⟩ := hW
  rw [hv] at hV
  obtain ⟨rfl, rfl⟩ := trodVars_none hV
  refine ⟨ds, [], before, [], p, [], hW', ?_, ?_, ?_, hb.frame _, fun h => by cases h⟩
  · rw [hspec, hr]; exact trodAll_mk1 (shut_bool htb _)
  · rw [hspec]
    refine trodAll_below hl hb _ _ _ _ hpar (fun x hx => ?_) hA
    have := hW'.lt x (by rw [hpq]; exact List.mem_append_left _ hx)
    simpa using this
  · rw [hspec, hv]; rfl

theorem par_ok {P : Program} {ts : List TypeId} (h : (ts.all fun t => P.readableRec t && decide (t < P.types.size)) = true) : ∀ t ∈ ts, P.readableRec t = true ∧ t < P.types.size := by
  intro t ht
  have := List.all_eq_true.1 h t ht
  simpa using this
theorem stand_ok {P : Program} {ps : Array TypeId} (h : (ps.toList.all fun u => !P.wantsStandIn u) = true) : ∀ (j : Nat) t, ps[j]? = some t → P.wantsStandIn t = false := by
  intro j t ht
  have hm : t ∈ ps.toList := by simpa using Array.mem_of_getElem? ht
  simpa using List.all_eq_true.1 h t hm
end Go.Proofs.YtahdoniggipmmaaGreatDoor

namespace Go.Proofs.YtahdoniggipmmaaGreatDoor
open Go.RowKit

def powD : String × DataW Unit := ("internal/strconv.uint64pow10", Lib.tabData .u64 Lib.pow10Tab)
theorem tab_of_laid {W : World} (h : laidMet Tryz.prog [powD] W) : Tab W := by
  obtain ⟨n, e, t, hty, ht, he, hce, hct⟩ : ∃ n e t, (Tryz.prog.globals[15]?).map (·.type) = some t ∧ Tryz.prog.underlying t = some (.array n e) ∧ Tryz.prog.underlying e = some (.int .u64) ∧ Tryz.prog.cellsOf e = 1 ∧ Tryz.prog.cellsOf t = n :=
    ⟨20, 73, _, rfl, by kernel_rfl, by kernel_rfl, by kernel_rfl, by kernel_rfl⟩
  have hg : Tryz.prog.globalNamed "internal/strconv.uint64pow10" = some 15 := by kernel_rfl
  exact Lib.tabIs_of_head hg hty ht he hce hct h
/-- is it one of package api's? -/
def apiX (x : String × DataW Unit) : Bool := text14.any fun y => y.1 == x.1
theorem st_tab_of {W : World} {l : List (String × DataW Unit)} (h1 : l.filter apiX = text14.map sentD) (h2 : l.filter (fun x => x.1 == "internal/strconv.uint64pow10") = [powD]) (hp : (l.all fun x => x.2.handleName?.isNone) = true) (h : laidMetH Tryz.prog l W) : (∃ ads, St ads W) ∧ Tab W := by
  rw [MakeChecks.laidMetH_plain _ _ _ hp] at h
  have g1 := h.filter apiX
  have g2 := h.filter fun x => x.1 == "internal/strconv.uint64pow10"
  rw [h1] at g1
  rw [h2] at g2
  exact ⟨errs_of_laid text14 gs14 rfl (by
    intro i hi hi'
    have hi14 : i < 14 := hi
    match i, hi14 with
    | 0, _ | 1, _ | 2, _ | 3, _ | 4, _ | 5, _ | 6, _ | 7, _ | 8, _ | 9, _ | 10, _ | 11, _ | 12, _ | 13, _ => exact ⟨by kernel_rfl, by kernel_rfl⟩) g1, tab_of_laid g2⟩
end Go.Proofs.YtahdoniggipmmaaGreatDoor

namespace Go.Proofs.YtahdoniggipmmaaGreatDoor
open Go.RowKit Go.ChangeShapes Go.WideShapes

set_option maxRecDepth 100000 in
theorem one_int9 {H : Type} {enc : TypeId × Value → H} {W : World} {n : Nat} {cs : List Value} {y : DataW H × List MemPlace} {v : Value} (h : DataW.trod enc Tryz.prog W 0 (fun _ => true) true n 3 cs = some y) (hc : cs = [v]) : ∃ x : Int, v = .int .i64 x := by
  obtain ⟨x, e, _, _⟩ := DataW.trod_int Tryz.underlying3 h
  rw [hc] at e
  exact ⟨x, by simpa using e⟩
set_option maxRecDepth 100000 in
theorem one_float9 {H : Type} {enc : TypeId × Value → H} {W : World} {n : Nat} {cs : List Value} {y : DataW H × List MemPlace} {v : Value} (h : DataW.trod enc Tryz.prog W 0 (fun _ => true) true n 24 cs = some y) (hc : cs = [v]) : ∃ x : Nat, v = .float .f64 x ∧ x < 18446744073709551616 := by
  rw [hc] at h
  cases n with
  | zero => simp [DataW.trod] at h
  | succ n =>
    unfold DataW.trod at h
    rw [Tryz.underlying24] at h
    split at h <;> simp_all
    rename_i hk
    subst hk
    simpa [Lit.wf] using h.1.2
set_option maxRecDepth 100000 in
theorem open_ctx {H : Type} {enc : TypeId × Value → H} {W : World} {r : Reach} {b0 : Nat} {v : Value} {d : DataW H} {ps : List MemPlace}
    (hval : Value.okWide Tryz.prog W r b0 79 v) (h : DataW.Trod enc Tryz.prog W 0 (fun _ => true) true 79 v d ps) : ∃ c : CX, v = .agg c.cells ∧ c.wf := by
  obtain ⟨⟨cs⟩, rfl, hsz⟩ := okWide_struct Tryz.underlying79 hval
  have h5 : Tryz.prog.cellsOf 79 = 5 := by kernel_rfl
  have h1 : Tryz.prog.cellsOf 3 = 1 := by kernel_rfl
  have hf1 : Tryz.prog.cellsOf 24 = 1 := by kernel_rfl
  have h2 : Tryz.prog.cellsOf 23 = 2 := by kernel_rfl
  rw [h5] at hsz
  obtain ⟨fuel, hf⟩ := h
  match cs, hsz with
  | [c0, c1, c2, c3, c4], _ =>
    obtain ⟨xs, n, _, _, _, hlen, hfs⟩ := DataW.trod_struct Tryz.underlying79 hf
    have g0 := hfs 0 _ rfl
    have g1 := hfs 1 _ rfl
    have g2 := hfs 2 _ rfl
    have g3 := hfs 3 _ rfl
    have e4 : xs.length = 4 := hlen
    match xs, e4 with
    | [x0, x1, x2, x3], _ =>
      obtain ⟨y2, rfl⟩ := one_int9 (v := c2) g1 (by simp [Value.cells, h1])
      obtain ⟨y3, rfl⟩ := one_int9 (v := c3) g2 (by simp [Value.cells, h1])
      obtain ⟨y4, rfl, w4⟩ := one_float9 (v := c4) g3 (by simp [Value.cells, hf1])
      obtain ⟨z3, z4, k, _, _, a0, a1⟩ := trod_struct2 Tryz.underlying23 g0
      obtain ⟨y0, rfl⟩ := one_int9 (v := c0) a0 (by simp [Value.cells, h1, h2])
      obtain ⟨y1, rfl⟩ := one_int9 (v := c1) a1 (by simp [Value.cells, h1, h2])
      exact ⟨⟨y0, y1, y2, y3, y4⟩, rfl, w4⟩
end Go.Proofs.YtahdoniggipmmaaGreatDoor

namespace Go.Proofs.YtahdoniggipmmaaGreatDoor
open Go.RowKit Go.ChangeShapes Go.WideShapes

set_option maxRecDepth 100000 in
theorem open_fct {H : Type} {enc : TypeId × Value → H} {W : World} {r : Reach} {b0 : Nat} {v : Value} {d : DataW H} {ps : List MemPlace}
    (hval : Value.okWide Tryz.prog W r b0 26 v) (h : DataW.Trod enc Tryz.prog W 0 (fun _ => true) true 26 v d ps) : ∃ c : FX, v = .agg c.cells ∧ c.wf := by
  obtain ⟨⟨cs⟩, rfl, hsz⟩ := okWide_struct Tryz.underlying26 hval
  have h14 : Tryz.prog.cellsOf 26 = 14 := by kernel_rfl
  have h1 : Tryz.prog.cellsOf 3 = 1 := by kernel_rfl
  have hf1 : Tryz.prog.cellsOf 24 = 1 := by kernel_rfl
  have h2 : Tryz.prog.cellsOf 23 = 2 := by kernel_rfl
  rw [h14] at hsz
  obtain ⟨fuel, hf⟩ := h
  match cs, hsz with
  | [c0, c1, c2, c3, c4, c5, c6, c7, c8, c9, c10, c11, c12, c13], _ =>
    obtain ⟨xs, n, _, _, _, hlen, hfs⟩ := DataW.trod_struct Tryz.underlying26 hf
    have g0 := hfs 0 _ rfl
    have g1 := hfs 1 _ rfl
    have g2 := hfs 2 _ rfl
    have g3 := hfs 3 _ rfl
    have g4 := hfs 4 _ rfl
    have g5 := hfs 5 _ rfl
    have g6 := hfs 6 _ rfl
    have g7 := hfs 7 _ rfl
    have g8 := hfs 8 _ rfl
    have g9 := hfs 9 _ rfl
    have g10 := hfs 10 _ rfl
    have g11 := hfs 11 _ rfl
    have g12 := hfs 12 _ rfl
    have e13 : xs.length = 13 := hlen
    match xs, e13 with
    | [x0, x1, x2, x3, x4, x5, x6, x7, x8, x9, x10, x11, x12], _ =>
      obtain ⟨y0, rfl⟩ := one_int9 (v := c0) g0 (by simp [Value.cells, h1])
      obtain ⟨y3, rfl⟩ := one_int9 (v := c3) g2 (by simp [Value.cells, h1])
      obtain ⟨y4, rfl⟩ := one_int9 (v := c4) g3 (by simp [Value.cells, h1])
      obtain ⟨y5, rfl⟩ := one_int9 (v := c5) g4 (by simp [Value.cells, h1])
      obtain ⟨y6, rfl⟩ := one_int9 (v := c6) g5 (by simp [Value.cells, h1])
      obtain ⟨y7, rfl⟩ := one_int9 (v := c7) g6 (by simp [Value.cells, h1])
      obtain ⟨y8, rfl⟩ := one_int9 (v := c8) g7 (by simp [Value.cells, h1])
      obtain ⟨y9, rfl⟩ := one_int9 (v := c9) g8 (by simp [Value.cells, h1])
      obtain ⟨y10, rfl⟩ := one_int9 (v := c10) g9 (by simp [Value.cells, h1])
      obtain ⟨y11, rfl⟩ := one_int9 (v := c11) g10 (by simp [Value.cells, h1])
      obtain ⟨y12, rfl⟩ := one_int9 (v := c12) g11 (by simp [Value.cells, h1])
      obtain ⟨y13, rfl, w13⟩ := one_float9 (v := c13) g12 (by simp [Value.cells, hf1])
      obtain ⟨z3, z4, k, _, _, a0, a1⟩ := trod_struct2 Tryz.underlying23 g1
      obtain ⟨y1, rfl⟩ := one_int9 (v := c1) a0 (by simp [Value.cells, h1, h2])
      obtain ⟨y2, rfl⟩ := one_int9 (v := c2) a1 (by simp [Value.cells, h1, h2])
      exact ⟨⟨y0, y1, y2, y3, y4, y5, y6, y7, y8, y9, y10, y11, y12, y13⟩, rfl, w13⟩
end Go.Proofs.YtahdoniggipmmaaGreatDoor

