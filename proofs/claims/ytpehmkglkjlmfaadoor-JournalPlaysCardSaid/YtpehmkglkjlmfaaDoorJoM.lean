/-
  A RANGE OVER A FUNCTION whose body goes on (own work): the statement; a call of yield; a region that draws its order, within a round. A JOURNAL's CODE KEEPS ITS CONTRACTS: first (own work). A JOURNAL's CODE KEEPS ITS CONTRACTS: the iterator over bytes' frames (own work): whatever body it is given that goes on. A JOURNAL's CODE KEEPS ITS CONTRACTS: Open: what holds between two rounds of its loop, and a round (own work). A JOURNAL's CODE KEEPS ITS CONTRACTS: what Open does within Try (own work). catch.Try (own work), at *journal.Journal: what is done answers; Open. A JOURNAL's CODE KEEPS ITS CONTRACTS: all together (own work).
-/
import Derived.RangeFuncNested
import Derived.RangeFuncBound
import Derived.RangeFuncCalls
import Derived.RangeFuncLeaves
import Derived.Shelf.Abstract
import Derived.Shelf.RegionOpen
import Derived.WalkKit
import Derived.OwnWalkIn
import Derived.TacticsInMore
import Derived.LoopNIn
import Derived.LoopIn
import Derived.Test.YtpehmkglkjlmfaaDoorKp
import Derived.Test.YtpehmkglkjlmfaaDoorJoN
import Derived.Laws.BitsAllLaws
import Derived.Lib.QuoteBits
import Derived.Recover
import Derived.Defers
import Derived.Test.YtpehmkglkjlmfaaDoorTapT
namespace Go.Proofs.YtpehmkglkjlmfaaDoor
open Go.RowKit Go.Shelf

/-! ### a region that draws, within a round of the wide fence -/
section
variable {P : Program} {ops : Array Oper} {Q : Exit → Act → World → Prop} {md : Region.Mode} {n l : Nat}

theorem rowsIn_wide {row : String} {args : Array Value} {w : World} {R : Value → World → Prop} (h : Rows P row args w R) : RowsIn Fence.wide n P row args w R :=
  fun c cs _ => let ⟨v, w', r, s⟩ := h c cs; ⟨v, w', r, stepsIn_wide.2 s⟩
theorem oper_round {o : Oper} {a : Act} {w : World} {K : Act → World → Prop} (hd : ∀ c, o.op ≠ .defer c) (h : o.wp P a w K Q) : o.wpIn (Fence.wide.inRound l) n P a w K Q := by
  unfold Oper.wp at h
  refine ⟨fun _ _ => trivial, ?_⟩
  rw [show (Fence.wide.inRound l).round = some l from rfl, Oper.semAt_some l _ _ hd]
  generalize (execOp a.eval o).run P w = r at h
  have hn : (Fence.wide.inRound l).depth.isSome = true → 1 ≤ n := fun q => by cases q
  cases r with
  | ok x w' =>
    cases x
    case value v => exact h
    case skip => exact h
    case defer d => exact h
    case enter f args => exact ⟨hn, CallsIn.inRound l (callsIn_wide.2 h)⟩
    case row row args => exact ⟨hn, rowsIn_wide h⟩
    all_goals exact absurd h (by simp [Oper.upon])
  | halt x w' =>
    cases x
    case panic v => exact h
    all_goals exact absurd h (by simp [Oper.upon])

def noDefer (ops : Array Oper) : Bool := ops.all fun o => match o.op with | .defer _ => false | _ => true
theorem noDefer_at (h : noDefer ops = true) {i : Nat} {o : Oper} (ho : ops[i]? = some o) (c : Call) : o.op ≠ .defer c := fun e => by
  have hi := (Array.getElem?_eq_some_iff.1 ho)
  have := (Array.all_eq_true.1 h) i hi.1
  rw [hi.2, e] at this
  cases this

theorem wpAny_round (hd : noDefer ops = true) (hq : ¬ LetsOut Q) : ∀ (fuel : Nat) (listed : Array Bool) (a : Act) (w : World), wpAny P md ops Q fuel listed a w → wpAnyIn (Fence.wide.inRound l) n P md ops Q fuel listed a w
  | 0, _, _, _, h => h
  | fuel + 1, listed, a, w, h => ⟨h.1, fun i hi => by
    have h2 := h.2 i hi
    unfold wpOp at h2
    unfold wpOpIn
    cases ho : ops[i]? with
    | none => rw [ho] at h2; exact wpAny_round hd hq fuel _ a w h2
    | some o =>
      rw [ho] at h2
      dsimp only at h2 ⊢
      split at h2
      · rename_i hw
        rw [if_pos hw]
        rcases h2 with h2 | ⟨-, h2⟩
        · exact Oper.wpIn_mono (fun a' w' h' => wpAny_round hd hq fuel _ a' w' h') (oper_round (noDefer_at hd ho) h2)
        · exact absurd h2 hq
      · rename_i hw
        rw [if_neg hw]
        exact ⟨fun _ _ => trivial, wpAny_round hd hq fuel _ _ w h2⟩⟩
theorem region_round {id : Nat} {a : Act} {w : World} (hm : P.follows .mixedOrders = true) (hd : noDefer ops = true) (hq : ¬ LetsOut Q) (h : wpAny P .any ops Q ops.size (Array.replicate ops.size false) a w.drew) :
    (Code.region id ops true).wpIn (Fence.wide.inRound l) n P Q a w := wpIn_region_any hm (wpAny_round hd hq _ _ _ _ h)
end

/-! ### a call of yield -/
variable {F : Fence} {n : Nat} {P : Program}
/-- how the body of a round is left: it goes on -/
def goesOn (l : Nat) (r : Loop) (R : Ending → World → Prop) : Exit → Act → World → Prop
  | .normal, _, W => W.heap[l]? = some (.loop { r with state := .busy }) ∧ R (.returned (.bool true)) (W.putObj l (.loop { r with state := .ready, pending := none }))
  | _, _, _ => False
theorem goesOn_lets (l : Nat) (r : Loop) (R : Ending → World → Prop) : ¬ LetsOut (goesOn l r R) := fun ⟨_, _, h⟩ => h
theorem yield_of {l : Nat} {r : Loop} {args : Array Value} {W : World} {R : Ending → World → Prop} (hl : W.heap[l]? = some (.loop r)) (hr : r.state = .ready) (hs : args.size = r.params.size) (hF : F.fn r.fn)
    (h : r.assign.wpIn (F.inRound l) n P (Exit.then (fun a' Wa => Wa.heap[l]? = some (.loop r) ∧ r.body.wpIn (F.inRound l) n P (goesOn l r R) a' (Wa.putObj l (.loop { r with state := .busy }))) (fun _ _ _ => False))
      { tmps := (r.params.zip args).foldl (fun t (p, v) => t.setIfInBounds p v) r.tmps, defers := [] } W) : YieldAt F n P l args W R := by
  refine ⟨r.fn, _, r.assign, r.body, run_yield hl hs, roundIn_of_wpIn hF (wpIn_mono h ?_)⟩
  rintro e a' Wa hq
  cases e with
  | normal =>
    refine ⟨_, run_beginRound hq.1 hr, wpIn_mono hq.2 ?_⟩
    rintro e2 a2 W3 h3
    cases e2 with
    | normal =>
      have hend := run_endRound (P := P) (jump := none) h3.1 
      exact ⟨_, _, hend, h3.2⟩
    | _ => exact h3.elim
  | _ => exact hq.elim

/-! ### the statement -/
theorem range_of {g : Operand} {ps : Array Tmp} {assign body : Code} {Q : Exit → Act → World → Prop} {a : Act} {w : World}
    (hro : F.round = none) (h1 : 1 ≤ n) {gf : Nat} {lb : Array Value} (hg : a.eval g = .func (.func gf) #[] lb) (hFg : F.fn gf) (eg : ∀ args w, (callFunc gf args).run P w = .ok (.enter gf args) w)
    (h : ∀ fn, F.fn fn → ∀ r : Loop, r = { state := .ready, pending := none, fn, tmps := a.tmps, params := ps, assign, body, defers := w.heap.size } →
      CallsIn F (n - 1) P gf (#[.func (.yield (w.heap.size + 1)) #[] #[]] ++ lb) ((w.alloc (.deferred (some []))).alloc (.loop r)) fun e W =>
        (∃ v, e = .returned v) ∧ W.heap[w.heap.size + 1]? = some (.loop r) ∧ ∀ o, Q .normal { a with defers := { target := .collected w.heap.size, args := #[] } :: a.defers } (W.putObj (w.heap.size + 1) o)) :
    (Code.rangeFunc g ps assign body).wpIn F n P Q a w := by
  refine wpIn_rangeFunc ?_
  intro fn hfn
  rw [hro]
  obtain ⟨r, hr⟩ : ∃ r : Loop, r = { state := .ready, pending := none, fn, tmps := a.tmps, params := ps, assign, body, defers := w.heap.size } := ⟨_, rfl⟩
  have hcall := h fn hfn r hr
  obtain ⟨W1, hW1⟩ : ∃ W1, (w.alloc (.deferred (some []))).alloc (.loop r) = W1 := ⟨_, rfl⟩
  rw [hW1] at hcall
  refine ⟨w.heap.size + 1, [{ target := .collected w.heap.size, args := #[] }], W1, { target := .fn (.func gf) lb, args := #[.func (.yield (w.heap.size + 1)) #[] #[]] }, W1, gf,
    #[.func (.yield (w.heap.size + 1)) #[] #[]] ++ lb, W1, ?_, ?_, ?_, ?_, fun _ => h1, ?_⟩
  · rw [← hW1, hr]; exact run_enterLoop_outer _ _ _ _ _
  · simp only [resolve, hg]
    simp [go_sem]
  · intro f' hf'; simp [Target.leads] at hf'; subst hf'; exact hFg
  · simp [invoke, go_sem, eg]
  · refine hcall.mono ?_
    rintro e W ⟨⟨v, rfl⟩, hl, hq⟩
    exact ⟨none, _, by have := run_endLoop (P := P) hl (by rw [hr]; simp); rw [hr] at this; exact this, hq _⟩
end Go.Proofs.YtpehmkglkjlmfaaDoor

namespace Go.Proofs.YtpehmkglkjlmfaaDoor
open Go.RowKit Go.ChangeShapes Go.WideShapes

set_option maxRecDepth 100000 in
theorem headC_iff {bs : List Int} (hb : InB bs) (h2 : cnt bs + 6 ≤ bs.length) (h0 : 1 ≤ cnt bs) (h1 : cnt bs ≤ 200) :
    headC bs ↔ ((bs.drop 2).take (cnt bs + 4)).drop (cnt bs) = four (crc (((bs.drop 2).take (cnt bs + 4)).take (cnt bs))) := by
  unfold headC
  obtain ⟨k, hk⟩ : ∃ k, cnt bs = k := ⟨_, rfl⟩
  rw [hk] at h2 h0 h1 ⊢
  have hd : bs.take 2 = hd2 k := by
    match bs, h2, hb, hk with
    | x :: y :: t, _, hb, hk =>
      have hx := hb x (by simp)
      have hy := hb y (by simp)
      have e : cnt (x :: y :: t) = x.toNat * 256 + y.toNat := rfl
      rw [e] at hk
      have e1 : ((k / 256 : Nat) : Int) = x := by omega
      have e2 : ((k % 256 : Nat) : Int) = y := by omega
      simp only [hd2, e1, e2, List.take_succ_cons, List.take_zero]
  have ht : bs.take (k + 6) = hd2 k ++ (bs.drop 2).take (k + 4) := by
    rw [← hd, show k + 6 = 2 + (k + 4) by omega, List.take_add]
  have hr : ((bs.drop 2).take (k + 4)).take k = (bs.drop 2).take k := by rw [List.take_take, Nat.min_eq_left (by omega)]
  have hl : ((bs.drop 2).take k).length = k := by rw [List.length_take, List.length_drop]; omega
  have hs : (bs.drop 2).take (k + 4) = (bs.drop 2).take k ++ ((bs.drop 2).take (k + 4)).drop k := by
    have := List.take_append_drop k ((bs.drop 2).take (k + 4))
    rw [hr] at this
    exact this.symm
  rw [hr]
  constructor
  · rintro ⟨-, -, -, -, h5⟩
    rw [ht, frm, hl, List.append_cancel_left_eq] at h5
    rw [hs, List.append_cancel_left_eq] at h5
    exact h5
  · intro h5
    refine ⟨by omega, h0, h1, h2, ?_⟩
    rw [ht, frm, hl, hs, h5]
/-- int(x)<<8 | int(y) -/
theorem or_256 (x y : Int) (h0 : 0 ≤ x) (h1 : x < 256) (h2 : 0 ≤ y) (h3 : y < 256) : bits .or .i64 (x * 256) y = x * 256 + y := by
  obtain ⟨a, rfl⟩ : ∃ a : Nat, x = a := ⟨x.toNat, by omega⟩
  obtain ⟨b, rfl⟩ : ∃ b : Nat, y = b := ⟨y.toNat, by omega⟩
  have e : (a * 256 ||| b : Nat) = a * 256 + b := by
    have := Nat.shiftLeft_add_eq_or_of_lt (i := 8) (show b < 2 ^ 8 by omega) a
    rw [Nat.shiftLeft_eq] at this
    exact this.symm
  have e2 : (a : Int) * 256 = ((a * 256 : Nat) : Int) := by omega
  rw [e2]
  show IntKind.i64.wrap ((BitVec.ofInt 64 ((a * 256 : Nat) : Int) ||| BitVec.ofInt 64 (b : Int)).toNat : Int) = _
  rw [BitVec.toNat_or, ofInt_u64 _ (by omega), ofInt_u64 b (by omega), e, Lib.wrap_i64_small _ (by omega)]
  omega
theorem slb_cell {b off n c : Nat} {bs : List Int} {w : World} (h : SlB (.slice (some ⟨b, off, none⟩) n c) bs w) (j : Nat) (hj : j < n) : w.cell? ⟨b, off + j, none⟩ = some (.int .u8 (bs.getD j 0)) := by
  have hl := h.len
  rcases h with ⟨rfl, _⟩ | ⟨b', off', c', h0, hv, hc⟩
  · simp at hl; omega
  · injection hv with h1 h2 h3
    injection h1 with h1
    injection h1 with h4 h5
    subst h4 h5
    have := hc j (by omega)
    rw [this]
/-- a window of a slice, with its capacity -/
theorem slb_win2 {b off len cap lo n : Nat} {bs : List Int} {w : World} {ll hh : Int} (h : SlB (.slice (some ⟨b, off, none⟩) len cap) bs w) (hlc : len ≤ cap) (hn : lo + n ≤ len) (hp : 0 < n) (h1 : (lo : Int) = ll) (h2 : ((lo + n : Nat) : Int) = hh) :
    ∃ A C, n ≤ C ∧ (∀ w, (Instr.slice 46 (.slice (some ⟨b, off, none⟩) len cap) (some (.int .i64 ll)) (some (.int .i64 hh)) none).run Tryd.prog w = .ok (.slice (some A) n C) w) ∧ SlB (.slice (some A) n C) ((bs.drop lo).take n) w := by
  have hlen := h.len
  subst h1 h2
  have hw := fun w => Lib.run_slice_window (P := Tryd.prog) w 46 5 Tryd.underlying46 byte_sz b off len cap lo (lo + n) (by omega) (by omega)
  refine ⟨⟨b, off + lo, none⟩, cap - lo, by omega, fun w => ?_, ?_⟩
  · rw [hw w]
    congr 2
    omega
  · have hl2 : ((bs.drop lo).take n).length = n := by simp; omega
    refine .inr ⟨b, off + lo, cap - lo, by omega, by rw [hl2], fun j hj => ?_⟩
    rw [hl2] at hj
    rw [Nat.add_assoc, slb_cell h (lo + j) (by omega)]
    simp [List.getD, List.getElem?_drop, hj]

set_option maxRecDepth 100000 in
set_option maxHeartbeats 4000000 in
theorem jfirst_short (a : Option Addr) (n c : Nat) (hl : n < 2) (w : World) :
    Calls Tryd.prog 61 #[.slice a n c] w fun e w' => e = .returned (.tuple #[.slice none 0 0, .bool false]) ∧ Kp w w' := by
  obtain ⟨nn, hnn⟩ : ∃ x : Int, (n : Int) = x := ⟨_, rfl⟩
  have h1 : nn < 2 := by omega
  go_enter Tryd.func61, Tryd.ntmps61
  go_wp2
  go_ret2
  exact ⟨rfl, Kp.refl _⟩
set_option maxRecDepth 100000 in
set_option maxHeartbeats 4000000 in
theorem jfirst_count (a : Option Addr) (n c : Nat) (bs : List Int) (hn : bs.length = n) (hl : 2 ≤ n) (hm : n ≤ 200000) (hb : InB bs) (w : World) (hs : SlB (.slice a n c) bs w) (hc : ¬ (1 ≤ cnt bs ∧ cnt bs ≤ 200)) :
    Calls Tryd.prog 61 #[.slice a n c] w fun e w' => e = .returned (.tuple #[.slice none 0 0, .bool false]) ∧ Kp w w' := by
  obtain ⟨b, off, rfl⟩ := hs.pos (by omega)
  have hln := hs.len
  have hx := hb _ (List.getElem_mem (show 0 < bs.length by omega))
  have hy := hb _ (List.getElem_mem (show 1 < bs.length by omega))
  have ex : bs.getD 0 0 = bs[0]'(by omega) := by simp [List.getD, show 0 < bs.length by omega]
  have ey : bs.getD 1 0 = bs[1]'(by omega) := by simp [List.getD, show 1 < bs.length by omega]
  rw [← ex] at hx
  rw [← ey] at hy
  have h0 := slb_cell hs 0 (by omega)
  have h1 := slb_cell hs 1 (by omega)
  rw [Nat.add_zero] at h0
  have hcn : ((cnt bs : Nat) : Int) = bs.getD 0 0 * 256 + bs.getD 1 0 := by unfold cnt; omega
  obtain ⟨x, hxx⟩ : ∃ x, bs.getD 0 0 = x := ⟨_, rfl⟩
  obtain ⟨y, hyy⟩ : ∃ y, bs.getD 1 0 = y := ⟨_, rfl⟩
  rw [hxx] at h0 hx hcn
  rw [hyy] at h1 hy hcn
  obtain ⟨x0, x1⟩ := hx
  obtain ⟨y0, y1⟩ := hy
  have hor := or_256 x y x0 x1 y0 y1
  rw [← hcn] at hor
  obtain ⟨k, hk⟩ : ∃ k, cnt bs = k := ⟨_, rfl⟩
  rw [hk] at hor hcn
  obtain ⟨kk, hkk⟩ : ∃ kk : Int, (k : Int) = kk := ⟨_, rfl⟩
  rw [hkk] at hor
  obtain ⟨nn, hnn⟩ : ∃ x : Int, (n : Int) = x := ⟨_, rfl⟩
  have h2 : ¬ nn < 2 := by omega
  rw [hk] at hc
  have HR := Lib.hid (jright_no kk (by omega))
  clear ex ey hxx hyy hcn hln hs hn hb hc hk hkk hm
  go_enter Tryd.func61, Tryd.ntmps61
  go_wp2_with (go_at_call 47; (with_reducible refine (HR.out _).mono ?_); rintro e w2 ⟨rfl, rfl⟩)
  go_quiet (fail)
  go_wp2_with (go_at_call 47; (with_reducible refine (HR.out _).mono ?_); rintro e w2 ⟨rfl, rfl⟩)
  go_ret2
  exact ⟨rfl, Kp.drewN (Kp.refl _) _⟩
set_option maxRecDepth 100000 in
set_option maxHeartbeats 4000000 in
theorem jfirst_cut (a : Option Addr) (n c : Nat) (bs : List Int) (hn : bs.length = n) (hl : 2 ≤ n) (hm : n ≤ 200000) (hb : InB bs) (w : World) (hs : SlB (.slice a n c) bs w) (hc : 1 ≤ cnt bs ∧ cnt bs ≤ 200) (hlt : n < cnt bs + 6) :
    Calls Tryd.prog 61 #[.slice a n c] w fun e w' => e = .returned (.tuple #[.slice none 0 0, .bool false]) ∧ Kp w w' := by
  obtain ⟨b, off, rfl⟩ := hs.pos (by omega)
  have hln := hs.len
  have hx := hb _ (List.getElem_mem (show 0 < bs.length by omega))
  have hy := hb _ (List.getElem_mem (show 1 < bs.length by omega))
  have ex : bs.getD 0 0 = bs[0]'(by omega) := by simp [List.getD, show 0 < bs.length by omega]
  have ey : bs.getD 1 0 = bs[1]'(by omega) := by simp [List.getD, show 1 < bs.length by omega]
  rw [← ex] at hx
  rw [← ey] at hy
  have h0 := slb_cell hs 0 (by omega)
  have h1 := slb_cell hs 1 (by omega)
  rw [Nat.add_zero] at h0
  have hcn : ((cnt bs : Nat) : Int) = bs.getD 0 0 * 256 + bs.getD 1 0 := by unfold cnt; omega
  obtain ⟨x, hxx⟩ : ∃ x, bs.getD 0 0 = x := ⟨_, rfl⟩
  obtain ⟨y, hyy⟩ : ∃ y, bs.getD 1 0 = y := ⟨_, rfl⟩
  rw [hxx] at h0 hx hcn
  rw [hyy] at h1 hy hcn
  obtain ⟨x0, x1⟩ := hx
  obtain ⟨y0, y1⟩ := hy
  have hor := or_256 x y x0 x1 y0 y1
  rw [← hcn] at hor
  obtain ⟨k, hk⟩ : ∃ k, cnt bs = k := ⟨_, rfl⟩
  rw [hk] at hor hcn
  obtain ⟨kk, hkk⟩ : ∃ kk : Int, (k : Int) = kk := ⟨_, rfl⟩
  rw [hkk] at hor
  obtain ⟨nn, hnn⟩ : ∃ x : Int, (n : Int) = x := ⟨_, rfl⟩
  have h2 : ¬ nn < 2 := by omega
  rw [hk] at hc hlt
  have HR := Lib.hid (jright_yes kk (by omega) (by omega))
  have HFS := Lib.hid (jfsize_any kk (by omega) (by omega))
  have hlt2 : nn < kk + 6 := by omega
  clear ex ey hxx hyy hcn hln hs hn hb hc hk hkk hm hlt
  go_enter Tryd.func61, Tryd.ntmps61
  go_wp2_with (first | (go_at_call 47; (with_reducible refine (HR.out _).mono ?_); rintro e w2 ⟨rfl, rfl⟩) | (go_at_call 45; (with_reducible refine (HFS.out _).mono ?_); rintro e w2 ⟨rfl, rfl⟩))
  go_quiet (fail)
  go_wp2_with (first | (go_at_call 47; (with_reducible refine (HR.out _).mono ?_); rintro e w2 ⟨rfl, rfl⟩) | (go_at_call 45; (with_reducible refine (HFS.out _).mono ?_); rintro e w2 ⟨rfl, rfl⟩))
  go_ret2
  exact ⟨rfl, Kp.drewN (Kp.refl _) _⟩
set_option maxRecDepth 100000 in
set_option maxHeartbeats 4000000 in
theorem jfirst_bad (e4 : Addr) (a : Option Addr) (n c : Nat) (bs : List Int) (hn : bs.length = n) (hl : 2 ≤ n) (hm : n ≤ 200000) (hb : InB bs) (w : World) (hs : SlB (.slice a n c) bs w) (hnc : n ≤ c) (hc : 1 ≤ cnt bs ∧ cnt bs ≤ 200) (hge : cnt bs + 6 ≤ n) (c4 : w.cell? ⟨4, 0, none⟩ = some (snt e4)) (ht : Tb w) (hd : ¬ headC bs) :
    Calls Tryd.prog 61 #[.slice a n c] w fun e w' => e = .returned (.tuple #[.slice none 0 0, .bool false]) ∧ Kp w w' := by
  obtain ⟨b, off, rfl⟩ := hs.pos (by omega)
  have hln := hs.len
  have hx := hb _ (List.getElem_mem (show 0 < bs.length by omega))
  have hy := hb _ (List.getElem_mem (show 1 < bs.length by omega))
  have ex : bs.getD 0 0 = bs[0]'(by omega) := by simp [List.getD, show 0 < bs.length by omega]
  have ey : bs.getD 1 0 = bs[1]'(by omega) := by simp [List.getD, show 1 < bs.length by omega]
  rw [← ex] at hx
  rw [← ey] at hy
  have h0 := slb_cell hs 0 (by omega)
  have h1 := slb_cell hs 1 (by omega)
  rw [Nat.add_zero] at h0
  have hcn : ((cnt bs : Nat) : Int) = bs.getD 0 0 * 256 + bs.getD 1 0 := by unfold cnt; omega
  obtain ⟨x, hxx⟩ : ∃ x, bs.getD 0 0 = x := ⟨_, rfl⟩
  obtain ⟨y, hyy⟩ : ∃ y, bs.getD 1 0 = y := ⟨_, rfl⟩
  rw [hxx] at h0 hx hcn
  rw [hyy] at h1 hy hcn
  obtain ⟨x0, x1⟩ := hx
  obtain ⟨y0, y1⟩ := hy
  have hor := or_256 x y x0 x1 y0 y1
  rw [← hcn] at hor
  obtain ⟨k, hk⟩ : ∃ k, cnt bs = k := ⟨_, rfl⟩
  rw [hk] at hor hcn
  obtain ⟨kk, hkk⟩ : ∃ kk : Int, (k : Int) = kk := ⟨_, rfl⟩
  rw [hkk] at hor
  obtain ⟨nn, hnn⟩ : ∃ x : Int, (n : Int) = x := ⟨_, rfl⟩
  have h2 : ¬ nn < 2 := by omega
  rw [hk] at hc hge
  have HR := Lib.hid (jright_yes kk (by omega) (by omega))
  have HFS := Lib.hid (jfsize_any kk (by omega) (by omega))
  have hlt2 : ¬ nn < kk + 6 := by omega
  have hh := headC_iff hb (by rw [hk, hn]; exact hge) (by rw [hk]; exact hc.1) (by rw [hk]; exact hc.2)
  rw [hk] at hh
  obtain ⟨A, C, hAC, hwin, hsl⟩ := slb_win2 (lo := 2) (n := k + 4) (ll := 2) (hh := kk + 6) hs hnc (by omega) (by omega) rfl (by omega)
  have hwl : ((bs.drop 2).take (k + 4)).length = k + 4 := by rw [List.length_take, List.length_drop]; omega
  have ho := fun w1 (hk : Kp w w1) => open_bad_c e4 (some A) (k + 4) C k _ hwl rfl (by omega) hAC (in_take (in_drop hb 2) _) w1 (kp_cell hk c4) (ht.kp hk) (hsl.kp hk) (fun q => hd (hh.2 q))
  have HO := Lib.hid ho
  clear ex ey hxx hyy hcn hln hs hn hb hc hk hkk hm hge hh hsl hwl hnc hAC ht c4 ho hd
  go_enter Tryd.func61, Tryd.ntmps61
  go_wp2_with (first | (go_at_call 47; (with_reducible refine (HR.out _).mono ?_); rintro e w2 ⟨rfl, rfl⟩) | (go_at_call 45; (with_reducible refine (HFS.out _).mono ?_); rintro e w2 ⟨rfl, rfl⟩))
  go_quiet (fail)
  go_wp2_with (first | (go_at_call 47; (with_reducible refine (HR.out _).mono ?_); rintro e w2 ⟨rfl, rfl⟩) | (go_at_call 45; (with_reducible refine (HFS.out _).mono ?_); rintro e w2 ⟨rfl, rfl⟩) | (go_at_call 74; (with_reducible refine (HO.out _ (Kp.drewN (Kp.refl _) _)).mono ?_); rintro e w2 ⟨rfl, hk2⟩; have K2 := Lib.hid (Kp.trans (Kp.drewN (Kp.refl _) _) hk2); clear hk2))
  go_quiet (fail)
  go_wp2
  go_ret2
  exact ⟨rfl, Kp.drewN K2.out _⟩
set_option maxRecDepth 100000 in
set_option maxHeartbeats 4000000 in
theorem jfirst_ok (e4 : Addr) (a : Option Addr) (n c : Nat) (bs : List Int) (hn : bs.length = n) (hl : 2 ≤ n) (hm : n ≤ 200000) (hb : InB bs) (w : World) (hs : SlB (.slice a n c) bs w) (hnc : n ≤ c) (hc : 1 ≤ cnt bs ∧ cnt bs ≤ 200) (hge : cnt bs + 6 ≤ n) (c4 : w.cell? ⟨4, 0, none⟩ = some (snt e4)) (ht : Tb w) (hd : headC bs) :
    Calls Tryd.prog 61 #[.slice a n c] w fun e w' => ∃ v, e = .returned (.tuple #[v, .bool true]) ∧ w'.ownsRow w.heap.size 5 1 v (cnt bs) (((bs.drop 2).take (cnt bs)).map (Value.int .u8)) ∧ Kp w w' := by
  obtain ⟨b, off, rfl⟩ := hs.pos (by omega)
  have hln := hs.len
  have hx := hb _ (List.getElem_mem (show 0 < bs.length by omega))
  have hy := hb _ (List.getElem_mem (show 1 < bs.length by omega))
  have ex : bs.getD 0 0 = bs[0]'(by omega) := by simp [List.getD, show 0 < bs.length by omega]
  have ey : bs.getD 1 0 = bs[1]'(by omega) := by simp [List.getD, show 1 < bs.length by omega]
  rw [← ex] at hx
  rw [← ey] at hy
  have h0 := slb_cell hs 0 (by omega)
  have h1 := slb_cell hs 1 (by omega)
  rw [Nat.add_zero] at h0
  have hcn : ((cnt bs : Nat) : Int) = bs.getD 0 0 * 256 + bs.getD 1 0 := by unfold cnt; omega
  obtain ⟨x, hxx⟩ : ∃ x, bs.getD 0 0 = x := ⟨_, rfl⟩
  obtain ⟨y, hyy⟩ : ∃ y, bs.getD 1 0 = y := ⟨_, rfl⟩
  rw [hxx] at h0 hx hcn
  rw [hyy] at h1 hy hcn
  obtain ⟨x0, x1⟩ := hx
  obtain ⟨y0, y1⟩ := hy
  have hor := or_256 x y x0 x1 y0 y1
  rw [← hcn] at hor
  obtain ⟨k, hk⟩ : ∃ k, cnt bs = k := ⟨_, rfl⟩
  rw [hk] at hor hcn
  obtain ⟨kk, hkk⟩ : ∃ kk : Int, (k : Int) = kk := ⟨_, rfl⟩
  rw [hkk] at hor
  obtain ⟨nn, hnn⟩ : ∃ x : Int, (n : Int) = x := ⟨_, rfl⟩
  have h2 : ¬ nn < 2 := by omega
  rw [hk] at hc hge
  have HR := Lib.hid (jright_yes kk (by omega) (by omega))
  have HFS := Lib.hid (jfsize_any kk (by omega) (by omega))
  have hlt2 : ¬ nn < kk + 6 := by omega
  have hh := headC_iff hb (by rw [hk, hn]; exact hge) (by rw [hk]; exact hc.1) (by rw [hk]; exact hc.2)
  rw [hk] at hh
  obtain ⟨A, C, hAC, hwin, hsl⟩ := slb_win2 (lo := 2) (n := k + 4) (ll := 2) (hh := kk + 6) hs hnc (by omega) (by omega) rfl (by omega)
  have hwl : ((bs.drop 2).take (k + 4)).length = k + 4 := by rw [List.length_take, List.length_drop]; omega
  have hr : ((bs.drop 2).take (k + 4)).take k = (bs.drop 2).take k := by rw [List.take_take, Nat.min_eq_left (by omega)]
  have ho := fun w1 (hk : Kp w w1) => open_ok_c e4 (some A) (k + 4) C k _ hwl rfl (by omega) hAC (in_take (in_drop hb 2) _) w1 (kp_cell hk c4) (ht.kp hk) (hsl.kp hk) (hh.1 hd)
  rw [hr] at ho
  rw [hk]
  have HO := Lib.hid ho
  clear ex ey hxx hyy hcn hln hs hn hb hc hk hkk hm hge hh hsl hwl hnc hAC ht c4 ho hd
  go_enter Tryd.func61, Tryd.ntmps61
  go_wp2_with (first | (go_at_call 47; (with_reducible refine (HR.out _).mono ?_); rintro e w2 ⟨rfl, rfl⟩) | (go_at_call 45; (with_reducible refine (HFS.out _).mono ?_); rintro e w2 ⟨rfl, rfl⟩))
  go_quiet (fail)
  go_wp2_with (first | (go_at_call 47; (with_reducible refine (HR.out _).mono ?_); rintro e w2 ⟨rfl, rfl⟩) | (go_at_call 45; (with_reducible refine (HFS.out _).mono ?_); rintro e w2 ⟨rfl, rfl⟩) | (go_at_call 74; (with_reducible refine (HO.out _ (Kp.drewN (Kp.refl _) _)).mono ?_); rintro e w2 ⟨v2, rfl, ho2, hk2⟩; have O2 := Lib.hid ho2; have K2 := Lib.hid (Kp.trans (Kp.drewN (Kp.refl _) _) hk2); clear hk2 ho2))
  go_quiet (fail)
  go_wp2
  go_ret2
  exact ⟨_, rfl, O2.out, Kp.drewN K2.out _⟩
end Go.Proofs.YtpehmkglkjlmfaaDoor

namespace Go.Proofs.YtpehmkglkjlmfaaDoor
open Go.RowKit Go.Shelf Go.ChangeShapes Go.WideShapes

attribute [local go_sem] Oper.semAt_some

theorem jfirst_none (e1 : Addr) (a : Option Addr) (n c : Nat) (bs : List Int) (hn : bs.length = n) (hm : n ≤ 200000) (hb : InB bs) (w : World) (hs : SlB (.slice a n c) bs w) (hnc : n ≤ c) (c4 : w.cell? ⟨4, 0, none⟩ = some (snt e1)) (ht : Tb w) (hd : ¬ headC bs) :
    Calls Tryd.prog 61 #[.slice a n c] w fun e w' => e = .returned (.tuple #[.slice none 0 0, .bool false]) ∧ Kp w w' := by
  by_cases h2 : n < 2
  · exact jfirst_short a n c h2 w
  · by_cases hc : 1 ≤ cnt bs ∧ cnt bs ≤ 200
    · by_cases hg : n < cnt bs + 6
      · exact jfirst_cut a n c bs hn (by omega) hm hb w hs hc hg
      · exact jfirst_bad e1 a n c bs hn (by omega) hm hb w hs hnc hc (by omega) c4 ht hd
    · exact jfirst_count a n c bs hn (by omega) hm hb w hs hc
/-- an end of a slice, whatever slice -/
theorem slb_end {a : Option Addr} {n c k : Nat} {bs : List Int} {w : World} (h : SlB (.slice a n c) bs w) (hk : k ≤ n) (hnc : n ≤ c) {kk : Int} (hkk : (k : Int) = kk) :
    ∃ A C, n - k ≤ C ∧ (∀ w, (Instr.slice 46 (.slice a n c) (some (.int .i64 kk)) none none).run Tryd.prog w = .ok (.slice A (n - k) C) w) ∧ SlB (.slice A (n - k) C) (bs.drop k) w := by
  by_cases hn : 0 < n
  · obtain ⟨b, off, rfl⟩ := h.pos hn
    exact ⟨_, _, by omega, fun w => run_tail hkk (by omega) w, slb_drop h hk hnc⟩
  · obtain rfl : n = 0 := by omega
    obtain rfl : k = 0 := by omega
    have e : kk.toNat = 0 := by omega
    have hb0 : bs = [] := List.length_eq_zero_iff.1 h.len
    subst hb0
    cases a with
    | none =>
      obtain ⟨_, rfl⟩ := h.app.1 rfl
      refine ⟨none, 0, Nat.le_refl _, fun w => ?_, .inl ⟨by simp, none, 0, rfl, fun _ => rfl⟩⟩
      rw [run_slice_l w 46 _ _ _ byte_sl .i64 _ (by omega) (by omega), byte_elem, byte_sz]
      simp [Result.andThen, sliced, e]
    | some ad =>
      obtain ⟨b, off, sp⟩ := ad
      refine ⟨some ⟨b, off, sp⟩, c, Nat.zero_le _, fun w => ?_, .inl ⟨by simp, _, c, rfl, fun h => by cases h⟩⟩
      rw [run_slice_l w 46 _ _ _ byte_sl .i64 _ (by omega) (by omega), byte_elem, byte_sz]
      simp [Result.andThen, sliced, Addr.add, e]

set_option maxRecDepth 100000 in
set_option maxHeartbeats 4000000 in
theorem jiter (n l bb : Nat) (h1n : 1 ≤ n) (a : Option Addr) (m c : Nat) (bs : List Int) (hm : bs.length = m) (hmc : m ≤ c) (hl : m ≤ 65536) (hb : InB bs) (e4 : Addr) (J : List (List Int) → World → Prop)
    (hJ : ∀ rs W W', J rs W → Kp W W' → J rs W')
    (hR : ∀ rs W, J rs W → W.cell? ⟨bb, 0, none⟩ = some (.slice a m c) ∧ SlB (.slice a m c) bs W ∧ Tb W ∧ W.cell? ⟨4, 0, none⟩ = some (snt e4))
    (hY : ∀ rs r v W0 W, J rs W0 → Kp W0 W → W.ownsRow W0.heap.size 5 1 v r.length (r.map (Value.int .u8)) → InB r → okRs (rs ++ [r]) → (allF (rs ++ [r])).length ≤ m →
      YieldAt Fence.wide (n - 1) Tryd.prog l #[v, .int .i64 (allF (rs ++ [r])).length] W fun e W' => e = .returned (.bool true) ∧ J (rs ++ [r]) W')
    (W : World) (h0 : J [] W) :
    CallsIn Fence.wide n Tryd.prog 60 #[.func (.yield l) #[] #[], .pointer (some ⟨bb, 0, none⟩)] W fun e W' => (∃ v, e = .returned v) ∧ J (rdR bs) W' := by
  have HJ := Lib.hid hJ
  have HR := Lib.hid hR
  have HY := Lib.hid hY
  have HM := Lib.hid hm
  have HB := Lib.hid hb
  have HL := Lib.hid (And.intro hmc hl)
  clear hJ hR hY hm hb hmc hl
  refine callsIn_of_wp Tryd.func60 rfl trivial ?_ rfl
  simp only [Tryd.ntmps60, List.size_toArray, List.length_cons, List.length_nil, Nat.reduceAdd, Nat.reduceSub, Array.replicate_succ, Array.replicate_zero, List.push_toArray, List.append_toArray, List.nil_append, List.cons_append]
  gi_wp2
  gi_loopw [3] (fun p wr => ∃ (rs : List (List Int)) (at' : Nat), p = .int .i64 at' ∧ RdS bs rs at' ∧ J rs wr) (fun p _ => m - (intOf p).toNat)
  case atStart => exact ⟨[], 0, rfl, ⟨fun r hr => (by cases hr), rfl, rfl⟩, h0⟩
  case round =>
    obtain ⟨rs, at', rfl, hrs, hj⟩ := hrel
    obtain ⟨jj, hjj⟩ : ∃ jj : Int, (at' : Int) = jj := ⟨_, rfl⟩
    rw [hjj]
    obtain ⟨cb, hs, ht, c4⟩ := HR.out rs wr hj
    have hat := hrs.le
    rw [HM.out] at hat
    obtain ⟨hmc, hml⟩ := HL.out
    obtain ⟨A, C, hAC, hrun, hsl⟩ := slb_end hs hat hmc hjj
    have hdl : (bs.drop at').length = m - at' := by rw [List.length_drop, HM.out]
    have hdb := in_drop HB.out at'
    have j0 : 0 ≤ jj := by omega
    have j1 : jj ≤ 65536 := by omega
    have JJ := Lib.hid hjj
    have RS := Lib.hid hrs
    have HJ0 := Lib.hid hj
    have HLT := Lib.hid hat
    by_cases hc : headC (bs.drop at')
    · obtain ⟨r, hr⟩ : ∃ r, ((bs.drop at').drop 2).take (cnt (bs.drop at')) = r := ⟨_, rfl⟩
      obtain ⟨hrs2, hro, hrl⟩ := hrs.next hc hr
      have hcc := hc
      obtain ⟨q1, q2, q3, q4, -⟩ := hcc
      have hf := jfirst_ok e4 A (m - at') C _ hdl (by omega) (by omega) hdb wr hsl hAC ⟨q2, q3⟩ (by omega) c4 ht hc
      rw [hr, ← hrl] at hf
      have hrb : InB r := by rw [← hr]; exact in_take (in_drop hdb 2) _
      obtain ⟨ll, hll⟩ : ∃ ll : Int, ((r.length : Nat) : Int) = ll := ⟨_, rfl⟩
      obtain ⟨L, hL⟩ : ∃ L, r.length = L := ⟨_, rfl⟩
      have l0 : 0 ≤ ll := by omega
      have l1 : ll ≤ 200 := by have := hro.2; omega
      have FS := Lib.hid (jfsize_any ll l0 (by omega))
      have HF := Lib.hid hf
      have h2le := hrs2.le
      rw [HM.out] at h2le
      have hYY := fun v (W1 : World) (hk : Kp wr W1) (ho : W1.ownsRow wr.heap.size 5 1 v r.length (r.map (Value.int .u8))) => HY.out rs r v wr W1 hj hk ho hrb hrs2.ok (by rw [hrs2.ln]; exact h2le)
      have e1 : (((allF (rs ++ [r])).length : Nat) : Int) = jj + (ll + 6) := by rw [hrs2.ln]; omega
      rw [e1] at hYY
      have HYY := Lib.hid hYY
      have RS2 := Lib.hid hrs2
      have HLL := Lib.hid (And.intro hll hL)
      rw [hL] at hll
      have l2 : ((L : Nat) : Int) = ll := hll
      clear hj hrs hs ht c4 hsl hAC hdl hdb hat hr hf hYY e1 hro hrl hrb q1 q2 q3 q4 hc hL hjj h2le hmc hml hrs2 hll
      gi_wp2_with (first
        | (refine ⟨trivial, ?_⟩; gi_at_call 61; refine (callsIn_wide.2 HF.out).mono ?_; rintro e w2 ⟨v2, rfl, ho2, hk2⟩; obtain ⟨a2, c2, rfl, -⟩ := own_len ho2; obtain ⟨fn, tmps, assign, body, hy, hR2⟩ := HYY.out _ w2 hk2 ho2; have HRD := Lib.hid hR2; rw [HLL.out.2] at hy ⊢; clear ho2 hk2 hR2)
        | (refine ⟨trivial, ?_⟩; gi_at_call 45; refine (callsIn_wide.2 (FS.out _)).mono ?_; rintro e w3 ⟨rfl, rfl⟩))
      refine HRD.out.mono ?_
      rintro e W3 ⟨rfl, hj3⟩
      have HJ3 := Lib.hid hj3
      clear hj3
      gi_wp2
      have h1 := JJ.out
      have h2 := HLL.out
      have h3 := RS2.out.le
      have h4 := HM.out
      have h5 := (show 0 ≤ ll from l0)
      go_roundw
      case rel => exact ⟨rs ++ [r], at' + (r.length + 6), by congr 1; omega, RS2.out, HJ3.out⟩
      case measure => simp [intOf]; omega
    · have hf := Lib.hid (jfirst_none e4 A (m - at') C _ hdl (by omega) hdb wr hsl hAC c4 ht hc)
      have STOP := Lib.hid (hrs.stop hc)
      clear hj hrs hs ht c4 hsl hAC hdl hdb hat hc hjj hmc hml
      gi_wp2_with (refine ⟨trivial, ?_⟩; gi_at_call 61; refine (callsIn_wide.2 hf.out).mono ?_; rintro e w2 ⟨rfl, hk2⟩; have HJ2 := Lib.hid (HJ.out _ _ _ HJ0.out hk2); clear hk2)
      refine bodyPost_ret (results_none rfl _ _ _) rfl ?_
      refine ⟨⟨_, rfl⟩, ?_⟩
      rw [STOP.out]
      exact HJ2.out
end Go.Proofs.YtpehmkglkjlmfaaDoor

namespace Go.Proofs.YtpehmkglkjlmfaaDoor
open Go.RowKit Go.Shelf Go.ChangeShapes Go.WideShapes

attribute [local go_sem] Oper.semAt_some

variable {ads : List Addr} {W w w' W0 w2 w3 w5 : World} {B q g tb jc ec N n : Nat} {v v' : Value} {us : List Value} {rs : List (List Int)} {rec : Loop}

/-- BETWEEN TWO ROUNDS: W0 is the world ahead of the loop (its heap ends at N); only the journal's block q and the box ec of 'end' have turned below it; the loop's two blocks lie behind it, then the journal's list and rows. -/
structure OJ (W0 : World) (B q g jc ec : Nat) (rec : Loop) (rs : List (List Int)) (W : World) : Prop where
  os : W.os = W0.os
  tape : W.tape = W0.tape
  output : W.output = W0.output
  low : ∀ b, b < W0.heap.size → b ≠ q → b ≠ ec → W.heap[b]? = W0.heap[b]?
  df : W.heap[W0.heap.size]? = some (.deferred (some []))
  lp : W.heap[W0.heap.size + 1]? = some (.loop rec)
  ends : W.heap[ec]? = some (.cells #[.int .i64 (allF rs).length] 3 (0, 0))
  jou : ∃ v us, JouS B q g v us rs false W ∧ (∀ b, v.ownBlock = some b → W0.heap.size + 2 ≤ b) ∧ (∀ u ∈ us, ∀ b, u.ownBlock = some b → W0.heap.size + 2 ≤ b)
  qlt : q < W0.heap.size
  elt : ec < W0.heap.size
  qe : q ≠ ec
theorem OJ.size (h : OJ W0 B q g jc ec rec rs W) : W0.heap.size + 2 ≤ W.heap.size := by
  have := old_of_row h.lp
  omega
theorem OJ.kp (h : OJ W0 B q g jc ec rec rs W) (hk : Kp W w') : OJ W0 B q g jc ec rec rs w' := by
  have hs := h.size
  have hb : ∀ b, b < W.heap.size → w'.heap[b]? = W.heap[b]? := fun b q => Below.block hk b q
  obtain ⟨v, us, h1, h2, h3⟩ := h.jou
  have hel := h.elt
  exact ⟨hk.os.trans h.os, hk.tape.trans h.tape, hk.output.trans h.output, fun b h1 h2 h3 => (hb b (by omega)).trans (h.low b h1 h2 h3), (hb _ (by omega)).trans h.df, (hb _ (by omega)).trans h.lp, (hb _ (by omega)).trans h.ends, ⟨v, us, h1.kp hk, h2, h3⟩, h.qlt, h.elt, h.qe⟩

theorem OJ.old {W : World} (h : OJ W0 B q g jc ec rec rs w) (hk : Kp W W0) (hq : W.heap.size ≤ q) (he : W.heap.size ≤ ec) : Kp W w :=
  ⟨h.os.trans hk.os, h.tape.trans hk.tape, h.output.trans hk.output, by have := Below.size hk; have := h.size; omega, fun b hb => by
    rw [h.low b (by have := Below.size hk; omega) (by omega) (by omega)]
    exact Below.block hk b hb⟩
/-- A ROUND: the record busy, memory made, the row appended, both cells turned, the record ready. -/
theorem OJ.round {rb : Loop} {r : List Int} {v8 : Value} {NE : Int} (h : OJ W0 B q g jc ec rec rs W) (hv : JouS B q g v us rs false W) (hvb : ∀ b, v.ownBlock = some b → W0.heap.size + 2 ≤ b) (hub : ∀ u ∈ us, ∀ b, u.ownBlock = some b → W0.heap.size + 2 ≤ b)
    (k3 : Kp (W.putObj (W0.heap.size + 1) (.loop rb)) w3) (h8 : W.ownsRow n 5 1 v8 r.length (r.map (Value.int .u8))) (hn : B ≤ n) (hnN : W0.heap.size + 2 ≤ n) (hib : InB r) (hfresh : ∀ b, JBl q v us b → b < n)
    (hgr : w3.grownBy w5 v.ownBlock) (hbk : ∀ b, v'.ownBlock = some b → v.ownBlock = some b ∨ w3.heap.size ≤ b) (hown : w5.ownsRow B 46 1 v' (rs.length + 1) (us ++ [v8])) (hNE : NE = ((allF (rs ++ [r])).length : Nat)) :
    ((w5.setCell ⟨q, 1, none⟩ v').setCell ⟨ec, 0, none⟩ (.int .i64 NE)).heap[W0.heap.size + 1]? = some (.loop rb) ∧
    OJ W0 B q g jc ec rec (rs ++ [r]) (((w5.setCell ⟨q, 1, none⟩ v').setCell ⟨ec, 0, none⟩ (.int .i64 NE)).putObj (W0.heap.size + 1) (.loop rec)) := by
  have hs := h.size
  have hel := h.elt
  have hql := h.qlt
  have hqe := h.qe
  have hwb : ∀ b, b ≠ W0.heap.size + 1 → (W.putObj (W0.heap.size + 1) (.loop rb)).heap[b]? = W.heap[b]? := fun b hb => World.putObj_heap_other hb
  have hwl : (W.putObj (W0.heap.size + 1) (.loop rb)).heap[W0.heap.size + 1]? = some (.loop rb) := World.putObj_heap_same (by omega)
  have hwz : (W.putObj (W0.heap.size + 1) (.loop rb)).heap.size = W.heap.size := World.putObj_size
  have h3 : ∀ b, b < W.heap.size → w3.heap[b]? = (W.putObj (W0.heap.size + 1) (.loop rb)).heap[b]? := fun b hb => Below.block k3 b (by rw [hwz]; exact hb)
  have h3z : W.heap.size ≤ w3.heap.size := by have := Below.size k3; rw [hwz] at this; exact this
  have hJ : ∀ b, JBl q v us b → w3.heap[b]? = W.heap[b]? := fun b hb => by
    have h1 := hv.mem b hb
    rw [h3 b h1.2]
    refine hwb b (fun e => ?_)
    rcases hb with rfl | hb | ⟨u, hu, hb⟩
    · omega
    · have := hvb b hb; omega
    · have := hub u hu b hb; omega
  have h8b : ∀ b, v8.ownBlock = some b → n ≤ b ∧ b < W.heap.size := fun b e => ⟨own_blk h8 e, own_lt2 h8 e⟩
  have hc2 : Cln B [v8] [r] w3 := by
    refine ⟨rfl, fun i hi => ?_⟩
    have hi0 : i = 0 := by simp at hi; exact hi
    subst hi0
    exact ⟨v8, rfl, own_mono (own_stay2 h8 (fun b e => by have := h8b b e; rw [h3 b this.2]; exact hwb b (by omega))) hn, hib⟩
  have hn2 : ∀ u ∈ [v8], ∀ b, u.ownBlock = some b → ¬ JBl q v us b := fun u hu b e hb => by
    obtain rfl := List.mem_singleton.1 hu
    have := h8b b e
    have := hfresh b hb
    omega
  have S := hv.more (rs := [r]) hJ hc2 hn2 hgr hbk (by simpa using hown)
  -- blocks that no step turns
  have e5 : ∀ b, b < W.heap.size → v.ownBlock ≠ some b → w5.heap[b]? = w3.heap[b]? := fun b hb hne => hgr.block b (by omega) (fun p => hne p.symm)
  have e6 : ∀ (x : World) (b : Nat), b ≠ q → (x.setCell ⟨q, 1, none⟩ v').heap[b]? = x.heap[b]? := fun x b hb => Below.heap_setCell _ _ _ _ hb
  have e7 : ∀ (x : World) (b : Nat), b ≠ ec → (x.setCell ⟨ec, 0, none⟩ (.int .i64 NE)).heap[b]? = x.heap[b]? := fun x b hb => Below.heap_setCell _ _ _ _ hb
  have hvN : ∀ b, b < W0.heap.size + 2 → v.ownBlock ≠ some b := fun b hb e => by have := hvb b e; omega
  have hlow : ∀ b, b < W0.heap.size + 2 → b ≠ W0.heap.size + 1 → b ≠ q → b ≠ ec → ((w5.setCell ⟨q, 1, none⟩ v').setCell ⟨ec, 0, none⟩ (.int .i64 NE)).heap[b]? = W.heap[b]? := fun b h1 h2 h4 h5 => by
    rw [e7 _ b h5, e6 _ b h4, e5 b (by omega) (hvN b h1), h3 b (by omega), hwb b h2]
  have hlp : ((w5.setCell ⟨q, 1, none⟩ v').setCell ⟨ec, 0, none⟩ (.int .i64 NE)).heap[W0.heap.size + 1]? = some (.loop rb) := by
    rw [e7 _ _ (by omega), e6 _ _ (by omega), e5 _ (by omega) (hvN _ (by omega)), h3 _ (by omega), hwl]
  have hst : (w5.setCell ⟨q, 1, none⟩ v').heap[ec]? = some (.cells #[.int .i64 (allF rs).length] 3 (0, 0)) := by
    rw [e6 _ _ (by omega), e5 _ (by omega) (hvN _ (by omega)), h3 _ (by omega), hwb _ (by omega)]
    exact h.ends
  have hend : ((w5.setCell ⟨q, 1, none⟩ v').setCell ⟨ec, 0, none⟩ (.int .i64 NE)).heap[ec]? = some (.cells #[.int .i64 (allF (rs ++ [r])).length] 3 (0, 0)) := by
    rw [← hNE]
    exact (Joins.block_setCell hst _).trans rfl
  have eP : ∀ (x : World) (b : Nat), b ≠ W0.heap.size + 1 → (x.putObj (W0.heap.size + 1) (.loop rec)).heap[b]? = x.heap[b]? := fun x b hb => World.putObj_heap_other hb
  refine ⟨hlp, ?_, ?_, ?_, fun b h1 h2 h4 => ?_, ?_, ?_, ?_, ⟨v', us ++ [v8], S.stay (fun b hb => ?_), fun b hb => ?_, fun u hu b hb => ?_⟩, h.qlt, h.elt, h.qe⟩
  · exact (hgr.os.trans k3.os).trans h.os
  · exact (hgr.tape.trans k3.tape).trans h.tape
  · exact (hgr.output.trans k3.output).trans h.output
  · rw [eP _ b (by omega), hlow b (by omega) (by omega) h2 h4]
    exact h.low b h1 h2 h4
  · rw [eP _ _ (by omega), hlow _ (by omega) (by omega) (by omega) (by omega)]
    exact h.df
  · exact World.putObj_heap_same (old_of_row hlp)
  · rw [eP _ _ (by omega)]
    exact hend
  · have hbm : b ≠ ec ∧ b ≠ W0.heap.size + 1 := by
      rcases hb with rfl | hb | ⟨u, hu, hb⟩
      · exact ⟨hqe, by omega⟩
      · rcases hbk b hb with p | p
        · have := hvb b p; omega
        · omega
      · rcases List.mem_append.1 hu with p | p
        · have := hub u p b hb; omega
        · obtain rfl := List.mem_singleton.1 p
          have := h8b b hb
          omega
    rw [eP _ b hbm.2, e7 _ b hbm.1]
  · rcases hbk b hb with p | p
    · exact hvb b p
    · omega
  · rcases List.mem_append.1 hu with p | p
    · exact hub u p b hb
    · obtain rfl := List.mem_singleton.1 p
      have := h8b b hb
      omega

/-- BEHIND THE LOOP AND WHAT IS DONE ON THE TAPE: the journal is there. -/
theorem OJ.fin {R : Nat → TM → (Nat → Prop) → World → Prop} {X Z : World} {O O' : Nat → Prop} {m' : TM} {o : Obj} (h : OJ W0 B q g jc ec rec rs X) (T : TapC ads W R) (KB : Kp w W0) (hq : w.heap.size = q) (hec : q < ec) (hA : Asd O O' (X.putObj (W0.heap.size + 1) o) Z) (hO : ∀ b, O b → b < q) (hr : R g m' O' Z) :
    R g m' O' (Z.putObj W0.heap.size (.deferred none)) ∧ (∃ OJ', JouR B q g ⟨rs, false⟩ OJ' (Z.putObj W0.heap.size (.deferred none)) ∧ (∀ b, OJ' b → w.heap.size ≤ b) ∧ ∀ b, OJ' b → ¬ O' b) ∧ Asd O O' w (Z.putObj W0.heap.size (.deferred none)) := by
  obtain ⟨v, us, hv, hvb, hub⟩ := h.jou
  have hs := h.size
  have hql := h.qlt
  have yz : (X.putObj (W0.heap.size + 1) o).heap.size = X.heap.size := World.putObj_size
  have hz := hA.size
  have ey : ∀ b, b ≠ W0.heap.size + 1 → (X.putObj (W0.heap.size + 1) o).heap[b]? = X.heap[b]? := fun b hb => World.putObj_heap_other hb
  have ez : ∀ b, b ≠ W0.heap.size → (Z.putObj W0.heap.size (.deferred none)).heap[b]? = Z.heap[b]? := fun b hb => World.putObj_heap_other hb
  have hmj : ∀ b, JBl q v us b → q ≤ b ∧ b < X.heap.size ∧ b ≠ W0.heap.size ∧ b ≠ W0.heap.size + 1 := fun b hb => by
    have hm := hv.mem b hb
    rcases hb with rfl | hb | ⟨u, hu, hb⟩
    · omega
    · have := hvb b hb; omega
    · have := hub u hu b hb; omega
  refine ⟨T.stay hr (by rw [World.putObj_size]; exact Nat.le_refl _) (fun b hb => ez b (fun e => ?_)), ⟨JBl q v us, ⟨v, us, hv.stay (fun b hb => ?_), fun _ => Iff.rfl⟩, fun b hb => by rw [hq]; exact (hmj b hb).1, fun b hb hb' => ?_⟩, ?_⟩
  · rcases hA.own b hb with p | p
    · have := hO b p; omega
    · omega
  · obtain ⟨h1, h2, h3, h4⟩ := hmj b hb
    rw [ez b h3, hA.block b (by omega) (fun p => by have := hO b p; omega), ey b h4]
  · obtain ⟨h1, h2, h3, h4⟩ := hmj b hb
    rcases hA.own b hb' with p | p
    · have := hO b p; omega
    · omega
  · have hk := Below.size KB
    refine ⟨?_, ?_, ?_, ?_, fun b hb hn => ?_, fun b hb => ?_⟩
    · exact (hA.os.trans h.os).trans KB.os
    · exact (hA.tape.trans h.tape).trans KB.tape
    · exact (hA.output.trans h.output).trans KB.output
    · rw [World.putObj_size]; omega
    · rw [ez b (by omega), hA.block b (by omega) hn, ey b (by omega), h.low b (by omega) (by omega) (by omega)]
      exact Below.block KB b hb
    · rcases hA.own b hb with p | p
      · exact .inl p
      · exact .inr (by omega)
end Go.Proofs.YtpehmkglkjlmfaaDoor

namespace Go.Proofs.YtpehmkglkjlmfaaDoor
open Go.RowKit Go.Shelf Go.ChangeShapes Go.WideShapes

attribute [local go_sem] Oper.semAt_some

/-- A TAPE's BYTES ARE HANDED OUT in memory of their own. -/
def BytesO (W : World) (R : Nat → TM → (Nat → Prop) → World → Prop) : Prop := ∀ w1, Kp W w1 → ∀ g m O, R g m O w1 → Mok m →
  Calls Tryd.prog 21 #[.pointer (some ⟨g, 0, none⟩)] w1 fun e w' => ∃ a c, e = .returned (.slice a m.all.length c) ∧ m.all.length ≤ c ∧ w'.ownsRow w1.heap.size 5 1 (.slice a m.all.length c) m.all.length (m.all.map (Value.int .u8)) ∧ Kp w1 w'

theorem jframes_it (a : Option Addr) (n c : Nat) (w : World) :
    Calls Tryd.prog 35 #[.slice a n c] w fun e w' => e = .returned (.func (.func 60) #[] #[.pointer (some ⟨w.heap.size, 0, none⟩)]) ∧ w' = w.alloc (.cells #[.slice a n c] 46) := by
  have hmf : ∀ (fn : Fn) (first cap : Array Value) (w : World), (Instr.makeFunc fn first cap).run Tryd.prog w = .ok (.func fn first cap) w := fun _ _ _ _ => rfl
  go_enter Tryd.func35, Tryd.ntmps35
  go_wp2
  go_ret
  exact ⟨rfl, rfl⟩

theorem jcheck_nil (w : World) : Calls Tryd.prog 36 #[.nilIface] w fun e w' => e = .returned (.tuple #[]) ∧ w = w' := by
  go_enter Tryd.func36, Tryd.ntmps36
  go_wp2
  go_end0
  exact ⟨rfl, rfl⟩

variable {ads : List Addr} {W w : World} {R : Nat → TM → (Nat → Prop) → World → Prop} {g tb : Nat} {m : TM} {O : Nat → Prop}

set_option maxRecDepth 100000 in
set_option maxHeartbeats 4000000 in
theorem jopen1 (E : EJ ads W) (T : TapC ads W R) (HBy : BytesO W R) (KW : Kp W w) (ct : w.cell? ⟨tb, 0, none⟩ = some (.pointer (some ⟨g, 0, none⟩))) (htb : ¬ O tb) (h : R g m O w) (hm : Mok m) (ho : (openJ m).1 = 0) :
    Calls Tryd.prog 34 #[.pointer (some ⟨tb, 0, none⟩)] w fun e w' => ∃ q OJ' O', e = .returned (.pointer (some ⟨q, 0, none⟩)) ∧ R g (openJ m).2 O' w' ∧ JouR W.heap.size q g (opened m) OJ' w' ∧ (∀ b, OJ' b → w.heap.size ≤ b) ∧ (∀ b, OJ' b → ¬ O' b) ∧ Asd O O' w w' := by
  have h1n : 1 ≤ 4 := by omega
  have hml : m.all.length ≤ 65536 := by have := hm.len; rw [TM.all, List.length_append]; exact this
  have hmi : InB m.all := hm.bs.app hm.bt
  obtain ⟨M, hM⟩ : ∃ x, m.all.length = x := ⟨_, rfl⟩
  have HB := Lib.hid (fun w1 (hk : Kp w w1) => HBy w1 (Kp.trans KW hk) g m O (T.stay h (Below.size hk) (fun b hb => Below.block hk b (T.mem h b hb).2)) hm)
  rw [hM] at HB hml
  have HMM := Lib.hid (And.intro hM (And.intro hml hmi))
  obtain ⟨e4, h4⟩ : ∃ e4, errI ads 5 = snt e4 := by
    obtain ⟨a6, a7, c6, t6, c7, t7, e6, e7, -⟩ := E.two
    have hl := (List.getElem?_eq_some_iff.1 e7).1
    refine ⟨ads[4], ?_⟩
    unfold errI
    rw [if_neg (by decide), show ((5 : Int) - 1).toNat = 4 from rfl, List.getElem?_eq_getElem (show 4 < ads.length by omega)]
  have HE4 := Lib.hid h4
  have H := Lib.hid h
  have HT := Lib.hid T
  have HE := Lib.hid E
  have HK := Lib.hid KW
  have HM := Lib.hid hm
  have HO := Lib.hid ho
  have HTB := Lib.hid htb
  have htl : tb < w.heap.size := old_of_cell ct
  obtain ⟨q, hq⟩ : ∃ q, w.heap.size = q := ⟨_, rfl⟩
  obtain ⟨wA, hwA⟩ : ∃ x, (w.alloc (.cells #[.pointer (some ⟨g, 0, none⟩), .slice none 0 0, .bool false] 78)).alloc (.cells #[.pointer (some ⟨w.heap.size, 0, none⟩)] 31) = x := ⟨_, rfl⟩
  have KA : Kp w wA := by rw [← hwA]; exact Kp.trans (kp_alloc _ _) (kp_alloc _ _)
  have zA : wA.heap.size = w.heap.size + 2 := by rw [← hwA]; simp
  have qA : wA.heap[w.heap.size]? = some (objJ g (.slice none 0 0) false) := by rw [← hwA]; exact new0 _ _ _
  have jA : wA.cell? ⟨w.heap.size + 1, 0, none⟩ = some (.pointer (some ⟨w.heap.size, 0, none⟩)) := by rw [← hwA]; unfold World.cell?; dsimp only; rw [new1]; rfl
  have ctA := kp_cell KA ct
  rw [hq] at qA jA zA htl hwA
  have HQ := Lib.hid hq
  have HBA := Lib.hid (HB.out wA KA)
  have FA := Lib.hid (And.intro KA (And.intro zA qA))
  have FT := Lib.hid (And.intro htl ct)
  clear h T E KW hm ho htb HBy KA zA qA hM hml hmi h4 htl
  refine (callsIn_wide (n := 4)).1 ?_
  refine callsIn_of_wp_marks Tryd.func34 rfl trivial ?_ rfl
  simp only [Tryd.ntmps34, List.size_toArray, List.length_cons, List.length_nil, Nat.reduceAdd, Nat.reduceSub, Array.replicate_succ, Array.replicate_zero, List.push_toArray, List.append_toArray, List.nil_append, List.cons_append]
  gi_wp2_with (first
    | (refine ⟨trivial, ?_⟩; gi_at_call 21; refine (callsIn_wide.2 HBA.out).mono ?_; rintro e w2 ⟨a2, c2, rfl, hac, hown2, hk2⟩; have F2 := Lib.hid (And.intro hac (And.intro hown2 hk2)); clear hac hown2 hk2)
    | (refine ⟨trivial, ?_⟩; gi_at_call 35; refine (callsIn_wide.2 (jframes_it _ _ _ _)).mono ?_; rintro e w3 ⟨rfl, rfl⟩))
  obtain ⟨ec, hec⟩ : ∃ x, w2.heap.size = x := ⟨_, rfl⟩
  obtain ⟨wB, hwB⟩ : ∃ x, (w2.alloc (.cells #[.int .i64 0] 3)).alloc (.cells #[.slice a2 M c2] 46) = x := ⟨_, rfl⟩
  rw [hwB]
  try rw [hec]
  obtain ⟨hac, hown2, hk2⟩ := F2.out
  obtain ⟨KA, zA, qA⟩ := FA.out
  obtain ⟨htl, ct⟩ := FT.out
  have zA2 := Below.size hk2
  have K2B : Kp w2 wB := by rw [← hwB]; exact Kp.trans (kp_alloc _ _) (kp_alloc _ _)
  have zB : wB.heap.size = ec + 2 := by rw [← hwB, ← hec]; simp
  have eB : wB.heap[ec]? = some (.cells #[.int .i64 0] 3 (0, 0)) := by rw [← hwB, ← hec]; exact new0 _ _ _
  have bB : wB.heap[ec + 1]? = some (.cells #[.slice a2 M c2] 46 (0, 0)) := by rw [← hwB, ← hec]; exact new1 _ _ _
  have KAB : Kp wA wB := Kp.trans hk2 K2B
  have KB : Kp w wB := Kp.trans KA KAB
  have qB : JoC q g (.slice none 0 0) false wB := by unfold JoC; rw [Below.block KAB q (by omega)]; exact qA
  have jB : wB.cell? ⟨q + 1, 0, none⟩ = some (.pointer (some ⟨q, 0, none⟩)) := kp_cell KAB jA
  have ownB := own_kp hown2 K2B
  have hqw := HQ.out
  have HQE := Lib.hid (show q + 2 ≤ ec by omega)
  obtain ⟨hMl, hM6, hMi⟩ := HMM.out
  have cE := HE.out.c5
  rw [HE4.out] at cE
  refine range_of (n := 4) rfl h1n (gf := 60) (lb := #[.pointer (some ⟨ec + 1, 0, none⟩)]) rfl trivial (enters_of Tryd.func60 (by kernel_rfl) rfl) ?_
  intro fn _ rec hrec
  have hst : rec.state = .ready := by rw [hrec]
  have hpr : rec.params = #[14, 15] := by rw [hrec]
  have k2 : Kp wB ((wB.alloc (.deferred (some []))).alloc (.loop rec)) := Kp.trans (kp_alloc _ _) (kp_alloc _ _)
  have hWq : W.heap.size ≤ q := by have := Below.size HK.out; omega
  have qle : q < ec := by omega
  have h0 : OJ wB W.heap.size q g (q + 1) ec rec [] ((wB.alloc (.deferred (some []))).alloc (.loop rec)) :=
    ⟨k2.os, k2.tape, k2.output, fun b hb _ _ => Below.block k2 b hb, new0 _ _ _, new1 _ _ _, (Below.block k2 ec (by omega)).trans eB,
      ⟨.slice none 0 0, [], ⟨by unfold JoC; rw [Below.block k2 q (by omega)]; exact qB, World.ownsRow_nil _ _ _ _, Cln.nil _ _, fun b hb => (by cases hb), fun hb => (by cases hb), fun u hu => (by cases hu), hWq⟩, fun b hb => (by cases hb), fun u hu => (by cases hu)⟩, by omega, by omega, by omega⟩
  refine (jiter (4 - 1) (wB.heap.size + 1) (ec + 1) (by omega) a2 M c2 m.all hMl hac hM6 hMi e4 (OJ wB W.heap.size q g (q + 1) ec rec) (fun rs X Y h hk => h.kp hk) ?hR ?hY _ h0).mono ?done
  case hR =>
    intro rs X h
    have hK := h.old (Kp.trans HK.out KB) hWq (by omega)
    refine ⟨(World.cell?_of_block (a := ⟨ec + 1, 0, none⟩) (h.low (ec + 1) (by omega) (by omega) (by omega))).trans (by unfold World.cell?; dsimp only; rw [bB]; rfl), own_slb (own_stay2 ownB (fun b e => ?_)), HE.out.tb.kp hK, kp_cell hK cE⟩
    have h1 := own_blk hown2 e
    have h2 := own_lt2 hown2 e
    exact h.low b (by omega) (by omega) (by omega)
  case hY =>
    intro rs r v8 X0 X hj hk ho8 hib hro hle
    have hj1 := hj.kp hk
    obtain ⟨v, us, hv0, hvb, hub⟩ := hj.jou
    have hv := hv0.kp hk
    obtain ⟨av, cv, rfl, -⟩ := own_len hv.own
    obtain ⟨a8, c8, rfl, -⟩ := own_len ho8
    obtain ⟨NE, hne⟩ : ∃ x : Int, (((allF (rs ++ [r])).length : Nat) : Int) = x := ⟨_, rfl⟩
    rw [hne]
    have hbig : rs.length + 1 ≤ 1000000 := by
      have h7 := allF_ge hro
      rw [List.length_append, List.length_singleton] at h7
      omega
    obtain ⟨L8, hL8⟩ : ∃ x, r.length = x := ⟨_, rfl⟩
    rw [hL8] at ho8 ⊢
    have c1X := hv.c.c1
    obtain ⟨nr, hnr⟩ : ∃ x, rs.length = x := ⟨_, rfl⟩
    rw [hnr] at c1X hbig
    have HV := Lib.hid (And.intro hv (And.intro hvb hub))
    have H8 := Lib.hid (And.intro ho8 (And.intro hib (Below.size hk)))
    have HNE := Lib.hid hne
    have HLN := Lib.hid (And.intro hL8 hnr)
    have HBIG := Lib.hid hbig
    have HFR := Lib.hid (fun b hb => (hv0.mem b hb).2)
    have HZ := Lib.hid hj.size
    have HWX := Lib.hid (show W.heap.size ≤ X0.heap.size by have h1 := Below.size HK.out; have h2 := hj.size; omega)
    have HVM := Lib.hid (show W.heap.size ≤ X.heap.size by have := hv.base; have := old_of_row hv.c; omega)
    clear hv0 hv hvb hub ho8 hib hne hL8 hnr hbig hle hro
    refine yield_of (r := rec) hj1.lp hst (by rw [hpr]; rfl) trivial ?_
    have HJ1 := Lib.hid hj1
    have hlp := hj1.lp
    have jX0 := (World.cell?_of_block (a := ⟨q + 1, 0, none⟩) (hj1.low (q + 1) (by omega) (by omega) (by omega))).trans jB
    have hca := congrArg Loop.assign hrec
    have hcb := congrArg Loop.body hrec
    have hct := congrArg Loop.tmps hrec
    dsimp only at hca hcb hct
    rw [hca, hcb, hct, hpr]
    have HREC := Lib.hid hrec
    have ZB := Lib.hid zB
    clear hca hcb hct hpr hst hrec zB
    gi_wp2_with fail
    generalize hWb : X.putObj _ (Obj.loop _) = Wb
    have jX : Wb.cell? ⟨q + 1, 0, none⟩ = some (.pointer (some ⟨q, 0, none⟩)) := by
      rw [← hWb]
      exact (World.cell?_of_block (a := ⟨q + 1, 0, none⟩) (World.putObj_heap_other (k := q + 1) (by have := HQE.out; have := ZB.out; omega))).trans jX0
    have c1 : Wb.cell? ⟨q, 1, none⟩ = some (.slice av nr cv) := by
      rw [← hWb]
      exact (World.cell?_of_block (a := ⟨q, 1, none⟩) (World.putObj_heap_other (k := q) (by have := HQE.out; have := ZB.out; omega))).trans c1X
    have HJC : Hid (JoC q g (.slice av nr cv) false Wb) := Lib.hid (by
      have h := HV.out.1.c
      rw [HLN.out.2] at h
      rw [← hWb]
      exact (World.putObj_heap_other (k := q) (by have := HQE.out; have := ZB.out; omega)).trans h)
    have HOWN : Hid (Wb.ownsRow W.heap.size 46 1 (.slice av nr cv) nr us) := Lib.hid (by
      have h := HV.out.1.own
      rw [HLN.out.2] at h
      rw [← hWb]
      exact own_stay2 h (fun b e => World.putObj_heap_other (by have := HV.out.2.1 b (by rw [HLN.out.2]; exact e); have := HQE.out; have := ZB.out; omega)))
    have HVM : Hid (W.heap.size ≤ Wb.heap.size) := Lib.hid (by rw [← hWb, World.putObj_size]; exact HVM.out)
    have HVN : Hid (some (q + 1) ≠ (Value.slice av nr cv).ownBlock ∧ some q ≠ (Value.slice av nr cv).ownBlock ∧ some ec ≠ (Value.slice av nr cv).ownBlock) := Lib.hid (by
      have h := HV.out.2.1
      rw [HLN.out.2] at h
      have h1 := HQE.out
      have h2 := ZB.out
      exact ⟨fun e => by have := h _ e.symm; omega, fun e => by have := h _ e.symm; omega, fun e => by have := h _ e.symm; omega⟩)
    have HEB : Hid (Wb.heap[ec]? = some (.cells #[.int .i64 (allF rs).length] 3 (0, 0))) := Lib.hid (by
      rw [← hWb]
      exact (World.putObj_heap_other (k := ec) (by have := ZB.out; omega)).trans HJ1.out.ends)
    have HWb := Lib.hid hWb
    clear hWb jX0 c1X
    refine region_round (by kernel_rfl) (by kernel_rfl) (by rintro ⟨_, _, h⟩; exact h) ?_
    refine wpAny_of_held (S := (fun w' => w'.cell? ⟨q + 1, 0, none⟩ = some (.pointer (some ⟨q, 0, none⟩)))) _ _ _ _ ?_
    have hHeld : Wb.drew.cell? ⟨q + 1, 0, none⟩ = some (.pointer (some ⟨q, 0, none⟩)) := jX
    refine wpAnyH_take (i := 0) (v := ?_) rfl (by kernel_rfl) (by kernel_rfl) (by kernel_rfl) (fun _ _ _ h => h) (Or.inl ⟨by rfl, ?_⟩) (by assumption) ?_
    rotate_left
    · intro w hSw; have s1 : w.cell? _ = _ := hSw; go_simp; try with_reducible rfl
    go_simp
    refine wpAnyH_take (i := 1) (v := ?_) rfl (by kernel_rfl) (by kernel_rfl) (by kernel_rfl) (fun _ _ _ h => h) (Or.inl ⟨by rfl, ?_⟩) (by assumption) ?_
    rotate_left
    · intro w hSw; have s1 : w.cell? _ = _ := hSw; go_simp; try with_reducible rfl
    go_simp
    refine wpAnyH_take (i := 2) (v := ?_) rfl (by kernel_rfl) (by kernel_rfl) (by kernel_rfl) (fun _ _ _ h => h) (Or.inl ⟨by rfl, ?_⟩) (by assumption) ?_
    rotate_left
    · intro w hSw; have s1 : w.cell? _ = _ := hSw; go_simp; try with_reducible rfl
    go_simp
    refine wpAnyH_take (i := 3) (v := ?_) rfl (by kernel_rfl) (by kernel_rfl) (by kernel_rfl) (fun _ _ _ h => h) (Or.inl ⟨by rfl, ?_⟩) (by assumption) ?_
    rotate_left
    · intro w hSw; have s1 : w.cell? _ = _ := hSw; go_simp; try with_reducible rfl
    go_simp
    refine wpAnyH_take (i := 5) (v := ?_) rfl (by kernel_rfl) (by kernel_rfl) (by kernel_rfl) (fun _ _ _ h => h) (Or.inl ⟨by rfl, ?_⟩) (by assumption) ?_
    rotate_left
    · intro w hSw; have s1 : w.cell? _ = _ := hSw; go_simp; try with_reducible rfl
    go_simp
    refine wpAnyH_ready (rs := [4, 6]) (by kernel_rfl) (by simp) ?_
    refine (AllReadyH.consL rfl (fun K hK => ?_) (AllReadyH.consL rfl (fun K hK => ?_) AllReadyH.nil))
    · go_wp2_with fail
      go_simp
      refine hK.out _ _ ?_ (fun hHeld => ?_)
      · exact hHeld
      clear hK K
      refine wpAnyH_ready (rs := [6]) (by kernel_rfl) (by simp) ?_
      refine (AllReadyH.consL rfl (fun K hK => ?_) AllReadyH.nil)
      go_wp2_with fail
      go_simp
      have K3 := Lib.hid (Kp.trans (Kp.refl Wb).drew (kp_alloc Wb.drew (.cells #[.slice a8 L8 c8] 46)))
      have jX3 := kp_cell K3.out jX
      have c13 := kp_cell K3.out c1
      have c1b := kp_cell (kp_alloc Wb (.cells #[.slice a8 L8 c8] 46)) c1
      refine hK.out _ _ ?_ (fun hHeld => ?_)
      · exact jX3
      clear hK K
      refine wpAnyH_ready (rs := [7]) (by kernel_rfl) (by simp) ?_
      refine AllReadyH.consL rfl (fun K hK => ?_) AllReadyH.nil
      go_simp
      have OWb := HOWN.out
      refine wpList_append_us _ rfl _ _ rfl W.heap.size _ nr us rfl (own_kp OWb K3.out) _ 1 1 [.slice a8 L8 c8] rfl rfl (fun h => by cases h) (fun u hu => by obtain rfl := List.mem_singleton.1 hu; rfl) (fun ad h k u hu => one_cell _ _ _ ad h k u hu) HBIG.out ?d6 ?_
      case d6 => have h1 := HVM.out; first | omega | (simp; omega)
      intro v5 w5 hown5 hgr5 hbk5
      obtain ⟨a5, cv5, rfl, -⟩ := own_len hown5
      have jX5 := Lib.hid ((World.cell?_of_block (a := ⟨q + 1, 0, none⟩) (hgr5.block (q + 1) (old_of_cell jX3) HVN.out.1)).trans jX3)
      have jc5 : JoC q g (.slice av nr cv) false w5 := (hgr5.block q (old_of_cell c13) HVN.out.2.1).trans (HJC.out.kp K3.out)
      have c5 := jc5.c1
      have z5 := jc5.z 1
      clear jc5
      have F5 := Lib.hid (And.intro hown5 (And.intro hgr5 hbk5))
      clear hown5 hgr5 hbk5
      go_simp
      refine hK.out _ _ ?_ (fun hHeld => ?_)
      · exact jX5.out
      clear hK K
      refine wpAnyH_take (i := 8) (v := ?_) rfl (by kernel_rfl) (by kernel_rfl) (by kernel_rfl) (fun _ _ _ h => h) (Or.inl ⟨by rfl, ?_⟩) (by assumption) ?_
      rotate_left
      · intro w hSw; go_simp; try with_reducible rfl
      go_simp
      refine wpAnyH_take (i := 9) (v := ?_) rfl (by kernel_rfl) (by kernel_rfl) (by kernel_rfl) (fun _ _ _ h => h) (Or.inl ⟨by rfl, ?_⟩) (by assumption) ?_
      rotate_left
      · intro w hSw; go_simp; try with_reducible rfl
      go_simp
      refine wpAnyH_ready (rs := [10]) (by kernel_rfl) (by simp) ?_
      refine (AllReadyH.consL rfl (fun K hK => ?_) AllReadyH.nil)
      go_wp2_with fail
      go_simp
      refine hK.out _ _ ?_ (fun hHeld => ?_)
      · exact (World.cell?_of_block (a := ⟨q + 1, 0, none⟩) (Below.heap_setCell _ _ _ _ (by simp))).trans jX5.out
      clear hK K
      refine wpAnyH_done (by kernel_rfl) ?_ _
      have eE : (w5.setCell ⟨q, 1, none⟩ (.slice a5 (nr + 1) cv5)).heap[ec]? = some (.cells #[.int .i64 (allF rs).length] 3 (0, 0)) := (Below.heap_setCell _ _ _ _ (fun e => by have h1 := HQE.out; have h2 : ec = q := e; omega)).trans ((F5.out.2.1.block ec (Nat.lt_of_lt_of_le (old_of_row HEB.out) (Below.size K3.out)) HVN.out.2.2).trans ((Below.block K3.out ec (old_of_row HEB.out)).trans HEB.out))
      have hcE : (w5.setCell ⟨q, 1, none⟩ (.slice a5 (nr + 1) cv5)).cell? ⟨ec, 0, none⟩ = some (.int .i64 (allF rs).length) := by unfold World.cell?; dsimp only; rw [eE]; rfl
      have hzE : (w5.setCell ⟨q, 1, none⟩ (.slice a5 (nr + 1) cv5)).frozen? ⟨ec, 0, none⟩ = false := by unfold World.frozen?; dsimp only; rw [eE]; rfl
      clear eE
      generalize hw6 : w5.setCell ⟨q, 1, none⟩ (.slice a5 (nr + 1) cv5) = w6 at hcE hzE ⊢
      have HW6 := Lib.hid hw6
      clear hw6
      gi_wp2
      have k0 : X.putObj (wB.heap.size + 1) (.loop { rec with state := .busy }) = Wb := by have h := HWb.out; rw [HREC.out] at h ⊢; exact h
      have k3 : Kp (X.putObj (wB.heap.size + 1) (.loop { rec with state := .busy })) (Wb.drew.alloc (.cells #[.slice a8 L8 c8] 46)) := by rw [k0]; exact K3.out
      have RR := HJ1.out.round (v' := .slice a5 (nr + 1) cv5) (NE := NE) HV.out.1 HV.out.2.1 HV.out.2.2 k3 (by rw [HLN.out.1]; exact H8.out.1) HWX.out HZ.out H8.out.2.1 HFR.out (by rw [HLN.out.2]; exact F5.out.2.1) (by rw [HLN.out.2]; exact F5.out.2.2) (by rw [HLN.out.2]; exact F5.out.1) HNE.out.symm
      rw [HW6.out] at RR
      refine ⟨RR.1, rfl, ?_⟩
      have e9 : ({ rec with state := .ready, pending := none } : Loop) = rec := by rw [HREC.out]
      rw [e9]
      exact RR.2
    · go_wp2_with fail
      go_simp
      have K3 := Lib.hid (Kp.trans (Kp.refl Wb).drew (kp_alloc Wb.drew (.cells #[.slice a8 L8 c8] 46)))
      have jX3 := kp_cell K3.out jX
      have c13 := kp_cell K3.out c1
      have c1b := kp_cell (kp_alloc Wb (.cells #[.slice a8 L8 c8] 46)) c1
      refine hK.out _ _ ?_ (fun hHeld => ?_)
      · exact jX3
      clear hK K
      refine wpAnyH_ready (rs := [4]) (by kernel_rfl) (by simp) ?_
      refine (AllReadyH.consL rfl (fun K hK => ?_) AllReadyH.nil)
      go_wp2_with fail
      go_simp
      refine hK.out _ _ ?_ (fun hHeld => ?_)
      · exact jX3
      clear hK K
      refine wpAnyH_ready (rs := [7]) (by kernel_rfl) (by simp) ?_
      refine AllReadyH.consL rfl (fun K hK => ?_) AllReadyH.nil
      go_simp
      have OWb := HOWN.out
      refine wpList_append_us _ rfl _ _ rfl W.heap.size _ nr us rfl (own_kp OWb K3.out) _ 1 1 [.slice a8 L8 c8] rfl rfl (fun h => by cases h) (fun u hu => by obtain rfl := List.mem_singleton.1 hu; rfl) (fun ad h k u hu => one_cell _ _ _ ad h k u hu) HBIG.out ?d6 ?_
      case d6 => have h1 := HVM.out; first | omega | (simp; omega)
      intro v5 w5 hown5 hgr5 hbk5
      obtain ⟨a5, cv5, rfl, -⟩ := own_len hown5
      have jX5 := Lib.hid ((World.cell?_of_block (a := ⟨q + 1, 0, none⟩) (hgr5.block (q + 1) (old_of_cell jX3) HVN.out.1)).trans jX3)
      have jc5 : JoC q g (.slice av nr cv) false w5 := (hgr5.block q (old_of_cell c13) HVN.out.2.1).trans (HJC.out.kp K3.out)
      have c5 := jc5.c1
      have z5 := jc5.z 1
      clear jc5
      have F5 := Lib.hid (And.intro hown5 (And.intro hgr5 hbk5))
      clear hown5 hgr5 hbk5
      go_simp
      refine hK.out _ _ ?_ (fun hHeld => ?_)
      · exact jX5.out
      clear hK K
      refine wpAnyH_take (i := 8) (v := ?_) rfl (by kernel_rfl) (by kernel_rfl) (by kernel_rfl) (fun _ _ _ h => h) (Or.inl ⟨by rfl, ?_⟩) (by assumption) ?_
      rotate_left
      · intro w hSw; go_simp; try with_reducible rfl
      go_simp
      refine wpAnyH_take (i := 9) (v := ?_) rfl (by kernel_rfl) (by kernel_rfl) (by kernel_rfl) (fun _ _ _ h => h) (Or.inl ⟨by rfl, ?_⟩) (by assumption) ?_
      rotate_left
      · intro w hSw; go_simp; try with_reducible rfl
      go_simp
      refine wpAnyH_ready (rs := [10]) (by kernel_rfl) (by simp) ?_
      refine (AllReadyH.consL rfl (fun K hK => ?_) AllReadyH.nil)
      go_wp2_with fail
      go_simp
      refine hK.out _ _ ?_ (fun hHeld => ?_)
      · exact (World.cell?_of_block (a := ⟨q + 1, 0, none⟩) (Below.heap_setCell _ _ _ _ (by simp))).trans jX5.out
      clear hK K
      refine wpAnyH_done (by kernel_rfl) ?_ _
      have eE : (w5.setCell ⟨q, 1, none⟩ (.slice a5 (nr + 1) cv5)).heap[ec]? = some (.cells #[.int .i64 (allF rs).length] 3 (0, 0)) := (Below.heap_setCell _ _ _ _ (fun e => by have h1 := HQE.out; have h2 : ec = q := e; omega)).trans ((F5.out.2.1.block ec (Nat.lt_of_lt_of_le (old_of_row HEB.out) (Below.size K3.out)) HVN.out.2.2).trans ((Below.block K3.out ec (old_of_row HEB.out)).trans HEB.out))
      have hcE : (w5.setCell ⟨q, 1, none⟩ (.slice a5 (nr + 1) cv5)).cell? ⟨ec, 0, none⟩ = some (.int .i64 (allF rs).length) := by unfold World.cell?; dsimp only; rw [eE]; rfl
      have hzE : (w5.setCell ⟨q, 1, none⟩ (.slice a5 (nr + 1) cv5)).frozen? ⟨ec, 0, none⟩ = false := by unfold World.frozen?; dsimp only; rw [eE]; rfl
      clear eE
      generalize hw6 : w5.setCell ⟨q, 1, none⟩ (.slice a5 (nr + 1) cv5) = w6 at hcE hzE ⊢
      have HW6 := Lib.hid hw6
      clear hw6
      gi_wp2
      have k0 : X.putObj (wB.heap.size + 1) (.loop { rec with state := .busy }) = Wb := by have h := HWb.out; rw [HREC.out] at h ⊢; exact h
      have k3 : Kp (X.putObj (wB.heap.size + 1) (.loop { rec with state := .busy })) (Wb.drew.alloc (.cells #[.slice a8 L8 c8] 46)) := by rw [k0]; exact K3.out
      have RR := HJ1.out.round (v' := .slice a5 (nr + 1) cv5) (NE := NE) HV.out.1 HV.out.2.1 HV.out.2.2 k3 (by rw [HLN.out.1]; exact H8.out.1) HWX.out HZ.out H8.out.2.1 HFR.out (by rw [HLN.out.2]; exact F5.out.2.1) (by rw [HLN.out.2]; exact F5.out.2.2) (by rw [HLN.out.2]; exact F5.out.1) HNE.out.symm
      rw [HW6.out] at RR
      refine ⟨RR.1, rfl, ?_⟩
      have e9 : ({ rec with state := .ready, pending := none } : Loop) = rec := by rw [HREC.out]
      rw [e9]
      exact RR.2
  case done =>
    rintro e X ⟨hv, hj⟩
    refine ⟨hv, hj.lp, fun o => ?_⟩
    obtain ⟨Y, hY⟩ : ∃ x, X.putObj (wB.heap.size + 1) o = x := ⟨_, rfl⟩
    have hyl : ∀ b, b < wB.heap.size → b ≠ q → b ≠ ec → Y.heap[b]? = wB.heap[b]? := fun b h1 h2 h3 => by
      rw [← hY]
      exact (World.putObj_heap_other (by omega)).trans (hj.low b h1 h2 h3)
    rw [hY]
    have hOq : ∀ b, O b → b < q := fun b hb => by have := (HT.out.mem H.out b hb).2; omega
    have KBW : Kp W wB := Kp.trans HK.out KB
    have hys : Y.heap.size = X.heap.size := by rw [← hY]; exact World.putObj_size
    have KY : Kp W Y := by
      have h1 := hj.old KBW hWq (by omega)
      refine ⟨?_, ?_, ?_, by rw [hys]; exact Below.size h1, fun b hb => ?_⟩
      · rw [← hY]; exact h1.os
      · rw [← hY]; exact h1.tape
      · rw [← hY]; exact h1.output
      · rw [hyl b (by omega) (by omega) (by omega)]
        exact Below.block KBW b hb
    have rY : R g m O Y := HT.out.stay H.out (by have := hj.size; have := Below.size KB; omega) (fun b hb => by
      have h1 := hOq b hb
      rw [hyl b (by omega) (by omega) (by omega)]
      exact Below.block KB b (by omega))
    have jY : Y.cell? ⟨q + 1, 0, none⟩ = some (.pointer (some ⟨q, 0, none⟩)) := (World.cell?_of_block (a := ⟨q + 1, 0, none⟩) (hyl (q + 1) (by omega) (by omega) (by omega))).trans jB
    have tY : Y.cell? ⟨tb, 0, none⟩ = some (.pointer (some ⟨g, 0, none⟩)) := (World.cell?_of_block (a := ⟨tb, 0, none⟩) (hyl tb (by omega) (by omega) (by omega))).trans (kp_cell KB ct)
    have eY : Y.cell? ⟨ec, 0, none⟩ = some (.int .i64 (allF (rdR m.all)).length) := by
      unfold World.cell?
      dsimp only
      rw [← hY, World.putObj_heap_other (by omega), hj.ends]
      rfl
    have dY : Y.heap[wB.heap.size]? = some (.deferred (some [])) := by
      rw [← hY]
      exact (World.putObj_heap_other (by omega)).trans hj.df
    have hcn : cutN m = ((allF (rdR m.all)).length : Nat) := rfl
    obtain ⟨cc, hcc⟩ : ∃ x : Int, (((allF (rdR m.all)).length : Nat) : Int) = x := ⟨_, rfl⟩
    rw [hcc] at eY hcn
    have c0 : 0 ≤ cc := by omega
    have cM : cc ≤ M := by have := rd_le m.all; omega
    obtain ⟨MM, hMM⟩ : ∃ x : Int, (M : Int) = x := ⟨_, rfl⟩
    rw [hMM] at cM
    have HFIN := Lib.hid (fun (Z : World) (O' : Nat → Prop) (m' : TM) (hA : Asd O O' Y Z) (hr : R g m' O' Z) => by
      rw [← hY] at hA
      exact hj.fin (W := W) HT.out KB hqw qle hA hOq hr)
    have HDD := Lib.hid dY
    have HOQ := Lib.hid hOq
    have HZB := Lib.hid zB
    have hoj := HO.out
    unfold openJ at hoj
    rw [hcn, hMl, hMM] at hoj
    by_cases hcut : cc < MM
    · rw [if_pos hcut] at hoj
      have hct := HT.out.cut Y KY g m O rY HM.out cc (by omega) (by omega)
      rw [hoj, errI_nil] at hct
      have HCT := Lib.hid hct
      have HOM := Lib.hid (show openJ m = cutsM m cc by unfold openJ; rw [hcn, hMl, hMM, if_pos hcut])
      have HJY := Lib.hid (And.intro jY dY)
      clear hct hoj rY KY hyl hY hj hys dY hcn hcc eB bB qB ownB hec hwB hwA cE h0 k2 zB hrec hst hpr
      gi_wp2_with (first
        | (refine ⟨trivial, ?_⟩; gi_at_call 37; refine (callsIn_wide.2 HCT.out).mono ?_; rintro e Z ⟨rfl, O9, hr9, ha9⟩; have HA9 := Lib.hid (And.intro hr9 ha9); have jZ : Z.cell? ⟨q + 1, 0, none⟩ = some (.pointer (some ⟨q, 0, none⟩)) := ((World.cell?_of_block (a := ⟨q + 1, 0, none⟩) (ha9.block (q + 1) (old_of_cell HJY.out.1) (fun p => by have := HOQ.out _ p; omega))).trans HJY.out.1); clear hr9 ha9)
        | (refine ⟨trivial, ?_⟩; gi_at_call 36; refine (callsIn_wide.2 (jcheck_nil _)).mono ?_; rintro e Z2 ⟨rfl, rfl⟩))
      have hK : Z.heap[wB.heap.size]? = some (.deferred (some [])) := (HA9.out.2.block wB.heap.size (old_of_row HJY.out.2) (fun p => by have h1 := HOQ.out _ p; have h2 := HZB.out; omega)).trans HJY.out.2
      refine ⟨by simp, .inl ⟨_, _, rfl, run_takeDeferred hK, ?_⟩⟩
      refine ⟨_, results_tmp rfl _ _ _, ?_⟩
      obtain ⟨h1, ⟨OJ9, h2, h3, h4⟩, h5⟩ := HFIN.out Z O9 _ HA9.out.2 HA9.out.1
      exact ⟨q, OJ9, O9, rfl, by rw [HOM.out]; exact h1, h2, h3, h4, h5⟩
    · rw [if_neg hcut] at hoj
      have HOM := Lib.hid (show openJ m = (0, m) by unfold openJ; rw [hcn, hMl, hMM, if_neg hcut])
      have HRY := Lib.hid rY
      clear hoj rY KY hyl hY hj hys dY hcn hcc eB bB qB ownB hec hwB hwA cE h0 k2 zB hrec hst hpr
      gi_wp2
      refine ⟨by simp, .inl ⟨_, _, rfl, run_takeDeferred HDD.out, ?_⟩⟩
      refine ⟨_, results_tmp rfl _ _ _, ?_⟩
      obtain ⟨h1, ⟨OJ9, h2, h3, h4⟩, h5⟩ := HFIN.out Y O m (Asd.refl _ _) HRY.out
      exact ⟨q, rfl, OJ9, O, by rw [HOM.out]; exact h1, h2, by rw [← HQ.out]; exact h3, h4, h5⟩
end Go.Proofs.YtpehmkglkjlmfaaDoor

namespace Go.Proofs.YtpehmkglkjlmfaaDoor
open Go.RowKit Go.Extern.Stop Go.Stop Go.Extern

/-- BLOCKS FROM B ON ARE AS THEY WERE. -/
def Past (B : Nat) (w w' : World) : Prop := w.heap.size ≤ w'.heap.size ∧ ∀ b, B ≤ b → b < w.heap.size → w'.heap[b]? = w.heap[b]?
/-- ALL BUT THE BLOCKS B, B + 1 IS AS IT WAS. -/
def Aside (B : Nat) (w w' : World) : Prop := w.heap.size ≤ w'.heap.size ∧ ∀ b, b ≠ B → b ≠ B + 1 → w'.heap[b]? = w.heap[b]?
theorem Aside.below {B : Nat} {w w' : World} (h : Below B w w') (hs : ∀ b, b ≠ B → b ≠ B + 1 → w'.heap[b]? = w.heap[b]?) : Aside B w w' := ⟨h.size, hs⟩
theorem past_of {w0 w w' : World} (h : Kp w w') : Past w0.heap.size w w' := ⟨Below.size h, fun b _ hb => Below.block h b hb⟩
theorem heap_setCell_other (w : World) (q : Addr) (v : Value) (b : Nat) (h : b ≠ q.block) : (w.setCell q v).heap[b]? = w.heap[b]? := Below.heap_setCell w q v b h

theorem door_jou_idle (p q : Addr) (w : World) (hp : w.cell? p = some (.bool false)) :
    CallsD Tryd.prog 58 #[.pointer (some p), .pointer (some q)] .returning w fun e u' w' => e = .returned (.tuple #[]) ∧ u' = .returning ∧ w' = w := by
  refine callsD_of_wpS Tryd.func58 rfl fun c₀ cs hu => ?_
  apply wpS_seq
  apply wpS_region
  simp [wpOpsS, go_sem, recoverD, hu, Tryd.ntmps58, Exit.thenS]
  refine wpS_of_wp ?_
  change Code.wp _ _ _ { tmps := #[.pointer (some p), .pointer (some q), .nilIface, .nilIface, undef, undef, undef], defers := [] } _
  go_wp2
  cases c₀
  simp only at hu
  subst hu
  exact ⟨rfl, _, rfl, _, results_none rfl _ _ _, rfl, rfl, rfl⟩


set_option maxRecDepth 20000 in
theorem try_jou_ret (f : FuncId) (caps : Array Value) (w : World) (G : Value → World → World → Prop) (hf : ∀ w, (callFunc f caps).run Tryd.prog w = .ok (.enter f caps) w)
    (H : ∀ w1, Below w.heap.size w w1 → w1.heap.size = w.heap.size + 2 → Calls Tryd.prog f caps w1 fun e w2 => ∃ v, e = .returned v ∧ Past w.heap.size w1 w2 ∧ G v w1 w2) :
    Calls Tryd.prog 33 #[.func (.func f) #[] caps] w fun e w' => ∃ v, e = .returned (.tuple #[v, .nilIface]) ∧ ∃ w1 w2, Below w.heap.size w w1 ∧ w1.heap.size = w.heap.size + 2 ∧ G v w1 w2 ∧ Below w.heap.size w2 w' ∧ Aside w.heap.size w2 w' := by
  have hmf : ∀ (fn : Fn) (first cap : Array Value) (w : World), (Instr.makeFunc fn first cap).run Tryd.prog w = .ok (.func fn first cap) w := fun _ _ _ _ => rfl
  have hN : ((w.alloc (.cells #[.nilIface] 28)).alloc (.cells #[.bool true] 4)).heap[w.heap.size]? = some (.cells #[.nilIface] 28) := new0 _ _ _
  have hM : ((w.alloc (.cells #[.nilIface] 28)).alloc (.cells #[.bool true] 4)).heap[w.heap.size + 1]? = some (.cells #[.bool true] 4) := new1 _ _ _
  have hB : Below w.heap.size w ((w.alloc (.cells #[.nilIface] 28)).alloc (.cells #[.bool true] 4)) := ((Below.refl _ _).alloc (Nat.le_refl _) _).alloc (by simp) _
  have hS : ((w.alloc (.cells #[.nilIface] 28)).alloc (.cells #[.bool true] 4)).heap.size = w.heap.size + 2 := by simp
  have HH := Lib.hid H
  have HN := Lib.hid hN
  have HM := Lib.hid hM
  have HB := Lib.hid hB
  have HS := Lib.hid hS
  clear H hN hM hB hS
  go_enter_defers Tryd.func33, Tryd.ntmps33
  go_wp2
  with_reducible refine (HH.out _ HB.out HS.out).mono ?_
  rintro e w2 ⟨v, rfl, hP, hG⟩
  have e0 : w2.heap[w.heap.size]? = some (.cells #[.nilIface] 28) := (hP.2 _ (by omega) (by rw [HS.out]; omega)).trans HN.out
  have e1 : w2.heap[w.heap.size + 1]? = some (.cells #[.bool true] 4) := (hP.2 _ (by omega) (by rw [HS.out]; omega)).trans HM.out
  have c0 : w2.cell? ⟨w.heap.size, 0, none⟩ = some .nilIface := by simp [World.cell?, e0]
  have c1 : w2.cell? ⟨w.heap.size + 1, 0, none⟩ = some (.bool true) := by simp [World.cell?, e1]
  have z0 : w2.frozen? ⟨w.heap.size, 0, none⟩ = false := by simp [World.frozen?, e0]
  have z1 : w2.frozen? ⟨w.heap.size + 1, 0, none⟩ = false := by simp [World.frozen?, e1]
  clear e0 e1
  go_wp2
  refine leaves_cons (f := 58) (args := #[.pointer (some ⟨w.heap.size + 1, 0, none⟩), .pointer (some ⟨w.heap.size, 0, none⟩)]) (by simp) (by simp [go_sem]) ?_
  refine (door_jou_idle _ _ _ (by simp [go_sem, c1])).mono ?_
  rintro e u' w3 ⟨rfl, rfl, rfl⟩
  simp [Leaves, settle, results, Tryd.results33, go_sem, c0]
  have hb := ((Below.refl w.heap.size w2).setCell (show w.heap.size ≤ w.heap.size + 1 by omega) (.bool false) (p := ⟨w.heap.size + 1, 0, none⟩)).setCell (show w.heap.size ≤ w.heap.size by omega) (.nilIface) (p := ⟨w.heap.size, 0, none⟩)
  exact ⟨_, HB.out, HS.out, _, hG, hb, Aside.below hb fun b h0 h1 => by rw [heap_setCell_other _ _ _ _ h0, heap_setCell_other _ _ _ _ h1]⟩


variable {ads : List Addr} {W w : World} {R : Nat → TM → (Nat → Prop) → World → Prop} {g : Nat} {m : TM} {O : Nat → Prop}
set_option maxRecDepth 20000 in
theorem jopen_ok (E : EJ ads W) (T : TapC ads W R) (HBy : BytesO W R) (KW : Kp W w) (h : R g m O w) (hm : Mok m) (ho : (openJ m).1 = 0) :
    Calls Tryd.prog 11 #[.pointer (some ⟨g, 0, none⟩)] w fun e w' =>
      ∃ q OJ O', e = .returned (.tuple #[.pointer (some ⟨q, 0, none⟩), .nilIface]) ∧ R g (openJ m).2 O' w' ∧ JouR W.heap.size q g (opened m) OJ w' ∧ (∀ b, OJ b → w.heap.size ≤ b) ∧ (∀ b, OJ b → ¬ O' b) ∧ Asd O O' w w' := by
  obtain ⟨wa, hwa⟩ : ∃ x, w.alloc (.cells #[.pointer (some ⟨g, 0, none⟩)] 26) = x := ⟨_, rfl⟩
  have Ka : Kp w wa := by rw [← hwa]; exact kp_alloc _ _
  have za : wa.heap.size = w.heap.size + 1 := by rw [← hwa]; simp
  have ca : wa.cell? ⟨w.heap.size, 0, none⟩ = some (.pointer (some ⟨g, 0, none⟩)) := by
    rw [← hwa]
    unfold World.cell?
    dsimp only
    rw [(MapKept.heap_alloc w _).1]
    rfl
  have hOw : ∀ b, O b → b < w.heap.size := fun b hb => (T.mem h b hb).2
  have HT := try_jou_ret 34 #[.pointer (some ⟨w.heap.size, 0, none⟩)] wa (fun v w1 w2 => ∃ q OJ O', v = .pointer (some ⟨q, 0, none⟩) ∧ R g (openJ m).2 O' w2 ∧ JouR W.heap.size q g (opened m) OJ w2 ∧ (∀ b, OJ b → w1.heap.size ≤ b) ∧ (∀ b, OJ b → ¬ O' b) ∧ Asd O O' w1 w2) (fun _ => by simp [go_sem]) (fun w1 hk1 hs1 => by
    have K1 : Kp wa w1 := hk1
    have KW1 : Kp w w1 := Kp.trans Ka K1
    have hlt : w.heap.size < wa.heap.size := by omega
    refine (jopen1 (tb := w.heap.size) E T HBy (Kp.trans KW KW1) (kp_cell K1 ca) (fun p => by have := hOw _ p; omega) (T.stay h (Below.size KW1) (fun b hb => Below.block KW1 b (hOw b hb))) hm ho).mono ?_
    rintro e w2 ⟨q, OJ, O', rfl, h1, h2, h3, h4, h5⟩
    exact ⟨_, rfl, ⟨h5.size, fun b hb hb2 => h5.block b hb2 (fun p => by have := hOw b p; omega)⟩, q, OJ, O', rfl, h1, h2, h3, h4, h5⟩)
  have H := Lib.hid HT
  have F := Lib.hid (And.intro Ka (And.intro za hOw))
  have HTT := Lib.hid T
  clear HT E T HBy KW h hm ho Ka za ca hOw
  have hmf : ∀ (fn : Fn) (first cap : Array Value) (w : World), (Instr.makeFunc fn first cap).run Tryd.prog w = .ok (.func fn first cap) w := fun _ _ _ _ => rfl
  go_enter Tryd.func11, Tryd.ntmps11
  go_wp2_with (go_at_call 33; (with_reducible refine H.out.mono ?_); rintro e w3 ⟨v, rfl, w1, w2, hk1, hs1, ⟨q, OJ, O', rfl, h1, h2, h3, h4, h5⟩, hk3, hk4⟩)
  go_ret2
  obtain ⟨Ka, za, hOw⟩ := F.out
  have K1 : Kp w w1 := Kp.trans Ka hk1
  have hz := h5.size
  have h3z := hk4.1
  have hO' : ∀ b, O' b → b ≠ wa.heap.size ∧ b ≠ wa.heap.size + 1 := fun b hb => by
    rcases h5.own b hb with p | p
    · have := hOw b p; omega
    · omega
  refine ⟨q, OJ, O', rfl, HTT.out.stay h1 h3z (fun b hb => hk4.2 b (hO' b hb).1 (hO' b hb).2), h2.stay (fun b hb => hk4.2 b (by have := h3 b hb; omega) (by have := h3 b hb; omega)), fun b hb => by have := h3 b hb; omega, h4, ?_⟩
  refine ⟨(hk3.os.trans h5.os).trans K1.os, (hk3.tape.trans h5.tape).trans K1.tape, (hk3.output.trans h5.output).trans K1.output, ?_, fun b hb hn => ?_, fun b hb => ?_⟩
  · have := Below.size K1; omega
  · rw [hk4.2 b (by omega) (by omega), h5.block b (by omega) hn]
    exact Below.block K1 b hb
  · rcases h5.own b hb with p | p
    · exact .inl p
    · exact .inr (by omega)
end Go.Proofs.YtpehmkglkjlmfaaDoor

namespace Go.Proofs.YtpehmkglkjlmfaaDoor
open Go.RowKit Go.ChangeShapes Go.WideShapes

/-- the landed tape hands out bytes in memory of their own -/
theorem bytesO_of (W : World) : BytesO W (TapR W.heap.size) := by
  rintro w1 - g m O ⟨v, h1, h2, -, -, -⟩ hm
  have c3 := h1.c3
  have hn6 : m.all.length ≤ 1000000 := by have := hm.len; rw [TM.all, List.length_append]; omega
  have HC := Lib.hid (clone_any v m.all hn6 w1 (own_slb h2))
  obtain ⟨n, hn⟩ : ∃ n, m.all.length = n := ⟨_, rfl⟩
  rw [hn] at HC ⊢
  obtain ⟨a0, cp, rfl⟩ : ∃ a0 cp, v = .slice a0 n cp := by
    rw [hn] at h2
    rcases h2.2 with ⟨rfl, q⟩ | ⟨gb, cap, cur, rfl, _⟩
    · exact ⟨none, 0, by rw [q]⟩
    · exact ⟨_, _, rfl⟩
  clear h1 h2 hm hn hn6
  go_enter Tryd.func21, Tryd.ntmps21
  go_wp2_with (go_at_call 46; (with_reducible refine HC.out.mono ?_); rintro e w2 ⟨v2, rfl, hown, hk⟩; have HK := Lib.hid hk; have HOW := Lib.hid hown; obtain ⟨a2, c2, rfl, hc2⟩ := own_len hown; have HC2 := Lib.hid hc2; clear hown hk hc2)
  go_ret
  exact ⟨a2, c2, rfl, HC2.out, HOW.out, HK.out⟩

variable {ads : List Addr} {W w0 w1 w w' wb : World} {R : Nat → TM → (Nat → Prop) → World → Prop} {B q g : Nat} {v : Value} {us : List Value} {rows : List (List Int)} {dead : Bool} {m m' : TM} {OJ O O' P : Nat → Prop} {j : JM}
theorem swapM_code (m : TM) (bs : List Int) : (swapM m bs).1 = 0 ∨ (swapM m bs).1 = 6 ∨ (swapM m bs).1 = 7 := by
  unfold swapM
  split
  · exact .inr (.inl rfl)
  split
  · exact .inl rfl
  · rename_i h
    refine .inr (.inr ?_)
    unfold stepM at h ⊢
    split
    · rfl
    · rename_i g; rw [if_neg g] at h; split at h <;> exact absurd rfl h
theorem syncM_code (m : TM) : (syncM m).1 = 0 ∨ (syncM m).1 = 7 := by
  unfold syncM
  split
  · exact .inl rfl
  · rename_i h
    exact .inr ((stepM_two m).resolve_left h)
/-- what the contracts ask behind a call -/
def Fin (R : Nat → TM → (Nat → Prop) → World → Prop) (B q g : Nat) (j : JM) (m : TM) (P : Nat → Prop) (w1 w' : World) : Prop :=
  ∃ OJ' O', JouR B q g j OJ' w' ∧ R g m O' w' ∧ (∀ b, OJ' b → ¬ O' b) ∧ Asd P (fun b => OJ' b ∨ O' b) w1 w'
theorem PS.fin (h : PS R B q g v us rows dead m' O' P wb w') (hk : Kp w1 wb) (e1 : j.rows = rows) (e3 : j.dead = dead) : Fin R B q g j m' P w1 w' := by
  obtain ⟨OJ', O2, h1, h2, h3, h4⟩ := h.done (j := j) e1 e3
  exact ⟨OJ', O2, h1, h2, h3, (Asd.of_kp P hk).trans h4⟩
theorem PS.start (hs : JouS B q g v us rows dead w) (hO : ∀ b, OJ b ↔ JBl q v us b) (hr : R g m O w) (hd : ∀ b, OJ b → ¬ O b) : PS R B q g v us rows dead m O (fun b => OJ b ∨ O b) w w :=
  ⟨hs, hr, fun b hb => hd b ((hO b).2 hb), ⟨rfl, rfl, rfl, Nat.le_refl _, fun _ _ _ => rfl, fun b hb => .inl (hb.imp (hO b).2 id)⟩⟩

theorem jput_all (E : EJ ads W) (T : TapC ads W R) (hk1 : Kp W w1) (hJ : JouR W.heap.size q g j OJ w1) (hr : R g m O w1) (hd : ∀ b, OJ b → ¬ O b) (hm : Mok m) (hi : JI j m) (a : Option Addr) (n c : Nat) (rs : List (List Int)) (hs : Sfe (fun b => OJ b ∨ O b) (.slice a n c) rs w1) (hn : rs.length = n) (hl : n ≤ 100) (hin : ∀ r ∈ rs, InB r ∧ r.length ≤ 100000) :
    Calls Tryd.prog 28 #[.pointer (some ⟨q, 0, none⟩), .slice a n c] w1 fun e w' => e = .returned (errI ads (putJ j m rs).1) ∧ Fin R W.heap.size q g (putJ j m rs).2.1 (putJ j m rs).2.2 (fun b => OJ b ∨ O b) w1 w' := by
  obtain ⟨v, us, hjs, hOJ⟩ := hJ
  have hW : ∀ b, (OJ b ∨ O b) → W.heap.size ≤ b := fun b hb => by
    rcases hb with hb | hb
    · exact (hjs.mem b ((hOJ b).1 hb)).1
    · exact (T.mem hr b hb).1
  have hP : ∀ b, (OJ b ∨ O b) → b < w1.heap.size := fun b hb => by
    rcases hb with hb | hb
    · exact (hjs.mem b ((hOJ b).1 hb)).2
    · exact (T.mem hr b hb).2
  obtain ⟨wb, hwb⟩ : ∃ x, ((w1.alloc (.cells #[.pointer (some ⟨q, 0, none⟩)] 31)).alloc (.cells #[.slice a n c] 42)) = x := ⟨_, rfl⟩
  have kb : Kp w1 wb := by rw [← hwb]; exact Kp.trans (kp_alloc _ _) (kp_alloc _ _)
  have hkW : Kp W wb := Kp.trans hk1 kb
  have zb : wb.heap.size = w1.heap.size + 2 := by rw [← hwb]; simp
  have b0 : wb.cell? ⟨w1.heap.size, 0, none⟩ = some (.pointer (some ⟨q, 0, none⟩)) := by rw [← hwb]; unfold World.cell?; dsimp only; rw [new0]; rfl
  have b1 : wb.cell? ⟨w1.heap.size + 1, 0, none⟩ = some (.slice a n c) := by rw [← hwb]; unfold World.cell?; dsimp only; rw [new1]; rfl
  have hps : PS R W.heap.size q g v us j.rows j.dead m O (fun b => OJ b ∨ O b) wb wb := PS.start (hjs.kp kb) hOJ (T.stay hr (Below.size kb) (fun b hb => Below.block kb b (T.mem hr b hb).2)) hd
  have hsb : Sfe (fun b => OJ b ∨ O b) (.slice a n c) rs wb := hs.kp kb
  have same : ∀ w', Kp wb w' → Fin R W.heap.size q g j m (fun b => OJ b ∨ O b) w1 w' := fun w' hk => (hps.kp T hk).fin kb rfl rfl
  by_cases hdead : j.dead = true
  · have e : putJ j m rs = (9, j, m) := by unfold putJ; rw [if_pos hdead]
    rw [e]
    have hdc : JoC q g v true wb := by have h := hps.s.c; rw [hdead] at h; exact h
    refine jput_err a n c 9 (by decide) _ ?_
    rw [hwb]
    exact (jwrite_dead hdc (kp_cell hkW E.c9) _ _).mono fun e w' ⟨h1, h2⟩ => ⟨h1, same w' h2⟩
  · have hdf : j.dead = false := by cases h : j.dead with
      | true => exact absurd h hdead
      | false => rfl
    rw [hdf] at hps
    by_cases hok : okRs rs
    · have hnb := allF_le hok
      have hin2 : InB (allF rs) := allF_in (fun r hr => (hin r hr).1) hok
      have hvw : ∀ b, v.ownBlock = some b → b < w1.heap.size := fun b e => own_lt2 hjs.own e
      have hW4 : ∀ (m' : TM), (Calls Tryd.prog 55 #[.pointer (some ⟨q, 0, none⟩), .slice a n c, .func (.func 56) #[] #[.pointer (some ⟨w1.heap.size + 1, 0, none⟩), .pointer (some ⟨w1.heap.size, 0, none⟩)]] wb fun e w' => e = .returned (errI ads 0) ∧ ∃ O', PS R W.heap.size q g v us j.rows false m' O' (fun b => OJ b ∨ O b) wb w') → Calls Tryd.prog 28 #[.pointer (some ⟨q, 0, none⟩), .slice a n c] w1 fun e w' => e = .returned (errI ads 0) ∧ Fin R W.heap.size q g { rows := j.rows ++ rs, dead := false } m' (fun b => OJ b ∨ O b) w1 w' := fun m' hw => by
        have hp := jput_ok (w := w1) (m' := m') T (old_of_row hjs.c) a n c rs (by rw [hwb]; exact hsb) hn hl hin (hi.num hm) hP hvw (by rw [hwb]; exact hw)
        rw [hwb] at hp
        exact hp.mono fun e w' ⟨h1, v', us', O', h2⟩ => ⟨h1, h2.fin kb rfl rfl⟩
      have hcells : ∀ w2, Kp wb w2 → w2.cell? ⟨w1.heap.size + 1, 0, none⟩ = some (.slice a n c) ∧ w2.cell? ⟨w1.heap.size, 0, none⟩ = some (.pointer (some ⟨q, 0, none⟩)) := fun w2 hk => ⟨kp_cell hk b1, kp_cell hk b0⟩
      have hap : ∀ (w2 : World) (a2 : Option Addr) (c2 : Nat), w2.ownsRow wb.heap.size 5 1 (.slice a2 (allF rs).length c2) (allF rs).length ((allF rs).map (Value.int .u8)) → ∀ ad, a2 = some ad → ¬ O ad.block := fun w2 a2 c2 hown ad e hb => by
        have h1 := own_blk hown (show (Value.slice a2 (allF rs).length c2).ownBlock = some ad.block by rw [e]; rfl)
        have h2 := (T.mem hr _ hb).2
        omega
      have hj1 : ¬ O w1.heap.size := fun hb => Nat.lt_irrefl _ (T.mem hr _ hb).2
      by_cases hr0 : rs = []
      · have e : putJ j m rs = (0, j, m) := by unfold putJ; rw [if_neg hdead, if_neg (fun x => x hok), if_pos hr0]
        have hn0 : n = 0 := by rw [← hn, hr0]; rfl
        rw [e]
        have hw := jwrite_put (m' := m) E hW hkW T hps a n c rs hsb.now hn hl hin hok (w1.heap.size + 1) w1.heap.size 0 (.inl rfl) (fun w2 a2 c2 hk hown hnc => by
          have h1 := (hcells w2 hk).1
          rw [hn0] at h1
          exact (jput1_none a c (w1.heap.size + 1) w1.heap.size _ w2 h1).mono fun e w3 ⟨h2, h3⟩ => ⟨h2, O, hps.kp T (Kp.trans hk h3)⟩)
        refine (hW4 m hw).mono fun e w' ⟨h1, h2⟩ => ⟨h1, ?_⟩
        have ej : ({ rows := j.rows ++ rs, dead := false } : JM) = j := by rw [hr0, List.append_nil]; exact jm_eta hdead
        rw [ej] at h2
        exact h2
      · have hn0 : n ≠ 0 := fun e => hr0 (List.length_eq_zero_iff.1 (by rw [hn]; exact e))
        by_cases hk : (appM m (allF rs)).1 = 0
        · have hw : ∀ k, (syncM (appM m (allF rs)).2).1 = k → (k = 0 ∨ k = 7) → Calls Tryd.prog 55 #[.pointer (some ⟨q, 0, none⟩), .slice a n c, .func (.func 56) #[] #[.pointer (some ⟨w1.heap.size + 1, 0, none⟩), .pointer (some ⟨w1.heap.size, 0, none⟩)]] wb fun e w' => e = .returned (errI ads k) ∧ ∃ O', PS R W.heap.size q g v us j.rows (decide (k = 7)) (syncM (appM m (allF rs)).2).2 O' (fun b => OJ b ∨ O b) wb w' := fun k hkk h07 =>
            jwrite_put E hW hkW T hps a n c rs hsb.now hn hl hin hok (w1.heap.size + 1) w1.heap.size k (h07.imp id .inr) (fun w2 a2 c2 hk2 hown hnc => by
              have h := jput1_sync hW hkW T (hps.kp T hk2) hm a a2 n c c2 (allF rs) (own_slb hown) hnc hin2 (by omega) (hap w2 a2 c2 hown) hn0 (w1.heap.size + 1) w1.heap.size (hcells w2 hk2).1 (hcells w2 hk2).2 hj1 hk
              rw [hkk] at h
              exact h)
          by_cases hk2 : (syncM (appM m (allF rs)).2).1 = 0
          · have e : putJ j m rs = (0, { rows := j.rows ++ rs, dead := false }, (syncM (appM m (allF rs)).2).2) := by unfold putJ; rw [if_neg hdead, if_neg (fun x => x hok), if_neg hr0, if_pos hk, if_pos hk2]
            rw [e]
            exact hW4 _ (hw 0 hk2 (.inl rfl))
          · have e : putJ j m rs = (7, { j with dead := true }, (syncM (appM m (allF rs)).2).2) := by unfold putJ; rw [if_neg hdead, if_neg (fun x => x hok), if_neg hr0, if_pos hk, if_neg hk2]
            rw [e]
            refine jput_err a n c 7 (by decide) _ ?_
            rw [hwb]
            exact (hw 7 ((syncM_code _).resolve_left hk2) (.inr rfl)).mono fun e w' ⟨h1, O', h2⟩ => ⟨h1, h2.fin kb rfl rfl⟩
        · have e : putJ j m rs = ((appM m (allF rs)).1, { j with dead := decide ((appM m (allF rs)).1 = 7) }, (appM m (allF rs)).2) := by unfold putJ; rw [if_neg hdead, if_neg (fun x => x hok), if_neg hr0, if_neg hk]
          rw [e]
          refine jput_err a n c _ hk _ ?_
          rw [hwb]
          have hw := jwrite_put E hW hkW T hps a n c rs hsb.now hn hl hin hok (w1.heap.size + 1) w1.heap.size _ (appM_code m (allF rs)) (fun w2 a2 c2 hk2 hown hnc =>
            jput1_app hW hkW T (hps.kp T hk2) hm a a2 n c c2 (allF rs) (own_slb hown) hnc hin2 (by omega) (hap w2 a2 c2 hown) hn0 (w1.heap.size + 1) w1.heap.size (hcells w2 hk2).1 (hcells w2 hk2).2 _ rfl hk)
          exact hw.mono fun e w' ⟨h1, O', h2⟩ => ⟨h1, h2.fin kb rfl rfl⟩
    · have e : putJ j m rs = (4, j, m) := by unfold putJ; rw [if_neg hdead, if_pos hok]
      rw [e]
      refine jput_err a n c 4 (by decide) _ ?_
      rw [hwb]
      exact (jwrite_form E hkW hps.s.c a n c rs hsb.now hn hl hin hok _).mono fun e w' ⟨h1, h2⟩ => ⟨h1, same w' h2⟩

theorem jcomp_all (E : EJ ads W) (T : TapC ads W R) (hk1 : Kp W w1) (hJ : JouR W.heap.size q g j OJ w1) (hr : R g m O w1) (hd : ∀ b, OJ b → ¬ O b) (hm : Mok m) (a : Option Addr) (n c : Nat) (rs : List (List Int)) (hs : Sfe (fun b => OJ b ∨ O b) (.slice a n c) rs w1) (hn : rs.length = n) (hl : n ≤ 100) (hin : ∀ r ∈ rs, InB r ∧ r.length ≤ 100000) :
    Calls Tryd.prog 31 #[.pointer (some ⟨q, 0, none⟩), .slice a n c] w1 fun e w' => e = .returned (errI ads (compJ j m rs).1) ∧ Fin R W.heap.size q g (compJ j m rs).2.1 (compJ j m rs).2.2 (fun b => OJ b ∨ O b) w1 w' := by
  obtain ⟨v, us, hjs, hOJ⟩ := hJ
  have hW : ∀ b, (OJ b ∨ O b) → W.heap.size ≤ b := fun b hb => by
    rcases hb with hb | hb
    · exact (hjs.mem b ((hOJ b).1 hb)).1
    · exact (T.mem hr b hb).1
  have hps : PS R W.heap.size q g v us j.rows j.dead m O (fun b => OJ b ∨ O b) w1 w1 := PS.start hjs hOJ hr hd
  have same : ∀ w', Kp w1 w' → Fin R W.heap.size q g j m (fun b => OJ b ∨ O b) w1 w' := fun w' hk => (hps.kp T hk).fin (Kp.refl _) rfl rfl
  have c0 := hjs.c.c0
  by_cases hdead : j.dead = true
  · have e : compJ j m rs = (9, j, m) := by unfold compJ; rw [if_pos hdead]
    rw [e]
    have hdc : JoC q g v true w1 := by have h := hjs.c; rw [hdead] at h; exact h
    exact jcomp_err c0 a n c 9 (by decide) _ ((jwrite_dead hdc (kp_cell hk1 E.c9) _ _).mono fun e w' ⟨h1, h2⟩ => ⟨h1, same w' h2⟩)
  · have hdf : j.dead = false := by cases h : j.dead with
      | true => exact absurd h hdead
      | false => rfl
    rw [hdf] at hps
    by_cases hok : okRs rs
    · have hnb := allF_le hok
      have hin2 : InB (allF rs) := allF_in (fun r hr => (hin r hr).1) hok
      have hw : ∀ k, (swapM m (allF rs)).1 = k → Calls Tryd.prog 55 #[.pointer (some ⟨q, 0, none⟩), .slice a n c, .func (.func 57) #[.pointer (some ⟨g, 0, none⟩)] #[]] w1 fun e w' => e = .returned (errI ads k) ∧ ∃ O', PS R W.heap.size q g v us j.rows (decide (k = 7)) (swapM m (allF rs)).2 O' (fun b => OJ b ∨ O b) w1 w' := fun k hkk =>
        jwrite_swap E hW hk1 T hps a n c rs hs.now hn hl hin hok k (by rw [← hkk]; exact swapM_code m _) (fun w2 a2 c2 hk2 hown hnc => by
          have h := T.swap w2 (Kp.trans hk1 hk2) g m O (hps.kp T hk2).r hm a2 _ c2 (allF rs) (own_slb hown) rfl hnc hin2 (by omega) (fun _ ad e hb => by
            have h1 := own_blk hown (show (Value.slice a2 (allF rs).length c2).ownBlock = some ad.block by rw [e]; rfl)
            have h2 := (T.mem hr _ hb).2
            omega)
          rw [hkk] at h
          exact h.mono fun e w3 ⟨h1, O', h2, h3⟩ => ⟨h1, O', (hps.kp T hk2).tape h2 h3⟩)
      by_cases hk : (swapM m (allF rs)).1 = 0
      · have e : compJ j m rs = (0, { rows := rs, dead := false }, (swapM m (allF rs)).2) := by unfold compJ; rw [if_neg hdead, if_neg (fun x => x hok), if_pos hk]
        rw [e]
        exact (jcomp_ok T hps a n c rs hs hn hl hin (hw 0 hk)).mono fun e w' ⟨h1, v', us', O', h2⟩ => ⟨h1, h2.fin (Kp.refl _) rfl rfl⟩
      · have e : compJ j m rs = ((swapM m (allF rs)).1, { j with dead := decide ((swapM m (allF rs)).1 = 7) }, (swapM m (allF rs)).2) := by unfold compJ; rw [if_neg hdead, if_neg (fun x => x hok), if_neg hk]
        rw [e]
        exact jcomp_err c0 a n c _ hk _ ((hw _ rfl).mono fun e w' ⟨h1, O', h2⟩ => ⟨h1, h2.fin (Kp.refl _) rfl rfl⟩)
    · have e : compJ j m rs = (4, j, m) := by unfold compJ; rw [if_neg hdead, if_pos hok]
      rw [e]
      exact jcomp_err c0 a n c 4 (by decide) _ ((jwrite_form E hk1 hps.s.c a n c rs hs.now hn hl hin hok _).mono fun e w' ⟨h1, h2⟩ => ⟨h1, same w' h2⟩)

/-- PACKAGE journal's CONTRACTS, out of the landed code. -/
theorem jouC_of (ads : List Addr) (W : World) (E : EJ ads W) {R : Nat → TM → (Nat → Prop) → World → Prop} (T : TapC ads W R) (HBy : BytesO W R) : ∃ J, JouC ads W R J := by
  refine ⟨fun q g j OJ w => JouR W.heap.size q g j OJ w, ?_⟩
  refine JouC.mk ?_ ?_ ?_ ?_ ?_ ?_ ?_ ?_ ?_ ?_ ?_
  · intro q g j OJ w w' h _ hb
    exact h.stay hb
  · intro q g j OJ w h
    exact h.mem
  · intro w1 hk g m O hr hm ho
    exact jopen_ok E T HBy hk hr hm ho
  · intro w1 hk a n c r hs hn hb ho
    exact (jframe_ok a n c r hn hb ho w1 (E.tb.kp hk) hs).mono fun e w' ⟨v, h1, h2, h3⟩ => ⟨v, h1, own_slb h2, h3⟩
  · intro w1 hk a n c r _ hn hl ho
    exact (jframe_no ads a n c r hn hl ho w1 (kp_cell hk E.c4)).mono fun e w' ⟨h1, h2⟩ => ⟨_, h1, .inl ⟨rfl, none, 0, rfl, fun _ => rfl⟩, h2⟩
  · intro w1 hk q g j OJ m O hJ hr hd hm hi a n c rs hs hn hl hin
    exact jput_all E T hk hJ hr hd hm hi a n c rs hs hn hl hin
  · intro w1 hk q g j OJ m O hJ hr hd hm _ a n c rs hs hn hl hin
    exact jcomp_all E T hk hJ hr hd hm a n c rs hs hn hl hin
  · rintro w1 - q g j OJ m O ⟨v, us, hs, -⟩ - - hm hi
    obtain ⟨a, c, rfl, -⟩ := own_len hs.own
    have hbb := own_slbb hs.own hs.cln.vals
    exact (jrows_any q a _ c j.rows rfl (hi.num hm) (fun r hr => ⟨hi.inb r hr, (hi.ok r hr).2⟩) w1 hs.c.c1 hbb).mono fun e w' ⟨v2, us2, h1, h2, h3, h4, h5⟩ => by
      obtain ⟨a2, c2, rfl, -⟩ := own_len h2
      exact ⟨a2, c2, h1, own_slbb h2 h3.vals, Cln.out h2 h3 h4 hi.ok, h5⟩
  · rintro w1 - q g j OJ m O ⟨v, us, hs, -⟩ - - - -
    exact jlen_any hs.c hs.own
  · rintro w1 - q g j OJ m O ⟨v, us, hs, -⟩ - - hm hi
    obtain ⟨a, c, rfl, -⟩ := own_len hs.own
    exact jsize_any q a _ c j.rows rfl (hi.num hm) hi.ok w1 hs.c.c1 (own_slbb hs.own hs.cln.vals)
  · rintro w1 - q g j OJ m O ⟨v, us, hs, -⟩ - - - -
    exact jdead_any hs.c
end Go.Proofs.YtpehmkglkjlmfaaDoor

