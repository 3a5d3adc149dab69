/- Parts of this proof (own work). -/
import Derived.Test.YtpemeenfhkgmpaaGreatDoorZr15
set_option maxRecDepth 100000
set_option maxHeartbeats 40000000
namespace Go.Proofs.YtpemeenfhkgmpaaGreatDoor
open Go.RowKit Go.ChangeShapes Go.WideShapes
theorem results_row_tmpF {P : Program} {fn : Func} {p u : Tmp} {ty : TypeId} (h : fn.results = #[.cell p ty, .tmp u]) (tmps : Array Value) (w : World) (g : Nat) (t : TypeId) (cs : Array Value) (fr : Nat × Nat) (d : TypeDesc)
  (hp : tmps.getD p undef = .pointer (some ⟨g, 0, none⟩)) (hg : w.heap[g]? = some (.cells cs t fr))
  (hu : P.underlying ty = some d) (hd : (match d with | .struct _ | .array _ _ => true | _ => false) = true) (hi : (P.info? ty).map (·.size) = some cs.size) :
  (results fn tmps).run P w = .ok (.tuple #[.agg cs, tmps.getD u undef]) w := by
 have hp' : tmps[p]?.getD undef = .pointer (some ⟨g, 0, none⟩) := by simpa using hp
 simp [results, h, hp', asAddr, run_loadVar_row w g t ty cs fr d hg hu hd hi]
theorem fread_val (a : Option Addr) (cap : Nat) (len : Nat) (w : World) (k n s r u p q o d aa t hh c : Int) (x : Nat)
  (H : ∀ w1, Kp w w1 → w1.cell? ⟨w.heap.size, 0, none⟩ = some (.slice a len cap) → Calls Tryz.prog 92 #[.pointer (some ⟨w.heap.size, 0, none⟩)] w1 fun e w' => e = .returned (.agg #[k, n, s, r, u, p, q, o, d, aa, t, hh, c, .float .f64 x]) ∧ Kp w1 w') :
  Calls Tryz.prog 49 #[.slice a len cap] w fun e w' => e = .returned (.tuple #[.agg #[k, n, s, r, u, p, q, o, d, aa, t, hh, c, .float .f64 x], .nilIface]) ∧ Kp w w' := by
 have hmf : ∀ (fn : Fn) (first cap : Array Value) (w : World), (Instr.makeFunc fn first cap).run Tryz.prog w = .ok (.func fn first cap) w := fun _ _ _ _ => rfl
 have hsf := sF; have kb := kA w (.cells #[.slice a len cap] 55); have kb2 := kT kb (kA (w.alloc (.cells #[.slice a len cap] 55)) (.cells #[.int .i64 0, .int .i64 0, .int .i64 0, .int .i64 0, .int .i64 0, .int .i64 0, .int .i64 0, .int .i64 0, .int .i64 0, .int .i64 0, .int .i64 0, .int .i64 0, .int .i64 0, .float .f64 0] 39)); have hc := kZ (kA (w.alloc (.cells #[.slice a len cap] 55)) (.cells #[.int .i64 0, .int .i64 0, .int .i64 0, .int .i64 0, .int .i64 0, .int .i64 0, .int .i64 0, .int .i64 0, .int .i64 0, .int .i64 0, .int .i64 0, .int .i64 0, .int .i64 0, .float .f64 0] 39)) (box_cell w (.slice a len cap) 55); have hz := nX1 w (.cells #[.slice a len cap] 55) (.cells #[.int .i64 0, .int .i64 0, .int .i64 0, .int .i64 0, .int .i64 0, .int .i64 0, .int .i64 0, .int .i64 0, .int .i64 0, .int .i64 0, .int .i64 0, .int .i64 0, .int .i64 0, .float .f64 0] 39); have HT := hD (try_fct_val 92 #[.pointer (some ⟨w.heap.size, 0, none⟩)] k n s r u p q o d aa t hh c x ((w.alloc (.cells #[.slice a len cap] 55)).alloc (.cells #[.int .i64 0, .int .i64 0, .int .i64 0, .int .i64 0, .int .i64 0, .int .i64 0, .int .i64 0, .int .i64 0, .int .i64 0, .int .i64 0, .int .i64 0, .int .i64 0, .int .i64 0, .float .f64 0] 39)) (by intro w; simp [go_sem]) fun w1 hk => H w1 (kT kb2 hk) (kZ hk hc))
 clear H hc kb; have KB := hD kb2; have HZ := hD hz; clear hz kb2; go_enter Tryz.func49, Tryz.ntmps49; go_wp2_with (go_at_call 91; (with_reducible refine HT.out.mono ?_); rintro e w5 ⟨rfl, hk⟩; have HK := hD hk; have HR := hD (rZ hk HZ.out); obtain ⟨d0, d1, d2, d3, d4, d5, d6, d7, d8, d9, d10, d11, d12, d13⟩ := cZ HR.out; have fz := froz14 HR.out; clear hk)
 have hz9 := set14 (.int .i64 k) (.int .i64 n) (.int .i64 s) (.int .i64 r) (.int .i64 u) (.int .i64 p) (.int .i64 q) (.int .i64 o) (.int .i64 d) (.int .i64 aa) (.int .i64 t) (.int .i64 hh) (.int .i64 c) (.float .f64 x) HR.out; refine bodyPost_ret (results_row_tmpF (p := 2) (u := 3) rfl _ _ (w.heap.size + 1) 39 _ (0, 0) _ rfl hz9 Tryz.underlying39 rfl (by kernel_rfl)) rfl ?_
 exact ⟨rfl, set14_kp (kT KB.out HK.out) (by omega) _ _ _ _ _ _ _ _ _ _ _ _ _ _⟩
theorem fread_err (ads : List Addr) (a : Option Addr) (cap : Nat) (len : Nat) (w : World) (V : St ads w) (i : Nat) (hi : i < ads.length)
  (H : ∀ w1, Kp w w1 → w1.cell? ⟨w.heap.size, 0, none⟩ = some (.slice a len cap) → Calls Tryz.prog 92 #[.pointer (some ⟨w.heap.size, 0, none⟩)] w1 fun e w' => e = .panicked [{ v := snt (ads[i]'hi), recovered := false }] ∧ Kp w1 w') :
  Calls Tryz.prog 49 #[.slice a len cap] w fun e w' => e = .returned (.tuple #[.agg #[.int .i64 0, .int .i64 0, .int .i64 0, .int .i64 0, .int .i64 0, .int .i64 0, .int .i64 0, .int .i64 0, .int .i64 0, .int .i64 0, .int .i64 0, .int .i64 0, .int .i64 0, .float .f64 0], snt (ads[i]'hi)]) ∧ Kp w w' := by
 have hmf : ∀ (fn : Fn) (first cap : Array Value) (w : World), (Instr.makeFunc fn first cap).run Tryz.prog w = .ok (.func fn first cap) w := fun _ _ _ _ => rfl
 have hsf := sF; have kb := kA w (.cells #[.slice a len cap] 55); have kb2 := kT kb (kA (w.alloc (.cells #[.slice a len cap] 55)) (.cells #[.int .i64 0, .int .i64 0, .int .i64 0, .int .i64 0, .int .i64 0, .int .i64 0, .int .i64 0, .int .i64 0, .int .i64 0, .int .i64 0, .int .i64 0, .int .i64 0, .int .i64 0, .float .f64 0] 39)); have hc := kZ (kA (w.alloc (.cells #[.slice a len cap] 55)) (.cells #[.int .i64 0, .int .i64 0, .int .i64 0, .int .i64 0, .int .i64 0, .int .i64 0, .int .i64 0, .int .i64 0, .int .i64 0, .int .i64 0, .int .i64 0, .int .i64 0, .int .i64 0, .float .f64 0] 39)) (box_cell w (.slice a len cap) 55); have hz := nX1 w (.cells #[.slice a len cap] 55) (.cells #[.int .i64 0, .int .i64 0, .int .i64 0, .int .i64 0, .int .i64 0, .int .i64 0, .int .i64 0, .int .i64 0, .int .i64 0, .int .i64 0, .int .i64 0, .int .i64 0, .int .i64 0, .float .f64 0] 39); have HT := hD (try_fct_err ads i hi 92 #[.pointer (some ⟨w.heap.size, 0, none⟩)] ((w.alloc (.cells #[.slice a len cap] 55)).alloc (.cells #[.int .i64 0, .int .i64 0, .int .i64 0, .int .i64 0, .int .i64 0, .int .i64 0, .int .i64 0, .int .i64 0, .int .i64 0, .int .i64 0, .int .i64 0, .int .i64 0, .int .i64 0, .float .f64 0] 39)) (V.below kb2) (by intro w; simp [go_sem]) fun w1 hk => H w1 (kT kb2 hk) (kZ hk hc))
 clear H hc kb V; have KB := hD kb2; have HZ := hD hz; clear hz kb2; go_enter Tryz.func49, Tryz.ntmps49; go_wp2_with (go_at_call 91; (with_reducible refine HT.out.mono ?_); rintro e w5 ⟨rfl, hk⟩; have HK := hD hk; have HR := hD (rZ hk HZ.out); obtain ⟨d0, d1, d2, d3, d4, d5, d6, d7, d8, d9, d10, d11, d12, d13⟩ := cZ HR.out; have fz := froz14 HR.out; clear hk)
 have hz9 := set14 (.int .i64 0) (.int .i64 0) (.int .i64 0) (.int .i64 0) (.int .i64 0) (.int .i64 0) (.int .i64 0) (.int .i64 0) (.int .i64 0) (.int .i64 0) (.int .i64 0) (.int .i64 0) (.int .i64 0) (.float .f64 0) HR.out; refine bodyPost_ret (results_row_tmpF (p := 2) (u := 3) rfl _ _ (w.heap.size + 1) 39 _ (0, 0) _ rfl hz9 Tryz.underlying39 rfl (by kernel_rfl)) rfl ?_
 exact ⟨rfl, set14_kp (kT KB.out HK.out) (by omega) _ _ _ _ _ _ _ _ _ _ _ _ _ _⟩
theorem errI_isF (ads : List Addr) (i : Nat) (hi : i < ads.length) : errI ads ((i : Int) + 1) = snt (ads[i]'hi) := errI_at ads i hi
theorem finG_num : ∀ o : Option (List Int × Option Nat), (finG o).1 = 0 ∨ (finG o).1 = 4
 | none => .inr rfl
 | some (l, o) => by
  by_cases q : o.isSome = decide ((ofF l (o.getD 0)).k = 1) ∧ rightF (ofF l (o.getD 0)) = true
  ·left
   have e : finG (some (l, o)) = (0, ofF l (o.getD 0)) := if_pos q; rw [e]
  ·right
   have e : finG (some (l, o)) = (4, noF) := if_neg q; rw [e]
theorem fread_any (ads : List Addr) (a : Option Addr) (cap : Nat) (bs : List Int) (len : Nat) (hlen : bs.length = len) (hb : InB bs) (hlc : len ≤ cap) (hl : len ≤ 1000) (w : World) (V : St ads w) (T : Tab w) (hs : SlB (.slice a len cap) bs w) :
  Calls Tryz.prog 49 #[.slice a len cap] w fun e w' => e = .returned (.tuple #[.agg (decG bs).2.cells, errI ads (decG bs).1]) ∧ Kp w w' := by
 have h14 : ads.length = 14 := V.len; have h1 : 1 < ads.length := by omega
 have h3 : 3 < ads.length := by omega
 by_cases h0 : (splitQ 17 bs 0 0).1 = 0
 ·have HR := fun w1 (hk : Kp w w1) hc => fread1_row ads h1 h3 ⟨w.heap.size, 0, none⟩ a cap bs len hlen hb hlc w1 (V.below hk) hc (hs.kp hk) hl (T.kp hk) h0
  by_cases hd : (decG bs).1 = 0
  ·rw [hd, eN]; obtain ⟨m, hm⟩ : ∃ m, (decG bs).2 = m := ⟨_, rfl⟩
   rw [hm] at HR ⊢; obtain ⟨k, n, s, r, u, p, q, o, d, aa, t, hh, c, x⟩ := m; exact fread_val a cap len w k n s r u p q o d aa t hh c x fun w1 hk hc => (HR w1 hk hc).mono (by
    rintro e w2 ⟨⟨_, rfl⟩ | ⟨h, _⟩, hk2⟩
    ·exact ⟨rfl, hk2⟩
    ·rw [h] at hd; cases hd)
  ·have hg : decG bs = (4, noF) := by
    have h2 := decG_bad hd; have h4 : (decG bs).1 = 4 := by
     have h5 : (decG bs).1 = (finG (putG (List.replicate 13 0) none (splitQ 17 bs 0 0).2)).1 := by unfold decG; rw [if_neg (fun q => q h0)]
     rcases finG_num (putG (List.replicate 13 0) none (splitQ 17 bs 0 0).2) with h6 | h6
     ·rw [h5] at hd; exact absurd h6 hd
     ·rw [h5]; exact h6
    exact Prod.ext h4 h2
   have := fread_err ads a cap len w V 3 h3 fun w1 hk hc => (HR w1 hk hc).mono (by
    rintro e w2 ⟨⟨h, _⟩ | ⟨_, rfl⟩, hk2⟩
    ·exact absurd h hd
    ·exact ⟨rfl, hk2⟩)
   rw [← errI_isF ads 3 h3] at this; rw [hg]; exact this
 ·have e : decG bs = ((splitQ 17 bs 0 0).1, noF) := by unfold decG; rw [if_pos h0]
  rw [e]
  rcases splitQ_num 17 bs 0 0 with h | h | h
  ·exact absurd h h0
  ·have := fread_err ads a cap len w V 1 h1 fun w1 hk hc => fread1_err ads h1 h3 ⟨w.heap.size, 0, none⟩ a cap bs len hlen hb hlc w1 (V.below hk) hc (hs.kp hk) hl 1 h1 h
   rw [← errI_isF ads 1 h1] at this; dsimp only; rw [h]; exact this
  ·have := fread_err ads a cap len w V 3 h3 fun w1 hk hc => fread1_err ads h1 h3 ⟨w.heap.size, 0, none⟩ a cap bs len hlen hb hlc w1 (V.below hk) hc (hs.kp hk) hl 3 h3 h
   rw [← errI_isF ads 3 h3] at this; dsimp only; rw [h]; exact this
theorem facC_of (ads : List Addr) (W : World) (V : St ads W) (T : Tab W) : FacC ads W where
 right := fun w1 hk f hf => facRight_any ads f hf w1 (V.below hk) (T.kp hk)
 dec := fun w1 hk a p bs n hn hl hb hp hs => fread_any ads a p bs n hn hb hp hl w1 (V.below hk) (T.kp hk) hs
open Go.RowKit
def rightT (p e : Int) : Bool := decide ((p = 1 ∨ p = 2) ∧ (e = 1 ∨ e = 2))
def hasT (p e s : Int) : Bool := if s = 4 ∨ s = 10 then decide (p = 2) else if s = 3 then decide (p = 2 ∧ e = 1) else decide (1 ≤ s ∧ s ≤ 14)
def failT (s : Int) : Bool := decide (8 ≤ s ∧ s ≤ 11)
def waitT (e s : Int) : Int :=
 if e = 1 then (if s = 2 ∨ s = 3 then 10 else if s = 4 then 2 else if s = 6 then 9 else if s = 7 then 11 else 0)
 else (if s = 5 then 3 else if failT s then 4 else if s = 12 then 5 else if s = 13 then 1 else 0)
def waitsT (p e s : Int) : Int × Int :=
 if rightT p e = false then (14, 0) else if hasT p e s = false then (1, 0) else (0, waitT e s)
structure SeatM where
 (p e s h : Int)
deriving DecidableEq
def SeatM.right (z : SeatM) : Bool := rightT z.p z.e && hasT z.p z.e z.s && (if z.s = 14 then decide (z.h = 1 ∨ (4 ≤ z.h ∧ z.h ≤ 8)) else decide (z.h = 0))
structure RS where
 (c x : Int × Int) (h : List (Int × Int)) (w : List Int) (d : Bool)
deriving DecidableEq
structure RgM where
 (node part : Int) (z : SeatM)
deriving DecidableEq
structure AcM where
 (c : CX) (par dec : Int) (regs : List RgM)
deriving DecidableEq
structure PaM where
 (n s reg : Int) (z : SeatM)
deriving DecidableEq
structure StM where
 (node next : Int) (acts : List AcM) (parts : List PaM)
deriving DecidableEq
def newSt (node : Int) : StM := ⟨node, 0, [], []⟩
def findS (l : List AcM) (n s : Int) : Option Nat := l.findIdx? fun a => decide (a.c.n = n ∧ a.c.s = s)
def childS (l : List AcM) (p : Int) : Option Nat := if p < 0 then none else l.findIdx? fun a => decide (a.par = p + 1)
def turnS (z : SeatM) (t h : Int) : Option SeatM := if z.s ≠ 14 ∧ SeatM.right ⟨z.p, z.e, t, h⟩ = true then some ⟨z.p, z.e, t, h⟩ else none
def actS (m : StM) (i : Nat) (a : AcM) (f : FX) : Option StM :=
 if f.k = 2 then
  if f.r ≠ a.regs.length ∨ a.dec ≠ 0 ∨ a.regs.any (fun g => decide (g.node = f.e ∧ g.part = f.p)) then none
  else some { m with acts := m.acts.set i { a with regs := a.regs ++ [⟨f.e, f.p, ⟨f.q, 1, 1, 0⟩⟩] } }
 else if f.k = 3 then
  match a.regs[f.r.toNat]? with
  | none => none
  | some g => (turnS g.z f.t f.h).map fun z => { m with acts := m.acts.set i { a with regs := a.regs.set f.r.toNat { g with z := z } } }
 else if f.k = 4 then
  if a.c.o ≠ 1 ∨ a.dec ≠ 0 then none else some { m with acts := m.acts.set i { a with dec := f.c } }
 else if f.k = 5 then
  if a.regs.any (fun g => decide (g.z.s ≠ 14)) then none else some { m with acts := m.acts.eraseIdx i }
 else some m
def doS (m : StM) (f : FX) : Option StM :=
 if f.k = 1 then
  if f.n ≠ m.node ∨ f.s < m.next ∨ 8 ≤ m.acts.length ∨ (0 < f.a ∧ (m.parts.length < f.a ∨ (childS m.acts (f.a - 1)).isSome)) then none
  else some { m with acts := m.acts ++ [⟨ctxF f, f.a, 0, []⟩], next := f.s + 1 }
 else if f.k = 6 then
  if f.p ≠ m.parts.length then none else some { m with parts := m.parts ++ [⟨f.n, f.s, -1, ⟨f.q, 2, 1, 0⟩⟩] }
 else if f.k = 7 then
  match m.parts[f.p.toNat]? with
  | none => none
  | some x => if 0 ≤ x.reg then none else some { m with parts := m.parts.set f.p.toNat { x with reg := f.r } }
 else if f.k = 8 then
  match m.parts[f.p.toNat]? with
  | none => none
  | some x => (turnS x.z f.t f.h).map fun z => { m with parts := m.parts.set f.p.toNat { x with z := z } }
 else match findS m.acts f.n f.s with
  | none => none
  | some i => match m.acts[i]? with
   | none => none
   | some a => actS m i a f
def lastS (l : List AcM) : Int := (l.getLast?.map (·.c.s)).getD (-1)
def OkZ (z : SeatM) (e : Int) : Prop := z.right = true ∧ z.e = e
theorem OkZ.p {z : SeatM} {e : Int} (h : OkZ z e) : z.p = 1 ∨ z.p = 2 := by
 have := h.1
 simp [SeatM.right, rightT] at this
 exact this.1.1.1
def OkP (x : PaM) : Prop := rightA x.n x.s = true ∧ -1 ≤ x.reg ∧ x.reg ≤ 5 ∧ OkZ x.z 2
def OkG (g : RgM) : Prop := 0 ≤ g.node ∧ g.node ≤ 3 ∧ 0 ≤ g.part ∧ g.part ≤ 7 ∧ OkZ g.z 1
theorem rightX_act {c : CX} (h : rightX c = true) : rightA c.n c.s = true := by
 unfold rightX at h; rw [Bool.and_eq_true] at h; exact h.1
structure OkA (node : Int) (a : AcM) : Prop where
 n : a.c.n = node
 c : rightX a.c = true
 p0 : 0 ≤ a.par
 p8 : a.par ≤ 8
 l : a.regs.length ≤ 6
 g : ∀ g ∈ a.regs, OkG g
 d : a.regs.Pairwise (fun g h => ¬ (g.node = h.node ∧ g.part = h.part))
 e : a.dec = 0 ∨ ((a.dec = 1 ∨ a.dec = 2) ∧ a.c.o = 1)
def seqS : Int → List AcM → Prop
 | _, [] => True
 | nx, a :: l => nx ≤ a.c.s ∧ seqS (a.c.s + 1) l
def nextS : Int → List AcM → Int
 | nx, [] => nx
 | _, a :: l => nextS (a.c.s + 1) l
theorem nextS_last : ∀ (l : List AcM) (nx : Int), nextS nx l = if l = [] then nx else lastS l + 1
 | [], _ => rfl
 | [a], _ => rfl
 | a :: b :: l, nx => by
  have := nextS_last (b :: l) (a.c.s + 1)
  show nextS (a.c.s + 1) (b :: l) = _
  rw [this]
  simp [lastS]
structure OkS (m : StM) : Prop where
 n : 0 ≤ m.node ∧ m.node ≤ 3
 a : ∀ a ∈ m.acts, OkA m.node a
 par : ∀ a ∈ m.acts, a.par ≤ m.parts.length
 seq : seqS 0 m.acts
 dis : m.acts.Pairwise (fun x y => y.par ≠ 0 → x.par ≠ y.par)
 l8 : m.acts.length ≤ 8
 p : ∀ x ∈ m.parts, OkP x
 p8 : m.parts.length ≤ 8
 nx : lastS m.acts + 1 ≤ m.next
 last : lastS m.acts = m.next - 1 ∨ (m.acts.length ≤ 7 ∧ rightA m.node (m.next - 1) = true)
theorem seqS_lt : ∀ (l : List AcM) (nx : Int), seqS nx l → ∀ x ∈ l, x.c.s < nextS nx l
 | a :: l, nx, h, x, hx => by
  have hm : a.c.s + 1 ≤ nextS (a.c.s + 1) l := seqS_le l _ h.2
  rcases List.mem_cons.1 hx with rfl | hx
  ·show _ < nextS (_ + 1) l
   omega
  ·exact seqS_lt l _ h.2 x hx
 where seqS_le : ∀ (l : List AcM) (nx : Int), seqS nx l → nx ≤ nextS nx l
 | [], _, _ => Int.le_refl _
 | a :: l, nx, h => by
  have h1 := seqS_le l _ h.2; have h2 := h.1
  show nx ≤ nextS (a.c.s + 1) l
  omega
theorem okF_of {f : FX} (h : rightF f = true) : okF f = true := by
 unfold rightF at h; simp only [Bool.and_eq_true] at h
 exact h.2.1
theorem inv_open {f : FX} (h : rightF f = true) (hk : f.k = 1) : rightX (ctxF f) = true ∧ 0 ≤ f.a ∧ f.a ≤ 8 := by
 have := okF_of h; unfold okF at this; rw [if_pos hk] at this
 simpa using this
theorem inv_enr {f : FX} (h : rightF f = true) (hk : f.k = 2) : rightA f.n f.s = true ∧ (0 ≤ f.r ∧ f.r ≤ 5) ∧ (0 ≤ f.e ∧ f.e ≤ 3) ∧ (0 ≤ f.p ∧ f.p ≤ 7) ∧ (f.q = 1 ∨ f.q = 2) := by
 have := okF_of h; unfold okF at this; rw [if_neg (by omega), if_pos hk] at this
 simp at this
 refine ⟨this.1, ?_⟩
 have := this.2; omega
theorem inv_dec {f : FX} (h : rightF f = true) (hk : f.k = 4) : f.c = 1 ∨ f.c = 2 := by
 have := okF_of h; unfold okF at this; rw [if_neg (by omega), if_neg (by omega), if_neg (by omega), if_pos hk] at this
 simp at this
 exact this.2
theorem inv_joi {f : FX} (h : rightF f = true) (hk : f.k = 6) : rightA f.n f.s = true ∧ (0 ≤ f.p ∧ f.p ≤ 7) ∧ (f.q = 1 ∨ f.q = 2) := by
 have := okF_of h; unfold okF at this; rw [if_neg (by omega), if_neg (by omega), if_neg (by omega), if_neg (by omega), if_neg (by omega), if_pos hk] at this
 simp at this
 refine ⟨this.1, ?_⟩
 have := this.2; omega
theorem inv_pla {f : FX} (h : rightF f = true) (hk : f.k = 7) : 0 ≤ f.r ∧ f.r ≤ 5 := by
 have := okF_of h; unfold okF at this; rw [if_neg (by omega), if_neg (by omega), if_neg (by omega), if_neg (by omega), if_neg (by omega), if_neg (by omega), if_pos hk] at this
 simp at this
 omega
theorem okz_new {q e : Int} (hq : q = 1 ∨ q = 2) (he : e = 1 ∨ e = 2) : OkZ ⟨q, e, 1, 0⟩ e := by
 refine ⟨?_, rfl⟩
 rcases hq with rfl | rfl <;> rcases he with rfl | rfl <;> decide
theorem turnS_ok {z z2 : SeatM} {e t h : Int} (hz : OkZ z e) (hs : turnS z t h = some z2) : OkZ z2 e := by
 unfold turnS at hs
 split at hs
 ·next q => obtain rfl := Option.some.inj hs; exact ⟨q.2, hz.2⟩
 ·cases hs
theorem seqS_app : ∀ (l : List AcM) (nx : Int) (a : AcM), seqS nx l → nextS nx l ≤ a.c.s → seqS nx (l ++ [a])
 | [], _, _, _, h => ⟨h, trivial⟩
 | _ :: l, _, a, h, h2 => ⟨h.1, seqS_app l _ a h.2 h2⟩
theorem seqS_set : ∀ (l : List AcM) (nx : Int) (i : Nat) (a b : AcM), l[i]? = some a → b.c = a.c → seqS nx l → seqS nx (l.set i b)
 | [], _, _, _, _, h, _, _ => by simp at h
 | x :: l, nx, 0, a, b, h, hc, hs => by
  obtain rfl : x = a := by simpa using h
  show nx ≤ b.c.s ∧ seqS (b.c.s + 1) l
  rw [hc]; exact hs
 | x :: l, nx, i + 1, a, b, h, hc, hs => ⟨hs.1, seqS_set l _ i a b (by simpa using h) hc hs.2⟩
theorem seqS_mono : ∀ (l : List AcM) (nx ny : Int), ny ≤ nx → seqS nx l → seqS ny l
 | [], _, _, _, _ => trivial
 | _ :: _, _, _, h, hs => ⟨Int.le_trans h hs.1, hs.2⟩
theorem seqS_erase : ∀ (l : List AcM) (nx : Int) (i : Nat), seqS nx l → seqS nx (l.eraseIdx i)
 | [], _, _, _ => trivial
 | x :: l, nx, 0, hs => by
  have h1 := hs.1; exact seqS_mono l _ nx (by omega) hs.2
 | x :: l, nx, i + 1, hs => ⟨hs.1, seqS_erase l _ i hs.2⟩
theorem lastS_mem {l : List AcM} (h : l ≠ []) : ∃ x ∈ l, lastS l = x.c.s := by
 refine ⟨l.getLast h, List.getLast_mem h, ?_⟩
 unfold lastS; rw [List.getLast?_eq_some_getLast h]
 rfl
theorem lastS_set {l : List AcM} {i : Nat} {a b : AcM} (h : l[i]? = some a) (hc : b.c = a.c) : lastS (l.set i b) = lastS l := by
 unfold lastS; have h2 : ∀ j : Nat, (l.set i b)[j]?.map (fun x : AcM => x.c.s) = l[j]?.map (fun x : AcM => x.c.s) := fun j => by
  by_cases q : i = j
  ·subst q; have hi := (List.getElem?_eq_some_iff.1 h).1; rw [List.getElem?_set_self hi, h]
   simp [hc]
  ·rw [List.getElem?_set_ne q]
 rw [List.getLast?_eq_getElem?, List.getLast?_eq_getElem?, List.length_set, h2]
theorem OkS.lt {m : StM} (h : OkS m) : ∀ x ∈ m.acts, x.c.s < m.next := fun x hx => by
 have h1 := seqS_lt m.acts 0 h.seq x hx; have h2 := h.nx; rw [nextS_last] at h1
 split at h1
 ·next q => rw [q] at hx; cases hx
 ·omega
theorem mem_set {α : Type} {l : List α} {i : Nat} {a x : α} (h : x ∈ l.set i a) : x ∈ l ∨ x = a := by
 rcases List.mem_or_eq_of_mem_set h with q | q
 ·exact .inl q
 ·exact .inr q
theorem OkS.setA {m : StM} (h : OkS m) {i : Nat} {a b : AcM} (ha : m.acts[i]? = some a) (hc : b.c = a.c) (hp : b.par = a.par) (hb : OkA m.node b) : OkS { m with acts := m.acts.set i b } where
 n := h.n
 a := fun x hx => by
  rcases mem_set hx with q | rfl
  ·exact h.a x q
  ·exact hb
 par := fun x hx => by
  rcases mem_set hx with q | rfl
  ·exact h.par x q
  ·rw [hp]; exact h.par a (List.mem_of_getElem? ha)
 seq := seqS_set _ _ _ _ _ ha hc h.seq
 dis := by
  have h1 : (m.acts.set i b).map (·.par) = m.acts.map (·.par) := by
   refine List.ext_getElem? fun j => ?_
   rw [List.getElem?_map, List.getElem?_map]
   by_cases q : i = j
   ·subst q; rw [List.getElem?_set_self (List.getElem?_eq_some_iff.1 ha).1, ha]
    simp [hp]
   ·rw [List.getElem?_set_ne q]
  have h2 : (m.acts.map (·.par)).Pairwise (fun x y => y ≠ 0 → x ≠ y) := List.pairwise_map.2 h.dis; rw [← h1] at h2; exact List.pairwise_map.1 h2
 l8 := by rw [List.length_set]; exact h.l8
 p := h.p
 p8 := h.p8
 nx := by rw [lastS_set ha hc]; exact h.nx
 last := by rw [lastS_set ha hc, List.length_set]; exact h.last
theorem OkS.setP {m : StM} (h : OkS m) {P : List PaM} (hl : m.parts.length ≤ P.length) (h8 : P.length ≤ 8) (hp : ∀ x ∈ P, OkP x) : OkS { m with parts := P } where
 n := h.n
 a := h.a
 par := fun x hx => by have := h.par x hx; show x.par ≤ (P.length : Int); omega
 seq := h.seq
 dis := h.dis
 l8 := h.l8
 p := hp
 p8 := h8
 nx := h.nx
 last := h.last
theorem child_ne {A : List AcM} {p : Int} (hp : 0 < p) (h : (childS A (p - 1)).isSome = false) : ∀ x ∈ A, x.par ≠ p := fun x hx q => by
 unfold childS at h; rw [if_neg (by omega)] at h; have h2 : List.findIdx? (fun a : AcM => decide (a.par = p - 1 + 1)) A = none := by
  cases hc : List.findIdx? (fun a : AcM => decide (a.par = p - 1 + 1)) A with
  | none => rfl
  | some _ => rw [hc] at h; cases h
 have := List.findIdx?_eq_none_iff.1 h2 x hx; simp only [decide_eq_false_iff_not] at this
 omega
theorem lastS_app (l : List AcM) (a : AcM) : lastS (l ++ [a]) = a.c.s := by simp [lastS]
theorem keep_open {m m2 : StM} {f : FX} (h : OkS m) (hr : rightF f = true) (hk : f.k = 1) (hd : doS m f = some m2) : OkS m2 := by
 unfold doS at hd; rw [if_pos hk] at hd
 split at hd
 ·cases hd
 ·next q =>
  obtain rfl := Option.some.inj hd; simp only [not_or, not_and, Classical.not_not] at q
  obtain ⟨q1, q2, q3, q4⟩ := q; obtain ⟨r1, r2, r3⟩ := inv_open hr hk; have hlt := h.lt; exact {
   n := h.n
   a := fun x hx => by
    rcases List.mem_append.1 hx with hx | hx
    ·exact h.a x hx
    ·obtain rfl := List.mem_singleton.1 hx; exact ⟨q1, r1, r2, r3, by simp, fun g hg => (by cases hg), List.Pairwise.nil, .inl rfl⟩
   par := fun x hx => by
    rcases List.mem_append.1 hx with hx | hx
    ·exact h.par x hx
    ·obtain rfl := List.mem_singleton.1 hx
     show f.a ≤ (m.parts.length : Int)
     rcases Int.lt_or_le 0 f.a with p | p
     ·have := (q4 p).1; omega
     ·omega
   seq := seqS_app _ _ _ h.seq (by
    have h1 := h.nx; rw [nextS_last]
    show _ ≤ f.s
    split
    ·next q => rw [q] at h1; simp [lastS] at h1; omega
    ·omega)
   dis := List.pairwise_append.2 ⟨h.dis, List.pairwise_singleton _ _, fun x hx y hy hy0 => by
    obtain rfl := List.mem_singleton.1 hy; have hy1 : f.a ≠ 0 := hy0; have hp : 0 < f.a := by omega
    exact child_ne hp (by simpa using (q4 hp).2) x hx⟩
   l8 := by simp; omega
   p := h.p
   p8 := h.p8
   nx := by rw [lastS_app]; exact Int.le_refl _
   last := .inl (by rw [lastS_app]; show f.s = f.s + 1 - 1; omega) }
theorem keep_join {m m2 : StM} {f : FX} (h : OkS m) (hr : rightF f = true) (hk : f.k = 6) (hd : doS m f = some m2) : OkS m2 := by
 unfold doS at hd; rw [if_neg (by omega), if_pos hk] at hd
 split at hd
 ·cases hd
 ·next q =>
  obtain rfl := Option.some.inj hd; obtain ⟨r1, r2, r3⟩ := inv_joi hr hk; have q2 : f.p = m.parts.length := by omega
  refine h.setP (by simp) (by simp; omega) fun x hx => ?_
  rcases List.mem_append.1 hx with hx | hx
  ·exact h.p x hx
  ·obtain rfl := List.mem_singleton.1 hx; exact ⟨r1, show (-1 : Int) ≤ -1 by decide, show (-1 : Int) ≤ 5 by decide, okz_new r3 (.inr rfl)⟩
theorem keep_place {m m2 : StM} {f : FX} (h : OkS m) (hr : rightF f = true) (hk : f.k = 7) (hd : doS m f = some m2) : OkS m2 := by
 unfold doS at hd; rw [if_neg (by omega), if_neg (by omega), if_pos hk] at hd
 split at hd
 ·cases hd
 ·next x hx =>
  split at hd
  ·cases hd
  ·obtain rfl := Option.some.inj hd; obtain ⟨r1, r2⟩ := inv_pla hr hk; have ho := h.p x (List.mem_of_getElem? hx); refine h.setP (by simp) (by have := h.p8; simp; omega) fun y hy => ?_
   rcases mem_set hy with q | rfl
   ·exact h.p y q
   ·exact ⟨ho.1, by show -1 ≤ f.r; omega, r2, ho.2.2.2⟩
theorem keep_turn {m m2 : StM} {f : FX} (h : OkS m) (hk : f.k = 8) (hd : doS m f = some m2) : OkS m2 := by
 unfold doS at hd; rw [if_neg (by omega), if_neg (by omega), if_neg (by omega), if_pos hk] at hd
 split at hd
 ·cases hd
 ·next x hx =>
  obtain ⟨z, hz, rfl⟩ := Option.map_eq_some_iff.1 hd; have ho := h.p x (List.mem_of_getElem? hx); refine h.setP (by simp) (by have := h.p8; simp; omega) fun y hy => ?_
  rcases mem_set hy with q | rfl
  ·exact h.p y q
  ·exact ⟨ho.1, ho.2.1, ho.2.2.1, turnS_ok ho.2.2.2 hz⟩
theorem keep_act {m m2 : StM} {f : FX} {i : Nat} {a : AcM} (h : OkS m) (hr : rightF f = true) (ha : m.acts[i]? = some a) (hd : actS m i a f = some m2) : OkS m2 := by
 have oa := h.a a (List.mem_of_getElem? ha); unfold actS at hd
 split at hd
 ·next k2 =>
  split at hd
  ·cases hd
  ·next q =>
   obtain rfl := Option.some.inj hd; simp only [not_or, Classical.not_not] at q
   obtain ⟨q1, q2, q3⟩ := q; obtain ⟨r1, r2, r3, r4, r5⟩ := inv_enr hr k2; refine h.setA (b := { a with regs := a.regs ++ [⟨f.e, f.p, ⟨f.q, 1, 1, 0⟩⟩] }) ha rfl rfl ⟨oa.n, oa.c, oa.p0, oa.p8, ?_, ?_, ?_, ?_⟩
   ·show (a.regs ++ [_]).length ≤ 6
    rw [List.length_append, List.length_singleton]; omega
   ·intro g hg
    rcases List.mem_append.1 hg with hg | hg
    ·exact oa.g g hg
    ·obtain rfl := List.mem_singleton.1 hg; exact ⟨r3.1, r3.2, r4.1, r4.2, okz_new r5 (.inl rfl)⟩
   ·refine List.pairwise_append.2 ⟨oa.d, List.pairwise_singleton _ _, fun x hx y hy => ?_⟩
    obtain rfl := List.mem_singleton.1 hy; have q4 := List.any_eq_false.1 (Bool.eq_false_iff.2 q3) x hx
    simpa using q4
   ·exact .inl q2
 split at hd
 ·split at hd
  ·cases hd
  ·next g hg =>
   obtain ⟨z, hz, rfl⟩ := Option.map_eq_some_iff.1 hd; have og := oa.g g (List.mem_of_getElem? hg); refine h.setA (b := { a with regs := a.regs.set f.r.toNat { g with z := z } }) ha rfl rfl ⟨oa.n, oa.c, oa.p0, oa.p8, ?_, ?_, ?_, oa.e⟩
   ·show (a.regs.set _ _).length ≤ 6
    rw [List.length_set]; exact oa.l
   ·intro y hy
    rcases mem_set hy with q | rfl
    ·exact oa.g y q
    ·exact ⟨og.1, og.2.1, og.2.2.1, og.2.2.2.1, turnS_ok og.2.2.2.2 hz⟩
   ·have h1 : (a.regs.set f.r.toNat { g with z := z }).map (fun g => (g.node, g.part)) = a.regs.map (fun g => (g.node, g.part)) := by
     refine List.ext_getElem? fun j => ?_
     rw [List.getElem?_map, List.getElem?_map]
     by_cases q : f.r.toNat = j
     ·subst q; rw [List.getElem?_set_self (List.getElem?_eq_some_iff.1 hg).1, hg]
      rfl
     ·rw [List.getElem?_set_ne q]
    have h2 : (a.regs.map (fun g : RgM => (g.node, g.part))).Pairwise (fun x y => ¬ (x.1 = y.1 ∧ x.2 = y.2)) := List.pairwise_map.2 oa.d; rw [← h1] at h2; exact List.pairwise_map.1 h2
 split at hd
 ·next k4 =>
  split at hd
  ·cases hd
  ·next q =>
   obtain rfl := Option.some.inj hd; simp only [not_or, Classical.not_not] at q
   exact h.setA (b := { a with dec := f.c }) ha rfl rfl ⟨oa.n, oa.c, oa.p0, oa.p8, oa.l, oa.g, oa.d, .inr ⟨inv_dec hr k4, q.1⟩⟩
 split at hd
 ·split at hd
  ·cases hd
  ·obtain rfl := Option.some.inj hd; have hi := (List.getElem?_eq_some_iff.1 ha).1; have hne : m.acts ≠ [] := fun q => by rw [q] at hi; simp at hi
   have hlt := h.lt; have h7 : (m.acts.eraseIdx i).length ≤ 7 := by rw [List.length_eraseIdx_of_lt hi]; have := h.l8; omega
   exact {
    n := h.n
    a := fun x hx => h.a x (List.mem_of_mem_eraseIdx hx)
    par := fun x hx => h.par x (List.mem_of_mem_eraseIdx hx)
    seq := seqS_erase _ _ _ h.seq
    dis := h.dis.sublist (List.eraseIdx_sublist _ _)
    l8 := by show (m.acts.eraseIdx i).length ≤ 8; omega
    p := h.p
    p8 := h.p8
    nx := by
     show lastS (m.acts.eraseIdx i) + 1 ≤ m.next
     by_cases q : m.acts.eraseIdx i = []
     ·rw [q]; have h1 := seqS_lt.seqS_le m.acts 0 h.seq; have h2 := h.nx; rw [nextS_last, if_neg hne] at h1
      show (-1 : Int) + 1 ≤ m.next
      omega
     ·obtain ⟨x, hx, hl⟩ := lastS_mem q; have := hlt x (List.mem_of_mem_eraseIdx hx); omega
    last := .inr ⟨h7, by
     rcases h.last with q | ⟨_, q⟩
     ·obtain ⟨x, hx, hl⟩ := lastS_mem hne; have ox := h.a x hx; have := rightX_act ox.c; rw [ox.n] at this; rw [← q, hl]; exact this
     ·exact q⟩ }
 ·obtain rfl := Option.some.inj hd; exact h
theorem keepS {m m2 : StM} {f : FX} (h : OkS m) (hr : rightF f = true) (hd : doS m f = some m2) : OkS m2 := by
 by_cases k1 : f.k = 1
 ·exact keep_open h hr k1 hd
 by_cases k6 : f.k = 6
 ·exact keep_join h hr k6 hd
 by_cases k7 : f.k = 7
 ·exact keep_place h hr k7 hd
 by_cases k8 : f.k = 8
 ·exact keep_turn h k8 hd
 unfold doS at hd; rw [if_neg k1, if_neg k6, if_neg k7, if_neg k8] at hd
 split at hd
 ·cases hd
 ·next i _ =>
  split at hd
  ·cases hd
  ·next a ha => exact keep_act h hr ha hd
theorem newSt_ok {n : Int} (h : 0 ≤ n ∧ n ≤ 3) : OkS (newSt n) where
 n := h
 a := fun _ hx => by cases hx
 par := fun _ hx => by cases hx
 seq := trivial
 dis := List.Pairwise.nil
 l8 := by show 0 ≤ 8; decide
 p := fun _ hx => by cases hx
 p8 := by show 0 ≤ 8; decide
 nx := by show (-1 : Int) + 1 ≤ 0; decide
 last := .inl rfl
theorem fS {l : List AcM} {n s : Int} {i : Nat} (h : findS l n s = some i) : ∃ a, l[i]? = some a ∧ a.c.n = n ∧ a.c.s = s := by
 unfold findS at h; obtain ⟨hi, h2, _⟩ := List.findIdx?_eq_some_iff_getElem.1 h; exact ⟨l[i], List.getElem?_eq_getElem hi, by simpa using h2⟩
theorem seqS_ge : ∀ (l : List AcM) (nx : Int), seqS nx l → ∀ x ∈ l, nx ≤ x.c.s
 | a :: l, nx, h, x, hx => by
  rcases List.mem_cons.1 hx with rfl | hx
  ·exact h.1
  ·have := seqS_ge l _ h.2 x hx; have := h.1; omega
theorem seqS_gone : ∀ (l : List AcM) (nx : Int) (i : Nat) (a : AcM), seqS nx l → l[i]? = some a → ∀ x ∈ l.eraseIdx i, x.c.s ≠ a.c.s
 | [], _, _, _, _, h, _, _ => by simp at h
 | y :: l, nx, 0, a, hs, h, x, hx => by
  obtain rfl : y = a := by simpa using h
  have := seqS_ge l _ hs.2 x hx; omega
 | y :: l, nx, i + 1, a, hs, h, x, hx => by
  have ha : l[i]? = some a := by simpa using h
  rcases List.mem_cons.1 hx with rfl | hx
  ·have := seqS_ge l _ hs.2 a (List.mem_of_getElem? ha); omega
  ·exact seqS_gone l _ i a hs.2 ha x hx
theorem kind_of {f : FX} (h : rightF f = true) : 1 ≤ f.k ∧ f.k ≤ 8 := by
 have := okF_of h; unfold okF at this
 repeat' split at this
 all_goals first | omega | cases this
end Go.Proofs.YtpemeenfhkgmpaaGreatDoor
