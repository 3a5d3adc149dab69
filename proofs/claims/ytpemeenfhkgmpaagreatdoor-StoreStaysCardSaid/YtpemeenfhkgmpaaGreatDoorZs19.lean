/-
  PARTS OF THIS PROOF (own work): StoT, RwG, AsdW.
-/
import Derived.Test.YtpemeenfhkgmpaaGreatDoorZs18
import Derived.Test.YtpemeenfhkgmpaaGreatDoorZs01
import Derived.Laws.OwnMore
import Derived.Laws.AppendOwnNone
import Derived.OwnWalk
import Derived.Lib.SliceRun
import Derived.Lib.SmallJoins
import Derived.Deep.RegionHeld3
namespace Go.Proofs.YtpemeenfhkgmpaaGreatDoor
open Go.RowKit

theorem find_some {l : List AcM} {n s : Int} {i : Nat} (h : findS l n s = some i) : ∃ a, l[i]? = some a ∧ a.c.n = n ∧ a.c.s = s := by
  unfold findS at h
  obtain ⟨hi, h2, _⟩ := List.findIdx?_eq_some_iff_getElem.1 h
  exact ⟨l[i], List.getElem?_eq_getElem hi, by simpa using h2⟩
theorem find_set {l : List AcM} {n s : Int} {i : Nat} {a b : AcM} (h : findS l n s = some i) (ha : l[i]? = some a) (hc : b.c = a.c) : findS (l.set i b) n s = some i := by
  unfold findS at h ⊢
  rw [List.findIdx?_eq_some_iff_getElem] at h ⊢
  obtain ⟨hi, h1, h2⟩ := h
  have e : l[i] = a := by rw [List.getElem?_eq_getElem hi] at ha; exact Option.some.inj ha
  refine ⟨by rw [List.length_set]; exact hi, ?_, fun j hj => ?_⟩
  · rw [List.getElem_set_self, hc, ← e]
    exact h1
  · rw [List.getElem_set_ne (by omega)]
    exact h2 j hj
theorem seqS_ge : ∀ (l : List AcM) (nx : Int), seqS nx l → ∀ x ∈ l, nx ≤ x.c.s
  | a :: l, nx, h, x, hx => by
    rcases List.mem_cons.1 hx with rfl | hx
    · exact h.1
    · have := seqS_ge l _ h.2 x hx
      have := h.1
      omega
/-- the one that is taken away is found no more -/
theorem seqS_gone : ∀ (l : List AcM) (nx : Int) (i : Nat) (a : AcM), seqS nx l → l[i]? = some a → ∀ x ∈ l.eraseIdx i, x.c.s ≠ a.c.s
  | [], _, _, _, _, h, _, _ => by simp at h
  | y :: l, nx, 0, a, hs, h, x, hx => by
    obtain rfl : y = a := by simpa using h
    have := seqS_ge l _ hs.2 x hx
    omega
  | y :: l, nx, i + 1, a, hs, h, x, hx => by
    have ha : l[i]? = some a := by simpa using h
    rcases List.mem_cons.1 hx with rfl | hx
    · have := seqS_ge l _ hs.2 a (List.mem_of_getElem? ha)
      omega
    · exact seqS_gone l _ i a hs.2 ha x hx
theorem find_gone {l : List AcM} {n s : Int} (h : ∀ x ∈ l, x.c.s ≠ s) : findS l n s = none := by
  unfold findS
  rw [List.findIdx?_eq_none_iff]
  intro x hx
  simpa using fun _ => h x hx
theorem kind_of {f : FX} (h : rightF f = true) : 1 ≤ f.k ∧ f.k ≤ 8 := by
  have := okF_of h
  unfold okF at this
  repeat' split at this
  all_goals first | omega | cases this
/-- NO FACT IS TAKEN TWICE, but a seat's. -/
theorem twiceS {m m2 : StM} {f : FX} (h : OkS m) (hr : rightF f = true) (h3 : f.k ≠ 3) (h8 : f.k ≠ 8) (hd : doS m f = some m2) : doS m2 f = none := by
  have hk := kind_of hr
  unfold doS at hd
  by_cases k1 : f.k = 1
  · rw [if_pos k1] at hd
    split at hd
    · cases hd
    · obtain rfl := Option.some.inj hd
      unfold doS
      rw [if_pos k1, if_pos (.inr (.inl (by show f.s < f.s + 1; omega)))]
  rw [if_neg k1] at hd
  by_cases k6 : f.k = 6
  · rw [if_pos k6] at hd
    split at hd
    · cases hd
    · obtain rfl := Option.some.inj hd
      unfold doS
      rw [if_neg k1, if_pos k6, if_pos (by simp; omega)]
  rw [if_neg k6] at hd
  by_cases k7 : f.k = 7
  · rw [if_pos k7] at hd
    split at hd
    · cases hd
    · next x hx =>
      split at hd
      · cases hd
      · obtain rfl := Option.some.inj hd
        unfold doS
        rw [if_neg k1, if_neg k6, if_pos k7]
        simp only [List.getElem?_set_self (List.getElem?_eq_some_iff.1 hx).1]
        rw [if_pos (inv_pla hr k7).1]
  rw [if_neg k7, if_neg h8] at hd
  split at hd
  · cases hd
  · next i hi =>
    split at hd
    · cases hd
    · next a ha =>
      unfold actS at hd
      by_cases k2 : f.k = 2
      · rw [if_pos k2] at hd
        split at hd
        · cases hd
        · next q =>
          obtain rfl := Option.some.inj hd
          simp only [not_or, Classical.not_not] at q
          unfold doS
          rw [if_neg k1, if_neg k6, if_neg k7, if_neg h8]
          simp only [find_set hi ha (b := { a with regs := a.regs ++ [⟨f.e, f.p, ⟨f.q, 1, 1, 0⟩⟩] }) rfl, List.getElem?_set_self (List.getElem?_eq_some_iff.1 ha).1]
          unfold actS
          rw [if_pos k2, if_pos (.inl (by simp; omega))]
      rw [if_neg k2, if_neg h3] at hd
      by_cases k4 : f.k = 4
      · rw [if_pos k4] at hd
        split at hd
        · cases hd
        · obtain rfl := Option.some.inj hd
          unfold doS
          rw [if_neg k1, if_neg k6, if_neg k7, if_neg h8]
          simp only [find_set hi ha (b := { a with dec := f.c }) rfl, List.getElem?_set_self (List.getElem?_eq_some_iff.1 ha).1]
          unfold actS
          rw [if_neg k2, if_neg h3, if_pos k4, if_pos (.inr (by have := inv_dec hr k4; show f.c ≠ 0; omega))]
      have k5 : f.k = 5 := by omega
      rw [if_neg k4, if_pos k5] at hd
      split at hd
      · cases hd
      · obtain rfl := Option.some.inj hd
        obtain ⟨a2, ha2, -, hs2⟩ := find_some hi
        have hg := seqS_gone _ _ _ _ h.seq ha2
        rw [hs2] at hg
        unfold doS
        rw [if_neg k1, if_neg k6, if_neg k7, if_neg h8]
        simp only [find_gone hg]
/-- A PARTICIPANT's SEAT THAT IS ENDED STAYS. -/
theorem endedS {m m2 : StM} {f : FX} (hd : doS m f = some m2) (i : Nat) (x : PaM) (hx : m.parts[i]? = some x) (hz : x.z.s = 14) : ∃ y, m2.parts[i]? = some y ∧ y.z = x.z := by
  have hi := (List.getElem?_eq_some_iff.1 hx).1
  unfold doS at hd
  split at hd
  · split at hd
    · cases hd
    · obtain rfl := Option.some.inj hd
      exact ⟨x, hx, rfl⟩
  split at hd
  · split at hd
    · cases hd
    · obtain rfl := Option.some.inj hd
      exact ⟨x, by rw [List.getElem?_append_left hi]; exact hx, rfl⟩
  split at hd
  · split at hd
    · cases hd
    · next y hy =>
      split at hd
      · cases hd
      · obtain rfl := Option.some.inj hd
        by_cases q : f.p.toNat = i
        · subst q
          rw [hx] at hy
          obtain rfl := Option.some.inj hy
          exact ⟨_, List.getElem?_set_self hi, rfl⟩
        · exact ⟨x, by rw [List.getElem?_set_ne q]; exact hx, rfl⟩
  split at hd
  · split at hd
    · cases hd
    · next y hy =>
      obtain ⟨z, hz2, rfl⟩ := Option.map_eq_some_iff.1 hd
      by_cases q : f.p.toNat = i
      · subst q
        rw [hx] at hy
        obtain rfl := Option.some.inj hy
        unfold turnS at hz2
        rw [if_neg (fun w => w.1 hz)] at hz2
        cases hz2
      · exact ⟨x, by rw [List.getElem?_set_ne q]; exact hx, rfl⟩
  split at hd
  · cases hd
  · split at hd
    · cases hd
    · unfold actS at hd
      repeat' split at hd
      all_goals first
        | cases hd; exact ⟨x, hx, rfl⟩
        | (obtain ⟨z, hz2, rfl⟩ := Option.map_eq_some_iff.1 hd; exact ⟨x, hx, rfl⟩)
        | cases hd
open Go.RowKit Go.ChangeShapes Go.WideShapes

/-- AN ELEMENT's CELLS: how many, each one cell -/
structure EncG (α : Type) where
  enc : α → List Value
  k : Nat
  len : ∀ x, (enc x).length = k
  one : ∀ x, ∀ u ∈ enc x, u.oneCell' = true
section
variable {α : Type} (E : EncG α)
def EncG.row (f : List α) : List Value := f.flatMap E.enc
theorem row_len (f : List α) : (E.row f).length = f.length * E.k := by
  unfold EncG.row
  induction f with
  | nil => simp
  | cons g gs ih => rw [List.flatMap_cons, List.length_append, ih, E.len, List.length_cons, Nat.add_mul, Nat.one_mul, Nat.add_comm]
theorem row_app (f g : List α) : E.row (f ++ g) = E.row f ++ E.row g := by unfold EncG.row; rw [List.flatMap_append]
theorem row_at : ∀ (f : List α) (j : Nat) (hj : j < f.length) (i : Nat), i < E.k → (E.row f)[j * E.k + i]? = (E.enc f[j])[i]?
  | g :: gs, 0, _, i, hi => by
    show (E.row (g :: gs))[0 * E.k + i]? = (E.enc g)[i]?
    unfold EncG.row
    rw [List.flatMap_cons, Nat.zero_mul, Nat.zero_add, List.getElem?_append_left (by rw [E.len]; exact hi)]
  | g :: gs, j + 1, hj, i, hi => by
    have hj' : j < gs.length := by simpa using hj
    have h := row_at gs j hj' i hi
    show (E.row (g :: gs))[(j + 1) * E.k + i]? = (E.enc gs[j])[i]?
    rw [← h]
    unfold EncG.row
    have e : (j + 1) * E.k + i = E.k + (j * E.k + i) := by rw [Nat.add_mul, Nat.one_mul]; omega
    rw [List.flatMap_cons, e, List.getElem?_append_right (by rw [E.len]; omega), E.len, Nat.add_sub_cancel_left]
theorem row_one (f : List α) : ∀ u ∈ E.row f, u.oneCell' = true := by
  intro u hu
  obtain ⟨q, _, h⟩ := List.mem_flatMap.1 hu
  exact E.one q u h
theorem row_drop (f : List α) (i : Nat) : E.row (f.drop i) = (E.row f).drop (i * E.k) := by
  by_cases h : i ≤ f.length
  · have e : E.row f = E.row (f.take i) ++ E.row (f.drop i) := by rw [← row_app, List.take_append_drop]
    have hl : (E.row (f.take i)).length = i * E.k := by rw [row_len, List.length_take, Nat.min_eq_left h]
    have e2 := congrArg (List.drop (i * E.k)) e
    rw [List.drop_append_of_le_length (by omega), List.drop_of_length_le (l := E.row (f.take i)) (by omega), List.nil_append] at e2
    exact e2.symm
  · rw [List.drop_of_length_le (by omega), List.drop_of_length_le (by rw [row_len]; exact Nat.mul_le_mul_right _ (by omega))]
    rfl
theorem row_take (f : List α) (i : Nat) : E.row (f.take i) = (E.row f).take (i * E.k) := by
  by_cases h : i ≤ f.length
  · have e : E.row f = E.row (f.take i) ++ E.row (f.drop i) := by rw [← row_app, List.take_append_drop]
    have hl : (E.row (f.take i)).length = i * E.k := by rw [row_len, List.length_take, Nat.min_eq_left h]
    have e2 := congrArg (List.take (i * E.k)) e
    rw [List.take_append_of_le_length (by omega), List.take_of_length_le (l := E.row (f.take i)) (by omega)] at e2
    exact e2.symm
  · rw [List.take_of_length_le (by omega), List.take_of_length_le (by rw [row_len]; exact Nat.mul_le_mul_right _ (by omega))]
/-- a slice whose cells are these -/
def PartG (v : Value) (f : List α) (w : World) : Prop :=
  ∃ a cap, v = .slice a f.length cap ∧ (a = none → f.length = 0 ∧ cap = 0) ∧ ∀ ad, a = some ad → ∀ j u, (E.row f)[j]? = some u → w.cell? (ad.add j) = some u
variable {E}
theorem PartG.kp {v : Value} {f : List α} {w w' : World} (h : PartG E v f w) (hk : Kp w w') : PartG E v f w' := by
  obtain ⟨a, cap, h1, h2, h3⟩ := h
  exact ⟨a, cap, h1, h2, fun ad e j u hj => kp_cell hk (h3 ad e j u hj)⟩
theorem own_lenG {w : World} {base n : Nat} {e : TypeId} {v : Value} {f : List α} (h0 : 0 < E.k) (h : w.ownsRow base e E.k v n (E.row f)) : f.length = n := by
  have := h.1
  rw [row_len] at this
  exact Nat.eq_of_mul_eq_mul_right h0 this
theorem own_partG {w : World} {base n : Nat} {e : TypeId} {v : Value} {f : List α} (h0 : 0 < E.k) (h : w.ownsRow base e E.k v n (E.row f)) : PartG E v f w := by
  have hn := own_lenG h0 h
  rcases h.2 with ⟨rfl, hz⟩ | ⟨g, cap, cur, rfl, hg, hh, hc, hm, hs, ht⟩
  · exact ⟨none, 0, by rw [hn, hz], fun _ => ⟨by omega, rfl⟩, fun ad q => by cases q⟩
  · refine ⟨some ⟨g, 0, none⟩, cap, by rw [hn], fun q => (by cases q), fun ad q j u hj => ?_⟩
    injection q with q
    subst q
    exact h.cells rfl j u hj
theorem own_baseG {w : World} {base base' n k : Nat} {e : TypeId} {v : Value} {us : List Value} (h : w.ownsRow base e k v n us) (hb : base' ≤ base) : w.ownsRow base' e k v n us := by
  refine ⟨h.1, ?_⟩
  rcases h.2 with q | ⟨g', cap, cur, ee, hg, r⟩
  · exact Or.inl q
  · exact Or.inr ⟨g', cap, cur, ee, Nat.le_trans hb hg, r⟩
theorem own_stayG {w w' : World} {base n k : Nat} {e : TypeId} {v : Value} {us : List Value} (h : w.ownsRow base e k v n us) (hb : ∀ b, v.ownBlock = some b → w'.heap[b]? = w.heap[b]?) : w'.ownsRow base e k v n us := by
  refine ⟨h.1, ?_⟩
  rcases h.2 with q | ⟨g', cap, cur, ee, hg, hh, r⟩
  · exact Or.inl q
  · exact Or.inr ⟨g', cap, cur, ee, hg, by rw [hb g' (by rw [ee]; rfl)]; exact hh, r⟩
theorem own_formG {w : World} {v : Value} {base n k : Nat} {e : TypeId} {us : List Value} (h : w.ownsRow base e k v n us) : ∃ a cp, v = .slice a n cp := by
  rcases h.2 with ⟨rfl, h0⟩ | ⟨g', cap, cur, rfl, _⟩
  · exact ⟨none, 0, by rw [h0]⟩
  · exact ⟨_, _, rfl⟩
theorem grown_anyG {w w' : World} {r : Option Nat} (h : w.grownBy w' none) : w.grownBy w' r := ⟨h.os, h.tape, h.output, h.size, fun k hk _ => h.block k hk (by simp)⟩
/-- WHAT append WANTS OF A TYPE: the slice's elements, their zero, how many cells, how many bytes -/
structure TyG (P : Program) (T e : TypeId) (k : Nat) (z : Value) (by' : Nat) : Prop where
  und : P.underlying T = some (.slice e)
  info : ∃ i0, P.info? e = some i0 ∧ i0.zero = some z ∧ i0.size = k ∧ i0.bytes = by'
  zc : z.cells.size = k
  le : by' ≤ 4096
/-- an operation that may come up in a region that draws, as a list of its own -/
theorem wpOp_of_listG {P : Program} {ops : Array Oper} {Q : Exit → Act → World → Prop} {K : Act → World → Prop} {i : Nat} {o : Oper} {a : Act} {w : World} (h0 : ops[i]? = some o) (h : wpList P ops (Exit.then K Q) [o] a w) : wpOp P ops Q i K a w := by
  unfold wpOp
  simp only [h0]
  exact h
theorem AllReadyH.consLG {P : Program} {md : Region.Mode} {ops : Array Oper} {Q : Exit → Act → World → Prop} {S : World → Prop} {fuel : Nat} {listed : Array Bool} {a : Act} {w : World} {i : Nat} {o : Oper} {rs : List Nat} (ho : ops[i]? = some o)
    (h : ∀ K' : Act → World → Prop, Shut (∀ a w, S w → (S w → wpAnyH P md ops Q S fuel (listed.setIfInBounds i true) a w) → K' a w) → wpList P ops (Exit.then K' Q) [o] a w)
    (hs : AllReadyH P md ops Q S fuel listed a w rs) : AllReadyH P md ops Q S fuel listed a w (i :: rs) := fun j hj => by
  rcases List.mem_cons.1 hj with rfl | hj
  · exact wpOp_of_listG ho (h _ (fun a w h1 h2 => ⟨h1, h2 h1⟩))
  · exact hs j hj
theorem bytes_le {n by' : Nat} (h1 : n ≤ 1000000) (h2 : by' ≤ 4096) : n * by' ≤ 140737488355328 :=
  Nat.le_trans (Nat.mul_le_mul h1 h2) (by decide)
set_option maxRecDepth 20000 in
/-- append: IN THE BLOCK THAT THERE WAS, or in a new one -/
theorem wpList_append_rwG {P : Program} {T e : TypeId} {z : Value} {by' : Nat} (ty : TyG P T e E.k z by') (h0 : 0 < E.k) (w : World) {ops : Array Oper} {rest : List Oper} {o : Oper} {a : Act} {Q : Exit → Act → World → Prop} (hgd : o.guard = none) (s x : Operand)
    (ho : o.op = .call { callee := .builtin .append, args := #[s, x], argTypes := #[T, T] })
    (base : Nat) (v : Value) (n : Nat) (xs : List α) (hs : a.eval s = v) (hown : w.ownsRow base e E.k v n (E.row xs))
    (u : Value) (f : List α) (hx : a.eval x = u) (hb : PartG E u f w) (h63 : n + f.length ≤ 1000000) (hbase : base ≤ w.heap.size)
    (h : ∀ v' w', w'.ownsRow base e E.k v' (n + f.length) (E.row (xs ++ f)) → w.grownBy w' v.ownBlock → (∀ b, v'.ownBlock = some b → v.ownBlock = some b ∨ w.heap.size ≤ b) → wpList P ops Q rest (a.put o.dst v') w') : wpList P ops Q (o :: rest) a w := by
  obtain ⟨i0, hi, hz0, hz1, hz2⟩ := ty.info
  rw [row_app] at h
  obtain ⟨ao, cap, rfl, hno, hc⟩ := hb
  have hmax : n + f.length ≤ maxLen := by unfold maxLen; omega
  have hby := bytes_le h63 ty.le
  cases ao with
  | none =>
    obtain ⟨h1, rfl⟩ := hno rfl
    have hf : f = [] := List.length_eq_zero_iff.1 h1
    subst hf
    exact wpList_append_own_none hgd s x T ho base e i0 E.k ty.und hi v n (E.row xs) hs hown hx (h v w (by simpa [EncG.row] using hown) ⟨rfl, rfl, rfl, Nat.le_refl _, fun _ _ _ => rfl⟩ (fun b q => .inl q))
  | some ad =>
    rcases hown.2 with ⟨rfl, rfl⟩ | ⟨g, cap2, cur, rfl, hg, hh, hnc, hcm, hcs, htk⟩
    · have hxs : E.row xs = [] := List.length_eq_zero_iff.1 (by simpa using hown.1)
      rw [hxs] at h hown
      refine wpList_append_own w hgd s x T ho w.heap.size e i0 z E.k by' ty.und hi hz0 hz1 hz2 ty.zc h0 (.slice none 0 0) 0 [] hs (World.ownsRow_nil w _ _ _) ad f.length cap (E.row f) hx (row_len E f) (hc ad rfl) (row_one E f) hmax hby (Nat.le_refl _) ?_
      intro v' w' h1 h2 _
      exact h v' w' (own_baseG h1 hbase) h2 (fun b q => .inr (h1.lt b q).1)
    · by_cases hfit : n + f.length ≤ cap2
      · refine wpList_append_fits w hgd s x T ho base e i0 E.k ty.und hi hz1 g n cap2 (E.row xs) hs hown ad f.length cap (E.row f) hx (row_len E f) (hc ad rfl) (row_one E f) hfit ?_
        intro w' h1 h2
        exact h _ w' h1 h2 (fun b q => .inl q)
      · have holds : ∀ b, (some ⟨g, 0, none⟩ : Option Addr) = some b → ∀ j u, (E.row xs)[j]? = some u → w.cell? (b.add j) = some u := by
          intro b e j u hj
          injection e with e
          subst e
          exact hown.cells rfl j u hj
        refine wpList_append_grows w hgd s x T ho e i0 z E.k by' ty.und hi hz0 hz1 hz2 ty.zc h0 (some ⟨g, 0, none⟩) n cap2 (E.row xs) hs (fun e => by cases e) hown.1 holds ad f.length cap (E.row f) hx (row_len E f) (hc ad rfl) (row_one E f) (by omega) hmax hby ?_
        intro v' w' h1 h2
        exact h v' w' (own_baseG h1 hbase) (grown_anyG h2) (fun b q => .inr (h1.lt b q).1)
/-- the beginning and the end of a slice, as a walk meets them -/
theorem sl_headG {P : Program} {T e : TypeId} {k b n cp i : Nat} {ii : Int} (hu : P.underlying T = some (.slice e)) (hz : ∃ i0, P.info? e = some i0 ∧ i0.size = k) (hii : (i : Int) = ii) (hi : i ≤ n) (hnc : n ≤ cp) (w : World) :
    (Instr.slice T (.slice (some ⟨b, 0, none⟩) n cp) none (some (.int .i64 ii)) none).run P w = .ok (.slice (some ⟨b, 0, none⟩) i cp) w := by
  have he : P.elem T = e := by simp [Program.elem, hu]
  have hs : (Go.sizeOf e).run P w = .ok k w := by
    obtain ⟨i0, h1, h2⟩ := hz
    simp [sizeOf, typeInfo, h1, h2]
  rw [run_slice_h w T _ _ _ (by rw [hu, he]) .i64 _ (by omega) (by omega), he, hs]
  have e : ii.toNat = i := by omega
  simp [Result.andThen, sliced, Addr.add, e]
theorem sl_tailG {P : Program} {T e : TypeId} {k b n cp i : Nat} {ii : Int} (hu : P.underlying T = some (.slice e)) (hz : ∃ i0, P.info? e = some i0 ∧ i0.size = k) (hii : (i : Int) = ii) (hi : i ≤ n) (w : World) :
    (Instr.slice T (.slice (some ⟨b, 0, none⟩) n cp) (some (.int .i64 ii)) none none).run P w = .ok (.slice (some ⟨b, if cp = i then 0 else i * k, none⟩) (n - i) (cp - i)) w := by
  have he : P.elem T = e := by simp [Program.elem, hu]
  have hs : (Go.sizeOf e).run P w = .ok k w := by
    obtain ⟨i0, h1, h2⟩ := hz
    simp [sizeOf, typeInfo, h1, h2]
  rw [run_slice_l w T _ _ _ (by rw [hu, he]) .i64 _ (by omega) (by omega), he, hs]
  have e : ii.toNat = i := by omega
  simp [Result.andThen, sliced, Addr.add, e]
  split <;> simp <;> omega
end
open Go.RowKit

/-- OLD MEMORY BUT THE TAPE's OWN (O) IS AS IT WAS; what it has now (O') is that or new. -/
structure Asd (O O' : Nat → Prop) (w w' : World) : Prop where
  os : w'.os = w.os
  tape : w'.tape = w.tape
  output : w'.output = w.output
  size : w.heap.size ≤ w'.heap.size
  block : ∀ b, b < w.heap.size → ¬ O b → w'.heap[b]? = w.heap[b]?
  own : ∀ b, O' b → O b ∨ w.heap.size ≤ b
theorem Asd.kp {O O' : Nat → Prop} {W w w' : World} (h : Asd O O' w w') (hk : Kp W w) (hO : ∀ b, O b → W.heap.size ≤ b) : Kp W w' :=
  ⟨h.os.trans hk.os, h.tape.trans hk.tape, h.output.trans hk.output, Nat.le_trans (Below.size hk) h.size, fun b hb => by
    rw [h.block b (Nat.lt_of_lt_of_le hb (Below.size hk)) (fun q => absurd (hO b q) (by omega))]; exact Below.block hk b hb⟩
theorem Asd.trans {P P' P'' : Nat → Prop} {a b c : World} (h : Asd P P' a b) (k : Asd P' P'' b c) : Asd P P'' a c :=
  ⟨k.os.trans h.os, k.tape.trans h.tape, k.output.trans h.output, Nat.le_trans h.size k.size, fun i hi hn => by
    rw [k.block i (Nat.lt_of_lt_of_le hi h.size) (fun q => by rcases h.own i q with q | q; exact hn q; omega)]
    exact h.block i hi hn, fun i q => by
    rcases k.own i q with q | q
    · exact h.own i q
    · exact .inr (Nat.le_trans h.size q)⟩
theorem Asd.of_kp (P : Nat → Prop) {w w' : World} (h : Kp w w') : Asd P P w w' := ⟨h.os, h.tape, h.output, Below.size h, fun b hb _ => Below.block h b hb, fun _ q => .inl q⟩
end Go.Proofs.YtpemeenfhkgmpaaGreatDoor
