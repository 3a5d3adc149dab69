/-
  THE LANDED CLOCK (own work): due keys sorted; Due.
-/
import Derived.Test.YtanbeaebdingeaaDoorTmD
import Derived.Test.YtanbeaebdingeaaDoorLaySo
namespace Go.Proofs.YtanbeaebdingeaaDoor
open Go.RowKit Go.ChangeShapes Go.WideShapes Go.Sort
variable {w0 w w' W w3 : World} {q mb : Nat} {c : CkM}

/-- keys that a map may have -/
abbrev Ky := {l : List UInt8 // l.length ≤ maxLen}
instance kyInh : Inhabited Ky := ⟨⟨[], Nat.zero_le _⟩⟩
def encKy (x : Ky) : Value := encStr x.1
theorem ky_of : ∀ ds : List (List UInt8), (∀ k ∈ ds, k.length ≤ maxLen) → ∃ d : List Ky, d.map Subtype.val = ds
  | [], _ => ⟨[], rfl⟩
  | k :: ds, h => by
    obtain ⟨d, hd⟩ := ky_of ds (fun x hx => h x (List.mem_cons_of_mem _ hx))
    exact ⟨⟨k, h k (List.mem_cons_self ..)⟩ :: d, by rw [List.map_cons, hd]⟩
theorem ky_get (s : List Ky) (j : Nat) (h : j < s.length) : encKy s.toArray[j]! = encStr (s.map Subtype.val).toArray[j]! := by
  rw [getElem!_pos s.toArray j (by simpa using h), getElem!_pos (s.map Subtype.val).toArray j (by simpa using h)]
  simp [encKy]
theorem putRow_ky (W : World) (g : Nat) (s : List Ky) : putRow encKy W g 0 s.toArray = putRow encStr W g 0 (s.map Subtype.val).toArray := by
  unfold putRow
  refine mapBlock_congr _ _ _ _ fun cs _ _ _ => ?_
  unfold putCells
  apply Array.ext_getElem?
  intro j
  simp only [Array.getElem?_mapIdx]
  cases cs[j]? with
  | none => rfl
  | some u =>
    simp only [Option.map_some, List.size_toArray, List.length_map, Nat.zero_add, Nat.sub_zero, Nat.zero_le, true_and]
    by_cases hj : j < s.length
    · rw [if_pos hj, if_pos hj, ky_get s j hj]
    · rw [if_neg hj, if_neg hj]
theorem holds_ky {g : Nat} {d : List Ky} (h : Holds encStr W g 0 (d.map Subtype.val).toArray) : Holds encKy W g 0 d.toArray := fun j hj => by
  have hj' : j < d.length := by simpa using hj
  have := h j (by simpa using hj')
  rw [ky_get d j hj']
  exact this
theorem cmpK_spec (x y : List UInt8) : (cmpK x y = -1 ∧ x < y) ∨ (cmpK x y = 1 ∧ y < x) ∨ (cmpK x y = 0 ∧ x = y) := by
  unfold cmpK
  by_cases h1 : x < y
  · rw [if_pos h1]; exact .inl ⟨rfl, h1⟩
  · rw [if_neg h1]
    by_cases h2 : y < x
    · rw [if_pos h2]; exact .inr (.inl ⟨rfl, h2⟩)
    · rw [if_neg h2]; exact .inr (.inr ⟨rfl, List.le_antisymm (List.not_lt.1 h2) (List.not_lt.1 h1)⟩)
/-- the order on keys -/
def cfY (c : CkM) (x y : Ky) : Int := cfK c x.1 y.1
theorem cf_not (ok : CkOk c) (x y : Ky) : ltOf (cfY c) x y = false ↔ leK c y.1 x.1 := by
  unfold ltOf cfY cfK leK
  rw [Fl.ord_of_le (atK_le ok x.1) (atK_le ok y.1), decide_eq_false_iff_not]
  obtain ⟨a, ha⟩ : ∃ a, c.atK x.1 = a := ⟨_, rfl⟩
  obtain ⟨b, hb⟩ : ∃ a, c.atK y.1 = a := ⟨_, rfl⟩
  rw [ha, hb]
  rcases Fl.cmpN_spec a b with ⟨e, h⟩ | ⟨e, h⟩ | ⟨e, h⟩
  · rw [e, if_neg (by decide)]
    constructor
    · intro g; exact absurd (by decide) g
    · rintro (g | ⟨g, _⟩) <;> omega
  · rw [e, if_neg (by decide)]
    exact ⟨fun _ => .inl h, fun _ => by decide⟩
  · rw [e, if_pos rfl]
    subst h
    rcases cmpK_spec x.1 y.1 with ⟨e2, g⟩ | ⟨e2, g⟩ | ⟨e2, g⟩
    · rw [e2]
      constructor
      · intro q; exact absurd (by decide) q
      · rintro (q | ⟨_, q⟩)
        · omega
        · exact absurd g (List.not_lt.2 q)
    · rw [e2]
      exact ⟨fun _ => .inr ⟨rfl, List.le_of_lt g⟩, fun _ => by decide⟩
    · rw [e2]
      exact ⟨fun _ => .inr ⟨rfl, by rw [g]; exact List.le_refl _⟩, fun _ => by decide⟩
theorem leK_trans {x y z : List UInt8} (h : leK c x y) (g : leK c y z) : leK c x z := by
  unfold leK at *
  rcases h with h | ⟨h, h'⟩ <;> rcases g with g | ⟨g, g'⟩
  · exact .inl (by omega)
  · exact .inl (by omega)
  · exact .inl (by omega)
  · exact .inr ⟨by omega, List.le_trans h' g'⟩
theorem leK_total (x y : List UInt8) : leK c x y ∨ leK c y x := by
  unfold leK
  rcases Nat.lt_trichotomy (c.atK x) (c.atK y) with h | h | h
  · exact .inl (.inl h)
  · rcases List.le_total x y with g | g
    · exact .inl (.inr ⟨h, g⟩)
    · exact .inr (.inr ⟨h.symm, g⟩)
  · exact .inr (.inl h)
theorem cf_swo (ok : CkOk c) : SWO (ltOf (cfY c)) where
  irrefl := fun x => (cf_not ok x x).2 (.inr ⟨rfl, List.le_refl _⟩)
  trans := fun x y z h1 h2 => by
    cases h : ltOf (cfY c) x z with
    | true => rfl
    | false =>
      -- z <= x; x < y gives x <= y; so z <= y, but y < z
      have g1 := (cf_not ok x z).1 h
      have g2 : leK c x.1 y.1 := by
        rcases leK_total (c := c) x.1 y.1 with q | q
        · exact q
        · rw [(cf_not ok x y).2 q] at h1; cases h1
      have g3 := leK_trans g1 g2
      rw [(cf_not ok y z).2 g3] at h2
      cases h2
  ntrans := fun x y z h1 h2 => (cf_not ok x z).2 (leK_trans ((cf_not ok y z).1 h2) ((cf_not ok x y).1 h1))
theorem cf_total (ok : CkOk c) (x y : Ky) (h1 : ltOf (cfY c) x y = false) (h2 : ltOf (cfY c) y x = false) : x = y :=
  Subtype.ext (leK_antisymm ((cf_not ok y x).1 h2) ((cf_not ok x y).1 h1))
theorem due_sort (ok : CkOk c) {d : List Ky} (hp : (d.map Subtype.val).Perm (c.dueT.map Tm.k)) : DueIs c ((d.mergeSort fun x y => !(ltOf (cfY c)) y x).map Subtype.val) := by
  refine ⟨((List.mergeSort_perm d _).map _).trans hp, List.pairwise_map.2 ?_⟩
  refine (List.pairwise_mergeSort (le := fun x y => !(ltOf (cfY c)) y x) (fun x y z h1 h2 => ?_) (fun x y => ?_) d).imp fun {x y} h => ?_
  · rw [Bool.not_eq_true'] at *
    exact (cf_not ok z x).2 (leK_trans ((cf_not ok y x).1 h1) ((cf_not ok z y).1 h2))
  · rw [Bool.or_eq_true, Bool.not_eq_true', Bool.not_eq_true']
    rcases leK_total (c := c) x.1 y.1 with q | q
    · exact .inl ((cf_not ok y x).2 q)
    · exact .inr ((cf_not ok x y).2 q)
  · rw [Bool.not_eq_true'] at h
    exact (cf_not ok y x).1 h
theorem grownBy_box {bx : Nat} {o : Option Nat} {u : Value} (hg : w.grownBy w' o) (hb : w.cell? ⟨bx, 0, none⟩ = some u) (hne : o ≠ some bx) : w'.cell? ⟨bx, 0, none⟩ = some u := by
  have hlt : bx < w.heap.size := old_of_cell hb
  unfold World.cell? at hb ⊢
  dsimp only at hb ⊢
  rw [hg.block bx hlt (fun e => hne e.symm)]
  exact hb
theorem Lk.grown {o : Option Nat} (H : Lk w0 q mb c w) (hg : w.grownBy w' o) (h1 : o ≠ some q) (h2 : o ≠ some mb) : Lk w0 q mb c w' := H.stay fun b hb => by
  refine hg.block b (H.mem b hb).2 (fun e => ?_)
  rcases hb with rfl | rfl
  · exact h1 e.symm
  · exact h2 e.symm
/-- DUE KEYS SORTED -/
theorem sortK (H : Lk w0 q mb c W) {bx : Nat} (hb : W.cell? ⟨bx, 0, none⟩ = some (.pointer (some ⟨q, 0, none⟩))) {g cap base : Nat} {ds : List (List UInt8)} (hk : ∀ k ∈ ds, k.length ≤ maxLen) (hp : ds.Perm (c.dueT.map Tm.k)) (hl : ds.length ≤ 64)
    (hrow : W.ownsRow base 9 1 (.slice (some ⟨g, 0, none⟩) ds.length cap) ds.length (ds.map encStr)) (n1 : g ≠ q) (n2 : g ≠ mb) (n3 : g ≠ bx) :
    Calls Tryd.prog 33 #[.slice (some ⟨g, 0, none⟩) ds.length cap, .func (.func 34) #[] #[.pointer (some ⟨bx, 0, none⟩)]] W fun r w' => r = .returned (.tuple #[]) ∧ ∃ l, DueIs c l ∧ l.length = ds.length ∧ w'.ownsRow base 9 1 (.slice (some ⟨g, 0, none⟩) ds.length cap) ds.length (l.map encStr) ∧ W.grownBy w' (some g) := by
  obtain ⟨d, rfl⟩ := ky_of ds hk
  rw [List.length_map] at hl hrow ⊢
  rcases hrow.2 with ⟨h0, _⟩ | ⟨g', cap', cur, hv, hg, hh, hn, hcap, hsz, htk⟩
  · cases h0
  injection hv with hv _ hcc
  injection hv with hv
  injection hv with hv
  subst hv
  subst hcc
  have eg : ∀ args w, (callFunc 34 args).run Tryd.prog w = .ok (.enter 34 args) w := enters_of Tryd.func34 (by kernel_rfl) rfl
  have hbl : W.heap[g]? = some (.cells cur 9 (0, 0)) := hh
  have hH : Holds encStr W g 0 (d.map Subtype.val).toArray := holds_of_block hbl (by simpa using htk)
  have hcmp : CmpLays1 Tryd.prog 34 #[.pointer (some ⟨bx, 0, none⟩)] encKy (cfY c) g 0 d.toArray.size W := fun m os dk _ x y => by
    have hgr : W.grownBy (sortWorld encKy W g 0 m dk os) (some g) := by
      have e : sortWorld encKy W g 0 m dk os = grow (putRow encStr (Sort.ahead W m) g 0 (dk.toList.map Subtype.val).toArray) os := by
        unfold sortWorld
        rw [← putRow_ky]
      rw [e]
      exact grownBy_sorted _
    have h1 := H.grown hgr (fun e => n1 (Option.some.inj e)) (fun e => n2 (Option.some.inj e))
    have h2 := grownBy_box hgr hb (fun e => n3 (Option.some.inj e))
    exact lkCmp H.ok x.2 y.2 h1 h2
  have hS := Any.slices_SortFunc_total Tryd.sortL encKy (fun _ => rfl) (cfY c) (cf_swo H.ok) 34 #[.pointer (some ⟨bx, 0, none⟩)] g 0 cap d.toArray W eg hcmp (holds_ky hH) (Array.getElem?_eq_some_iff.1 hbl).1 (by simp; omega) (cf_total H.ok)
  rw [show d.toArray.size = d.length by simp] at hS
  refine Calls.mono (R := _) hS ?_
  rintro r w' ⟨rfl, n, os, rfl⟩
  have e : sortWorld encKy W g 0 n (d.mergeSort fun x y => !(ltOf (cfY c)) y x).toArray os = grow (putRow encStr (Sort.ahead W n) g 0 ((d.mergeSort fun x y => !(ltOf (cfY c)) y x).map Subtype.val).toArray) os := by
    unfold sortWorld
    rw [putRow_ky]
  refine ⟨rfl, _, due_sort H.ok hp, by simp, ?_, ?_⟩
  · rw [e]
    have := ownsRow_sorted (w := W) (base := base) (g := g) (cap := cap) (n := n) (e := 9) (os := os) (cur := cur) (ss := d.map Subtype.val) (ts := (d.mergeSort fun x y => !(ltOf (cfY c)) y x).map Subtype.val) (by simp) hg hbl (by simpa using hn) hcap (by simpa using hsz)
    simpa using this
  · rw [e]
    exact grownBy_sorted _
/-- the due ones of the keys -/
def CkM.dl (c : CkM) (ks : List (List UInt8)) : List (List UInt8) := ks.filter fun k => decide (c.atK k ≤ c.now)
theorem dl_perm (ok : CkOk c) {ks : List (List UInt8)} (hp : ks.Perm (c.ts.map Tm.k)) : (c.dl ks).Perm (c.dueT.map Tm.k) := by
  unfold CkM.dl
  refine (hp.filter _).trans (List.Perm.of_eq ?_)
  rw [List.filter_map]
  unfold CkM.dueT
  congr 1
  refine List.filter_congr fun t ht => ?_
  show decide (c.atK t.k ≤ c.now) = _
  rw [atK_of ok.nd ht]
end Go.Proofs.YtanbeaebdingeaaDoor
