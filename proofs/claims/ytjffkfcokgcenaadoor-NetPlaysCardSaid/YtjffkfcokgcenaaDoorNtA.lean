/-
  A NET's CODE KEEPS ITS CONTRACTS (own work): its blocks; has, holds, room, Len, Lost.
-/
import Derived.Test.YtjffkfcokgcenaaDoorRnH
import Derived.Test.YtjffkfcokgcenaaDoorClo
import Derived.Maps.OwnSet
import Derived.WideKeyPair
import Derived.DeepKeys4
namespace Go.Proofs.YtjffkfcokgcenaaDoor
open Go.RowKit Go.ChangeShapes Go.WideShapes Go.WideMaps

/-- a letter as it lies: its bytes' slice -/
structure LtP where
  (l : LtM) (o : Option Addr) (c : Nat)
def LtP.v (p : LtP) : Value := .slice p.o p.l.d.length p.c
def pE : EncG LtP where
  enc p := [.int .i64 p.l.a, .int .i64 p.l.b, p.v]
  k := 3
  len := fun _ => rfl
  one := by
    intro x u hu
    simp only [List.mem_cons, List.not_mem_nil, or_false] at hu
    rcases hu with rfl | rfl | rfl <;> rfl
/-- its bytes lie behind B, in memory of a call's own -/
def DatP (B : Nat) (p : LtP) (w : World) : Prop := w.ownsRow B 5 1 p.v p.l.d.length (p.l.d.map (Value.int .u8))
theorem info_lt0 : (Tryd.prog.info? 45).map (fun i => (i.zero, i.size, i.bytes)) = some (some (.agg #[.int .i64 0, .int .i64 0, .slice none 0 0]), 3, 40) := by kernel_rfl
theorem info_lt : ∃ i0, Tryd.prog.info? 45 = some i0 ∧ i0.zero = some (.agg #[.int .i64 0, .int .i64 0, .slice none 0 0]) ∧ i0.size = 3 ∧ i0.bytes = 40 := by
  have h := info_lt0
  cases g : Tryd.prog.info? 45 with
  | none => rw [g] at h; cases h
  | some i0 =>
    rw [g] at h
    simp only [Option.map_some, Option.some.injEq, Prod.mk.injEq] at h
    exact ⟨i0, rfl, h.1, h.2.1, h.2.2⟩
theorem ty_lt : TyG Tryd.prog 42 45 3 (.agg #[.int .i64 0, .int .i64 0, .slice none 0 0]) 40 := ⟨Tryd.underlying42, info_lt, rfl, by decide⟩
variable {w0 w w' W w3 : World} {q mb : Nat} {m : NetM} {v v' : Value} {ps ps' : List LtP}
theorem DatP.kp {B : Nat} {p : LtP} {w w' : World} (h : DatP B p w) (hk : Kp w w') : DatP B p w' := own_kp3 h hk
theorem DatP.base {B B' : Nat} {p : LtP} {w : World} (h : DatP B p w) (hb : B' ≤ B) : DatP B' p w := own_baseG h hb
theorem DatP.slb {B : Nat} {p : LtP} {w : World} (h : DatP B p w) : SlB p.v p.l.d w := own_slb h
/-- a key of the cuts -/
def wk (x y : Int) : Lit := .string (keyBytes [.int .i64 x, .int .i64 y])
def wf64 (x : Int) : Prop := (Lit.int .i64 x).wf = true
theorem wayArr : ArrKey Tryd.prog 85 3 2 := ⟨Tryd.underlying85, by kernel_rfl, by kernel_rfl, by kernel_rfl⟩
theorem wayLaw : Maps.Keyed Tryd.prog 85 := Maps.Keyed.of_law (deep_law_laid (by kernel_rfl) (m := 2) (by omega) (of_decide_eq_true (by kernel_rfl)) (by kernel_rfl) (by rw [Tryd.underlying85]))
theorem wk_key {x y : Int} (hx : wf64 x) (hy : wf64 y) : keyOf Tryd.prog 85 (.agg #[.int .i64 x, .int .i64 y]) = some (wk x y) := keyOf_pair wayArr Tryd.underlying3 ⟨Tryd.prog.types.size - 1, by kernel_rfl⟩ hx hy
theorem wk_inj {x y x' y' : Int} (hx : wf64 x) (hy : wf64 y) (hx' : wf64 x') (hy' : wf64 y') (h : wk x y = wk x' y') : x = x' ∧ y = y' := by
  have h1 := wk_key hx hy
  have h2 := wk_key hx' hy'
  rw [h] at h1
  have := wayLaw.inj h1 h2
  simpa using this
theorem len_le_sub {α : Type} : ∀ (l K : List α), l.Pairwise (· ≠ ·) → (∀ x ∈ l, x ∈ K) → l.length ≤ K.length
  | [], _, _, _ => Nat.zero_le _
  | x :: t, K, hp, hs => by
    classical
    rw [List.pairwise_cons] at hp
    have hx := hs x (by simp)
    have h1 := len_le_sub t (K.erase x) hp.2 (fun y hy => (List.mem_erase_of_ne (fun e => hp.1 y hy e.symm)).2 (hs y (by simp [hy])))
    rw [List.length_erase_of_mem hx] at h1
    have h2 := List.length_pos_of_mem hx
    simp only [List.length_cons]
    omega
/-- THE WAYS THAT ARE CUT, as a map -/
structure CutsM (b : Nat) (m : NetM) (D : DataW Unit) (w : World) : Prop where
  own : w.ownsMap Tryd.prog 85 (plainElem Tryd.prog 4) b 16 D
  at' : ∀ x y : Int, m.has x = true → m.has y = true → D.atKey (wk x y) (.lit (.bool false)) = .lit (.bool (m.isCut x y))
  only : ∀ k, Maps.has D k = true → ∃ x y : Int, m.has x = true ∧ m.has y = true ∧ k = wk x y
theorem has_rng {m : NetM} {x : Int} (h : m.has x = true) : 0 ≤ x ∧ x < m.n := by
  unfold NetM.has at h
  simpa using h
theorem has_wf {m : NetM} (hm : m.n ≤ 4) {x : Int} (h : m.has x = true) : wf64 x := by
  have := has_rng h
  simp only [wf64, Lit.wf, IntKind.min, IntKind.max, IntKind.bits, IntKind.signed, Bool.and_eq_true, decide_eq_true_eq]
  simp
  omega
theorem own_keylit {b n : Nat} {D : DataW Unit} {w : World} (h : w.ownsMap Tryd.prog 85 (plainElem Tryd.prog 4) b n D) : ∃ es, D = .map es ∧ ∀ p ∈ es, WideAt.IsKeyLit p.1 := by
  obtain ⟨es, clock, hb, F, hs, rfl⟩ := h
  refine ⟨_, rfl, fun p hp => ?_⟩
  obtain ⟨v, hv⟩ := Maps.keys_perm (sorted_perm _).symm (Maps.fit_keys F) p hp
  exact wayLaw.key hv
/-- few keys, few entries -/
theorem few_keys {b n : Nat} {w : World} {m : NetM} (hm : m.n ≤ 4) {D : DataW Unit} (h : w.ownsMap Tryd.prog 85 (plainElem Tryd.prog 4) b n D) (ho : ∀ k, Maps.has D k = true → ∃ x y : Int, m.has x = true ∧ m.has y = true ∧ k = wk x y) : w.ownsMap Tryd.prog 85 (plainElem Tryd.prog 4) b 16 D := by
  obtain ⟨es, rfl, hk⟩ := own_keylit h
  obtain ⟨es', e', hp⟩ := h.tidy wayLaw
  injection e' with e'
  subst e'
  have h2 := len_le_sub (es.map (·.1)) ((([0, 1, 2, 3] : List Int)).flatMap fun x => (([0, 1, 2, 3] : List Int)).map fun y => wk x y) (List.pairwise_map.2 hp) (fun k hkm => by
    obtain ⟨p, hp1, rfl⟩ := List.mem_map.1 hkm
    obtain ⟨x, y, hx, hy, e⟩ := ho p.1 (by
      rw [Maps.has_eq, List.any_eq_true]
      exact ⟨p, hp1, WideAt.sameKey_self (hk p hp1)⟩)
    have hx := has_rng hx
    have hy := has_rng hy
    rw [e]
    have hx4 : x ∈ ([0, 1, 2, 3] : List Int) := by simp; omega
    have hy4 : y ∈ ([0, 1, 2, 3] : List Int) := by simp; omega
    exact List.mem_flatMap.2 ⟨x, hx4, List.mem_map.2 ⟨y, hy4, rfl⟩⟩)
  have h3 : es.length ≤ 16 := by simpa using h2
  obtain ⟨es0, clock, hb, F, hs, hD⟩ := h
  refine ⟨es0, clock, hb, F, ?_, hD⟩
  injection hD with hD
  have := congrArg List.length hD
  rw [length_sorted] at this
  simp at this
  omega
theorem cuts_new {n : Nat} (w : World) : CutsM w.heap.size (NetM.new n) (.map []) (w.alloc (.map #[] 0)) where
  own := (World.ownsMap_made w _ _ _).mono (Nat.zero_le _)
  at' := fun x y hx hy => by
    rw [WideAt.atKey_none _ (fun p hp => by cases hp)]
    unfold NetM.isCut NetM.new
    dsimp only
    have hx := has_rng hx
    have hy := has_rng hy
    have hx1 : x.toNat < n := by have := hx.2; simp only [NetM.new] at this; omega
    have hy1 : y.toNat < n := by have := hy.2; simp only [NetM.new] at this; omega
    simp [List.getD_eq_getElem?_getD, hx1, hy1]
  only := fun k h => by simp [Maps.has] at h
theorem CutsM.kept {b : Nat} {m : NetM} {D : DataW Unit} (h : CutsM b m D w) (hb : w'.heap[b]? = w.heap[b]?) : CutsM b m D w' := by
  obtain ⟨⟨es, clock, h1, r⟩, h2, h3⟩ := h
  exact ⟨⟨es, clock, hb.trans h1, r⟩, h2, h3⟩
theorem CutsM.lt {b : Nat} {m : NetM} {D : DataW Unit} (h : CutsM b m D w) : b < w.heap.size := h.own.lt
theorem zero_bool (w : World) : (zeroValue 4).run Tryd.prog w = .ok (.bool false) w := by kernel_rfl
theorem plainElem_bool_inv {P : Program} {e : TypeId} (he : P.underlying e = some .bool) {v : Value} {z : DataW Unit × List MemPlace} (h : plainElem P e v = some z) : ∃ a, v = .bool a ∧ z = (.lit (.bool a), []) := by
  unfold plainElem at h
  rw [he] at h
  cases v <;> simp at h
  exact ⟨_, rfl, h.symm⟩
/-- a way looked up -/
theorem CutsM.look {b : Nat} {m : NetM} {D : DataW Unit} (h : CutsM b m D w) (hm : m.n ≤ 4) {x y : Int} (hx : m.has x = true) (hy : m.has y = true) : (Instr.lookup 68 (.map (some b)) (.agg #[.int .i64 x, .int .i64 y]) false).run Tryd.prog w = .ok (.bool (m.isCut x y)) w := by
  obtain ⟨v, pl, hr, hv⟩ := h.own.lookup wayLaw Tryd.underlying68 (zero_bool w) (plainElem_bool Tryd.underlying4 false) (wk_key (has_wf hm hx) (has_wf hm hy))
  obtain ⟨c, rfl, hc⟩ := plainElem_bool_inv Tryd.underlying4 hv
  rw [h.at' x y hx hy] at hc
  simp only [Prod.mk.injEq, DataW.lit.injEq, Lit.bool.injEq] at hc
  rw [hr, hc.1]
theorem isCut_set {m : NetM} (hm : Nok m) {x y a b : Int} (hx : m.has x = true) (hy : m.has y = true) (ha : m.has a = true) (hb : m.has b = true) (is : Bool) :
    (⟨m.n, m.f, m.cut.set x.toNat ((m.cut.getD x.toNat []).set y.toNat is), m.lost⟩ : NetM).isCut a b = if a = x ∧ b = y then is else m.isCut a b := by
  have hx := has_rng hx
  have hy := has_rng hy
  have ha := has_rng ha
  have hb := has_rng hb
  have hr := hm.rows
  have lx : x.toNat < m.cut.length := by omega
  have hc := hm.cols m.cut[x.toNat] (List.getElem_mem lx)
  unfold NetM.isCut
  dsimp only
  have e0 : m.cut.getD x.toNat [] = m.cut[x.toNat] := by rw [List.getD_eq_getElem?_getD, List.getElem?_eq_getElem lx]; rfl
  rw [e0]
  by_cases h1 : a = x
  · subst h1
    rw [List.getD_eq_getElem?_getD (l := m.cut.set _ _), List.getElem?_set_self lx, Option.getD_some, e0]
    by_cases h2 : b = y
    · subst h2
      rw [if_pos ⟨rfl, rfl⟩, List.getD_eq_getElem?_getD, List.getElem?_set_self (by omega)]
      rfl
    · rw [if_neg (fun q => h2 q.2), List.getD_eq_getElem?_getD, List.getElem?_set_ne (by omega), ← List.getD_eq_getElem?_getD]
  · rw [if_neg (fun q => h1 q.1), List.getD_eq_getElem?_getD (l := m.cut.set _ _), List.getElem?_set_ne (by omega), ← List.getD_eq_getElem?_getD]
theorem wk_ne {m : NetM} (hm : m.n ≤ 4) {x y a b : Int} (hx : m.has x = true) (hy : m.has y = true) (ha : m.has a = true) (hb : m.has b = true) (h : ¬ (a = x ∧ b = y)) : wk a b ≠ wk x y := fun e =>
  h (wk_inj (has_wf hm ha) (has_wf hm hb) (has_wf hm hx) (has_wf hm hy) e)
/-- a way is cut, or isn't any more -/
theorem CutsM.put {b : Nat} {m : NetM} {D : DataW Unit} (h : CutsM b m D w) (hm : Nok m) {x y : Int} (hx : m.has x = true) (hy : m.has y = true) : ∃ w' D', (Instr.mapUpdate 68 (.map (some b)) (.agg #[.int .i64 x, .int .i64 y]) (.bool true)).run Tryd.prog w = .ok () w' ∧ CutsM b ⟨m.n, m.f, m.cut.set x.toNat ((m.cut.getD x.toNat []).set y.toNat true), m.lost⟩ D' w' ∧ w.grownBy w' (some b) := by
  obtain ⟨w', hr, ho, hg⟩ := h.own.update wayLaw Tryd.underlying68 (by decide) (wk_key (has_wf hm.n4 hx) (has_wf hm.n4 hy)) (plainElem_bool Tryd.underlying4 true)
  have ho2 : ∀ k, Maps.has (D.put (wk x y) (.lit (.bool true))) k = true → ∃ a b : Int, m.has a = true ∧ m.has b = true ∧ k = wk a b := fun k hk => by
    by_cases e : k = wk x y
    · exact ⟨x, y, hx, hy, e⟩
    · exact h.only k (by rw [← Maps.has_put_other (D := D) e (.lit (.bool true))]; exact hk)
  refine ⟨w', _, hr, ⟨few_keys hm.n4 ho ho2, fun a c ha hc => ?_, ho2⟩, hg⟩
  have ha : m.has a = true := ha
  have hc : m.has c = true := hc
  rw [isCut_set hm hx hy ha hc]
  by_cases e : a = x ∧ c = y
  · rw [if_pos e, e.1, e.2, Maps.atKey_put_same (k := wk x y) h.own.isMap (wayLaw.key (wk_key (has_wf hm.n4 hx) (has_wf hm.n4 hy)))]
  · rw [if_neg e, Maps.atKey_put_other (wk_ne hm.n4 hx hy ha hc e)]
    exact h.at' a c ha hc
theorem CutsM.del {b : Nat} {m : NetM} {D : DataW Unit} (h : CutsM b m D w) (hm : Nok m) {x y : Int} (hx : m.has x = true) (hy : m.has y = true) : ∃ w' D', (∀ ty, (Builtin.delete_ #[68, 85] ty #[.map (some b), .agg #[.int .i64 x, .int .i64 y]]).run Tryd.prog w = .ok (.tuple #[]) w') ∧ CutsM b ⟨m.n, m.f, m.cut.set x.toNat ((m.cut.getD x.toNat []).set y.toNat false), m.lost⟩ D' w' ∧ w.grownBy w' (some b) := by
  have hkey := wk_key (has_wf hm.n4 hx) (has_wf hm.n4 hy)
  obtain ⟨w', hr, ho, hg⟩ := h.own.drop wayLaw Tryd.underlying68 hkey 0
  have ho2 : ∀ k, Maps.has (D.del (wk x y)) k = true → ∃ a b : Int, m.has a = true ∧ m.has b = true ∧ k = wk a b := fun k hk => by
    by_cases e : k = wk x y
    · rw [e, Maps.has_del_same] at hk; cases hk
    · exact h.only k (by rw [← Maps.has_del_other (D := D) e]; exact hk)
  refine ⟨w', _, fun ty => hr, ⟨few_keys hm.n4 ho ho2, fun a c ha hc => ?_, ho2⟩, hg.grown⟩
  have ha : m.has a = true := ha
  have hc : m.has c = true := hc
  rw [isCut_set hm hx hy ha hc]
  by_cases e : a = x ∧ c = y
  · rw [if_pos e, e.1, e.2, Maps.atKey_del_same]
  · rw [if_neg e, Maps.atKey_del_other (wk_ne hm.n4 hx hy ha hc e)]
    exact h.at' a c ha hc
/-- THE LANDED NET: its block, its letters, its ways' map -/
structure Nt (w0 : World) (q : Nat) (m : NetM) (v : Value) (ps : List LtP) (mb : Nat) (w : World) : Prop where
  row : w.heap[q]? = some (.cells #[.int .i64 m.n, v, .map (some mb), .int .i64 m.lost] 70 (0, 0))
  bq : w0.heap.size ≤ q
  own : w.ownsRow w0.heap.size 45 3 v m.f.length (pE.row ps)
  fs : ps.map (·.l) = m.f
  dat : ∀ p ∈ ps, DatP w0.heap.size p w
  cuts : ∃ D, CutsM mb m D w
  bm : w0.heap.size ≤ mb
def Ob (q : Nat) (v : Value) (ps : List LtP) (mb b : Nat) : Prop := b = q ∨ v.ownBlock = some b ∨ b = mb ∨ ∃ p ∈ ps, p.v.ownBlock = some b
theorem Nt.mem (h : Nt w0 q m v ps mb w) : ∀ b, Ob q v ps mb b → w0.heap.size ≤ b ∧ b < w.heap.size := by
  rintro b (rfl | hb | rfl | ⟨p, hp, hb⟩)
  · exact ⟨h.bq, old_of_row h.row⟩
  · exact h.own.lt b hb
  · exact ⟨h.bm, h.cuts.choose_spec.lt⟩
  · exact (h.dat p hp).lt b hb
theorem Nt.stay (h : Nt w0 q m v ps mb w) (hb : ∀ b, Ob q v ps mb b → w'.heap[b]? = w.heap[b]?) : Nt w0 q m v ps mb w' :=
  ⟨by rw [hb q (.inl rfl)]; exact h.row, h.bq, own_stayG h.own (fun b e => hb b (.inr (.inl e))), h.fs, fun p hp => own_stayG (h.dat p hp) (fun b e => hb b (.inr (.inr (.inr ⟨p, hp, e⟩)))), h.cuts.imp fun _ hD => hD.kept (hb mb (.inr (.inr (.inl rfl)))), h.bm⟩
theorem Nt.kp (h : Nt w0 q m v ps mb w) (hk : Kp w w') : Nt w0 q m v ps mb w' := h.stay fun b hb => Below.block hk b (h.mem b hb).2
theorem Nt.form (h : Nt w0 q m v ps mb w) : ∃ a cp, v = .slice a m.f.length cp := own_formG h.own
theorem Nt.plen (h : Nt w0 q m v ps mb w) : ps.length = m.f.length := by rw [← h.fs, List.length_map]
/-- no block is two of them -/
theorem Nt.ne (h : Nt w0 q m v ps mb w) : v.ownBlock ≠ some q ∧ q ≠ mb ∧ v.ownBlock ≠ some mb ∧ ∀ p ∈ ps, p.v.ownBlock ≠ some q ∧ p.v.ownBlock ≠ some mb ∧ ∀ b, v.ownBlock = some b → p.v.ownBlock ≠ some b := by
  have hv : ∀ b, v.ownBlock = some b → ∃ cs x, w.heap[b]? = some (.cells cs 45 x) := fun b hb => by
    rcases h.own.2 with ⟨rfl, _⟩ | ⟨g', cap, cur, rfl, _, hh, _⟩
    · cases hb
    · have e : g' = b := by injection hb
      subst e
      exact ⟨_, _, hh⟩
  have hd : ∀ p ∈ ps, ∀ b, p.v.ownBlock = some b → ∃ cs x, w.heap[b]? = some (.cells cs 5 x) := fun p hp b hb => by
    rcases (h.dat p hp).2 with ⟨e, _⟩ | ⟨g', cap, cur, e, _, hh, _⟩
    · rw [e] at hb; cases hb
    · rw [e] at hb
      have e : g' = b := by injection hb
      subst e
      exact ⟨_, _, hh⟩
  obtain ⟨D, ⟨es, clock, hm, _⟩, _⟩ := h.cuts
  have ty : ∀ {b : Nat} {c1 c2 : Array Value} {t1 t2 : TypeId} {x1 x2 : Nat × Nat}, w.heap[b]? = some (.cells c1 t1 x1) → w.heap[b]? = some (.cells c2 t2 x2) → t1 = t2 := fun h1 h2 => by
    rw [h1] at h2
    injection h2 with h2
    injection h2
  refine ⟨fun e => ?_, fun e => ?_, fun e => ?_, fun p hp => ⟨fun e => ?_, fun e => ?_, fun b e e2 => ?_⟩⟩
  · obtain ⟨_, _, h1⟩ := hv _ e
    exact absurd (ty h.row h1) (by decide)
  · have h1 := h.row
    rw [e, hm] at h1
    cases h1
  · obtain ⟨_, _, h1⟩ := hv _ e
    rw [hm] at h1
    cases h1
  · obtain ⟨_, _, h1⟩ := hd p hp _ e
    exact absurd (ty h.row h1) (by decide)
  · obtain ⟨_, _, h1⟩ := hd p hp _ e
    rw [hm] at h1
    cases h1
  · obtain ⟨_, _, h1⟩ := hv _ e
    obtain ⟨_, _, h2⟩ := hd p hp _ e2
    exact absurd (ty h1 h2) (by decide)
set_option maxRecDepth 100000 in
theorem ntHas_any (H : Nt w0 q m v ps mb w) (i : Int) : Calls Tryd.prog 33 #[.pointer (some ⟨q, 0, none⟩), .int .i64 i] w fun r w' => r = .returned (.bool (m.has i)) ∧ w = w' := by
  obtain ⟨n, hn⟩ : ∃ n : Int, (m.n : Int) = n := ⟨_, rfl⟩
  have e0 := cell_row (i := 0) H.row rfl
  unfold NetM.has
  rw [hn] at e0 ⊢
  clear H hn
  by_cases h0 : 0 ≤ i
  · have g1 : decide (0 ≤ i) = true := decide_eq_true h0
    rw [g1, Bool.true_and]
    clear h0
    go_enter Tryd.func33, Tryd.ntmps33
    go_wp2
    go_ret
    exact ⟨rfl, rfl⟩
  · have g1 : decide (0 ≤ i) = false := decide_eq_false h0
    rw [g1, Bool.false_and]
    clear h0
    go_enter Tryd.func33, Tryd.ntmps33
    go_wp2
    go_ret
    exact ⟨rfl, rfl⟩
set_option maxRecDepth 100000 in
theorem ntHolds_any (H : Nt w0 q m v ps mb w) (i : Int) : Calls Tryd.prog 36 #[.pointer (some ⟨q, 0, none⟩), .int .i64 i] w fun r w' => r = .returned (.bool (m.there i)) ∧ w = w' := by
  obtain ⟨a, cp, rfl⟩ := H.form
  have e0 := cell_row (i := 1) H.row rfl
  unfold NetM.there
  obtain ⟨k, hk⟩ : ∃ k, m.f.length = k := ⟨_, rfl⟩
  rw [hk] at e0 ⊢
  obtain ⟨n, hn⟩ : ∃ n : Int, (k : Int) = n := ⟨_, rfl⟩
  rw [hn]
  clear H hk
  by_cases h0 : 0 ≤ i
  · have g1 : decide (0 ≤ i) = true := decide_eq_true h0
    rw [g1, Bool.true_and]
    clear h0
    go_enter Tryd.func36, Tryd.ntmps36
    go_wp2
    go_ret
    exact ⟨rfl, rfl⟩
  · have g1 : decide (0 ≤ i) = false := decide_eq_false h0
    rw [g1, Bool.false_and]
    clear h0
    go_enter Tryd.func36, Tryd.ntmps36
    go_wp2
    go_ret
    exact ⟨rfl, rfl⟩
set_option maxRecDepth 100000 in
theorem ntRoom_any (H : Nt w0 q m v ps mb w) : Calls Tryd.prog 34 #[.pointer (some ⟨q, 0, none⟩)] w fun r w' => r = .returned (.bool (decide (m.f.length < 64))) ∧ w = w' := by
  obtain ⟨a, cp, rfl⟩ := H.form
  have e0 := cell_row (i := 1) H.row rfl
  obtain ⟨k, hk⟩ : ∃ k, m.f.length = k := ⟨_, rfl⟩
  rw [hk] at e0 ⊢
  obtain ⟨n, hn⟩ : ∃ n : Int, (k : Int) = n := ⟨_, rfl⟩
  clear H hk
  have e1 : decide (k < 64) = decide (n < 64) := by rw [← hn]; simp; omega
  rw [e1]
  clear e1
  go_enter Tryd.func34, Tryd.ntmps34
  go_wp2
  go_ret
  exact ⟨rfl, rfl⟩
set_option maxRecDepth 100000 in
theorem ntLen_any (H : Nt w0 q m v ps mb w) : Calls Tryd.prog 13 #[.pointer (some ⟨q, 0, none⟩)] w fun r w' => r = .returned (.int .i64 m.f.length) ∧ w = w' := by
  obtain ⟨a, cp, rfl⟩ := H.form
  have e0 := cell_row (i := 1) H.row rfl
  obtain ⟨k, hk⟩ : ∃ k, m.f.length = k := ⟨_, rfl⟩
  rw [hk] at e0 ⊢
  obtain ⟨n, hn⟩ : ∃ n : Int, (k : Int) = n := ⟨_, rfl⟩
  clear H hk
  rw [hn]
  go_enter Tryd.func13, Tryd.ntmps13
  go_wp2
  go_ret
  exact ⟨rfl, rfl⟩
set_option maxRecDepth 100000 in
theorem ntLost_any (H : Nt w0 q m v ps mb w) : Calls Tryd.prog 14 #[.pointer (some ⟨q, 0, none⟩)] w fun r w' => r = .returned (.int .i64 m.lost) ∧ w = w' := by
  have e0 := cell_row (i := 3) H.row rfl
  clear H
  go_enter Tryd.func14, Tryd.ntmps14
  go_wp2
  go_ret
  exact ⟨rfl, rfl⟩
end Go.Proofs.YtjffkfcokgcenaaDoor
