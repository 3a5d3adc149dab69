/-
  FieldsCut's PARTS (own work): rows one behind the other; a row's bytes cut short; append of fields.
-/
import Derived.Test.YtfealdllicicnaaDoorJoinX
import Derived.Laws.AppendOwnNone
namespace Go.Proofs.YtfealdllicicnaaDoor
open Go.RowKit Go.ChangeShapes Go.WideShapes

theorem joinB_append (a b : List (Int × List Int)) : joinB (a ++ b) = joinB a ++ joinB b := by unfold joinB; rw [List.flatMap_append]
theorem joinB_cons (g : Int × List Int) (t : List (Int × List Int)) : joinB (g :: t) = g.1 :: 0 :: (g.2.length : Int) :: (g.2 ++ joinB t) := by
  show fieldB g ++ joinB t = _
  simp [fieldB]

/-- A WRONG ROW's bytes are no row. -/
theorem splitQ_wrong : ∀ (f : Nat) (fs : List (Int × List Int)) (k : Nat) (last : Int), Small fs → k ≤ 16 → runQ k last fs = false → (splitQ f (joinB fs) last k).1 = 4
  | 0, _, _, _, _, _, _ => rfl
  | f + 1, [], _, _, _, _, h => by simp [runQ] at h
  | f + 1, (tag, d) :: t, k, last, hs, hk, h => by
    have hg := hs (tag, d) (by simp)
    simp only at hg
    rw [joinB_cons, splitQ]
    simp only
    have hgd : (tag :: 0 :: (d.length : Int) :: (d ++ joinB t)).getD 0 0 = tag ∧ (tag :: 0 :: (d.length : Int) :: (d ++ joinB t)).getD 1 0 = 0 ∧ (tag :: 0 :: (d.length : Int) :: (d ++ joinB t)).getD 2 0 = (d.length : Int) := ⟨rfl, rfl, rfl⟩
    rw [hgd.1, hgd.2.1, hgd.2.2, if_neg (by simp), if_neg (by simp)]
    by_cases hm : mayQ k last tag d.length
    · obtain ⟨h1, h2, h3, h4⟩ := hm
      have hm' : (0 * 256 + (d.length : Int)).toNat = d.length := by omega
      have hd : (tag :: 0 :: (d.length : Int) :: (d ++ joinB t)).drop (3 + d.length) = joinB t := by
        rw [← List.drop_drop]
        show (d ++ joinB t).drop d.length = _
        simp
      rw [runQ, decide_eq_true ⟨h1, h2, h3, h4⟩, Bool.true_and] at h
      rw [if_neg (by omega), if_neg (by simp; omega), hm', hd]
      exact splitQ_wrong f t (k + 1) tag (fun g hg => hs g (by simp [hg])) (by omega) h
    · rw [if_pos]
      rcases Nat.lt_or_ge k 16 with q | q
      · refine .inl ?_
        rcases Int.lt_or_le last tag with q2 | q2
        · exact absurd ⟨q, q2, hg.2.1, hg.2.2⟩ hm
        · exact q2
      · exact .inr (.inr (by omega))

def lastT : Int → List (Int × List Int) → Int
  | l, [] => l
  | _, g :: t => lastT g.1 t
theorem rightQ_append : ∀ (a b : List (Int × List Int)) (l : Int), rightQ l (a ++ b) = (rightQ l a && rightQ (lastT l a) b)
  | [], b, l => by simp [rightQ, lastT]
  | g :: t, b, l => by
    show (decide _ && rightQ g.1 (t ++ b)) = ((decide _ && rightQ g.1 t) && rightQ (lastT g.1 t) b)
    rw [rightQ_append t b g.1, Bool.and_assoc]
theorem lastT_at : ∀ (a : List (Int × List Int)) (l : Int) (h : 0 < a.length), lastT l a = (a[a.length - 1]'(by omega)).1
  | [g], _, _ => rfl
  | g :: g2 :: t, l, _ => by
    show lastT g.1 (g2 :: t) = _
    rw [lastT_at (g2 :: t) g.1 (by simp)]
    simp
/-- TWO RIGHT ROWS, one behind the other. -/
theorem run_two {a b : List (Int × List Int)} (ha : runQ 0 0 a = true) (hb : runQ 0 0 b = true) :
    runQ 0 0 (a ++ b) = decide ((a.length = 0 ∨ b.length = 0 ∨ lastT 0 a < (b.map Prod.fst).headD 0) ∧ a.length + b.length ≤ 16) := by
  rw [runQ_right _ 0 0 (by omega) (by omega)] at ha hb ⊢
  simp only [Bool.and_eq_true, decide_eq_true_eq, Nat.zero_add] at ha hb ⊢
  rw [rightQ_append, ha.2, Bool.true_and, List.length_append, Bool.decide_and, Bool.and_comm]
  congr 1
  match b, hb with
  | [], _ => simp [rightQ]
  | g :: t, hb =>
    have h2 := hb.2
    rw [rightQ, Bool.and_eq_true, decide_eq_true_eq] at h2
    rw [rightQ, h2.2, Bool.and_true]
    match a, ha with
    | [], _ =>
      rw [decide_eq_true (show 1 ≤ g.1 ∧ g.1 ≤ 255 ∧ g.2.length ≤ 200 ∧ lastT 0 [] < g.1 from ⟨h2.1.1, h2.1.2.1, h2.1.2.2.1, by show (0 : Int) < g.1; omega⟩), decide_eq_true (.inl rfl)]
    | g2 :: t2, _ =>
      rw [Bool.eq_iff_iff]
      simp only [decide_eq_true_eq]
      constructor
      · rintro ⟨_, _, _, h⟩
        exact .inr (.inr h)
      · rintro (h | h | h)
        · simp at h
        · simp at h
        · exact ⟨h2.1.1, h2.1.2.1, h2.1.2.2.1, h⟩

/-- A BEGINNING of a row's bytes that is a row is a beginning of the row. -/
theorem join_prefix : ∀ (gs fs : List (Int × List Int)) (r : List Int), joinB gs ++ r = joinB fs → ∃ t, fs = gs ++ t
  | [], fs, _, _ => ⟨fs, rfl⟩
  | g :: gs, [], r, h => by
    rw [joinB_cons] at h
    simp [joinB] at h
  | g :: gs, f :: fs, r, h => by
    obtain ⟨g1, g2⟩ := g
    obtain ⟨f1, f2⟩ := f
    rw [joinB_cons, joinB_cons] at h
    simp only [List.cons_append, List.cons.injEq, true_and] at h
    obtain ⟨h1, h2, h3⟩ := h
    have hl : g2.length = f2.length := by omega
    rw [List.append_assoc] at h3
    obtain ⟨h4, h5⟩ := List.append_inj h3 hl
    obtain ⟨t, ht⟩ := join_prefix gs fs r h5
    exact ⟨t, by rw [h1, h4, ht]; rfl⟩

/-- A ROW's BYTES CUT SHORT aren't the row's. -/
theorem cut_short {fs : List (Int × List Int)} (hb : InB (joinB fs)) (m : Nat) (hm : m < (joinB fs).length) (h0 : (splitQ 17 ((joinB fs).take m) 0 0).1 = 0) : (splitQ 17 ((joinB fs).take m) 0 0).2.length < fs.length := by
  have hk := (splitQ_back 17 ((joinB fs).take m) 0 0 (fun x hx => hb x (List.mem_of_mem_take hx)) (by omega) h0).2
  obtain ⟨t, ht⟩ := join_prefix _ fs ((joinB fs).drop m) (by rw [hk, List.take_append_drop])
  have hl := congrArg List.length ht
  rw [List.length_append] at hl
  rcases Nat.eq_zero_or_pos t.length with h | h
  · have : t = [] := List.length_eq_zero_iff.1 h
    subst this
    rw [List.append_nil] at ht
    rw [← ht] at hk
    have := congrArg List.length hk
    rw [List.length_take] at this
    omega
  · omega

/-- THE CELLS of a slice of fields. -/
theorem slq_cells {a : Option Addr} {n c : Nat} {fs : List (Int × List Int)} {w : World} (h : SlQ (.slice a n c) fs w) :
    ∃ gs : List (Int × List Int × Value), gs.map fldQ = fs ∧ (∀ g ∈ gs, DatB g.2.2 g.2.1 w) ∧ (a = none → n = 0 ∧ c = 0) ∧ ∀ ad, a = some ad → ∀ j u, (gs.flatMap cellQ)[j]? = some u → w.cell? (ad.add j) = some u := by
  rcases h with ⟨rfl, a', c', hv, hn⟩ | ⟨b, off, c', h0, hv, hc⟩
  · injection hv with h1 h2 h3
    subst h1 h2 h3
    exact ⟨[], rfl, (fun g hg => by cases hg), (fun h => ⟨rfl, hn h⟩), fun ad _ j u hj => by simp at hj⟩
  · injection hv with h1 h2 h3
    subst h1
    have hd : ∀ j, ∃ d, (hj : j < fs.length) → w.cell? ⟨b, off + j * 2 + 1, none⟩ = some d ∧ DatB d fs[j].2 w := by
      intro j
      by_cases hj : j < fs.length
      · obtain ⟨_, d, h2, h3⟩ := hc j hj
        exact ⟨d, fun _ => ⟨h2, h3⟩⟩
      · exact ⟨.nilIface, fun h => absurd h hj⟩
    let D : Nat → Value := fun j => (hd j).choose
    have hD : ∀ j (hj : j < fs.length), w.cell? ⟨b, off + j * 2 + 1, none⟩ = some (D j) ∧ DatB (D j) fs[j].2 w := fun j hj => (hd j).choose_spec hj
    let gs : List (Int × List Int × Value) := (List.range fs.length).pmap (fun j (hj : j < fs.length) => (fs[j].1, fs[j].2, D j)) (fun j hj => List.mem_range.1 hj)
    have hgl : gs.length = fs.length := by simp [gs]
    have hgi : ∀ j (hj : j < gs.length), gs[j] = ((fs[j]'(by omega)).1, (fs[j]'(by omega)).2, D j) := by
      intro j hj
      simp [gs]
    refine ⟨gs, ?_, ?_, (fun h => by cases h), ?_⟩
    · refine List.ext_getElem (by simp [hgl]) fun j h1 h2 => ?_
      have hj : j < gs.length := by simpa using h1
      rw [List.getElem_map, hgi j hj]
      rfl
    · intro g hg
      obtain ⟨j, hj, rfl⟩ := List.getElem_of_mem hg
      rw [hgi j hj]
      exact (hD j (by omega)).2
    · intro ad had j u hj
      injection had with had
      subst had
      rw [add_plain]
      have hjl : j < gs.length * 2 := by
        rcases Nat.lt_or_ge j (gs.length * 2) with q | q
        · exact q
        · rw [List.getElem?_eq_none (by rw [cellQ_len]; exact q)] at hj; cases hj
      have hi : j / 2 < gs.length := by omega
      obtain ⟨q0, q1⟩ := cellQ_at gs (j / 2) hi
      rcases Nat.mod_two_eq_zero_or_one j with e | e
      · have ej : 2 * (j / 2) = j := by omega
        rw [ej, hj, hgi _ hi] at q0
        rw [Option.some.inj q0]
        have := (hc (j / 2) (by omega)).1
        rw [show off + j / 2 * 2 = off + j by omega] at this
        exact this
      · have ej : 2 * (j / 2) + 1 = j := by omega
        rw [ej, hj, hgi _ hi] at q1
        rw [Option.some.inj q1]
        have := (hD (j / 2) (by omega)).1
        rw [show off + j / 2 * 2 + 1 = off + j by omega] at this
        exact this

theorem own_slqD {base n : Nat} {gs : List (Int × List Int × Value)} {w : World} {v : Value} (hn : gs.length = n) (h : w.ownsRow base 63 2 v n (gs.flatMap cellQ)) (hd : ∀ g ∈ gs, DatB g.2.2 g.2.1 w) : SlQ v (gs.map fldQ) w := by
  subst hn
  obtain ⟨h1, h2⟩ := h
  rcases h2 with ⟨rfl, hn⟩ | ⟨g, cap, cur, rfl, hg, hh, hc, hm, hs, ht⟩
  · left
    have : gs = [] := List.length_eq_zero_iff.1 (by omega)
    subst this
    exact ⟨rfl, none, 0, rfl, fun _ => rfl⟩
  · by_cases h0 : gs.length = 0
    · left
      have : gs = [] := List.length_eq_zero_iff.1 h0
      subst this
      exact ⟨rfl, _, cap, rfl, fun h => by cases h⟩
    · right
      refine ⟨g, 0, cap, by simp; omega, by simp, fun j hj => ?_⟩
      have hj' : j < gs.length := by simpa using hj
      obtain ⟨q0, q1⟩ := cellQ_at gs j hj'
      rw [← ht] at q0 q1
      rw [List.getElem?_take, if_pos (by omega)] at q0 q1
      refine ⟨?_, gs[j].2.2, ?_, ?_⟩
      · unfold World.cell?
        dsimp only
        rw [hh]
        simp only [Option.isSome_none, Bool.false_eq_true, if_false, Nat.zero_add, Nat.mul_comm j 2]
        simpa [fldQ] using q0
      · unfold World.cell?
        dsimp only
        rw [hh]
        simp only [Option.isSome_none, Bool.false_eq_true, if_false, Nat.zero_add, Nat.mul_comm j 2]
        simpa using q1
      · simpa [fldQ] using hd gs[j] (List.getElem_mem _)

set_option maxRecDepth 20000 in
theorem wpList_append_slq (w : World) {ops : Array Oper} {rest : List Oper} {o : Oper} {a : Act} {Q : Exit → Act → World → Prop} (hgd : Region.wanted o (yielded ops a.tmps) = true) (s x : Operand)
    (ho : o.op = .call { callee := .builtin .append, args := #[s, x], argTypes := #[22, 22] })
    (base : Nat) (v : Value) (n : Nat) (xs : List Value) (hs : a.eval s = v) (hown : w.ownsRow base 63 2 v n xs)
    (ao : Option Addr) (m c : Nat) (gs : List (Int × List Int × Value)) (hx : a.eval x = .slice ao m c) (hgl : gs.length = m) (hgd2 : ∀ g ∈ gs, ∃ a' n' c', g.2.2 = .slice a' n' c') (hno : ao = none → m = 0 ∧ c = 0) (hc : ∀ ad, ao = some ad → ∀ j u, (gs.flatMap cellQ)[j]? = some u → w.cell? (ad.add j) = some u)
    (h63 : n + m ≤ 100000) (hbase : base ≤ w.heap.size)
    (h : ∀ v' w', w'.ownsRow base 63 2 v' (n + m) (xs ++ gs.flatMap cellQ) → w.grownBy w' v.ownBlock → wpList Tryd.prog ops Q rest (a.put o.dst v') w') : wpList Tryd.prog ops Q (o :: rest) a w := by
  obtain ⟨i0, hi, hz0, hz1, hz2⟩ := info_parts info_fieldT
  refine wpList_step fun K hK => ?_
  rw [if_pos hgd]
  cases ao with
  | none =>
    obtain ⟨rfl, rfl⟩ := hno rfl
    have hgs : gs = [] := List.length_eq_zero_iff.1 hgl
    subst hgs
    have hrun := run_append_owned_none (P := Tryd.prog) (w := w) base 22 o.type 63 i0 2 Tryd.underlying22 hi v n xs hown
    unfold Oper.wp
    simp [execOp, ho, resolve, invoke, builtin, hs, hx, hrun, Result.andThen]
    exact hK _ _ (h v w (by simpa using hown) ⟨rfl, rfl, rfl, Nat.le_refl _, fun _ _ _ => rfl⟩)
  | some ad =>
    refine wp_append_own w s x 22 ho base 63 i0 (.agg #[.int .i64 0, .slice none 0 0]) 2 32 Tryd.underlying22 hi hz0 hz1 hz2 rfl (by decide) v n xs hs hown ad m c (gs.flatMap cellQ) hx (by rw [cellQ_len, hgl]) (hc ad rfl) ?_ (by unfold maxLen; omega) (by omega) hbase fun v' w' h2 h3 _ => hK _ _ (h v' w' h2 h3)
    intro u hu
    obtain ⟨g, hg, hu⟩ := List.mem_flatMap.1 hu
    obtain ⟨a', n', c', e⟩ := hgd2 g hg
    unfold cellQ at hu
    simp only [List.mem_cons, List.not_mem_nil, or_false] at hu
    rcases hu with rfl | rfl
    · rfl
    · rw [e]; rfl
end Go.Proofs.YtfealdllicicnaaDoor
