/-
  WHAT HOLDS OF A PAIR, WHATEVER IS DONE, LOST, COPIED OR TURNED (own work): pure.
-/
import Derived.Test.YtghjnhdepeiloaaDoorMovM
namespace Go.Proofs.YtghjnhdepeiloaaDoor
open Go.RowKit

/-- m HAS COME TO r -/
structure Rep (p : Int) (r : RS) (m : PairM) : Prop where
  mem : r ∈ reach p
  c : m.c = r.seat p 1
  x : m.x = r.seat p 2
  f : ∀ q ∈ m.f, q ∈ r.h

/-- what an effect y at the side e leads to -/
structure Led (p : Int) (r : RS) (e : Int) (y : EffM) (dl : Bool) (r' : RS) : Prop where
  mem : r' ∈ reach p
  c : r'.seat p 1 = if e = 1 then y.z else r.seat p 1
  x : r'.seat p 2 = if e = 1 then r.seat p 2 else y.z
  h : ∀ q ∈ r.h, q ∈ r'.h
  send : y.send ≠ 0 → (3 - e, y.send) ∈ r'.h
  w : ∀ k ∈ [2, 9, 10, 11], (k ∈ r'.w ↔ k ∈ r.w ∨ (dl = true ∧ e = 2 ∧ y.work = k))
  d : r'.d = true ↔ (r.d = true ∨ (r'.seat p 2).s = 5)
  fair : dl = true → e = 2 → y.work ≠ 0 → y.work ∈ [2, 9, 10, 11] ∧ y.work ∉ r.w ∧ (y.work = 9 ∨ y.work = 11 → r.d = true)

theorem led_of {p e : Int} {r : RS} {y : EffM} {dl : Bool} (he : e = 1 ∨ e = 2) (h : r.ok p e y dl = true) : ∃ r', Led p r e y dl r' := by
  unfold RS.ok at h
  simp only [Bool.and_eq_true, List.any_eq_true, decide_eq_true_eq] at h
  obtain ⟨⟨⟨⟨hp, hz⟩, -⟩, hf⟩, r', hm, hg⟩ := h
  unfold RS.goes at hg
  simp only [Bool.and_eq_true, decide_eq_true_eq, List.all_eq_true, Bool.or_eq_true, List.contains_iff_mem] at hg
  obtain ⟨⟨⟨⟨⟨g1, g2⟩, g3⟩, g4⟩, g5⟩, g6⟩ := hg
  have hx : (r'.seat p 2).s = (if e = 1 then r.x else (y.z.s, y.z.h)).1 := by rw [← g2]; rfl
  refine ⟨r', hm, ?_, ?_, g3, fun q => g4.resolve_left q, ?_, ?_, ?_⟩
  · rcases he with rfl | rfl
    · simp [RS.seat, g1, ← hp]; cases hy : y.z; simp_all
    · simp [RS.seat, g1]
  · rcases he with rfl | rfl
    · simp [RS.seat, g2]
    · simp [RS.seat, g2, ← hp]; cases hy : y.z; simp_all
  · intro k hk
    have := g5 k hk
    rw [Bool.eq_iff_iff] at this
    simpa [List.contains_iff_mem, and_assoc] using this
  · rw [hx, g6]; simp
  · intro hd h2 hw
    unfold RS.fair at hf
    simp [hd, h2, hw] at hf
    refine ⟨by simpa using hf.1.1, hf.1.2, fun q => ?_⟩
    rcases hf.2 with g | g
    · omega
    · exact g
theorem act_kind {z : SeatM} {k : Int} (h : (z.act k).1 = 0) : k ∈ allT := by
  unfold SeatM.act at h
  by_cases h1 : z.right = false
  · rw [if_pos h1] at h; cases h
  · rw [if_neg h1] at h
    by_cases h2 : (stepT z.p z.e k z.s).1 ≠ 0
    · rw [if_pos h2] at h; exact absurd h h2
    · have h3 : (stepT z.p z.e k z.s).1 = 0 := Decidable.not_not.1 h2
      unfold stepT at h3
      by_cases g1 : rightT z.p z.e = false
      · rw [if_pos g1] at h3; cases h3
      · rw [if_neg g1] at h3
        by_cases g2 : sendsT z.p z.e k = false
        · rw [if_pos g2] at h3; cases h3
        · have g3 : sendsT z.p z.e k = true := by simpa using g2
          unfold sendsT upT downT at g3
          unfold allT
          simp only [List.mem_cons, List.not_mem_nil, or_false]
          split at g3 <;> simp only [decide_eq_true_eq] at g3 <;> omega
theorem seat_e {p e : Int} {r : RS} {m : PairM} (R : Rep p r m) (he : e = 1 ∨ e = 2) : m.seat e = r.seat p e := by
  rcases he with rfl | rfl
  · exact R.c
  · exact R.x
theorem closed_e {p e : Int} (hp : p = 1 ∨ p = 2) {r : RS} (hr : r ∈ reach p) (he : e = 1 ∨ e = 2) :
    (r.seat p e).right = true ∧ (∀ k ∈ allT, ((r.seat p e).act k).1 = 0 → r.ok p e ((r.seat p e).act k).2 false = true) ∧ ((r.seat p e).waits ≠ 0 → r.ok p e ⟨r.seat p e, (r.seat p e).waits, 0, 0, false⟩ false = true) := by
  have h := reach_closed hp r hr
  unfold RS.closed at h
  simp only [Bool.and_eq_true, List.all_eq_true, Bool.or_eq_true, decide_eq_true_eq] at h
  obtain ⟨⟨h1, h2⟩, h3⟩ := h.1 e (by rcases he with rfl | rfl <;> simp)
  exact ⟨h1, fun k hk q => (h2 k hk).resolve_left (fun g => g q), fun q => h3.resolve_left q⟩
theorem closed_q {p : Int} (hp : p = 1 ∨ p = 2) {r : RS} (hr : r ∈ reach p) {q : Int × Int} (hq : q ∈ r.h) :
    (q.1 = 1 ∨ q.1 = 2) ∧ ((r.seat p q.1).tell q.2).1 = 0 ∧ r.ok p q.1 ((r.seat p q.1).tell q.2).2 true = true := by
  have h := reach_closed hp r hr
  unfold RS.closed at h
  simp only [Bool.and_eq_true, List.all_eq_true, Bool.or_eq_true, decide_eq_true_eq] at h
  obtain ⟨⟨h1, h2⟩, h3⟩ := h.2 q hq
  exact ⟨h1, h2, h3⟩
theorem mem_putF {f : List (Int × Int)} {e k : Int} {q : Int × Int} (h : q ∈ putF f e k) : q ∈ f ∨ (k ≠ 0 ∧ q = (3 - e, k)) := by
  unfold putF at h
  split at h
  · exact .inl h
  · rcases List.mem_append.1 h with g | g
    · exact .inl g
    · exact .inr ⟨by assumption, by simpa using g⟩
/-- a pair behind an effect -/
theorem rep_led {p e : Int} {r r' : RS} {m : PairM} {y : EffM} {dl : Bool} (R : Rep p r m) (he : e = 1 ∨ e = 2) (L : Led p r e y dl r') {f : List (Int × Int)} (hf : ∀ q ∈ f, q ∈ m.f) :
    Rep p r' ⟨(m.set e y.z).c, (m.set e y.z).x, putF f e y.send⟩ := by
  refine ⟨L.mem, ?_, ?_, ?_⟩
  · rw [L.c]
    rcases he with rfl | rfl
    · rfl
    · exact R.c
  · rw [L.x]
    rcases he with rfl | rfl
    · exact R.x
    · rfl
  · intro q hq
    rcases mem_putF hq with g | ⟨g1, g2⟩
    · exact L.h q (R.f q (hf q g))
    · subst g2; exact L.send g1
theorem rep_new {p : Int} (hp : p = 1 ∨ p = 2) : Rep p ⟨(1, 0), (1, 0), [], [], false⟩ (PairM.new p) := ⟨reach_start hp, rfl, rfl, fun q h => by cases h⟩
theorem reach_d1 : (reach 1).all (fun r => !decide (r.x.1 = 5) || r.d) = true := by decide +kernel
theorem reach_d2 : (reach 2).all (fun r => !decide (r.x.1 = 5) || r.d) = true := by decide +kernel
theorem reach_d {p : Int} (hp : p = 1 ∨ p = 2) {r : RS} (hr : r ∈ reach p) (h : r.x.1 = 5) : r.d = true := by
  have g : (!decide (r.x.1 = 5) || r.d) = true := by
    rcases hp with rfl | rfl
    · exact List.all_eq_true.1 reach_d1 r hr
    · exact List.all_eq_true.1 reach_d2 r hr
  simpa [h] using g
/-- WHAT A MOVE KEEPS: the works told of, and whether the participant was completed -/
structure Kept (p : Int) (r r' : RS) (m : PairM) (wk : Int) : Prop where
  rep : Rep p r' m
  w : ∀ k ∈ [2, 9, 10, 11], (k ∈ r'.w ↔ k ∈ r.w ∨ (wk ≠ 0 ∧ wk = k))
  d : r'.d = true ↔ r.d = true ∨ m.x.s = 5
  fair : wk ≠ 0 → wk ∈ [2, 9, 10, 11] ∧ wk ∉ r.w ∧ (wk = 9 ∨ wk = 11 → r.d = true)
theorem kept_same {p : Int} (hp : p = 1 ∨ p = 2) {r : RS} {m m' : PairM} (R : Rep p r m) (hc : m'.c = m.c) (hx : m'.x = m.x) (hf : ∀ q ∈ m'.f, q ∈ m.f) : Kept p r r m' 0 :=
  ⟨⟨R.mem, hc.trans R.c, hx.trans R.x, fun q h => R.f q (hf q h)⟩, fun k _ => by simp, by
    rw [hx, R.x]
    exact ⟨.inl, fun h => h.elim id fun g => reach_d hp R.mem g⟩, fun h => absurd rfl h⟩
theorem kept_led {p e : Int} {r r' : RS} {m : PairM} {y : EffM} {dl : Bool} (R : Rep p r m) (he : e = 1 ∨ e = 2) (L : Led p r e y dl r') {f : List (Int × Int)} (hf : ∀ q ∈ f, q ∈ m.f)
    (wk : Int) (hw : wk = if dl = true ∧ e = 2 then y.work else 0) : Kept p r r' ⟨(m.set e y.z).c, (m.set e y.z).x, putF f e y.send⟩ wk := by
  have R' := rep_led R he L hf
  refine ⟨R', fun k hk => ?_, ?_, fun h => ?_⟩
  · rw [L.w k hk, hw]
    have hk0 : k ≠ 0 := by rintro rfl; simp at hk
    by_cases g : dl = true ∧ e = 2
    · rw [if_pos g]
      constructor
      · rintro (h | ⟨-, -, h⟩)
        · exact .inl h
        · exact .inr ⟨by rw [h]; exact hk0, h⟩
      · rintro (h | ⟨-, h⟩)
        · exact .inl h
        · exact .inr ⟨g.1, g.2, h⟩
    · rw [if_neg g]
      constructor
      · rintro (h | ⟨h1, h2, -⟩)
        · exact .inl h
        · exact absurd ⟨h1, h2⟩ g
      · rintro (h | ⟨h, -⟩)
        · exact .inl h
        · exact absurd rfl h
  · rw [L.d, R'.x]
  · rw [hw] at h ⊢
    by_cases g : dl = true ∧ e = 2
    · rw [if_pos g] at h ⊢
      exact L.fair g.1 g.2 h
    · rw [if_neg g] at h
      exact absurd rfl h
theorem rep_act {p : Int} (hp : p = 1 ∨ p = 2) {r : RS} {m : PairM} (R : Rep p r m) (e k : Int) : ∃ r', Kept p r r' (m.act e k).2 0 := by
  unfold PairM.act
  by_cases h1 : e ≠ 1 ∧ e ≠ 2
  · rw [if_pos h1]; exact ⟨r, kept_same hp R rfl rfl fun q h => h⟩
  rw [if_neg h1]
  by_cases h2 : 63 < m.f.length
  · rw [if_pos h2]; exact ⟨r, kept_same hp R rfl rfl fun q h => h⟩
  rw [if_neg h2]
  by_cases h3 : ((m.seat e).act k).1 ≠ 0
  · rw [if_pos h3]; exact ⟨r, kept_same hp R rfl rfl fun q h => h⟩
  rw [if_neg h3]
  have he : e = 1 ∨ e = 2 := by omega
  have h4 : ((m.seat e).act k).1 = 0 := Decidable.not_not.1 h3
  rw [seat_e R he] at h4 ⊢
  obtain ⟨r', L⟩ := led_of he ((closed_e hp R.mem he).2.1 k (act_kind h4) h4)
  exact ⟨r', kept_led R he L (fun q h => h) 0 (by simp)⟩
theorem rep_again {p : Int} (hp : p = 1 ∨ p = 2) {r : RS} {m : PairM} (R : Rep p r m) (e : Int) : ∃ r', Kept p r r' (m.again e).2 0 := by
  unfold PairM.again
  by_cases h1 : (e ≠ 1 ∧ e ≠ 2) ∨ 63 < m.f.length
  · rw [if_pos h1]; exact ⟨r, kept_same hp R rfl rfl fun q h => h⟩
  rw [if_neg h1]
  have he : e = 1 ∨ e = 2 := by omega
  by_cases h2 : (m.seat e).waits = 0
  · refine ⟨r, kept_same hp R rfl rfl fun q h => ?_⟩
    rw [h2] at h
    simpa [putF] using h
  · rw [seat_e R he] at h2 ⊢
    obtain ⟨r', L⟩ := led_of he ((closed_e hp R.mem he).2.2 h2)
    have K := kept_led R he L (fun q h => h) 0 (by simp)
    have hs : m.set e (r.seat p e) = m := by
      rcases he with rfl | rfl
      · simp [PairM.set, ← R.c]
      · simp [PairM.set, ← R.x]
    dsimp only at K
    rw [hs] at K
    exact ⟨r', K⟩
theorem mem_cut {f : List (Int × Int)} {i : Nat} {q : Int × Int} (h : q ∈ f.take i ++ f.drop (i + 1)) : q ∈ f := by
  rcases List.mem_append.1 h with g | g
  · exact List.mem_of_mem_take g
  · exact List.mem_of_mem_drop g
theorem rep_drop {p : Int} (hp : p = 1 ∨ p = 2) {r : RS} {m : PairM} (R : Rep p r m) (i : Int) : Kept p r r (m.drop i).2 0 := by
  unfold PairM.drop
  by_cases h1 : i < 0 ∨ m.f.length ≤ i
  · rw [if_pos h1]; exact kept_same hp R rfl rfl fun q h => h
  · rw [if_neg h1]; exact kept_same hp R rfl rfl fun q h => mem_cut h
/-- the work that an application is told of -/
def EffM.told (y : EffM) : Int := if y.z.e = 2 then y.work else 0
theorem rep_deliver {p : Int} (hp : p = 1 ∨ p = 2) {r : RS} {m : PairM} (R : Rep p r m) (i : Int) (copies : Bool) : ∃ r', Kept p r r' (m.deliver i copies).2 (m.deliver i copies).1.2.told := by
  unfold PairM.deliver
  by_cases h1 : i < 0 ∨ m.f.length ≤ i
  · rw [if_pos h1]; exact ⟨r, kept_same hp R rfl rfl fun q h => h⟩
  rw [if_neg h1]
  by_cases h2 : copies = true ∧ 63 < m.f.length
  · rw [if_pos h2]; exact ⟨r, kept_same hp R rfl rfl fun q h => h⟩
  rw [if_neg h2]
  have hlt : i.toNat < m.f.length := by omega
  have hq : m.f.getD i.toNat (0, 0) ∈ m.f := by
    have : m.f.getD i.toNat (0, 0) = m.f[i.toNat] := by simp [List.getD, hlt]
    rw [this]; exact List.getElem_mem hlt
  obtain ⟨q, hqq⟩ : ∃ q, m.f.getD i.toNat (0, 0) = q := ⟨_, rfl⟩
  rw [hqq] at hq ⊢
  obtain ⟨he, h0, hok⟩ := closed_q hp R.mem (R.f q hq)
  rw [seat_e R he, if_neg (fun g => g h0)]
  obtain ⟨r', L⟩ := led_of he hok
  have hye : ((r.seat p q.1).tell q.2).2.z.e = q.1 := by
    have h := hok
    unfold RS.ok at h
    simp only [Bool.and_eq_true, decide_eq_true_eq] at h
    exact h.1.1.1.2
  refine ⟨r', kept_led R he L (fun q' h => ?_) _ ?_⟩
  · split at h
    · exact h
    · exact mem_cut h
  · unfold EffM.told
    rw [hye]
    simp
theorem rep_safe {p : Int} (hp : p = 1 ∨ p = 2) {r : RS} {m : PairM} (R : Rep p r m) :
    (m.c.s = 14 → onM (m.x.s, m.x.h) m.c.h = true) ∧ (m.x.s = 14 → onM (m.c.s, m.c.h) m.x.h = true) ∧ (m.c.s = 5 ∨ m.c.s = 6 ∨ m.c.s = 7 → m.x.s = 5 ∨ m.x.s = 6 ∨ m.x.s = 7 ∨ m.x.s = 11 ∨ m.x.s = 14) ∧ ¬ (9 ∈ r.w ∧ 11 ∈ r.w) := by
  have h := reach_safe hp r R.mem
  unfold RS.safe at h
  rw [R.c, R.x]
  simp only [Bool.and_eq_true, Bool.or_eq_true, Bool.not_eq_true', decide_eq_true_eq, decide_eq_false_iff_not] at h
  obtain ⟨⟨⟨h1, h2⟩, h3⟩, h4⟩ := h
  refine ⟨fun g => h1.resolve_left fun q => q g, fun g => h2.resolve_left fun q => q g, fun g => h3.resolve_left fun q => q g, fun g => ?_⟩
  simp [g.1, g.2] at h4
end Go.Proofs.YtghjnhdepeiloaaDoor
