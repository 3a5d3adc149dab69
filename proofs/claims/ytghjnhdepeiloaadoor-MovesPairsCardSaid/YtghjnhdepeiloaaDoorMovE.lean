/-
  A PAIR IS DRAINED, AND ENDS (own work): pure.
-/
import Derived.Test.YtghjnhdepeiloaaDoorMovI
namespace Go.Proofs.YtghjnhdepeiloaaDoor
open Go.RowKit

/-- how often a seat can still change -/
def rankM (z : SeatM) : Nat := rankE z.e z.s where
  rankE (e s : Int) : Nat := if e = 1 then (if s = 1 then 5 else if s = 2 then 3 else if s = 3 then 3 else if s = 4 then 4 else if s = 5 then 2 else if s = 6 then 1 else if s = 7 then 1 else if s = 8 then 1 else if s = 9 then 1 else if s = 10 then 1 else if s = 11 then 1 else if s = 12 then 1 else if s = 13 then 1 else 0) else (if s = 1 then 5 else if s = 2 then 2 else if s = 4 then 4 else if s = 5 then 3 else if s = 6 then 1 else if s = 7 then 2 else if s = 8 then 1 else if s = 9 then 1 else if s = 10 then 1 else if s = 11 then 1 else if s = 12 then 1 else if s = 13 then 1 else 0)
/-- how many deliveries a kind on its way brings, while no seat changes -/
def chainM : Nat → SeatM → SeatM → Int × Int → Nat
  | 0, _, _, _ => 0
  | n + 1, c, x, q => if ((if q.1 = 1 then c else x).tell q.2).2.changed = true ∨ ((if q.1 = 1 then c else x).tell q.2).2.send = 0 then 1 else 1 + chainM n c x (3 - q.1, ((if q.1 = 1 then c else x).tell q.2).2.send)
def RS.falls (p : Int) (r : RS) : Bool :=
  r.h.all fun q => if ((r.seat p q.1).tell q.2).2.changed = true then decide (rankM ((r.seat p q.1).tell q.2).2.z < rankM (r.seat p q.1))
    else decide (((r.seat p q.1).tell q.2).2.z = r.seat p q.1) && (decide (((r.seat p q.1).tell q.2).2.send = 0) || decide (chainM 6 (r.seat p 1) (r.seat p 2) (3 - q.1, ((r.seat p q.1).tell q.2).2.send) < chainM 6 (r.seat p 1) (r.seat p 2) q))
theorem reach_falls1 : (reach 1).all (RS.falls 1) = true := by decide +kernel
theorem reach_falls2 : (reach 2).all (RS.falls 2) = true := by decide +kernel
def PairM.next (m : PairM) : PairM := (m.deliver 0 false).2
def drainM : Nat → PairM → PairM
  | 0, m => m
  | n + 1, m => if m.f.isEmpty then m else drainM n m.next
def PairM.works (m : PairM) : PairM := if m.x.work = 2 then (m.act 2 3).2 else if m.x.work = 9 then (m.act 2 7).2 else if m.x.work = 10 then (m.act 2 6).2 else if m.x.work = 11 then (m.act 2 8).2 else m
def PairM.decides (m : PairM) (closes : Bool) : PairM := if (m.act 1 (if closes then 9 else 11)).1 ≠ 0 then (m.act 1 10).2 else (m.act 1 (if closes then 9 else 11)).2
/-- what an application, a coordinator and both seats do in a round -/
def actsM (closes : Bool) (m : PairM) : PairM := ((((m.works).decides closes).again 1).2.again 2).2
def pairOf (p : Int) (r : RS) : PairM := ⟨r.seat p 1, r.seat p 2, []⟩
def PairM.over (m : PairM) : Bool := decide (m.c.s = 14) && decide (m.x.s = 14) && decide (m.c.h = m.x.h)
def roundsM (closes : Bool) : Nat → PairM → PairM
  | 0, m => m
  | n + 1, m => roundsM closes n (actsM closes (drainM 20000 m))
def RS.ends (p : Int) (r : RS) : Bool := [true, false].all fun closes => (roundsM closes 6 (pairOf p r)).over
theorem reach_ends1 : (reach 1).all (RS.ends 1) = true := by decide +kernel
theorem reach_ends2 : (reach 2).all (RS.ends 2) = true := by decide +kernel
theorem reach_falls {p : Int} (hp : p = 1 ∨ p = 2) {r : RS} (hr : r ∈ reach p) : ∀ q ∈ r.h, (((r.seat p q.1).tell q.2).2.changed = true ∧ rankM ((r.seat p q.1).tell q.2).2.z < rankM (r.seat p q.1)) ∨
    (((r.seat p q.1).tell q.2).2.z = r.seat p q.1 ∧ (((r.seat p q.1).tell q.2).2.send = 0 ∨ chainM 6 (r.seat p 1) (r.seat p 2) (3 - q.1, ((r.seat p q.1).tell q.2).2.send) < chainM 6 (r.seat p 1) (r.seat p 2) q)) := by
  intro q hq
  have h : r.falls p = true := by
    rcases hp with rfl | rfl
    · exact List.all_eq_true.1 reach_falls1 r hr
    · exact List.all_eq_true.1 reach_falls2 r hr
  have g := List.all_eq_true.1 h q hq
  by_cases hc : ((r.seat p q.1).tell q.2).2.changed = true
  · rw [if_pos hc] at g
    exact .inl ⟨hc, by simpa using g⟩
  · rw [if_neg hc] at g
    exact .inr (by simpa using g)
theorem reach_ends {p : Int} (hp : p = 1 ∨ p = 2) {r : RS} (hr : r ∈ reach p) (closes : Bool) : (roundsM closes 6 (pairOf p r)).over = true := by
  have h : r.ends p = true := by
    rcases hp with rfl | rfl
    · exact List.all_eq_true.1 reach_ends1 r hr
    · exact List.all_eq_true.1 reach_ends2 r hr
  exact List.all_eq_true.1 h closes (by cases closes <;> simp)
theorem ite_leM {P : Prop} [Decidable P] {a b n : Nat} (ha : a ≤ n) (hb : b ≤ n) : (if P then a else b) ≤ n := by split <;> assumption
theorem le_iteM {P : Prop} [Decidable P] {a b n : Nat} (ha : n ≤ a) (hb : n ≤ b) : n ≤ (if P then a else b) := by split <;> assumption
theorem chainM_le (c x : SeatM) : ∀ (n : Nat) (q : Int × Int), chainM n c x q ≤ n
  | 0, _ => Nat.le_refl _
  | n + 1, q => by
    rw [chainM]
    have := chainM_le c x n (3 - q.1, ((if q.1 = 1 then c else x).tell q.2).2.send)
    exact ite_leM (by omega) (by omega)
theorem chainM_pos (c x : SeatM) (n : Nat) (q : Int × Int) : 1 ≤ chainM (n + 1) c x q := by
  rw [chainM]
  exact le_iteM (by omega) (by omega)
def sumM (c x : SeatM) (f : List (Int × Int)) : Nat := (f.map (chainM 6 c x)).sum
theorem sumM_le (c x : SeatM) : ∀ f : List (Int × Int), sumM c x f ≤ 6 * f.length
  | [] => by simp [sumM]
  | q :: t => by
    have h1 := sumM_le c x t
    have h2 := chainM_le c x 6 q
    simp only [sumM, List.map_cons, List.sum_cons, List.length_cons] at h1 ⊢
    omega
theorem sumM_put (c x : SeatM) (f : List (Int × Int)) (e k : Int) : sumM c x (putF f e k) = sumM c x f + if k = 0 then 0 else chainM 6 c x (3 - e, k) := by
  unfold putF
  split <;> simp [sumM]
/-- WHAT FALLS WITH EACH DELIVERY -/
def muM (m : PairM) : Nat := 500 * (rankM m.c + rankM m.x) + sumM m.c m.x m.f
theorem putF_len (f : List (Int × Int)) (e k : Int) : (putF f e k).length ≤ f.length + 1 := by
  unfold putF
  split <;> simp
theorem next_of {p : Int} (hp : p = 1 ∨ p = 2) {r : RS} {m : PairM} (R : Rep p r m) {q : Int × Int} {t : List (Int × Int)} (hf : m.f = q :: t) :
    (q.1 = 1 ∨ q.1 = 2) ∧ (m.deliver 0 false).1.1 = 0 ∧ m.next = ⟨(m.set q.1 ((r.seat p q.1).tell q.2).2.z).c, (m.set q.1 ((r.seat p q.1).tell q.2).2.z).x, putF t q.1 ((r.seat p q.1).tell q.2).2.send⟩ := by
  obtain ⟨he, h0, -⟩ := closed_q hp R.mem (R.f q (by rw [hf]; exact List.mem_cons_self ..))
  unfold PairM.next PairM.deliver
  have hl : ¬ ((0 : Int) < 0 ∨ ((m.f.length : Nat) : Int) ≤ 0) := by rw [hf]; simp
  have hq : m.f.getD (0 : Int).toNat (0, 0) = q := by rw [hf]; rfl
  rw [if_neg hl, if_neg (by simp), hq, seat_e R he, if_neg (fun g => g h0)]
  refine ⟨he, rfl, ?_⟩
  rw [hf]
  simp
theorem next_mu {p : Int} (hp : p = 1 ∨ p = 2) {r : RS} {m : PairM} (R : Rep p r m) (hf : m.f ≠ []) (hl : m.f.length ≤ 64) : muM m.next < muM m ∧ m.next.f.length ≤ 64 := by
  obtain ⟨q, t, hqt⟩ : ∃ q t, m.f = q :: t := by
    cases h : m.f with
    | nil => exact absurd h hf
    | cons q t => exact ⟨q, t, rfl⟩
  obtain ⟨he, -, hn⟩ := next_of hp R hqt
  have hfall := reach_falls hp R.mem q (R.f q (by rw [hqt]; exact List.mem_cons_self ..))
  obtain ⟨y, hy⟩ : ∃ y, ((r.seat p q.1).tell q.2).2 = y := ⟨_, rfl⟩
  rw [hy] at hn hfall
  have hlen := putF_len t q.1 y.send
  rw [hqt, List.length_cons] at hl
  refine ⟨?_, by rw [hn]; show (putF t q.1 y.send).length ≤ 64; omega⟩
  rw [hn]
  rcases hfall with ⟨-, h⟩ | ⟨h1, h2⟩
  · have hs := sumM_le (m.set q.1 y.z).c (m.set q.1 y.z).x (putF t q.1 y.send)
    unfold muM
    have hr : rankM (m.set q.1 y.z).c + rankM (m.set q.1 y.z).x < rankM m.c + rankM m.x := by
      rcases he with g | g
      · rw [g] at h ⊢
        rw [show r.seat p 1 = m.c from R.c.symm] at h
        show rankM y.z + rankM m.x < _
        omega
      · rw [g] at h ⊢
        rw [show r.seat p 2 = m.x from R.x.symm] at h
        show rankM m.c + rankM y.z < _
        omega
    dsimp only
    omega
  · have hset : m.set q.1 y.z = m := by
      rw [h1]
      rcases he with g | g
      · rw [g, ← R.c]; rfl
      · rw [g, ← R.x]; rfl
    rw [hset]
    unfold muM
    dsimp only
    rw [sumM_put, hqt]
    have hpos : 1 ≤ chainM 6 m.c m.x q := chainM_pos m.c m.x 5 q
    rw [← R.c, ← R.x] at h2
    simp only [sumM, List.map_cons, List.sum_cons]
    split
    · omega
    · rename_i hs
      have := h2.resolve_left hs
      omega
theorem rep_next {p : Int} (hp : p = 1 ∨ p = 2) {r : RS} {m : PairM} (R : Rep p r m) : ∃ r', Rep p r' m.next := by
  obtain ⟨r', K⟩ := rep_deliver hp R 0 false
  exact ⟨r', K.rep⟩
theorem drain_rep {p : Int} (hp : p = 1 ∨ p = 2) : ∀ (n : Nat) (r : RS) (m : PairM), Rep p r m → m.f.length ≤ 64 → muM m ≤ n → ∃ r', Rep p r' (drainM n m) ∧ (drainM n m).f = []
  | 0, r, m, R, hl, hm => by
    by_cases hf : m.f = []
    · exact ⟨r, R, hf⟩
    · have := (next_mu hp R hf hl).1; omega
  | n + 1, r, m, R, hl, hm => by
    rw [drainM]
    by_cases hf : m.f = []
    · rw [hf, List.isEmpty_nil, if_pos rfl]; exact ⟨r, R, hf⟩
    · have he : m.f.isEmpty = false := by cases h : m.f <;> simp_all
      rw [he, if_neg (by simp)]
      obtain ⟨r', R'⟩ := rep_next hp R
      have h := next_mu hp R hf hl
      exact drain_rep hp n r' m.next R' h.2 (by omega)
theorem rankM_le (z : SeatM) : rankM z ≤ 5 := by
  unfold rankM rankM.rankE
  repeat' apply ite_leM
  all_goals omega
theorem mu_le (m : PairM) (hl : m.f.length ≤ 64) : muM m ≤ 20000 := by
  have h1 := rankM_le m.c
  have h2 := rankM_le m.x
  have h3 := sumM_le m.c m.x m.f
  unfold muM
  omega
theorem act_len (m : PairM) (e k : Int) (h : m.f.length ≤ 64) : (m.act e k).2.f.length ≤ 64 := by
  unfold PairM.act
  by_cases h1 : e ≠ 1 ∧ e ≠ 2
  · rw [if_pos h1]; exact h
  rw [if_neg h1]
  by_cases h2 : 63 < m.f.length
  · rw [if_pos h2]; exact h
  rw [if_neg h2]
  by_cases h3 : ((m.seat e).act k).1 ≠ 0
  · rw [if_pos h3]; exact h
  rw [if_neg h3]
  have := putF_len m.f e ((m.seat e).act k).2.send
  show (putF m.f e ((m.seat e).act k).2.send).length ≤ 64
  omega
theorem again_len (m : PairM) (e : Int) (h : m.f.length ≤ 64) : (m.again e).2.f.length ≤ 64 := by
  unfold PairM.again
  by_cases h1 : (e ≠ 1 ∧ e ≠ 2) ∨ 63 < m.f.length
  · rw [if_pos h1]; exact h
  rw [if_neg h1]
  have := putF_len m.f e (m.seat e).waits
  show (putF m.f e (m.seat e).waits).length ≤ 64
  omega
theorem cut_len {f : List (Int × Int)} {i : Nat} (h : i < f.length) : (f.take i ++ f.drop (i + 1)).length + 1 = f.length := by
  rw [List.length_append, List.length_take, List.length_drop]
  omega
theorem drop_len (m : PairM) (i : Int) (h : m.f.length ≤ 64) : (m.drop i).2.f.length ≤ 64 := by
  unfold PairM.drop
  by_cases h1 : i < 0 ∨ m.f.length ≤ i
  · rw [if_pos h1]; exact h
  rw [if_neg h1]
  have := cut_len (f := m.f) (i := i.toNat) (by omega)
  show (m.f.take i.toNat ++ m.f.drop (i.toNat + 1)).length ≤ 64
  omega
theorem deliver_len (m : PairM) (i : Int) (copies : Bool) (h : m.f.length ≤ 64) : (m.deliver i copies).2.f.length ≤ 64 := by
  unfold PairM.deliver
  by_cases h1 : i < 0 ∨ m.f.length ≤ i
  · rw [if_pos h1]; exact h
  rw [if_neg h1]
  by_cases h2 : copies = true ∧ 63 < m.f.length
  · rw [if_pos h2]; exact h
  rw [if_neg h2]
  by_cases h3 : ((m.seat (m.f.getD i.toNat (0, 0)).1).tell (m.f.getD i.toNat (0, 0)).2).1 ≠ 0
  · rw [if_pos h3]; exact h
  rw [if_neg h3]
  refine Nat.le_trans (putF_len _ _ _) ?_
  cases copies with
  | true => rw [if_pos rfl]; have : ¬ 63 < m.f.length := fun g => h2 ⟨rfl, g⟩; omega
  | false =>
    rw [if_neg (by simp)]
    have := cut_len (f := m.f) (i := i.toNat) (by omega)
    omega
theorem works_rep {p : Int} (hp : p = 1 ∨ p = 2) {r : RS} {m : PairM} (R : Rep p r m) (hl : m.f.length ≤ 64) : (∃ r', Rep p r' m.works) ∧ m.works.f.length ≤ 64 := by
  have h : ∀ k, (∃ r', Rep p r' (m.act 2 k).2) ∧ (m.act 2 k).2.f.length ≤ 64 := fun k => ⟨(rep_act hp R 2 k).elim fun r' K => ⟨r', K.rep⟩, act_len m 2 k hl⟩
  unfold PairM.works
  repeat' split
  all_goals first | exact h _ | exact ⟨⟨r, R⟩, hl⟩
theorem decides_rep {p : Int} (hp : p = 1 ∨ p = 2) {r : RS} {m : PairM} (R : Rep p r m) (hl : m.f.length ≤ 64) (closes : Bool) : (∃ r', Rep p r' (m.decides closes)) ∧ (m.decides closes).f.length ≤ 64 := by
  have h : ∀ k, (∃ r', Rep p r' (m.act 1 k).2) ∧ (m.act 1 k).2.f.length ≤ 64 := fun k => ⟨(rep_act hp R 1 k).elim fun r' K => ⟨r', K.rep⟩, act_len m 1 k hl⟩
  unfold PairM.decides
  by_cases g : (m.act 1 (if closes = true then 9 else 11)).1 ≠ 0
  · rw [if_pos g]; exact h _
  · rw [if_neg g]; exact h _
theorem again_rep {p : Int} (hp : p = 1 ∨ p = 2) {r : RS} {m : PairM} (R : Rep p r m) (hl : m.f.length ≤ 64) (e : Int) : (∃ r', Rep p r' (m.again e).2) ∧ (m.again e).2.f.length ≤ 64 :=
  ⟨(rep_again hp R e).elim fun r' K => ⟨r', K.rep⟩, again_len m e hl⟩
theorem acts_rep {p : Int} (hp : p = 1 ∨ p = 2) {r : RS} {m : PairM} (R : Rep p r m) (hl : m.f.length ≤ 64) (closes : Bool) : (∃ r', Rep p r' (actsM closes m)) ∧ (actsM closes m).f.length ≤ 64 := by
  obtain ⟨⟨r1, R1⟩, l1⟩ := works_rep hp R hl
  obtain ⟨⟨r2, R2⟩, l2⟩ := decides_rep hp R1 l1 closes
  obtain ⟨⟨r3, R3⟩, l3⟩ := again_rep hp R2 l2 1
  exact again_rep hp R3 l3 2
/-- FROM WHATEVER HAS COME OF A PAIR BOTH SIDES END -/
theorem ends_of {p : Int} (hp : p = 1 ∨ p = 2) {r : RS} {m : PairM} (R : Rep p r m) (hl : m.f.length ≤ 64) (closes : Bool) : (roundsM closes 6 m).over = true := by
  obtain ⟨r1, R1, h1⟩ := drain_rep hp 20000 r m R hl (mu_le m hl)
  have he : drainM 20000 m = pairOf p r1 := by
    cases hd : drainM 20000 m with
    | mk c x f =>
      rw [hd] at R1 h1
      have e1 : c = r1.seat p 1 := R1.c
      have e2 : x = r1.seat p 2 := R1.x
      have e3 : f = [] := h1
      rw [e1, e2, e3]
      rfl
  have hs : drainM 20000 (pairOf p r1) = pairOf p r1 := by
    rw [show (20000 : Nat) = 19999 + 1 from rfl, drainM]
    exact if_pos rfl
  have h := reach_ends hp R1.mem closes
  rw [show (6 : Nat) = 5 + 1 from rfl, roundsM] at h ⊢
  rw [hs] at h
  rw [he]
  exact h
/-- what a seat waits with, told the other one twice -/
def RS.twice (p : Int) (r : RS) : Bool := [1, 2].all fun e => decide ((r.seat p e).waits = 0) ||
  (decide (((r.seat p (3 - e)).tell (r.seat p e).waits).1 = 0) && decide ((((r.seat p (3 - e)).tell (r.seat p e).waits).2.z.tell (r.seat p e).waits).1 = 0) &&
    !(((r.seat p (3 - e)).tell (r.seat p e).waits).2.z.tell (r.seat p e).waits).2.changed && decide ((((r.seat p (3 - e)).tell (r.seat p e).waits).2.z.tell (r.seat p e).waits).2.z = ((r.seat p (3 - e)).tell (r.seat p e).waits).2.z) &&
    decide ((((r.seat p (3 - e)).tell (r.seat p e).waits).2.z.tell (r.seat p e).waits).2.work = 0))
theorem reach_twice1 : (reach 1).all (RS.twice 1) = true := by decide +kernel
theorem reach_twice2 : (reach 2).all (RS.twice 2) = true := by decide +kernel
theorem twice_of {p : Int} (hp : p = 1 ∨ p = 2) {r : RS} {m : PairM} (R : Rep p r m) {e : Int} (he : e = 1 ∨ e = 2) (hw : (m.seat e).waits ≠ 0) :
    ((m.seat (3 - e)).tell (m.seat e).waits).1 = 0 ∧ (((m.seat (3 - e)).tell (m.seat e).waits).2.z.tell (m.seat e).waits).1 = 0 ∧
    (((m.seat (3 - e)).tell (m.seat e).waits).2.z.tell (m.seat e).waits).2.changed = false ∧
    (((m.seat (3 - e)).tell (m.seat e).waits).2.z.tell (m.seat e).waits).2.z = ((m.seat (3 - e)).tell (m.seat e).waits).2.z ∧
    (((m.seat (3 - e)).tell (m.seat e).waits).2.z.tell (m.seat e).waits).2.work = 0 := by
  have h : r.twice p = true := by
    rcases hp with rfl | rfl
    · exact List.all_eq_true.1 reach_twice1 r R.mem
    · exact List.all_eq_true.1 reach_twice2 r R.mem
  have g := List.all_eq_true.1 h e (by rcases he with rfl | rfl <;> simp)
  rw [seat_e R he, seat_e R (show 3 - e = 1 ∨ 3 - e = 2 by omega)]
  rw [seat_e R he] at hw
  have hw' : decide ((r.seat p e).waits = 0) = false := decide_eq_false hw
  rw [hw', Bool.false_or] at g
  simp only [Bool.and_eq_true, decide_eq_true_eq, Bool.not_eq_true'] at g
  obtain ⟨⟨⟨⟨g1, g2⟩, g3⟩, g4⟩, g5⟩ := g
  exact ⟨g1, g2, g3, g4, g5⟩
end Go.Proofs.YtghjnhdepeiloaaDoor
