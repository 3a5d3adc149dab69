/-
  PARTS OF THIS PROOF (own work): LetB, LetC, LetD, LetF, LetG, LetX.
-/
import Derived.Test.YtfginhckeogafaaDoorPkE
import Derived.Test.YtfginhckeogafaaDoorPkH
import Derived.Test.YtfginhckeogafaaDoorPkF
import Derived.Test.YtfginhckeogafaaDoorPkA
import Derived.Laws.StructEq
import Derived.Test.YtfginhckeogafaaDoorPkC

namespace Go.Proofs.YtfginhckeogafaaDoor
open Go.RowKit Go.ChangeShapes Go.WideShapes

theorem rep_get (n j : Nat) : (List.replicate n (0 : Int)).getD j 0 = 0 := by
  rw [List.getD_eq_getElem?_getD, List.getElem?_replicate]
  split <;> rfl
theorem beF_back : ∀ (k : Nat) (bs : List Int), InB bs → bs.length ≤ k → ¬ (0 < bs.length ∧ bs.getD 0 0 = 0) → beF k (beNum bs).toNat = bs
  | 0, bs, _, hl, _ => by
    have : bs = [] := List.length_eq_zero_iff.1 (by omega)
    subst this; rfl
  | k + 1, bs, hb, hl, hz => by
    rcases List.eq_nil_or_concat bs with rfl | ⟨xs, c, rfl⟩
    · rfl
    · have hx : InB xs := fun x hx => hb x (by simp [hx])
      have hc := hb c (by simp)
      have hlx : xs.length ≤ k := by simp at hl; omega
      have hzx : ¬ (0 < xs.length ∧ xs.getD 0 0 = 0) := by
        rintro ⟨h1, h2⟩
        refine hz ⟨by simp, ?_⟩
        rw [List.getD_eq_getElem?_getD, List.concat_eq_append, List.getElem?_append_left h1, ← List.getD_eq_getElem?_getD]
        exact h2
      have ih := beF_back k xs hx hlx hzx
      have hn := beNum_range hx xs.length (Nat.le_refl _)
      rw [List.take_length] at hn
      rw [List.concat_eq_append, beNum_push]
      have hnz : (256 * beNum xs + c).toNat ≠ 0 := by
        intro q
        have c0 : c = 0 := by omega
        have x0 : beNum xs = 0 := by omega
        rw [x0] at ih
        have hk : beF k (0 : Int).toNat = [] := by cases k <;> rfl
        rw [hk] at ih
        subst ih
        subst c0
        exact hz ⟨by simp, by simp⟩
      unfold beF
      rw [if_neg hnz, show (256 * beNum xs + c).toNat / 256 = (beNum xs).toNat by omega, ih, show (((256 * beNum xs + c).toNat % 256 : Nat) : Int) = c by omega]
theorem toNum_lead {bs : List Int} (h : (toNum bs).2 = 0) : ¬ (0 < bs.length ∧ bs.getD 0 0 = 0) ∧ bs.length ≤ 8 ∧ (toNum bs).1 = beNum bs := by
  unfold toNum at h ⊢
  split at h
  · cases h
  rename_i g0
  split at h
  · cases h
  rename_i g1
  split at h
  · cases h
  rename_i g2
  rw [if_neg g0, if_neg g1, if_neg g2]
  exact ⟨g0, by omega, rfl⟩
theorem toNum_back {bs : List Int} (hb : InB bs) (h : (toNum bs).2 = 0) : beF 8 (toNum bs).1.toNat = bs := by
  obtain ⟨h1, h2, h3⟩ := toNum_lead h
  rw [h3]
  exact beF_back 8 bs hb h2 h1
theorem toNum_pos {bs : List Int} (hb : InB bs) (h : (toNum bs).2 = 0) (h0 : bs.length ≠ 0) : (toNum bs).1 ≠ 0 := by
  intro q
  have := toNum_back hb h
  rw [q] at this
  have e : beF 8 (0 : Int).toNat = [] := rfl
  rw [e] at this
  rw [← this] at h0
  exact h0 rfl

/-- fields put in order fill the places: read back they are those fields -/
theorem put_row : ∀ (d i : Nat) (fs : List (Int × List Int)) (k : Nat) (l0 l : List Int), i + d = 9 → l0.length = 9 → (∀ j, i ≤ j → l0.getD j 0 = 0) → (∀ x ∈ fs, InB x.2) → runQ k (i : Int) fs = true →
    putF l0 fs = some l → l.length = 9 ∧ l.take i = l0.take i ∧ rowF ((i : Int) + 1) (l.drop i) = fs
  | 0, i, fs, k, l0, l, hd, hl, hz, hb, hr, hp => by
    obtain rfl : i = 9 := by omega
    match fs, hr, hp with
    | [], _, hp =>
      have : l0 = l := by simpa [putF] using hp
      subst this
      exact ⟨hl, rfl, by rw [List.drop_of_length_le (by omega)]; rfl⟩
    | x :: t, hr, hp =>
      unfold runQ at hr
      rw [Bool.and_eq_true] at hr
      have hm := of_decide_eq_true hr.1
      rw [putF, if_pos (.inl (by have := hm.2.1; omega))] at hp
      cases hp
  | d + 1, i, fs, k, l0, l, hd, hl, hz, hb, hr, hp => by
    have hi9 : i < 9 := by omega
    have tk : ∀ (m : List Int), m.length = 9 → m.drop i = m.getD i 0 :: m.drop (i + 1) := fun m hm => by
      rw [List.drop_eq_getElem_cons (by omega)]
      simp [List.getD, hm, hi9]
    match fs, hb, hr, hp with
    | [], _, hr, hp =>
      have : l0 = l := by simpa [putF] using hp
      subst this
      obtain ⟨h1, h2, h3⟩ := put_row d (i + 1) [] k l0 l0 (by omega) hl (fun j hj => hz j (by omega)) (fun x hx => by cases hx) rfl rfl
      refine ⟨hl, rfl, ?_⟩
      rw [tk l0 hl, rowF, if_pos (hz i (Nat.le_refl _))]
      rw [show ((i : Int) + 1 + 1) = (((i + 1 : Nat) : Int) + 1) by omega]
      exact h3
    | x :: t, hb, hr, hp =>
      have hr0 := hr
      unfold runQ at hr
      rw [Bool.and_eq_true] at hr
      have hm := of_decide_eq_true hr.1
      have hx := hb x (by simp)
      have hp0 := hp
      rw [putF] at hp
      split at hp
      · cases hp
      rename_i hg
      have hg2 : (toNum x.2).2 = 0 := Classical.byContradiction fun q => hg (.inr (.inr q))
      have hg1 : x.2.length ≠ 0 := fun q => hg (.inr (.inl q))
      by_cases he : x.1 = (i : Int) + 1
      · have hti : (x.1 - 1).toNat = i := by omega
        rw [hti] at hp
        obtain ⟨h1, h2, h3⟩ := put_row d (i + 1) t (k + 1) (l0.set i (toNum x.2).1) l (by omega) (by rw [List.length_set]; exact hl)
          (fun j hj => by
            have := hz j (by omega)
            simp only [List.getD] at this ⊢
            rw [List.getElem?_set_ne (by omega)]
            exact this)
          (fun y hy => hb y (by simp [hy])) (by rw [← he.trans (by omega : (i : Int) + 1 = ((i + 1 : Nat) : Int))]; exact hr.2) hp
        have hli : l.getD i 0 = (toNum x.2).1 := by
          have h4 := congrArg (fun m => m.getD i 0) h2
          simp only [List.getD] at h4 ⊢
          rw [List.getElem?_take, List.getElem?_take, if_pos (by omega), if_pos (by omega), List.getElem?_set_self (by omega)] at h4
          simpa using h4
        refine ⟨h1, ?_, ?_⟩
        · have h4 := congrArg (fun m => m.take i) h2
          simp only [List.take_take] at h4
          rw [Nat.min_eq_left (by omega)] at h4
          rw [h4, List.take_set_of_le (by omega)]
        · rw [tk l h1, rowF, hli, if_neg (toNum_pos hx hg2 hg1), toNum_back hx hg2, show ((i : Int) + 1 + 1) = (((i + 1 : Nat) : Int) + 1) by omega, h3, ← he]
      · have hlt : ((i + 1 : Nat) : Int) < x.1 := by have := hm.2.1; omega
        obtain ⟨h1, h2, h3⟩ := put_row d (i + 1) (x :: t) k l0 l (by omega) hl (fun j hj => hz j (by omega)) hb (by
          unfold runQ
          rw [Bool.and_eq_true]
          exact ⟨decide_eq_true ⟨hm.1, hlt, hm.2.2⟩, hr.2⟩) hp0
        have hli : l.getD i 0 = 0 := by
          have h4 := congrArg (fun m => m.getD i 0) h2
          have h5 := hz i (Nat.le_refl _)
          simp only [List.getD] at h4 h5 ⊢
          rw [List.getElem?_take, List.getElem?_take, if_pos (by omega), if_pos (by omega)] at h4
          rw [h4]; exact h5
        refine ⟨h1, ?_, ?_⟩
        · have h4 := congrArg (fun m => m.take i) h2
          simp only [List.take_take] at h4
          rw [Nat.min_eq_left (by omega)] at h4
          exact h4
        · rw [tk l h1, rowF, if_pos hli, show ((i : Int) + 1 + 1) = (((i + 1 : Nat) : Int) + 1) by omega]
          exact h3
theorem encM_len (m : MM) : (encM m).length ≤ 99 * 9 := by
  have h := joinB_len (small_m m) (rowF 1 m.nums).length (Nat.le_refl _)
  rw [List.take_length] at h
  have h2 := rowF_len m.nums 1
  have h3 : m.nums.length = 9 := rfl
  have : ∀ (ns : List Int) (i : Int), (joinB (rowF i ns)).length ≤ 11 * ns.length := by
    intro ns
    induction ns with
    | nil => intro i; simp [rowF, joinB]
    | cons n ns ih =>
      intro i
      have := ih (i + 1)
      simp only [rowF]
      split
      · rw [List.length_cons]; omega
      · have hb := beF_len 8 n.toNat
        rw [joinB_cons]
        simp only [List.length_cons, List.length_append]
        omega
  have h4 := this m.nums 1
  unfold encM
  omega
theorem nums_ofL {l : List Int} (h : l.length = 9) : (ofL l).nums = l := by
  match l, h with
  | [k, f, t, n, s, r, p, o, c], _ => rfl
theorem ofL_nums (m : MM) : ofL m.nums = m := rfl
/-- what is decoded is right, and encoded to the same -/
theorem enc_dec {bs : List Int} {m : MM} (hb : InB bs) (h : decM bs = (0, m)) : rightM m = true ∧ encM m = bs := by
  unfold decM at h
  split at h
  · cases h
  split at h
  · rename_i g; injection h with h1 _; exact absurd h1 g
  rename_i h0
  have h0 : (splitQ 17 bs 0 0).1 = 0 := Classical.byContradiction h0
  split at h
  · cases h
  · rename_i l hl
    split at h
    · rename_i hr
      injection h with _ h2
      subst h2
      refine ⟨hr, ?_⟩
      obtain ⟨q1, q2⟩ := splitQ_back 17 bs 0 0 hb (by decide) h0
      have hin : ∀ x ∈ (splitQ 17 bs 0 0).2, InB x.2 := by
        intro x hx y hy
        refine hb y ?_
        rw [← q2]
        unfold joinB
        exact List.mem_flatMap.2 ⟨x, hx, by simp [fieldB, hy]⟩
      obtain ⟨h1, _, h3⟩ := put_row 9 0 (splitQ 17 bs 0 0).2 0 (List.replicate 9 0) l rfl rfl (fun j _ => rep_get 9 j) hin q1 hl
      unfold encM
      rw [nums_ofL h1]
      rw [List.drop_zero] at h3
      rw [show (1 : Int) = ((0 : Nat) : Int) + 1 from rfl, h3]
      exact q2
    · cases h
theorem rowF_in (ns : List Int) (i : Int) : ∀ g ∈ rowF i ns, InB g.2 := fun g hg => (rowF_mem ns i g hg).2.2.2
theorem put_back : ∀ (d i : Nat) (l0 l : List Int), i + d = 9 → l.length = 9 → l0.length = 9 → (∀ x ∈ l, 0 ≤ x ∧ x ≤ 999999) → (∀ j, i ≤ j → l0.getD j 0 = 0) → l0.take i = l.take i → putF l0 (rowF ((i : Int) + 1) (l.drop i)) = some l
  | 0, i, l0, l, hd, hl, hl0, _, _, ht => by
    obtain rfl : i = 9 := by omega
    rw [List.drop_of_length_le (by omega)]
    rw [List.take_of_length_le (by omega), List.take_of_length_le (by omega)] at ht
    rw [ht]; rfl
  | d + 1, i, l0, l, hd, hl, hl0, hn, hz, ht => by
    have hi : i < l.length := by omega
    have hi0 : i < l0.length := by omega
    rw [List.drop_eq_getElem_cons hi, rowF]
    obtain ⟨x0, x1⟩ := hn l[i] (List.getElem_mem hi)
    have e2 : ((i : Int) + 1 + 1) = (((i + 1 : Nat) : Int) + 1) := by omega
    have h0i : l0[i] = 0 := by have := hz i (Nat.le_refl _); simpa [List.getD, hi0] using this
    split
    · rename_i h0
      rw [e2]
      refine put_back d (i + 1) l0 l (by omega) hl hl0 hn (fun j hj => hz j (by omega)) ?_
      rw [List.take_succ_eq_append_getElem hi0, List.take_succ_eq_append_getElem hi, ht, h0, h0i]
    · rename_i h0
      rw [putF]
      dsimp only
      have hb := toNum_beF l[i].toNat (by omega)
      have hlen : (beF 8 l[i].toNat).length ≠ 0 := by
        intro q
        have e := beNum_beF 8 l[i].toNat (Nat.lt_trans (by omega : l[i].toNat < 9223372036854775808) (by decide))
        rw [List.length_eq_zero_iff.1 q] at e
        have h3 : beNum [] = 0 := rfl
        omega
      rw [hb, if_neg (by simp only []; omega), show ((i : Int) + 1 - 1).toNat = i by omega, e2]
      refine put_back d (i + 1) _ l (by omega) hl (by rw [List.length_set]; exact hl0) hn (fun j hj => ?_) ?_
      · have := hz j (by omega)
        simp only [List.getD] at this ⊢
        rw [List.getElem?_set_ne (by omega)]
        exact this
      · rw [List.take_succ_eq_append_getElem (by rw [List.length_set]; exact hi0), List.take_succ_eq_append_getElem hi, List.take_set_of_le (Nat.le_refl _), ht, List.getElem_set_self]
        congr 2
        omega
/-- what is encoded is decoded to the same -/
theorem dec_enc {m : MM} (h : rightM m = true) : decM (encM m) = (0, m) := by
  have hok := rightM_okn h
  have hml : m.nums.length = 9 := rfl
  have hr := runQ_rowF m.nums 1 0 0 (by decide) (by rw [hml]; decide) (by rw [hml]; decide)
  have hs := split_join (rowF 1 m.nums) 0 16 0 hr (fun _ _ => Int.le_refl _) (by have := rowF_len m.nums 1; omega) (rowF_in _ _)
  have hl := encM_len m
  unfold decM encM at *
  rw [if_neg (by omega), hs, if_neg (fun q => q rfl)]
  have hp := put_back 9 0 (List.replicate 9 0) m.nums rfl hml rfl hok (fun j _ => rep_get 9 j) rfl
  rw [List.drop_zero] at hp
  have e : rowF 1 m.nums = rowF (((0 : Nat) : Int) + 1) m.nums := rfl
  rw [e, hp]
  dsimp only
  rw [ofL_nums, if_pos h]
theorem enc_inj {a b : MM} (ha : rightM a = true) (hb : rightM b = true) (h : encM a = encM b) : a = b := by
  have h1 := dec_enc ha
  rw [h, dec_enc hb] at h1
  injection h1 with _ h2
  exact h2.symm
theorem enc_in (m : MM) : InB (encM m) := joinB_in (small_m m) (rowF_in _ _)
theorem enc_pos {m : MM} (h : rightM m = true) : 0 < (encM m).length := by
  rcases Nat.eq_zero_or_pos (encM m).length with g | g
  · have h1 := dec_enc h
    rw [List.length_eq_zero_iff.1 g] at h1
    have : decM [] = (4, noM) := by decide
    rw [this] at h1
    cases h1
  · exact g
/-- cut short it isn't decoded to the message -/
theorem dec_cut {m : MM} (k : Nat) (hk : k < (encM m).length) : decM ((encM m).take k) ≠ (0, m) := by
  intro h
  have h1 := (enc_dec (fun x hx => enc_in m x (List.mem_of_mem_take hx)) h).2
  have h2 := congrArg List.length h1
  rw [List.length_take] at h2
  omega
end Go.Proofs.YtfginhckeogafaaDoor

namespace Go.Proofs.YtfginhckeogafaaDoor
open Go.RowKit Go.ChangeShapes Go.WideShapes

structure LetC (ads : List Addr) (w : World) : Prop where
  right : ∀ w1, Kp w w1 → ∀ m : MM, Calls Tryd.prog 10 #[.agg m.cells] w1 fun e w' => e = .returned (.bool (rightM m)) ∧ Kp w1 w'
  encOk : ∀ w1, Kp w w1 → ∀ m : MM, rightM m = true → Calls Tryd.prog 9 #[.agg m.cells] w1 fun e w' => ∃ (a : Option Addr) (c : Nat), e = .returned (.tuple #[.slice a (encM m).length c, .nilIface]) ∧ (encM m).length ≤ c ∧ SlB (.slice a (encM m).length c) (encM m) w' ∧ Kp w1 w'
  encBad : ∀ w1, Kp w w1 → ∀ m : MM, rightM m = false → Calls Tryd.prog 9 #[.agg m.cells] w1 fun e w' => e = .returned (.tuple #[.slice none 0 0, errI ads 4]) ∧ Kp w1 w'
  dec : ∀ w1, Kp w w1 → ∀ (a : Option Addr) (c : Nat) (bs : List Int) (n : Nat), bs.length = n → InB bs → n ≤ c → SlB (.slice a n c) bs w1 → Calls Tryd.prog 13 #[.slice a n c] w1 fun e w' => e = .returned (.tuple #[.agg (decM bs).2.cells, errI ads (decM bs).1]) ∧ Kp w1 w'
  answer : ∀ w1, Kp w w1 → ∀ (m : MM) (x y : Int), Calls Tryd.prog 18 #[.agg m.cells, .int .i64 x, .int .i64 y] w1 fun e w' => e = .returned (.agg (answerM m x y).cells) ∧ Kp w1 w'
  down : ∀ w1, Kp w w1 → ∀ k : Int, Calls Tryd.prog 19 #[.int .i64 k] w1 fun e w' => e = .returned (.bool (downM k)) ∧ Kp w1 w'
  up : ∀ w1, Kp w w1 → ∀ k : Int, Calls Tryd.prog 21 #[.int .i64 k] w1 fun e w' => e = .returned (.bool (upM k)) ∧ Kp w1 w'

theorem LetC.kp {ads : List Addr} {w w' : World} (C : LetC ads w) (hk : Kp w w') : LetC ads w' where
  right := fun w1 h => C.right w1 (Kp.trans hk h)
  encOk := fun w1 h => C.encOk w1 (Kp.trans hk h)
  encBad := fun w1 h => C.encBad w1 (Kp.trans hk h)
  dec := fun w1 h => C.dec w1 (Kp.trans hk h)
  answer := fun w1 h => C.answer w1 (Kp.trans hk h)
  down := fun w1 h => C.down w1 (Kp.trans hk h)
  up := fun w1 h => C.up w1 (Kp.trans hk h)

theorem errI_some (ads : List Addr) (k : Int) (h : k ≠ 0) : ∃ q, errI ads k = .iface 134 (.pointer q) := ⟨_, if_neg h⟩

theorem msg_fields : Tryd.prog.underlying 25 = some (.struct (Tryd.prog.fieldsOf 25)) := by
  unfold Program.fieldsOf
  rw [Tryd.underlying25]
theorem act_fields : Tryd.prog.underlying 23 = some (.struct (Tryd.prog.fieldsOf 23)) := by
  unfold Program.fieldsOf
  rw [Tryd.underlying23]

/-- '==' of two messages -/
theorem msg_eq (a b : MM) (w : World) : (Op.equalIn 10000 25 (.agg a.cells) (.agg b.cells)).run Tryd.prog w = .ok (decide (a = b)) w := by
  obtain ⟨k, f, t, n, s, r, p, o, c⟩ := a
  obtain ⟨k', f', t', n', s', r', p', o', c'⟩ := b
  have hm : Tryd.prog.stoodInHeld 25 = false := by kernel_rfl
  have ha : Tryd.prog.stoodInHeld 23 = false := by kernel_rfl
  dsimp only [MM.cells]
  rw [show (10000 : Nat) = 9998 + 1 + 1 from rfl, run_equalIn_agg w (9998 + 1) 25 _ _ msg_fields hm]
  simp [Program.fieldsOf, Tryd.underlying25, Tryd.underlying23, Op.eqFields, part, go_sem]
  by_cases h0 : k = k'
  rotate_left
  · simp [h0]
  subst h0
  by_cases h1 : f = f'
  rotate_left
  · simp [h1]
  subst h1
  by_cases h2 : t = t'
  rotate_left
  · simp [h2]
  subst h2
  by_cases h3 : n = n'
  rotate_left
  · simp [h3]
  subst h3
  by_cases h4 : s = s'
  rotate_left
  · simp [h4]
  subst h4
  by_cases h5 : r = r'
  rotate_left
  · simp [h5]
  subst h5
  by_cases h6 : p = p'
  rotate_left
  · simp [h6]
  subst h6
  by_cases h7 : o = o'
  rotate_left
  · simp [h7]
  subst h7
  by_cases h8 : c = c'
  rotate_left
  · simp [h8]
  subst h8
  simp [*]
/-- '==' of two messages, as the walk meets it -/
theorem msg_eql (a b : MM) (w : World) : (binOp .eql 25 (.agg a.cells) (.agg b.cells)).run Tryd.prog w = .ok (.bool (decide (a = b))) w := by
  rw [run_eql_struct, msg_eq]; rfl
theorem msg_neq (a b : MM) (w : World) : (binOp .neq 25 (.agg a.cells) (.agg b.cells)).run Tryd.prog w = .ok (.bool (!decide (a = b))) w := by
  rw [run_neq_struct, msg_eq]; rfl
theorem msg_guard (op : BinOp) (x y : Operand) (a b : MM) (w : World) : (eqGuard op 25 x y (.agg a.cells) (.agg b.cells)).run Tryd.prog w = .ok () w := run_eqGuard_agg w op 25 x y _ _ (by kernel_rfl)

def liveM : MM := ⟨1, 1, 0, 0, 2, 0, 3, 0, 0⟩
theorem live_right : rightM liveM = true := by decide
theorem live_enc : strOfNums (encM liveM) = ⟨#[1, 0, 1, 1, 2, 0, 1, 1, 5, 0, 1, 2, 7, 0, 1, 3]⟩ := by decide
/-- the law's alive -/
theorem alive8_any (ads : List Addr) (w : World) (C : LetC ads w) : Calls Tryd.prog 8 #[] w fun e w' => e = .returned (.bool true) ∧ Kp w w' := by
  have HE := fun w1 (hk : Kp w w1) => C.encOk w1 hk liveM live_right
  have e1 := live_enc
  obtain ⟨eb, heb⟩ : ∃ x, encM liveM = x := ⟨_, rfl⟩
  rw [heb] at HE e1
  obtain ⟨n, hn⟩ : ∃ x, eb.length = x := ⟨_, rfl⟩
  rw [hn] at HE
  dsimp only [liveM, MM.cells] at HE
  have E1 := Lib.hid e1
  have HE := Lib.hid HE
  clear heb hn e1
  go_enter Tryd.func8, Tryd.ntmps8
  go_wp2_with (go_at_call 9; (with_reducible refine (HE.out _ (Kp.refl _)).mono ?_); rintro e w1 ⟨a, c, rfl, hc, hs, hk⟩; have cv := conv_slb hs; rw [E1.out] at cv; have K1 := Lib.hid hk; clear hk hs)
  go_ret
  exact ⟨by first | rfl | simp | (simp; decide), K1.out⟩
theorem refDown8_any (k : Int) (w : World) : Calls Tryd.prog 20 #[.int .i64 k] w fun e w' => e = .returned (.bool (downM k)) ∧ w = w' := by
  by_cases h2 : k = 2
  · subst h2
    rw [show downM 2 = true by decide]
    (go_enter Tryd.func20, Tryd.ntmps20; go_wp2; go_ret; exact ⟨by first | rfl | simp [*], rfl⟩)
  by_cases h9 : 9 ≤ k
  · by_cases h14 : k ≤ 14
    · rw [show downM k = true from decide_eq_true (by omega)]
      (go_enter Tryd.func20, Tryd.ntmps20; go_wp2; go_ret; exact ⟨by first | rfl | simp [*], rfl⟩)
    · rw [show downM k = false from decide_eq_false (by omega)]
      (go_enter Tryd.func20, Tryd.ntmps20; go_wp2; go_ret; exact ⟨by first | rfl | simp [*], rfl⟩)
  · rw [show downM k = false from decide_eq_false (by omega)]
    (go_enter Tryd.func20, Tryd.ntmps20; go_wp2; go_ret; exact ⟨by first | rfl | simp [*], rfl⟩)
theorem refUp8_any (k : Int) (w : World) : Calls Tryd.prog 22 #[.int .i64 k] w fun e w' => e = .returned (.bool (upM k)) ∧ w = w' := by
  by_cases h2 : k = 1
  · subst h2
    rw [show upM 1 = true by decide]
    (go_enter Tryd.func22, Tryd.ntmps22; go_wp2; go_ret; exact ⟨by first | rfl | simp [*], rfl⟩)
  by_cases h9 : 3 ≤ k
  · by_cases h14 : k ≤ 8
    · rw [show upM k = true from decide_eq_true (by omega)]
      (go_enter Tryd.func22, Tryd.ntmps22; go_wp2; go_ret; exact ⟨by first | rfl | simp [*], rfl⟩)
    · rw [show upM k = false from decide_eq_false (by omega)]
      (go_enter Tryd.func22, Tryd.ntmps22; go_wp2; go_ret; exact ⟨by first | rfl | simp [*], rfl⟩)
  · rw [show upM k = false from decide_eq_false (by omega)]
    (go_enter Tryd.func22, Tryd.ntmps22; go_wp2; go_ret; exact ⟨by first | rfl | simp [*], rfl⟩)
end Go.Proofs.YtfginhckeogafaaDoor

namespace Go.Proofs.YtfginhckeogafaaDoor
open Go.RowKit Go.ChangeShapes Go.WideShapes

set_option maxRecDepth 100000 in
theorem decode1_long (ads : List Addr) (h2' : 2 < ads.length) (P : Addr) (a : Option Addr) (cap : Nat) (len : Nat) (w : World) (V : St ads w) (hp : w.cell? P = some (.slice a len cap)) (hl : 1000 < len) :
    Calls Tryd.prog 38 #[.pointer (some P)] w fun e w' => e = .panicked [{ v := snt (ads[2]'h2'), recovered := false }] ∧ Kp w w' := by
  have c2 : w.cell? ⟨3, 0, none⟩ = some (snt (ads[2]'h2')) := V.cell 2 (by decide)
  obtain ⟨a2, ha2⟩ : ∃ a, ads[2]'h2' = a := ⟨_, rfl⟩
  rw [ha2] at c2 ⊢
  obtain ⟨nn, hnn⟩ : ∃ x : Int, (len : Int) = x := ⟨_, rfl⟩
  have hg : ¬ nn ≤ 1000 := by omega
  have kb := kp_alloc w (.cells #[.int .i64 0, .int .i64 0, .int .i64 0, .int .i64 0, .int .i64 0, .int .i64 0, .int .i64 0, .int .i64 0, .int .i64 0] 25)
  have d2 := kp_cell kb c2
  have dp := kp_cell kb hp
  have KB := Lib.hid kb
  clear V ha2 c2 hp kb
  go_enter Tryd.func38, Tryd.ntmps38
  go_wp2_with (go_at_call 25; (with_reducible refine (ldemand_f _ _).mono ?_); rintro e w' ⟨rfl, rfl⟩)
  exact ⟨rfl, rfl, KB.out⟩

set_option maxRecDepth 100000 in
set_option maxHeartbeats 4000000 in
theorem decode1_err (ads : List Addr) (h1' : 1 < ads.length) (h2' : 2 < ads.length) (h3' : 3 < ads.length) (P : Addr) (a : Option Addr) (cap : Nat) (bs : List Int) (len : Nat) (hlen : bs.length = len) (hb : InB bs) (hlc : len ≤ cap) (w : World) (V : St ads w) (hp : w.cell? P = some (.slice a len cap)) (hs : SlB (.slice a len cap) bs w) (hl : len ≤ 1000) (k : Nat) (hk : k < ads.length) (hk2 : (splitQ 17 bs 0 0).1 = (k : Int) + 1) :
    Calls Tryd.prog 38 #[.pointer (some P)] w fun e w' => e = .panicked [{ v := snt (ads[k]'hk), recovered := false }] ∧ Kp w w' := by
  have c2 : w.cell? ⟨3, 0, none⟩ = some (snt (ads[2]'h2')) := V.cell 2 (by decide)
  obtain ⟨a2, ha2⟩ : ∃ a, ads[2]'h2' = a := ⟨_, rfl⟩
  rw [ha2] at c2
  obtain ⟨nn, hnn⟩ : ∃ x : Int, (len : Int) = x := ⟨_, rfl⟩
  have hg : nn ≤ 1000 := by omega
  have HP := Lib.hid (fun (B : Nat) (w1 : World) => (show Calls Tryd.prog 26 #[.pointer (some ⟨B, 0, none⟩)] w1 fun e w' => e = .returned (.agg #[.pointer (some ⟨B, 0, none⟩), .pointer (some ⟨B, 1, none⟩), .pointer (some ⟨B, 2, none⟩), .pointer (some ⟨B, 3, none⟩), .pointer (some ⟨B, 4, none⟩), .pointer (some ⟨B, 5, none⟩), .pointer (some ⟨B, 6, none⟩), .pointer (some ⟨B, 7, none⟩), .pointer (some ⟨B, 8, none⟩)]) ∧ Kp w1 w' from places_any B w1))
  have HS := fun (w1 : World) (hk1 : Kp w w1) => split_any ads h1' h3' a cap bs len hlen (by omega) hlc hb w1 (V.below hk1) (hs.kp hk1)
  have HS2 : ∀ (w1 : World), Kp w w1 → Calls Tryd.prog 40 #[.slice a len cap] w1 fun e w' => e = .returned (.tuple #[.slice none 0 0, snt (ads[k]'hk)]) ∧ Kp w1 w' := fun w1 hk1 => (HS w1 hk1).mono (by
    rintro e w' ⟨⟨h, -⟩ | ⟨h, rfl⟩ | ⟨h, rfl⟩, hk3⟩
    · omega
    · obtain rfl : k = 1 := by omega
      exact ⟨rfl, hk3⟩
    · obtain rfl : k = 3 := by omega
      exact ⟨rfl, hk3⟩)
  obtain ⟨ak, hak⟩ : ∃ a, ads[k]'hk = a := ⟨_, rfl⟩
  rw [hak] at HS2 ⊢
  have kb := kp_alloc w (.cells #[.int .i64 0, .int .i64 0, .int .i64 0, .int .i64 0, .int .i64 0, .int .i64 0, .int .i64 0, .int .i64 0, .int .i64 0] 25)
  have d2 := kp_cell kb c2
  have dp := kp_cell kb hp
  have KB := Lib.hid (Kp.trans kb (kp_alloc (w.alloc (.cells #[.int .i64 0, .int .i64 0, .int .i64 0, .int .i64 0, .int .i64 0, .int .i64 0, .int .i64 0, .int .i64 0, .int .i64 0] 25)) (.cells #[.int .i64 0, .int .i64 0, .int .i64 0, .int .i64 0, .int .i64 0, .int .i64 0, .int .i64 0, .int .i64 0, .int .i64 0] 25)))
  have HS2 := Lib.hid HS2
  have HPP := Lib.hid hp
  clear V hs hb ha2 c2 hp kb HS hak
  go_enter Tryd.func38, Tryd.ntmps38
  go_wp2_with (first
    | (go_at_call 25; (with_reducible refine (ldemand_t _ _).mono ?_); rintro e w' ⟨rfl, rfl⟩)
    | (go_at_call 26; (with_reducible refine (HP.out _ _).mono ?_); rintro e w3 ⟨rfl, hk3⟩; have K3 := Lib.hid (Kp.trans KB.out hk3); have K4 := Lib.hid (Kp.trans K3.out (kp_alloc w3 (.cells #[.pointer (some ⟨(w.heap.size + 1), 0, none⟩), .pointer (some ⟨(w.heap.size + 1), 1, none⟩), .pointer (some ⟨(w.heap.size + 1), 2, none⟩), .pointer (some ⟨(w.heap.size + 1), 3, none⟩), .pointer (some ⟨(w.heap.size + 1), 4, none⟩), .pointer (some ⟨(w.heap.size + 1), 5, none⟩), .pointer (some ⟨(w.heap.size + 1), 6, none⟩), .pointer (some ⟨(w.heap.size + 1), 7, none⟩), .pointer (some ⟨(w.heap.size + 1), 8, none⟩)] 52))); have e3 := kp_cell K4.out HPP.out; clear hk3)
    | (go_at_call 40; (with_reducible refine (HS2.out _ K4.out).mono ?_); rintro e w5 ⟨rfl, hk5⟩; have K5 := Lib.hid (Kp.trans K4.out hk5); clear hk5)
    | (go_at_call 39; (with_reducible refine (must_fields_f _ _ _).mono ?_); rintro e w' ⟨rfl, rfl⟩))
  exact ⟨rfl, rfl, K5.out⟩
end Go.Proofs.YtfginhckeogafaaDoor

namespace Go.Proofs.YtfginhckeogafaaDoor
open Go.RowKit Go.ChangeShapes Go.WideShapes

theorem kb_cell {p : Nat} {w w' : World} {q : Addr} {v : Value} (h : Kb p w w') (hp : q.block ≠ p) (hc : w.cell? q = some v) : w'.cell? q = some v := by
  have hl := old_of_cell hc
  have e : w'.heap[q.block]? = w.heap[q.block]? := h.2 _ hp hl
  unfold World.cell? at hc ⊢
  rw [e]
  exact hc
theorem kb_set {p : Nat} {w w1 : World} (h : Kb p w w1) (i : Nat) (v : Value) : Kb p w (w1.setCell ⟨p, i, none⟩ v) := ⟨by simp; exact h.1, fun b hb hl => by rw [Below.heap_setCell _ _ _ _ hb]; exact h.2 b hb hl⟩
theorem kb_drew {p : Nat} {w w' : World} (h : Kb p w w') : Kb p w w'.drew := h
def nums9 (l : List Int) : Array Value := (l.map (Value.int .i64)).toArray
/-- WHERE Decode STANDS between two fields: its answer's block R, its message's B with the numbers l, the places' A, the fields' rows from L on -/
structure DeS (w : World) (R B A L : Nat) (v : Value) (gs : List (Int × List Int × Value)) (l : List Int) (wr : World) : Prop where
  kW : Kp w wr
  bR : wr.heap[R]? = some (.cells #[.int .i64 0, .int .i64 0, .int .i64 0, .int .i64 0, .int .i64 0, .int .i64 0, .int .i64 0, .int .i64 0, .int .i64 0] 25 (0, 0))
  bB : wr.heap[B]? = some (.cells (nums9 l) 25 (0, 0))
  bA : wr.heap[A]? = some (.cells (plM B) 52 (0, 0))
  own : wr.ownsRow L 58 2 v gs.length (gs.flatMap cellQ)
  od : OwnD L gs wr
theorem DeS.kp {w wr wr' : World} {R B A L : Nat} {v : Value} {gs : List (Int × List Int × Value)} {l : List Int} (h : DeS w R B A L v gs l wr) (hk : Kp wr wr') : DeS w R B A L v gs l wr' :=
  ⟨Kp.trans h.kW hk, kp_row hk h.bR, kp_row hk h.bB, kp_row hk h.bA, own_kp h.own hk, h.od.kp hk⟩
theorem DeS.set {w wr : World} {R B A L : Nat} {v : Value} {gs : List (Int × List Int × Value)} {l : List Int} (h : DeS w R B A L v gs l wr) (hw : w.heap.size ≤ B) (hR : R ≠ B) (hA : A ≠ B) (hL : B < L) (i : Nat) (x : Int) : DeS w R B A L v gs (l.set i x) (wr.setCell ⟨B, i, none⟩ (.int .i64 x)) := by
  refine ⟨Below.setCell h.kW hw _, by rw [Below.heap_setCell _ _ _ _ hR]; exact h.bR, ?_, by rw [Below.heap_setCell _ _ _ _ hA]; exact h.bA, ownsRow_setCell_below h.own hL _, fun g hg => ⟨ownsRow_setCell_below (h.od g hg).1 hL _, (h.od g hg).2⟩⟩
  rw [Joins.block_setCell h.bB]
  congr 2
  simp [nums9]
theorem plM_cell {w : World} {A B : Nat} (h : w.heap[A]? = some (.cells (plM B) 52 (0, 0))) (j : Nat) (hj : j < 9) : w.cell? ⟨A, j, none⟩ = some (.pointer (some ⟨B, j, none⟩)) := by
  unfold World.cell?
  dsimp only
  rw [h]
  unfold plM
  match j, hj with
  | 0, _ | 1, _ | 2, _ | 3, _ | 4, _ | 5, _ | 6, _ | 7, _ | 8, _ => rfl
theorem nums_cell {w : World} {B : Nat} {l : List Int} (h : w.heap[B]? = some (.cells (nums9 l) 25 (0, 0))) (j : Nat) (hj : j < l.length) : w.cell? ⟨B, j, none⟩ = some (.int .i64 l[j]) := by
  unfold World.cell?
  dsimp only
  rw [h]
  simp [nums9, hj]
theorem nums_frozen {w : World} {B : Nat} {l : List Int} (h : w.heap[B]? = some (.cells (nums9 l) 25 (0, 0))) (i : Nat) : w.frozen? ⟨B, i, none⟩ = false := by
  unfold World.frozen?
  dsimp only
  rw [h]
  simp
theorem toNum_zero (bs : List Int) (hb : InB bs) (h : (toNum bs).1 = 0) (h2 : (toNum bs).2 = 0) : bs.length = 0 := by
  unfold toNum at h h2
  split at h2
  · cases h2
  rename_i g0
  split at h2
  · cases h2
  rename_i g1
  split at h2
  · cases h2
  rename_i g2
  rw [if_neg g0, if_neg g1, if_neg g2] at h
  dsimp only at h
  match bs, hb, g0, h with
  | [], _, _, _ => rfl
  | x :: t, hb, g0, h =>
    exfalso
    have hx := hb x (by simp)
    have h1 : 0 < x := by
      have : x ≠ 0 := fun q => g0 ⟨by simp, by simpa using q⟩
      omega
    have h3 := beNum_range hb
    have : ∀ (l : List Int) (u : Int), InB l → 0 < u → 0 < l.foldl (fun u c => 256 * u + c) u := by
      intro l
      induction l with
      | nil => intro u _ hu; exact hu
      | cons y l ih => intro u hl hu; exact ih _ (fun z hz => hl z (by simp [hz])) (by have := hl y (by simp); show 0 < 256 * u + y; omega)
    have h4 := this t (256 * 0 + x) (fun z hz => hb z (by simp [hz])) (by omega)
    unfold beNum at h
    rw [List.foldl_cons] at h
    omega
theorem nine {l : List Int} (h : l.length = 9) : ∃ k f t n s r p o c, l = [k, f, t, n, s, r, p, o, c] := by
  match l, h with
  | [k, f, t, n, s, r, p, o, c], _ => exact ⟨k, f, t, n, s, r, p, o, c, rfl⟩

set_option maxRecDepth 100000 in
set_option maxHeartbeats 8000000 in
theorem decode1_row (ads : List Addr) (h1' : 1 < ads.length) (h3' : 3 < ads.length) (P : Addr) (a : Option Addr) (cap : Nat) (bs : List Int) (len : Nat) (hlen : bs.length = len) (hb : InB bs) (hlc : len ≤ cap) (w : World) (V : St ads w) (T : Tab w) (hp : w.cell? P = some (.slice a len cap)) (hs : SlB (.slice a len cap) bs w) (hl : len ≤ 1000) (h0 : (splitQ 17 bs 0 0).1 = 0) :
    Calls Tryd.prog 38 #[.pointer (some P)] w fun e w' => (((decM bs).1 = 0 ∧ e = .returned (.agg (decM bs).2.cells)) ∨ ((decM bs).1 = 4 ∧ e = .panicked [{ v := snt (ads[3]'h3'), recovered := false }])) ∧ Kp w w' := by
  have hdm : decM bs = (match putF (List.replicate 9 0) (splitQ 17 bs 0 0).2 with | none => (4, noM) | some l => if rightM (ofL l) = true then (0, ofL l) else (4, noM)) := by
    unfold decM
    rw [if_neg (by omega), if_neg (fun q => q h0)]
    rfl
  obtain ⟨DD, hDD⟩ : ∃ x, decM bs = x := ⟨_, rfl⟩
  rw [hDD] at hdm ⊢
  have htg := splitQ_tags 17 bs 0 0 hb
  have h17 := splitQ_len 17 bs 0 0
  have c2 : ∃ x, w.cell? ⟨3, 0, none⟩ = some (snt x) := ⟨ads[2]'(by rw [V.len]; decide), V.cell 2 (by decide)⟩
  obtain ⟨a2, c2⟩ := c2
  have c3 : w.cell? ⟨0, 0, none⟩ = some (snt (ads[3]'h3')) := V.cell 3 (by decide)
  have HNB := Lib.hid (fun (ad : Option Addr) (cd : Nat) (dt : List Int) (dl : Nat) (hdl : dt.length = dl) (hbd : InB dt) (w1 : World) (hk : Kp w w1) (hsd : SlB (.slice ad dl cd) dt w1) => number_bad ads h3' ad cd dt dl hdl hbd w1 (V.below hk) hsd)
  have HNO := Lib.hid (fun (ad : Option Addr) (cd : Nat) (dt : List Int) (dl : Nat) (hdl : dt.length = dl) (hbd : InB dt) (w1 : World) (hk : Kp w w1) (hsd : SlB (.slice ad dl cd) dt w1) => number_ok ads ad cd dt dl hdl hbd w1 (V.below hk) hsd)
  obtain ⟨nn, hnn⟩ : ∃ x : Int, (len : Int) = x := ⟨_, rfl⟩
  have hg : nn ≤ 1000 := by omega
  have HPL := Lib.hid (fun (B : Nat) (w1 : World) => (show Calls Tryd.prog 26 #[.pointer (some ⟨B, 0, none⟩)] w1 fun e w' => e = .returned (.agg #[.pointer (some ⟨B, 0, none⟩), .pointer (some ⟨B, 1, none⟩), .pointer (some ⟨B, 2, none⟩), .pointer (some ⟨B, 3, none⟩), .pointer (some ⟨B, 4, none⟩), .pointer (some ⟨B, 5, none⟩), .pointer (some ⟨B, 6, none⟩), .pointer (some ⟨B, 7, none⟩), .pointer (some ⟨B, 8, none⟩)]) ∧ Kp w1 w' from places_any B w1))
  have HS := Lib.hid (fun (w1 : World) (hk1 : Kp w w1) => split_own ads h1' h3' a cap bs len hlen (by omega) hlc hb w1 (V.below hk1) (hs.kp hk1) h0)
  have HRT := Lib.hid (fun (m : MM) (w1 : World) (hk : Kp w w1) => letRight_any ads m w1 (V.below hk) (T.kp hk))
  obtain ⟨a3, ha3⟩ : ∃ x, ads[3]'h3' = x := ⟨_, rfl⟩
  rw [ha3] at c3 HNB ⊢
  obtain ⟨fs, hfs⟩ : ∃ x, (splitQ 17 bs 0 0).2 = x := ⟨_, rfl⟩
  rw [hfs] at hdm htg HS h17
  have kb1 := kp_alloc w (.cells #[.int .i64 0, .int .i64 0, .int .i64 0, .int .i64 0, .int .i64 0, .int .i64 0, .int .i64 0, .int .i64 0, .int .i64 0] 25)
  have d2 := kp_cell kb1 c2
  have dp := kp_cell kb1 hp
  have K2 := Lib.hid (Kp.trans kb1 (kp_alloc (w.alloc (.cells #[.int .i64 0, .int .i64 0, .int .i64 0, .int .i64 0, .int .i64 0, .int .i64 0, .int .i64 0, .int .i64 0, .int .i64 0] 25)) (.cells #[.int .i64 0, .int .i64 0, .int .i64 0, .int .i64 0, .int .i64 0, .int .i64 0, .int .i64 0, .int .i64 0, .int .i64 0] 25)))
  have hzR := Lib.hid (dec_new0 w (.cells #[.int .i64 0, .int .i64 0, .int .i64 0, .int .i64 0, .int .i64 0, .int .i64 0, .int .i64 0, .int .i64 0, .int .i64 0] 25) (.cells #[.int .i64 0, .int .i64 0, .int .i64 0, .int .i64 0, .int .i64 0, .int .i64 0, .int .i64 0, .int .i64 0, .int .i64 0] 25))
  have hzB := Lib.hid (enc_new1 w (.cells #[.int .i64 0, .int .i64 0, .int .i64 0, .int .i64 0, .int .i64 0, .int .i64 0, .int .i64 0, .int .i64 0, .int .i64 0] 25) (.cells #[.int .i64 0, .int .i64 0, .int .i64 0, .int .i64 0, .int .i64 0, .int .i64 0, .int .i64 0, .int .i64 0, .int .i64 0] 25))
  have HPP := Lib.hid hp
  have C3 := Lib.hid c3
  have HDM := Lib.hid hdm
  have HTG := Lib.hid htg
  have s1 := Lib.hid (show (w.alloc (.cells #[.int .i64 0, .int .i64 0, .int .i64 0, .int .i64 0, .int .i64 0, .int .i64 0, .int .i64 0, .int .i64 0, .int .i64 0] 25)).heap.size = w.heap.size + 1 by simp)
  have s2 := Lib.hid (show ((w.alloc (.cells #[.int .i64 0, .int .i64 0, .int .i64 0, .int .i64 0, .int .i64 0, .int .i64 0, .int .i64 0, .int .i64 0, .int .i64 0] 25)).alloc (.cells #[.int .i64 0, .int .i64 0, .int .i64 0, .int .i64 0, .int .i64 0, .int .i64 0, .int .i64 0, .int .i64 0, .int .i64 0] 25)).heap.size = w.heap.size + 2 by simp)
  clear V T hs hb c2 hp kb1 h0 hdm htg hfs hDD ha3 c3
  go_enter Tryd.func38, Tryd.ntmps38
  go_wp2_with (first
    | (go_at_call 25; (with_reducible refine (ldemand_t _ _).mono ?_); rintro e w' ⟨rfl, rfl⟩)
    | (go_at_call 26; (with_reducible refine (HPL.out _ _).mono ?_); rintro e w3 ⟨rfl, hk3⟩; have K3 := Lib.hid (Kp.trans K2.out hk3); have K23 := Lib.hid hk3; have K4 := Lib.hid (Kp.trans K3.out (kp_alloc w3 (.cells #[.pointer (some ⟨(w.heap.size + 1), 0, none⟩), .pointer (some ⟨(w.heap.size + 1), 1, none⟩), .pointer (some ⟨(w.heap.size + 1), 2, none⟩), .pointer (some ⟨(w.heap.size + 1), 3, none⟩), .pointer (some ⟨(w.heap.size + 1), 4, none⟩), .pointer (some ⟨(w.heap.size + 1), 5, none⟩), .pointer (some ⟨(w.heap.size + 1), 6, none⟩), .pointer (some ⟨(w.heap.size + 1), 7, none⟩), .pointer (some ⟨(w.heap.size + 1), 8, none⟩)] 52))); have e3 := kp_cell K4.out HPP.out; clear hk3)
    | (go_at_call 40; (with_reducible refine (HS.out _ K4.out).mono ?_); rintro e w5 ⟨v, gs, rfl, hgs, ho, hd, hk5⟩; have K5 := Lib.hid hk5; have HO := Lib.hid ho; have HD := Lib.hid hd; have HGS := Lib.hid hgs; obtain ⟨av, cv, hv⟩ := (own_slq rfl ho hd).form; rw [List.length_map] at hv; subst hv; clear hk5 ho hd hgs)
    | (go_at_call 39; (with_reducible refine (must_fields_t _ _).mono ?_); rintro e w' ⟨rfl, rfl⟩))
  obtain ⟨L, hAL, DS⟩ : ∃ L, w3.heap.size < L ∧ DeS w w.heap.size (w.heap.size + 1) w3.heap.size L (.slice av gs.length cv) gs (List.replicate 9 0) w5 :=
    ⟨_, by simp, Kp.trans K4.out K5.out, kp_row K5.out (kp_row (kp_alloc w3 _) (kp_row K23.out hzR.out)), kp_row K5.out (kp_row (kp_alloc w3 _) (kp_row K23.out hzB.out)), kp_row K5.out (MapKept.heap_alloc w3 _).1, HO.out, HD.out⟩
  have h23 : w.heap.size + 2 ≤ w3.heap.size := by rw [← s2.out]; exact Below.size K23.out
  have HNF := C3
  clear K2 hzR hzB s1 s2 d2 dp e3 HPL HS K23 K3 K4 K5 HO HD
  obtain ⟨B, hBB⟩ : ∃ x, w.heap.size + 1 = x := ⟨_, rfl⟩
  obtain ⟨A, hAA⟩ : ∃ x, w3.heap.size = x := ⟨_, rfl⟩
  rw [hAA] at hAL DS h23 ⊢
  rw [hBB] at DS ⊢
  obtain ⟨R, hRR⟩ : ∃ x, w.heap.size = x := ⟨_, rfl⟩
  rw [hRR] at DS hBB h23 ⊢
  have hRB : R ≠ B := by omega
  have hAB : A ≠ B := by omega
  have hBL : B < L := by omega
  have hwB : w.heap.size ≤ B := by omega
  have hwR : w.heap.size ≤ R := by omega
  have NR := Lib.hid hRB
  have NA := Lib.hid hAB
  have NL := Lib.hid hBL
  have NB := Lib.hid hwB
  have NQ := Lib.hid hwR
  obtain ⟨kf, hkf⟩ : ∃ x, gs.length = x := ⟨_, rfl⟩
  have hfl : fs.length = kf := by rw [HGS.out, List.length_map, hkf]
  rw [hfl] at h17
  rw [hkf] at DS ⊢
  have HFL := Lib.hid hfl
  have HDS := Lib.hid DS
  have HKF := Lib.hid hkf
  clear hAL h23 hBB hRR hRB hAB hBL hwB hwR hfl DS hkf
  go_loopw [18] (fun i wr => ∃ (j : Nat) (l : List Int), j ≤ kf ∧ i = .int .i64 j ∧ l.length = 9 ∧ DeS w R B A L (.slice av kf cv) gs l wr ∧ putF (List.replicate 9 0) fs = putF l (fs.drop j)) (fun i _ => kf - (intOf i).toNat)
  case atStart => exact ⟨0, _, Nat.zero_le _, rfl, rfl, HDS.out, rfl⟩
  case round =>
    obtain ⟨j, l, hj, rfl, hl9, hds, hput⟩ := hrel
    obtain ⟨jj, hjj⟩ : ∃ jj : Int, (j : Int) = jj := ⟨_, rfl⟩
    rw [hjj]
    have HD2 := Lib.hid hds
    have HL9 := Lib.hid hl9
    have hkl := HFL.out
    by_cases hlt : j < kf
    · have hjl : j < fs.length := by omega
      have hsq : SlQ (.slice av kf cv) fs wr := by rw [HGS.out]; exact own_slq rfl hds.own hds.od
      obtain ⟨b, off, rfl, ct, ad, cd, cdt, hsd, hbd⟩ := hsq.at j hjl
      obtain ⟨t0, t1, t2⟩ := HTG.out fs[j] (List.getElem_mem hjl)
      have hdr : fs.drop j = fs[j] :: fs.drop (j + 1) := List.drop_eq_getElem_cons hjl
      rw [hdr, putF] at hput
      obtain ⟨y, hy⟩ : ∃ y, fs[j] = y := ⟨_, rfl⟩
      rw [hy] at ct cdt hsd hbd t0 t1 t2 hput
      obtain ⟨tg, dt⟩ := y
      dsimp only at ct cdt hsd hbd t0 t1 t2 hput
      obtain ⟨dl, hdl⟩ : ∃ x, dt.length = x := ⟨_, rfl⟩
      rw [hdl] at cdt hsd t2 hput
      have ej : jj.toNat = j := by omega
      rw [← ej] at ct cdt
      have j0 : 0 ≤ jj := by omega
      have hltj : jj < kf := by omega
      have HJ := Lib.hid hjj
      have HNN := Lib.hid (fun (q : 9 < tg ∨ dl = 0 ∨ (toNum dt).2 ≠ 0) => show DD = (4, noM) by rw [HDM.out, hput, if_pos q])
      have KX := Lib.hid (Kp.trans hds.kW (kp_alloc wr (.cells #[.int .i64 tg, .slice ad dl cd] 58)))
      have x3 := kp_cell KX.out C3.out
      by_cases q1 : 9 < tg
      · have DN := Lib.hid (HNN.out (.inl q1))
        have q1' : ¬ tg ≤ 9 := by omega
        clear hsq hds hsd hbd hput hdr hy hl9 hkl hjl hlt ej hjj
        go_wp2_with (go_at_call 25; (with_reducible refine (ldemand_f _ _).mono ?_); rintro e w' ⟨rfl, rfl⟩)
        rw [DN.out]
        exact ⟨rfl, .inr ⟨rfl, rfl⟩, KX.out⟩
      · have q1' : tg ≤ 9 := by omega
        obtain ⟨tk, htk⟩ : ∃ x, tg - 1 = x := ⟨_, rfl⟩
        have tk0 : 0 ≤ tk := by omega
        have tk9 : tk < 9 := by omega
        have hkn : tk.toNat < 9 := by omega
        have hwp : IntKind.i64.wrap tk = tk := IntWalk.i64_in tk (by omega)
        have hr := (MapKept.heap_alloc wr (.cells #[.int .i64 tg, .slice ad dl cd] 58)).1
        have DX := Lib.hid (hds.kp (kp_alloc wr (.cells #[.int .i64 tg, .slice ad dl cd] 58)))
        have SX := Lib.hid (hsd.kp (kp_alloc wr (.cells #[.int .i64 tg, .slice ad dl cd] 58)))
        have NXB0 := Below.size hds.kW
        have hlw := old_of_row hds.bB
        have HTK := Lib.hid htk
        have HPUT := Lib.hid hput
        have HBD := Lib.hid hbd
        have HDL := Lib.hid hdl
        clear hsq hsd hput hdr hy hl9 hkl hjl hlt ej hjj hds hbd hdl
        go_wp2_with (go_at_call 25; (with_reducible refine (ldemand_t _ _).mono ?_); rintro e w' ⟨rfl, rfl⟩)
        obtain ⟨wX, hwX⟩ : ∃ x, wr.alloc (.cells #[.int .i64 tg, .slice ad dl cd] 58) = x := ⟨_, rfl⟩
        obtain ⟨X, hXX⟩ : ∃ x, wr.heap.size = x := ⟨_, rfl⟩
        rw [hwX] at DX SX KX hr ⊢
        rw [hXX] at hr NXB0 hlw ⊢
        have NXB : X ≠ B := by omega
        have NAB := NA.out
        have xt : wX.cell? ⟨X, 0, none⟩ = some (.int .i64 tg) := by unfold World.cell?; dsimp only; rw [hr]; rfl
        have xd : wX.cell? ⟨X, 1, none⟩ = some (.slice ad dl cd) := by unfold World.cell?; dsimp only; rw [hr]; rfl
        have xa := plM_cell DX.out.bA tk.toNat hkn
        have DXD := Lib.hid (DX.out.kp (Kp.refl wX).drew)
        have SXD := Lib.hid (SX.out.kp (Kp.refl wX).drew)
        have hL9 := HL9.out
        by_cases q2 : (toNum dt).2 ≠ 0 ∨ (toNum dt).1 = 0
        · have HNUM := Lib.hid (HNB.out ad cd dt dl HDL.out HBD.out wX.drew (Kp.trans KX.out (Kp.refl wX).drew) SXD.out q2)
          have DN := Lib.hid (HNN.out (by
            rcases q2 with q | q
            · exact .inr (.inr q)
            · by_cases q3 : (toNum dt).2 = 0
              · right; left; rw [← HDL.out]; exact toNum_zero dt HBD.out q q3
              · exact .inr (.inr q3)))
          clear hwX hXX hr q2 x3 ct cdt HNN
          refine wp_region_held_drew (S := fun w' => Kb B wX w') (by kernel_rfl) ?_ (fun hHeld => ?_)
          · exact kb_drew (Kb.refl B wX)
          refine wpAnyH_take (i := 0) (v := ?_) rfl (by kernel_rfl) (by kernel_rfl) (by kernel_rfl) (fun _ _ _ h => h) (Or.inl ⟨by rfl, ?_⟩) (by assumption) ?_
          rotate_left
          · intro w hSw; go_simp; try with_reducible rfl
          go_simp
          refine wpAnyH_take (i := 1) (v := ?_) rfl (by kernel_rfl) (by kernel_rfl) (by kernel_rfl) (fun _ _ _ h => h) (Or.inl ⟨by rfl, ?_⟩) (by assumption) ?_
          rotate_left
          · intro w hSw; have q := kb_cell hSw NXB xt; go_simp; try with_reducible rfl
          go_simp
          refine wpAnyH_take (i := 2) (v := ?_) rfl (by kernel_rfl) (by kernel_rfl) (by kernel_rfl) (fun _ _ _ h => h) (Or.inl ⟨by rfl, ?_⟩) (by assumption) ?_
          rotate_left
          · intro w hSw; go_simp; try with_reducible rfl
          go_simp
          refine wpAnyH_take (i := 3) (v := ?_) rfl (by kernel_rfl) (by kernel_rfl) (by kernel_rfl) (fun _ _ _ h => h) (Or.inl ⟨by rfl, ?_⟩) (by assumption) ?_
          rotate_left
          · intro w hSw; go_simp; try with_reducible rfl
          go_simp
          refine wpAnyH_take (i := 4) (v := ?_) rfl (by kernel_rfl) (by kernel_rfl) (by kernel_rfl) (fun _ _ _ h => h) (Or.inl ⟨by rfl, ?_⟩) (by assumption) ?_
          rotate_left
          · intro w hSw; have q := kb_cell hSw NAB xa; go_simp; try with_reducible rfl
          go_simp
          refine wpAnyH_take (i := 5) (v := ?_) rfl (by kernel_rfl) (by kernel_rfl) (by kernel_rfl) (fun _ _ _ h => h) (Or.inl ⟨by rfl, ?_⟩) (by assumption) ?_
          rotate_left
          · intro w hSw; go_simp; try with_reducible rfl
          go_simp
          refine wpAnyH_take (i := 6) (v := ?_) rfl (by kernel_rfl) (by kernel_rfl) (by kernel_rfl) (fun _ _ _ h => h) (Or.inl ⟨by rfl, ?_⟩) (by assumption) ?_
          rotate_left
          · intro w hSw; have q := kb_cell hSw NXB xd; go_simp; try with_reducible rfl
          go_simp
          refine wpAnyH_ready (rs := [7]) (by kernel_rfl) (by simp) ?_
          refine AllReadyH.cons rfl (fun K hK => ?_) AllReadyH.nil
          go_simp
          go_wp2_with (go_at_call 41; (with_reducible refine HNUM.out.mono ?_); rintro e w6 ⟨rfl, hk6⟩)
          rw [DN.out]
          exact ⟨rfl, .inr ⟨rfl, rfl⟩, Kp.trans KX.out (Kp.trans (Kp.refl wX).drew hk6)⟩
        · obtain ⟨tn, htn⟩ : ∃ x, (toNum dt).1 = x := ⟨_, rfl⟩
          have h20 : (toNum dt).2 = 0 := Classical.byContradiction fun q => q2 (.inl q)
          have tn0 : tn ≠ 0 := fun q => q2 (.inr (htn.trans q))
          have hdt : toNum dt = (tn, 0) := Prod.ext htn h20
          have HNUM := Lib.hid (HNO.out ad cd dt dl HDL.out HBD.out wX.drew (Kp.trans KX.out (Kp.refl wX).drew) SXD.out tn hdt tn0)
          have dl0 : dl ≠ 0 := fun q => by
            have : dt = [] := List.length_eq_zero_iff.1 (by rw [HDL.out]; exact q)
            subst this
            exact tn0 (htn.symm.trans rfl)
          have HPT : Hid (putF (List.replicate 9 0) fs = putF (l.set tk.toNat tn) (fs.drop (j + 1))) := Lib.hid (by
            rw [HPUT.out, if_neg (by rw [hdt]; simp only []; omega), htn, HTK.out])
          clear hwX hXX hr q2 x3 ct cdt HNN htn h20 hdt HPUT
          refine wp_region_held_drew (S := fun w' => Kb B wX w') (by kernel_rfl) ?_ (fun hHeld => ?_)
          · exact kb_drew (Kb.refl B wX)
          refine wpAnyH_take (i := 0) (v := ?_) rfl (by kernel_rfl) (by kernel_rfl) (by kernel_rfl) (fun _ _ _ h => h) (Or.inl ⟨by rfl, ?_⟩) (by assumption) ?_
          rotate_left
          · intro w hSw; go_simp; try with_reducible rfl
          go_simp
          refine wpAnyH_take (i := 1) (v := ?_) rfl (by kernel_rfl) (by kernel_rfl) (by kernel_rfl) (fun _ _ _ h => h) (Or.inl ⟨by rfl, ?_⟩) (by assumption) ?_
          rotate_left
          · intro w hSw; have q := kb_cell hSw NXB xt; go_simp; try with_reducible rfl
          go_simp
          refine wpAnyH_take (i := 2) (v := ?_) rfl (by kernel_rfl) (by kernel_rfl) (by kernel_rfl) (fun _ _ _ h => h) (Or.inl ⟨by rfl, ?_⟩) (by assumption) ?_
          rotate_left
          · intro w hSw; go_simp; try with_reducible rfl
          go_simp
          refine wpAnyH_take (i := 3) (v := ?_) rfl (by kernel_rfl) (by kernel_rfl) (by kernel_rfl) (fun _ _ _ h => h) (Or.inl ⟨by rfl, ?_⟩) (by assumption) ?_
          rotate_left
          · intro w hSw; go_simp; try with_reducible rfl
          go_simp
          refine wpAnyH_take (i := 4) (v := ?_) rfl (by kernel_rfl) (by kernel_rfl) (by kernel_rfl) (fun _ _ _ h => h) (Or.inl ⟨by rfl, ?_⟩) (by assumption) ?_
          rotate_left
          · intro w hSw; have q := kb_cell hSw NAB xa; go_simp; try with_reducible rfl
          go_simp
          refine wpAnyH_take (i := 5) (v := ?_) rfl (by kernel_rfl) (by kernel_rfl) (by kernel_rfl) (fun _ _ _ h => h) (Or.inl ⟨by rfl, ?_⟩) (by assumption) ?_
          rotate_left
          · intro w hSw; go_simp; try with_reducible rfl
          go_simp
          refine wpAnyH_take (i := 6) (v := ?_) rfl (by kernel_rfl) (by kernel_rfl) (by kernel_rfl) (fun _ _ _ h => h) (Or.inl ⟨by rfl, ?_⟩) (by assumption) ?_
          rotate_left
          · intro w hSw; have q := kb_cell hSw NXB xd; go_simp; try with_reducible rfl
          go_simp
          refine wpAnyH_ready (rs := [7]) (by kernel_rfl) (by simp) ?_
          refine AllReadyH.cons rfl (fun K hK => ?_) AllReadyH.nil
          go_simp
          go_wp2_with (go_at_call 41; (with_reducible refine HNUM.out.mono ?_); rintro e w6 ⟨rfl, hk6⟩; have K6 := Lib.hid hk6; have D6 := Lib.hid (DXD.out.kp hk6); have cB := nums_cell D6.out.bB tk.toNat (by rw [hL9]; exact hkn); have zB := nums_frozen D6.out.bB tk.toNat; clear hk6)
          refine hK.out _ _ ?_ (fun hHeld => ?_)
          · exact Kb.kp (kb_drew (Kb.refl B wX)) K6.out
          clear hK K
          refine wpAnyH_take (i := 8) (v := ?_) rfl (by kernel_rfl) (by kernel_rfl) (by kernel_rfl) (fun _ _ _ h => h) (Or.inl ⟨by rfl, ?_⟩) (by assumption) ?_
          rotate_left
          · intro w hSw; go_simp; try with_reducible rfl
          go_simp
          refine wpAnyH_ready (rs := [9]) (by kernel_rfl) (by simp) ?_
          refine AllReadyH.cons rfl (fun K hK => ?_) AllReadyH.nil
          go_simp
          refine hK.out _ _ ?_ (fun hHeld => ?_)
          · exact kb_set (Kb.kp (kb_drew (Kb.refl B wX)) K6.out) _ _
          clear hK K
          refine wpAnyH_done (by kernel_rfl) ?_ _
          go_wp2
          have hjj := HJ.out
          go_roundw
          case rel => exact ⟨j + 1, l.set tk.toNat tn, by omega, by congr 1; omega, by rw [List.length_set]; exact HL9.out, D6.out.set NB.out NR.out NA.out NL.out _ _, HPT.out⟩
          case measure => simp [intOf]; omega
    · obtain rfl : j = kf := by omega
      rw [← hkl, List.drop_length, putF] at hput
      have HDE : DD = if rightM (ofL l) = true then (0, ofL l) else (4, noM) := by rw [HDM.out, hput]
      obtain ⟨k, f, t, n, s, r, p, o, c, rfl⟩ := nine hl9
      have hol : ofL [k, f, t, n, s, r, p, o, c] = ⟨k, f, t, n, s, r, p, o, c⟩ := rfl
      rw [hol] at HDE
      obtain ⟨g0, g1, g2, g3, g4, g5, g6, g7, g8⟩ := cells9 (x0 := .int .i64 k) (x1 := .int .i64 f) (x2 := .int .i64 t) (x3 := .int .i64 n) (x4 := .int .i64 s) (x5 := .int .i64 r) (x6 := .int .i64 p) (x7 := .int .i64 o) (x8 := .int .i64 c) hds.bB
      have HRR := fun w1 (hk : Kp wr w1) => HRT.out ⟨k, f, t, n, s, r, p, o, c⟩ w1 (Kp.trans hds.kW hk)
      have x3 := kp_cell hds.kW C3.out
      have hex : ¬ jj < j := by omega
      cases hrm : rightM ⟨k, f, t, n, s, r, p, o, c⟩ with
      | true =>
        rw [hrm] at HDE HRR
        rw [if_pos rfl] at HDE
        dsimp only [MM.cells] at HRR
        have HRR := Lib.hid HRR
        clear hput hkl hlt hjj hol hrm hds hl9
        go_wp2
        refine wp_region_held_drew (S := fun w' => Kp wr w') (by kernel_rfl) ?_ (fun hHeld => ?_)
        · exact (Kp.refl wr).drew
        refine wpAnyH_take (i := 0) (v := ?_) rfl (by kernel_rfl) (by kernel_rfl) (by kernel_rfl) (fun _ _ _ h => h) (Or.inl ⟨by rfl, ?_⟩) (by assumption) ?_
        rotate_left
        · intro w hSw; have q0 := kp_cell hSw g0; have q1 := kp_cell hSw g1; have q2 := kp_cell hSw g2; have q3 := kp_cell hSw g3; have q4 := kp_cell hSw g4; have q5 := kp_cell hSw g5; have q6 := kp_cell hSw g6; have q7 := kp_cell hSw g7; have q8 := kp_cell hSw g8; go_simp; try with_reducible rfl
        go_simp
        refine wpAnyH_take (i := 2) (v := ?_) rfl (by kernel_rfl) (by kernel_rfl) (by kernel_rfl) (fun _ _ _ h => h) (Or.inl ⟨by rfl, ?_⟩) (by assumption) ?_
        rotate_left
        · intro w hSw; have q := kp_cell hSw x3; go_simp; try with_reducible rfl
        go_simp
        refine wpAnyH_ready (rs := [1]) (by kernel_rfl) (by simp) ?_
        refine AllReadyH.cons rfl (fun K hK => ?_) AllReadyH.nil
        go_simp
        go_wp2_with (go_at_call 10; (with_reducible refine (HRR.out _ hHeld).mono ?_); rintro e w7 ⟨rfl, hk7⟩; have K7 := Lib.hid (Kp.trans hHeld hk7); clear hk7)
        refine hK.out _ _ ?_ (fun hHeld => ?_)
        · exact K7.out
        clear hK K
        refine wpAnyH_ready (rs := [3]) (by kernel_rfl) (by simp) ?_
        refine AllReadyH.cons rfl (fun K hK => ?_) AllReadyH.nil
        go_simp
        go_wp2_with (go_at_call 25; (with_reducible refine (ldemand_t _ _).mono ?_); rintro e w' ⟨rfl, rfl⟩)
        refine hK.out _ _ ?_ (fun hHeld => ?_)
        · exact hHeld
        clear hK K
        refine wpAnyH_done (by kernel_rfl) ?_ _
        have D7 := Lib.hid (HD2.out.kp K7.out)
        obtain ⟨d0, d1, d2, d3, d4, d5, d6, d7, d8⟩ := cells9 D7.out.bR
        obtain ⟨e0, e1, e2, e3, e4, e5, e6, e7, e8⟩ := cells9 (x0 := .int .i64 k) (x1 := .int .i64 f) (x2 := .int .i64 t) (x3 := .int .i64 n) (x4 := .int .i64 s) (x5 := .int .i64 r) (x6 := .int .i64 p) (x7 := .int .i64 o) (x8 := .int .i64 c) D7.out.bB
        have fz := froz9 D7.out.bR
        go_wp2
        have hz9 := set9 (.int .i64 k) (.int .i64 f) (.int .i64 t) (.int .i64 n) (.int .i64 s) (.int .i64 r) (.int .i64 p) (.int .i64 o) (.int .i64 c) D7.out.bR
        refine bodyPost_ret (results_cell_row (p := 1) rfl _ _ R 25 _ (0, 0) _ rfl hz9 Tryd.underlying25 rfl (by kernel_rfl)) rfl ?_
        rw [HDE]
        exact ⟨.inl ⟨rfl, rfl⟩, set9_kp (Kp.trans HD2.out.kW K7.out) NQ.out _ _ _ _ _ _ _ _ _⟩
      | false =>
        rw [hrm] at HDE HRR
        rw [if_neg (by decide)] at HDE
        dsimp only [MM.cells] at HRR
        have HRR := Lib.hid HRR
        clear hput hkl hlt hjj hol hrm hds hl9
        go_wp2
        refine wp_region_held_drew (S := fun w' => Kp wr w') (by kernel_rfl) ?_ (fun hHeld => ?_)
        · exact (Kp.refl wr).drew
        refine wpAnyH_take (i := 0) (v := ?_) rfl (by kernel_rfl) (by kernel_rfl) (by kernel_rfl) (fun _ _ _ h => h) (Or.inl ⟨by rfl, ?_⟩) (by assumption) ?_
        rotate_left
        · intro w hSw; have q0 := kp_cell hSw g0; have q1 := kp_cell hSw g1; have q2 := kp_cell hSw g2; have q3 := kp_cell hSw g3; have q4 := kp_cell hSw g4; have q5 := kp_cell hSw g5; have q6 := kp_cell hSw g6; have q7 := kp_cell hSw g7; have q8 := kp_cell hSw g8; go_simp; try with_reducible rfl
        go_simp
        refine wpAnyH_take (i := 2) (v := ?_) rfl (by kernel_rfl) (by kernel_rfl) (by kernel_rfl) (fun _ _ _ h => h) (Or.inl ⟨by rfl, ?_⟩) (by assumption) ?_
        rotate_left
        · intro w hSw; have q := kp_cell hSw x3; go_simp; try with_reducible rfl
        go_simp
        refine wpAnyH_ready (rs := [1]) (by kernel_rfl) (by simp) ?_
        refine AllReadyH.cons rfl (fun K hK => ?_) AllReadyH.nil
        go_simp
        go_wp2_with (go_at_call 10; (with_reducible refine (HRR.out _ hHeld).mono ?_); rintro e w7 ⟨rfl, hk7⟩; have K7 := Lib.hid (Kp.trans hHeld hk7); clear hk7)
        refine hK.out _ _ ?_ (fun hHeld => ?_)
        · exact K7.out
        clear hK K
        refine wpAnyH_ready (rs := [3]) (by kernel_rfl) (by simp) ?_
        refine AllReadyH.cons rfl (fun K hK => ?_) AllReadyH.nil
        go_simp
        go_wp2_with (go_at_call 25; (with_reducible refine (ldemand_f _ _).mono ?_); rintro e w' ⟨rfl, rfl⟩)
        rw [HDE]
        exact ⟨rfl, .inr ⟨rfl, rfl⟩, Kp.trans HD2.out.kW K7.out⟩
end Go.Proofs.YtfginhckeogafaaDoor

namespace Go.Proofs.YtfginhckeogafaaDoor
open Go.RowKit Go.ChangeShapes Go.WideShapes

theorem try_bytes_box (w : World) (o o' : Obj) : ((w.alloc o).alloc o').heap[w.heap.size + 1]? = some o' := by
  have := (MapKept.heap_alloc (w.alloc o) o').1
  simpa using this
set_option maxRecDepth 100000 in
theorem decode_val (a : Option Addr) (cap : Nat) (len : Nat) (w : World) (k f t n s r p o c : Int)
    (H : ∀ w1, Kp w w1 → w1.cell? ⟨w.heap.size, 0, none⟩ = some (.slice a len cap) → Calls Tryd.prog 38 #[.pointer (some ⟨w.heap.size, 0, none⟩)] w1 fun e w' => e = .returned (.agg #[.int .i64 k, .int .i64 f, .int .i64 t, .int .i64 n, .int .i64 s, .int .i64 r, .int .i64 p, .int .i64 o, .int .i64 c]) ∧ Kp w1 w') :
    Calls Tryd.prog 13 #[.slice a len cap] w fun e w' => e = .returned (.tuple #[.agg #[.int .i64 k, .int .i64 f, .int .i64 t, .int .i64 n, .int .i64 s, .int .i64 r, .int .i64 p, .int .i64 o, .int .i64 c], .nilIface]) ∧ Kp w w' := by
  have hmf : ∀ (fn : Fn) (first cap : Array Value) (w : World), (Instr.makeFunc fn first cap).run Tryd.prog w = .ok (.func fn first cap) w := fun _ _ _ _ => rfl
  have kb := kp_alloc w (.cells #[.slice a len cap] 27)
  have kb2 := Kp.trans kb (kp_alloc (w.alloc (.cells #[.slice a len cap] 27)) (.cells #[.int .i64 0, .int .i64 0, .int .i64 0, .int .i64 0, .int .i64 0, .int .i64 0, .int .i64 0, .int .i64 0, .int .i64 0] 25))
  have hc := kp_cell (kp_alloc (w.alloc (.cells #[.slice a len cap] 27)) (.cells #[.int .i64 0, .int .i64 0, .int .i64 0, .int .i64 0, .int .i64 0, .int .i64 0, .int .i64 0, .int .i64 0, .int .i64 0] 25)) (box_cell w (.slice a len cap) 27)
  have hz := try_bytes_box w (.cells #[.slice a len cap] 27) (.cells #[.int .i64 0, .int .i64 0, .int .i64 0, .int .i64 0, .int .i64 0, .int .i64 0, .int .i64 0, .int .i64 0, .int .i64 0] 25)
  have HT := Lib.hid (try_msg_val 38 #[.pointer (some ⟨w.heap.size, 0, none⟩)] k f t n s r p o c ((w.alloc (.cells #[.slice a len cap] 27)).alloc (.cells #[.int .i64 0, .int .i64 0, .int .i64 0, .int .i64 0, .int .i64 0, .int .i64 0, .int .i64 0, .int .i64 0, .int .i64 0] 25)) (by intro w; simp [go_sem]) fun w1 hk => H w1 (Kp.trans kb2 hk) (kp_cell hk hc))
  clear H hc kb
  have KB := Lib.hid kb2
  have HZ := Lib.hid hz
  go_enter Tryd.func13, Tryd.ntmps13
  go_wp2_with (go_at_call 37; (with_reducible refine HT.out.mono ?_); rintro e w5 ⟨rfl, hk⟩; have HK := Lib.hid hk; have HR := Lib.hid (kp_row hk HZ.out); obtain ⟨d0, d1, d2, d3, d4, d5, d6, d7, d8⟩ := cells9 HR.out; have fz := froz9 HR.out; clear hk)
  have hz9 := set9 (.int .i64 k) (.int .i64 f) (.int .i64 t) (.int .i64 n) (.int .i64 s) (.int .i64 r) (.int .i64 p) (.int .i64 o) (.int .i64 c) HR.out
  refine bodyPost_ret (results_row_tmp8 (p := 2) (u := 3) rfl _ _ (w.heap.size + 1) 25 _ (0, 0) _ rfl hz9 Tryd.underlying25 rfl (by kernel_rfl)) rfl ?_
  exact ⟨rfl, set9_kp (Kp.trans KB.out HK.out) (by omega) _ _ _ _ _ _ _ _ _⟩

set_option maxRecDepth 100000 in
theorem decode_err (ads : List Addr) (a : Option Addr) (cap : Nat) (len : Nat) (w : World) (V : St ads w) (i : Nat) (hi : i < ads.length)
    (H : ∀ w1, Kp w w1 → w1.cell? ⟨w.heap.size, 0, none⟩ = some (.slice a len cap) → Calls Tryd.prog 38 #[.pointer (some ⟨w.heap.size, 0, none⟩)] w1 fun e w' => e = .panicked [{ v := snt (ads[i]'hi), recovered := false }] ∧ Kp w1 w') :
    Calls Tryd.prog 13 #[.slice a len cap] w fun e w' => e = .returned (.tuple #[.agg #[.int .i64 0, .int .i64 0, .int .i64 0, .int .i64 0, .int .i64 0, .int .i64 0, .int .i64 0, .int .i64 0, .int .i64 0], snt (ads[i]'hi)]) ∧ Kp w w' := by
  have hmf : ∀ (fn : Fn) (first cap : Array Value) (w : World), (Instr.makeFunc fn first cap).run Tryd.prog w = .ok (.func fn first cap) w := fun _ _ _ _ => rfl
  have kb := kp_alloc w (.cells #[.slice a len cap] 27)
  have kb2 := Kp.trans kb (kp_alloc (w.alloc (.cells #[.slice a len cap] 27)) (.cells #[.int .i64 0, .int .i64 0, .int .i64 0, .int .i64 0, .int .i64 0, .int .i64 0, .int .i64 0, .int .i64 0, .int .i64 0] 25))
  have hc := kp_cell (kp_alloc (w.alloc (.cells #[.slice a len cap] 27)) (.cells #[.int .i64 0, .int .i64 0, .int .i64 0, .int .i64 0, .int .i64 0, .int .i64 0, .int .i64 0, .int .i64 0, .int .i64 0] 25)) (box_cell w (.slice a len cap) 27)
  have hz := try_bytes_box w (.cells #[.slice a len cap] 27) (.cells #[.int .i64 0, .int .i64 0, .int .i64 0, .int .i64 0, .int .i64 0, .int .i64 0, .int .i64 0, .int .i64 0, .int .i64 0] 25)
  have HT := Lib.hid (try_msg_err ads i hi 38 #[.pointer (some ⟨w.heap.size, 0, none⟩)] ((w.alloc (.cells #[.slice a len cap] 27)).alloc (.cells #[.int .i64 0, .int .i64 0, .int .i64 0, .int .i64 0, .int .i64 0, .int .i64 0, .int .i64 0, .int .i64 0, .int .i64 0] 25)) (V.below kb2) (by intro w; simp [go_sem]) fun w1 hk => H w1 (Kp.trans kb2 hk) (kp_cell hk hc))
  clear H hc kb V
  have KB := Lib.hid kb2
  have HZ := Lib.hid hz
  go_enter Tryd.func13, Tryd.ntmps13
  go_wp2_with (go_at_call 37; (with_reducible refine HT.out.mono ?_); rintro e w5 ⟨rfl, hk⟩; have HK := Lib.hid hk; have HR := Lib.hid (kp_row hk HZ.out); obtain ⟨d0, d1, d2, d3, d4, d5, d6, d7, d8⟩ := cells9 HR.out; have fz := froz9 HR.out; clear hk)
  have hz9 := set9 (.int .i64 0) (.int .i64 0) (.int .i64 0) (.int .i64 0) (.int .i64 0) (.int .i64 0) (.int .i64 0) (.int .i64 0) (.int .i64 0) HR.out
  refine bodyPost_ret (results_row_tmp8 (p := 2) (u := 3) rfl _ _ (w.heap.size + 1) 25 _ (0, 0) _ rfl hz9 Tryd.underlying25 rfl (by kernel_rfl)) rfl ?_
  exact ⟨rfl, set9_kp (Kp.trans KB.out HK.out) (by omega) _ _ _ _ _ _ _ _ _⟩

theorem errI_is (ads : List Addr) (i : Nat) (hi : i < ads.length) : errI ads ((i : Int) + 1) = snt (ads[i]'hi) := errI_at ads i hi
theorem decM_num (bs : List Int) (h0 : (splitQ 17 bs 0 0).1 = 0) (hl : bs.length ≤ 1000) : (decM bs).1 = 0 ∨ decM bs = (4, noM) := by
  unfold decM
  rw [if_neg (by omega), if_neg (fun q => q h0)]
  split
  · exact .inr rfl
  · split
    · exact .inl rfl
    · exact .inr rfl
/-- WHAT Decode ANSWERS. -/
theorem decode_any (ads : List Addr) (a : Option Addr) (cap : Nat) (bs : List Int) (len : Nat) (hlen : bs.length = len) (hb : InB bs) (hlc : len ≤ cap) (w : World) (V : St ads w) (T : Tab w) (hs : SlB (.slice a len cap) bs w) :
    Calls Tryd.prog 13 #[.slice a len cap] w fun e w' => e = .returned (.tuple #[.agg (decM bs).2.cells, errI ads (decM bs).1]) ∧ Kp w w' := by
  have h14 : ads.length = 14 := V.len
  have h1 : 1 < ads.length := by omega
  have h2 : 2 < ads.length := by omega
  have h3 : 3 < ads.length := by omega
  by_cases hl : 1000 < len
  · have e : decM bs = (3, noM) := by unfold decM; rw [if_pos (by omega)]
    rw [e]
    have := decode_err ads a cap len w V 2 h2 fun w1 hk hc => decode1_long ads h2 ⟨w.heap.size, 0, none⟩ a cap len w1 (V.below hk) hc hl
    rw [← errI_is ads 2 h2] at this
    exact this
  by_cases h0 : (splitQ 17 bs 0 0).1 = 0
  · have HR := fun w1 (hk : Kp w w1) hc => decode1_row ads h1 h3 ⟨w.heap.size, 0, none⟩ a cap bs len hlen hb hlc w1 (V.below hk) (T.kp hk) hc (hs.kp hk) (by omega) h0
    rcases decM_num bs h0 (by omega) with hd | hd
    · rw [hd, errI_nil]
      obtain ⟨m, hm⟩ : ∃ m, (decM bs).2 = m := ⟨_, rfl⟩
      rw [hm] at HR ⊢
      obtain ⟨k, f, t, n, s, r, p, o, c⟩ := m
      exact decode_val a cap len w k f t n s r p o c fun w1 hk hc => (HR w1 hk hc).mono (by
        rintro e w2 ⟨⟨_, rfl⟩ | ⟨h, _⟩, hk2⟩
        · exact ⟨rfl, hk2⟩
        · rw [hd] at h; cases h)
    · rw [hd]
      have := decode_err ads a cap len w V 3 h3 fun w1 hk hc => (HR w1 hk hc).mono (by
        rintro e w2 ⟨⟨h, _⟩ | ⟨_, rfl⟩, hk2⟩
        · rw [hd] at h; cases h
        · exact ⟨rfl, hk2⟩)
      rw [← errI_is ads 3 h3] at this
      rw [show Prod.snd ((4 : Int), noM) = noM from rfl]
      exact this
  · have e : decM bs = ((splitQ 17 bs 0 0).1, noM) := by unfold decM; rw [if_neg (by omega), if_pos h0]
    rw [e]
    rcases splitQ_num 17 bs 0 0 with h | h | h
    · exact absurd h h0
    · have := decode_err ads a cap len w V 1 h1 fun w1 hk hc => decode1_err ads h1 h2 h3 ⟨w.heap.size, 0, none⟩ a cap bs len hlen hb hlc w1 (V.below hk) hc (hs.kp hk) (by omega) 1 h1 h
      rw [← errI_is ads 1 h1] at this
      dsimp only
      rw [h]
      exact this
    · have := decode_err ads a cap len w V 3 h3 fun w1 hk hc => decode1_err ads h1 h2 h3 ⟨w.heap.size, 0, none⟩ a cap bs len hlen hb hlc w1 (V.below hk) hc (hs.kp hk) (by omega) 3 h3 h
      rw [← errI_is ads 3 h3] at this
      dsimp only
      rw [h]
      exact this
set_option maxRecDepth 100000 in
theorem answer_any (m : MM) (x y : Int) (w : World) : Calls Tryd.prog 18 #[.agg m.cells, .int .i64 x, .int .i64 y] w fun e w' => e = .returned (.agg (answerM m x y).cells) ∧ Kp w w' := by
  obtain ⟨k, f, t, n, s, r, p, o, c⟩ := m
  dsimp only [MM.cells]
  have kb := Lib.hid (kp_alloc w (.cells #[.int .i64 k, .int .i64 f, .int .i64 t, .int .i64 n, .int .i64 s, .int .i64 r, .int .i64 p, .int .i64 o, .int .i64 c] 25))
  have hr := (MapKept.heap_alloc w (.cells #[.int .i64 k, .int .i64 f, .int .i64 t, .int .i64 n, .int .i64 s, .int .i64 r, .int .i64 p, .int .i64 o, .int .i64 c] 25)).1
  obtain ⟨g0, g1, g2, g3, g4, g5, g6, g7, g8⟩ := cells9 (kp_row (kp_alloc _ (.cells #[.int .i64 0, .int .i64 0, .int .i64 0, .int .i64 0, .int .i64 0, .int .i64 0, .int .i64 0, .int .i64 0, .int .i64 0] 25)) hr)
  go_enter Tryd.func18, Tryd.ntmps18
  go_wp2
  refine bodyPost_ret (results_cell_row (p := 6) rfl _ _ (w.heap.size + 1) 25 _ (0, 0) _ rfl (try_bytes_box w _ _) Tryd.underlying25 rfl (by kernel_rfl)) rfl ?_
  exact ⟨rfl, Kp.trans kb.out (kp_alloc _ _)⟩
end Go.Proofs.YtfginhckeogafaaDoor

namespace Go.Proofs.YtfginhckeogafaaDoor
open Go.RowKit Go.ChangeShapes Go.WideShapes

theorem letC_of (ads : List Addr) (W : World) (V : St ads W) (T : Tab W) : LetC ads W where
  right := fun w1 hk m => letRight_any ads m w1 (V.below hk) (T.kp hk)
  encOk := fun w1 hk m h => (encode_ok ads m w1 (V.below hk) (T.kp hk) h).mono (by
    rintro e w' ⟨v, rfl, ho, hk2⟩
    obtain ⟨a, c, rfl, hc⟩ := enc_len ho
    exact ⟨a, c, rfl, hc, own_slb ho, hk2⟩)
  encBad := fun w1 hk m h => by
    have h3 : 3 < ads.length := by rw [V.len]; decide
    have := encode_bad ads h3 m w1 (V.below hk) (T.kp hk) h
    rw [← errI_is ads 3 h3] at this
    exact this
  dec := fun w1 hk a c bs n hn hb hc hs => decode_any ads a c bs n hn hb hc w1 (V.below hk) (T.kp hk) hs
  answer := fun w1 _ m x y => answer_any m x y w1
  down := fun w1 _ k => (down_any k w1).mono (by rintro e w' ⟨rfl, rfl⟩; exact ⟨rfl, Kp.refl _⟩)
  up := fun w1 _ k => (up_any k w1).mono (by rintro e w' ⟨rfl, rfl⟩; exact ⟨rfl, Kp.refl _⟩)
end Go.Proofs.YtfginhckeogafaaDoor

