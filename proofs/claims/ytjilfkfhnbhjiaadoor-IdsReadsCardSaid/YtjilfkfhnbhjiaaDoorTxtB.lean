/-
  TEXTS READ BACK (own work): what is read of a text that numbers have.
-/
import Derived.Test.YtjilfkfhnbhjiaaDoorIdsC
namespace Go.Proofs.YtjilfkfhnbhjiaaDoor

theorem decF_isD : ∀ k n, ∀ x ∈ decF k n, isD x = true
  | 0, _, x, h => by cases h
  | k + 1, n, x, h => by
    unfold decF at h
    split at h
    · rename_i g
      have := List.mem_singleton.1 h
      subst this
      simp only [isD, decide_eq_true_eq]; omega
    · rcases List.mem_append.1 h with h | h
      · exact decF_isD k _ x h
      · have := List.mem_singleton.1 h
        subst this
        simp only [isD, decide_eq_true_eq]; omega
theorem decF_pos : ∀ k n, 0 < k → 0 < (decF k n).length
  | 0, _, h => absurd h (by decide)
  | k + 1, n, _ => by
    unfold decF
    split
    · simp
    · simp
theorem numC_push (xs : List Int) (d : Int) : numC (xs ++ [d]) = stepC (numC xs) d := by simp [numC]
theorem decF_num : ∀ k n, n < 10 ^ k → n < 1000000 → 0 < k → numC (decF k n) = n
  | 0, _, _, _, h => absurd h (by decide)
  | k + 1, n, h, hm, _ => by
    unfold decF
    split
    · simp only [numC, List.foldl_cons, List.foldl_nil, stepC]
      rw [if_neg (by omega)]; omega
    · rename_i g
      have hk : 0 < k := by
        rcases Nat.eq_zero_or_pos k with rfl | q
        · simp at h; omega
        · exact q
      rw [numC_push, decF_num k (n / 10) (by rw [Nat.pow_succ] at h; omega) (by omega) hk]
      unfold stepC
      rw [if_neg (by omega)]; omega
theorem decF_head : ∀ k n, n < 10 ^ k → 0 < k → (decF k n).getD 0 0 = 48 → n = 0
  | 0, _, _, h, _ => absurd h (by decide)
  | k + 1, n, h, _, he => by
    unfold decF at he
    split at he
    · simp at he; omega
    · rename_i g
      have hk : 0 < k := by
        rcases Nat.eq_zero_or_pos k with rfl | q
        · simp at h; omega
        · exact q
      have hp := decF_pos k (n / 10) hk
      have e : (decF k (n / 10) ++ [((48 + n % 10 : Nat) : Int)]).getD 0 0 = (decF k (n / 10)).getD 0 0 := by
        rw [List.getD_eq_getElem?_getD, List.getD_eq_getElem?_getD, List.getElem?_append_left hp]
      rw [e] at he
      have := decF_head k (n / 10) (by rw [Nat.pow_succ] at h; omega) hk he
      omega
theorem decF_one : ∀ k, 0 < k → decF k 0 = [48]
  | 0, h => absurd h (by decide)
  | k + 1, _ => by unfold decF; rfl

/-- behind a number: nothing, or a sign that is no digit -/
def Ends (rest : List Int) : Prop := rest = [] ∨ isD (rest.getD 0 0) = false
theorem rd_num {S : List Int} {a n : Nat} {rest : List Int} (h : S.drop a = dec n ++ rest) (hn : n < 1000000) (hr : Ends rest) (ps out : List Int) :
    readM S (35 :: ps) a out = readM S ps (a + (dec n).length) (out ++ [(n : Int)]) := by
  have h8 : n < 10 ^ 8 := Nat.lt_of_lt_of_le hn (by decide)
  have hp := decF_pos 8 n (by decide)
  have hp : 0 < (dec n).length := hp
  have hl : a + ((dec n).length + rest.length) = S.length := by
    have e := congrArg List.length h
    rw [List.length_drop, List.length_append] at e
    have : a ≤ S.length := by
      rcases Nat.lt_or_ge S.length a with q | q
      · rw [List.drop_of_length_le (by omega)] at h
        have := congrArg List.length h
        simp at this; omega
      · exact q
    omega
  have hg : ∀ i, S.getD (a + i) 0 = (dec n ++ rest).getD i 0 := fun i => by
    rw [← h]; simp [List.getD, List.getElem?_drop]
  have hrun : runD S a = (dec n).length := by
    refine runD_eq (fun i hi => ?_) (by omega) ?_
    · rw [hg, List.getD_eq_getElem?_getD, List.getElem?_append_left hi, List.getElem?_eq_getElem hi]
      exact decF_isD 8 n _ (List.getElem_mem hi)
    · rcases hr with rfl | hr
      · exact .inl (by simp at hl; omega)
      · refine .inr ?_
        rw [hg, List.getD_eq_getElem?_getD, List.getElem?_append_right (Nat.le_refl _), Nat.sub_self]
        exact hr
  have htk : (S.drop a).take (runD S a) = dec n := by rw [h, hrun, List.take_left' rfl]
  rw [readM, if_pos rfl, htk, if_neg]
  · rw [hrun, show numC (dec n) = n from decF_num 8 n h8 hn (by decide)]
  · rintro (h0 | ⟨h1, h2⟩)
    · rw [hrun] at h0; omega
    · rw [hrun] at h1
      have e0 := hg 0
      rw [Nat.add_zero] at e0
      rw [e0, List.getD_eq_getElem?_getD, List.getElem?_append_left hp, ← List.getD_eq_getElem?_getD] at h2
      have hz := decF_head 8 n h8 (by decide) h2
      subst hz
      have : dec 0 = [48] := decF_one 8 (by decide)
      rw [this] at h1
      simp at h1
theorem rd_chr {S : List Int} {a : Nat} {c : Int} {rest : List Int} (h : S.drop a = c :: rest) (hc : c ≠ 35) (ps out : List Int) : readM S (c :: ps) a out = readM S ps (a + 1) out := by
  have hl : a < S.length := by
    rcases Nat.lt_or_ge a S.length with q | q
    · exact q
    · rw [List.drop_of_length_le q] at h; cases h
  have hg : S.getD a 0 = c := by
    have := congrArg (·[0]?) h
    simp only [List.getElem?_drop, Nat.add_zero, List.getElem?_cons_zero] at this
    simp [List.getD, this]
  rw [readM, if_neg hc, if_pos ⟨hl, hg⟩]
theorem rd_no {S : List Int} {a : Nat} {c p : Int} {rest : List Int} (h : S.drop a = c :: rest) (hp : p ≠ 35) (hcp : c ≠ p) (ps out : List Int) : readM S (p :: ps) a out = none := by
  have hg : S.getD a 0 = c := by
    have := congrArg (·[0]?) h
    simp only [List.getElem?_drop, Nat.add_zero, List.getElem?_cons_zero] at this
    simp [List.getD, this]
  rw [readM, if_neg hp, if_neg (fun q => hcp (hg ▸ q.2))]
theorem rd_end {S : List Int} {a : Nat} {p : Int} (h : S.drop a = []) (hp : p ≠ 35) (ps out : List Int) : readM S (p :: ps) a out = none := by
  have := List.drop_eq_nil_iff.1 h
  rw [readM, if_neg hp, if_neg (fun q => by omega)]
theorem drop_next {S : List Int} {a k : Nat} {xs rest : List Int} (h : S.drop a = xs ++ rest) (hk : xs.length = k) : S.drop (a + k) = rest := by
  rw [← List.drop_drop, h, List.drop_left' hk]
theorem end_at {S : List Int} {a : Nat} (h : S.drop a = []) (ha : a ≤ S.length) : a = S.length := by
  have := List.drop_eq_nil_iff.1 h
  omega
theorem ends_nil : Ends [] := .inl rfl
theorem ends_46 (t : List Int) : Ends (46 :: t) := .inr rfl
theorem ends_47 (t : List Int) : Ends (47 :: t) := .inr rfl

/-- numbers in front of which a pattern's signs stand, read to the end -/
theorem read_act (n s : Nat) (hn : n < 1000000) (hs : s < 1000000) (rest : List Int) (hr : Ends rest) (ps : List Int) :
    readM (actT n s ++ rest) (97 :: 35 :: 46 :: 35 :: ps) 0 [] = readM (actT n s ++ rest) ps (actT n s).length [(n : Int), (s : Int)] := by
  obtain ⟨S, hS⟩ : ∃ S, actT n s ++ rest = S := ⟨_, rfl⟩
  have h0 : S.drop 0 = 97 :: (dec n ++ (46 :: (dec s ++ rest))) := by rw [← hS]; simp [actT]
  have h1 : S.drop (0 + 1) = dec n ++ (46 :: (dec s ++ rest)) := drop_next (xs := [97]) h0 rfl
  have h2 := drop_next h1 rfl
  have h3 : S.drop (0 + 1 + (dec n).length + 1) = dec s ++ rest := drop_next (xs := [46]) h2 rfl
  rw [hS, rd_chr h0 (by decide), rd_num h1 hn (ends_46 _), rd_chr h2 (by decide), rd_num h3 hs hr]
  congr 1
  simp [actT]; omega
theorem read_part (n s : Nat) (hn : n < 1000000) (hs : s < 1000000) : readM (partT n s) partP 0 [] = some ([(n : Int), (s : Int)], (partT n s).length) := by
  obtain ⟨S, hS⟩ : ∃ S, partT n s = S := ⟨_, rfl⟩
  have h0 : S.drop 0 = 112 :: (dec n ++ (46 :: (dec s ++ []))) := by rw [← hS]; simp [partT]
  have h1 : S.drop (0 + 1) = dec n ++ (46 :: (dec s ++ [])) := drop_next (xs := [112]) h0 rfl
  have h2 := drop_next h1 rfl
  have h3 : S.drop (0 + 1 + (dec n).length + 1) = dec s ++ [] := drop_next (xs := [46]) h2 rfl
  unfold partP
  rw [hS, rd_chr h0 (by decide), rd_num h1 hn (ends_46 _), rd_chr h2 (by decide), rd_num h3 hs ends_nil, readM, ← hS]
  simp [partT]; omega
theorem read_node (n : Nat) (hn : n < 1000000) : readM (nodeT n) nodeP 0 [] = some ([(n : Int)], (nodeT n).length) := by
  obtain ⟨S, hS⟩ : ∃ S, nodeT n = S := ⟨_, rfl⟩
  have h0 : S.drop 0 = 110 :: (dec n ++ []) := by rw [← hS]; simp [nodeT]
  have h1 : S.drop (0 + 1) = dec n ++ [] := drop_next (xs := [110]) h0 rfl
  unfold nodeP
  rw [hS, rd_chr h0 (by decide), rd_num h1 hn ends_nil, readM, ← hS]
  simp [nodeT]; omega
theorem read_reg (n s r : Nat) (hn : n < 1000000) (hs : s < 1000000) (hr : r < 1000000) : readM (regT n s r) regP 0 [] = some ([(n : Int), (s : Int), (r : Int)], (regT n s r).length) := by
  have e : regT n s r = actT n s ++ (47 :: dec r) := by simp [regT]
  have h1 := read_act n s hn hs (47 :: dec r) (ends_47 _) [47, 35]
  rw [← e] at h1
  have h0 : (regT n s r).drop (actT n s).length = 47 :: (dec r ++ []) := by rw [e, List.drop_left' rfl]; simp
  have h2 : (regT n s r).drop ((actT n s).length + 1) = dec r ++ [] := drop_next (xs := [47]) h0 rfl
  show readM (regT n s r) (97 :: 35 :: 46 :: 35 :: [47, 35]) 0 [] = _
  rw [h1, rd_chr h0 (by decide), rd_num h2 hr ends_nil, readM]
  simp [regT]; omega

theorem numM_ok {S P lims l : List Int} (h : readM S P 0 [] = some (l, S.length)) (ha : allL l lims = true) : numM S P lims = (l, 0) := by
  unfold numM; rw [h]; simp [ha]
theorem numM_none {S P lims : List Int} (h : readM S P 0 [] = none) : numM S P lims = ([], 4) := by
  unfold numM; rw [h]
theorem numM_more {S P lims l : List Int} {b : Nat} (h : readM S P 0 [] = some (l, b)) (hb : b ≠ S.length) : numM S P lims = ([], 4) := by
  unfold numM; rw [h]; simp [hb]

theorem act_back {n s : Nat} (hn : n < 4) (hs : s < 1000000) : actN (actT n s) = ([(n : Int), (s : Int)], 0) := by
  have h := read_act n s (by omega) hs [] ends_nil []
  rw [List.append_nil, readM] at h
  exact numM_ok h (by simp [allL]; omega)
theorem reg_back {n s r : Nat} (hn : n < 4) (hs : s < 1000000) (hr : r < 6) : regN (regT n s r) = ([(n : Int), (s : Int), (r : Int)], 0) :=
  numM_ok (read_reg n s r (by omega) hs (by omega)) (by simp [allL]; omega)
theorem part_back {n p : Nat} (hn : n < 4) (hp : p < 8) : partN (partT n p) = ([(n : Int), (p : Int)], 0) :=
  numM_ok (read_part n p (by omega) (by omega)) (by simp [allL]; omega)
theorem node_back {n : Nat} (hn : n < 4) : nodeN (nodeT n) = ([(n : Int)], 0) :=
  numM_ok (read_node n (by omega)) (by simp [allL]; omega)
/-- by no other reader -/
theorem act_no_reg {n s : Nat} (hn : n < 4) (hs : s < 1000000) : regN (actT n s) = ([], 4) := by
  have h := read_act n s (by omega) hs [] ends_nil [47, 35]
  rw [List.append_nil] at h
  refine numM_none (h.trans ?_)
  exact rd_end (List.drop_of_length_le (Nat.le_refl _)) (by decide) _ _
theorem act_no_part (n s : Nat) : partN (actT n s) = ([], 4) :=
  numM_none (rd_no (c := 97) (rest := dec n ++ (46 :: dec s)) (by simp [actT]) (by decide) (by decide) _ _)
theorem act_no_node (n s : Nat) : nodeN (actT n s) = ([], 4) :=
  numM_none (rd_no (c := 97) (rest := dec n ++ (46 :: dec s)) (by simp [actT]) (by decide) (by decide) _ _)
theorem reg_no_act {n s r : Nat} (hn : n < 4) (hs : s < 1000000) : actN (regT n s r) = ([], 4) := by
  have e : regT n s r = actT n s ++ (47 :: dec r) := by simp [regT]
  have h := read_act n s (by omega) hs (47 :: dec r) (ends_47 _) []
  rw [← e, readM] at h
  exact numM_more h (by rw [e, List.length_append]; simp)

/-- UNLIKE THINGS HAVE UNLIKE TEXTS. -/
theorem act_inj {n s n' s' : Nat} (hn : n < 4) (hs : s < 1000000) (hn' : n' < 4) (hs' : s' < 1000000) (h : actT n s = actT n' s') : n = n' ∧ s = s' := by
  have h1 := act_back hn hs
  rw [h, act_back hn' hs'] at h1
  simp at h1; omega
theorem reg_inj {n s r n' s' r' : Nat} (hn : n < 4) (hs : s < 1000000) (hr : r < 6) (hn' : n' < 4) (hs' : s' < 1000000) (hr' : r' < 6) (h : regT n s r = regT n' s' r') : n = n' ∧ s = s' ∧ r = r' := by
  have h1 := reg_back hn hs hr
  rw [h, reg_back hn' hs' hr'] at h1
  simp at h1; omega
theorem part_inj {n p n' p' : Nat} (hn : n < 4) (hp : p < 8) (hn' : n' < 4) (hp' : p' < 8) (h : partT n p = partT n' p') : n = n' ∧ p = p' := by
  have h1 := part_back hn hp
  rw [h, part_back hn' hp'] at h1
  simp at h1; omega
/-- a text's bytes -/
theorem strB_of {t : List Int} (h : InB t) : strB (strOfNums t) = t := by
  unfold strB
  rw [strOfNums_data, List.map_map]
  conv => rhs; rw [← List.map_id t]
  refine List.map_congr_left fun x hx => ?_
  have hb := h x hx
  simp only [Function.comp, id]
  have : x.toNat < 256 := by omega
  simp [Nat.mod_eq_of_lt this]
  omega
end Go.Proofs.YtjilfkfhnbhjiaaDoor
