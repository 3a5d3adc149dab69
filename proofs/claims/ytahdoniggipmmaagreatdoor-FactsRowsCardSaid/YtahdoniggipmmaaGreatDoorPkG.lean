/-
  PARTS OF THIS PROOF (own work): DecD, TxtR, ReadI, NumsR, IdsC, RdC, LayI, LibI, PlaI, FirI, WriI, IdsW, MusL.
-/
import Derived.Test.YtahdoniggipmmaaGreatDoorPkA
import Derived.Deep.RegionHeld3
import Derived.Lib.Strings
import Derived.BigQuiet
import Derived.WalkSmall
import Derived.Laws.OwnMore
import Derived.Shelf.Strconv.Itoa3
import Derived.Ground.NamesProg
import Derived.Test.YtahdoniggipmmaaGreatDoorProg
import Derived.Lib.SmallJoins
import Derived.Lib.AppendIntMem
import Derived.Test.YtahdoniggipmmaaGreatDoorPkD
import Derived.StillTailTactics
import Derived.Laws.Cover1

namespace Go.Proofs.YtahdoniggipmmaaGreatDoor
open Go.RowKit Go.ChangeShapes Go.WideShapes

theorem str_append (xs ys : List Int) : strOfNums xs ++ strOfNums ys = strOfNums (xs ++ ys) := by
  apply ByteArray.ext
  apply Array.ext'
  rw [ByteArray.data_append, Array.toList_append, strOfNums_data, strOfNums_data, strOfNums_data, List.map_append]
theorem str_size (xs : List Int) : (strOfNums xs).size = xs.length := by
  have h := congrArg List.length (strOfNums_data xs)
  simpa using h

/-- a number's digits, k at most -/
def decF : Nat → Nat → List Int
  | 0, _ => []
  | k + 1, n => if n < 10 then [((48 + n : Nat) : Int)] else decF k (n / 10) ++ [((48 + n % 10 : Nat) : Int)]
theorem decF_len : ∀ k n, (decF k n).length ≤ k
  | 0, _ => Nat.le_refl _
  | k + 1, n => by
    unfold decF
    split
    · simp
    · have := decF_len k (n / 10)
      simp; omega
theorem decF_any : ∀ k k' n, n < 10 ^ k → n < 10 ^ k' → 0 < k → 0 < k' → decF k n = decF k' n
  | 0, _, _, _, _, h, _ => absurd h (by decide)
  | _, 0, _, _, _, _, h => absurd h (by decide)
  | k + 1, k' + 1, n, h, h', _, _ => by
    unfold decF
    split
    · rfl
    · rename_i g
      have hk : 0 < k := by
        rcases Nat.eq_zero_or_pos k with rfl | q
        · simp at h; omega
        · exact q
      have hk' : 0 < k' := by
        rcases Nat.eq_zero_or_pos k' with rfl | q
        · simp at h'; omega
        · exact q
      rw [decF_any k k' (n / 10) (by rw [Nat.pow_succ] at h; omega) (by rw [Nat.pow_succ] at h'; omega) hk hk']
theorem decF_in : ∀ k n, InB (decF k n)
  | 0, _ => fun x hx => by cases hx
  | k + 1, n => by
    unfold decF
    split
    · intro x hx
      have := List.mem_singleton.1 hx
      omega
    · intro x hx
      rcases List.mem_append.1 hx with h | h
      · exact decF_in k _ x h
      · have := List.mem_singleton.1 h
        omega
/-- A NUMBER's DIGITS. -/
def dec (n : Nat) : List Int := decF 8 n

theorem box_byte (w : World) (x : Int) (t : TypeId) : SlB (.slice (some ⟨w.heap.size, 0, none⟩) 1 1) [x] (w.alloc (.cells #[.int .u8 x] t)) :=
  .inr ⟨w.heap.size, 0, 1, by simp, rfl, fun j hj => by
    obtain rfl : j = 0 := by simpa using hj
    exact box_cell w _ t⟩

end Go.Proofs.YtahdoniggipmmaaGreatDoor

namespace Go.Proofs.YtahdoniggipmmaaGreatDoor
open Go.RowKit Go.ChangeShapes Go.WideShapes

theorem dec_len (n : Nat) : (dec n).length ≤ 8 := decF_len 8 n
theorem dec_in (n : Nat) : InB (dec n) := decF_in 8 n
/-- HAS AN ACTIVITY A TEXT? -/
def nodeT (n : Nat) : List Int := [110] ++ dec n
def actT (n s : Nat) : List Int := (([97] ++ dec n) ++ [46]) ++ dec s
def regT (n s r : Nat) : List Int := (actT n s ++ [47]) ++ dec r
def partT (n p : Nat) : List Int := (([112] ++ dec n) ++ [46]) ++ dec p


theorem c97 : (⟨#[97]⟩ : ByteArray) = strOfNums [97] := by decide
theorem c46 : (⟨#[46]⟩ : ByteArray) = strOfNums [46] := by decide
theorem c47 : (⟨#[47]⟩ : ByteArray) = strOfNums [47] := by decide
theorem c112 : (⟨#[112]⟩ : ByteArray) = strOfNums [112] := by decide
theorem c110 : (⟨#[110]⟩ : ByteArray) = strOfNums [110] := by decide

end Go.Proofs.YtahdoniggipmmaaGreatDoor

namespace Go.Proofs.YtahdoniggipmmaaGreatDoor
open Go.RowKit Go.ChangeShapes Go.WideShapes

/-- a text's bytes -/
def strB (s : ByteArray) : List Int := s.data.toList.map fun b => (b.toNat : Int)
theorem strB_len (s : ByteArray) : (strB s).length = s.size := by simp [strB]
theorem strB_in (s : ByteArray) : InB (strB s) := by
  intro x hx
  obtain ⟨b, _, rfl⟩ := List.mem_map.1 hx
  have := b.toNat_lt
  omega
theorem idx_str (s : ByteArray) (i : Nat) (hi : i < s.size) (ii : Int) (hii : (i : Int) = ii) (w : World) :
    (Instr.index 9 (.string s) (.int .i64 ii)).run Tryz.prog w = .ok (.int .u8 ((strB s).getD i 0)) w := by
  rw [run_index_string w 9 s .i64 ii Tryz.underlying9, dif_pos ⟨by omega, by omega⟩]
  congr 2
  have e : ii.toNat = i := by omega
  have hl : i < s.data.toList.length := by simpa using hi
  rw [List.getD_eq_getElem?_getD, strB, List.getElem?_map, List.getElem?_eq_getElem hl]
  simp only [e, Option.map_some, Option.getD_some]
  rfl

def isD (c : Int) : Bool := decide (48 ≤ c ∧ c ≤ 57)
def stepC (n d : Int) : Int := if 10 * n + d - 48 > 1000000 then 1000000 else 10 * n + d - 48
/-- a run of digits' number; a great one is 1000000 -/
def numC (ds : List Int) : Int := ds.foldl stepC 0
theorem numC_next {S : List Int} {f j : Nat} (h : f + j < S.length) : numC ((S.drop f).take (j + 1)) = stepC (numC ((S.drop f).take j)) (S.getD (f + j) 0) := by
  have hj : j < (S.drop f).length := by simp; omega
  rw [List.take_succ_eq_append_getElem hj]
  unfold numC
  rw [List.foldl_append]
  simp [List.getD, h]
theorem numC_range {S : List Int} (f : Nat) : ∀ j, (∀ i, i < j → isD (S.getD (f + i) 0) = true) → f + j ≤ S.length → 0 ≤ numC ((S.drop f).take j) ∧ numC ((S.drop f).take j) ≤ 1000000
  | 0, _, _ => by simp [numC]
  | j + 1, hd, hl => by
    have h := numC_range f j (fun i hi => hd i (by omega)) (by omega)
    rw [numC_next (by omega)]
    have hc := hd j (by omega)
    simp only [isD, decide_eq_true_eq] at hc
    unfold stepC
    split <;> omega
/-- how many digits stand at a place -/
def runD (S : List Int) (f : Nat) : Nat := ((S.drop f).takeWhile isD).length
theorem takeWhile_len {p : Int → Bool} : ∀ (l : List Int) (j : Nat), (∀ i, i < j → p (l.getD i 0) = true) → j ≤ l.length → (j = l.length ∨ p (l.getD j 0) = false) → (l.takeWhile p).length = j
  | [], j, _, h, _ => by simp at h; simp [h]
  | x :: l, 0, _, _, h2 => by
    rcases h2 with h2 | h2
    · simp at h2
    · have : p x = false := h2
      simp [this]
  | x :: l, j + 1, h0, h1, h2 => by
    have hx : p x = true := h0 0 (by omega)
    rw [List.takeWhile_cons, hx]
    simp only [if_true, List.length_cons]
    rw [takeWhile_len l j (fun i hi => h0 (i + 1) (by omega)) (by simpa using h1) (by rcases h2 with h2 | h2; exact .inl (by simpa using h2); exact .inr h2)]
theorem runD_eq {S : List Int} {f j : Nat} (h0 : ∀ i, i < j → isD (S.getD (f + i) 0) = true) (h1 : f + j ≤ S.length) (h2 : f + j = S.length ∨ isD (S.getD (f + j) 0) = false) : runD S f = j := by
  have e : ∀ i, (S.drop f).getD i 0 = S.getD (f + i) 0 := fun i => by simp [List.getD, List.getElem?_drop]
  refine takeWhile_len _ j (fun i hi => by rw [e]; exact h0 i hi) (by simp; omega) ?_
  rcases h2 with h2 | h2
  · exact .inl (by simp; omega)
  · exact .inr (by rw [e]; exact h2)

/-- READING by a pattern: '#' (35) stands for a number. -/
def readM (S : List Int) : List Int → Nat → List Int → Option (List Int × Nat)
  | [], a, out => some (out, a)
  | p :: ps, a, out =>
    if p = 35 then if runD S a = 0 ∨ (1 < runD S a ∧ S.getD a 0 = 48) then none else readM S ps (a + runD S a) (out ++ [numC ((S.drop a).take (runD S a))])
    else if a < S.length ∧ S.getD a 0 = p then readM S ps (a + 1) out else none
theorem readM_len {S : List Int} : ∀ (P : List Int) (a : Nat) (out : List Int) {l : List Int} {b : Nat}, readM S P a out = some (l, b) → l.length = out.length + P.count 35
  | [], a, out, l, b, h => by
    simp only [readM, Option.some.injEq, Prod.mk.injEq] at h
    rw [← h.1]; simp
  | p :: ps, a, out, l, b, h => by
    rw [readM] at h
    by_cases hp : p = 35
    · rw [if_pos hp] at h
      split at h
      · cases h
      · rw [readM_len ps _ _ h, hp]; simp; omega
    · rw [if_neg hp] at h
      split at h
      · rw [readM_len ps _ _ h]
        simp [hp]
      · cases h

theorem info_int : (Tryz.prog.info? 3).map (fun i => (i.zero, i.size, i.bytes)) = some (some (.int .i64 0), 1, 8) := by kernel_rfl
theorem ints_one (ls : List Int) : ∀ u ∈ ls.map (Value.int .i64), u.oneCell' = true := by
  intro u hu
  obtain ⟨x, _, rfl⟩ := List.mem_map.1 hu
  rfl
/-- one more number onto a row of the call's own -/
theorem wpList_append_int (w : World) {ops : Array Oper} {rest : List Oper} {o : Oper} {a : Act} {Q : Exit → Act → World → Prop} (hgd : o.guard = none) (s x : Operand)
    (ho : o.op = .call { callee := .builtin .append, args := #[s, x], argTypes := #[76, 76] })
    (base : Nat) (v : Value) (n : Nat) (xs : List Value) (hs : a.eval s = v) (hown : w.ownsRow base 3 1 v n xs)
    (g : Nat) (y : Int) (hx : a.eval x = .slice (some ⟨g, 0, none⟩) 1 1) (hc : w.cell? ⟨g, 0, none⟩ = some (.int .i64 y)) (h63 : n ≤ 1000000) (hbase : base ≤ w.heap.size)
    (h : ∀ v' w', w'.ownsRow base 3 1 v' (n + 1) (xs ++ [Value.int .i64 y]) → w.grownBy w' v.ownBlock → wpList Tryz.prog ops Q rest (a.put o.dst v') w') : wpList Tryz.prog ops Q (o :: rest) a w := by
  obtain ⟨i0, hi, hz0, hz1, hz2⟩ := info_parts info_int
  refine wpList_append_own w hgd s x 76 ho base 3 i0 (.int .i64 0) 1 8 Tryz.underlying76 hi hz0 hz1 hz2 rfl (by decide) v n xs hs hown ⟨g, 0, none⟩ 1 1 [Value.int .i64 y] hx rfl (fun j u hj => ?_) (ints_one [y]) (by unfold maxLen; omega) (by omega) hbase (fun v' w' h1 h2 _ => h v' w' h1 h2)
  match j, hj with
  | 0, hj =>
    obtain rfl : Value.int .i64 y = u := by simpa using hj
    rw [add_plain, Nat.add_zero]
    exact hc
  | j + 1, hj => simp at hj
end Go.Proofs.YtahdoniggipmmaaGreatDoor

namespace Go.Proofs.YtahdoniggipmmaaGreatDoor
open Go.RowKit Go.ChangeShapes Go.WideShapes

def allL : List Int → List Int → Bool
  | x :: xs, y :: ys => decide (x < y) && allL xs ys
  | _, _ => true
/-- A TEXT's NUMBERS by a pattern, each below its limit; else the error's number. -/
def numM (S P lims : List Int) : List Int × Int :=
  match readM S P 0 [] with
  | none => ([], 4)
  | some (l, b) => if b = S.length then (if allL l lims = true then (l, 0) else ([], 1)) else ([], 4)
theorem allL_at : ∀ (l lims : List Int) (j : Nat) (h : j < l.length) (h2 : j < lims.length), allL (l.drop j) (lims.drop j) = (decide (l[j] < lims[j]) && allL (l.drop (j + 1)) (lims.drop (j + 1))) := by
  intro l lims j h h2
  rw [List.drop_eq_getElem_cons h, List.drop_eq_getElem_cons h2]
  rfl
theorem own_gi {w : World} {base n : Nat} {e : TypeId} {v : Value} {xs : List Value} (h : w.ownsRow base e 1 v n xs) (hn : 0 < n) : ∃ g cap, v = .slice (some ⟨g, 0, none⟩) n cap := by
  rcases h.2 with ⟨rfl, rfl⟩ | ⟨g, cap, cur, rfl, hg, _, hc, _⟩
  · omega
  · exact ⟨g, cap, rfl⟩
theorem own_form0 {w : World} {base n : Nat} {e : TypeId} {v : Value} {xs : List Value} (h : w.ownsRow base e 1 v n xs) : ∃ a cap, v = .slice a n cap := by
  rcases h.2 with ⟨rfl, rfl⟩ | ⟨g, cap, cur, rfl, hg, _, hc, _⟩
  · exact ⟨none, 0, rfl⟩
  · exact ⟨_, cap, rfl⟩

end Go.Proofs.YtahdoniggipmmaaGreatDoor

namespace Go.Proofs.YtahdoniggipmmaaGreatDoor
open Go.RowKit Go.ChangeShapes Go.WideShapes

/-- a text, or ErrRange -/
def textR (ads : List Addr) : Option (List Int) → Value
  | some t => .tuple #[.string (strOfNums t), .nilIface]
  | none => .tuple #[.string ⟨#[]⟩, errI ads 1]
def nodeR (n : Int) : Bool := decide (0 ≤ n ∧ n < 4)
def nodeO (n : Int) : Option (List Int) := if nodeR n = true then some (nodeT n.toNat) else none
def actO (n s : Int) : Option (List Int) := if rightA n s = true then some (actT n.toNat s.toNat) else none
def regR (r : Int) : Bool := decide (0 ≤ r ∧ r < 6)
def partR (p : Int) : Bool := decide (0 ≤ p ∧ p < 8)
def regO (n s r : Int) : Option (List Int) := if (rightA n s && regR r) = true then some (regT n.toNat s.toNat r.toNat) else none
def partO (n p : Int) : Option (List Int) := if (nodeR n && partR p) = true then some (partT n.toNat p.toNat) else none
def nodeP : List Int := [110, 35]
def actP : List Int := [97, 35, 46, 35]
def regP : List Int := [97, 35, 46, 35, 47, 35]
def partP : List Int := [112, 35, 46, 35]
def nodeN (S : List Int) : List Int × Int := numM S nodeP [4]
def actN (S : List Int) : List Int × Int := numM S actP [4, 1000000]
def regN (S : List Int) : List Int × Int := numM S regP [4, 1000000, 6]
def partN (S : List Int) : List Int × Int := numM S partP [4, 8]
/-- a number of an int -/
abbrev I64 (n : Int) : Prop := -9223372036854775808 ≤ n ∧ n ≤ 9223372036854775807

/-- Num of such an error -/
theorem num_errI (ads : List Addr) (w : World) (V : St ads w) (k : Int) (hk : k = 0 ∨ k = 1 ∨ k = 4) :
    Calls Tryz.prog 11 #[errI ads k] w fun e w' => e = .returned (.int .i64 k) ∧ Kp w w' := by
  have h14 : ads.length = 14 := V.len
  rcases hk with rfl | rfl | rfl
  · refine (num_nil w).mono ?_
    rintro e w' ⟨h, rfl⟩
    exact ⟨h, Kp.refl _⟩
  · have h := num_err ads w V 0 (by decide) (by omega)
    have e : errI ads 1 = .iface 166 (.pointer (some ads[0])) := by
      unfold errI
      rw [if_neg (by decide), show ((1 : Int) - 1).toNat = 0 from rfl, List.getElem?_eq_getElem (by omega)]
    rw [e]
    exact h
  · have h := num_err ads w V 3 (by decide) (by omega)
    have e : errI ads 4 = .iface 166 (.pointer (some ads[3])) := by
      unfold errI
      rw [if_neg (by decide), show ((4 : Int) - 1).toNat = 3 from rfl, List.getElem?_eq_getElem (by omega)]
    rw [e]
    exact h
theorem numM_three (S P lims : List Int) : (numM S P lims).2 = 0 ∨ (numM S P lims).2 = 1 ∨ (numM S P lims).2 = 4 := by
  unfold numM
  split
  · exact .inr (.inr rfl)
  · split
    · split
      · exact .inl rfl
      · exact .inr (.inl rfl)
    · exact .inr (.inr rfl)

end Go.Proofs.YtahdoniggipmmaaGreatDoor

namespace Go.Proofs.YtahdoniggipmmaaGreatDoor

/-- the number that a text begins with, and what stands behind it -/
def firstM (t : List Int) : Option (Int × List Int) :=
  if t.takeWhile isD = [48] ∨ (t.takeWhile isD ≠ [] ∧ (t.takeWhile isD).getD 0 0 ≠ 48) then some (numC (t.takeWhile isD), t.drop (t.takeWhile isD).length) else none
/-- behind a mark: the text without it -/
def cutM (c : Int) : List Int → Option (List Int)
  | [] => none
  | x :: r => if x = c then some r else none
/-- a text's numbers, a mark ahead of each; and what is left -/
def rdM : List Int → List Int → Option (List Int × List Int)
  | [], s => some ([], s)
  | c :: cs, s => match cutM c s with
    | none => none
    | some r => match firstM r with
      | none => none
      | some q => (rdM cs q.2).map fun x => (q.1 :: x.1, x.2)
/-- the pattern of marks -/
def patM (cs : List Int) : List Int := cs.flatMap fun c => [c, 35]

theorem first_sign {l : List Int} : l = [48] ∨ (l ≠ [] ∧ l.getD 0 0 ≠ 48) ↔ ¬ (l.length = 0 ∨ (1 < l.length ∧ l.getD 0 0 = 48)) := by
  match l with
  | [] => simp
  | [x] =>
    simp only [List.cons.injEq, and_true, List.length_cons, List.length_nil]
    by_cases h : x = 48
    · simp [h]
    · simp [h]
  | x :: y :: r =>
    simp

theorem takeWhile_head {S : List Int} {a : Nat} (h : 0 < ((S.drop a).takeWhile isD).length) : ((S.drop a).takeWhile isD).getD 0 0 = S.getD a 0 := by
  have e : S.getD a 0 = (S.drop a).getD 0 0 := by simp [List.getD, List.getElem?_drop]
  rw [e]
  cases hd : S.drop a with
  | nil => rw [hd] at h; simp at h
  | cons x r =>
    rw [hd] at h
    by_cases hx : isD x = true
    · simp [hx]
    · simp [hx] at h
theorem takeWhile_take (p : Int → Bool) : ∀ l : List Int, l.takeWhile p = l.take (l.takeWhile p).length
  | [] => rfl
  | x :: l => by
    by_cases hx : p x = true
    · simp only [List.takeWhile_cons, hx, if_true, List.length_cons, List.take_succ_cons]
      rw [← takeWhile_take p l]
    · simp [hx]
theorem takeWhile_le (p : Int → Bool) (l : List Int) : (l.takeWhile p).length ≤ l.length := by
  have := congrArg List.length (takeWhile_take p l)
  rw [List.length_take] at this
  omega

theorem rdM_read {S : List Int} : ∀ (cs : List Int) (_ : ∀ c ∈ cs, c ≠ 35) (a : Nat) (out : List Int) (_ : a ≤ S.length),
    readM S (patM cs) a out = (rdM cs (S.drop a)).map fun x => (out ++ x.1, S.length - x.2.length)
  | [], _, a, out, ha => by
    simp only [patM, List.flatMap_nil, readM, rdM, Option.map_some, List.append_nil, List.length_drop]
    congr 2
    omega
  | c :: cs, hc, a, out, ha => by
    have e : patM (c :: cs) = c :: 35 :: patM cs := rfl
    rw [e, readM, if_neg (hc c (by simp)), rdM]
    by_cases hl : a < S.length
    · have hd : S.drop a = S.getD a 0 :: S.drop (a + 1) := by
        rw [List.drop_eq_getElem_cons hl]
        simp [List.getD, hl]
      rw [hd]
      by_cases hm : S.getD a 0 = c
      · rw [if_pos ⟨hl, hm⟩, readM, if_pos rfl]
        simp only [cutM, hm, if_true]
        unfold firstM
        have hrd : ((S.drop (a + 1)).takeWhile isD).length = runD S (a + 1) := rfl
        by_cases hq : (S.drop (a + 1)).takeWhile isD = [48] ∨ ((S.drop (a + 1)).takeWhile isD ≠ [] ∧ ((S.drop (a + 1)).takeWhile isD).getD 0 0 ≠ 48)
        · rw [if_pos hq]
          have hq2 := first_sign.1 hq
          have hpos : 0 < ((S.drop (a + 1)).takeWhile isD).length := by
            rcases Nat.eq_zero_or_pos ((S.drop (a + 1)).takeWhile isD).length with q | q
            · exact absurd (.inl q) hq2
            · exact q
          rw [takeWhile_head hpos, hrd] at hq2
          rw [if_neg hq2]
          have hle := takeWhile_le isD (S.drop (a + 1))
          rw [hrd, List.length_drop] at hle
          have hle2 : a + 1 + runD S (a + 1) ≤ S.length := by rw [hrd] at hpos; omega
          rw [rdM_read cs (fun x hx => hc x (List.mem_cons_of_mem _ hx)) (a + 1 + runD S (a + 1)) _ hle2]
          have e2 : (S.drop (a + 1)).drop (runD S (a + 1)) = S.drop (a + 1 + runD S (a + 1)) := by rw [List.drop_drop]
          have e3 : (S.drop (a + 1)).take (runD S (a + 1)) = (S.drop (a + 1)).takeWhile isD := (takeWhile_take isD (S.drop (a + 1))).symm
          simp only [hrd, e2, e3]
          cases rdM cs (S.drop (a + 1 + runD S (a + 1))) with
          | none => rfl
          | some x => simp
        · rw [if_neg hq]
          have hq2 : ((S.drop (a + 1)).takeWhile isD).length = 0 ∨ (1 < ((S.drop (a + 1)).takeWhile isD).length ∧ ((S.drop (a + 1)).takeWhile isD).getD 0 0 = 48) := by
            refine Classical.byContradiction fun g => hq (first_sign.2 g)
          have hq3 : runD S (a + 1) = 0 ∨ (1 < runD S (a + 1) ∧ S.getD (a + 1) 0 = 48) := by
            rcases hq2 with g | ⟨g1, g2⟩
            · exact .inl g
            · rw [takeWhile_head (by omega)] at g2
              exact .inr ⟨g1, g2⟩
          rw [if_pos hq3]
          rfl
      · rw [if_neg (fun g => hm g.2)]
        simp only [cutM, if_neg hm]
        rfl
    · rw [if_neg (fun g => hl g.1), List.drop_of_length_le (by omega)]
      rfl
theorem rdM_len : ∀ (cs s : List Int) {l z : List Int}, rdM cs s = some (l, z) → l.length = cs.length ∧ z.length ≤ s.length
  | [], s, l, z, h => by
    simp only [rdM, Option.some.injEq, Prod.mk.injEq] at h
    rw [← h.1, ← h.2]; simp
  | c :: cs, s, l, z, h => by
    rw [rdM] at h
    cases hc : cutM c s with
    | none => rw [hc] at h; cases h
    | some r =>
      rw [hc] at h
      dsimp only at h
      have hr : r.length ≤ s.length := by
        cases s with
        | nil => cases hc
        | cons x t =>
          simp only [cutM] at hc
          split at hc
          · injection hc with hc; rw [← hc]; simp
          · cases hc
      cases hf : firstM r with
      | none => rw [hf] at h; cases h
      | some q =>
        rw [hf] at h
        dsimp only at h
        have hq : q.2.length ≤ r.length := by
          unfold firstM at hf
          split at hf
          · injection hf with hf; rw [← hf]; simp
          · cases hf
        cases hx : rdM cs q.2 with
        | none => rw [hx] at h; cases h
        | some x =>
          obtain ⟨xl, xz⟩ := x
          rw [hx] at h
          simp only [Option.map_some, Option.some.injEq, Prod.mk.injEq] at h
          have := rdM_len cs q.2 hx
          rw [← h.1, ← h.2]
          simp only [List.length_cons]
          omega
/-- NUMBERS of a text, place by place. -/
theorem numM_rd (S : List Int) (cs lims : List Int) (hc : ∀ c ∈ cs, c ≠ 35) :
    numM S (patM cs) lims = match rdM cs S with
      | none => ([], 4)
      | some (l, z) => if z = [] then (if allL l lims = true then (l, 0) else ([], 1)) else ([], 4) := by
  unfold numM
  rw [rdM_read cs hc 0 [] (Nat.zero_le _), List.drop_zero]
  cases h : rdM cs S with
  | none => rfl
  | some x =>
    obtain ⟨l, z⟩ := x
    have := (rdM_len cs S h).2
    simp only [Option.map_some, List.nil_append]
    by_cases hz : z = []
    · subst hz
      simp
    · have : 0 < z.length := List.length_pos_iff.2 hz
      rw [if_neg (by omega), if_neg hz]
end Go.Proofs.YtahdoniggipmmaaGreatDoor

namespace Go.Proofs
open Go.Shelf
def Tryz.laysM171_ren : Go.Shelf.Ren := ⟨fun | 171 => 110 | 243 => 112 | 246 => 113 | 283 => 114 | 284 => 115 | 285 => 116 | 286 => 117 | 129 => 62 | 317 => 118 | 318 => 119 | 319 => 120 | 320 => 121 | 337 => 122 | 338 => 123 | n => n, fun | 3 => 3 | 9 => 9 | 2 => 2 | 4 => 4 | 171 => 153 | 0 => 0 | 53 => 73 | 37 => 29 | 5 => 5 | 173 => 155 | 212 => 159 | 51 => 160 | 20 => 20 | 213 => 161 | 46 => 52 | 232 => 164 | 233 => 165 | n => n, fun | 17 => 15 | 18 => 16 | 19 => 17 | n => n⟩
theorem Tryz.laysM171 : Go.Proofs.LaysM.n171 Tryz.prog Tryz.laysM171_ren := {
  mixed := by kernel_rfl
  f129 := Tryz.func62.trans (congrArg some (by kernel_rfl))
  f171 := Tryz.func110.trans (congrArg some (by kernel_rfl))
  f243 := Tryz.func112.trans (congrArg some (by kernel_rfl))
  f246 := Tryz.func113.trans (congrArg some (by kernel_rfl))
  f283 := Tryz.func114.trans (congrArg some (by kernel_rfl))
  f284 := Tryz.func115.trans (congrArg some (by kernel_rfl))
  f285 := Tryz.func116.trans (congrArg some (by kernel_rfl))
  f286 := Tryz.func117.trans (congrArg some (by kernel_rfl))
  f317 := Tryz.func118.trans (congrArg some (by kernel_rfl))
  f318 := Tryz.func119.trans (congrArg some (by kernel_rfl))
  f319 := Tryz.func120.trans (congrArg some (by kernel_rfl))
  f320 := Tryz.func121.trans (congrArg some (by kernel_rfl))
  f337 := Tryz.func122.trans (congrArg some (by kernel_rfl))
  f338 := Tryz.func123.trans (congrArg some (by kernel_rfl))
  t0 := Tryz.underlying0
  a0 := Tryz.isAgg0
  z0 := Tryz.sizeOf0
  v0 := Tryz.zeroValue0
  t2 := Tryz.underlying2
  a2 := Tryz.isAgg2
  z2 := Tryz.sizeOf2
  v2 := Tryz.zeroValue2
  t3 := Tryz.underlying3
  a3 := Tryz.isAgg3
  z3 := Tryz.sizeOf3
  v3 := Tryz.zeroValue3
  t4 := Tryz.underlying4
  a4 := Tryz.isAgg4
  z4 := Tryz.sizeOf4
  v4 := Tryz.zeroValue4
  t5 := Tryz.underlying5
  a5 := Tryz.isAgg5
  z5 := Tryz.sizeOf5
  v5 := Tryz.zeroValue5
  t9 := Tryz.underlying9
  a9 := Tryz.isAgg9
  z9 := Tryz.sizeOf9
  v9 := Tryz.zeroValue9
  t20 := Tryz.underlying20
  a20 := Tryz.isAgg20
  z20 := Tryz.sizeOf20
  v20 := Tryz.zeroValue20
  t37 := Tryz.underlying29
  a37 := Tryz.isAgg29
  z37 := Tryz.sizeOf29
  v37 := Tryz.zeroValue29
  t46 := Tryz.underlying52
  a46 := Tryz.isAgg52
  z46 := Tryz.sizeOf52
  v46 := Tryz.zeroValue52
  t51 := Tryz.underlying160
  a51 := Tryz.isAgg160
  z51 := Tryz.sizeOf160
  v51 := Tryz.zeroValue160
  t53 := Tryz.underlying73
  a53 := Tryz.isAgg73
  z53 := Tryz.sizeOf73
  v53 := Tryz.zeroValue73
  t171 := Tryz.underlying153
  a171 := Tryz.isAgg153
  z171 := Tryz.sizeOf153
  v171 := Tryz.zeroValue153
  t173 := Tryz.underlying155
  a173 := Tryz.isAgg155
  z173 := Tryz.sizeOf155
  v173 := Tryz.zeroValue155
  t212 := Tryz.underlying159
  a212 := Tryz.isAgg159
  z212 := Tryz.sizeOf159
  v212 := Tryz.zeroValue159
  t213 := Tryz.underlying161
  a213 := Tryz.isAgg161
  z213 := Tryz.sizeOf161
  t232 := Tryz.underlying164
  a232 := Tryz.isAgg164
  z232 := Tryz.sizeOf164
  v232 := Tryz.zeroValue164
  t233 := Tryz.underlying165
  a233 := Tryz.isAgg165
  z233 := Tryz.sizeOf165
  v233 := Tryz.zeroValue165
  g17 := by kernel_rfl
  g18 := by kernel_rfl
  g19 := by kernel_rfl
  i0 := by kernel_rfl
  i2 := by kernel_rfl
  i3 := by kernel_rfl
  i4 := by kernel_rfl
  i5 := by kernel_rfl
  i9 := by kernel_rfl
  i20 := by kernel_rfl
  i37 := by kernel_rfl
  i46 := by kernel_rfl
  i51 := by kernel_rfl
  i53 := by kernel_rfl
  i171 := by kernel_rfl
  i173 := by kernel_rfl
  i212 := by kernel_rfl
  i232 := by kernel_rfl
  i233 := by kernel_rfl
  m17 := by kernel_rfl
  m18 := by kernel_rfl
  m19 := by kernel_rfl }
end Go.Proofs

namespace Go.Proofs.YtahdoniggipmmaaGreatDoor
open Go.RowKit

/-- strconv's table of powers lies there. -/
abbrev Tab (w : World) : Prop := Lib.TabIs Tryz.prog w "internal/strconv.uint64pow10" .u64 Lib.pow10Tab
theorem Tab.kp {w w' : World} (h : Tab w) (hk : Kp w w') : Tab w' :=
  Joins.tab_stays (g := 15) (by kernel_rfl) h hk (Nat.le_refl _)

/-- a byte of a number -/
def toB (z : Int) : UInt8 := UInt8.ofNat z.toNat
theorem str_toB (S : List Int) : (strOfNums S).data.toList = S.map toB := rfl
theorem str_mk (S : List Int) : strOfNums S = ⟨(S.map toB).toArray⟩ := rfl
theorem toB_nat {z : Int} (h : 0 ≤ z ∧ z < 256) : ((toB z).toNat : Int) = z := by
  unfold toB
  rw [UInt8.toNat_ofNat']
  omega
theorem toB_inj {x y : Int} (hx : 0 ≤ x ∧ x < 256) (hy : 0 ≤ y ∧ y < 256) : toB x = toB y ↔ x = y := by
  constructor
  · intro h
    rw [← toB_nat hx, ← toB_nat hy, h]
  · rintro rfl; rfl
theorem str_back (s : ByteArray) : strOfNums (strB s) = s := by
  apply ByteArray.ext
  apply Array.ext'
  rw [strOfNums_data, strB, List.map_map]
  refine List.map_id'' (fun b => ?_) _
  simp
theorem strB_str {S : List Int} (h : InB S) : strB (strOfNums S) = S := by
  rw [strB, str_toB, List.map_map]
  refine (List.map_congr_left (g := id) fun z hz => ?_).trans (List.map_id _)
  exact toB_nat (h z hz)

theorem decF_lib : ∀ k n, n < 10 ^ k → 0 < k → (decF k n).map toB = Lib.decDigits n
  | 0, _, _, h => absurd h (by decide)
  | k + 1, n, h, _ => by
    unfold decF
    rw [Lib.decDigits]
    by_cases g : n < 10
    · rw [if_pos g, dif_pos g]
      simp only [List.map_cons, List.map_nil, toB, Int.toNat_natCast]
    · rw [if_neg g, dif_neg g]
      have hk : 0 < k := by
        rcases Nat.eq_zero_or_pos k with rfl | q
        · simp at h; omega
        · exact q
      rw [List.map_append, decF_lib k (n / 10) (by rw [Nat.pow_succ] at h; omega) hk]
      simp only [List.map_cons, List.map_nil, toB, Int.toNat_natCast]

theorem itoa_any (n : Nat) (hn : n < 100000000) (nn : Int) (hnn : (n : Int) = nn) (w : World) (T : Tab w) :
    Calls Tryz.prog 110 #[.int .i64 nn] w fun e w' => e = .returned (.string (strOfNums (dec n))) ∧ Kp w w' := by
  subst hnn
  have h : Calls Tryz.prog 110 #[.int .i64 n] w _ := Any.strconv_Itoa Tryz.laysM171 n (by omega) (by omega) w T
  refine h.mono ?_
  rintro e w' ⟨rfl, k, os, rfl⟩
  refine ⟨?_, Lib.below_grow _ _ (Nat.le_refl _) _ _⟩
  have e1 : Lib.itoa (n : Int) = (dec n).map toB := by
    unfold Lib.itoa
    rw [if_neg (by omega), Int.toNat_natCast, dec, decF_lib 8 n (by omega) (by decide)]
  rw [e1, str_mk]

theorem has_dig {z : Int} (h : 0 ≤ z ∧ z < 256) : ([48, 49, 50, 51, 52, 53, 54, 55, 56, 57] : List UInt8).contains (toB z) = isD z := by
  have e : ∀ n : Fin 256, ([48, 49, 50, 51, 52, 53, 54, 55, 56, 57] : List UInt8).contains (toB (n.val : Int)) = isD (n.val : Int) := by decide +kernel
  have := e ⟨z.toNat, by omega⟩
  have e2 : ((z.toNat : Nat) : Int) = z := by omega
  simpa [e2] using this
theorem drop_dig : ∀ (S : List Int) (_ : InB S), (S.map toB).dropWhile (([48, 49, 50, 51, 52, 53, 54, 55, 56, 57] : List UInt8).contains ·) = (S.drop (S.takeWhile isD).length).map toB
  | [], _ => rfl
  | x :: S, h => by
    have hx := has_dig (h x (by simp))
    rw [List.map_cons, List.dropWhile_cons, hx]
    by_cases g : isD x = true
    · rw [if_pos g, drop_dig S (fun y hy => h y (List.mem_cons_of_mem _ hy)), List.takeWhile_cons, if_pos g]
      simp
    · rw [if_neg g, List.takeWhile_cons, if_neg g]
      simp

end Go.Proofs.YtahdoniggipmmaaGreatDoor

namespace Go.Proofs.YtahdoniggipmmaaGreatDoor
open Go.RowKit Go.ChangeShapes Go.WideShapes

/-- a place: its mark, its bound -/
def cellP (x : Int × Int) : List Value := [.string (strOfNums [x.1]), .int .i64 x.2]
/-- A LIST OF PLACES in memory. -/
def PlC (v : Value) (ps : List (Int × Int)) (w : World) : Prop :=
  ∃ g cap, v = .slice (some ⟨g, 0, none⟩) ps.length cap ∧ ∀ j, j < ps.length → w.cell? ⟨g, 2 * j, none⟩ = some (.string (strOfNums [(ps.getD j (0, 0)).1])) ∧ w.cell? ⟨g, 2 * j + 1, none⟩ = some (.int .i64 (ps.getD j (0, 0)).2)
theorem PlC.kp {v : Value} {ps : List (Int × Int)} {w w' : World} (h : PlC v ps w) (hk : Kp w w') : PlC v ps w' := by
  obtain ⟨g, cap, h1, h2⟩ := h
  exact ⟨g, cap, h1, fun j hj => ⟨kp_cell hk (h2 j hj).1, kp_cell hk (h2 j hj).2⟩⟩
def nodeL : List (Int × Int) := [(110, 4)]
def actL : List (Int × Int) := [(97, 4), (46, 1000000)]
def regL : List (Int × Int) := [(97, 4), (46, 1000000), (47, 6)]
def partL : List (Int × Int) := [(112, 4), (46, 8)]
theorem info_place : (Tryz.prog.info? 149).map (fun i => (i.zero, i.size, i.bytes)) = some (some (.agg #[.string ⟨#[]⟩, .int .i64 0]), 2, 24) := by kernel_rfl

theorem two_pl (w : World) (a b c d : Int) : PlC (.slice (some ⟨w.heap.size, 0, none⟩) 2 2) [(a, b), (c, d)] (w.alloc (.cells #[.string (strOfNums [a]), .int .i64 b, .string (strOfNums [c]), .int .i64 d] 149)) := by
  refine ⟨w.heap.size, 2, rfl, fun j hj => ?_⟩
  have hj1 : j < 2 := hj
  have hr := (MapKept.heap_alloc w (.cells #[.string (strOfNums [a]), .int .i64 b, .string (strOfNums [c]), .int .i64 d] 149)).1
  match j, hj1 with
  | 0, _ | 1, _ => constructor <;> (unfold World.cell?; dsimp only; rw [hr]; rfl)
theorem actPl_own (w : World) : Calls Tryz.prog 105 #[] w fun e w' => e = .returned (.slice (some ⟨w.heap.size, 0, none⟩) 2 2) ∧ w' = w.alloc (.cells #[.string (strOfNums [97]), .int .i64 4, .string (strOfNums [46]), .int .i64 1000000] 149) := by
  go_enter Tryz.func105, Tryz.ntmps105
  go_wp2
  go_ret
  exact ⟨rfl, rfl⟩
theorem actPl_any (w : World) : Calls Tryz.prog 105 #[] w fun e w' => ∃ v, e = .returned v ∧ PlC v actL w' ∧ Kp w w' := by
  refine (actPl_own w).mono ?_
  rintro e w' ⟨rfl, rfl⟩
  exact ⟨_, rfl, two_pl w 97 4 46 1000000, kp_alloc _ _⟩
end Go.Proofs.YtahdoniggipmmaaGreatDoor

namespace Go.Proofs.YtahdoniggipmmaaGreatDoor
open Go.RowKit Go.ChangeShapes Go.WideShapes

theorem panic_some {P : Program} (t : TypeId) (v : Value) (w : World) : (Instr.panic (.iface t v)).run P w = .halt (.panic (.iface t v)) w := rfl
theorem idemand_t (v : Value) (w : World) : Calls Tryz.prog 109 #[.bool true, v] w fun e w' => e = .returned (.tuple #[]) ∧ w = w' := by
  go_enter Tryz.func109, Tryz.ntmps109
  go_wp2
  go_end0
  exact ⟨rfl, rfl⟩
theorem idemand_f (a : Addr) (w : World) : Calls Tryz.prog 109 #[.bool false, snt a] w fun e w' => e = .panicked [{ v := snt a, recovered := false }] ∧ w = w' := by
  have hpn := panic_some (P := Tryz.prog) 166 (.pointer (some a)) w
  go_enter Tryz.func109, Tryz.ntmps109
  go_wp2
  exact ⟨rfl, rfl, rfl⟩

theorem idxD {D : List Int} (h : InB D) (j : Nat) (hj : j < D.length) (jj : Int) (hjj : (j : Int) = jj) (w : World) :
    (Instr.index 9 (.string (strOfNums D)) (.int .i64 jj)).run Tryz.prog w = .ok (.int .u8 (D.getD j 0)) w := by
  have := idx_str (strOfNums D) j (by rw [strOfNums_size]; exact hj) jj hjj w
  rwa [strB_str h] at this
theorem firstM_none {S : List Int} (h : firstM S = none) : S.takeWhile isD = [] ∨ ((S.takeWhile isD) ≠ [] ∧ S.takeWhile isD ≠ [48] ∧ (S.takeWhile isD).getD 0 0 = 48) := by
  unfold firstM at h
  split at h
  · cases h
  · rename_i g
    by_cases e : S.takeWhile isD = []
    · exact .inl e
    · refine .inr ⟨e, fun q => g (.inl q), ?_⟩
      exact Classical.byContradiction fun q => g (.inr ⟨e, q⟩)
theorem takeWhile_in {S : List Int} (h : InB S) : InB (S.takeWhile isD) := fun x hx => h x (List.takeWhile_subset _ hx)
theorem str_ne {A B : List Int} (hA : InB A) (hB : InB B) (h : A ≠ B) : ((strOfNums A).toList == (strOfNums B).toList) = false := by
  rw [beq_eq_false_iff_ne, Lib.toList_data, Lib.toList_data]
  intro e
  apply h
  rw [← strB_str hA, ← strB_str hB, strB, strB, e]
theorem l48 : (strOfNums [48]).toList = [48] := by rw [Lib.toList_data]; rfl
theorem l0 : (strOfNums []).toList = [] := by rw [Lib.toList_data]; rfl
theorem len_pos {D : List Int} (h : D ≠ []) : 0 < D.length := List.length_pos_iff.2 h

theorem firstM_some {S : List Int} {n : Int} {r : List Int} (h : firstM S = some (n, r)) : n = numC (S.takeWhile isD) ∧ r = S.drop (S.takeWhile isD).length ∧ (S.takeWhile isD = [48] ∨ (S.takeWhile isD ≠ [] ∧ (S.takeWhile isD).getD 0 0 ≠ 48)) := by
  unfold firstM at h
  split at h
  · rename_i g
    injection h with h
    injection h with h1 h2
    exact ⟨h1.symm, h2.symm, g⟩
  · cases h
theorem takeWhile_all {S : List Int} (j : Nat) (hj : j < (S.takeWhile isD).length) : 48 ≤ (S.takeWhile isD).getD j 0 ∧ (S.takeWhile isD).getD j 0 ≤ 57 := by
  have h : (S.takeWhile isD).getD j 0 ∈ S.takeWhile isD := by
    rw [List.getD_eq_getElem?_getD, List.getElem?_eq_getElem hj]
    exact List.getElem_mem hj
  have := List.all_eq_true.1 (List.all_takeWhile (p := isD) (l := S)) _ h
  simpa [isD] using this
theorem numC_take {D : List Int} {j : Nat} (h : j < D.length) : numC (D.take (j + 1)) = stepC (numC (D.take j)) (D.getD j 0) := by
  have := numC_next (S := D) (f := 0) (j := j) (by omega)
  simpa using this
theorem numC_in {S : List Int} (j : Nat) (hj : j ≤ (S.takeWhile isD).length) : 0 ≤ numC ((S.takeWhile isD).take j) ∧ numC ((S.takeWhile isD).take j) ≤ 1000000 := by
  have := numC_range (S := S.takeWhile isD) 0 j (fun i hi => by
    have := takeWhile_all (S := S) i (by omega)
    rw [Nat.zero_add]
    simp only [isD, decide_eq_true_eq]; exact this) (by omega)
  simpa using this

end Go.Proofs.YtahdoniggipmmaaGreatDoor

namespace Go.Proofs.YtahdoniggipmmaaGreatDoor
open Go.RowKit Go.ChangeShapes Go.WideShapes

/-- the text of the first k places; have they one? -/
def wrU (ps : List (Int × Int)) (ns : List Int) : Nat → List Int
  | 0 => []
  | k + 1 => wrU ps ns k ++ ([(ps.getD k (0, 0)).1] ++ dec (ns.getD k 0).toNat)
def okU (ps : List (Int × Int)) (ns : List Int) : Nat → Bool
  | 0 => true
  | k + 1 => okU ps ns k && decide (0 ≤ ns.getD k 0 ∧ ns.getD k 0 < (ps.getD k (0, 0)).2)
theorem wrU_len (ps : List (Int × Int)) (ns : List Int) : ∀ k, (wrU ps ns k).length ≤ 9 * k
  | 0 => Nat.le_refl _
  | k + 1 => by
    have := wrU_len ps ns k
    have h := dec_len (ns.getD k 0).toNat
    simp only [wrU, List.length_append, List.length_cons, List.length_nil]
    omega
theorem okU_no {ps : List (Int × Int)} {ns : List Int} : ∀ (k d : Nat), okU ps ns k = false → okU ps ns (k + d) = false
  | _, 0, h => h
  | k, d + 1, h => by
    rw [← Nat.add_assoc, okU, okU_no k d h]
    rfl

set_option maxRecDepth 20000 in
set_option maxHeartbeats 4000000 in
theorem write1_any (ads : List Addr) (h0 : 0 < ads.length) (ps : List (Int × Int)) (ns : List Int) (m : Nat) (hm : ps.length = m) (hm2 : ns.length = m) (hm3 : m ≤ 3) (hb : ∀ j, j < m → (ps.getD j (0, 0)).2 ≤ 1000000)
    (B0 B1 : Nat) (gp cp gn cn : Nat) (w : World) (V : St ads w) (T : Tab w) (c0 : w.cell? ⟨B0, 0, none⟩ = some (.slice (some ⟨gp, 0, none⟩) m cp)) (c1 : w.cell? ⟨B1, 0, none⟩ = some (.slice (some ⟨gn, 0, none⟩) m cn))
    (hp : ∀ j, j < m → w.cell? ⟨gp, 2 * j, none⟩ = some (.string (strOfNums [(ps.getD j (0, 0)).1])) ∧ w.cell? ⟨gp, 2 * j + 1, none⟩ = some (.int .i64 (ps.getD j (0, 0)).2))
    (hn : ∀ j, j < m → w.cell? ⟨gn, j, none⟩ = some (.int .i64 (ns.getD j 0))) :
    Calls Tryz.prog 108 #[.pointer (some ⟨B0, 0, none⟩), .pointer (some ⟨B1, 0, none⟩)] w fun e w' =>
      ((okU ps ns m = true ∧ e = .returned (.string (strOfNums (wrU ps ns m)))) ∨ (okU ps ns m = false ∧ e = .panicked [{ v := snt (ads[0]'h0), recovered := false }])) ∧ Kp w w' := by
  have CE := fun w1 (hk : Kp w w1) => kp_cell hk (V.cell 0 (by decide))
  obtain ⟨a0, ha0⟩ : ∃ a, ads[0]'h0 = a := ⟨_, rfl⟩
  rw [ha0] at CE ⊢
  replace CE : ∀ w1, Kp w w1 → w1.cell? ⟨1, 0, none⟩ = some (snt a0) := CE
  have CE := Lib.hid CE
  have HT := Lib.hid T
  have HP := Lib.hid hp
  have HN := Lib.hid hn
  have HB := Lib.hid hb
  have C0 := Lib.hid c0
  have C1 := Lib.hid c1
  obtain ⟨L, hL⟩ : ∃ L : Int, (m : Int) = L := ⟨_, rfl⟩
  have HL := Lib.hid hL
  have HM := Lib.hid hm3
  have l3 : L ≤ 3 := by omega
  clear V T hp hn hb ha0 hm hm2 c1 hm3
  go_enter Tryz.func108, Tryz.ntmps108
  go_wp2
  go_loopw [3, 8] (fun u i wr => ∃ j : Nat, j ≤ m ∧ i = .int .i64 j ∧ u = .string (strOfNums (wrU ps ns j)) ∧ okU ps ns j = true ∧ Kp w wr) (fun _ i _ => m - (intOf i).toNat)
  case atStart => exact ⟨0, Nat.zero_le _, rfl, rfl, rfl, Kp.refl _⟩
  case round =>
    obtain ⟨j, hj, rfl, rfl, hok, hk⟩ := hrel
    have KR := Lib.hid hk
    have c0 := kp_cell hk C0.out
    have c1 := kp_cell hk C1.out
    obtain ⟨jj, hjj⟩ : ∃ jj : Int, (j : Int) = jj := ⟨_, rfl⟩
    rw [hjj]
    have hLL := HL.out
    by_cases hlt : j < m
    · have hjl : jj < L := by omega
      have hj0 : 0 ≤ jj := by omega
      obtain ⟨hp1, hp2⟩ := HP.out j hlt
      have hp1 := kp_cell hk hp1
      have hp2 := kp_cell hk hp2
      have hn1 := kp_cell hk (HN.out j hlt)
      have hb1 := HB.out j hlt
      have htn : jj.toNat = j := by omega
      obtain ⟨mk, hmk⟩ : ∃ s, strOfNums [(ps.getD j (0, 0)).1] = s := ⟨_, rfl⟩
      obtain ⟨bb, hbb⟩ : ∃ s, (ps.getD j (0, 0)).2 = s := ⟨_, rfl⟩
      obtain ⟨nv, hnv⟩ : ∃ s, ns.getD j 0 = s := ⟨_, rfl⟩
      obtain ⟨uu, huu⟩ : ∃ s, strOfNums (wrU ps ns j) = s := ⟨_, rfl⟩
      rw [hmk] at hp1
      rw [hbb] at hp2 hb1
      rw [hnv] at hn1
      rw [huu]
      replace hp1 : wr.cell? ⟨gp, jj.toNat * 2, none⟩ = some (.string mk) := by rw [htn, Nat.mul_comm]; exact hp1
      replace hp2 : wr.cell? ⟨gp, jj.toNat * 2 + 1, none⟩ = some (.int .i64 bb) := by rw [htn, Nat.mul_comm]; exact hp2
      replace hn1 : wr.cell? ⟨gn, jj.toNat, none⟩ = some (.int .i64 nv) := by rw [htn]; exact hn1
      have HJ := Lib.hid hjj
      have HK := Lib.hid hmk
      have HBB := Lib.hid hbb
      have HNV := Lib.hid hnv
      have HUU := Lib.hid huu
      have HOK := Lib.hid hok
      have HLT := Lib.hid hlt
      have HTN := Lib.hid htn
      clear hjj hmk hbb hnv huu hok hlt hk hj hLL htn
      go_wp2
      have k2 := kp_alloc wr (.cells #[.string mk, .int .i64 bb] 149)
      have hr2 := (MapKept.heap_alloc wr (.cells #[.string mk, .int .i64 bb] 149)).1
      obtain ⟨w2, hw2⟩ : ∃ w2, wr.alloc (.cells #[.string mk, .int .i64 bb] 149) = w2 := ⟨_, rfl⟩
      obtain ⟨p5, hp5⟩ : ∃ p, wr.heap.size = p := ⟨_, rfl⟩
      rw [hw2] at k2 hr2 ⊢
      rw [hp5] at hr2 ⊢
      have c12 := kp_cell k2 c1
      have n12 := kp_cell k2 hn1
      have f0 : w2.cell? ⟨p5, 0, none⟩ = some (.string mk) := by unfold World.cell?; dsimp only; rw [hr2]; rfl
      have f1 : w2.cell? ⟨p5, 1, none⟩ = some (.int .i64 bb) := by unfold World.cell?; dsimp only; rw [hr2]; rfl
      have ce := CE.out _ (Kp.trans KR.out k2)
      have c12' : w2.drew.cell? ⟨B1, 0, none⟩ = some (.slice (some ⟨gn, 0, none⟩) m cn) := c12
      have n12' : w2.drew.cell? ⟨gn, jj.toNat, none⟩ = some (.int .i64 nv) := n12
      have f0' : w2.drew.cell? ⟨p5, 0, none⟩ = some (.string mk) := f0
      have f1' : w2.drew.cell? ⟨p5, 1, none⟩ = some (.int .i64 bb) := f1
      have ce' : w2.drew.cell? ⟨1, 0, none⟩ = some (snt a0) := ce
      have K2 := Lib.hid (Kp.trans KR.out k2)
      clear hr2 hw2 hp5 k2 hp1 hp2 c0 c1 hn1
      by_cases hg : 0 ≤ nv ∧ nv < bb
      · have d1 : decide (0 ≤ nv) = true := decide_eq_true hg.1
        have d2 : decide (nv < bb) = true := decide_eq_true hg.2
        have HG := Lib.hid hg
        have g1 := hg.1
        have g2 := hg.2
        clear hg
        go_still_tail 15, (by kernel_rfl)
        change wpList _ _ _ _ _ w2.drew
        go_wp2_with (go_at_call 109; (with_reducible refine (idemand_t _ _).mono ?_); rintro e w' ⟨rfl, rfl⟩)
        obtain ⟨w3, hw3⟩ : ∃ w3, w2.drew = w3 := ⟨_, rfl⟩
        have K3 := Lib.hid (K2.out.drew)
        rw [hw3] at K3 c12' n12' f0' f1' ⊢
        clear c12 n12 f0 f1 ce ce' hw3 f1'
        have hd8 := dec_len nv.toNat
        have hmk1 : mk.size = 1 := by rw [← HK.out, strOfNums_size]; rfl
        have hu9 : uu.size ≤ 27 := by
          have h1 := wrU_len ps ns j
          have h2 := HM.out
          have h3 := HLT.out
          rw [← HUU.out, strOfNums_size]; omega
        have HI := fun w1 (hk : Kp w3 w1) => itoa_any nv.toNat (by omega) nv (by omega) w1 (HT.out.kp (Kp.trans K3.out hk))
        obtain ⟨dd, hdd⟩ : ∃ s, strOfNums (dec nv.toNat) = s := ⟨_, rfl⟩
        rw [hdd] at HI
        have HI := Lib.hid HI
        have hds : dd.size ≤ 8 := by rw [← hdd, strOfNums_size]; exact hd8
        obtain ⟨t1, ht1⟩ : ∃ s, mk ++ dd = s := ⟨_, rfl⟩
        obtain ⟨t2, ht2⟩ : ∃ s, uu ++ t1 = s := ⟨_, rfl⟩
        have HT2 := Lib.hid (show strOfNums (wrU ps ns (j + 1)) = t2 by
          rw [← ht2, ← ht1, ← HUU.out, ← HK.out, ← hdd, str_append, str_append, wrU, HNV.out])
        have ht1s : t1.size = mk.size + dd.size := by rw [← ht1, ByteArray.size_append]
        have HS1 := Lib.hid (show ¬ 9223372036854775807 < mk.size + dd.size by omega)
        have HS2 := Lib.hid (show ¬ 9223372036854775807 < uu.size + t1.size by omega)
        have HC1 := Lib.hid ht1
        have HC2 := Lib.hid ht2
        have HG9 := Lib.hid (show okU ps ns (j + 1) = true by rw [okU, HOK.out, HNV.out, HBB.out, decide_eq_true HG.out]; rfl)
        clear hd8 hmk1 hu9 hdd hds ht1 ht2 ht1s
        refine wp_region_held_drew (S := fun w' => Kp w3 w') (by kernel_rfl) ?_ (fun hHeld => ?_)
        · exact (Kp.refl w3).drew
        refine wpAnyH_take (i := 0) (v := ?_) rfl (by kernel_rfl) (by kernel_rfl) (by kernel_rfl) (fun _ _ _ h => h) (Or.inl ⟨by rfl, ?_⟩) (by assumption) ?_
        rotate_left
        · intro w hSw; go_simp; try with_reducible rfl
        go_simp
        refine wpAnyH_take (i := 1) (v := ?_) rfl (by kernel_rfl) (by kernel_rfl) (by kernel_rfl) (fun _ _ _ h => h) (Or.inl ⟨by rfl, ?_⟩) (by assumption) ?_
        rotate_left
        · intro w hSw; go_simp; try with_reducible rfl
        go_simp
        refine wpAnyH_take (i := 2) (v := ?_) rfl (by kernel_rfl) (by kernel_rfl) (by kernel_rfl) (fun _ _ _ h => h) (Or.inl ⟨by rfl, ?_⟩) (by assumption) ?_
        rotate_left
        · intro w hSw; have q := kp_cell hSw f0'; go_simp; try with_reducible rfl
        go_simp
        refine wpAnyH_take (i := 3) (v := ?_) rfl (by kernel_rfl) (by kernel_rfl) (by kernel_rfl) (fun _ _ _ h => h) (Or.inl ⟨by rfl, ?_⟩) (by assumption) ?_
        rotate_left
        · intro w hSw; have q := kp_cell hSw c12'; go_simp; try with_reducible rfl
        go_simp
        refine wpAnyH_take (i := 4) (v := ?_) rfl (by kernel_rfl) (by kernel_rfl) (by kernel_rfl) (fun _ _ _ h => h) (Or.inl ⟨by rfl, ?_⟩) (by assumption) ?_
        rotate_left
        · intro w hSw; go_simp; try with_reducible rfl
        go_simp
        refine wpAnyH_take (i := 5) (v := ?_) rfl (by kernel_rfl) (by kernel_rfl) (by kernel_rfl) (fun _ _ _ h => h) (Or.inl ⟨by rfl, ?_⟩) (by assumption) ?_
        rotate_left
        · intro w hSw; go_simp; try with_reducible rfl
        go_simp
        refine wpAnyH_take (i := 6) (v := ?_) rfl (by kernel_rfl) (by kernel_rfl) (by kernel_rfl) (fun _ _ _ h => h) (Or.inl ⟨by rfl, ?_⟩) (by assumption) ?_
        rotate_left
        · intro w hSw; have q := kp_cell hSw n12'; go_simp; try with_reducible rfl
        go_simp
        refine wpAnyH_ready (rs := [7]) (by kernel_rfl) (by simp) ?_
        refine AllReadyH.cons rfl (fun K hK => ?_) AllReadyH.nil
        go_simp
        go_wp2_with (go_at_call 110; (with_reducible refine (HI.out _ hHeld).mono ?_); rintro e w4 ⟨rfl, hk4⟩; have K4 := Lib.hid (Kp.trans hHeld hk4); clear hk4)
        refine hK.out _ _ ?_ (fun hHeld => ?_)
        · exact K4.out
        clear hK K
        refine wpAnyH_take (i := 8) (v := ?_) rfl (by kernel_rfl) (by kernel_rfl) (by kernel_rfl) (fun _ _ _ h => h) (Or.inl ⟨by rfl, ?_⟩) (by assumption) ?_
        rotate_left
        · intro w hSw; go_simp; rw [if_neg HS1.out, HC1.out]
        go_simp
        refine wpAnyH_take (i := 9) (v := ?_) rfl (by kernel_rfl) (by kernel_rfl) (by kernel_rfl) (fun _ _ _ h => h) (Or.inl ⟨by rfl, ?_⟩) (by assumption) ?_
        rotate_left
        · intro w hSw; go_simp; rw [if_neg HS2.out, HC2.out]
        go_simp
        refine wpAnyH_take (i := 10) (v := ?_) rfl (by kernel_rfl) (by kernel_rfl) (by kernel_rfl) (fun _ _ _ h => h) (Or.inl ⟨by rfl, ?_⟩) (by assumption) ?_
        rotate_left
        · intro w hSw; go_simp; try with_reducible rfl
        go_simp
        refine wpAnyH_done (by kernel_rfl) ?_ _
        go_wp2
        have hj1 : (j : Int) = jj := HJ.out
        have hlt1 : j < m := HLT.out
        refine ⟨⟨j + 1, hlt1, ?_, ?_, HG9.out, Kp.trans K3.out hHeld⟩, ?_⟩
        · rw [← hj1]; rfl
        · rw [HT2.out]
        · simp [intOf]; omega
      · have hno : okU ps ns m = false := by
          have e1 : okU ps ns (j + 1) = false := by
            rw [okU, HNV.out, HBB.out, decide_eq_false hg, Bool.and_false]
          have hlt1 : j < m := HLT.out
          have := okU_no (j + 1) (m - (j + 1)) e1
          rwa [show j + 1 + (m - (j + 1)) = m by omega] at this
        have HNO := Lib.hid hno
        clear hno
        by_cases g1 : 0 ≤ nv
        · have g2 : ¬ nv < bb := fun q => hg ⟨g1, q⟩
          have d1 : decide (0 ≤ nv) = true := decide_eq_true g1
          have d2 : decide (nv < bb) = false := decide_eq_false g2
          clear hg
          go_still_tail 15, (by kernel_rfl)
          change wpList _ _ _ _ _ w2.drew
          go_wp2_with (go_at_call 109; (with_reducible refine (idemand_f _ _).mono ?_); rintro e w' ⟨rfl, rfl⟩)
          exact ⟨rfl, .inr ⟨HNO.out, rfl⟩, K2.out.drew⟩
        · have d1 : decide (0 ≤ nv) = false := decide_eq_false g1
          clear hg
          refine wp_region_held_drew (S := fun w' => Kp w2 w') (by kernel_rfl) ?_ (fun hHeld => ?_)
          · exact (Kp.refl w2).drew
          refine wpAnyH_take (i := 0) (v := ?_) rfl (by kernel_rfl) (by kernel_rfl) (by kernel_rfl) (fun _ _ _ h => h) (Or.inl ⟨by rfl, ?_⟩) (by assumption) ?_
          rotate_left
          · intro w hSw; have q := kp_cell hSw c12; go_simp; try with_reducible rfl
          go_simp
          refine wpAnyH_take (i := 1) (v := ?_) rfl (by kernel_rfl) (by kernel_rfl) (by kernel_rfl) (fun _ _ _ h => h) (Or.inl ⟨by rfl, ?_⟩) (by assumption) ?_
          rotate_left
          · intro w hSw; go_simp; try with_reducible rfl
          go_simp
          refine wpAnyH_take (i := 2) (v := ?_) rfl (by kernel_rfl) (by kernel_rfl) (by kernel_rfl) (fun _ _ _ h => h) (Or.inl ⟨by rfl, ?_⟩) (by assumption) ?_
          rotate_left
          · intro w hSw; go_simp; try with_reducible rfl
          go_simp
          refine wpAnyH_take (i := 3) (v := ?_) rfl (by kernel_rfl) (by kernel_rfl) (by kernel_rfl) (fun _ _ _ h => h) (Or.inl ⟨by rfl, ?_⟩) (by assumption) ?_
          rotate_left
          · intro w hSw; have q := kp_cell hSw n12; go_simp; try with_reducible rfl
          go_simp
          refine wpAnyH_take (i := 4) (v := ?_) rfl (by kernel_rfl) (by kernel_rfl) (by kernel_rfl) (fun _ _ _ h => h) (Or.inl ⟨by rfl, ?_⟩) (by assumption) ?_
          rotate_left
          · intro w hSw; go_simp; try with_reducible rfl
          go_simp
          refine wpAnyH_take (i := 5) (v := ?_) rfl (by kernel_rfl) (by kernel_rfl) (by kernel_rfl) (fun _ _ _ h => h) (Or.inl ⟨by rfl, ?_⟩) (by assumption) ?_
          rotate_left
          · intro w hSw; go_simp; try with_reducible rfl
          go_simp
          refine wpAnyH_take (i := 6) (v := undef) rfl (by kernel_rfl) (by kernel_rfl) (by kernel_rfl) (fun _ _ _ h => h) (Or.inr ⟨by rfl, rfl⟩) (by assumption) ?_
          go_simp
          refine wpAnyH_take (i := 7) (v := undef) rfl (by kernel_rfl) (by kernel_rfl) (by kernel_rfl) (fun _ _ _ h => h) (Or.inr ⟨by rfl, rfl⟩) (by assumption) ?_
          go_simp
          refine wpAnyH_take (i := 8) (v := undef) rfl (by kernel_rfl) (by kernel_rfl) (by kernel_rfl) (fun _ _ _ h => h) (Or.inr ⟨by rfl, rfl⟩) (by assumption) ?_
          go_simp
          refine wpAnyH_take (i := 9) (v := undef) rfl (by kernel_rfl) (by kernel_rfl) (by kernel_rfl) (fun _ _ _ h => h) (Or.inr ⟨by rfl, rfl⟩) (by assumption) ?_
          go_simp
          refine wpAnyH_take (i := 10) (v := undef) rfl (by kernel_rfl) (by kernel_rfl) (by kernel_rfl) (fun _ _ _ h => h) (Or.inr ⟨by rfl, rfl⟩) (by assumption) ?_
          go_simp
          refine wpAnyH_take (i := 11) (v := undef) rfl (by kernel_rfl) (by kernel_rfl) (by kernel_rfl) (fun _ _ _ h => h) (Or.inr ⟨by rfl, rfl⟩) (by assumption) ?_
          go_simp
          refine wpAnyH_take (i := 12) (v := undef) rfl (by kernel_rfl) (by kernel_rfl) (by kernel_rfl) (fun _ _ _ h => h) (Or.inr ⟨by rfl, rfl⟩) (by assumption) ?_
          go_simp
          refine wpAnyH_take (i := 13) (v := ?_) rfl (by kernel_rfl) (by kernel_rfl) (by kernel_rfl) (fun _ _ _ h => h) (Or.inl ⟨by rfl, ?_⟩) (by assumption) ?_
          rotate_left
          · intro w hSw; go_simp; try with_reducible rfl
          go_simp
          refine wpAnyH_take (i := 14) (v := ?_) rfl (by kernel_rfl) (by kernel_rfl) (by kernel_rfl) (fun _ _ _ h => h) (Or.inl ⟨by rfl, ?_⟩) (by assumption) ?_
          rotate_left
          · intro w hSw; have q := CE.out _ (Kp.trans K2.out hSw); go_simp; try with_reducible rfl
          go_simp
          refine wpAnyH_ready (rs := [15]) (by kernel_rfl) (by simp) ?_
          refine AllReadyH.cons rfl (fun K hK => ?_) AllReadyH.nil
          go_simp
          go_wp2_with (go_at_call 109; (with_reducible refine (idemand_f _ _).mono ?_); rintro e w' ⟨rfl, rfl⟩)
          exact ⟨rfl, .inr ⟨HNO.out, rfl⟩, Kp.trans K2.out hHeld⟩
    · have hjm : j = m := by omega
      have hjl : ¬ jj < L := by omega
      subst hjm
      have HOK := Lib.hid hok
      clear hjj hlt hk hj hok c0 c1 hLL
      go_wp2
      go_ret
      exact ⟨.inl ⟨HOK.out, rfl⟩, KR.out⟩
end Go.Proofs.YtahdoniggipmmaaGreatDoor

namespace Go.Proofs.YtahdoniggipmmaaGreatDoor
open Go.RowKit Go.ChangeShapes Go.WideShapes

/-- a text, or ErrRange -/
def wrV (a : Addr) (ps : List (Int × Int)) (ns : List Int) (m : Nat) : Value :=
  if okU ps ns m = true then .tuple #[.string (strOfNums (wrU ps ns m)), .nilIface] else .tuple #[.string ⟨#[]⟩, snt a]

set_option maxRecDepth 20000 in
theorem write_any (ads : List Addr) (h0 : 0 < ads.length) (ps : List (Int × Int)) (ns : List Int) (m : Nat) (hm : ps.length = m) (hm2 : ns.length = m) (hm3 : m ≤ 3) (hb : ∀ j, j < m → (ps.getD j (0, 0)).2 ≤ 1000000)
    (v : Value) (gn cn : Nat) (w : World) (V : St ads w) (T : Tab w) (hp : PlC v ps w) (hn : ∀ j, j < m → w.cell? ⟨gn, j, none⟩ = some (.int .i64 (ns.getD j 0))) :
    Calls Tryz.prog 104 #[v, .slice (some ⟨gn, 0, none⟩) m cn] w fun e w' => e = .returned (wrV (ads[0]'h0) ps ns m) ∧ Kp w w' := by
  have hmf : ∀ (fn : Fn) (first cap : Array Value) (w : World), (Instr.makeFunc fn first cap).run Tryz.prog w = .ok (.func fn first cap) w := fun _ _ _ _ => rfl
  obtain ⟨gp, cp, rfl, hpc⟩ := hp
  rw [hm] at hpc ⊢
  have k1 := kp_alloc w (.cells #[.slice (some ⟨gp, 0, none⟩) m cp] 145)
  have k2 := Kp.trans k1 (kp_alloc (w.alloc (.cells #[.slice (some ⟨gp, 0, none⟩) m cp] 145)) (.cells #[.slice (some ⟨gn, 0, none⟩) m cn] 76))
  have c0 := kp_cell (kp_alloc (w.alloc (.cells #[.slice (some ⟨gp, 0, none⟩) m cp] 145)) (.cells #[.slice (some ⟨gn, 0, none⟩) m cn] 76)) (box_cell w (.slice (some ⟨gp, 0, none⟩) m cp) 145)
  have c1 := box_cell (w.alloc (.cells #[.slice (some ⟨gp, 0, none⟩) m cp] 145)) (.slice (some ⟨gn, 0, none⟩) m cn) 76
  rw [show (w.alloc (.cells #[.slice (some ⟨gp, 0, none⟩) m cp] 145)).heap.size = w.heap.size + 1 by simp] at c1
  have HB := fun w1 (hk : Kp ((w.alloc (.cells #[.slice (some ⟨gp, 0, none⟩) m cp] 145)).alloc (.cells #[.slice (some ⟨gn, 0, none⟩) m cn] 76)) w1) =>
    write1_any ads h0 ps ns m hm hm2 hm3 hb w.heap.size (w.heap.size + 1) gp cp gn cn w1 (V.below (Kp.trans k2 hk)) (T.kp (Kp.trans k2 hk)) (kp_cell hk c0) (kp_cell hk c1)
      (fun j hj => ⟨kp_cell (Kp.trans k2 hk) (hpc j (by omega)).1, kp_cell (Kp.trans k2 hk) (hpc j (by omega)).2⟩) (fun j hj => kp_cell (Kp.trans k2 hk) (hn j hj))
  have K2 := Lib.hid k2
  by_cases hok : okU ps ns m = true
  · have e1 : wrV (ads[0]'h0) ps ns m = .tuple #[.string (strOfNums (wrU ps ns m)), .nilIface] := if_pos hok
    rw [e1]
    have HT := Lib.hid (try_str_val 108 #[.pointer (some ⟨w.heap.size, 0, none⟩), .pointer (some ⟨w.heap.size + 1, 0, none⟩)] (strOfNums (wrU ps ns m)) ((w.alloc (.cells #[.slice (some ⟨gp, 0, none⟩) m cp] 145)).alloc (.cells #[.slice (some ⟨gn, 0, none⟩) m cn] 76)) (by intro w; simp [go_sem])
      (fun w1 hk => (HB w1 hk).mono (by
        rintro e w2 ⟨⟨_, rfl⟩ | ⟨h, _⟩, hk2⟩
        · exact ⟨rfl, hk2⟩
        · rw [hok] at h; cases h)))
    clear HB c0 c1 k1 k2 hpc hn V T hb e1 hok
    go_enter Tryz.func104, Tryz.ntmps104
    go_wp2_with (go_at_call 107; (with_reducible refine HT.out.mono ?_); rintro e w' ⟨rfl, hk⟩; have HK := Lib.hid (Kp.trans K2.out hk); clear hk)
    go_ret2
    exact ⟨rfl, HK.out⟩
  · have e1 : wrV (ads[0]'h0) ps ns m = .tuple #[.string ⟨#[]⟩, snt (ads[0]'h0)] := if_neg hok
    rw [e1]
    have HT := Lib.hid (try_str_err ads 0 h0 108 #[.pointer (some ⟨w.heap.size, 0, none⟩), .pointer (some ⟨w.heap.size + 1, 0, none⟩)] ((w.alloc (.cells #[.slice (some ⟨gp, 0, none⟩) m cp] 145)).alloc (.cells #[.slice (some ⟨gn, 0, none⟩) m cn] 76)) (V.below k2) (by intro w; simp [go_sem])
      (fun w1 hk => (HB w1 hk).mono (by
        rintro e w2 ⟨⟨h, _⟩ | ⟨_, rfl⟩, hk2⟩
        · exact absurd h hok
        · exact ⟨rfl, hk2⟩)))
    clear HB c0 c1 k1 k2 hpc hn V T hb e1 hok
    go_enter Tryz.func104, Tryz.ntmps104
    go_wp2_with (go_at_call 107; (with_reducible refine HT.out.mono ?_); rintro e w' ⟨rfl, hk⟩; have HK := Lib.hid (Kp.trans K2.out hk); clear hk)
    go_ret2
    exact ⟨rfl, HK.out⟩

theorem errI_one (ads : List Addr) (h0 : 0 < ads.length) : errI ads 1 = snt (ads[0]'h0) := by
  unfold errI
  rw [if_neg (by decide), show ((1 : Int) - 1).toNat = 0 from rfl, List.getElem?_eq_getElem h0]
theorem errI_four (ads : List Addr) (h3 : 3 < ads.length) : errI ads 4 = snt (ads[3]'h3) := by
  unfold errI
  rw [if_neg (by decide), show ((4 : Int) - 1).toNat = 3 from rfl, List.getElem?_eq_getElem h3]
theorem node_wr (ads : List Addr) (h0 : 0 < ads.length) (n : Int) : wrV (ads[0]'h0) nodeL [n] 1 = textR ads (nodeO n) := by
  unfold wrV nodeO
  have e : okU nodeL [n] 1 = nodeR n := by simp [okU, nodeL, nodeR]
  rw [e]
  split
  · simp [textR, wrU, nodeL, nodeT]
  · simp only [textR]; rw [errI_one ads h0]
theorem act_wr (ads : List Addr) (h0 : 0 < ads.length) (n s : Int) : wrV (ads[0]'h0) actL [n, s] 2 = textR ads (actO n s) := by
  unfold wrV actO
  have e : okU actL [n, s] 2 = rightA n s := by simp [okU, actL, rightA, Bool.and_assoc]
  rw [e]
  split
  · simp [textR, wrU, actL, actT]
  · simp only [textR]; rw [errI_one ads h0]
theorem reg_wr (ads : List Addr) (h0 : 0 < ads.length) (n s r : Int) : wrV (ads[0]'h0) regL [n, s, r] 3 = textR ads (regO n s r) := by
  unfold wrV regO
  have e : okU regL [n, s, r] 3 = (rightA n s && regR r) := by simp [okU, regL, rightA, regR, Bool.and_assoc]
  rw [e]
  split
  · simp [textR, wrU, regL, regT, actT]
  · simp only [textR]; rw [errI_one ads h0]
theorem part_wr (ads : List Addr) (h0 : 0 < ads.length) (n p : Int) : wrV (ads[0]'h0) partL [n, p] 2 = textR ads (partO n p) := by
  unfold wrV partO
  have e : okU partL [n, p] 2 = (nodeR n && partR p) := by simp [okU, partL, nodeR, partR, Bool.and_assoc]
  rw [e]
  split
  · simp [textR, wrU, partL, partT]
  · simp only [textR]; rw [errI_one ads h0]
theorem textR_form (ads : List Addr) (o : Option (List Int)) : ∃ s e, textR ads o = .tuple #[.string s, e] := by
  cases o <;> exact ⟨_, _, rfl⟩
theorem ints_cells (w : World) (ns : List Int) (j : Nat) (hj : j < ns.length) : (w.alloc (.cells (ns.map (Value.int .i64)).toArray 3)).cell? ⟨w.heap.size, j, none⟩ = some (.int .i64 (ns.getD j 0)) := by
  have hr := (MapKept.heap_alloc w (.cells (ns.map (Value.int .i64)).toArray 3)).1
  unfold World.cell?
  dsimp only
  rw [hr]
  simp [List.getD, hj]

set_option maxRecDepth 20000 in
set_option maxHeartbeats 1000000 in
theorem act_any (ads : List Addr) (w : World) (V : St ads w) (T : Tab w) (n s : Int) :
    Calls Tryz.prog 100 #[.agg #[.int .i64 n, .int .i64 s]] w fun e w' => e = .returned (textR ads (actO n s)) ∧ Kp w w' := by
  have h0 : 0 < ads.length := by rw [V.len]; decide
  have HWR := fun v gn w1 (hk : Kp w w1) (hp : PlC v actL w1) (hn : ∀ j, j < 2 → w1.cell? ⟨gn, j, none⟩ = some (.int .i64 ([n, s].getD j 0))) => write_any ads h0 actL [n, s] 2 rfl rfl (by decide) (by decide) v gn 2 w1 (V.below hk) (T.kp hk) hp hn
  rw [act_wr ads h0] at HWR
  obtain ⟨tx, er, htx⟩ := textR_form ads (actO n s)
  rw [htx] at HWR ⊢
  have HWR := Lib.hid HWR
  clear htx V T
  have k0 := kp_alloc w (.cells #[.int .i64 n, .int .i64 s] 23)
  have hr := (MapKept.heap_alloc w (.cells #[.int .i64 n, .int .i64 s] 23)).1
  go_enter Tryz.func100, Tryz.ntmps100
  go_wp2
  obtain ⟨w0, hw0⟩ : ∃ x, w.alloc (.cells #[.int .i64 n, .int .i64 s] 23) = x := ⟨_, rfl⟩
  obtain ⟨p0, hp0⟩ : ∃ x, w.heap.size = x := ⟨_, rfl⟩
  rw [hw0] at k0 hr ⊢
  rw [hp0] at hr ⊢
  have b0 : w0.cell? ⟨p0, 0, none⟩ = some (.int .i64 n) := by unfold World.cell?; dsimp only; rw [hr]; rfl
  have b1 : w0.cell? ⟨p0, 1, none⟩ = some (.int .i64 s) := by unfold World.cell?; dsimp only; rw [hr]; rfl
  have K0 := Lib.hid k0
  clear hr hw0 k0 hp0
  refine wp_region_held_drew (S := fun w' => Kp w0 w') (by kernel_rfl) ?_ (fun hHeld => ?_)
  · exact (Kp.refl w0).drew
  refine wpAnyH_take (i := 1) (v := ?_) rfl (by kernel_rfl) (by kernel_rfl) (by kernel_rfl) (fun _ _ _ h => h) (Or.inl ⟨by rfl, ?_⟩) (by assumption) ?_
  rotate_left
  · intro w hSw; go_simp; try with_reducible rfl
  go_simp
  refine wpAnyH_take (i := 2) (v := ?_) rfl (by kernel_rfl) (by kernel_rfl) (by kernel_rfl) (fun _ _ _ h => h) (Or.inl ⟨by rfl, ?_⟩) (by assumption) ?_
  rotate_left
  · intro w hSw; have q := kp_cell hSw b0; go_simp; try with_reducible rfl
  go_simp
  refine wpAnyH_take (i := 3) (v := ?_) rfl (by kernel_rfl) (by kernel_rfl) (by kernel_rfl) (fun _ _ _ h => h) (Or.inl ⟨by rfl, ?_⟩) (by assumption) ?_
  rotate_left
  · intro w hSw; go_simp; try with_reducible rfl
  go_simp
  refine wpAnyH_take (i := 4) (v := ?_) rfl (by kernel_rfl) (by kernel_rfl) (by kernel_rfl) (fun _ _ _ h => h) (Or.inl ⟨by rfl, ?_⟩) (by assumption) ?_
  rotate_left
  · intro w hSw; have q := kp_cell hSw b1; go_simp; try with_reducible rfl
  go_simp
  refine wpAnyH_ready (rs := [0, 5]) (by kernel_rfl) (by simp) ?_
  refine AllReadyH.cons rfl (fun K hK => ?_) (AllReadyH.cons rfl (fun K hK => ?_) AllReadyH.nil)
  · go_simp
    go_wp2_with (go_at_call 105; (with_reducible refine (actPl_any _).mono ?_); rintro e w1 ⟨v, rfl, hp, hk⟩; have HP0 := Lib.hid hp; have K1 := Lib.hid (Kp.trans hHeld hk); clear hp hk)
    refine hK.out _ _ ?_ (fun hHeld => ?_)
    · exact K1.out
    clear hK K
    refine wpAnyH_ready (rs := [5]) (by kernel_rfl) (by simp) ?_
    refine AllReadyH.cons rfl (fun K hK => ?_) AllReadyH.nil
    go_simp
    refine hK.out _ _ ?_ (fun hHeld => ?_)
    · exact Kp.trans K1.out (kp_alloc _ _)
    clear hK K
    have HP := Lib.hid (HP0.out.kp (kp_alloc w1 (.cells #[.int .i64 n, .int .i64 s] 3)))
    have KK := Lib.hid (Kp.trans K1.out (kp_alloc w1 (.cells #[.int .i64 n, .int .i64 s] 3)))
    have HN := Lib.hid (show ∀ j, j < 2 → (w1.alloc (.cells #[.int .i64 n, .int .i64 s] 3)).cell? ⟨w1.heap.size, j, none⟩ = some (.int .i64 ([n, s].getD j 0)) from ints_cells w1 [n, s])
    refine wpAnyH_ready (rs := [6]) (by kernel_rfl) (by simp) ?_
    refine AllReadyH.cons rfl (fun K hK => ?_) AllReadyH.nil
    go_simp
    go_wp2_with (go_at_call 104; (with_reducible refine (HWR.out _ _ _ (Kp.trans K0.out KK.out) HP.out HN.out).mono ?_); rintro e w3 ⟨rfl, hk⟩; have KK := Lib.hid (Kp.trans KK.out hk); clear hk)
    refine hK.out _ _ ?_ (fun hHeld => ?_)
    · exact KK.out
    clear hK K
    refine wpAnyH_take (i := 7) (v := ?_) rfl (by kernel_rfl) (by kernel_rfl) (by kernel_rfl) (fun _ _ _ h => h) (Or.inl ⟨by rfl, ?_⟩) (by assumption) ?_
    rotate_left
    · intro w hSw; go_simp; try with_reducible rfl
    go_simp
    refine wpAnyH_take (i := 8) (v := ?_) rfl (by kernel_rfl) (by kernel_rfl) (by kernel_rfl) (fun _ _ _ h => h) (Or.inl ⟨by rfl, ?_⟩) (by assumption) ?_
    rotate_left
    · intro w hSw; go_simp; try with_reducible rfl
    go_simp
    refine wpAnyH_take (i := 9) (v := ?_) rfl (by kernel_rfl) (by kernel_rfl) (by kernel_rfl) (fun _ _ _ h => h) (Or.inl ⟨by rfl, ?_⟩) (by assumption) ?_
    rotate_left
    · intro w hSw; go_simp; try with_reducible rfl
    go_simp
    refine wpAnyH_take (i := 10) (v := ?_) rfl (by kernel_rfl) (by kernel_rfl) (by kernel_rfl) (fun _ _ _ h => h) (Or.inl ⟨by rfl, ?_⟩) (by assumption) ?_
    rotate_left
    · intro w hSw; go_simp; try with_reducible rfl
    go_simp
    refine wpAnyH_done (by kernel_rfl) ?_ _
    go_wp2
    go_ret2
    exact ⟨rfl, Kp.trans K0.out hHeld⟩
  · go_simp
    refine hK.out _ _ ?_ (fun hHeld => ?_)
    · exact Kp.trans (Kp.refl w0).drew (kp_alloc _ _)
    clear hK K
    have HN0 := show ∀ j, j < 2 → (w0.drew.alloc (.cells #[.int .i64 n, .int .i64 s] 3)).cell? ⟨w0.heap.size, j, none⟩ = some (.int .i64 ([n, s].getD j 0)) from ints_cells w0.drew [n, s]
    refine wpAnyH_ready (rs := [0]) (by kernel_rfl) (by simp) ?_
    refine AllReadyH.cons rfl (fun K hK => ?_) AllReadyH.nil
    go_simp
    go_wp2_with (go_at_call 105; (with_reducible refine (actPl_any _).mono ?_); rintro e w1 ⟨v, rfl, hp, hk⟩; have HP := Lib.hid hp; have KK := Lib.hid (Kp.trans hHeld hk); have HN := Lib.hid (fun j hj => kp_cell hk (HN0 j hj)); clear hp hk)
    refine hK.out _ _ ?_ (fun hHeld => ?_)
    · exact KK.out
    clear hK K
    refine wpAnyH_ready (rs := [6]) (by kernel_rfl) (by simp) ?_
    refine AllReadyH.cons rfl (fun K hK => ?_) AllReadyH.nil
    go_simp
    go_wp2_with (go_at_call 104; (with_reducible refine (HWR.out _ _ _ (Kp.trans K0.out KK.out) HP.out HN.out).mono ?_); rintro e w3 ⟨rfl, hk⟩; have KK := Lib.hid (Kp.trans KK.out hk); clear hk)
    refine hK.out _ _ ?_ (fun hHeld => ?_)
    · exact KK.out
    clear hK K
    refine wpAnyH_take (i := 7) (v := ?_) rfl (by kernel_rfl) (by kernel_rfl) (by kernel_rfl) (fun _ _ _ h => h) (Or.inl ⟨by rfl, ?_⟩) (by assumption) ?_
    rotate_left
    · intro w hSw; go_simp; try with_reducible rfl
    go_simp
    refine wpAnyH_take (i := 8) (v := ?_) rfl (by kernel_rfl) (by kernel_rfl) (by kernel_rfl) (fun _ _ _ h => h) (Or.inl ⟨by rfl, ?_⟩) (by assumption) ?_
    rotate_left
    · intro w hSw; go_simp; try with_reducible rfl
    go_simp
    refine wpAnyH_take (i := 9) (v := ?_) rfl (by kernel_rfl) (by kernel_rfl) (by kernel_rfl) (fun _ _ _ h => h) (Or.inl ⟨by rfl, ?_⟩) (by assumption) ?_
    rotate_left
    · intro w hSw; go_simp; try with_reducible rfl
    go_simp
    refine wpAnyH_take (i := 10) (v := ?_) rfl (by kernel_rfl) (by kernel_rfl) (by kernel_rfl) (fun _ _ _ h => h) (Or.inl ⟨by rfl, ?_⟩) (by assumption) ?_
    rotate_left
    · intro w hSw; go_simp; try with_reducible rfl
    go_simp
    refine wpAnyH_done (by kernel_rfl) ?_ _
    go_wp2
    go_ret2
    exact ⟨rfl, Kp.trans K0.out hHeld⟩

set_option maxRecDepth 20000 in
theorem right_any (ads : List Addr) (w : World) (V : St ads w) (T : Tab w) (n s : Int) :
    Calls Tryz.prog 90 #[.agg #[.int .i64 n, .int .i64 s]] w fun e w' => e = .returned (.bool (rightA n s)) ∧ Kp w w' := by
  have h0 : 0 < ads.length := by rw [V.len]; decide
  have k0 := kp_alloc w (.cells #[.int .i64 n, .int .i64 s] 23)
  have HA := act_any ads _ (V.below k0) (T.kp k0) n s
  have K0 := Lib.hid k0
  cases hr : rightA n s with
  | true =>
    have e1 : actO n s = some (actT n.toNat s.toNat) := by unfold actO; rw [if_pos hr]
    rw [e1] at HA
    simp only [textR] at HA
    have HA := Lib.hid HA
    clear V T k0 e1 hr
    go_enter Tryz.func90, Tryz.ntmps90
    go_wp2_with (go_at_call 100; (with_reducible refine HA.out.mono ?_); rintro e w1 ⟨rfl, hk⟩; have KK := Lib.hid (Kp.trans K0.out hk); clear hk)
    go_ret
    exact ⟨rfl, KK.out⟩
  | false =>
    have e1 : actO n s = none := by unfold actO; rw [hr]; rfl
    rw [e1] at HA
    simp only [textR] at HA
    rw [errI_one ads h0] at HA
    obtain ⟨a0, ha0⟩ : ∃ a, ads[0]'h0 = a := ⟨_, rfl⟩
    rw [ha0] at HA
    have HA := Lib.hid HA
    clear V T k0 e1 hr ha0
    go_enter Tryz.func90, Tryz.ntmps90
    go_wp2_with (go_at_call 100; (with_reducible refine HA.out.mono ?_); rintro e w1 ⟨rfl, hk⟩; have KK := Lib.hid (Kp.trans K0.out hk); clear hk)
    go_ret
    exact ⟨rfl, KK.out⟩
end Go.Proofs.YtahdoniggipmmaaGreatDoor

namespace Go.Proofs.YtahdoniggipmmaaGreatDoor
open Go.RowKit Go.ChangeShapes Go.WideShapes

theorem check_t (w : World) : Calls Tryz.prog 58 #[.nilIface] w fun e w' => e = .returned (.tuple #[]) ∧ w = w' := by
  go_enter Tryz.func58, Tryz.ntmps58
  go_wp2
  go_end0
  exact ⟨rfl, rfl⟩
theorem check_f (a : Addr) (w : World) : Calls Tryz.prog 58 #[snt a] w fun e w' => e = .panicked [{ v := snt a, recovered := false }] ∧ w = w' := by
  have hpn := panic_some (P := Tryz.prog) 166 (.pointer (some a)) w
  go_enter Tryz.func58, Tryz.ntmps58
  go_wp2
  exact ⟨rfl, rfl, rfl⟩
theorem must_bytes_t (v : Value) (w : World) : Calls Tryz.prog 24 #[v, .nilIface] w fun e w' => e = .returned v ∧ w = w' := by
  go_enter Tryz.func24, Tryz.ntmps24
  go_wp2_with (go_at_call 58; (with_reducible refine (check_t _).mono ?_); rintro e w' ⟨rfl, rfl⟩)
  go_ret
  exact ⟨rfl, rfl⟩
theorem must_bytes_f (v : Value) (a : Addr) (w : World) : Calls Tryz.prog 24 #[v, snt a] w fun e w' => e = .panicked [{ v := snt a, recovered := false }] ∧ w = w' := by
  go_enter Tryz.func24, Tryz.ntmps24
  go_wp2_with (go_at_call 58; (with_reducible refine (check_f _ _).mono ?_); rintro e w' ⟨rfl, rfl⟩)
  exact ⟨rfl, rfl, rfl⟩
theorem must_fields_t (v : Value) (w : World) : Calls Tryz.prog 40 #[v, .nilIface] w fun e w' => e = .returned v ∧ w = w' := by
  go_enter Tryz.func40, Tryz.ntmps40
  go_wp2_with (go_at_call 58; (with_reducible refine (check_t _).mono ?_); rintro e w' ⟨rfl, rfl⟩)
  go_ret
  exact ⟨rfl, rfl⟩
theorem must_fields_f (v : Value) (a : Addr) (w : World) : Calls Tryz.prog 40 #[v, snt a] w fun e w' => e = .panicked [{ v := snt a, recovered := false }] ∧ w = w' := by
  go_enter Tryz.func40, Tryz.ntmps40
  go_wp2_with (go_at_call 58; (with_reducible refine (check_f _ _).mono ?_); rintro e w' ⟨rfl, rfl⟩)
  exact ⟨rfl, rfl, rfl⟩
end Go.Proofs.YtahdoniggipmmaaGreatDoor

