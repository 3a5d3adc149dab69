/-
  THE CHECK SUM AS ARITHMETIC (own work): one step of the register on natural numbers, its linearity, what a row of bytes leaves, what a burst of changed bits does.
-/
import Derived.Test.YtpehmkglkjlmfaaDoorSlB
namespace Go.Proofs.YtpehmkglkjlmfaaDoor

/-- One step of the register. -/
def T (x : Nat) : Nat := x / 2 ^^^ (x % 2) * 3988292384
def Tn : Nat → Nat → Nat
  | 0, x => x
  | n + 1, x => Tn n (T x)

theorem xor_shuf (a b c d : Nat) : (a ^^^ b) ^^^ (c ^^^ d) = (a ^^^ c) ^^^ (b ^^^ d) := by
  refine Nat.eq_of_testBit_eq fun i => ?_
  simp only [Nat.testBit_xor]
  cases a.testBit i <;> cases b.testBit i <;> cases c.testBit i <;> cases d.testBit i <;> rfl
theorem bit_mul (x y : Nat) (hx : x < 2) (hy : y < 2) (p : Nat) : (x ^^^ y) * p = x * p ^^^ y * p := by
  match x, y, hx, hy with
  | 0, 0, _, _ | 0, 1, _, _ | 1, 0, _, _ | 1, 1, _, _ => simp
theorem T_xor (x y : Nat) : T (x ^^^ y) = T x ^^^ T y := by
  unfold T
  have h : (x ^^^ y) % 2 = x % 2 ^^^ y % 2 := Nat.xor_mod_two_pow (n := 1)
  rw [Nat.xor_div_two, h, bit_mul _ _ (Nat.mod_lt _ (by decide)) (Nat.mod_lt _ (by decide)), xor_shuf]
theorem T_two (y : Nat) : T (2 * y) = y := by
  unfold T
  rw [Nat.mul_div_cancel_left _ (by decide), Nat.mul_mod_right, Nat.zero_mul, Nat.xor_zero]
theorem T_zero : T 0 = 0 := by decide
theorem Tn_xor : ∀ n x y, Tn n (x ^^^ y) = Tn n x ^^^ Tn n y
  | 0, _, _ => rfl
  | n + 1, x, y => by
    show Tn n (T (x ^^^ y)) = Tn n (T x) ^^^ Tn n (T y)
    rw [T_xor, Tn_xor n]
theorem Tn_shift : ∀ n y, Tn n (2 ^ n * y) = y
  | 0, y => by show 2 ^ 0 * y = y; simp
  | n + 1, y => by
    show Tn n (T (2 ^ (n + 1) * y)) = y
    rw [Nat.pow_succ, Nat.mul_comm (2 ^ n) 2, Nat.mul_assoc, T_two, Tn_shift n]
theorem Tn_add : ∀ a b x, Tn (a + b) x = Tn b (Tn a x)
  | 0, b, x => by rw [Nat.zero_add]; rfl
  | a + 1, b, x => by
    rw [show a + 1 + b = (a + b) + 1 by omega]
    exact Tn_add a b (T x)
theorem Tn_succ (n x : Nat) : Tn (n + 1) x = T (Tn n x) := Tn_add n 1 x
theorem T_lt {x : Nat} (h : x < 4294967296) : T x < 4294967296 := by
  have h2 : x % 2 < 2 := Nat.mod_lt _ (by decide)
  exact Nat.xor_lt_two_pow (n := 32) (by omega) (by omega)
theorem Tn_lt : ∀ n {x : Nat}, x < 4294967296 → Tn n x < 4294967296
  | 0, _, h => h
  | n + 1, _, h => Tn_lt n (T_lt h)
theorem xor_zero_eq {a b : Nat} (h : a ^^^ b = 0) : a = b := by
  refine Nat.eq_of_testBit_eq fun i => ?_
  have := congrArg (·.testBit i) h
  simp only [Nat.testBit_xor, Nat.zero_testBit] at this
  revert this
  cases a.testBit i <;> cases b.testBit i <;> simp
theorem T_ne {x : Nat} (h : x < 4294967296) (h0 : x ≠ 0) : T x ≠ 0 := by
  intro e
  have e := xor_zero_eq e
  have h2 : x % 2 < 2 := Nat.mod_lt _ (by decide)
  rcases (show x % 2 = 0 ∨ x % 2 = 1 by omega) with g | g <;> rw [g] at e <;> omega
theorem Tn_ne : ∀ n {x : Nat}, x < 4294967296 → x ≠ 0 → Tn n x ≠ 0
  | 0, _, _, h0 => h0
  | n + 1, _, h, h0 => Tn_ne n (T_lt h) (T_ne h h0)

/-- WHAT BYTES LEAVE. -/
def reg : Nat → List Int → Nat
  | x, [] => x
  | x, b :: bs => reg (Tn 8 (x ^^^ b.toNat)) bs
/-- the bytes as one number, the low one first -/
def le : List Int → Nat
  | [] => 0
  | b :: bs => b.toNat ^^^ 256 * le bs
theorem reg_eq : ∀ bs x, reg x bs = Tn (8 * bs.length) (x ^^^ le bs)
  | [], x => by show x = x ^^^ 0; simp
  | b :: bs, x => by
    show reg (Tn 8 (x ^^^ b.toNat)) bs = Tn (8 * (bs.length + 1)) (x ^^^ (b.toNat ^^^ 256 * le bs))
    rw [reg_eq bs, show 8 * (bs.length + 1) = 8 + 8 * bs.length by omega, Tn_add, ← Nat.xor_assoc, Tn_xor 8 (x ^^^ b.toNat), show 256 * le bs = 2 ^ 8 * le bs from rfl, Tn_shift]
theorem reg_append : ∀ xs x bs, reg x (xs ++ bs) = reg (reg x xs) bs
  | [], _, _ => rfl
  | a :: xs, x, bs => reg_append xs (Tn 8 (x ^^^ a.toNat)) bs
theorem reg_lt : ∀ bs x, InB bs → x < 4294967296 → reg x bs < 4294967296
  | [], _, _, h => h
  | b :: bs, x, hb, h => by
    have h1 := hb b (by simp)
    refine reg_lt bs _ (fun z hz => hb z (by simp [hz])) (Tn_lt 8 (Nat.xor_lt_two_pow (n := 32) (by omega) (by omega)))

/-- THE SUM. -/
def crc (bs : List Int) : Nat := 4294967295 ^^^ reg 4294967295 bs
def nxt (s b : Nat) : Nat := 4294967295 ^^^ Tn 8 ((4294967295 ^^^ s) ^^^ b)
theorem xor_back (a b : Nat) : a ^^^ (a ^^^ b) = b := by rw [← Nat.xor_assoc, Nat.xor_self, Nat.zero_xor]
theorem crc_nil : crc [] = 0 := by decide
theorem crc_next (bs : List Int) (b : Int) : crc (bs ++ [b]) = nxt (crc bs) b.toNat := by
  unfold crc nxt
  rw [xor_back, reg_append]
  rfl
theorem crc_lt {bs : List Int} (h : InB bs) : crc bs < 4294967296 := Nat.xor_lt_two_pow (n := 32) (by decide) (reg_lt bs _ h (by decide))
theorem nxt_lt {s b : Nat} (hs : s < 4294967296) (hb : b < 256) : nxt s b < 4294967296 :=
  Nat.xor_lt_two_pow (n := 32) (by decide) (Tn_lt 8 (Nat.xor_lt_two_pow (n := 32) (Nat.xor_lt_two_pow (n := 32) (by decide) (by omega)) (by omega)))

/-- THE TABLE: four steps at once. -/
def tab (i : Nat) : Nat := [0, 498536548, 997073096, 651767980, 1994146192, 1802195444, 1303535960, 1342533948, 3988292384, 4027552580, 3604390888, 3412177804, 2607071920, 2262029012, 2685067896, 3183342108].getD i 0
theorem tab_lt : ∀ i, i < 16 → tab i < 4294967296 := by decide
theorem tab_T : ∀ r, r < 16 → Tn 4 r = tab r := by decide +kernel
theorem split_xor (x : Nat) (n : Nat) : x = (2 ^ n * (x / 2 ^ n)) ^^^ x % 2 ^ n := by
  refine Nat.eq_of_testBit_eq fun i => ?_
  rw [Nat.testBit_xor, Nat.mul_comm, Nat.testBit_mul_two_pow, Nat.testBit_mod_two_pow, Nat.testBit_div_two_pow]
  by_cases h : i < n
  · have : ¬ n ≤ i := by omega
    simp [h, this]
  · have g : n ≤ i := by omega
    simp [h, g]
theorem half (x : Nat) : x / 16 ^^^ tab (x % 16) = Tn 4 x := by
  conv => rhs; rw [split_xor x 4]
  rw [Tn_xor, Tn_shift]
  rw [tab_T _ (Nat.mod_lt _ (by decide))]

/-- THE DOCUMENT's REGISTER behind j bits of b. -/
def Rg (x b : Nat) : Nat → Nat
  | 0 => x
  | j + 1 => Rg x b j / 2 ^^^ ((Rg x b j % 2) ^^^ (b / 2 ^ j % 2)) * 3988292384
theorem Rg_T (x b : Nat) : ∀ j, Rg x b j ^^^ b / 2 ^ j = Tn j (x ^^^ b)
  | 0 => by show x ^^^ b / 2 ^ 0 = x ^^^ b; simp
  | j + 1 => by
    rw [Tn_succ, ← Rg_T x b j]
    show (Rg x b j / 2 ^^^ ((Rg x b j % 2) ^^^ (b / 2 ^ j % 2)) * 3988292384) ^^^ b / 2 ^ (j + 1) = T (Rg x b j ^^^ b / 2 ^ j)
    unfold T
    have h : (Rg x b j ^^^ b / 2 ^ j) % 2 = Rg x b j % 2 ^^^ b / 2 ^ j % 2 := Nat.xor_mod_two_pow (n := 1)
    rw [Nat.xor_div_two, h, Nat.pow_succ, ← Nat.div_div_eq_div_mul, Nat.xor_assoc, Nat.xor_comm (_ * _) (_ / 2), ← Nat.xor_assoc]
theorem Rg_8 (x b : Nat) (hb : b < 256) : Rg x b 8 = Tn 8 (x ^^^ b) := by
  have h := Rg_T x b 8
  rw [Nat.div_eq_of_lt (by simpa using hb), Nat.xor_zero] at h
  exact h
theorem Rg_lt (x b : Nat) (hx : x < 4294967296) : ∀ j, Rg x b j < 4294967296
  | 0 => hx
  | j + 1 => by
    have h := Rg_lt x b hx j
    have h2 : (Rg x b j % 2) ^^^ (b / 2 ^ j % 2) < 2 := Nat.xor_lt_two_pow (n := 1) (Nat.mod_lt _ (by decide)) (Nat.mod_lt _ (by decide))
    exact Nat.xor_lt_two_pow (n := 32) (by omega) (by omega)

/-- A sum's four bytes, the high one first. -/
def four (x : Nat) : List Int := [((x / 16777216 % 256 : Nat) : Int), ((x / 65536 % 256 : Nat) : Int), ((x / 256 % 256 : Nat) : Int), ((x % 256 : Nat) : Int)]
theorem four_in (x : Nat) : InB (four x) := by
  intro b hb
  simp only [four, List.mem_cons, List.not_mem_nil, or_false] at hb
  omega
theorem four_inj {x y : Nat} (hx : x < 4294967296) (hy : y < 4294967296) (h : four x = four y) : x = y := by
  simp only [four, List.cons.injEq] at h
  omega
theorem four_len (x : Nat) : (four x).length = 4 := rfl

/-- CHANGED BITS. -/
theorem le_set : ∀ (cs : List Int) (j : Nat) (h : j < cs.length) (v : Nat), (0 ≤ cs[j]) → le (cs.set j ((cs[j].toNat ^^^ v : Nat) : Int)) = le cs ^^^ 256 ^ j * v
  | c :: cs, 0, _, v, h0 => by
    show (((c.toNat ^^^ v : Nat) : Int)).toNat ^^^ 256 * le cs = (c.toNat ^^^ 256 * le cs) ^^^ 256 ^ 0 * v
    rw [Int.toNat_natCast, Nat.pow_zero, Nat.one_mul, Nat.xor_assoc, Nat.xor_comm v, ← Nat.xor_assoc]
  | c :: cs, j + 1, h, v, h0 => by
    have hj : j < cs.length := by simpa using h
    have h1 : (c :: cs)[j + 1] = cs[j] := rfl
    rw [h1] at h0 ⊢
    show c.toNat ^^^ 256 * le (cs.set j _) = (c.toNat ^^^ 256 * le cs) ^^^ 256 ^ (j + 1) * v
    rw [le_set cs j hj v h0, Nat.xor_assoc]
    congr 1
    have e : ∀ x, 256 * x = x <<< 8 := fun x => by rw [Nat.shiftLeft_eq]; omega
    rw [e, Nat.shiftLeft_xor_distrib, ← e, ← e, Nat.pow_succ, ← Nat.mul_assoc, Nat.mul_comm 256 (256 ^ j)]
/-- A burst that isn't empty changes the sum. -/
theorem burst_ne {bs cs : List Int} (hl : cs.length = bs.length) {at_ bits : Nat} (ha : at_ ≤ 8 * bs.length) (hb : bits < 4294967296) (h0 : bits ≠ 0) (he : le cs = le bs ^^^ 2 ^ at_ * bits) : crc cs ≠ crc bs := by
  intro h
  have h1 : reg 4294967295 cs = reg 4294967295 bs := by
    have := congrArg (4294967295 ^^^ ·) h
    simpa only [crc, xor_back] using this
  rw [reg_eq, reg_eq, hl, he, ← Nat.xor_assoc, Tn_xor _ (4294967295 ^^^ le bs)] at h1
  have h2 : Tn (8 * bs.length) (2 ^ at_ * bits) = 0 := by
    have := congrArg (Tn (8 * bs.length) (4294967295 ^^^ le bs) ^^^ ·) h1
    simpa only [xor_back, Nat.xor_self] using this
  rw [show 8 * bs.length = at_ + (8 * bs.length - at_) by omega, Tn_add, Tn_shift] at h2
  exact Tn_ne _ hb h0 h2

/-- THREE ROWS' ODD BITS. -/
def oddB (xs bs cs : List Int) (n : Nat) : List Int := (List.range n).map fun i => ((((xs.getD i 0).toNat ^^^ (bs.getD i 0).toNat) ^^^ (cs.getD i 0).toNat : Nat) : Int)
end Go.Proofs.YtpehmkglkjlmfaaDoor
