/- Parts of this proof (own work). -/
import Derived.Test.YtpemeenfhkgmpaaGreatDoorZf02
import Derived.Laws.Bits64b
import Derived.Lib.SliceRun
import Ieee.Arith
import Derived.WalkLawsBesides
import Derived.Laws.BitsAllLaws
import Derived.Deep.QuietTactic
set_option maxRecDepth 100000
set_option maxHeartbeats 40000000
namespace Go.Proofs.YtpemeenfhkgmpaaGreatDoor
open Go.RowKit Go.ChangeShapes Go.WideShapes
theorem run_panic_some {P : Program} (t : TypeId) (v : Value) (w : World) : (Instr.panic (.iface t v)).run P w = .halt (.panic (.iface t v)) w := rfl
theorem demand_t (v : Value) (w : World) : Calls Tryz.prog 126 #[.bool true, v] w fun e w' => e = .returned (.tuple #[]) ∧ w = w' := by
 go_enter Tryz.func126, Tryz.ntmps126; go_wp2; go_end0
 exact ⟨rfl, rfl⟩
theorem demand_f (a : Addr) (w : World) : Calls Tryz.prog 126 #[.bool false, snt a] w fun e w' => e = .panicked [{ v := snt a, recovered := false }] ∧ w = w' := by
 have hpn := run_panic_some (P := Tryz.prog) 240 (.pointer (some a)) w; go_enter Tryz.func126, Tryz.ntmps126; go_wp2; exact ⟨rfl, rfl, rfl⟩
theorem or8 {u c : Int} (hu : 0 ≤ u ∧ u < 72057594037927936) (hc : 0 ≤ c ∧ c < 256) : bits .or .u64 (u * 256) c = 256 * u + c := by
 obtain ⟨x, rfl⟩ : ∃ x : Nat, u = x := ⟨u.toNat, by omega⟩
 obtain ⟨y, rfl⟩ : ∃ y : Nat, c = y := ⟨c.toNat, by omega⟩
 have e : ((x : Int) * 256) = ((256 * x : Nat) : Int) := by omega
 rw [e, bits_or_u64_nat _ _ (by omega) (by omega)]; have := Nat.two_pow_add_eq_or_of_lt (i := 8) (show y < 2 ^ 8 by omega) x; rw [show (2 : Nat) ^ 8 = 256 from rfl] at this; rw [← this]; omega
theorem value_any (a : Option Addr) (cap : Nat) (bs : List Int) (len : Nat) (hlen : bs.length = len) (hl : len ≤ 8) (hb : InB bs) (w : World) (hs : SlB (.slice a len cap) bs w) :
  Calls Tryz.prog 135 #[.slice a len cap] w fun e w' => e = .returned (.int .u64 (beNum bs)) ∧ w = w' := by
 have hel : ∀ j (hj : j < bs.length), ∃ b off, a = some ⟨b, off, none⟩ ∧ w.cell? ⟨b, off + j, none⟩ = some (.int .u8 (bs.getD j 0)) := fun j hj => hs.at j hj
 have hr := beNum_range hb; have hn := fun j (h : j < bs.length) => beNum_next h
 obtain ⟨HEL, HR, HNX, HB, HL⟩ := hD5 hel hr hn hb hlen; clear hel hs hr hn hb hlen; go_enter Tryz.func135, Tryz.ntmps135; go_wp2; go_loop [3, 8] (fun u i => ∃ j : Nat, j ≤ len ∧ i = .int .i64 j ∧ u = .int .u64 (beNum (bs.take j))) (fun _ i => len - (intOf i).toNat)
 case atStart => exact ⟨0, Nat.zero_le _, rfl, rfl⟩
 case round =>
  obtain ⟨j, hj, rfl, rfl⟩ := hrel; obtain ⟨jj, hjj⟩ : ∃ jj : Int, (j : Int) = jj := ⟨_, rfl⟩
  obtain ⟨uu, huu⟩ : ∃ uu, beNum (bs.take j) = uu := ⟨_, rfl⟩
  rw [hjj, huu]; have hl' := HL.out
  by_cases hlt : j < len
  ·have hjl : j < bs.length := by omega
   obtain ⟨b2, off2, rfl, hc2⟩ := HEL.out j hjl; have hnx := HNX.out j hjl; have hbb := HB.out bs[j] (List.getElem_mem _); have hru := HR.out j (by omega); obtain ⟨y, hy⟩ : ∃ y, bs[j] = y := ⟨_, rfl⟩
   have hy2 : bs.getD j 0 = y := by simp [List.getD, hjl, hy]
   rw [hy2] at hc2; rw [hy] at hnx hbb; rw [huu] at hnx hru; have hp7 : (256 : Int) ^ j ≤ 256 ^ 7 := p256_le (by omega); have e7 : (256 : Int) ^ 7 = 72057594037927936 := by decide
   have hub : 0 ≤ uu ∧ uu < 72057594037927936 := by omega
   have ej : jj.toNat = j := by omega
   rw [← ej] at hc2; have hj0 : 0 ≤ jj := by omega
   have hltj : jj < len := by omega
   have hor := or8 hub hbb; obtain ⟨HJ, HNXT⟩ := hD2 hjj hnx; clear hjj huu hnx hru hp7 e7 hy hy2 ej hlt hjl hl'; go_wp2; have hjj := HJ.out; go_round
   case rel =>
    refine ⟨j + 1, by omega, by congr 1; omega, ?_⟩
    rw [HNXT.out]
   case measure => simp [intOf]; omega
  ·obtain rfl : j = len := by omega
   have hex : ¬ jj < j := by omega
   have hful : bs.take j = bs := by rw [List.take_of_length_le]; omega
   rw [hful] at huu; subst huu; clear hjj hful hl'; go_wp2; go_ret; exact ⟨rfl, rfl⟩
theorem clone_nil (w : World) : Calls Tryz.prog 136 #[.slice none 0 0] w fun e w' => e = .returned (.slice none 0 0) ∧ w = w' := by
 have hq : (binOp .eql 55 (.slice none 0 0) (.slice none 0 0)).run Tryz.prog w = .ok (.bool true) w := by
  rw [run_eql_nil_slice w 55 5 none 0 0 0 0 Tryz.underlying55]; rfl
 go_enter Tryz.func136, Tryz.ntmps136; go_wp2; go_ret; exact ⟨rfl, rfl⟩
theorem clone_any (v : Value) (bs : List Int) (hl : bs.length ≤ 1000000) (w : World) (hs : SlB v bs w) :
  Calls Tryz.prog 136 #[v] w fun e w' => ∃ v', e = .returned v' ∧ w'.ownsRow w.heap.size 5 1 v' bs.length (bs.map (Value.int .u8)) ∧ Kp w w' := by
 obtain ⟨a, cap, rfl⟩ := hs.form
 cases a with
 | none =>
  obtain ⟨h0, rfl⟩ := hs.app.1 rfl; have hbs : bs = [] := List.length_eq_zero_iff.1 h0; subst hbs; refine (clone_nil w).mono ?_
  rintro e w' ⟨rfl, rfl⟩; exact ⟨_, rfl, ⟨by simp, .inl ⟨rfl, rfl⟩⟩, Kp.refl _⟩
 | some ad =>
  obtain ⟨len, hlen⟩ : ∃ n, bs.length = n := ⟨_, rfl⟩
  rw [hlen] at hs hl ⊢; have OW0 := hD (own_empty w 5); have HS0 := hD (hs.kp (kA w (.cells #[] 5))); have K0 := hD (kA w (.cells #[] 5)); have hq : (binOp .eql 55 (.slice (some ad) len cap) (.slice none 0 0)).run Tryz.prog w = .ok (.bool false) w := by
   rw [Lib.run_eql_slice_nil w 55 5 (some ad) len cap 0 0 Tryz.underlying55]; rfl
  clear hs; go_enter Tryz.func136, Tryz.ntmps136; go_wp2_with (at_builtin; refine wpList_append_slb _ rfl (.tmp 5) (.tmp 6) rfl w.heap.size _ _ _ rfl OW0.out (some ad) len cap bs rfl HS0.out ?d1 ?d2 ?_)
  case d1 => omega
  case d2 => exact Below.size K0.out
  rintro v5 w5 hown5 hgr5 -; have kp5 : Kp w w5 := row_kp OW0.out hgr5 K0.out; obtain ⟨HO, HK⟩ := hD2 hown5 kp5; clear hown5 hgr5 kp5; go_wp2; go_ret; refine ⟨_, rfl, ?_, HK.out⟩
  simpa using HO.out
abbrev boxI (x : Int) : Obj := .cells #[x] 3 (0, 0)
theorem newRow_any (w : World) :
  Calls Tryz.prog 130 #[] w fun e w' => e = .returned (.func (.func 151) #[] #[.pointer (some ⟨w.heap.size, 0, none⟩), .pointer (some ⟨w.heap.size + 1, 0, none⟩)]) ∧ w'.heap[w.heap.size]? = some (boxI 0) ∧ w'.heap[w.heap.size + 1]? = some (boxI 0) ∧ w'.heap.size = w.heap.size + 2 ∧ Kp w w' := by
 have hmf : ∀ (fn : Fn) (first cap : Array Value) (w : World), (Instr.makeFunc fn first cap).run Tryz.prog w = .ok (.func fn first cap) w := fun _ _ _ _ => rfl
 go_enter Tryz.func130, Tryz.ntmps130; go_wp2; go_ret; refine ⟨rfl, ?_, ?_, ?_, ?_⟩
 ·rw [Below.heap_alloc _ _ _ (by simp)]; exact (mH w _)
 ·have := (mH (w.alloc (boxI 0)) (boxI 0))
  simpa using this
 ·simp
 ·exact kT (kA _ _) (kA _ _)
def mayQ (k : Nat) (last tag : Int) (n : Nat) : Prop := k < 16 ∧ last < tag ∧ tag ≤ 255 ∧ n ≤ 200
instance (k : Nat) (last tag : Int) (n : Nat) : Decidable (mayQ k last tag n) := by unfold mayQ; infer_instance
def runQ : Nat → Int → List (Int × List Int) → Bool
 | _, _, [] => true
 | k, last, f :: t => decide (mayQ k last f.1 f.2.length) && runQ (k + 1) f.1 t
theorem enter_t (ads : List Addr) (p q : Nat) (k : Nat) (kk last tag : Int) (n : Nat) (nn : Int) (hkk : (k : Int) = kk) (hnn : (n : Int) = nn) (w : World) (V : St ads w) (hp : w.heap[p]? = some (boxI kk)) (hq : w.heap[q]? = some (boxI last)) (hpq : p ≠ q) (hm : mayQ k last tag n) :
  Calls Tryz.prog 151 #[.int .i64 tag, .int .i64 nn, .pointer (some ⟨p, 0, none⟩), .pointer (some ⟨q, 0, none⟩)] w fun e w' => e = .returned (.tuple #[]) ∧ w' = (w.setCell ⟨p, 0, none⟩ (.int .i64 (kk + 1))).setCell ⟨q, 0, none⟩ (.int .i64 tag) := by
 have h14 : ads.length = 14 := V.len; obtain ⟨e3, c3⟩ : ∃ e3, w.cell? ⟨3, 0, none⟩ = some (snt e3) := ⟨ads[3]'(by omega), V.cell 3 (by decide)⟩
 obtain ⟨h1, h2, h3, h4⟩ := hm; have g1 : kk < 16 := by omega
 have g0 : 0 ≤ kk := by omega
 have g4 : nn ≤ 200 := by omega
 have cp := cell_of_one hp; have cq := cell_of_one hq; have zp := free_of_one hp; have zq := free_of_one hq; have cq' : (w.setCell ⟨p, 0, none⟩ (.int .i64 (kk + 1))).cell? ⟨q, 0, none⟩ = some (.int .i64 last) := cell_of_one (by rw [bS _ _ _ _ (fun e => hpq e.symm)]; exact hq); have zq' : (w.setCell ⟨p, 0, none⟩ (.int .i64 (kk + 1))).frozen? ⟨q, 0, none⟩ = false := by rw [World.frozen?_setCell]; exact zq
 clear V h14; go_enter Tryz.func151, Tryz.ntmps151; go_wp2_with (go_at_call 126; (with_reducible refine (demand_t _ _).mono ?_); rintro e w' ⟨rfl, rfl⟩)
 go_end0
 exact ⟨rfl, rfl⟩
theorem enter_f (ads : List Addr) (h3' : 3 < ads.length) (p q : Nat) (k : Nat) (kk last tag : Int) (n : Nat) (nn : Int) (hkk : (k : Int) = kk) (hnn : (n : Int) = nn) (w : World) (V : St ads w) (hp : w.heap[p]? = some (boxI kk)) (hq : w.heap[q]? = some (boxI last)) (hm : ¬ mayQ k last tag n) :
  Calls Tryz.prog 151 #[.int .i64 tag, .int .i64 nn, .pointer (some ⟨p, 0, none⟩), .pointer (some ⟨q, 0, none⟩)] w fun e w' => e = .panicked [{ v := snt (ads[3]'h3'), recovered := false }] ∧ w = w' := by
 have c3 : w.cell? ⟨3, 0, none⟩ = some (snt (ads[3]'h3')) := V.cell 3 (by decide); obtain ⟨e3, he3⟩ : ∃ a, ads[3]'h3' = a := ⟨_, rfl⟩
 rw [he3] at c3 ⊢; have cp := cell_of_one hp; have cq := cell_of_one hq; clear V he3
 by_cases h1 : kk < 16
 ·have g1 : decide (kk < 16) = true := dT h1
  by_cases h2 : last < tag
  ·have g2 : decide (last < tag) = true := dT h2
   by_cases h3 : tag ≤ 255
   ·have g3 : decide (tag ≤ 255) = true := dT h3; have g4 : decide (nn ≤ 200) = false := dF (fun h4 => hm ⟨by omega, h2, h3, by omega⟩); clear hm; go_enter Tryz.func151, Tryz.ntmps151; go_wp2_with (go_at_call 126; (with_reducible refine (demand_f _ _).mono ?_); rintro e w' ⟨rfl, rfl⟩)
    exact ⟨rfl, rfl, rfl⟩
   ·have g3 : decide (tag ≤ 255) = false := dF h3; clear hm; go_enter Tryz.func151, Tryz.ntmps151; go_wp2_with (go_at_call 126; (with_reducible refine (demand_f _ _).mono ?_); rintro e w' ⟨rfl, rfl⟩)
    exact ⟨rfl, rfl, rfl⟩
  ·have g2 : decide (last < tag) = false := dF h2; clear hm; go_enter Tryz.func151, Tryz.ntmps151; go_wp2_with (go_at_call 126; (with_reducible refine (demand_f _ _).mono ?_); rintro e w' ⟨rfl, rfl⟩)
   exact ⟨rfl, rfl, rfl⟩
 ·have g1 : decide (kk < 16) = false := dF h1; clear hm; go_enter Tryz.func151, Tryz.ntmps151; go_wp2_with (go_at_call 126; (with_reducible refine (demand_f _ _).mono ?_); rintro e w' ⟨rfl, rfl⟩)
  exact ⟨rfl, rfl, rfl⟩
end Go.Proofs.YtpemeenfhkgmpaaGreatDoor
namespace Go.Proofs.YtpemeenfhkgmpaaGreatDoor.Fl
open Ieee
theorem sw : double.signWeight = 9223372036854775808 := by rfl
theorem bi : double.binade = 4503599627370496 := by rfl
theorem ir : double.infRung = 9218868437227405312 := by rfl
theorem lp : double.leastPlace = -1074 := by rfl
def isNan (b : Nat) : Bool := decide (9218868437227405312 < b % 9223372036854775808)
def key (b : Nat) : Int := if b < 9223372036854775808 then (b : Int) else -((b : Int) - 9223372036854775808)
def val (r : Nat) : Nat := if r < 4503599627370496 then r else (4503599627370496 + r % 4503599627370496) * 2 ^ (r / 4503599627370496 - 1)
theorem val_lt {r s : Nat} (h : r < s) : val r < val s := by
 unfold val
 by_cases hs : s < 4503599627370496
 ·rw [if_pos (by omega), if_pos hs]; exact h
 ·rw [if_neg hs]; have hq : 1 ≤ s / 4503599627370496 := by omega
  have p1 : 1 ≤ 2 ^ (s / 4503599627370496 - 1) := Nat.one_le_two_pow
  by_cases hr : r < 4503599627370496
  ·rw [if_pos hr]
   calc r < 4503599627370496 + s % 4503599627370496 := by omega
    _ = (4503599627370496 + s % 4503599627370496) * 1 := by omega
    _ ≤ _ := Nat.mul_le_mul_left _ p1
  ·rw [if_neg hr]
   by_cases he : r / 4503599627370496 = s / 4503599627370496
   ·rw [he]; exact Nat.mul_lt_mul_of_pos_right (by omega) (by omega)
   ·have hlt : r / 4503599627370496 + 1 ≤ s / 4503599627370496 := by omega
    have hrq : 1 ≤ r / 4503599627370496 := by omega
    have e1 : 2 ^ (s / 4503599627370496 - 1) = 2 ^ (r / 4503599627370496 - 1) * 2 ^ (s / 4503599627370496 - r / 4503599627370496) := by
     rw [← Nat.pow_add]; congr 1; omega
    have e2 : 2 ≤ 2 ^ (s / 4503599627370496 - r / 4503599627370496) := by
     calc 2 = 2 ^ 1 := rfl
      _ ≤ _ := Nat.pow_le_pow_right (by omega) (by omega)
    rw [e1]; have pr : 1 ≤ 2 ^ (r / 4503599627370496 - 1) := Nat.one_le_two_pow
    calc (4503599627370496 + r % 4503599627370496) * 2 ^ (r / 4503599627370496 - 1)
      < 9007199254740992 * 2 ^ (r / 4503599627370496 - 1) := Nat.mul_lt_mul_of_pos_right (by omega) (by omega)
     _ = 4503599627370496 * (2 ^ (r / 4503599627370496 - 1) * 2) := by omega
     _ ≤ 4503599627370496 * (2 ^ (r / 4503599627370496 - 1) * 2 ^ (s / 4503599627370496 - r / 4503599627370496)) := Nat.mul_le_mul_left _ (Nat.mul_le_mul_left _ e2)
     _ ≤ _ := Nat.mul_le_mul_right _ (by omega)
theorem val_le {r s : Nat} (h : r ≤ s) : val r ≤ val s := by
 rcases Nat.lt_or_eq_of_le h with h | h
 ·exact Nat.le_of_lt (val_lt h)
 ·rw [h]; exact Nat.le_refl _
def mag (r : Nat) : Nat := if r < 4503599627370496 then r else 4503599627370496 + r % 4503599627370496
def plc (r : Nat) : Nat := if r < 4503599627370496 then 0 else r / 4503599627370496 - 1
theorem val_eq (r : Nat) : val r = mag r * 2 ^ plc r := by
 unfold val mag plc; split <;> simp
theorem read_pos_fin {b : Nat} (h : b < 9218868437227405312) : double.read b = .number false (mag b) (-1074 + (plc b : Nat)) := by
 unfold Format.read mag plc; rw [sw, bi, ir, lp]; have e1 : b / 9223372036854775808 = 0 := by omega
 have e2 : b % 9223372036854775808 = b := by omega
 simp only [e1, e2]
 by_cases hb : b < 4503599627370496
 ·simp [hb]
 ·simp [hb, h]
theorem read_neg_fin {b : Nat} (h : b < 9218868437227405312) : double.read (b + 9223372036854775808) = .number true (mag b) (-1074 + (plc b : Nat)) := by
 unfold Format.read mag plc; rw [sw, bi, ir, lp]; have e1 : (b + 9223372036854775808) / 9223372036854775808 = 1 := by omega
 have e2 : (b + 9223372036854775808) % 9223372036854775808 = b := by omega
 simp only [e1, e2]
 by_cases hb : b < 4503599627370496
 ·simp [hb]
 ·simp [hb, h]
theorem read_inf : double.read 9218868437227405312 = .infinity false := by kernel_rfl
theorem read_ninf : double.read 18442240474082181120 = .infinity true := by kernel_rfl
theorem read_nan {b : Nat} (hn : isNan b = true) : ∃ s f, double.read b = .nan s f := by
 unfold isNan at hn; have hn := of_decide_eq_true hn; unfold Format.read; rw [sw, bi, ir, lp]; exact ⟨_, _, by rw [if_neg (by omega), if_neg (by omega), if_neg (by omega)]⟩
theorem four {b : Nat} (h : b < 18446744073709551616) (hn : isNan b = false) :
  b < 9218868437227405312 ∨ (∃ c, c < 9218868437227405312 ∧ b = c + 9223372036854775808) ∨ b = 9218868437227405312 ∨ b = 18442240474082181120 := by
 unfold isNan at hn; have hn := of_decide_eq_false hn
 by_cases h1 : b < 9223372036854775808
 ·omega
 ·have : b % 9223372036854775808 = b - 9223372036854775808 := by omega
  by_cases h2 : b = 18442240474082181120
  ·omega
  ·right; left; exact ⟨b - 9223372036854775808, by omega, by omega⟩
theorem signed_scale (s : Bool) (m u c : Nat) : signed s m (u + c) = signed s m u * (2 ^ c : Nat) := by
 unfold signed; simp only [Nat.shiftLeft_eq, Nat.pow_add]
 split <;> push_cast <;> simp [Int.neg_mul, Int.mul_assoc]
theorem compare_scale (x y : Int) (c : Nat) : compare (x * (2 ^ c : Nat)) (y * (2 ^ c : Nat)) = compare x y := by
 have hc : (0 : Int) < (2 ^ c : Nat) := by exact_mod_cast Nat.two_pow_pos c
 rw [Int.compare_eq_ite_lt, Int.compare_eq_ite_lt]; have a : x * ((2 ^ c : Nat) : Int) < y * ((2 ^ c : Nat) : Int) ↔ x < y := Int.mul_lt_mul_right hc; have b : y * ((2 ^ c : Nat) : Int) < x * ((2 ^ c : Nat) : Int) ↔ y < x := Int.mul_lt_mul_right hc; simp only [a, b]
def sval (s : Bool) (r : Nat) : Int := if s then -(val r : Int) else (val r : Int)
theorem signed_val (s : Bool) (r : Nat) : signed s (mag r) (plc r) = sval s r := by
 unfold signed sval; rw [val_eq, Nat.shiftLeft_eq]
theorem order_num (s t : Bool) (a b : Nat) :
  Datum.order (.number s (mag a) (-1074 + (plc a : Nat))) (.number t (mag b) (-1074 + (plc b : Nat))) = some (compare (sval s a) (sval t b)) := by
 unfold Datum.order; simp only
 congr 1
 rw [← signed_val, ← signed_val]
 by_cases h : plc a ≤ plc b
 ·have e1 : (-1074 + (plc a : Int) - min (-1074 + (plc a : Int)) (-1074 + (plc b : Int))).toNat = 0 := by omega
  have e2 : (-1074 + (plc b : Int) - min (-1074 + (plc a : Int)) (-1074 + (plc b : Int))).toNat = plc b - plc a := by omega
  rw [e1, e2, ← compare_scale _ _ (plc a), ← signed_scale, ← signed_scale]
  congr 2 <;> omega
 ·have e1 : (-1074 + (plc a : Int) - min (-1074 + (plc a : Int)) (-1074 + (plc b : Int))).toNat = plc a - plc b := by omega
  have e2 : (-1074 + (plc b : Int) - min (-1074 + (plc a : Int)) (-1074 + (plc b : Int))).toNat = 0 := by omega
  rw [e1, e2, ← compare_scale _ _ (plc b), ← signed_scale, ← signed_scale]
  congr 2 <;> omega
theorem val_zero : val 0 = 0 := rfl
theorem val_lt_iff {r s : Nat} : val r < val s ↔ r < s := by
 constructor
 ·intro h
  rcases Nat.lt_or_ge r s with h1 | h1
  ·exact h1
  ·have := val_le h1; omega
 ·exact val_lt
theorem compare_sval (s t : Bool) (a b : Nat) : compare (sval s a) (sval t b) = compare (if s then -(a : Int) else (a : Int)) (if t then -(b : Int) else (b : Int)) := by
 have h1 := @val_lt_iff a b; have h2 := @val_lt_iff b a; have z1 : 0 < val a ↔ 0 < a := by rw [← val_zero]; exact val_lt_iff
 have z2 : 0 < val b ↔ 0 < b := by rw [← val_zero]; exact val_lt_iff
 rw [Int.compare_eq_ite_lt, Int.compare_eq_ite_lt]; unfold sval; have key : ∀ x y z u : Int, (x < y ↔ z < u) → (y < x ↔ u < z) → (if x < y then Ordering.lt else if y < x then Ordering.gt else Ordering.eq) = (if z < u then Ordering.lt else if u < z then Ordering.gt else Ordering.eq) := by
  intro x y z u g1 g2; simp only [g1, g2]
 apply key <;> cases s <;> cases t <;> simp only [if_true, if_false, Bool.false_eq_true] <;> omega
theorem key_pos {b : Nat} (h : b < 9223372036854775808) : key b = b := by unfold key; rw [if_pos h]
theorem key_neg (b : Nat) : key (b + 9223372036854775808) = -(b : Int) := by
 unfold key; rw [if_neg (by omega)]; omega
theorem order_eq {a b : Nat} (ha : a < 18446744073709551616) (hb : b < 18446744073709551616) (na : isNan a = false) (nb : isNan b = false) :
  double.order a b = some (compare (key a) (key b)) := by
 unfold Format.order; have gt' : ∀ x y : Int, y < x → some (compare x y) = some Ordering.gt := by
  intro x y h; rw [Int.compare_eq_ite_lt, if_neg (by omega), if_pos h]
 have lt' : ∀ x y : Int, x < y → some (compare x y) = some Ordering.lt := by
  intro x y h; rw [Int.compare_eq_ite_lt, if_pos h]
 have eq' : ∀ x : Int, some (compare x x) = some Ordering.eq := by
  intro x; rw [Int.compare_eq_ite_lt, if_neg (by omega), if_neg (by omega)]
 have ki : key 9218868437227405312 = 9218868437227405312 := rfl; have kn : key 18442240474082181120 = -9218868437227405312 := rfl
 rcases four ha na with h | ⟨c, h, rfl⟩ | rfl | rfl <;> rcases four hb nb with g | ⟨d, g, rfl⟩ | rfl | rfl
 all_goals try rw [read_pos_fin h]
 all_goals try rw [read_neg_fin h]
 all_goals try rw [read_pos_fin g]
 all_goals try rw [read_neg_fin g]
 all_goals try rw [read_inf]
 all_goals try rw [read_ninf]
 all_goals try rw [order_num, compare_sval]
 all_goals try rw [ki]
 all_goals try rw [kn]
 all_goals try rw [key_neg]
 all_goals try rw [key_neg]
 all_goals try rw [key_pos (by omega : a < 9223372036854775808)]
 all_goals try rw [key_pos (by omega : b < 9223372036854775808)]
 all_goals try rw [gt' _ _ (by omega)]
 all_goals try rw [lt' _ _ (by omega)]
 all_goals try rw [eq' _]
 all_goals rfl
theorem order_nan_left {a b : Nat} (na : isNan a = true) : double.order a b = none := by
 obtain ⟨s, f, h⟩ := read_nan na; unfold Format.order; rw [h]; rfl
theorem order_nan_right {a b : Nat} (nb : isNan b = true) : double.order a b = none := by
 obtain ⟨s, f, h⟩ := read_nan nb; unfold Format.order; rw [h]; cases double.read a <;> rfl
theorem compare_eq_gt (x y : Int) : (compare x y = .gt) ↔ y < x := by
 rw [Int.compare_eq_ite_lt]
 by_cases h : x < y
 ·rw [if_pos h]; simp; omega
 ·rw [if_neg h]
  by_cases g : y < x
  ·rw [if_pos g]; simp [g]
  ·rw [if_neg g]; simp; omega
def isLt (a b : Nat) : Bool := !isNan a && !isNan b && decide (key a < key b)
def isEq (a b : Nat) : Bool := !isNan a && !isNan b && decide (key a = key b)
theorem test_gt {a b : Nat} (ha : a < 18446744073709551616) (hb : b < 18446744073709551616) : (double.order a b == some .gt) = isLt b a := by
 unfold isLt
 cases na : isNan a
 ·cases nb : isNan b
  ·rw [order_eq ha hb na nb, Bool.eq_iff_iff]; simp [compare_eq_gt]
  ·rw [order_nan_right nb]; rfl
 ·rw [order_nan_left na]; cases isNan b <;> rfl
theorem test_eq {a b : Nat} (ha : a < 18446744073709551616) (hb : b < 18446744073709551616) : (double.order a b == some .eq) = isEq a b := by
 unfold isEq
 cases na : isNan a
 ·cases nb : isNan b
  ·rw [order_eq ha hb na nb, Bool.eq_iff_iff]; simp
  ·rw [order_nan_right nb]; rfl
 ·rw [order_nan_left na]; rfl
theorem test_self {a : Nat} (ha : a < 18446744073709551616) : (double.order a a != some .eq) = isNan a := by
 unfold bne; rw [test_eq ha ha]; unfold isEq; cases isNan a <;> simp
def place (b : Nat) : Nat := if isNan b then 18446744073709551615 else if 9223372036854775808 ≤ b then 18446744073709551615 - b else b + 9223372036854775808
def plain (b : Nat) : Nat := if isNan b then 9221120237041090561 else if b = 9223372036854775808 then 0 else b
def dl (b : Nat) : Bool := !isNan b && decide (b ≤ 9223372036854775808)
theorem plain_lt {b : Nat} (h : b < 18446744073709551616) : plain b < 18446744073709551616 := by
 unfold plain; split
 ·omega
 ·split <;> omega
theorem nan0 : isNan 0 = false := rfl
theorem key0 : key 0 = 0 := rfl
theorem key_zero {b : Nat} (h : b < 18446744073709551616) : key b = 0 ↔ (b = 0 ∨ b = 9223372036854775808) := by
 unfold key; split <;> omega
theorem isEq0 {b : Nat} (h : b < 18446744073709551616) : isEq b 0 = (decide (b = 0) || decide (b = 9223372036854775808)) := by
 unfold isEq; rw [nan0, key0, Bool.eq_iff_iff]; simp only [Bool.and_eq_true, Bool.not_eq_true', Bool.not_false, Bool.or_eq_true, decide_eq_true_eq, key_zero h, and_true]
 constructor
 ·exact fun g => g.2
 ·intro g; refine ⟨?_, g⟩
  rcases g with rfl | rfl <;> rfl
theorem isGe0 {b : Nat} (h : b < 18446744073709551616) : (isLt 0 b || isEq b 0) = dl b := by
 unfold dl
 cases hn : isNan b
 ·rw [isEq0 h]; unfold isLt; rw [nan0, key0, hn, Bool.eq_iff_iff]; unfold key; simp only [Bool.and_eq_true, Bool.not_false, Bool.or_eq_true, decide_eq_true_eq, true_and]
  split <;> omega
 ·unfold isLt isEq; rw [hn]; simp
end Go.Proofs.YtpemeenfhkgmpaaGreatDoor.Fl
namespace Go.Proofs.YtpemeenfhkgmpaaGreatDoor
open Go.RowKit
theorem ext_bits (b : Nat) (w : World) : (callFunc 64 #[.float .f64 b]).run Tryz.prog w = .ok (.value (.int .u64 b)) w := by
 rw [run_callFunc_extern (e := Extern.MathFloatBits.float64bits) Tryz.func64 (by kernel_rfl) (by kernel_rfl) (by kernel_rfl) (by kernel_rfl)]
 rfl
theorem and62 {b : Nat} (hb : b < 18446744073709551616) : bits .and .u64 (b : Int) 9223372036854775807 = ((b % 9223372036854775808 : Nat) : Int) := by
 rw [show (9223372036854775807 : Int) = ((9223372036854775807 : Nat) : Int) from rfl, u64_and_nat b _ hb (by omega), show (9223372036854775807 : Nat) = 2 ^ 63 - 1 from rfl, Nat.and_two_pow_sub_one_eq_mod]
theorem isNaN_any (b : Nat) (w : World) (hb : b < 18446744073709551616) :
  Calls Tryz.prog 156 #[.float .f64 b] w fun e w' => e = .returned (.bool (Fl.isNan b)) ∧ w = w' := by
 go_enter Tryz.func156, Tryz.ntmps156; go_wp2; go_ret; exact ⟨by rw [← Fl.test_self hb]; rfl, rfl⟩
theorem isNaN_t (b : Nat) (w : World) (hb : b < 18446744073709551616) (h : Fl.isNan b = true) :
  Calls Tryz.prog 156 #[.float .f64 b] w fun e w' => e = .returned (.bool true) ∧ w = w' := by
 rw [← h]; exact isNaN_any b w hb
theorem isNaN_f (b : Nat) (w : World) (hb : b < 18446744073709551616) (h : Fl.isNan b = false) :
  Calls Tryz.prog 156 #[.float .f64 b] w fun e w' => e = .returned (.bool false) ∧ w = w' := by
 rw [← h]; exact isNaN_any b w hb
theorem u64_ret {a b : Int} (h : a = b) : Ending.returned (.int .u64 a) = .returned (.int .u64 b) := by rw [h]
theorem bool_ret {a b : Bool} (h : a = b) : Ending.returned (.bool a) = .returned (.bool b) := by rw [h]
theorem raw_any (b : Nat) (w : World) :
  Calls Tryz.prog 77 #[.float .f64 b] w fun e w' => e = .returned (.int .u64 b) ∧ w = w' := by
 have e1 := ext_bits; go_enter Tryz.func77, Tryz.ntmps77; go_wp2; go_ret; exact ⟨rfl, rfl⟩
theorem refNaN_any (b : Nat) (w : World) (hb : b < 18446744073709551616) :
  Calls Tryz.prog 80 #[.float .f64 b] w fun e w' => e = .returned (.bool (Fl.isNan b)) ∧ w = w' := by
 have e1 := hD (and62 hb); go_enter Tryz.func80, Tryz.ntmps80; go_wp2_with (go_at_call 77; refine (raw_any _ _).mono ?_; rintro e w' ⟨rfl, rfl⟩)
 go_ret; exact ⟨bool_ret (by rw [e1.out]; unfold Fl.isNan; rw [Bool.eq_iff_iff]; simp; omega), rfl⟩
theorem refNaN_t (b : Nat) (w : World) (hb : b < 18446744073709551616) (h : Fl.isNan b = true) :
  Calls Tryz.prog 80 #[.float .f64 b] w fun e w' => e = .returned (.bool true) ∧ w = w' := by
 rw [← h]; exact refNaN_any b w hb
theorem refNaN_f (b : Nat) (w : World) (hb : b < 18446744073709551616) (h : Fl.isNan b = false) :
  Calls Tryz.prog 80 #[.float .f64 b] w fun e w' => e = .returned (.bool false) ∧ w = w' := by
 rw [← h]; exact refNaN_any b w hb
theorem ext_fromI (n : Int) (w : World) : (callFunc 99 #[.int .u64 n]).run Tryz.prog w = .ok (.value (.float .f64 n.toNat)) w := by
 rw [run_callFunc_extern (e := Extern.MathFloatBits.float64frombits) Tryz.func99 (by kernel_rfl) (by kernel_rfl) (by kernel_rfl) (by kernel_rfl)]
 rfl
theorem f64_ret {a b : Nat} (h : a = b) : Ending.returned (.float .f64 a) = .returned (.float .f64 b) := by rw [h]
theorem eq0 {b : Nat} (hb : b < 18446744073709551616) : (FloatKind.f64.format.order b 0 == some .eq) = (decide (b = 0) || decide (b = 9223372036854775808)) := by
 rw [← Fl.isEq0 hb]; exact Fl.test_eq hb (by omega)
theorem ge0 {b : Nat} (hb : b < 18446744073709551616) : (FloatKind.f64.format.order b 0 == some .gt || FloatKind.f64.format.order b 0 == some .eq) = Fl.dl b := by
 rw [← Fl.isGe0 hb]; have e1 := Fl.test_gt hb (show 0 < 18446744073709551616 by omega); have e2 := Fl.test_eq hb (show 0 < 18446744073709551616 by omega); rw [← e1, ← e2]; rfl
theorem plain_any (b : Nat) (w : World) (hb : b < 18446744073709551616) :
  Calls Tryz.prog 141 #[.float .f64 b] w fun e w' => e = .returned (.float .f64 (Fl.plain b)) ∧ w = w' := by
 have e1 := ext_fromI
 cases hn : Fl.isNan b
 ·cases ht : (decide (b = 0) || decide (b = 9223372036854775808))
  ·have t1 : (FloatKind.f64.format.order b 0 == some .eq) = false := by rw [eq0 hb]; exact ht
   obtain ⟨HT, HB⟩ := hD2 ht hb; clear ht hb; go_enter Tryz.func141, Tryz.ntmps141; go_wp2_with (go_at_call 156; refine (isNaN_f _ _ HB.out hn).mono ?_; rintro e w' ⟨rfl, rfl⟩)
   go_ret; exact ⟨f64_ret (by have := HT.out; simp at this; unfold Fl.plain; rw [hn, if_neg (by simp), if_neg (by omega)]), rfl⟩
  ·have t1 : (FloatKind.f64.format.order b 0 == some .eq) = true := by rw [eq0 hb]; exact ht
   obtain ⟨HT, HB⟩ := hD2 ht hb; clear ht hb; go_enter Tryz.func141, Tryz.ntmps141; go_wp2_with (go_at_call 156; refine (isNaN_f _ _ HB.out hn).mono ?_; rintro e w' ⟨rfl, rfl⟩)
   go_ret; exact ⟨f64_ret (by have := HT.out; simp at this; unfold Fl.plain; rw [hn, if_neg (by simp)]; split <;> omega), rfl⟩
 ·go_enter Tryz.func141, Tryz.ntmps141; go_wp2_with (go_at_call 156; refine (isNaN_t _ _ hb hn).mono ?_; rintro e w' ⟨rfl, rfl⟩)
  go_ret; exact ⟨f64_ret (by unfold Fl.plain; rw [if_pos hn]), rfl⟩
theorem isDelay_any (b : Nat) (w : World) (hb : b < 18446744073709551616) :
  Calls Tryz.prog 170 #[.float .f64 b] w fun e w' => e = .returned (.bool (Fl.dl b)) ∧ w = w' := by
 go_enter Tryz.func170, Tryz.ntmps170; go_wp2; go_ret; exact ⟨bool_ret (ge0 hb), rfl⟩
end Go.Proofs.YtpemeenfhkgmpaaGreatDoor
namespace Go.Proofs.YtpemeenfhkgmpaaGreatDoor.Fl
open Ieee
theorem dl_plain {b : Nat} (h : dl b = true) : plain b ≤ 9218868437227405312 ∧ (b ≤ 9218868437227405312 ∨ b = 9223372036854775808) := by
 unfold dl at h; simp only [Bool.and_eq_true, Bool.not_eq_true', decide_eq_true_eq] at h
 obtain ⟨hn, hb⟩ := h; unfold plain; rw [hn]; unfold isNan at hn; have hn := of_decide_eq_false hn; simp only [Bool.false_eq_true, if_false]
 split <;> omega
theorem dl_lt {b : Nat} (h : dl b = true) : b < 18446744073709551616 := by rcases (dl_plain h).2 with g | g <;> omega
end Go.Proofs.YtpemeenfhkgmpaaGreatDoor.Fl
namespace Go.Proofs.YtpemeenfhkgmpaaGreatDoor
open Go.RowKit
theorem isDelay_t (b : Nat) (w : World) (hb : b < 18446744073709551616) (h : Fl.dl b = true) :
  Calls Tryz.prog 170 #[.float .f64 b] w fun e w' => e = .returned (.bool true) ∧ w = w' := by
 rw [← h]; exact isDelay_any b w hb
theorem isDelay_f (b : Nat) (w : World) (hb : b < 18446744073709551616) (h : Fl.dl b = false) :
  Calls Tryz.prog 170 #[.float .f64 b] w fun e w' => e = .returned (.bool false) ∧ w = w' := by
 rw [← h]; exact isDelay_any b w hb
theorem refBits_any (b : Nat) (w : World) (hb : b < 18446744073709551616) :
  Calls Tryz.prog 44 #[.float .f64 b] w fun e w' => e = .returned (.int .u64 (Fl.plain b)) ∧ w = w' := by
 cases hn : Fl.isNan b
 ·obtain ⟨n, hbn⟩ : ∃ n : Int, (b : Int) = n := ⟨_, rfl⟩
  obtain ⟨HB, HN⟩ := hD2 hb hbn; have R : ∀ w, Calls Tryz.prog 77 #[.float .f64 b] w fun e w' => e = .returned (.int .u64 n) ∧ w = w' := by
   intro w; rw [← hbn]; exact raw_any b w
  cases ht : (n == 9223372036854775808)
  ·clear hb hbn; go_enter Tryz.func44, Tryz.ntmps44; go_wp2_with (first | (go_at_call 80; (with_reducible refine (refNaN_f _ _ HB.out hn).mono ?_); rintro e w' ⟨rfl, rfl⟩) | (go_at_call 77; (with_reducible refine (R _).mono ?_); rintro e w' ⟨rfl, rfl⟩))
   go_ret; exact ⟨u64_ret (by (have := HN.out; have hz : n ≠ 9223372036854775808 := by simpa using ht); unfold Fl.plain; rw [hn, if_neg (by simp), if_neg (by omega)]; omega), rfl⟩
  ·clear hb hbn; go_enter Tryz.func44, Tryz.ntmps44; go_wp2_with (first | (go_at_call 80; (with_reducible refine (refNaN_f _ _ HB.out hn).mono ?_); rintro e w' ⟨rfl, rfl⟩) | (go_at_call 77; (with_reducible refine (R _).mono ?_); rintro e w' ⟨rfl, rfl⟩))
   go_ret; exact ⟨u64_ret (by (have := HN.out; have hz : n = 9223372036854775808 := by simpa using ht); unfold Fl.plain; rw [hn, if_neg (by simp), if_pos (by omega)]; rfl), rfl⟩
 ·go_enter Tryz.func44, Tryz.ntmps44; go_wp2_with (go_at_call 80; (with_reducible refine (refNaN_t _ _ hb hn).mono ?_); rintro e w' ⟨rfl, rfl⟩)
  go_ret; exact ⟨u64_ret (by unfold Fl.plain; rw [if_pos hn]; rfl), rfl⟩
theorem refDelay_any (b : Nat) (w : World) (hb : b < 18446744073709551616) :
  Calls Tryz.prog 121 #[.float .f64 b] w fun e w' => e = .returned (.bool (Fl.dl b)) ∧ w = w' := by
 cases hn : Fl.isNan b
 ·obtain ⟨n, hbn⟩ : ∃ n : Int, (b : Int) = n := ⟨_, rfl⟩
  obtain ⟨HB, HN⟩ := hD2 hb hbn; have R : ∀ w, Calls Tryz.prog 77 #[.float .f64 b] w fun e w' => e = .returned (.int .u64 n) ∧ w = w' := by
   intro w; rw [← hbn]; exact raw_any b w
  have D : Fl.dl b = decide (n ≤ 9223372036854775808) := by
   unfold Fl.dl; rw [hn, Bool.eq_iff_iff]; simp; omega
  rw [D]
  by_cases hs : n < 9223372036854775808
  ·clear hb hbn; go_enter Tryz.func121, Tryz.ntmps121; go_wp2_with (first | (go_at_call 80; (with_reducible refine (refNaN_f _ _ HB.out hn).mono ?_); rintro e w' ⟨rfl, rfl⟩) | (go_at_call 77; (with_reducible refine (R _).mono ?_); rintro e w' ⟨rfl, rfl⟩))
   go_ret; exact ⟨bool_ret (by simp; omega), rfl⟩
  ·cases ht : (n == 9223372036854775808)
   ·clear hb hbn; go_enter Tryz.func121, Tryz.ntmps121; go_wp2_with (first | (go_at_call 80; (with_reducible refine (refNaN_f _ _ HB.out hn).mono ?_); rintro e w' ⟨rfl, rfl⟩) | (go_at_call 77; (with_reducible refine (R _).mono ?_); rintro e w' ⟨rfl, rfl⟩))
    go_ret; exact ⟨bool_ret (by (have hz : n ≠ 9223372036854775808 := by simpa using ht); rw [Bool.eq_iff_iff]; simp; omega), rfl⟩
   ·clear hb hbn; go_enter Tryz.func121, Tryz.ntmps121; go_wp2_with (first | (go_at_call 80; (with_reducible refine (refNaN_f _ _ HB.out hn).mono ?_); rintro e w' ⟨rfl, rfl⟩) | (go_at_call 77; (with_reducible refine (R _).mono ?_); rintro e w' ⟨rfl, rfl⟩))
    go_ret; exact ⟨bool_ret (by (have hz : n = 9223372036854775808 := by simpa using ht); rw [Bool.eq_iff_iff]; simp; omega), rfl⟩
 ·have D : Fl.dl b = false := by unfold Fl.dl; rw [hn]; rfl
  rw [D]; go_enter Tryz.func121, Tryz.ntmps121; go_wp2_with (go_at_call 80; (with_reducible refine (refNaN_t _ _ hb hn).mono ?_); rintro e w' ⟨rfl, rfl⟩)
  go_ret; exact ⟨rfl, rfl⟩
theorem delay_ok (b : Nat) (w : World) (h : Fl.dl b = true) :
  Calls Tryz.prog 164 #[.float .f64 b] w fun e w' => e = .returned (.tuple #[.float .f64 (Fl.plain b), .nilIface]) ∧ w = w' := by
 have H := hD h; clear h; go_enter Tryz.func164, Tryz.ntmps164; go_wp2_with (first | (go_at_call 170; (with_reducible refine (isDelay_t b _ (Fl.dl_lt H.out) H.out).mono ?_); rintro e w' ⟨rfl, rfl⟩) | (go_at_call 141; (with_reducible refine (plain_any b _ (Fl.dl_lt H.out)).mono ?_); rintro e w' ⟨rfl, rfl⟩))
 go_ret2
 exact ⟨rfl, rfl⟩
theorem delay_err (b : Nat) (v : Value) (w : World) (hb : b < 18446744073709551616) (h : Fl.dl b = false) (hc : w.cell? ⟨3, 0, none⟩ = some v) :
  Calls Tryz.prog 164 #[.float .f64 b] w fun e w' => e = .returned (.tuple #[.float .f64 0, v]) ∧ Kp w w' := by
 have H := hD h; clear h; go_enter Tryz.func164, Tryz.ntmps164; go_wp2_with (first | (go_at_call 170; (with_reducible refine (isDelay_f b _ hb H.out).mono ?_); rintro e w' ⟨rfl, rfl⟩))
 go_region
 all_goals go_wp2
 all_goals go_ret2
 all_goals exact ⟨rfl, (Kp.refl _).drew⟩
theorem bits_any (b : Nat) (w : World) (hb : b < 18446744073709551616) :
  Calls Tryz.prog 98 #[.float .f64 b] w fun e w' => e = .returned (.int .u64 (Fl.plain b)) ∧ w = w' := by
 have e1 := ext_bits; go_enter Tryz.func98, Tryz.ntmps98; go_wp2_with (go_at_call 141; (with_reducible refine (plain_any _ _ hb).mono ?_); rintro e w' ⟨rfl, rfl⟩)
 go_ret; exact ⟨rfl, rfl⟩
open Go.RowKit Go.ChangeShapes Go.WideShapes
def fb (n i : Nat) : Int := ((n / 256 ^ i % 256 : Nat) : Int)
def f8 (n : Nat) : List Int := [fb n 7, fb n 6, fb n 5, fb n 4, fb n 3, fb n 2, fb n 1, fb n 0]
def toFl (bs : List Int) : Nat × Int := if bs.length = 8 ∧ Fl.plain (beNum bs).toNat = (beNum bs).toNat then ((beNum bs).toNat, 0) else (0, 4)
end Go.Proofs.YtpemeenfhkgmpaaGreatDoor
