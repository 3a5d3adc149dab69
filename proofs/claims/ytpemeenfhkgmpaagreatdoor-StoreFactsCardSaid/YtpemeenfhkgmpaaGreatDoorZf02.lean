/- Parts of this proof (own work). -/
import Derived.Test.YtpemeenfhkgmpaaGreatDoorZf01
import Derived.Deep.Slices
import Derived.Laws.BytesArg
import Derived.Shelf.Bytes.SlSmallAll
import Derived.Laws.AppendOwnNone
import Derived.Deep.RegionHeld3
import Derived.Lib.Strings
import Derived.BigQuiet
import Derived.WalkSmall
import Derived.Laws.OwnMore
import Derived.Test.YtpemeenfhkgmpaaGreatDoorLayI
import Derived.Lib.SmallJoins
import Derived.Lib.AppendIntMem
import Derived.MakeChecks
import Derived.Stop.LaidErr
import Derived.LaidSub
import Derived.Deep.SlicePairs
import Derived.Lib.SlBytesRow
import Derived.Recover
import Derived.Laws.Pointers
set_option maxRecDepth 100000
set_option maxHeartbeats 40000000
namespace Go.Proofs.YtpemeenfhkgmpaaGreatDoor
open Go.RowKit Go.ChangeShapes Go.WideShapes
def SlB (v : Value) (bs : List Int) (w : World) : Prop :=
 (bs = [] ∧ ∃ (a : Option Addr) (cap : Nat), v = .slice a 0 cap ∧ (a = none → cap = 0)) ∨
 ∃ b off cap, 0 < bs.length ∧ v = .slice (some ⟨b, off, none⟩) bs.length cap ∧ ∀ j, j < bs.length → w.cell? ⟨b, off + j, none⟩ = some (.int .u8 (bs.getD j 0))
def InB (bs : List Int) : Prop := ∀ x ∈ bs, 0 ≤ x ∧ x < 256
theorem SlB.kp {v : Value} {bs : List Int} {w w' : World} (h : SlB v bs w) (hb : Kp w w') : SlB v bs w' := by
 rcases h with h | ⟨b, off, cap, h0, h1, h2⟩
 ·exact Or.inl h
 ·exact Or.inr ⟨b, off, cap, h0, h1, fun j hj => kZ hb (h2 j hj)⟩
theorem SlB.form {v : Value} {bs : List Int} {w : World} (h : SlB v bs w) : ∃ a cap, v = .slice a bs.length cap := by
 rcases h with ⟨rfl, a, cap, rfl, _⟩ | ⟨b, off, cap, _, rfl, _⟩
 ·exact ⟨a, cap, rfl⟩
 ·exact ⟨_, cap, rfl⟩
theorem SlB.at {a : Option Addr} {n cap : Nat} {bs : List Int} {w : World} (h : SlB (.slice a n cap) bs w) (j : Nat) (hj : j < bs.length) : ∃ b off, a = some ⟨b, off, none⟩ ∧ w.cell? ⟨b, off + j, none⟩ = some (.int .u8 (bs.getD j 0)) := by
 rcases h with ⟨hz, _⟩ | ⟨b, off, cap', _, hv, hcc⟩
 ·rw [hz] at hj; cases hj
 ·injection hv with hv1 _ _
  exact ⟨b, off, hv1, hcc j hj⟩
theorem own_slb {w : World} {base n : Nat} {v : Value} {bs : List Int} (h : w.ownsRow base 5 1 v n (bs.map (Value.int .u8))) : SlB v bs w := by
 obtain ⟨h1, h2⟩ := h; have hlen : bs.length = n := by simpa using h1
 rcases h2 with ⟨rfl, hn⟩ | ⟨g, cap, cur, rfl, hg, hh, hc, hm, hs, ht⟩
 ·left
  exact ⟨List.length_eq_zero_iff.1 (by omega), none, 0, rfl, fun _ => rfl⟩
 ·by_cases h0 : n = 0
  ·left
   subst h0; exact ⟨List.length_eq_zero_iff.1 (by omega), _, cap, rfl, fun h => by cases h⟩
  ·right
   refine ⟨g, 0, cap, by omega, by rw [hlen], fun j hj => ?_⟩
   unfold World.cell?; dsimp only; rw [hh]; simp only [Option.isSome_none, Bool.false_eq_true, if_false, Nat.zero_add]
   have : (cur.toList.take (n * 1))[j]? = some (.int .u8 (bs.getD j 0)) := by
    rw [ht]; simp [List.getD, hj]
   rw [List.getElem?_take, Nat.mul_one, if_pos (by omega)] at this
   simpa using this
theorem SlB.app {ao : Option Addr} {n c : Nat} {bs : List Int} {w : World} (h : SlB (.slice ao n c) bs w) : (ao = none → n = 0 ∧ c = 0) ∧ ∀ ad, ao = some ad → ∀ j u, (bs.map (Value.int .u8))[j]? = some u → w.cell? (ad.add j) = some u := by
 rcases h with ⟨rfl, a, cap, hv, hn⟩ | ⟨b, off, cap, h0, hv, hc⟩
 ·injection hv with h1 h2 h3
  subst h1 h2 h3; exact ⟨fun h => ⟨rfl, hn h⟩, fun ad _ j u hj => by simp at hj⟩
 ·injection hv with h1 h2 h3
  subst h1 h2 h3; refine ⟨(fun h => by cases h), fun ad had j u hj => ?_⟩
  injection had with had
  subst had; rw [List.getElem?_map] at hj
  cases hb : bs[j]? with
  | none => rw [hb] at hj; simp at hj
  | some x =>
   rw [hb] at hj; have hx : Value.int .u8 x = u := by simpa using hj
   have hjl : j < bs.length := by
    rcases Nat.lt_or_ge j bs.length with q | q
    ·exact q
    ·rw [List.getElem?_eq_none q] at hb; cases hb
   rw [add_plain, hc j hjl, ← hx]
   simp [List.getD, hb]
theorem bytes_one (bs : List Int) : ∀ u ∈ bs.map (Value.int .u8), u.oneCell' = true := by
 intro u hu; obtain ⟨x, _, rfl⟩ := List.mem_map.1 hu
 rfl
theorem info_byte : (Tryz.prog.info? 5).map (fun i => (i.zero, i.size, i.bytes)) = some (some (.int .u8 0), 1, 1) := by kernel_rfl
open Go.RowKit
theorem SlB.len {ao : Option Addr} {m c : Nat} {bs : List Int} {w : World} (hb : SlB (.slice ao m c) bs w) : bs.length = m := by
 rcases hb with ⟨rfl, a', cap, hv, _⟩ | ⟨b, off, cap, _, hv, _⟩
 ·injection hv with _ h2 _; rw [h2]; rfl
 ·injection hv with _ h2 _; rw [h2]
theorem wpList_append_slb (w : World) {ops : Array Oper} {rest : List Oper} {o : Oper} {a : Act} {Q : Exit → Act → World → Prop} (hgd : o.guard = none) (s x : Operand)
  (ho : o.op = .call { callee := .builtin .append, args := #[s, x], argTypes := #[55, 55] })
  (base : Nat) (v : Value) (n : Nat) (xs : List Value) (hs : a.eval s = v) (hown : w.ownsRow base 5 1 v n xs)
  (ao : Option Addr) (m c : Nat) (bs : List Int) (hx : a.eval x = .slice ao m c) (hb : SlB (.slice ao m c) bs w) (h63 : n + m ≤ 1000000) (hbase : base ≤ w.heap.size)
  (h : ∀ v' w', w'.ownsRow base 5 1 v' (n + m) (xs ++ bs.map (Value.int .u8)) → w.grownBy w' v.ownBlock → (v ≠ .slice none 0 0 → v' ≠ .slice none 0 0) → wpList Tryz.prog ops Q rest (a.put o.dst v') w') : wpList Tryz.prog ops Q (o :: rest) a w := by
 obtain ⟨i0, hi, hz0, hz1, hz2⟩ := info_parts info_byte; have hlen := hb.len
 cases ao with
 | none =>
  obtain ⟨rfl, rfl⟩ := hb.app.1 rfl; have hbs : bs = [] := List.length_eq_zero_iff.1 hlen; subst hbs; refine wpList_append_own_none hgd s x 55 ho base 5 i0 1 Tryz.underlying55 hi v n xs hs hown hx (h v w (by simpa using hown) ⟨rfl, rfl, rfl, Nat.le_refl _, fun _ _ _ => rfl⟩ (fun h => h))
 | some ad =>
  refine wpList_append_own w hgd s x 55 ho base 5 i0 (.int .u8 0) 1 1 Tryz.underlying55 hi hz0 hz1 hz2 rfl (by decide) v n xs hs hown ad m c (bs.map (Value.int .u8)) hx (by rw [List.length_map, hlen, Nat.mul_one]) (hb.app.2 ad rfl) (bytes_one bs) (by unfold maxLen; omega) (by omega) hbase ?_
  intro v' w' h1 h2 h3; exact h v' w' h1 h2 (fun hv hv' => hv (h3.1 hv').1)
theorem str_append (xs ys : List Int) : strOfNums xs ++ strOfNums ys = strOfNums (xs ++ ys) := by
 apply ByteArray.ext
 apply Array.ext'
 rw [ByteArray.data_append, Array.toList_append, strOfNums_data, strOfNums_data, strOfNums_data, List.map_append]
def decF : Nat → Nat → List Int
 | 0, _ => []
 | k + 1, n => if n < 10 then [((48 + n : Nat) : Int)] else decF k (n / 10) ++ [((48 + n % 10 : Nat) : Int)]
theorem decF_len : ∀ k n, (decF k n).length ≤ k
 | 0, _ => Nat.le_refl _
 | k + 1, n => by
  unfold decF
  split
  ·simp
  ·have := decF_len k (n / 10)
   simp; omega
def dec (n : Nat) : List Int := decF 8 n
def rightA (n s : Int) : Bool := decide (0 ≤ n ∧ n < 4 ∧ 0 ≤ s ∧ s < 1000000)
theorem refRight_any (nn si : Int) (w : World) :
  Calls Tryz.prog 73 #[.agg #[nn, si]] w fun e w' => e = .returned (.bool (rightA nn si)) ∧ Kp w w' := by
 go_enter Tryz.func73, Tryz.ntmps73; go_wp2
 all_goals (go_ret; refine ⟨?_, kA _ _⟩; simp [rightA, *] <;> (intros; omega))
theorem dec_len (n : Nat) : (dec n).length ≤ 8 := decF_len 8 n
def actT (n s : Nat) : List Int := (([97] ++ dec n) ++ [46]) ++ dec s
def errI (ads : List Addr) (k : Int) : Value := if k = 0 then .nilIface else .iface 240 (.pointer (ads[(k - 1).toNat]?))
theorem eN (ads : List Addr) : errI ads 0 = .nilIface := rfl
theorem errI_at (ads : List Addr) (k : Nat) (hk : k < ads.length) : errI ads ((k : Int) + 1) = snt ads[k] := by
 unfold errI; rw [if_neg (by omega), show ((k : Int) + 1 - 1).toNat = k by omega, List.getElem?_eq_getElem hk]
theorem num_errN (ads : List Addr) (w : World) (V : St ads w) (k : Int) (h0 : 0 ≤ k) (h1 : k ≤ 14) :
  Calls Tryz.prog 10 #[errI ads k] w fun e w' => e = .returned (.int .i64 k) ∧ Kp w w' := by
 have h14 : ads.length = 14 := V.len
 by_cases hk : k = 0
 ·subst hk; refine (num_nil w).mono ?_
  rintro e w' ⟨h, rfl⟩; exact ⟨h, Kp.refl _⟩
 ·obtain ⟨j, hj⟩ : ∃ j : Nat, k = (j : Int) + 1 := ⟨(k - 1).toNat, by omega⟩
  subst hj; rw [errI_at ads j (by omega)]; exact num_err ads w V j (by omega) (by omega)
def textR (ads : List Addr) : Option (List Int) → Value
 | some t => .tuple #[.string (strOfNums t), .nilIface]
 | none => .tuple #[.string ⟨#[]⟩, errI ads 1]
def actO (n s : Int) : Option (List Int) := if rightA n s = true then some (actT n.toNat s.toNat) else none
abbrev Tab (w : World) : Prop := Lib.TabIs Tryz.prog w "internal/strconv.uint64pow10" .u64 Lib.pow10Tab
theorem Tab.kp {w w' : World} (h : Tab w) (hk : Kp w w') : Tab w' :=
 Joins.tab_stays (g := 15) (by kernel_rfl) h hk (Nat.le_refl _)
def toB (z : Int) : UInt8 := UInt8.ofNat z.toNat
theorem str_mk (S : List Int) : strOfNums S = ⟨(S.map toB).toArray⟩ := rfl
theorem decF_lib : ∀ k n, n < 10 ^ k → 0 < k → (decF k n).map toB = Lib.decDigits n
 | 0, _, _, h => absurd h (by decide)
 | k + 1, n, h, _ => by
  unfold decF; rw [Lib.decDigits]
  by_cases g : n < 10
  ·rw [if_pos g, dif_pos g]; simp only [List.map_cons, List.map_nil, toB, Int.toNat_natCast]
  ·rw [if_neg g, dif_neg g]; have hk : 0 < k := by
    rcases Nat.eq_zero_or_pos k with rfl | q
    ·simp at h; omega
    ·exact q
   rw [List.map_append, decF_lib k (n / 10) (by rw [Nat.pow_succ] at h; omega) hk]; simp only [List.map_cons, List.map_nil, toB, Int.toNat_natCast]
theorem itoa_any (n : Nat) (hn : n < 100000000) (nn : Int) (hnn : (n : Int) = nn) (w : World) (T : Tab w) :
  Calls Tryz.prog 174 #[.int .i64 nn] w fun e w' => e = .returned (.string (strOfNums (dec n))) ∧ Kp w w' := by
 subst hnn; have h : Calls Tryz.prog 174 #[.int .i64 n] w _ := Any.strconv_Itoa Tryz.laysM171 n (by omega) (by omega) w T; refine h.mono ?_
 rintro e w' ⟨rfl, k, os, rfl⟩; refine ⟨?_, Lib.below_grow _ _ (Nat.le_refl _) _ _⟩
 have e1 : Lib.itoa (n : Int) = (dec n).map toB := by
  unfold Lib.itoa; rw [if_neg (by omega), Int.toNat_natCast, dec, decF_lib 8 n (by omega) (by decide)]
 rw [e1, str_mk]
def powD : String × DataW Unit := ("internal/strconv.uint64pow10", Lib.tabData .u64 Lib.pow10Tab)
theorem tab_of_laid {W : World} (h : laidMet Tryz.prog [powD] W) : Tab W := by
 obtain ⟨n, e, t, hty, ht, he, hce, hct⟩ : ∃ n e t, (Tryz.prog.globals[15]?).map (·.type) = some t ∧ Tryz.prog.underlying t = some (.array n e) ∧ Tryz.prog.underlying e = some (.int .u64) ∧ Tryz.prog.cellsOf e = 1 ∧ Tryz.prog.cellsOf t = n :=
  ⟨20, 107, _, rfl, by kernel_rfl, by kernel_rfl, by kernel_rfl, by kernel_rfl⟩
 have hg : Tryz.prog.globalNamed "internal/strconv.uint64pow10" = some 15 := by kernel_rfl
 exact Lib.tabIs_of_head hg hty ht he hce hct h
def apiX (x : String × DataW Unit) : Bool := text14.any fun y => y.1 == x.1
theorem st_tab_of {W : World} {l : List (String × DataW Unit)} (h1 : l.filter apiX = text14.map sentD) (h2 : l.filter (fun x => x.1 == "internal/strconv.uint64pow10") = [powD]) (hp : (l.all fun x => x.2.handleName?.isNone) = true) (h : laidMetH Tryz.prog l W) : (∃ ads, St ads W) ∧ Tab W := by
 rw [MakeChecks.laidMetH_plain _ _ _ hp] at h; have g1 := h.filter apiX; have g2 := h.filter fun x => x.1 == "internal/strconv.uint64pow10"
 rw [h1] at g1; rw [h2] at g2; exact ⟨errs_of_laid text14 gs14 rfl (by
  intro i hi hi'; have hi14 : i < 14 := hi
  match i, hi14 with
  | 0, _ | 1, _ | 2, _ | 3, _ | 4, _ | 5, _ | 6, _ | 7, _ | 8, _ | 9, _ | 10, _ | 11, _ | 12, _ | 13, _ => exact ⟨by kernel_rfl, by kernel_rfl⟩) g1, tab_of_laid g2⟩
structure EP (S : List Nat) (ads : List Addr) (w : World) : Prop where
 cell : ∀ i ∈ S, w.cell? ⟨gs14.getD i 0, 0, none⟩ = some (errI ads ((i : Int) + 1))
theorem EP.kp {S : List Nat} {ads : List Addr} {w w' : World} (E : EP S ads w) (hk : Kp w w') : EP S ads w' := ⟨fun i hi => kZ hk (E.cell i hi)⟩
theorem EP.sub {S T : List Nat} {ads : List Addr} {w : World} (E : EP S ads w) (h : ∀ i ∈ T, i ∈ S) : EP T ads w := ⟨fun i hi => E.cell i (h i hi)⟩
theorem ep_of_st {S : List Nat} {ads : List Addr} {w : World} (V : St ads w) (h : ∀ i ∈ S, i < 14) : EP S ads w := ⟨fun i hi => by
 have h14 : ads.length = 14 := V.len; have hi14 := h i hi; have c := V.cell i (show i < gs14.length by exact hi14); rw [errI_at ads i (by omega)]; rw [← c]
 congr 2
 simp [List.getD, List.getElem?_eq_getElem (show i < gs14.length by exact hi14)]⟩
def beNum (bs : List Int) : Int := bs.foldl (fun u c => 256 * u + c) 0
theorem beNum_next {bs : List Int} {j : Nat} (h : j < bs.length) : beNum (bs.take (j + 1)) = 256 * beNum (bs.take j) + bs[j] := by
 rw [List.take_add_one, List.getElem?_eq_getElem h]; unfold beNum; rw [List.foldl_append]
 rfl
theorem beNum_range {bs : List Int} (h : InB bs) : ∀ j, j ≤ bs.length → 0 ≤ beNum (bs.take j) ∧ beNum (bs.take j) < 256 ^ j
 | 0, _ => by simp [beNum]
 | j + 1, hj => by
  rw [beNum_next (by omega)]; have h1 := beNum_range h j (by omega); have h2 := h bs[j] (List.getElem_mem _); have e : (256 : Int) ^ (j + 1) = 256 * 256 ^ j := by rw [Int.pow_succ, Int.mul_comm]
  rw [e]
  generalize (256 : Int) ^ j = p at *
  omega
theorem p256_pos : ∀ j : Nat, 0 < (256 : Int) ^ j
 | 0 => by decide
 | j + 1 => by
  have := p256_pos j; rw [Int.pow_succ]; omega
theorem p256_le {j k : Nat} (h : j ≤ k) : (256 : Int) ^ j ≤ 256 ^ k := by
 induction h with
 | refl => exact Int.le_refl _
 | step _ ih =>
  rename_i m _
  have := p256_pos m; rw [Int.pow_succ]; omega
def toNum (bs : List Int) : Int × Int :=
 if 0 < bs.length ∧ bs.getD 0 0 = 0 then (0, 4) else if 8 < bs.length then (0, 1) else if 9223372036854775807 < beNum bs then (0, 1) else (beNum bs, 0)
def beF : Nat → Nat → List Int
 | 0, _ => []
 | k + 1, n => if n = 0 then [] else beF k (n / 256) ++ [((n % 256 : Nat) : Int)]
theorem beF_len : ∀ k n, (beF k n).length ≤ k
 | 0, _ => by simp [beF]
 | k + 1, n => by
  unfold beF
  split
  ·simp
  ·have := beF_len k (n / 256)
   simp
   omega
theorem beF_inB : ∀ k n, InB (beF k n)
 | 0, _ => by intro x hx; cases hx
 | k + 1, n => by
  unfold beF
  split
  ·intro x hx; cases hx
  ·intro x hx
   rcases List.mem_append.1 hx with h | h
   ·exact beF_inB k _ x h
   ·simp at h
    omega
def DatB (v : Value) (bs : List Int) (w : World) : Prop := ∃ (a : Option Addr) (c : Nat), v = .slice a bs.length c ∧ SlB (.slice a bs.length c) bs w ∧ InB bs
def SlQ (v : Value) (fs : List (Int × List Int)) (w : World) : Prop :=
 (fs = [] ∧ ∃ (a : Option Addr) (cap : Nat), v = .slice a 0 cap ∧ (a = none → cap = 0)) ∨
 ∃ b off cap, 0 < fs.length ∧ v = .slice (some ⟨b, off, none⟩) fs.length cap ∧ ∀ (j : Nat) (h : j < fs.length), w.cell? ⟨b, off + j * 2, none⟩ = some (.int .i64 fs[j].1) ∧ ∃ d, w.cell? ⟨b, off + j * 2 + 1, none⟩ = some d ∧ DatB d fs[j].2 w
theorem DatB.kp {v : Value} {bs : List Int} {w w' : World} (h : DatB v bs w) (hb : Kp w w') : DatB v bs w' := by
 obtain ⟨a, c, h1, h2, h3⟩ := h; exact ⟨a, c, h1, h2.kp hb, h3⟩
theorem SlQ.kp {v : Value} {fs : List (Int × List Int)} {w w' : World} (h : SlQ v fs w) (hb : Kp w w') : SlQ v fs w' := by
 rcases h with h | ⟨b, off, cap, h0, h1, h2⟩
 ·exact Or.inl h
 ·refine Or.inr ⟨b, off, cap, h0, h1, fun j hj => ?_⟩
  obtain ⟨h3, d, h4, h5⟩ := h2 j hj; exact ⟨kZ hb h3, d, kZ hb h4, h5.kp hb⟩
theorem SlQ.form {v : Value} {fs : List (Int × List Int)} {w : World} (h : SlQ v fs w) : ∃ a cap, v = .slice a fs.length cap := by
 rcases h with ⟨rfl, a, cap, rfl, _⟩ | ⟨b, off, cap, _, rfl, _⟩
 ·exact ⟨a, cap, rfl⟩
 ·exact ⟨_, cap, rfl⟩
theorem SlQ.at {a : Option Addr} {n cap : Nat} {fs : List (Int × List Int)} {w : World} (h : SlQ (.slice a n cap) fs w) (j : Nat) (hj : j < fs.length) :
  ∃ b off, a = some ⟨b, off, none⟩ ∧ w.cell? ⟨b, off + j * 2, none⟩ = some (.int .i64 fs[j].1) ∧ ∃ a' c, w.cell? ⟨b, off + j * 2 + 1, none⟩ = some (.slice a' fs[j].2.length c) ∧ SlB (.slice a' fs[j].2.length c) fs[j].2 w ∧ InB fs[j].2 := by
 rcases h with ⟨hz, _⟩ | ⟨b, off, cap', _, hv, hcc⟩
 ·rw [hz] at hj; cases hj
 ·injection hv with hv1 _ _
  obtain ⟨h1, d, h2, a', c, rfl, h3, h4⟩ := hcc j hj; exact ⟨b, off, hv1, h1, a', c, h2, h3, h4⟩
def fieldB (f : Int × List Int) : List Int := [f.1, 0, f.2.length] ++ f.2
def joinB (fs : List (Int × List Int)) : List Int := fs.flatMap fieldB
theorem joinB_next {fs : List (Int × List Int)} {j : Nat} (h : j < fs.length) : joinB (fs.take (j + 1)) = joinB (fs.take j) ++ fieldB fs[j] := by
 rw [List.take_add_one, List.getElem?_eq_getElem h]; unfold joinB; rw [List.flatMap_append]
 simp
def Small (fs : List (Int × List Int)) : Prop := ∀ f ∈ fs, 0 ≤ f.1 ∧ f.1 ≤ 255 ∧ f.2.length ≤ 200
theorem byte_sz : ∀ w, (Go.sizeOf 5).run Tryz.prog w = .ok 1 w := by
 obtain ⟨i0, hi, -, hz1, -⟩ := info_parts info_byte; intro w
 simp [sizeOf, typeInfo, hi, hz1]
def splitQ : Nat → List Int → Int → Nat → Int × List (Int × List Int)
 | 0, _, _, _ => (4, [])
 | f + 1, bs, last, k =>
  if bs.length = 0 then (0, [])
  else if bs.length < 3 then (2, [])
  else if bs.getD 0 0 ≤ last ∨ 200 < bs.getD 1 0 * 256 + bs.getD 2 0 ∨ k = 16 then (4, [])
  else if (bs.length : Int) - 3 < bs.getD 1 0 * 256 + bs.getD 2 0 then (2, [])
  else
   let r := splitQ f (bs.drop (3 + (bs.getD 1 0 * 256 + bs.getD 2 0).toNat)) (bs.getD 0 0) (k + 1)
   (r.1, (bs.getD 0 0, (bs.drop 3).take (bs.getD 1 0 * 256 + bs.getD 2 0).toNat) :: r.2)
theorem row_grows {w w' : World} {base n size : Nat} {e : TypeId} {v : Value} {xs : List Value} (hown : w.ownsRow base e size v n xs) (hgr : w.grownBy w' v.ownBlock) (b : Nat) (c : Array Value) (t : TypeId) (hb : w.heap[b]? = some (.cells c t (0, 0))) (ht : t ≠ e) :
  w'.heap[b]? = some (.cells c t (0, 0)) := by
 obtain ⟨-, hr⟩ := hown
 rcases hr with ⟨rfl, -⟩ | ⟨g, cap, cur, rfl, hg, hh, -⟩
 ·rw [hgr.block b (oZ hb) (by simp [Value.ownBlock])]; exact hb
 ·rw [hgr.block b (oZ hb) ?_]
  ·exact hb
  ·intro q; have : b = g := by simp [Value.ownBlock] at q; omega
   subst this; rw [hh] at hb; injection hb with hb
   injection hb with _ h2 _
   exact ht h2.symm
theorem own_grows {w w' : World} {base base' n m size : Nat} {e t : TypeId} {v d : Value} {xs ys : List Value} (hown : w.ownsRow base e size v n xs) (hgr : w.grownBy w' v.ownBlock) (hd : w.ownsRow base' t 1 d m ys) (ht : t ≠ e) : w'.ownsRow base' t 1 d m ys := by
 obtain ⟨h1, h2⟩ := hd; refine ⟨h1, ?_⟩
 rcases h2 with h2 | ⟨g, cap, cur, hv, hg, hh, r⟩
 ·exact Or.inl h2
 ·exact Or.inr ⟨g, cap, cur, hv, hg, row_grows hown hgr g cur t hh ht, r⟩
theorem rows_kp {w0 w w' : World} {n size : Nat} {e : TypeId} {v : Value} {xs : List Value} (hown : w.ownsRow w0.heap.size e size v n xs) (hgr : w.grownBy w' v.ownBlock) (hk : Kp w0 w) : Kp w0 w' := by
 obtain ⟨-, hr⟩ := hown
 rcases hr with ⟨rfl, -⟩ | ⟨g, cap, cur, rfl, hg, hh, -⟩
 ·exact Below.grown hk hgr (Below.size hk) (fun k hk' => by simp [Value.ownBlock] at hk')
 ·exact Below.grown hk hgr (Below.size hk) (fun k hk' => by simp [Value.ownBlock] at hk'; omega)
def cellQ (g : Int × List Int × Value) : List Value := [.int .i64 g.1, g.2.2]
def fldQ (g : Int × List Int × Value) : Int × List Int := (g.1, g.2.1)
theorem cellQ_at : ∀ (gs : List (Int × List Int × Value)) (j : Nat) (hj : j < gs.length), (gs.flatMap cellQ)[2 * j]? = some (.int .i64 gs[j].1) ∧ (gs.flatMap cellQ)[2 * j + 1]? = some gs[j].2.2
 | g :: gs, 0, _ => by simp [cellQ]
 | g :: gs, j + 1, hj => by
  have h := cellQ_at gs j (by simpa using hj); have e : 2 * (j + 1) = 2 * j + 2 := by omega
  have e2 : 2 * (j + 1) + 1 = 2 * j + 1 + 2 := by omega
  rw [e2, e]
  simpa [cellQ] using h
def OwnD (base : Nat) (gs : List (Int × List Int × Value)) (w : World) : Prop := ∀ g ∈ gs, w.ownsRow base 5 1 g.2.2 g.2.1.length (g.2.1.map (Value.int .u8)) ∧ InB g.2.1
theorem OwnD.kp {base : Nat} {gs : List (Int × List Int × Value)} {w w' : World} (h : OwnD base gs w) (hk : Kp w w') : OwnD base gs w' := fun g hg => ⟨oK (h g hg).1 hk, (h g hg).2⟩
theorem OwnD.grows {base b' n : Nat} {gs : List (Int × List Int × Value)} {w w' : World} {v : Value} {xs : List Value} (h : OwnD base gs w) (hown : w.ownsRow b' 122 2 v n xs) (hgr : w.grownBy w' v.ownBlock) : OwnD base gs w' :=
 fun g hg => ⟨own_grows hown hgr (h g hg).1 (by decide), (h g hg).2⟩
theorem own_slq {base base' n : Nat} {gs : List (Int × List Int × Value)} {w : World} {v : Value} (hn : gs.length = n) (h : w.ownsRow base 122 2 v n (gs.flatMap cellQ)) (hd : OwnD base' gs w) : SlQ v (gs.map fldQ) w := by
 subst hn; obtain ⟨h1, h2⟩ := h
 rcases h2 with ⟨rfl, hn⟩ | ⟨g, cap, cur, rfl, hg, hh, hc, hm, hs, ht⟩
 ·left
  have : gs = [] := List.length_eq_zero_iff.1 (by omega); subst this; exact ⟨rfl, none, 0, rfl, fun _ => rfl⟩
 ·by_cases h0 : gs.length = 0
  ·left
   have : gs = [] := List.length_eq_zero_iff.1 h0; subst this; exact ⟨rfl, _, cap, rfl, fun h => by cases h⟩
  ·right
   refine ⟨g, 0, cap, by simp; omega, by simp, fun j hj => ?_⟩
   have hj' : j < gs.length := by simpa using hj
   obtain ⟨q0, q1⟩ := cellQ_at gs j hj'; rw [← ht] at q0 q1; rw [List.getElem?_take, if_pos (by omega)] at q0 q1; obtain ⟨d1, d2⟩ := hd gs[j] (List.getElem_mem _); have hsl := own_slb d1; obtain ⟨a', c', he⟩ := hsl.form; refine ⟨?_, gs[j].2.2, ?_, a', c', ?_, ?_, ?_⟩
   ·unfold World.cell?; dsimp only; rw [hh]; simp only [Option.isSome_none, Bool.false_eq_true, if_false, Nat.zero_add, Nat.mul_comm j 2]
    simpa [fldQ] using q0
   ·unfold World.cell?; dsimp only; rw [hh]; simp only [Option.isSome_none, Bool.false_eq_true, if_false, Nat.zero_add, Nat.mul_comm j 2]
    simpa using q1
   ·simpa [fldQ] using he
   ·simp only [List.getElem_map, fldQ]
    rw [← he]; exact hsl
   ·simpa [fldQ] using d2
theorem info_fieldT : (Tryz.prog.info? 122).map (fun i => (i.zero, i.size, i.bytes)) = some (some (.agg #[(0:Int), .slice none 0 0]), 2, 32) := by kernel_rfl
def rowF : Int → List Int → List (Int × List Int)
 | _, [] => []
 | i, n :: ns => if n = 0 then rowF (i + 1) ns else (i, beF 8 n.toNat) :: rowF (i + 1) ns
theorem rowF_snoc : ∀ (ns : List Int) (i x : Int), rowF i (ns ++ [x]) = rowF i ns ++ (if x = 0 then [] else [(i + ns.length, beF 8 x.toNat)])
 | [], i, x => by simp only [List.nil_append, rowF, List.length_nil]; split <;> simp
 | n :: ns, i, x => by
  have ih := rowF_snoc ns (i + 1) x; have e : i + 1 + (ns.length : Int) = i + ((n :: ns).length : Nat) := by rw [List.length_cons]; omega
  rw [e] at ih; simp only [List.cons_append, rowF, ih]
  split <;> simp
theorem rowF_len : ∀ (ns : List Int) (i : Int), (rowF i ns).length ≤ ns.length
 | [], _ => Nat.le_refl _
 | n :: ns, i => by
  have := rowF_len ns (i + 1); simp only [rowF]
  split <;> simp <;> omega
theorem rowF_mem : ∀ (ns : List Int) (i : Int), ∀ x ∈ rowF i ns, i ≤ x.1 ∧ x.1 < i + ns.length ∧ x.2.length ≤ 8 ∧ InB x.2
 | [], _, x, hx => by cases hx
 | n :: ns, i, x, hx => by
  simp only [rowF] at hx
  split at hx
  ·have := rowF_mem ns (i + 1) x hx; rw [List.length_cons]; exact ⟨by omega, by omega, this.2.2⟩
  ·rcases List.mem_cons.1 hx with rfl | hx
   ·exact ⟨Int.le_refl _, by rw [List.length_cons]; dsimp only; omega, beF_len _ _, beF_inB _ _⟩
   ·have := rowF_mem ns (i + 1) x hx; rw [List.length_cons]; exact ⟨by omega, by omega, this.2.2⟩
theorem enc_len {w : World} {base n : Nat} {e : TypeId} {v : Value} {xs : List Value} (h : w.ownsRow base e 1 v n xs) : ∃ a c, v = .slice a n c ∧ n ≤ c := by
 rcases h.2 with ⟨rfl, rfl⟩ | ⟨g, cap, cur, rfl, _, _, hc, _⟩
 ·exact ⟨none, 0, rfl, Nat.le_refl _⟩
 ·exact ⟨_, cap, rfl, hc⟩
theorem splitQ_tags : ∀ (f : Nat) (bs : List Int) (last : Int) (k : Nat), InB bs → ∀ x ∈ (splitQ f bs last k).2, last < x.1 ∧ x.1 ≤ 255 ∧ x.2.length ≤ 200
 | 0, _, _, _, _, x, hx => by simp [splitQ] at hx
 | f + 1, bs, last, k, hb, x, hx => by
  rw [splitQ] at hx; have gb : ∀ i, 0 ≤ bs.getD i 0 ∧ bs.getD i 0 < 256 := by
   intro i
   rcases Nat.lt_or_ge i bs.length with q | q
   ·have := hb bs[i] (List.getElem_mem _)
    simpa [List.getD, q] using this
   ·simp [List.getD, q]
  have b0 := gb 0
  split at hx
  ·cases hx
  split at hx
  ·cases hx
  split at hx
  ·cases hx
  rename_i h3
  split at hx
  ·cases hx
  dsimp only at hx
  rcases List.mem_cons.1 hx with rfl | hx
  ·dsimp only; refine ⟨by omega, by omega, ?_⟩
   rw [List.length_take]; omega
  ·have ih := splitQ_tags f _ (bs.getD 0 0) (k + 1) (fun y hy => hb y (List.mem_of_mem_drop hy)) x hx; exact ⟨by omega, ih.2.1, ih.2.2⟩
theorem splitQ_len : ∀ (f : Nat) (bs : List Int) (last : Int) (k : Nat), (splitQ f bs last k).2.length ≤ f
 | 0, _, _, _ => by simp [splitQ]
 | f + 1, bs, last, k => by
  rw [splitQ]
  split
  ·simp
  split
  ·simp
  split
  ·simp
  split
  ·simp
  ·simp only [List.length_cons]
   exact Nat.succ_le_succ (splitQ_len f _ _ _)
theorem splitQ_num : ∀ (f : Nat) (bs : List Int) (last : Int) (k : Nat), (splitQ f bs last k).1 = 0 ∨ (splitQ f bs last k).1 = 2 ∨ (splitQ f bs last k).1 = 4
 | 0, _, _, _ => .inr (.inr rfl)
 | f + 1, bs, last, k => by
  rw [splitQ]
  split
  ·exact .inl rfl
  split
  ·exact .inr (.inl rfl)
  split
  ·exact .inr (.inr rfl)
  split
  ·exact .inr (.inl rfl)
  ·exact splitQ_num f _ _ _
open Go.RowKit Go.Extern.Stop Go.Stop Go.Extern
theorem isErrorE (v : Value) (w : World) : (Instr.typeAssert (.iface 240 v) 20 26 true).run Tryz.prog w = .ok (.tuple #[.iface 240 v, .bool true]) w := run_typeAssert_hasB Tryz.underlying26 (by kernel_rfl) v _ w
theorem is_door (w : World) :
  CallsD Tryz.prog 162 #[] .returning w fun e u' w' => e = .returned (.tuple #[]) ∧ u' = .returning ∧ w' = w := by
 refine callsD_of_wpS Tryz.func162 rfl fun c₀ cs hu => ?_
 apply wpS_region
 cases c₀
 simp_all [wpOpsS, go_sem, recoverD, Tryz.ntmps162, bodyPostS, results, Tryz.results162]
theorem cis_of {v t : Value} {b : Bool} {w : World} (h : Calls Tryz.prog 26 #[v, t] w fun e w' => e = .returned (.bool b) ∧ w = w') :
  Calls Tryz.prog 150 #[v, t] w fun e w' => e = .returned (.bool b) ∧ w = w' := by
 go_enter_defers Tryz.func150, Tryz.ntmps150
 go_wp2_with (go_at_call 26; (with_reducible refine h.mono ?_); rintro e w' ⟨rfl, rfl⟩)
 refine leaves_cons (f := 162) (args := #[]) (by simp) (by simp [go_sem]) ?_
 refine (is_door _).mono ?_
 rintro e u' w'' ⟨rfl, rfl, rfl⟩
 simp [Leaves, settle, results, Tryz.results150, go_sem]
theorem named_gen (ads : List Addr) (w : World) (E : Errs gs14 ads w) (v r : Value) (K : Nat) (hK : K ≤ 14)
  (H0 : ∀ (j : Nat) (h : j < ads.length), j < K → ∀ w1, Kp w w1 → Calls Tryz.prog 150 #[v, snt ads[j]] w1 fun e w' => e = .returned (.bool false) ∧ w1 = w')
  (H1 : ∀ (h : K < ads.length), ∀ w1, Kp w w1 → Calls Tryz.prog 150 #[v, snt ads[K]] w1 fun e w' => e = .returned (.bool true) ∧ w1 = w')
  (hr : (∃ h : K < ads.length, r = snt ads[K]) ∨ (K = 14 ∧ ∃ h : 12 < ads.length, r = snt ads[12])) :
  Calls Tryz.prog 123 #[v] w fun e w' => e = .returned r ∧ Kp w w' := by
 match ads, E, H0, H1, hr with
 | [a0, a1, a2, a3, a4, a5, a6, a7, a8, a9, a10, a11, a12, a13], E, H0, H1, hr =>
  have c0 : w.cell? ⟨0, 0, none⟩ = some (.iface 240 (.pointer (some a0))) := E.cell 0 (by decide); have c1 : w.cell? ⟨1, 0, none⟩ = some (.iface 240 (.pointer (some a1))) := E.cell 1 (by decide); have c2 : w.cell? ⟨2, 0, none⟩ = some (.iface 240 (.pointer (some a2))) := E.cell 2 (by decide); have c3 : w.cell? ⟨3, 0, none⟩ = some (.iface 240 (.pointer (some a3))) := E.cell 3 (by decide); have c4 : w.cell? ⟨4, 0, none⟩ = some (.iface 240 (.pointer (some a4))) := E.cell 4 (by decide); have c5 : w.cell? ⟨5, 0, none⟩ = some (.iface 240 (.pointer (some a5))) := E.cell 5 (by decide); have c6 : w.cell? ⟨6, 0, none⟩ = some (.iface 240 (.pointer (some a6))) := E.cell 6 (by decide); have c7 : w.cell? ⟨7, 0, none⟩ = some (.iface 240 (.pointer (some a7))) := E.cell 7 (by decide); have c8 : w.cell? ⟨8, 0, none⟩ = some (.iface 240 (.pointer (some a8))) := E.cell 8 (by decide); have c9 : w.cell? ⟨9, 0, none⟩ = some (.iface 240 (.pointer (some a9))) := E.cell 9 (by decide)
  have c10 : w.cell? ⟨10, 0, none⟩ = some (.iface 240 (.pointer (some a10))) := E.cell 10 (by decide); have c11 : w.cell? ⟨11, 0, none⟩ = some (.iface 240 (.pointer (some a11))) := E.cell 11 (by decide); have c12 : w.cell? ⟨12, 0, none⟩ = some (.iface 240 (.pointer (some a12))) := E.cell 12 (by decide); have c13 : w.cell? ⟨13, 0, none⟩ = some (.iface 240 (.pointer (some a13))) := E.cell 13 (by decide); have hnew : Kp w (w.alloc (.cells #[.iface 240 (.pointer (some a0)), .iface 240 (.pointer (some a1)), .iface 240 (.pointer (some a2)), .iface 240 (.pointer (some a3)), .iface 240 (.pointer (some a4)), .iface 240 (.pointer (some a5)), .iface 240 (.pointer (some a6)), .iface 240 (.pointer (some a7)), .iface 240 (.pointer (some a8)), .iface 240 (.pointer (some a9)), .iface 240 (.pointer (some a10)), .iface 240 (.pointer (some a11)), .iface 240 (.pointer (some a12)), .iface 240 (.pointer (some a13))] 26)) := (Below.refl _ _).alloc (Nat.le_refl _) _
  have hlt : 12 < w.heap.size := E.old.1 12 (by decide); have c12' : (w.alloc (.cells #[.iface 240 (.pointer (some a0)), .iface 240 (.pointer (some a1)), .iface 240 (.pointer (some a2)), .iface 240 (.pointer (some a3)), .iface 240 (.pointer (some a4)), .iface 240 (.pointer (some a5)), .iface 240 (.pointer (some a6)), .iface 240 (.pointer (some a7)), .iface 240 (.pointer (some a8)), .iface 240 (.pointer (some a9)), .iface 240 (.pointer (some a10)), .iface 240 (.pointer (some a11)), .iface 240 (.pointer (some a12)), .iface 240 (.pointer (some a13))] 26)).cell? ⟨12, 0, none⟩ = some (.iface 240 (.pointer (some a12))) := by rw [Below.cell hnew hlt]; exact c12
  obtain ⟨HE, HR, HH0, HH1, HN⟩ := hD5 E hr H0 H1 hnew; clear E hr H0 H1 hnew; go_enter Tryz.func123, Tryz.ntmps123; go_wp2; go_loop [23] (fun i => ∃ j : Nat, j ≤ K ∧ i = .int .i64 j) (fun i => 14 - (intOf i).toNat)
  case atStart => exact ⟨0, Nat.zero_le _, rfl⟩
  case round =>
   obtain ⟨j, hj, rfl⟩ := hrel
   by_cases hj14 : j = 14
   ·subst hj14; obtain rfl : K = 14 := by omega
    go_wp2; go_ret; refine ⟨?_, HN.out⟩
    rcases HR.out with ⟨h, _⟩ | ⟨_, h, rfl⟩
    ·exact absurd h (by simp)
    ·rfl
   ·have hj14' : j < 14 := by omega
    obtain ⟨x, hx⟩ : ∃ x, ([a0, a1, a2, a3, a4, a5, a6, a7, a8, a9, a10, a11, a12, a13] : List Addr)[j]'(by simpa using hj14') = x := ⟨_, rfl⟩
    have hel : (w.alloc (.cells #[.iface 240 (.pointer (some a0)), .iface 240 (.pointer (some a1)), .iface 240 (.pointer (some a2)), .iface 240 (.pointer (some a3)), .iface 240 (.pointer (some a4)), .iface 240 (.pointer (some a5)), .iface 240 (.pointer (some a6)), .iface 240 (.pointer (some a7)), .iface 240 (.pointer (some a8)), .iface 240 (.pointer (some a9)), .iface 240 (.pointer (some a10)), .iface 240 (.pointer (some a11)), .iface 240 (.pointer (some a12)), .iface 240 (.pointer (some a13))] 26)).cell? ⟨w.heap.size, j, none⟩ = some (.iface 240 (.pointer (some x))) := by
     rw [← hx]; exact cells_new w [a0, a1, a2, a3, a4, a5, a6, a7, a8, a9, a10, a11, a12, a13] 26 j (by simpa using hj14')
    by_cases hjk : j = K
    ·subst hjk; have h1 := HH1.out (by simpa using hj14') _ HN.out; rw [hx] at h1; have hrx : r = snt x := by
      rcases HR.out with ⟨h, rfl⟩ | ⟨h, _⟩
      ·rw [hx]
      ·exact absurd h (by omega)
     obtain ⟨HX, HC, HRX⟩ := hD3 hx h1 hrx; clear hx h1 hrx; go_wp2_with (go_at_call 150; (with_reducible refine HC.out.mono ?_); rintro e w' ⟨rfl, rfl⟩)
     go_ret; exact ⟨by rw [HRX.out]; rfl, HN.out⟩
    ·have h0 := HH0.out j (by simpa using hj14') (by omega) _ HN.out; rw [hx] at h0; obtain ⟨HX, HC⟩ := hD2 hx h0; clear hx h0; go_wp2_with (go_at_call 150; (with_reducible refine HC.out.mono ?_); rintro e w' ⟨rfl, rfl⟩)
     go_round
     case rel => exact ⟨j + 1, by omega, by go_num⟩
     case measure => simp [intOf]; omega
theorem named_any (ads : List Addr) (w : World) (V : St ads w) (k : Nat) (hk : k < ads.length) :
  Calls Tryz.prog 123 #[snt ads[k]] w fun e w' => e = .returned (snt ads[k]) ∧ Kp w w' := by
 have hl : ads.length = 14 := V.len; refine named_gen ads w V _ _ k (by omega) (fun j hj hjk w1 hw => ?_) (fun _ w1 hw => ?_) (.inl ⟨hk, rfl⟩)
 ·have V1 := V.below hw; obtain ⟨ca, ta, ra⟩ := V1.row _ (List.getElem_mem hk); obtain ⟨cb, tb, rb⟩ := V1.row _ (List.getElem_mem hj); refine cis_of (is_other _ _ ca cb ta tb w1 (fun e => ?_) ra rb)
  exact List.pairwise_iff_getElem.1 V.nodup j k hj hk hjk e.symm
 ·exact cis_of (is_same _ w1)
theorem errorOf_any (ads : List Addr) (w : World) (V : St ads w) (k : Nat) (hk : k < ads.length) :
  Calls Tryz.prog 82 #[snt ads[k]] w fun e w' => e = .returned (snt ads[k]) ∧ Kp w w' := by
 have hn := named_any ads w V k hk; obtain ⟨r, hr⟩ : ∃ r, ads[k] = r := ⟨_, rfl⟩
 rw [hr] at hn ⊢; have HN := hD hn; have ha := isErrorE (.pointer (some r)) w; clear hn hr; go_enter Tryz.func82, Tryz.ntmps82; go_wp2_with (go_at_call 123; (with_reducible refine HN.out.mono ?_); rintro e w' ⟨rfl, hw⟩)
 go_ret; exact ⟨rfl, hw⟩
end Go.Proofs.YtpemeenfhkgmpaaGreatDoor
