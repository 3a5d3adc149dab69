/- Parts of this proof (own work). -/
import Derived.Test.YtpemeenfhkgmpaaGreatDoorZr01
import Derived.MakeChecks
import Derived.Stop.LaidErr
import Derived.LaidSub
import Derived.Deep.SlicePairs
import Derived.Lib.SlBytesRow
import Derived.Recover
import Derived.Laws.Pointers
set_option maxRecDepth 100000
set_option maxHeartbeats 40000000
namespace Go.Proofs.YtpemeenfhkgmpaaGreatDoor
open Go.RowKit
def powD : String × DataW Unit := ("internal/strconv.uint64pow10", Lib.tabData .u64 Lib.pow10Tab)
theorem tab_of_laid {W : World} (h : laidMet Tryz.prog [powD] W) : Tab W := by
 obtain ⟨n, e, t, hty, ht, he, hce, hct⟩ : ∃ n e t, (Tryz.prog.globals[15]?).map (·.type) = some t ∧ Tryz.prog.underlying t = some (.array n e) ∧ Tryz.prog.underlying e = some (.int .u64) ∧ Tryz.prog.cellsOf e = 1 ∧ Tryz.prog.cellsOf t = n :=
  ⟨20, 107, _, rfl, by kernel_rfl, by kernel_rfl, by kernel_rfl, by kernel_rfl⟩
 have hg : Tryz.prog.globalNamed "internal/strconv.uint64pow10" = some 15 := by kernel_rfl
 exact Lib.tabIs_of_head hg hty ht he hce hct h
def apiX (x : String × DataW Unit) : Bool := text14.any fun y => y.1 == x.1
theorem st_tab_of {W : World} {l : List (String × DataW Unit)} (h1 : l.filter apiX = text14.map sentD) (h2 : l.filter (fun x => x.1 == "internal/strconv.uint64pow10") = [powD]) (hp : (l.all fun x => x.2.handleName?.isNone) = true) (h : laidMetH Tryz.prog l W) : (∃ ads, St ads W) ∧ Tab W := by
 rw [MakeChecks.laidMetH_plain _ _ _ hp] at h; have g1 := h.filter apiX; have g2 := h.filter fun x => x.1 == "internal/strconv.uint64pow10"
 rw [h1] at g1; rw [h2] at g2; exact ⟨errs_of_laid text14 gs14 rfl (by
  intro i hi hi'; have hi14 : i < 14 := hi
  match i, hi14 with
  | 0, _ | 1, _ | 2, _ | 3, _ | 4, _ | 5, _ | 6, _ | 7, _ | 8, _ | 9, _ | 10, _ | 11, _ | 12, _ | 13, _ => exact ⟨by kernel_rfl, by kernel_rfl⟩) g1, tab_of_laid g2⟩
structure EP (S : List Nat) (ads : List Addr) (w : World) : Prop where
 cell : ∀ i ∈ S, w.cell? ⟨gs14.getD i 0, 0, none⟩ = some (errI ads ((i : Int) + 1))
theorem EP.kp {S : List Nat} {ads : List Addr} {w w' : World} (E : EP S ads w) (hk : Kp w w') : EP S ads w' := ⟨fun i hi => kZ hk (E.cell i hi)⟩
theorem EP.sub {S T : List Nat} {ads : List Addr} {w : World} (E : EP S ads w) (h : ∀ i ∈ T, i ∈ S) : EP T ads w := ⟨fun i hi => E.cell i (h i hi)⟩
theorem ep_of_st {S : List Nat} {ads : List Addr} {w : World} (V : St ads w) (h : ∀ i ∈ S, i < 14) : EP S ads w := ⟨fun i hi => by
 have h14 : ads.length = 14 := V.len; have hi14 := h i hi; have c := V.cell i (show i < gs14.length by exact hi14); rw [errI_at ads i (by omega)]; rw [← c]
 congr 2
 simp [List.getD, List.getElem?_eq_getElem (show i < gs14.length by exact hi14)]⟩
open Go.RowKit Go.ChangeShapes Go.WideShapes
def beNum (bs : List Int) : Int := bs.foldl (fun u c => 256 * u + c) 0
theorem beNum_next {bs : List Int} {j : Nat} (h : j < bs.length) : beNum (bs.take (j + 1)) = 256 * beNum (bs.take j) + bs[j] := by
 rw [List.take_add_one, List.getElem?_eq_getElem h]; unfold beNum; rw [List.foldl_append]
 rfl
theorem beNum_range {bs : List Int} (h : InB bs) : ∀ j, j ≤ bs.length → 0 ≤ beNum (bs.take j) ∧ beNum (bs.take j) < 256 ^ j
 | 0, _ => by simp [beNum]
 | j + 1, hj => by
  rw [beNum_next (by omega)]; have h1 := beNum_range h j (by omega); have h2 := h bs[j] (List.getElem_mem _); have e : (256 : Int) ^ (j + 1) = 256 * 256 ^ j := by rw [Int.pow_succ, Int.mul_comm]
  rw [e]
  generalize (256 : Int) ^ j = p at *
  omega
theorem p256_pos : ∀ j : Nat, 0 < (256 : Int) ^ j
 | 0 => by decide
 | j + 1 => by
  have := p256_pos j; rw [Int.pow_succ]; omega
theorem p256_le {j k : Nat} (h : j ≤ k) : (256 : Int) ^ j ≤ 256 ^ k := by
 induction h with
 | refl => exact Int.le_refl _
 | step _ ih =>
  rename_i m _
  have := p256_pos m; rw [Int.pow_succ]; omega
def toNum (bs : List Int) : Int × Int :=
 if 0 < bs.length ∧ bs.getD 0 0 = 0 then (0, 4) else if 8 < bs.length then (0, 1) else if 9223372036854775807 < beNum bs then (0, 1) else (beNum bs, 0)
theorem refToNumber_any (a : Option Addr) (cap : Nat) (bs : List Int) (len : Nat) (hlen : bs.length = len) (hl : len ≤ 100000) (hb : InB bs) (w : World) (hs : SlB (.slice a len cap) bs w) :
  Calls Tryz.prog 54 #[.slice a len cap] w fun e w' => e = .returned (.tuple #[.int .i64 (toNum bs).1, .int .i64 (toNum bs).2]) ∧ w = w' := by
 have hel : ∀ j (hj : j < bs.length), ∃ b off, a = some ⟨b, off, none⟩ ∧ w.cell? ⟨b, off + j, none⟩ = some (.int .u8 (bs.getD j 0)) := fun j hj => hs.at j hj
 by_cases h0 : 0 < bs.length ∧ bs.getD 0 0 = 0
 ·have e : toNum bs = (0, 4) := by unfold toNum; rw [if_pos h0]
  rw [e]; obtain ⟨b, off, rfl, hc⟩ := hel 0 h0.1; rw [h0.2, Nat.add_zero] at hc; have hp : 0 < len := by omega
  clear e hel hs h0; go_enter Tryz.func54, Tryz.ntmps54; go_wp2; go_ret2
  exact ⟨rfl, rfl⟩
 ·have e0 : toNum bs = if 8 < bs.length then (0, 1) else if 9223372036854775807 < beNum bs then (0, 1) else (beNum bs, 0) := by unfold toNum; rw [if_neg h0]
  have hd : len = 0 ∨ ∃ b off x, a = some ⟨b, off, none⟩ ∧ w.cell? ⟨b, off, none⟩ = some (.int .u8 x) ∧ x ≠ 0 := by
   rcases Nat.eq_zero_or_pos len with q | q
   ·exact .inl q
   ·obtain ⟨b, off, h1, h2⟩ := hel 0 (by omega); rw [Nat.add_zero] at h2; exact .inr ⟨b, off, _, h1, h2, fun h => h0 ⟨by omega, h⟩⟩
  by_cases h8 : 8 < bs.length
  ·have e : toNum bs = (0, 1) := by rw [e0, if_pos h8]
   rw [e]
   rcases hd with q | ⟨b, off, x, rfl, hc, hx⟩
   ·omega
   have hp : 0 < len := by omega
   have h8' : ¬ len ≤ 8 := by omega
   have h8b : 8 < len := by omega
   have hx' : (x == 0) = false := by simp; exact hx
   clear e e0 hel hs h0 h8; go_enter Tryz.func54, Tryz.ntmps54; go_wp2; go_ret2
   exact ⟨rfl, rfl⟩
  ·obtain ⟨F, hF⟩ : ∃ F, beNum bs = F := ⟨_, rfl⟩
   have e : toNum bs = if 9223372036854775807 < F then (0, 1) else (F, 0) := by rw [e0, if_neg h8, hF]
   have h8' : ¬ 8 < len := by omega
   have hr := beNum_range hb; have hn := fun j (h : j < bs.length) => beNum_next h
   have HEL := hD hel; have HR := hD hr; have HNX := hD hn; have HB := hD hb; have HF := hD hF; have HL := hD hlen; rw [e]; clear e e0 hel hs h0 h8 hr hn hb hF hlen
   rcases Nat.eq_zero_or_pos len with rfl | hp
   ·have hF0 : F = 0 := by
     have : bs = [] := List.length_eq_zero_iff.1 HL.out; rw [← HF.out, this]; rfl
    subst hF0; rw [if_neg (by decide)]; go_enter Tryz.func54, Tryz.ntmps54; go_wp2; refine wp_loop_rounds 1 ?_
    rw [rounds_succ]; go_wp2; go_ret2
    exact ⟨rfl, rfl⟩
   ·obtain ⟨b, off, x, rfl, hc, hx⟩ := hd.resolve_left (by omega); clear hd; have hx' : (x == 0) = false := by simp; exact hx
    have hF64 : 0 ≤ F ∧ F < 18446744073709551616 := by
     have h := HR.out bs.length (Nat.le_refl _); rw [List.take_length, HF.out] at h; have hp8 : (256 : Int) ^ bs.length ≤ 256 ^ 8 := p256_le (by have := HL.out; omega); have e8 : (256 : Int) ^ 8 = 18446744073709551616 := by decide
     omega
    obtain ⟨ret, hret⟩ : ∃ ret : Int × Int, (if 9223372036854775807 < F then ((0 : Int), (1 : Int)) else (F, 0)) = ret := ⟨_, rfl⟩
    rw [hret]; have HRET := hD hret; clear hret; go_enter Tryz.func54, Tryz.ntmps54; go_wp2; go_loop [4, 21] (fun u i => ∃ j : Nat, j ≤ len ∧ i = .int .i64 j ∧ u = .int .u64 (beNum (bs.take j))) (fun _ i => len - (intOf i).toNat)
    case atStart => exact ⟨0, Nat.zero_le _, rfl, rfl⟩
    case round =>
     obtain ⟨j, hj, rfl, rfl⟩ := hrel; obtain ⟨jj, hjj⟩ : ∃ jj : Int, (j : Int) = jj := ⟨_, rfl⟩
     obtain ⟨uu, huu⟩ : ∃ uu, beNum (bs.take j) = uu := ⟨_, rfl⟩
     rw [hjj, huu]; have hl := HL.out
     by_cases hlt : j < len
     ·have hjl : j < bs.length := by omega
      obtain ⟨b2, off2, hb2, hc2⟩ := HEL.out j hjl; injection hb2 with hb2
      injection hb2 with h1 h2
      subst h1 h2; have hnx := HNX.out j hjl; have hbb := HB.out bs[j] (List.getElem_mem _); have hru := HR.out j (by omega); obtain ⟨y, hy⟩ : ∃ y, bs[j] = y := ⟨_, rfl⟩
      have hy2 : bs.getD j 0 = y := by simp [List.getD, hjl, hy]
      rw [hy2] at hc2; rw [hy] at hnx hbb; rw [huu] at hnx hru; have hp7 : (256 : Int) ^ j ≤ 256 ^ 7 := p256_le (by omega); have e7 : (256 : Int) ^ 7 = 72057594037927936 := by decide
      have hub : 0 ≤ uu ∧ uu < 72057594037927936 := by omega
      have ej : jj.toNat = j := by omega
      rw [← ej] at hc2; have hj0 : 0 ≤ jj := by omega
      have hltj : jj < len := by omega
      have HJ := hD hjj; have HNXT := hD hnx; clear hjj huu hnx hru hp7 e7 hy hy2 ej hlt hjl hl; go_wp2; have hjj := HJ.out; go_round
      case rel =>
       refine ⟨j + 1, by omega, by congr 1; omega, ?_⟩
       rw [HNXT.out]
      case measure => simp [intOf]; omega
     ·obtain rfl : j = len := by omega
      have hex : ¬ jj < j := by omega
      have hful : bs.take j = bs := by rw [List.take_of_length_le]; omega
      rw [hful, HF.out] at huu; subst huu; clear hjj hful hl
      by_cases hbig : 9223372036854775807 < F
      ·obtain rfl : ret = (0, 1) := by rw [← HRET.out, if_pos hbig]
       go_wp2; go_ret2
       exact ⟨rfl, rfl⟩
      ·obtain rfl : ret = (F, 0) := by rw [← HRET.out, if_neg hbig]
       go_wp2; go_ret2
       exact ⟨rfl, rfl⟩
def beF : Nat → Nat → List Int
 | 0, _ => []
 | k + 1, n => if n = 0 then [] else beF k (n / 256) ++ [((n % 256 : Nat) : Int)]
def DatB (v : Value) (bs : List Int) (w : World) : Prop := ∃ (a : Option Addr) (c : Nat), v = .slice a bs.length c ∧ SlB (.slice a bs.length c) bs w ∧ InB bs
def SlQ (v : Value) (fs : List (Int × List Int)) (w : World) : Prop :=
 (fs = [] ∧ ∃ (a : Option Addr) (cap : Nat), v = .slice a 0 cap ∧ (a = none → cap = 0)) ∨
 ∃ b off cap, 0 < fs.length ∧ v = .slice (some ⟨b, off, none⟩) fs.length cap ∧ ∀ (j : Nat) (h : j < fs.length), w.cell? ⟨b, off + j * 2, none⟩ = some (.int .i64 fs[j].1) ∧ ∃ d, w.cell? ⟨b, off + j * 2 + 1, none⟩ = some d ∧ DatB d fs[j].2 w
theorem DatB.kp {v : Value} {bs : List Int} {w w' : World} (h : DatB v bs w) (hb : Kp w w') : DatB v bs w' := by
 obtain ⟨a, c, h1, h2, h3⟩ := h; exact ⟨a, c, h1, h2.kp hb, h3⟩
theorem SlQ.kp {v : Value} {fs : List (Int × List Int)} {w w' : World} (h : SlQ v fs w) (hb : Kp w w') : SlQ v fs w' := by
 rcases h with h | ⟨b, off, cap, h0, h1, h2⟩
 ·exact Or.inl h
 ·refine Or.inr ⟨b, off, cap, h0, h1, fun j hj => ?_⟩
  obtain ⟨h3, d, h4, h5⟩ := h2 j hj; exact ⟨kZ hb h3, d, kZ hb h4, h5.kp hb⟩
theorem SlQ.form {v : Value} {fs : List (Int × List Int)} {w : World} (h : SlQ v fs w) : ∃ a cap, v = .slice a fs.length cap := by
 rcases h with ⟨rfl, a, cap, rfl, _⟩ | ⟨b, off, cap, _, rfl, _⟩
 ·exact ⟨a, cap, rfl⟩
 ·exact ⟨_, cap, rfl⟩
theorem SlQ.at {a : Option Addr} {n cap : Nat} {fs : List (Int × List Int)} {w : World} (h : SlQ (.slice a n cap) fs w) (j : Nat) (hj : j < fs.length) :
  ∃ b off, a = some ⟨b, off, none⟩ ∧ w.cell? ⟨b, off + j * 2, none⟩ = some (.int .i64 fs[j].1) ∧ ∃ a' c, w.cell? ⟨b, off + j * 2 + 1, none⟩ = some (.slice a' fs[j].2.length c) ∧ SlB (.slice a' fs[j].2.length c) fs[j].2 w ∧ InB fs[j].2 := by
 rcases h with ⟨hz, _⟩ | ⟨b, off, cap', _, hv, hcc⟩
 ·rw [hz] at hj; cases hj
 ·injection hv with hv1 _ _
  obtain ⟨h1, d, h2, a', c, rfl, h3, h4⟩ := hcc j hj; exact ⟨b, off, hv1, h1, a', c, h2, h3, h4⟩
def fieldB (f : Int × List Int) : List Int := [f.1, 0, f.2.length] ++ f.2
def joinB (fs : List (Int × List Int)) : List Int := fs.flatMap fieldB
theorem byte_sz : ∀ w, (Go.sizeOf 5).run Tryz.prog w = .ok 1 w := by
 obtain ⟨i0, hi, -, hz1, -⟩ := info_parts info_byte; intro w
 simp [sizeOf, typeInfo, hi, hz1]
theorem slb_window {b off len cap at' n : Nat} {bs : List Int} {w : World} (h : SlB (.slice (some ⟨b, off, none⟩) len cap) bs w) (hlc : len ≤ cap) (hn : at' + n ≤ len) :
  ∃ A C, (∀ w, (Instr.slice 55 (.slice (some ⟨b, off, none⟩) len cap) (some (.int .i64 (at' : Int))) (some (.int .i64 ((at' + n : Nat) : Int))) none).run Tryz.prog w = .ok (.slice (some A) n C) w) ∧ SlB (.slice (some A) n C) ((bs.drop at').take n) w := by
 have hlen := h.len
 rcases Nat.eq_zero_or_pos n with rfl | hp
 ·have hz : ∀ w, (Instr.slice 55 (.slice (some ⟨b, off, none⟩) len cap) (some (.int .i64 (at' : Int))) (some (.int .i64 ((at' + 0 : Nat) : Int))) none).run Tryz.prog w = .ok (.slice (some (if cap - at' = 0 then ⟨b, off, none⟩ else ⟨b, off + at', none⟩)) 0 (cap - at')) w := by
   intro w; have ht' : Tryz.prog.underlying 55 = some (.slice (Tryz.prog.elem 55)) := by simp [Program.elem, Tryz.underlying55]
   have he : Tryz.prog.elem 55 = 5 := by simp [Program.elem, Tryz.underlying55]
   rw [run_slice_lh w 55 _ _ _ ht' .i64 .i64 _ _ (by omega) (by omega) (by omega), he, byte_sz]
   by_cases hc : cap = at'
   ·subst hc
    simp [Result.andThen, sliced]
   ·have hc2 : ¬ cap - at' = 0 := by omega
    by_cases h0 : at' = 0
    ·subst h0
     simp [Result.andThen, sliced, Addr.add, hc]
    ·simp [Result.andThen, sliced, Addr.add, hc, hc2, h0]
  exact ⟨_, _, hz, .inl ⟨by simp, _, _, rfl, fun h => by cases h⟩⟩
 ·have hw := fun w => Lib.run_slice_window (P := Tryz.prog) w 55 5 Tryz.underlying55 byte_sz b off len cap at' (at' + n) (by omega) (by omega)
  refine ⟨⟨b, off + at', none⟩, cap - at', fun w => ?_, ?_⟩
  ·rw [hw w]
   congr 2
   omega
  ·have hl2 : ((bs.drop at').take n).length = n := by simp; omega
   refine .inr ⟨b, off + at', cap - at', by omega, by rw [hl2], fun j hj => ?_⟩
   rw [hl2] at hj
   rcases h with ⟨rfl, _⟩ | ⟨b', off', cap', h0, hv, hc⟩
   ·simp at hlen; omega
   ·injection hv with h1 h2 h3
    injection h1 with h1
    injection h1 with h4 h5
    subst h4 h5; rw [Nat.add_assoc, hc (at' + j) (by omega)]
    simp [List.getD, List.getElem?_drop, hj]
def splitQ : Nat → List Int → Int → Nat → Int × List (Int × List Int)
 | 0, _, _, _ => (4, [])
 | f + 1, bs, last, k =>
  if bs.length = 0 then (0, [])
  else if bs.length < 3 then (2, [])
  else if bs.getD 0 0 ≤ last ∨ 200 < bs.getD 1 0 * 256 + bs.getD 2 0 ∨ k = 16 then (4, [])
  else if (bs.length : Int) - 3 < bs.getD 1 0 * 256 + bs.getD 2 0 then (2, [])
  else
   let r := splitQ f (bs.drop (3 + (bs.getD 1 0 * 256 + bs.getD 2 0).toNat)) (bs.getD 0 0) (k + 1)
   (r.1, (bs.getD 0 0, (bs.drop 3).take (bs.getD 1 0 * 256 + bs.getD 2 0).toNat) :: r.2)
theorem row_grows {w w' : World} {base n size : Nat} {e : TypeId} {v : Value} {xs : List Value} (hown : w.ownsRow base e size v n xs) (hgr : w.grownBy w' v.ownBlock) (b : Nat) (c : Array Value) (t : TypeId) (hb : w.heap[b]? = some (.cells c t (0, 0))) (ht : t ≠ e) :
  w'.heap[b]? = some (.cells c t (0, 0)) := by
 obtain ⟨-, hr⟩ := hown
 rcases hr with ⟨rfl, -⟩ | ⟨g, cap, cur, rfl, hg, hh, -⟩
 ·rw [hgr.block b (oZ hb) (by simp [Value.ownBlock])]; exact hb
 ·rw [hgr.block b (oZ hb) ?_]
  ·exact hb
  ·intro q; have : b = g := by simp [Value.ownBlock] at q; omega
   subst this; rw [hh] at hb; injection hb with hb
   injection hb with _ h2 _
   exact ht h2.symm
theorem own_grows {w w' : World} {base base' n m size : Nat} {e t : TypeId} {v d : Value} {xs ys : List Value} (hown : w.ownsRow base e size v n xs) (hgr : w.grownBy w' v.ownBlock) (hd : w.ownsRow base' t 1 d m ys) (ht : t ≠ e) : w'.ownsRow base' t 1 d m ys := by
 obtain ⟨h1, h2⟩ := hd; refine ⟨h1, ?_⟩
 rcases h2 with h2 | ⟨g, cap, cur, hv, hg, hh, r⟩
 ·exact Or.inl h2
 ·exact Or.inr ⟨g, cap, cur, hv, hg, row_grows hown hgr g cur t hh ht, r⟩
theorem rows_kp {w0 w w' : World} {n size : Nat} {e : TypeId} {v : Value} {xs : List Value} (hown : w.ownsRow w0.heap.size e size v n xs) (hgr : w.grownBy w' v.ownBlock) (hk : Kp w0 w) : Kp w0 w' := by
 obtain ⟨-, hr⟩ := hown
 rcases hr with ⟨rfl, -⟩ | ⟨g, cap, cur, rfl, hg, hh, -⟩
 ·exact Below.grown hk hgr (Below.size hk) (fun k hk' => by simp [Value.ownBlock] at hk')
 ·exact Below.grown hk hgr (Below.size hk) (fun k hk' => by simp [Value.ownBlock] at hk'; omega)
theorem own_empty2 (w : World) (e : TypeId) (size : Nat) : (w.alloc (.cells #[] e)).ownsRow w.heap.size e size (.slice (some ⟨w.heap.size, 0, none⟩) 0 0) 0 [] :=
 ⟨by simp, Or.inr ⟨w.heap.size, 0, #[], rfl, Nat.le_refl _, (mH w _), Nat.le_refl _, by omega, by simp, by simp⟩⟩
def cellQ (g : Int × List Int × Value) : List Value := [.int .i64 g.1, g.2.2]
def fldQ (g : Int × List Int × Value) : Int × List Int := (g.1, g.2.1)
theorem cellQ_at : ∀ (gs : List (Int × List Int × Value)) (j : Nat) (hj : j < gs.length), (gs.flatMap cellQ)[2 * j]? = some (.int .i64 gs[j].1) ∧ (gs.flatMap cellQ)[2 * j + 1]? = some gs[j].2.2
 | g :: gs, 0, _ => by simp [cellQ]
 | g :: gs, j + 1, hj => by
  have h := cellQ_at gs j (by simpa using hj); have e : 2 * (j + 1) = 2 * j + 2 := by omega
  have e2 : 2 * (j + 1) + 1 = 2 * j + 1 + 2 := by omega
  rw [e2, e]
  simpa [cellQ] using h
def OwnD (base : Nat) (gs : List (Int × List Int × Value)) (w : World) : Prop := ∀ g ∈ gs, w.ownsRow base 5 1 g.2.2 g.2.1.length (g.2.1.map (Value.int .u8)) ∧ InB g.2.1
theorem OwnD.kp {base : Nat} {gs : List (Int × List Int × Value)} {w w' : World} (h : OwnD base gs w) (hk : Kp w w') : OwnD base gs w' := fun g hg => ⟨oK (h g hg).1 hk, (h g hg).2⟩
theorem OwnD.grows {base b' n : Nat} {gs : List (Int × List Int × Value)} {w w' : World} {v : Value} {xs : List Value} (h : OwnD base gs w) (hown : w.ownsRow b' 122 2 v n xs) (hgr : w.grownBy w' v.ownBlock) : OwnD base gs w' :=
 fun g hg => ⟨own_grows hown hgr (h g hg).1 (by decide), (h g hg).2⟩
theorem own_slq {base base' n : Nat} {gs : List (Int × List Int × Value)} {w : World} {v : Value} (hn : gs.length = n) (h : w.ownsRow base 122 2 v n (gs.flatMap cellQ)) (hd : OwnD base' gs w) : SlQ v (gs.map fldQ) w := by
 subst hn; obtain ⟨h1, h2⟩ := h
 rcases h2 with ⟨rfl, hn⟩ | ⟨g, cap, cur, rfl, hg, hh, hc, hm, hs, ht⟩
 ·left
  have : gs = [] := List.length_eq_zero_iff.1 (by omega); subst this; exact ⟨rfl, none, 0, rfl, fun _ => rfl⟩
 ·by_cases h0 : gs.length = 0
  ·left
   have : gs = [] := List.length_eq_zero_iff.1 h0; subst this; exact ⟨rfl, _, cap, rfl, fun h => by cases h⟩
  ·right
   refine ⟨g, 0, cap, by simp; omega, by simp, fun j hj => ?_⟩
   have hj' : j < gs.length := by simpa using hj
   obtain ⟨q0, q1⟩ := cellQ_at gs j hj'; rw [← ht] at q0 q1; rw [List.getElem?_take, if_pos (by omega)] at q0 q1; obtain ⟨d1, d2⟩ := hd gs[j] (List.getElem_mem _); have hsl := own_slb d1; obtain ⟨a', c', he⟩ := hsl.form; refine ⟨?_, gs[j].2.2, ?_, a', c', ?_, ?_, ?_⟩
   ·unfold World.cell?; dsimp only; rw [hh]; simp only [Option.isSome_none, Bool.false_eq_true, if_false, Nat.zero_add, Nat.mul_comm j 2]
    simpa [fldQ] using q0
   ·unfold World.cell?; dsimp only; rw [hh]; simp only [Option.isSome_none, Bool.false_eq_true, if_false, Nat.zero_add, Nat.mul_comm j 2]
    simpa using q1
   ·simpa [fldQ] using he
   ·simp only [List.getElem_map, fldQ]
    rw [← he]; exact hsl
   ·simpa [fldQ] using d2
theorem info_fieldT : (Tryz.prog.info? 122).map (fun i => (i.zero, i.size, i.bytes)) = some (some (.agg #[.int .i64 0, .slice none 0 0]), 2, 32) := by kernel_rfl
theorem refSplit_any (a : Option Addr) (cap : Nat) (bs : List Int) (len : Nat) (hlen : bs.length = len) (hl : len ≤ 1000000) (hlc : len ≤ cap) (hb : InB bs) (w : World) (hs : SlB (.slice a len cap) bs w) :
  Calls Tryz.prog 52 #[.slice a len cap] w fun e w' => ∃ v, e = .returned (.tuple #[v, .int .i64 (splitQ 17 bs 0 0).1]) ∧ ((splitQ 17 bs 0 0).1 = 0 → SlQ v (splitQ 17 bs 0 0).2 w') ∧ ((splitQ 17 bs 0 0).1 ≠ 0 → v = .slice none 0 0) ∧ Kp w w' := by
 have hel : ∀ j (hj : j < bs.length), ∃ b off, a = some ⟨b, off, none⟩ ∧ w.cell? ⟨b, off + j, none⟩ = some (.int .u8 (bs.getD j 0)) := fun j hj => hs.at j hj
 have HEL := hD hel; have HL := hD hlen; have HB := hD hb; have HS := hD hs; have OW0 := hD (own_empty2 w 122 2); have HIB := hD (info_parts info_byte); have HIF := hD (info_parts info_fieldT); obtain ⟨RES, hres⟩ : ∃ RES, splitQ 17 bs 0 0 = RES := ⟨_, rfl⟩
 rw [hres]; have HRES := hD hres; clear hel hs hlen hb hres; go_enter Tryz.func52, Tryz.ntmps52; go_wp2; go_loopw [4, 5, 6] (fun v l i wr => ∃ (gs : List (Int × List Int × Value)) (at' : Nat) (last : Int), at' ≤ len ∧ gs.length ≤ 16 ∧ l = .int .i64 last ∧ i = .int .i64 at' ∧ Kp w wr ∧ wr.ownsRow w.heap.size 122 2 v gs.length (gs.flatMap cellQ) ∧ OwnD w.heap.size gs wr ∧ RES = ((splitQ (17 - gs.length) (bs.drop at') last gs.length).1, gs.map fldQ ++ (splitQ (17 - gs.length) (bs.drop at') last gs.length).2)) (fun _ _ i _ => len - (intOf i).toNat)
 case atStart => exact ⟨[], 0, 0, Nat.zero_le _, by simp, rfl, rfl, kA _ _, OW0.out, (fun g hg => by cases hg), by rw [← HRES.out]; rfl⟩
 case round =>
  obtain ⟨gs, at', last, hat, hg16, rfl, rfl, hk, hown, hod, hR⟩ := hrel; have HK := hD hk; have HOW := hD hown; have HOD := hD hod; have HLL := HL.out; obtain ⟨k, hk⟩ : ∃ k, gs.length = k := ⟨_, rfl⟩
  obtain ⟨cs, hcs⟩ : ∃ cs, bs.drop at' = cs := ⟨_, rfl⟩
  have hcl : cs.length = len - at' := by rw [← hcs, List.length_drop, HLL]
  have hf : 17 - gs.length = (16 - k) + 1 := by omega
  rw [hf, hk, hcs] at hR; rw [splitQ] at hR; obtain ⟨jj, hjj⟩ : ∃ jj : Int, (at' : Int) = jj := ⟨_, rfl⟩
  rw [hjj]; clear hown hod hf
  by_cases h0 : cs.length = 0
  ·rw [if_pos h0] at hR; have hex : ¬ jj < len := by omega
   have hq := hD (own_slq rfl HOW.out HOD.out); subst hR; clear hjj hcl h0 HEL; go_wp2; go_ret2
   exact ⟨_, rfl, hq.out, HK.out⟩
  ·rw [if_neg h0] at hR; have hlt : jj < len := by omega
   have hj0 : 0 ≤ jj := by omega
   by_cases h3 : cs.length < 3
   ·rw [if_pos h3] at hR; have h3' : (len : Int) - jj < 3 := by omega
    subst hR; clear hjj hcl h0 HEL; go_wp2; go_ret2
    first | exact ⟨⟨_, rfl, rfl⟩, HK.out⟩ | exact ⟨_, rfl, rfl, HK.out⟩
   ·rw [if_neg h3] at hR; have h3' : ¬ (len : Int) - jj < 3 := by omega
    obtain ⟨b, off, rfl, c0⟩ := HEL.out at' (by omega); obtain ⟨b1, off1, e1, c1⟩ := HEL.out (at' + 1) (by omega); obtain ⟨b2, off2, e2, c2⟩ := HEL.out (at' + 2) (by omega); injection e1 with e1
    injection e1 with e1 e3
    subst e1 e3; injection e2 with e2
    injection e2 with e2 e3
    subst e2 e3; have g0 : cs.getD 0 0 = bs.getD at' 0 := by rw [← hcs]; simp [List.getD, List.getElem?_drop]
    have g1 : cs.getD 1 0 = bs.getD (at' + 1) 0 := by rw [← hcs]; simp [List.getD, List.getElem?_drop]
    have g2 : cs.getD 2 0 = bs.getD (at' + 2) 0 := by rw [← hcs]; simp [List.getD, List.getElem?_drop]
    have gb : ∀ i, 0 ≤ bs.getD i 0 ∧ bs.getD i 0 < 256 := by
     intro i
     rcases Nat.lt_or_ge i bs.length with q | q
     ·have := HB.out bs[i] (List.getElem_mem _)
      simpa [List.getD, q] using this
     ·simp [List.getD, q]
    have r0 := gb at'; have r1 := gb (at' + 1); have r2 := gb (at' + 2); clear gb; have c0 := kZ HK.out c0; have c1 := kZ HK.out c1; have c2 := kZ HK.out c2; rw [g0, g1, g2] at hR; clear g0 g1 g2; obtain ⟨x0, hx0⟩ : ∃ x, bs.getD at' 0 = x := ⟨_, rfl⟩
    obtain ⟨x1, hx1⟩ : ∃ x, bs.getD (at' + 1) 0 = x := ⟨_, rfl⟩
    obtain ⟨x2, hx2⟩ : ∃ x, bs.getD (at' + 2) 0 = x := ⟨_, rfl⟩
    rw [hx0] at hR c0 r0; rw [hx1] at hR c1 r1; rw [hx2] at hR c2 r2; have p0 : (jj + 0).toNat = at' := by omega
    have p1 : (jj + 1).toNat = at' + 1 := by omega
    have p2 : (jj + 2).toNat = at' + 2 := by omega
    have pz : jj.toNat = at' := by omega
    rw [← pz] at c0; rw [← p1] at c1; rw [← p2] at c2; have l1 : jj + 1 < len := by omega
    have l2 : jj + 2 < len := by omega
    obtain ⟨n, hn⟩ : ∃ n : Int, x1 * 256 + x2 = n := ⟨_, rfl⟩
    rw [hn] at hR; have HJ := hD hjj; have HCL := hD hcl; have HCS := hD hcs; have HN := hD hn; have HK16 := hD hk; have HR := hD hR; obtain ⟨av, cv, hv⟩ := (own_slq rfl HOW.out HOD.out).form; rw [List.length_map, hk] at hv; subst hv; clear hx0 hx1 hx2 p0 p1 p2 pz hjj hcl hcs h0 h3 HEL hR; go_wp2; go_region
    by_cases q1 : x0 ≤ last
    ·have hR := HR.out; rw [if_pos (.inl q1)] at hR; subst hR; go_wp2; go_ret2
     first | exact ⟨⟨_, rfl, rfl⟩, HK.out.drew⟩ | exact ⟨_, rfl, rfl, HK.out.drew⟩
    by_cases q2 : 200 < n
    ·have hR := HR.out; rw [if_pos (.inr (.inl q2))] at hR; subst hR; have q1' : last < x0 := by omega
     go_wp2; go_ret2
     first | exact ⟨⟨_, rfl, rfl⟩, HK.out.drew⟩ | exact ⟨_, rfl, rfl, HK.out.drew⟩
    by_cases q3 : k = 16
    ·have hR := HR.out; rw [if_pos (.inr (.inr q3))] at hR; subst hR; subst q3; have q1' : last < x0 := by omega
     have q2' : n ≤ 200 := by omega
     go_wp2; go_ret2
     first | exact ⟨⟨_, rfl, rfl⟩, HK.out.drew⟩ | exact ⟨_, rfl, rfl, HK.out.drew⟩
    have hR := HR.out; rw [if_neg (by omega)] at hR; have q1' : last < x0 := by omega
    have q2' : n ≤ 200 := by omega
    have q3' : ((k : Int) == 16) = false := by simp; omega
    have hcl := HCL.out; have hjj := HJ.out
    by_cases q4 : (len : Int) - jj - 3 < n
    ·rw [if_pos (by omega)] at hR; subst hR; clear hcl hjj; go_wp2; go_ret2
     first | exact ⟨⟨_, rfl, rfl⟩, HK.out.drew⟩ | exact ⟨_, rfl, rfl, HK.out.drew⟩
    rw [if_neg (by omega)] at hR; have q5 : jj + 3 + n ≤ len := by omega
    have n0 : 0 ≤ n := by omega
    obtain ⟨A, C, hrun, hwin⟩ := slb_window (HS.out.kp HK.out) hlc (show (at' + 3) + n.toNat ≤ len by omega); have z1 : ((at' + 3 : Nat) : Int) = jj + 3 := by omega
    have z2 : ((at' + 3 + n.toNat : Nat) : Int) = jj + 3 + n := by omega
    rw [z1, z2] at hrun; have hdrop : (cs.drop 3).take n.toNat = (bs.drop (at' + 3)).take n.toNat := by rw [← HCS.out, List.drop_drop]
    have hwl : ((bs.drop (at' + 3)).take n.toNat).length = n.toNat := by have := HL.out; simp; omega
    obtain ⟨ws, hws⟩ : ∃ ws, (bs.drop (at' + 3)).take n.toNat = ws := ⟨_, rfl⟩
    rw [hws] at hwin hwl hdrop; have HWL := hD hwl; have hwb : InB ws := by
     intro x hx; rw [← hws] at hx; exact HB.out x (List.mem_of_mem_drop (List.mem_of_mem_take hx))
    have HWB := hD hwb; rw [hdrop] at hR; have HR2 := hD hR; have how := HOW.out; rw [hk] at how; have HOWK := hD how; have hod := HOD.out; have HODK := hD hod; have K1 := hD (Kp.refl wr).drew; have K2 := hD (kA wr.drew (.cells #[] 5)); have OWE := hD (own_empty2 wr.drew 5 1); have HWIN := hD (hwin.kp (kT K1.out K2.out)); have hk16 : k < 16 := by omega
    have hn2 : n.toNat ≤ 200 := by omega
    clear hcl hjj hR z1 z2 hwin hws how hod hdrop hwl hwb; go_wp2_with (at_builtin; refine wpList_append_slb _ rfl (.tmp 59) (.tmp 67) rfl wr.drew.heap.size _ _ _ rfl OWE.out A n.toNat C ws rfl HWIN.out ?d1 ?d2 ?_)
    case d1 => omega
    rintro v5 w5 hown5 hgr5 -; have kp5 : Kp wr w5 := kT K1.out (row_kp OWE.out hgr5 K2.out); obtain ⟨a5, c5, rfl⟩ := (own_slb hown5).form; rw [HWL.out] at hown5; have HWL2 := HWL.out; rw [HWL2]; have HO5 := hD hown5; have KP5 := hD kp5; have K6 := hD (kA w5 (.cells #[x0, .slice a5 n.toNat c5] 122)); have OW6 := hD (oK HOWK.out (kT kp5 (kA w5 (.cells #[x0, .slice a5 n.toNat c5] 122)))); have hb6 : (w5.alloc (.cells #[x0, .slice a5 n.toNat c5] 122)).heap[w5.heap.size]? = some (.cells #[x0, .slice a5 n.toNat c5] 122 (0, 0)) := (mH _ _)
    have HB6 := hD hb6; have HSZ := hD (Below.size (kT HK.out (kT kp5 (kA w5 (.cells #[x0, .slice a5 n.toNat c5] 122))))); obtain ⟨i0, hi, hz0, hz1, hz2⟩ := HIF.out; have HI := hD (And.intro hz1 hz2); have HI2 := hD hi; have HI3 := hD hz0; clear hown5 hgr5 kp5 HWL2 hb6 hi hz0 hz1 hz2; go_wp2_with (at_builtin; refine wpList_append_own _ rfl (.tmp 57) (.tmp 70) 118 rfl w.heap.size 122 i0 (.agg #[.int .i64 0, .slice none 0 0]) 2 32 Tryz.underlying118 HI2.out HI3.out HI.out.1 HI.out.2 rfl (by decide) _ _ _ rfl OW6.out ⟨w5.heap.size, 0, none⟩ 1 1 [.int .i64 x0, .slice a5 n.toNat c5] rfl ?c1 ?c2 ?c3 ?c4 ?c5 ?c6 ?_)
    case c1 => rfl
    case c2 =>
     intro i u hi; rw [add_plain]; unfold World.cell?; dsimp only; rw [HB6.out]; have hi3 : i < 2 := by
      rcases Nat.lt_or_ge i 2 with q | q
      ·exact q
      ·rw [List.getElem?_eq_none (by simpa using q)] at hi; cases hi
     match i, hi3, hi with
     | 0, _, hi | 1, _, hi => simpa using hi
    case c3 => intro u hu; simp at hu; rcases hu with rfl | rfl <;> rfl
    case c4 => unfold maxLen; omega
    case c5 => omega
    case c6 => exact HSZ.out
    rintro v6 w6 hown6 hgr6 -; have kp6 : Kp w w6 := rows_kp OW6.out hgr6 (kT HK.out (kT KP5.out K6.out)); have hgl : (gs ++ [(x0, ws, Value.slice a5 n.toNat c5)]).length = k + 1 := by simp [HK16.out]
    have od6 : OwnD w.heap.size (gs ++ [(x0, ws, Value.slice a5 n.toNat c5)]) w6 := by
     intro g hg
     rcases List.mem_append.1 hg with hg | hg
     ·exact ((HODK.out.kp (kT KP5.out K6.out)).grows OW6.out hgr6) g hg
     ·have : g = (x0, ws, Value.slice a5 n.toNat c5) := by simpa using hg
      subst this; refine ⟨?_, HWB.out⟩
      rw [HWL.out]; exact own_grows OW6.out hgr6 (oK (own_mono HO5.out (Below.size HK.out)) K6.out) (by decide)
    have own6 : w6.ownsRow w.heap.size 122 2 v6 (gs ++ [(x0, ws, Value.slice a5 n.toNat c5)]).length ((gs ++ [(x0, ws, Value.slice a5 n.toNat c5)]).flatMap cellQ) := by
     rw [hgl, List.flatMap_append]; exact hown6
    have O6 := hD own6; have D6 := hD od6; have KP6 := hD kp6; have HGL := hD hgl; clear own6 od6 kp6 hown6 hgr6 hgl; go_wp2; have hjj := HJ.out; go_roundw
    case rel =>
     have e1 : ((at' + (3 + n.toNat) : Nat) : Int) = jj + (3 + n) := by omega
     refine ⟨gs ++ [(x0, ws, Value.slice a5 n.toNat c5)], at' + (3 + n.toNat), x0, by omega, by rw [HGL.out]; omega, rfl, by rw [e1], KP6.out, O6.out, D6.out, ?_⟩
     have e2 : bs.drop (at' + (3 + n.toNat)) = cs.drop (3 + n.toNat) := by rw [← HCS.out, List.drop_drop]
     rw [HGL.out, HR2.out, e2, show 17 - (k + 1) = 16 - k by omega]
     simp [fldQ]
    case measure => simp [intOf]; omega
def rowF : Int → List Int → List (Int × List Int)
 | _, [] => []
 | i, n :: ns => if n = 0 then rowF (i + 1) ns else (i, beF 8 n.toNat) :: rowF (i + 1) ns
theorem splitQ_tags : ∀ (f : Nat) (bs : List Int) (last : Int) (k : Nat), InB bs → ∀ x ∈ (splitQ f bs last k).2, last < x.1 ∧ x.1 ≤ 255 ∧ x.2.length ≤ 200
 | 0, _, _, _, _, x, hx => by simp [splitQ] at hx
 | f + 1, bs, last, k, hb, x, hx => by
  rw [splitQ] at hx; have gb : ∀ i, 0 ≤ bs.getD i 0 ∧ bs.getD i 0 < 256 := by
   intro i
   rcases Nat.lt_or_ge i bs.length with q | q
   ·have := hb bs[i] (List.getElem_mem _)
    simpa [List.getD, q] using this
   ·simp [List.getD, q]
  have b0 := gb 0
  split at hx
  ·cases hx
  split at hx
  ·cases hx
  split at hx
  ·cases hx
  rename_i h3
  split at hx
  ·cases hx
  dsimp only at hx
  rcases List.mem_cons.1 hx with rfl | hx
  ·dsimp only; refine ⟨by omega, by omega, ?_⟩
   rw [List.length_take]; omega
  ·have ih := splitQ_tags f _ (bs.getD 0 0) (k + 1) (fun y hy => hb y (List.mem_of_mem_drop hy)) x hx; exact ⟨by omega, ih.2.1, ih.2.2⟩
theorem splitQ_len : ∀ (f : Nat) (bs : List Int) (last : Int) (k : Nat), (splitQ f bs last k).2.length ≤ f
 | 0, _, _, _ => by simp [splitQ]
 | f + 1, bs, last, k => by
  rw [splitQ]
  split
  ·simp
  split
  ·simp
  split
  ·simp
  split
  ·simp
  ·simp only [List.length_cons]
   exact Nat.succ_le_succ (splitQ_len f _ _ _)
theorem splitQ_num : ∀ (f : Nat) (bs : List Int) (last : Int) (k : Nat), (splitQ f bs last k).1 = 0 ∨ (splitQ f bs last k).1 = 2 ∨ (splitQ f bs last k).1 = 4
 | 0, _, _, _ => .inr (.inr rfl)
 | f + 1, bs, last, k => by
  rw [splitQ]
  split
  ·exact .inl rfl
  split
  ·exact .inr (.inl rfl)
  split
  ·exact .inr (.inr rfl)
  split
  ·exact .inr (.inl rfl)
  ·exact splitQ_num f _ _ _
open Go.RowKit Go.Extern.Stop Go.Stop Go.Extern
theorem isErrorE (v : Value) (w : World) : (Instr.typeAssert (.iface 240 v) 20 26 true).run Tryz.prog w = .ok (.tuple #[.iface 240 v, .bool true]) w := run_typeAssert_hasB Tryz.underlying26 (by kernel_rfl) v _ w
theorem is_door (w : World) :
  CallsD Tryz.prog 162 #[] .returning w fun e u' w' => e = .returned (.tuple #[]) ∧ u' = .returning ∧ w' = w := by
 refine callsD_of_wpS Tryz.func162 rfl fun c₀ cs hu => ?_
 apply wpS_region
 cases c₀
 simp_all [wpOpsS, go_sem, recoverD, Tryz.ntmps162, bodyPostS, results, Tryz.results162]
theorem cis_of {v t : Value} {b : Bool} {w : World} (h : Calls Tryz.prog 26 #[v, t] w fun e w' => e = .returned (.bool b) ∧ w = w') :
  Calls Tryz.prog 150 #[v, t] w fun e w' => e = .returned (.bool b) ∧ w = w' := by
 go_enter_defers Tryz.func150, Tryz.ntmps150
 go_wp2_with (go_at_call 26; (with_reducible refine h.mono ?_); rintro e w' ⟨rfl, rfl⟩)
 refine leaves_cons (f := 162) (args := #[]) (by simp) (by simp [go_sem]) ?_
 refine (is_door _).mono ?_
 rintro e u' w'' ⟨rfl, rfl, rfl⟩
 simp [Leaves, settle, results, Tryz.results150, go_sem]
end Go.Proofs.YtpemeenfhkgmpaaGreatDoor
