/- Parts of this proof (own work). -/
import Derived.Test.YtpemeenfhkgmpaaGreatDoorZr03
import Derived.Defers
set_option maxRecDepth 100000
set_option maxHeartbeats 40000000
namespace Go.Proofs.YtpemeenfhkgmpaaGreatDoor
open Go.RowKit
theorem refBits_any (b : Nat) (w : World) (hb : b < 18446744073709551616) :
  Calls Tryz.prog 44 #[.float .f64 b] w fun e w' => e = .returned (.int .u64 (Fl.plain b)) ∧ w = w' := by
 cases hn : Fl.isNan b
 ·obtain ⟨n, hbn⟩ : ∃ n : Int, (b : Int) = n := ⟨_, rfl⟩
  have HB := hD hb; have HN := hD hbn; have R : ∀ w, Calls Tryz.prog 77 #[.float .f64 b] w fun e w' => e = .returned (.int .u64 n) ∧ w = w' := by
   intro w; rw [← hbn]; exact raw_any b w
  cases ht : (n == 9223372036854775808)
  ·clear hb hbn; go_enter Tryz.func44, Tryz.ntmps44; go_wp2_with (first | (go_at_call 80; (with_reducible refine (refNaN_f _ _ HB.out hn).mono ?_); rintro e w' ⟨rfl, rfl⟩) | (go_at_call 77; (with_reducible refine (R _).mono ?_); rintro e w' ⟨rfl, rfl⟩))
   go_ret; exact ⟨u64_ret (by (have := HN.out; have hz : n ≠ 9223372036854775808 := by simpa using ht); unfold Fl.plain; rw [hn, if_neg (by simp), if_neg (by omega)]; omega), rfl⟩
  ·clear hb hbn; go_enter Tryz.func44, Tryz.ntmps44; go_wp2_with (first | (go_at_call 80; (with_reducible refine (refNaN_f _ _ HB.out hn).mono ?_); rintro e w' ⟨rfl, rfl⟩) | (go_at_call 77; (with_reducible refine (R _).mono ?_); rintro e w' ⟨rfl, rfl⟩))
   go_ret; exact ⟨u64_ret (by (have := HN.out; have hz : n = 9223372036854775808 := by simpa using ht); unfold Fl.plain; rw [hn, if_neg (by simp), if_pos (by omega)]; rfl), rfl⟩
 ·go_enter Tryz.func44, Tryz.ntmps44; go_wp2_with (go_at_call 80; (with_reducible refine (refNaN_t _ _ hb hn).mono ?_); rintro e w' ⟨rfl, rfl⟩)
  go_ret; exact ⟨u64_ret (by unfold Fl.plain; rw [if_pos hn]; rfl), rfl⟩
theorem refDelay_any (b : Nat) (w : World) (hb : b < 18446744073709551616) :
  Calls Tryz.prog 121 #[.float .f64 b] w fun e w' => e = .returned (.bool (Fl.dl b)) ∧ w = w' := by
 cases hn : Fl.isNan b
 ·obtain ⟨n, hbn⟩ : ∃ n : Int, (b : Int) = n := ⟨_, rfl⟩
  have HB := hD hb; have HN := hD hbn; have R : ∀ w, Calls Tryz.prog 77 #[.float .f64 b] w fun e w' => e = .returned (.int .u64 n) ∧ w = w' := by
   intro w; rw [← hbn]; exact raw_any b w
  have D : Fl.dl b = decide (n ≤ 9223372036854775808) := by
   unfold Fl.dl; rw [hn, Bool.eq_iff_iff]; simp; omega
  rw [D]
  by_cases hs : n < 9223372036854775808
  ·clear hb hbn; go_enter Tryz.func121, Tryz.ntmps121; go_wp2_with (first | (go_at_call 80; (with_reducible refine (refNaN_f _ _ HB.out hn).mono ?_); rintro e w' ⟨rfl, rfl⟩) | (go_at_call 77; (with_reducible refine (R _).mono ?_); rintro e w' ⟨rfl, rfl⟩))
   go_ret; exact ⟨bool_ret (by simp; omega), rfl⟩
  ·cases ht : (n == 9223372036854775808)
   ·clear hb hbn; go_enter Tryz.func121, Tryz.ntmps121; go_wp2_with (first | (go_at_call 80; (with_reducible refine (refNaN_f _ _ HB.out hn).mono ?_); rintro e w' ⟨rfl, rfl⟩) | (go_at_call 77; (with_reducible refine (R _).mono ?_); rintro e w' ⟨rfl, rfl⟩))
    go_ret; exact ⟨bool_ret (by (have hz : n ≠ 9223372036854775808 := by simpa using ht); rw [Bool.eq_iff_iff]; simp; omega), rfl⟩
   ·clear hb hbn; go_enter Tryz.func121, Tryz.ntmps121; go_wp2_with (first | (go_at_call 80; (with_reducible refine (refNaN_f _ _ HB.out hn).mono ?_); rintro e w' ⟨rfl, rfl⟩) | (go_at_call 77; (with_reducible refine (R _).mono ?_); rintro e w' ⟨rfl, rfl⟩))
    go_ret; exact ⟨bool_ret (by (have hz : n = 9223372036854775808 := by simpa using ht); rw [Bool.eq_iff_iff]; simp; omega), rfl⟩
 ·have D : Fl.dl b = false := by unfold Fl.dl; rw [hn]; rfl
  rw [D]; go_enter Tryz.func121, Tryz.ntmps121; go_wp2_with (go_at_call 80; (with_reducible refine (refNaN_t _ _ hb hn).mono ?_); rintro e w' ⟨rfl, rfl⟩)
  go_ret; exact ⟨rfl, rfl⟩
theorem delay_ok (b : Nat) (w : World) (h : Fl.dl b = true) :
  Calls Tryz.prog 164 #[.float .f64 b] w fun e w' => e = .returned (.tuple #[.float .f64 (Fl.plain b), .nilIface]) ∧ w = w' := by
 have H := hD h; clear h; go_enter Tryz.func164, Tryz.ntmps164; go_wp2_with (first | (go_at_call 170; (with_reducible refine (isDelay_t b _ (Fl.dl_lt H.out) H.out).mono ?_); rintro e w' ⟨rfl, rfl⟩) | (go_at_call 141; (with_reducible refine (plain_any b _ (Fl.dl_lt H.out)).mono ?_); rintro e w' ⟨rfl, rfl⟩))
 go_ret2
 exact ⟨rfl, rfl⟩
theorem delay_err (b : Nat) (v : Value) (w : World) (hb : b < 18446744073709551616) (h : Fl.dl b = false) (hc : w.cell? ⟨3, 0, none⟩ = some v) :
  Calls Tryz.prog 164 #[.float .f64 b] w fun e w' => e = .returned (.tuple #[.float .f64 0, v]) ∧ Kp w w' := by
 have H := hD h; clear h; go_enter Tryz.func164, Tryz.ntmps164; go_wp2_with (first | (go_at_call 170; (with_reducible refine (isDelay_f b _ hb H.out).mono ?_); rintro e w' ⟨rfl, rfl⟩))
 go_region
 all_goals go_wp2
 all_goals go_ret2
 all_goals exact ⟨rfl, (Kp.refl _).drew⟩
theorem bits_any (b : Nat) (w : World) (hb : b < 18446744073709551616) :
  Calls Tryz.prog 98 #[.float .f64 b] w fun e w' => e = .returned (.int .u64 (Fl.plain b)) ∧ w = w' := by
 have e1 := ext_bits; go_enter Tryz.func98, Tryz.ntmps98; go_wp2_with (go_at_call 141; (with_reducible refine (plain_any _ _ hb).mono ?_); rintro e w' ⟨rfl, rfl⟩)
 go_ret; exact ⟨rfl, rfl⟩
open Go.RowKit Go.ChangeShapes Go.WideShapes
def fb (n i : Nat) : Int := ((n / 256 ^ i % 256 : Nat) : Int)
def f8 (n : Nat) : List Int := [fb n 7, fb n 6, fb n 5, fb n 4, fb n 3, fb n 2, fb n 1, fb n 0]
def toFl (bs : List Int) : Nat × Int := if bs.length = 8 ∧ Fl.plain (beNum bs).toNat = (beNum bs).toNat then ((beNum bs).toNat, 0) else (0, 4)
theorem refToFloat_any (a : Option Addr) (cap : Nat) (bs : List Int) (len : Nat) (hlen : bs.length = len) (hl : len ≤ 100000) (hb : InB bs) (w : World) (hs : SlB (.slice a len cap) bs w) :
  Calls Tryz.prog 53 #[.slice a len cap] w fun e w' => e = .returned (.tuple #[.float .f64 (toFl bs).1, .int .i64 (toFl bs).2]) ∧ w = w' := by
 by_cases h8 : len = 8
 ·subst h8; have hel : ∀ j (hj : j < bs.length), ∃ b off, a = some ⟨b, off, none⟩ ∧ w.cell? ⟨b, off + j, none⟩ = some (.int .u8 (bs.getD j 0)) := fun j hj => hs.at j hj
  have hr := beNum_range hb; have hn := fun j (h : j < bs.length) => beNum_next h
  obtain ⟨F, hF⟩ : ∃ F, beNum bs = F := ⟨_, rfl⟩
  have hF64 : 0 ≤ F ∧ F < 18446744073709551616 := by
   have h := hr bs.length (Nat.le_refl _); rw [List.take_length, hF] at h; have hp8 : (256 : Int) ^ bs.length ≤ 256 ^ 8 := p256_le (by omega); have e8 : (256 : Int) ^ 8 = 18446744073709551616 := by decide
   omega
  obtain ⟨N, hN⟩ : ∃ N, F.toNat = N := ⟨_, rfl⟩
  have hN64 : N < 18446744073709551616 := by omega
  obtain ⟨PP, hPP⟩ : ∃ PP : Int, ((Fl.plain N : Nat) : Int) = PP := ⟨_, rfl⟩
  have RB : ∀ w, Calls Tryz.prog 44 #[.float .f64 N] w fun e w' => e = .returned (.int .u64 PP) ∧ w = w' := by
   intro w; rw [← hPP]; exact refBits_any N w hN64
  have hret : toFl bs = if PP = F then (N, 0) else (0, 4) := by
   unfold toFl; rw [hF, hN]
   by_cases q : PP = F
   ·rw [if_pos q, if_pos ⟨hlen, by omega⟩]
   ·rw [if_neg q, if_neg (fun h => q (by have := h.2; omega))]
  obtain ⟨ret, hr2⟩ : ∃ ret, toFl bs = ret := ⟨_, rfl⟩
  rw [hr2] at hret ⊢; have e1 : ∀ w, (callFunc 99 #[.int .u64 F]).run Tryz.prog w = .ok (.value (.float .f64 N)) w := by
   intro w; rw [← hN]; exact ext_fromI F w
  have HEL := hD hel; have HR := hD hr; have HNX := hD hn; have HB := hD hb; have HF := hD hF; have HL := hD hlen; have HRET := hD hret; have HRB := hD RB; clear hel hs hr hn hb hF hlen hN hN64 hPP RB hret hr2; go_enter Tryz.func53, Tryz.ntmps53; go_wp2; go_loop [4, 13] (fun u i => ∃ j : Nat, j ≤ 8 ∧ i = .int .i64 j ∧ u = .int .u64 (beNum (bs.take j))) (fun _ i => 8 - (intOf i).toNat)
  case atStart => exact ⟨0, Nat.zero_le _, rfl, rfl⟩
  case round =>
   obtain ⟨j, hj, rfl, rfl⟩ := hrel; obtain ⟨jj, hjj⟩ : ∃ jj : Int, (j : Int) = jj := ⟨_, rfl⟩
   obtain ⟨uu, huu⟩ : ∃ uu, beNum (bs.take j) = uu := ⟨_, rfl⟩
   rw [hjj, huu]; have hl := HL.out
   by_cases hlt : j < 8
   ·have hjl : j < bs.length := by omega
    obtain ⟨b2, off2, rfl, hc2⟩ := HEL.out j hjl; have hnx := HNX.out j hjl; have hbb := HB.out bs[j] (List.getElem_mem _); have hru := HR.out j (by omega); obtain ⟨y, hy⟩ : ∃ y, bs[j] = y := ⟨_, rfl⟩
    have hy2 : bs.getD j 0 = y := by simp [List.getD, hjl, hy]
    rw [hy2] at hc2; rw [hy] at hnx hbb; rw [huu] at hnx hru; have hp7 : (256 : Int) ^ j ≤ 256 ^ 7 := p256_le (by omega); have e7 : (256 : Int) ^ 7 = 72057594037927936 := by decide
    have hub : 0 ≤ uu ∧ uu < 72057594037927936 := by omega
    have ej : jj.toNat = j := by omega
    rw [← ej] at hc2; have hj0 : 0 ≤ jj := by omega
    have hltj : jj < 8 := by omega
    have HJ := hD hjj; have HNXT := hD hnx; clear hjj huu hnx hru hp7 e7 hy hy2 ej hlt hjl hl; go_wp2; have hjj := HJ.out; go_round
    case rel =>
     refine ⟨j + 1, by omega, by congr 1; omega, ?_⟩
     rw [HNXT.out]
    case measure => simp [intOf]; omega
   ·obtain rfl : j = 8 := by omega
    have hex : ¬ jj < 8 := by omega
    have hful : bs.take 8 = bs := by rw [List.take_of_length_le]; omega
    rw [hful, HF.out] at huu; subst huu; clear hful hl
    by_cases hq : PP = F
    ·obtain rfl : ret = (N, 0) := by rw [HRET.out, if_pos hq]
     have hb : (PP != F) = false := by simp; exact hq
     clear hq; go_wp2_with (go_at_call 44; (with_reducible refine (HRB.out _).mono ?_); rintro e w' ⟨rfl, rfl⟩)
     go_ret2
     exact ⟨rfl, rfl⟩
    ·obtain rfl : ret = (0, 4) := by rw [HRET.out, if_neg hq]
     have hb : (PP != F) = true := by simp; exact hq
     go_wp2_with (go_at_call 44; (with_reducible refine (HRB.out _).mono ?_); rintro e w' ⟨rfl, rfl⟩)
     go_ret2
     exact ⟨rfl, rfl⟩
 ·have e : toFl bs = (0, 4) := by unfold toFl; rw [if_neg (fun h => h8 (by omega))]
  rw [e]; obtain ⟨ll, hll⟩ : ∃ ll : Int, (len : Int) = ll := ⟨_, rfl⟩
  have hne : (ll != 8) = true := by simp; omega
  clear e hs hb; go_enter Tryz.func53, Tryz.ntmps53; go_wp2; go_ret2
  exact ⟨rfl, rfl⟩
open Go.RowKit Go.Extern.Stop Go.Stop Go.Extern
def Past (B : Nat) (w w' : World) : Prop := w.heap.size ≤ w'.heap.size ∧ ∀ b, B ≤ b → b < w.heap.size → w'.heap[b]? = w.heap[b]?
def Aside (B : Nat) (w w' : World) : Prop := w.heap.size ≤ w'.heap.size ∧ ∀ b, b ≠ B → b ≠ B + 1 → w'.heap[b]? = w.heap[b]?
theorem Aside.below {B : Nat} {w w' : World} (h : Below B w w') (hs : ∀ b, b ≠ B → b ≠ B + 1 → w'.heap[b]? = w.heap[b]?) : Aside B w w' := ⟨h.size, hs⟩
theorem past_of {w0 w w' : World} (h : Kp w w') : Past w0.heap.size w w' := ⟨Below.size h, fun b _ hb => Below.block h b hb⟩
def Mid (w : World) (G : World → World → Prop) (w' : World) : Prop := ∃ w1 w2, Below w.heap.size w w1 ∧ w1.heap.size = w.heap.size + 2 ∧ G w1 w2 ∧ Below w.heap.size w2 w'
theorem own_aside {w w' : World} {B base : Nat} {e : TypeId} {size n : Nat} {v : Value} {xs : List Value} (h : w.ownsRow base e size v n xs) (ha : Aside B w w') (hb : B + 2 ≤ base) : w'.ownsRow base e size v n xs := by
 obtain ⟨h1, h2⟩ := h; refine ⟨h1, ?_⟩
 rcases h2 with h2 | ⟨g, cap, cur, hv, hg, hh, r⟩
 ·exact Or.inl h2
 ·exact Or.inr ⟨g, cap, cur, hv, hg, by rw [ha.2 g (by omega) (by omega)]; exact hh, r⟩
theorem try_new0 (w : World) (o o' : Obj) : ((w.alloc o).alloc o').heap[w.heap.size]? = some o := by
 rw [Below.heap_alloc _ _ _ (by simp)]; exact (mH w o)
theorem try_new1 (w : World) (o o' : Obj) : ((w.alloc o).alloc o').heap[w.heap.size + 1]? = some o' := by
 have := (mH (w.alloc o) o')
 simpa using this
theorem hsO (w : World) (q : Addr) (v : Value) (b : Nat) (h : b ≠ q.block) : (w.setCell q v).heap[b]? = w.heap[b]? := bS w q v b h
end Go.Proofs.YtpemeenfhkgmpaaGreatDoor
