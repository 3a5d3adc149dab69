/-
  THE LAWS' alive AND big (own work).
-/
import Derived.Test.YtfealdllicicnaaDoorJoinG
import Derived.Test.YtfealdllicicnaaDoorNumF
import Derived.Lib.SlBytesConst
namespace Go.Proofs.YtfealdllicicnaaDoor
open Go.RowKit Go.ChangeShapes Go.WideShapes

/-- IS A ROW MORE THAN IS ASKED? -/
theorem big_long (a : Option Addr) (cap len : Nat) (hl : 40 < len) (w : World) :
    Calls Tryd.prog 10 #[.slice a len cap] w fun e w' => e = .returned (.bool true) ∧ Kp w w' := by
  obtain ⟨ll, hll⟩ : ∃ ll : Int, (len : Int) = ll := ⟨_, rfl⟩
  have h : ll > 40 := by omega
  go_enter Tryd.func10, Tryd.ntmps10
  go_wp2
  go_ret
  exact ⟨rfl, Kp.refl _⟩

def wideQ (fs : List (Int × List Int)) : Bool := fs.any fun f => decide (400 < f.2.length)

set_option maxRecDepth 20000 in
theorem big_any (a : Option Addr) (cap : Nat) (fs : List (Int × List Int)) (len : Nat) (hlen : fs.length = len) (hl : len ≤ 40) (w : World) (hs : SlQ (.slice a len cap) fs w) :
    Calls Tryd.prog 10 #[.slice a len cap] w fun e w' => e = .returned (.bool (wideQ fs)) ∧ Kp w w' := by
  have hel : ∀ wr, Kp w wr → ∀ j (hj : j < fs.length), ∃ b off, a = some ⟨b, off, none⟩ ∧ wr.cell? ⟨b, off + j * 2, none⟩ = some (.int .i64 fs[j].1) ∧ ∃ a' c, wr.cell? ⟨b, off + j * 2 + 1, none⟩ = some (.slice a' fs[j].2.length c) ∧ SlB (.slice a' fs[j].2.length c) fs[j].2 wr ∧ InB fs[j].2 :=
    fun wr hk j hj => (hs.kp hk).at j hj
  have HEL := Lib.hid hel
  have HL := Lib.hid hlen
  obtain ⟨R, hR⟩ : ∃ R, wideQ fs = R := ⟨_, rfl⟩
  rw [hR]
  have HR := Lib.hid hR
  obtain ⟨ll, hll⟩ : ∃ ll : Int, (len : Int) = ll := ⟨_, rfl⟩
  have hl40 : ¬ ll > 40 := by omega
  clear hel hs hlen hR
  go_enter Tryd.func10, Tryd.ntmps10
  go_wp2
  go_loopw [10] (fun i wr => ∃ j : Nat, j ≤ len ∧ i = .int .i64 j ∧ Kp w wr ∧ R = (fs.drop j).any fun f => decide (400 < f.2.length)) (fun i _ => len - (intOf i).toNat)
  case atStart => exact ⟨0, Nat.zero_le _, rfl, Kp.refl _, by rw [← HR.out]; rfl⟩
  case round =>
    obtain ⟨j, hj, rfl, hk, hRj⟩ := hrel
    have HK := Lib.hid hk
    have hln := HL.out
    clear hk
    obtain ⟨jj, hjj⟩ : ∃ jj : Int, (j : Int) = jj := ⟨_, rfl⟩
    rw [hjj]
    by_cases hlt : j < len
    · have hjl : j < fs.length := by omega
      obtain ⟨b, off, rfl, c0, a1, k1, c1, -, -⟩ := HEL.out wr HK.out j hjl
      rw [List.drop_eq_getElem_cons hjl, List.any_cons] at hRj
      obtain ⟨tj, htj⟩ : ∃ tj, fs[j].1 = tj := ⟨_, rfl⟩
      obtain ⟨n1, hn1⟩ : ∃ n1, fs[j].2.length = n1 := ⟨_, rfl⟩
      rw [htj] at c0
      rw [hn1] at c1 hRj
      obtain ⟨m1, hm1⟩ : ∃ m1 : Int, (n1 : Int) = m1 := ⟨_, rfl⟩
      have ej : jj.toNat = j := by omega
      rw [← ej] at c0 c1
      have hj0 : 0 ≤ jj := by omega
      have hltj : jj < ll := by omega
      have HJ := Lib.hid hjj
      by_cases hg : 400 < n1
      · have hgt : m1 > 400 := by omega
        rw [decide_eq_true hg, Bool.true_or] at hRj
        subst hRj
        clear hjj ej htj hn1 hlt hg hln
        go_wp2
        go_ret
        exact ⟨rfl, Kp.trans HK.out (kp_alloc _ _)⟩
      · have hgt : ¬ m1 > 400 := by omega
        rw [decide_eq_false hg, Bool.false_or] at hRj
        have HRJ := Lib.hid hRj
        clear hjj ej htj hn1 hRj hlt hg hln
        go_wp2
        have hjj := HJ.out
        go_roundw
        case rel => exact ⟨j + 1, by omega, by congr 1; omega, Kp.trans HK.out (kp_alloc _ _), HRJ.out⟩
        case measure => simp [intOf]; omega
    · obtain rfl : j = len := by omega
      have hex : ¬ jj < ll := by omega
      have hdr : fs.drop j = [] := by rw [List.drop_of_length_le]; omega
      rw [hdr] at hRj
      subst hRj
      clear hjj hdr hln hlt
      go_wp2
      go_ret
      exact ⟨rfl, HK.out⟩

set_option maxRecDepth 20000 in
theorem alive_any (ads : List Addr) (w : World) (V : St ads w) : Calls Tryd.prog 9 #[] w fun e w' => e = .returned (.bool true) ∧ Kp w w' := by
  have k1 := kp_alloc w (.cells #[.int .u8 97, .int .u8 98] 5 (2, 3))
  have k2 := kp_alloc (w.alloc (.cells #[.int .u8 97, .int .u8 98] 5 (2, 3))) (.cells #[.int .i64 1, .slice (some ⟨w.heap.size, 0, none⟩) 2 2] 63)
  have b1 := kp_row k2 (MapKept.heap_alloc w (.cells #[.int .u8 97, .int .u8 98] 5 (2, 3))).1
  have b2 := (MapKept.heap_alloc (w.alloc (.cells #[.int .u8 97, .int .u8 98] 5 (2, 3))) (.cells #[.int .i64 1, .slice (some ⟨w.heap.size, 0, none⟩) 2 2] 63)).1
  have hsz : (w.alloc (.cells #[.int .u8 97, .int .u8 98] 5 (2, 3))).heap.size = w.heap.size + 1 := by simp
  rw [hsz] at b2
  obtain ⟨w0, hw0⟩ : ∃ w0, (w.alloc (.cells #[.int .u8 97, .int .u8 98] 5 (2, 3))).alloc (.cells #[.int .i64 1, .slice (some ⟨w.heap.size, 0, none⟩) 2 2] 63) = w0 := ⟨_, rfl⟩
  have kw : Kp w w0 := by rw [← hw0]; exact Kp.trans k1 k2
  rw [hw0] at b1 b2
  have hq : SlQ (.slice (some ⟨w.heap.size + 1, 0, none⟩) 1 1) [(1, [97, 98])] w0 := by
    refine .inr ⟨w.heap.size + 1, 0, 1, by simp, rfl, fun j hj => ?_⟩
    have hj0 : j = 0 := by simp at hj; omega
    subst hj0
    refine ⟨cell_two0 b2, _, cell_two1 b2, some ⟨w.heap.size, 0, none⟩, 2, rfl, .inr ⟨w.heap.size, 0, 2, by simp, rfl, fun i hi => ?_⟩, ?_⟩
    · have hi2 : i < 2 := hi
      match i, hi2 with
      | 0, _ => exact cell_two0 b1
      | 1, _ => exact cell_two1 b1
    · intro x hx; simp at hx; omega
  have HJ := join_ok ads (some ⟨w.heap.size + 1, 0, none⟩) 1 [(1, [97, 98])] 1 rfl (by omega) w0 (V.below kw) hq (by decide)
  have HJO := Lib.hid HJ
  have KW := Lib.hid kw
  have HV := Lib.hid V
  have HN := Lib.hid (fun w1 (hk : Kp w w1) => number_any ads 258 (by decide) 258 rfl w1 (V.below hk))
  have HW0 := Lib.hid hw0
  have hcs := fun (w : World) (C : Array Value) (n c : Nat) => Lib.run_convert_bytes_const (P := Tryd.prog) w 25 5 C n c Tryd.underlying25 Tryd.underlying5
  have e1 : strOfNums (joinB [(1, [97, 98])]) = ⟨#[1, 0, 2, 97, 98]⟩ := by decide
  have e2 : strOfNums (beF 8 258) = ⟨#[1, 2]⟩ := by decide
  have E1 := Lib.hid e1
  have E2 := Lib.hid e2
  clear k1 k2 b1 b2 hsz kw hq HJ V hw0 e1 e2
  go_enter Tryd.func9, Tryd.ntmps9
  go_wp2_with (first | (go_at_call 13; rw [HW0.out]; (with_reducible refine HJO.out.mono ?_); rintro e w1 ⟨v1, rfl, ho1, hk1⟩; have K1 := Lib.hid (Kp.trans KW.out hk1); have s1 := own_slb ho1; have hnn := Lib.hid (HN.out _ K1.out); clear ho1 hk1) | (go_at_call 22; (with_reducible refine hnn.out.mono ?_); rintro e w2 ⟨v2, rfl, ho2, hk2⟩; have cv1 := conv_slb (s1.kp hk2); rw [E1.out] at cv1; have cv2 := conv_slb (own_slb ho2); rw [E2.out] at cv2; have K2 := Lib.hid (Kp.trans K1.out hk2); clear ho2 hk2))
  go_ret
  exact ⟨rfl, K2.out⟩
end Go.Proofs.YtfealdllicicnaaDoor
