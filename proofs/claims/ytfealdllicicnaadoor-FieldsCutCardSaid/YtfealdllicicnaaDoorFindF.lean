/-
  fields.Find (own work).
-/
import Derived.Test.YtfealdllicicnaaDoorRefQ
import Derived.Test.YtfealdllicicnaaDoorVal
namespace Go.Proofs.YtfealdllicicnaaDoor
open Go.RowKit Go.ChangeShapes Go.WideShapes

set_option maxRecDepth 20000 in
theorem find_any (a : Option Addr) (cap : Nat) (fs : List (Int × List Int)) (len : Nat) (hlen : fs.length = len) (hl : len ≤ 100000) (tag : Int) (w : World) (hd : ∀ f ∈ fs, f.2.length ≤ 400) (hs : SlQ (.slice a len cap) fs w) :
    Calls Tryd.prog 11 #[.slice a len cap, .int .i64 tag] w fun e w' => FindP fs tag e w' ∧ Kp w w' := by
  have hel : ∀ wr, Kp w wr → ∀ j (hj : j < fs.length), ∃ b off, a = some ⟨b, off, none⟩ ∧ wr.cell? ⟨b, off + j * 2, none⟩ = some (.int .i64 fs[j].1) ∧ ∃ a' c, wr.cell? ⟨b, off + j * 2 + 1, none⟩ = some (.slice a' fs[j].2.length c) ∧ SlB (.slice a' fs[j].2.length c) fs[j].2 wr ∧ InB fs[j].2 :=
    fun wr hk j hj => (hs.kp hk).at j hj
  have HEL := Lib.hid hel
  have HL := Lib.hid hlen
  have HDL := Lib.hid hd
  clear hel hs hlen hd
  go_enter Tryd.func11, Tryd.ntmps11
  go_wp2
  go_loopw [10] (fun i wr => ∃ j : Nat, j ≤ len ∧ i = .int .i64 j ∧ Kp w wr ∧ ∀ i (hi : i < j) (hi' : i < fs.length), fs[i].1 ≠ tag) (fun i _ => len - (intOf i).toNat)
  case atStart => exact ⟨0, Nat.zero_le _, rfl, Kp.refl _, fun i hi => absurd hi (by omega)⟩
  case round =>
    obtain ⟨j, hj, rfl, hk, hz⟩ := hrel
    have HK := Lib.hid hk
    have HZ := Lib.hid hz
    have hln := HL.out
    clear hk hz
    obtain ⟨jj, hjj⟩ : ∃ jj : Int, (j : Int) = jj := ⟨_, rfl⟩
    rw [hjj]
    by_cases hlt : j < len
    · have hjl : j < fs.length := by omega
      obtain ⟨b, off, rfl, c0, a1, k1, c1, h1, h2⟩ := HEL.out wr HK.out j hjl
      obtain ⟨tj, htj⟩ : ∃ tj, fs[j].1 = tj := ⟨_, rfl⟩
      obtain ⟨n1, hn1⟩ : ∃ n1, fs[j].2.length = n1 := ⟨_, rfl⟩
      have hd : DatB (.slice a1 n1 k1) fs[j].2 wr := ⟨a1, k1, by rw [hn1], h1, h2⟩
      rw [htj] at c0
      rw [hn1] at c1
      have ej : jj.toNat = j := by omega
      rw [← ej] at c0 c1
      have hj0 : 0 ≤ jj := by omega
      have hltj : jj < len := by omega
      have HJ := Lib.hid hjj
      have HD := Lib.hid hd
      have HT := Lib.hid htj
      clear hjj ej htj hn1 h1 h2 hd hln hlt
      by_cases ht : tj = tag
      · subst ht
        obtain ⟨a2, k2, hv2, hs2, hb2⟩ := HD.out
        have HCL := Lib.hid (clone_any (.slice a1 n1 k1) fs[j].2 (by have := HDL.out fs[j] (List.getElem_mem _); omega) (wr.alloc (.cells #[.int .i64 tj, .slice a1 n1 k1] 63)) (by rw [hv2]; exact hs2.kp (kp_alloc _ _)))
        have HB2 := Lib.hid hb2
        clear hv2 hs2 hb2
        go_wp2_with (go_at_call 34; (with_reducible refine HCL.out.mono ?_); rintro e wC ⟨v5, rfl, ho5, hk5⟩; have HO5 := Lib.hid (own_slb ho5); have K5 := Lib.hid hk5; clear ho5 hk5)
        go_ret2
        refine ⟨?_, Kp.trans HK.out (Kp.trans (kp_alloc _ _) K5.out)⟩
        unfold FindP
        rw [find_hit _ fs j hjl HZ.out HT.out]
        obtain ⟨a5, c5, h5⟩ := HO5.out.form
        exact ⟨_, rfl, a5, c5, h5, h5 ▸ HO5.out, HB2.out⟩
      · have htb : (tj == tag) = false := by simp; exact ht
        go_wp2
        have hjj := HJ.out
        go_roundw
        case rel =>
          refine ⟨j + 1, by omega, by congr 1; omega, Kp.trans HK.out (kp_alloc _ _), fun i hi hi' => ?_⟩
          by_cases e : i = j
          · subst e; rw [HT.out]; exact ht
          · exact HZ.out i (by omega) hi'
        case measure => simp [intOf]; omega
    · obtain rfl : j = len := by omega
      have hex : ¬ jj < j := by omega
      clear hjj
      go_wp2
      go_ret2
      refine ⟨?_, HK.out⟩
      unfold FindP
      rw [find_miss tag fs (fun i hi => HZ.out i (by have := HL.out; omega) hi)]
      rfl

end Go.Proofs.YtfealdllicicnaaDoor
