/-
  liaisonref03.Join (own work): a right row's bytes.
-/
import Derived.Test.YtfealdllicicnaaDoorAppB
import Derived.Test.YtfealdllicicnaaDoorRefQ
namespace Go.Proofs.YtfealdllicicnaaDoor
open Go.RowKit Go.ChangeShapes Go.WideShapes

/-- the bytes of one field, of a row -/
def fieldB (f : Int × List Int) : List Int := [f.1, 0, f.2.length] ++ f.2
def joinB (fs : List (Int × List Int)) : List Int := fs.flatMap fieldB
theorem joinB_next {fs : List (Int × List Int)} {j : Nat} (h : j < fs.length) : joinB (fs.take (j + 1)) = joinB (fs.take j) ++ fieldB fs[j] := by
  rw [List.take_add_one, List.getElem?_eq_getElem h]
  unfold joinB
  rw [List.flatMap_append]
  simp
def Small (fs : List (Int × List Int)) : Prop := ∀ f ∈ fs, 0 ≤ f.1 ∧ f.1 ≤ 255 ∧ f.2.length ≤ 200
theorem joinB_len {fs : List (Int × List Int)} (h : Small fs) : ∀ j, j ≤ fs.length → (joinB (fs.take j)).length ≤ 203 * j
  | 0, _ => by simp [joinB]
  | j + 1, hj => by
    rw [joinB_next (by omega), List.length_append]
    have h1 := joinB_len h j (by omega)
    have h2 := (h fs[j] (List.getElem_mem _)).2.2
    simp [fieldB]
    omega

set_option maxRecDepth 20000 in
set_option maxHeartbeats 1000000 in
theorem refJoin_any (a : Option Addr) (cap : Nat) (fs : List (Int × List Int)) (len : Nat) (hlen : fs.length = len) (hl : len ≤ 16) (hsm : Small fs) (w : World) (hs : SlQ (.slice a len cap) fs w) :
    Calls Tryd.prog 17 #[.slice a len cap] w fun e w' => ∃ v, e = .returned v ∧ SlB v (joinB fs) w' ∧ Kp w w' := by
  have hel : ∀ wr, Kp w wr → ∀ j (hj : j < fs.length), ∃ b off, a = some ⟨b, off, none⟩ ∧ wr.cell? ⟨b, off + j * 2, none⟩ = some (.int .i64 fs[j].1) ∧ ∃ a' c, wr.cell? ⟨b, off + j * 2 + 1, none⟩ = some (.slice a' fs[j].2.length c) ∧ SlB (.slice a' fs[j].2.length c) fs[j].2 wr ∧ InB fs[j].2 :=
    fun wr hk j hj => (hs.kp hk).at j hj
  obtain ⟨i0, hi, hz0, hz1, hz2⟩ := info_parts info_byte
  have HI := Lib.hid (And.intro hz1 hz2)
  have HI2 := Lib.hid hi
  have HI3 := Lib.hid hz0
  have HEL := Lib.hid hel
  have HL := Lib.hid hlen
  have HSM := Lib.hid hsm
  have OW0 := Lib.hid (own_empty w 5)
  clear hel hs hlen hsm hz1 hz2 hi hz0
  go_enter Tryd.func17, Tryd.ntmps17
  go_wp2
  go_loopw [3, 9] (fun v i wr => ∃ j : Nat, j ≤ len ∧ i = .int .i64 j ∧ Kp w wr ∧ wr.ownsRow w.heap.size 5 1 v (joinB (fs.take j)).length ((joinB (fs.take j)).map (Value.int .u8)) ∧ v ≠ .slice none 0 0) (fun _ i _ => len - (intOf i).toNat)
  case atStart => exact ⟨0, Nat.zero_le _, rfl, kp_alloc _ _, OW0.out, (by intro h; cases h)⟩
  case round =>
    obtain ⟨j, hj, rfl, hk, hown, hnn⟩ := hrel
    have HK := Lib.hid hk
    have HOW := Lib.hid hown
    have HNN := Lib.hid hnn
    have hln := HL.out
    clear hk hown hnn
    obtain ⟨jj, hjj⟩ : ∃ jj : Int, (j : Int) = jj := ⟨_, rfl⟩
    rw [hjj]
    by_cases hlt : j < len
    · have hjl : j < fs.length := by omega
      obtain ⟨b, off, rfl, c0, a1, k1, c1, h1, h2⟩ := HEL.out w (Kp.refl _) j hjl
      have c0 := kp_cell HK.out c0
      have c1 := kp_cell HK.out c1
      have hjn := joinB_next hjl
      have hjb := joinB_len HSM.out j (by omega)
      have hsj := HSM.out fs[j] (List.getElem_mem _)
      obtain ⟨tj, htj⟩ : ∃ tj, fs[j].1 = tj := ⟨_, rfl⟩
      obtain ⟨bs, hbs⟩ : ∃ bs, fs[j].2 = bs := ⟨_, rfl⟩
      have hfb : fieldB fs[j] = [tj, 0, (bs.length : Int)] ++ bs := by simp only [fieldB, htj, hbs]
      rw [htj] at c0 hsj
      rw [hbs] at c1 h1 hsj
      rw [hfb] at hjn
      obtain ⟨n1, hn1⟩ : ∃ n1, bs.length = n1 := ⟨_, rfl⟩
      rw [hn1] at c1 h1 hsj hjn
      obtain ⟨jb, hjbe⟩ : ∃ jb, joinB (fs.take j) = jb := ⟨_, rfl⟩
      rw [hjbe] at HOW hjn hjb
      obtain ⟨m1, hm1⟩ : ∃ m1 : Int, (n1 : Int) = m1 := ⟨_, rfl⟩
      have ej : jj.toNat = j := by omega
      rw [← ej] at c0 c1
      have hj0 : 0 ≤ jj := by omega
      have hltj : jj < len := by omega
      have HJ := Lib.hid hjj
      have HJN := Lib.hid hjn
      have HN1 := Lib.hid hn1
      have q1 : m1.tdiv 256 = 0 := by rw [Int.tdiv_eq_ediv_of_nonneg (by omega)]; omega
      have q2 : m1.tmod 256 = m1 := by rw [Int.tmod_eq_emod_of_nonneg (by omega)]; omega
      have q3 : 0 ≤ m1 ∧ m1 ≤ 200 := by omega
      have q4 : 0 ≤ tj ∧ tj ≤ 255 := by omega
      have HB1 := Lib.hid h1
      clear hjj ej htj hn1 hbs hfb h1 h2 hln hlt hjn hjbe hsj
      have hz1 : (wr.alloc (.cells #[.int .i64 tj, .slice a1 n1 k1] 63)).heap.size = wr.heap.size + 1 := by simp
      have OW2 := Lib.hid (own_kp (own_kp HOW.out (kp_alloc wr (.cells #[.int .i64 tj, .slice a1 n1 k1] 63))) (kp_alloc (wr.alloc (.cells #[.int .i64 tj, .slice a1 n1 k1] 63)) (.cells #[.int .u8 tj, .int .u8 0, .int .u8 m1] 5)))
      have K2 := Lib.hid (Kp.trans (kp_alloc wr (.cells #[.int .i64 tj, .slice a1 n1 k1] 63)) (kp_alloc (wr.alloc (.cells #[.int .i64 tj, .slice a1 n1 k1] 63)) (.cells #[.int .u8 tj, .int .u8 0, .int .u8 m1] 5)))
      have N2 : ((wr.alloc (.cells #[.int .i64 tj, .slice a1 n1 k1] 63)).alloc (.cells #[.int .u8 tj, .int .u8 0, .int .u8 m1] 5)).heap[wr.heap.size + 1]? = some (.cells #[.int .u8 tj, .int .u8 0, .int .u8 m1] 5 (0, 0)) := by rw [← hz1]; exact (MapKept.heap_alloc _ _).1
      have B2 : ((wr.alloc (.cells #[.int .i64 tj, .slice a1 n1 k1] 63)).alloc (.cells #[.int .u8 tj, .int .u8 0, .int .u8 m1] 5)).heap[wr.heap.size]? = some (.cells #[.int .i64 tj, .slice a1 n1 k1] 63 (0, 0)) := kp_row (kp_alloc _ _) (MapKept.heap_alloc wr _).1
      have HN2 := Lib.hid N2
      have HB2 := Lib.hid B2
      have HSZ := Lib.hid (Below.size HK.out)
      clear hz1 N2 B2
      go_wp2_with (at_builtin; refine wpList_append_own _ rfl (.tmp 13) (.tmp 27) 25 rfl w.heap.size 5 i0 (.int .u8 0) 1 1 Tryd.underlying25 HI2.out HI3.out HI.out.1 HI.out.2 rfl (by decide) _ _ _ rfl OW2.out ⟨wr.heap.size + 1, 0, none⟩ 3 3 [.int .u8 tj, .int .u8 0, .int .u8 m1] rfl ?c1 ?c2 ?c3 ?c4 ?c5 ?c6 ?_)
      case c1 => rfl
      case c2 =>
        intro i u hi
        rw [add_plain]
        unfold World.cell?
        dsimp only
        rw [HN2.out]
        have hi3 : i < 3 := by
          rcases Nat.lt_or_ge i 3 with q | q
          · exact q
          · rw [List.getElem?_eq_none (by simpa using q)] at hi; cases hi
        match i, hi3, hi with
        | 0, _, hi | 1, _, hi | 2, _, hi => simpa using hi
      case c3 => intro u hu; simp at hu; rcases hu with rfl | rfl | rfl <;> rfl
      case c4 => unfold maxLen; omega
      case c5 => omega
      case c6 => have := HSZ.out; simp; omega
      rintro v5 w5 hown5 hgr5 hnil5
      have nn5 : v5 ≠ .slice none 0 0 := by first | exact hnil5 | exact (fun h => HNN.out (hnil5.1 h).1)
      have kp5 : Kp w w5 := row_kp OW2.out hgr5 (Kp.trans HK.out K2.out)
      have b5 := row_grow OW2.out hgr5 _ _ _ HB2.out (by decide)
      have cb5 : w5.cell? ⟨wr.heap.size, 1, none⟩ = some (.slice a1 n1 k1) := by unfold World.cell?; dsimp only; rw [b5]; rfl
      have OW5 := Lib.hid hown5
      have NN5 := Lib.hid nn5
      have KP5 := Lib.hid kp5
      have HB5 := Lib.hid (HB1.out.kp kp5)
      clear hown5 hgr5 hnil5 nn5 kp5 b5
      go_wp2_with (at_builtin; refine wpList_append_slb _ rfl (.tmp 29) (.tmp 31) rfl w.heap.size _ _ _ rfl OW5.out a1 n1 k1 bs rfl HB5.out ?d1 ?d2 ?_)
      case d1 => omega
      case d2 => exact Below.size KP5.out
      rintro v6 w6 hown6 hgr6 hnil6
      have kp6 : Kp w w6 := row_kp OW5.out hgr6 KP5.out
      have nn6 := hnil6 NN5.out
      have own6 : w6.ownsRow w.heap.size 5 1 v6 (joinB (fs.take (j + 1))).length ((joinB (fs.take (j + 1))).map (Value.int .u8)) := by
        rw [HJN.out]
        have e1 : (jb ++ ([tj, 0, (n1 : Int)] ++ bs)).length = jb.length + 3 + n1 := by simp [HN1.out]; omega
        have e2 : (jb ++ ([tj, 0, (n1 : Int)] ++ bs)).map (Value.int .u8) = jb.map (Value.int .u8) ++ .int .u8 tj :: .int .u8 0 :: .int .u8 m1 :: bs.map (Value.int .u8) := by simp [hm1]
        rw [e1, e2]
        exact hown6
      have O6 := Lib.hid own6
      have N6 := Lib.hid nn6
      have K6 := Lib.hid kp6
      clear own6 nn6 kp6 hown6 hgr6 hnil6
      go_wp2
      have hjj := HJ.out
      go_roundw
      case rel => exact ⟨j + 1, by omega, by congr 1; omega, K6.out, O6.out, N6.out⟩
      case measure => simp [intOf]; omega
    · obtain rfl : j = len := by omega
      have hex : ¬ jj < j := by omega
      have hful : fs.take j = fs := by rw [List.take_of_length_le]; omega
      have ho := HOW.out
      rw [hful] at ho
      have HO := Lib.hid (own_slb ho)
      clear hjj hful ho
      go_wp2
      go_ret
      exact ⟨_, rfl, HO.out, HK.out⟩
end Go.Proofs.YtfealdllicicnaaDoor
