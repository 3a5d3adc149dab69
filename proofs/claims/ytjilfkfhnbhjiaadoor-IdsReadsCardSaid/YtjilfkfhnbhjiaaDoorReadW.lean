/-
  liaisonref05.Read's WALK (own work).
-/
import Derived.Test.YtjilfkfhnbhjiaaDoorReadI
namespace Go.Proofs.YtjilfkfhnbhjiaaDoor
open Go.RowKit Go.ChangeShapes Go.WideShapes

set_option maxRecDepth 20000 in
set_option maxHeartbeats 4000000 in
theorem read_any (s p : ByteArray) (hs : s.size ≤ 1000) (hp : p.size ≤ 100) (w : World) :
    Calls Tryd.prog 31 #[.string s, .string p] w fun e w' =>
      (match readM (strB s) (strB p) 0 [] with
        | none => e = .returned (.tuple #[.slice none 0 0, .bool false])
        | some (l, b) => ∃ v, e = .returned (.tuple #[v, .bool (decide (b = s.size))]) ∧ w'.ownsRow w.heap.size 3 1 v l.length (l.map (Value.int .i64))) ∧ Kp w w' := by
  obtain ⟨np, hnp⟩ : ∃ n : Int, (p.size : Int) = n := ⟨_, rfl⟩
  obtain ⟨ns, hns⟩ : ∃ n : Int, (s.size : Int) = n := ⟨_, rfl⟩
  have hsl := strB_len s
  have hpl := strB_len p
  have hsin := strB_in s
  have HIS := Lib.hid (fun i (hi : i < s.size) ii (hii : (i : Int) = ii) w1 => idx_str s i hi ii hii w1)
  have HIP := Lib.hid (fun i (hi : i < p.size) ii (hii : (i : Int) = ii) w1 => idx_str p i hi ii hii w1)
  obtain ⟨S, hS⟩ : ∃ S, strB s = S := ⟨_, rfl⟩
  obtain ⟨P, hP⟩ : ∃ P, strB p = P := ⟨_, rfl⟩
  rw [hS] at hsl hsin HIS ⊢
  rw [hP] at hpl HIP ⊢
  obtain ⟨R, hR⟩ : ∃ R, readM S P 0 [] = R := ⟨_, rfl⟩
  rw [hR]
  have HR := Lib.hid hR
  have HL := Lib.hid (And.intro hsl hpl)
  have HSI := Lib.hid hsin
  have OW0 := Lib.hid (own_empty w 3)
  have HNS := Lib.hid (And.intro hs (And.intro hp (And.intro hnp hns)))
  clear hS hP hR hsl hpl hsin
  go_enter Tryd.func31, Tryd.ntmps31
  go_wp2
  go_loopw [6, 7, 8] (fun o at_ i wr => ∃ (k m : Nat) (out : List Int), k ≤ P.length ∧ m ≤ S.length ∧ out.length ≤ k ∧ i = .int .i64 k ∧ at_ = .int .i64 m ∧ Kp w wr ∧ wr.ownsRow w.heap.size 3 1 o out.length (out.map (Value.int .i64)) ∧ readM S (P.drop k) m out = R) (fun _ _ i _ => P.length - (intOf i).toNat)
  case atStart => exact ⟨0, 0, [], Nat.zero_le _, Nat.zero_le _, Nat.le_refl _, rfl, rfl, kp_alloc _ _, OW0.out, HR.out⟩
  case round =>
    obtain ⟨k, m, out, hk, hm, hol, rfl, rfl, hkp, hown, hrd⟩ := hrel
    obtain ⟨kk, hkk⟩ : ∃ jj : Int, (k : Int) = jj := ⟨_, rfl⟩
    obtain ⟨mm, hmm⟩ : ∃ jj : Int, (m : Int) = jj := ⟨_, rfl⟩
    rw [hkk, hmm]
    have HK := Lib.hid hkp
    have HO := Lib.hid hown
    have hlen := HL.out
    have hns4 := HNS.out
    clear hkp hown
    by_cases hlt : k < P.length
    · have k0 : 0 ≤ kk := by omega
      have k1 : kk < np := by omega
      have m0 : 0 ≤ mm := by omega
      have m2 : mm ≤ 1000 := by omega
      have ip := HIP.out k (by omega) kk hkk
      have hpk : P.getD k 0 = P[k] := by simp [List.getD, hlt]
      rw [List.drop_eq_getElem_cons hlt, readM, ← hpk] at hrd
      obtain ⟨pc, hpc⟩ : ∃ c, P.getD k 0 = c := ⟨_, rfl⟩
      rw [hpc] at ip hrd
      by_cases h35 : pc = 35
      · subst h35
        rw [if_pos rfl] at hrd
        have HRD := Lib.hid hrd
        have HKM := Lib.hid (And.intro hkk (And.intro hmm (And.intro hol (And.intro hlt hm))))
        have hne : (35 != (35 : Int)) = false := rfl
        clear hrd hpk hpc hkk hlt hol
        go_wp2
        go_loop [7, 10] (fun at_ nv => ∃ (j : Nat), m + j ≤ S.length ∧ at_ = .int .i64 ((m + j : Nat) : Int) ∧ nv = .int .i64 (numC ((S.drop m).take j)) ∧ ∀ i, i < j → isD (S.getD (m + i) 0) = true) (fun at_ _ => S.length - (intOf at_).toNat)
        case atStart => exact ⟨0, hm, by rw [← hmm]; rfl, rfl, fun i hi => by omega⟩
        case round =>
          obtain ⟨j, hj, rfl, rfl, hd⟩ := hrel
          have hrg := numC_range m j hd hj
          obtain ⟨q, hq⟩ : ∃ q, numC ((S.drop m).take j) = q := ⟨_, rfl⟩
          rw [hq] at hrg ⊢
          obtain ⟨aa, haa⟩ : ∃ q : Int, ((m + j : Nat) : Int) = q := ⟨_, rfl⟩
          rw [haa]
          have a0 : 0 ≤ aa := by omega
          have a1 : aa ≤ 1000 := by omega
          have HD := Lib.hid hd
          by_cases hat : m + j < S.length
          · have ia := HIS.out (m + j) (by omega) aa haa
            have hcb := HSI.out
            have hnx := numC_next hat
            have hcr : 0 ≤ S.getD (m + j) 0 ∧ S.getD (m + j) 0 < 256 := by
              have e : S.getD (m + j) 0 = S[m + j] := by simp [List.getD, hat]
              rw [e]; exact hcb _ (List.getElem_mem _)
            obtain ⟨dc, hdc⟩ : ∃ c, S.getD (m + j) 0 = c := ⟨_, rfl⟩
            rw [hdc] at ia hnx hcr
            rw [hq] at hnx
            have l1 : aa < ns := by omega
            by_cases hg : isD dc = true
            · have hg2 : 48 ≤ dc ∧ dc ≤ 57 := by simpa [isD] using hg
              have hd2 : ∀ i, i < j + 1 → isD (S.getD (m + i) 0) = true := fun i hi => by
                by_cases e : i = j
                · subst e; rw [hdc]; exact hg
                · exact HD.out i (by omega)
              have t1 : 48 ≤ dc := hg2.1
              have t2 : dc ≤ 57 := hg2.2
              unfold stepC at hnx
              by_cases hbig : 10 * q + dc - 48 > 1000000
              · rw [if_pos hbig] at hnx
                have HN := Lib.hid (And.intro hnx (And.intro haa (And.intro hd2 hat)))
                clear hnx haa hd2 hat hd hcb hdc hg hg2 hq
                go_wp2
                obtain ⟨hnx, haa, hd2, hat⟩ := HN.out
                go_round
                case rel => exact ⟨j + 1, by omega, by congr 1; omega, by rw [hnx], hd2⟩
                case measure => simp [intOf]; omega
              · rw [if_neg hbig] at hnx
                have HN := Lib.hid (And.intro hnx (And.intro haa (And.intro hd2 hat)))
                clear hnx haa hd2 hat hd hcb hdc hg hg2 hq
                go_wp2
                obtain ⟨hnx, haa, hd2, hat⟩ := HN.out
                go_round
                case rel => exact ⟨j + 1, by omega, by congr 1; omega, by rw [hnx], hd2⟩
                case measure => simp [intOf]; omega
            · have hrun := runD_eq HD.out hj (.inr (by rw [hdc]; simpa using hg))
              by_cases hlo : 48 ≤ dc
              · have hhi : ¬ dc ≤ 57 := fun h => hg (by simp [isD, hlo, h])
                clear hnx hdc hcb hg
                have hrd := HRD.out
                rw [hrun] at hrd
                obtain ⟨hkk, hmm, hol, hlt, hm⟩ := HKM.out
                by_cases hj0 : j = 0
                · rw [if_pos (.inl hj0)] at hrd
                  subst hrd
                  have hz : aa = mm := by omega
                  clear hrun hkk hmm hol hlt hm hq haa hd hj hat
                  subst hz
                  go_wp2
                  go_ret2
                  exact ⟨rfl, HK.out⟩
                · have hz : ¬ aa = mm := by omega
                  have im := HIS.out m (by omega) mm hmm
                  obtain ⟨fc, hfc⟩ : ∃ c, S.getD m 0 = c := ⟨_, rfl⟩
                  rw [hfc] at im hrd
                  have m1 : mm < ns := by omega
                  have m0 : 0 ≤ mm := by omega
                  by_cases hbad : 1 < j ∧ fc = 48
                  · rw [if_pos (.inr hbad)] at hrd
                    subst hrd
                    obtain ⟨hb1, rfl⟩ := hbad
                    have hgt : aa - mm > 1 := by omega
                    clear hrun hkk hmm hol hlt hm hq haa hd hj hat hfc hj0 hb1
                    go_wp2
                    go_ret2
                    exact ⟨rfl, HK.out⟩
                  · rw [if_neg (fun h => h.elim hj0 hbad), hq] at hrd
                    have KB := Lib.hid (Kp.trans HK.out (kp_alloc wr (.cells #[.int .i64 q] 3)))
                    have OWB := Lib.hid (own_kp HO.out (kp_alloc wr (.cells #[.int .i64 q] 3)))
                    have CB := Lib.hid (box_cell wr (.int .i64 q) 3)
                    have HN := Lib.hid (And.intro hrd (And.intro haa (And.intro hkk (And.intro hmm (And.intro hol (And.intro hlt hj))))))
                    have hsum : out.length ≤ 1000000 := by omega
                    by_cases hgt : aa - mm > 1
                    · have hf : (fc == 48) = false := beq_eq_false_iff_ne.2 fun e => hbad ⟨by omega, e⟩
                      clear hrd hrun hkk hmm hol hlt hm hq haa hd hj hat hfc hj0 hbad
                      go_wp2_with (at_builtin; go_loud (refine wpList_append_int _ rfl (.tmp 81) (.tmp 83) rfl w.heap.size _ _ _ rfl OWB.out _ _ rfl CB.out hsum (Below.size KB.out) ?_))
                      intro v5 w5 hown5 hgr5
                      have K5 := Lib.hid (row_kp OWB.out hgr5 KB.out)
                      have O5 := Lib.hid hown5
                      clear hown5 hgr5
                      go_wp2
                      obtain ⟨hrd, haa, hkk, hmm, hol, hlt, hj⟩ := HN.out
                      go_roundw
                      case rel => exact ⟨k + 1, m + j, out ++ [q], by omega, hj, by simp; omega, by congr 1; omega, by rw [haa], K5.out, by rw [List.map_append, List.length_append]; exact O5.out, hrd⟩
                      case measure => simp [intOf]; omega
                    · clear hrd hrun hkk hmm hol hlt hm hq haa hd hj hat hfc hj0 hbad
                      go_wp2_with (at_builtin; go_loud (refine wpList_append_int _ rfl (.tmp 81) (.tmp 83) rfl w.heap.size _ _ _ rfl OWB.out _ _ rfl CB.out hsum (Below.size KB.out) ?_))
                      intro v5 w5 hown5 hgr5
                      have K5 := Lib.hid (row_kp OWB.out hgr5 KB.out)
                      have O5 := Lib.hid hown5
                      clear hown5 hgr5
                      go_wp2
                      obtain ⟨hrd, haa, hkk, hmm, hol, hlt, hj⟩ := HN.out
                      go_roundw
                      case rel => exact ⟨k + 1, m + j, out ++ [q], by omega, hj, by simp; omega, by congr 1; omega, by rw [haa], K5.out, by rw [List.map_append, List.length_append]; exact O5.out, hrd⟩
                      case measure => simp [intOf]; omega
              · clear hnx hdc hcb hg
                have hrd := HRD.out
                rw [hrun] at hrd
                obtain ⟨hkk, hmm, hol, hlt, hm⟩ := HKM.out
                by_cases hj0 : j = 0
                · rw [if_pos (.inl hj0)] at hrd
                  subst hrd
                  have hz : aa = mm := by omega
                  clear hrun hkk hmm hol hlt hm hq haa hd hj hat
                  subst hz
                  go_wp2
                  go_ret2
                  exact ⟨rfl, HK.out⟩
                · have hz : ¬ aa = mm := by omega
                  have im := HIS.out m (by omega) mm hmm
                  obtain ⟨fc, hfc⟩ : ∃ c, S.getD m 0 = c := ⟨_, rfl⟩
                  rw [hfc] at im hrd
                  have m1 : mm < ns := by omega
                  have m0 : 0 ≤ mm := by omega
                  by_cases hbad : 1 < j ∧ fc = 48
                  · rw [if_pos (.inr hbad)] at hrd
                    subst hrd
                    obtain ⟨hb1, rfl⟩ := hbad
                    have hgt : aa - mm > 1 := by omega
                    clear hrun hkk hmm hol hlt hm hq haa hd hj hat hfc hj0 hb1
                    go_wp2
                    go_ret2
                    exact ⟨rfl, HK.out⟩
                  · rw [if_neg (fun h => h.elim hj0 hbad), hq] at hrd
                    have KB := Lib.hid (Kp.trans HK.out (kp_alloc wr (.cells #[.int .i64 q] 3)))
                    have OWB := Lib.hid (own_kp HO.out (kp_alloc wr (.cells #[.int .i64 q] 3)))
                    have CB := Lib.hid (box_cell wr (.int .i64 q) 3)
                    have HN := Lib.hid (And.intro hrd (And.intro haa (And.intro hkk (And.intro hmm (And.intro hol (And.intro hlt hj))))))
                    have hsum : out.length ≤ 1000000 := by omega
                    by_cases hgt : aa - mm > 1
                    · have hf : (fc == 48) = false := beq_eq_false_iff_ne.2 fun e => hbad ⟨by omega, e⟩
                      clear hrd hrun hkk hmm hol hlt hm hq haa hd hj hat hfc hj0 hbad
                      go_wp2_with (at_builtin; go_loud (refine wpList_append_int _ rfl (.tmp 81) (.tmp 83) rfl w.heap.size _ _ _ rfl OWB.out _ _ rfl CB.out hsum (Below.size KB.out) ?_))
                      intro v5 w5 hown5 hgr5
                      have K5 := Lib.hid (row_kp OWB.out hgr5 KB.out)
                      have O5 := Lib.hid hown5
                      clear hown5 hgr5
                      go_wp2
                      obtain ⟨hrd, haa, hkk, hmm, hol, hlt, hj⟩ := HN.out
                      go_roundw
                      case rel => exact ⟨k + 1, m + j, out ++ [q], by omega, hj, by simp; omega, by congr 1; omega, by rw [haa], K5.out, by rw [List.map_append, List.length_append]; exact O5.out, hrd⟩
                      case measure => simp [intOf]; omega
                    · clear hrd hrun hkk hmm hol hlt hm hq haa hd hj hat hfc hj0 hbad
                      go_wp2_with (at_builtin; go_loud (refine wpList_append_int _ rfl (.tmp 81) (.tmp 83) rfl w.heap.size _ _ _ rfl OWB.out _ _ rfl CB.out hsum (Below.size KB.out) ?_))
                      intro v5 w5 hown5 hgr5
                      have K5 := Lib.hid (row_kp OWB.out hgr5 KB.out)
                      have O5 := Lib.hid hown5
                      clear hown5 hgr5
                      go_wp2
                      obtain ⟨hrd, haa, hkk, hmm, hol, hlt, hj⟩ := HN.out
                      go_roundw
                      case rel => exact ⟨k + 1, m + j, out ++ [q], by omega, hj, by simp; omega, by congr 1; omega, by rw [haa], K5.out, by rw [List.map_append, List.length_append]; exact O5.out, hrd⟩
                      case measure => simp [intOf]; omega
          · have hrun := runD_eq HD.out hj (.inl (by omega))
            have hex : ¬ aa < ns := by omega
            have hrd := HRD.out
            rw [hrun] at hrd
            obtain ⟨hkk, hmm, hol, hlt, hm⟩ := HKM.out
            by_cases hj0 : j = 0
            · rw [if_pos (.inl hj0)] at hrd
              subst hrd
              have hz : aa = mm := by omega
              clear hrun hkk hmm hol hlt hm hq haa hd hj hat
              subst hz
              go_wp2
              go_ret2
              exact ⟨rfl, HK.out⟩
            · have hz : ¬ aa = mm := by omega
              have im := HIS.out m (by omega) mm hmm
              obtain ⟨fc, hfc⟩ : ∃ c, S.getD m 0 = c := ⟨_, rfl⟩
              rw [hfc] at im hrd
              have m1 : mm < ns := by omega
              have m0 : 0 ≤ mm := by omega
              by_cases hbad : 1 < j ∧ fc = 48
              · rw [if_pos (.inr hbad)] at hrd
                subst hrd
                obtain ⟨hb1, rfl⟩ := hbad
                have hgt : aa - mm > 1 := by omega
                clear hrun hkk hmm hol hlt hm hq haa hd hj hat hfc hj0 hb1
                go_wp2
                go_ret2
                exact ⟨rfl, HK.out⟩
              · rw [if_neg (fun h => h.elim hj0 hbad), hq] at hrd
                have KB := Lib.hid (Kp.trans HK.out (kp_alloc wr (.cells #[.int .i64 q] 3)))
                have OWB := Lib.hid (own_kp HO.out (kp_alloc wr (.cells #[.int .i64 q] 3)))
                have CB := Lib.hid (box_cell wr (.int .i64 q) 3)
                have HN := Lib.hid (And.intro hrd (And.intro haa (And.intro hkk (And.intro hmm (And.intro hol (And.intro hlt hj))))))
                have hsum : out.length ≤ 1000000 := by omega
                by_cases hgt : aa - mm > 1
                · have hf : (fc == 48) = false := beq_eq_false_iff_ne.2 fun e => hbad ⟨by omega, e⟩
                  clear hrd hrun hkk hmm hol hlt hm hq haa hd hj hat hfc hj0 hbad
                  go_wp2_with (at_builtin; go_loud (refine wpList_append_int _ rfl (.tmp 81) (.tmp 83) rfl w.heap.size _ _ _ rfl OWB.out _ _ rfl CB.out hsum (Below.size KB.out) ?_))
                  intro v5 w5 hown5 hgr5
                  have K5 := Lib.hid (row_kp OWB.out hgr5 KB.out)
                  have O5 := Lib.hid hown5
                  clear hown5 hgr5
                  go_wp2
                  obtain ⟨hrd, haa, hkk, hmm, hol, hlt, hj⟩ := HN.out
                  go_roundw
                  case rel => exact ⟨k + 1, m + j, out ++ [q], by omega, hj, by simp; omega, by congr 1; omega, by rw [haa], K5.out, by rw [List.map_append, List.length_append]; exact O5.out, hrd⟩
                  case measure => simp [intOf]; omega
                · clear hrd hrun hkk hmm hol hlt hm hq haa hd hj hat hfc hj0 hbad
                  go_wp2_with (at_builtin; go_loud (refine wpList_append_int _ rfl (.tmp 81) (.tmp 83) rfl w.heap.size _ _ _ rfl OWB.out _ _ rfl CB.out hsum (Below.size KB.out) ?_))
                  intro v5 w5 hown5 hgr5
                  have K5 := Lib.hid (row_kp OWB.out hgr5 KB.out)
                  have O5 := Lib.hid hown5
                  clear hown5 hgr5
                  go_wp2
                  obtain ⟨hrd, haa, hkk, hmm, hol, hlt, hj⟩ := HN.out
                  go_roundw
                  case rel => exact ⟨k + 1, m + j, out ++ [q], by omega, hj, by simp; omega, by congr 1; omega, by rw [haa], K5.out, by rw [List.map_append, List.length_append]; exact O5.out, hrd⟩
                  case measure => simp [intOf]; omega
      · rw [if_neg h35] at hrd
        have hne : (pc != 35) = true := by simp [bne, h35]
        by_cases hat : m < S.length
        · have im := HIS.out m (by omega) mm hmm
          obtain ⟨sc, hsc⟩ : ∃ c, S.getD m 0 = c := ⟨_, rfl⟩
          rw [hsc] at im hrd
          have l1 : mm < ns := by omega
          have HE := Lib.hid (show (mm == ns) = false from beq_eq_false_iff_ne.2 (by omega))
          by_cases hcc : sc = pc
          · rw [if_pos ⟨hat, hcc⟩] at hrd
            have HQ := Lib.hid (show (sc != pc) = false by simp [hcc])
            have HRD := Lib.hid hrd
            have HKM := Lib.hid (And.intro hkk (And.intro hmm (And.intro hlt (And.intro hat hol))))
            clear hrd hpk hpc hkk hmm hsc hcc hlt hat h35 hol
            go_wp2
            refine wp_region_any (by kernel_rfl) ?_
            change wpAny _ _ _ _ _ _ _ (World.drew _)
            refine wpAny_take (i := 0) (v := ?_) rfl (by kernel_rfl) (by kernel_rfl) (by kernel_rfl) (fun _ _ _ h => h) (Or.inl ⟨by rfl, ?_⟩) ?_
            rotate_left
            · intro w; go_simp; try with_reducible rfl
            go_simp
            refine wpAny_take (i := 1) (v := ?_) rfl (by kernel_rfl) (by kernel_rfl) (by kernel_rfl) (fun _ _ _ h => h) (Or.inl ⟨by rfl, ?_⟩) ?_
            rotate_left
            · intro w; go_simp; try with_reducible rfl
            go_simp
            refine wpAny_take (i := 2) (v := ?_) rfl (by kernel_rfl) (by kernel_rfl) (by kernel_rfl) (fun _ _ _ h => h) (Or.inl ⟨by rfl, ?_⟩) ?_
            rotate_left
            · intro w; go_simp; try with_reducible rfl
            go_simp
            refine wpAny_take (i := 3) (v := ?_) rfl (by kernel_rfl) (by kernel_rfl) (by kernel_rfl) (fun _ _ _ h => h) (Or.inl ⟨by rfl, ?_⟩) ?_
            rotate_left
            · intro w; go_simp; rw [HE.out]
            go_simp
            refine wpAny_take (i := 4) (v := ?_) rfl (by kernel_rfl) (by kernel_rfl) (by kernel_rfl) (fun _ _ _ h => h) (Or.inl ⟨by rfl, ?_⟩) ?_
            rotate_left
            · intro w; go_simp; try with_reducible rfl
            go_simp
            refine wpAny_take (i := 5) (v := ?_) rfl (by kernel_rfl) (by kernel_rfl) (by kernel_rfl) (fun _ _ _ h => h) (Or.inl ⟨by rfl, ?_⟩) ?_
            rotate_left
            · intro w; go_simp; try with_reducible rfl
            go_simp
            refine wpAny_take (i := 6) (v := ?_) rfl (by kernel_rfl) (by kernel_rfl) (by kernel_rfl) (fun _ _ _ h => h) (Or.inl ⟨by rfl, ?_⟩) ?_
            rotate_left
            · intro w; go_simp; try with_reducible rfl
            go_simp
            refine wpAny_take (i := 7) (v := ?_) rfl (by kernel_rfl) (by kernel_rfl) (by kernel_rfl) (fun _ _ _ h => h) (Or.inl ⟨by rfl, ?_⟩) ?_
            rotate_left
            · intro w; go_simp; try with_reducible rfl
            go_simp
            refine wpAny_take (i := 8) (v := ?_) rfl (by kernel_rfl) (by kernel_rfl) (by kernel_rfl) (fun _ _ _ h => h) (Or.inl ⟨by rfl, ?_⟩) ?_
            rotate_left
            · intro w; go_simp; try with_reducible rfl
            go_simp
            refine wpAny_take (i := 9) (v := ?_) rfl (by kernel_rfl) (by kernel_rfl) (by kernel_rfl) (fun _ _ _ h => h) (Or.inl ⟨by rfl, ?_⟩) ?_
            rotate_left
            · intro w; go_simp; try with_reducible rfl
            go_simp
            refine wpAny_take (i := 10) (v := ?_) rfl (by kernel_rfl) (by kernel_rfl) (by kernel_rfl) (fun _ _ _ h => h) (Or.inl ⟨by rfl, ?_⟩) ?_
            rotate_left
            · intro w; go_simp; try with_reducible rfl
            go_simp
            refine wpAny_take (i := 11) (v := ?_) rfl (by kernel_rfl) (by kernel_rfl) (by kernel_rfl) (fun _ _ _ h => h) (Or.inl ⟨by rfl, ?_⟩) ?_
            rotate_left
            · intro w; go_simp; rw [HQ.out]
            go_simp
            refine wpAny_take (i := 12) (v := ?_) rfl (by kernel_rfl) (by kernel_rfl) (by kernel_rfl) (fun _ _ _ h => h) (Or.inl ⟨by rfl, ?_⟩) ?_
            rotate_left
            · intro w; go_simp; try with_reducible rfl
            go_simp
            refine wpAny_done (by kernel_rfl) ?_ _
            go_wp2
            obtain ⟨hkk, hmm, hlt, hat, hol⟩ := HKM.out
            go_roundw
            case rel => exact ⟨k + 1, m + 1, out, by omega, by omega, by omega, by congr 1; omega, by congr 1; omega, HK.out.drew, own_kp HO.out (Kp.refl _).drew, HRD.out⟩
            case measure => simp [intOf]; omega
          · rw [if_neg (fun h => hcc h.2)] at hrd
            have HQ := Lib.hid (show (sc != pc) = true by simp [bne, hcc])
            subst hrd
            clear hpk hpc hkk hmm hsc hcc hlt hat h35 hol
            go_wp2
            refine wp_region_any (by kernel_rfl) ?_
            change wpAny _ _ _ _ _ _ _ (World.drew _)
            refine wpAny_take (i := 0) (v := ?_) rfl (by kernel_rfl) (by kernel_rfl) (by kernel_rfl) (fun _ _ _ h => h) (Or.inl ⟨by rfl, ?_⟩) ?_
            rotate_left
            · intro w; go_simp; try with_reducible rfl
            go_simp
            refine wpAny_take (i := 1) (v := ?_) rfl (by kernel_rfl) (by kernel_rfl) (by kernel_rfl) (fun _ _ _ h => h) (Or.inl ⟨by rfl, ?_⟩) ?_
            rotate_left
            · intro w; go_simp; try with_reducible rfl
            go_simp
            refine wpAny_take (i := 2) (v := ?_) rfl (by kernel_rfl) (by kernel_rfl) (by kernel_rfl) (fun _ _ _ h => h) (Or.inl ⟨by rfl, ?_⟩) ?_
            rotate_left
            · intro w; go_simp; try with_reducible rfl
            go_simp
            refine wpAny_take (i := 3) (v := ?_) rfl (by kernel_rfl) (by kernel_rfl) (by kernel_rfl) (fun _ _ _ h => h) (Or.inl ⟨by rfl, ?_⟩) ?_
            rotate_left
            · intro w; go_simp; rw [HE.out]
            go_simp
            refine wpAny_take (i := 4) (v := ?_) rfl (by kernel_rfl) (by kernel_rfl) (by kernel_rfl) (fun _ _ _ h => h) (Or.inl ⟨by rfl, ?_⟩) ?_
            rotate_left
            · intro w; go_simp; try with_reducible rfl
            go_simp
            refine wpAny_take (i := 5) (v := ?_) rfl (by kernel_rfl) (by kernel_rfl) (by kernel_rfl) (fun _ _ _ h => h) (Or.inl ⟨by rfl, ?_⟩) ?_
            rotate_left
            · intro w; go_simp; try with_reducible rfl
            go_simp
            refine wpAny_take (i := 6) (v := ?_) rfl (by kernel_rfl) (by kernel_rfl) (by kernel_rfl) (fun _ _ _ h => h) (Or.inl ⟨by rfl, ?_⟩) ?_
            rotate_left
            · intro w; go_simp; try with_reducible rfl
            go_simp
            refine wpAny_take (i := 7) (v := ?_) rfl (by kernel_rfl) (by kernel_rfl) (by kernel_rfl) (fun _ _ _ h => h) (Or.inl ⟨by rfl, ?_⟩) ?_
            rotate_left
            · intro w; go_simp; try with_reducible rfl
            go_simp
            refine wpAny_take (i := 8) (v := ?_) rfl (by kernel_rfl) (by kernel_rfl) (by kernel_rfl) (fun _ _ _ h => h) (Or.inl ⟨by rfl, ?_⟩) ?_
            rotate_left
            · intro w; go_simp; try with_reducible rfl
            go_simp
            refine wpAny_take (i := 9) (v := ?_) rfl (by kernel_rfl) (by kernel_rfl) (by kernel_rfl) (fun _ _ _ h => h) (Or.inl ⟨by rfl, ?_⟩) ?_
            rotate_left
            · intro w; go_simp; try with_reducible rfl
            go_simp
            refine wpAny_take (i := 10) (v := ?_) rfl (by kernel_rfl) (by kernel_rfl) (by kernel_rfl) (fun _ _ _ h => h) (Or.inl ⟨by rfl, ?_⟩) ?_
            rotate_left
            · intro w; go_simp; try with_reducible rfl
            go_simp
            refine wpAny_take (i := 11) (v := ?_) rfl (by kernel_rfl) (by kernel_rfl) (by kernel_rfl) (fun _ _ _ h => h) (Or.inl ⟨by rfl, ?_⟩) ?_
            rotate_left
            · intro w; go_simp; rw [HQ.out]
            go_simp
            refine wpAny_take (i := 12) (v := ?_) rfl (by kernel_rfl) (by kernel_rfl) (by kernel_rfl) (fun _ _ _ h => h) (Or.inl ⟨by rfl, ?_⟩) ?_
            rotate_left
            · intro w; go_simp; try with_reducible rfl
            go_simp
            refine wpAny_done (by kernel_rfl) ?_ _
            go_wp2
            go_ret2
            exact ⟨rfl, HK.out.drew⟩
        · rw [if_neg (fun h => hat h.1)] at hrd
          have HE := Lib.hid (show (mm == ns) = true by rw [beq_iff_eq]; omega)
          subst hrd
          clear hpk hpc hkk hmm hlt hat h35 hol
          go_wp2
          refine wp_region_any (by kernel_rfl) ?_
          change wpAny _ _ _ _ _ _ _ (World.drew _)
          refine wpAny_take (i := 0) (v := ?_) rfl (by kernel_rfl) (by kernel_rfl) (by kernel_rfl) (fun _ _ _ h => h) (Or.inl ⟨by rfl, ?_⟩) ?_
          rotate_left
          · intro w; go_simp; try with_reducible rfl
          go_simp
          refine wpAny_take (i := 1) (v := ?_) rfl (by kernel_rfl) (by kernel_rfl) (by kernel_rfl) (fun _ _ _ h => h) (Or.inl ⟨by rfl, ?_⟩) ?_
          rotate_left
          · intro w; go_simp; try with_reducible rfl
          go_simp
          refine wpAny_take (i := 2) (v := ?_) rfl (by kernel_rfl) (by kernel_rfl) (by kernel_rfl) (fun _ _ _ h => h) (Or.inl ⟨by rfl, ?_⟩) ?_
          rotate_left
          · intro w; go_simp; try with_reducible rfl
          go_simp
          refine wpAny_take (i := 3) (v := ?_) rfl (by kernel_rfl) (by kernel_rfl) (by kernel_rfl) (fun _ _ _ h => h) (Or.inl ⟨by rfl, ?_⟩) ?_
          rotate_left
          · intro w; go_simp; rw [HE.out]
          go_simp
          refine wpAny_take (i := 4) (v := ?_) rfl (by kernel_rfl) (by kernel_rfl) (by kernel_rfl) (fun _ _ _ h => h) (Or.inl ⟨by rfl, ?_⟩) ?_
          rotate_left
          · intro w; go_simp; try with_reducible rfl
          go_simp
          refine wpAny_take (i := 5) (v := undef) rfl (by kernel_rfl) (by kernel_rfl) (by kernel_rfl) (fun _ _ _ h => h) (Or.inr ⟨by rfl, rfl⟩) ?_
          go_simp
          refine wpAny_take (i := 6) (v := undef) rfl (by kernel_rfl) (by kernel_rfl) (by kernel_rfl) (fun _ _ _ h => h) (Or.inr ⟨by rfl, rfl⟩) ?_
          go_simp
          refine wpAny_take (i := 7) (v := undef) rfl (by kernel_rfl) (by kernel_rfl) (by kernel_rfl) (fun _ _ _ h => h) (Or.inr ⟨by rfl, rfl⟩) ?_
          go_simp
          refine wpAny_take (i := 8) (v := undef) rfl (by kernel_rfl) (by kernel_rfl) (by kernel_rfl) (fun _ _ _ h => h) (Or.inr ⟨by rfl, rfl⟩) ?_
          go_simp
          refine wpAny_take (i := 9) (v := undef) rfl (by kernel_rfl) (by kernel_rfl) (by kernel_rfl) (fun _ _ _ h => h) (Or.inr ⟨by rfl, rfl⟩) ?_
          go_simp
          refine wpAny_take (i := 10) (v := undef) rfl (by kernel_rfl) (by kernel_rfl) (by kernel_rfl) (fun _ _ _ h => h) (Or.inr ⟨by rfl, rfl⟩) ?_
          go_simp
          refine wpAny_take (i := 11) (v := undef) rfl (by kernel_rfl) (by kernel_rfl) (by kernel_rfl) (fun _ _ _ h => h) (Or.inr ⟨by rfl, rfl⟩) ?_
          go_simp
          refine wpAny_take (i := 12) (v := ?_) rfl (by kernel_rfl) (by kernel_rfl) (by kernel_rfl) (fun _ _ _ h => h) (Or.inl ⟨by rfl, ?_⟩) ?_
          rotate_left
          · intro w; go_simp; try with_reducible rfl
          go_simp
          refine wpAny_done (by kernel_rfl) ?_ _
          go_wp2
          go_ret2
          exact ⟨rfl, HK.out.drew⟩
    · obtain rfl : k = P.length := by omega
      have hex : ¬ kk < np := by omega
      rw [List.drop_length, readM] at hrd
      have HE := Lib.hid (show (mm == ns) = decide (m = s.size) by rw [Bool.eq_iff_iff, beq_iff_eq, decide_eq_true_eq]; omega)
      subst hrd
      clear hkk hmm hlt hol
      go_wp2
      go_ret2
      exact ⟨⟨_, by rw [← HE.out]; rfl, HO.out⟩, HK.out⟩
end Go.Proofs.YtjilfkfhnbhjiaaDoor
