/-
  THE DOCUMENT's JOURNAL (own work): liaisonref07.Frame, All.
-/
import Derived.Test.YtpehmkglkjlmfaaDoorJouC
import Derived.Test.YtpehmkglkjlmfaaDoorRefC
import Derived.Test.YtpehmkglkjlmfaaDoorAppO
import Derived.Test.YtpehmkglkjlmfaaDoorSamL
namespace Go.Proofs.YtpehmkglkjlmfaaDoor
open Go.RowKit Go.ChangeShapes Go.WideShapes

theorem okR_num {r : List Int} {n : Nat} (hn : r.length = n) : okR r ↔ 1 ≤ n ∧ n ≤ 200 := by unfold okR; rw [hn]

set_option maxRecDepth 100000 in
set_option maxHeartbeats 1000000 in
theorem frame7_no (a : Option Addr) (n c : Nat) (r : List Int) (hn : r.length = n) (hl : n ≤ 1000000) (ho : ¬ okR r) (w : World) :
    Calls Tryd.prog 23 #[.slice a n c] w fun e w' => e = .returned (.tuple #[.slice none 0 0, .bool false]) ∧ w = w' := by
  rw [okR_num hn] at ho
  obtain ⟨nn, hnn⟩ : ∃ x : Int, (n : Int) = x := ⟨_, rfl⟩
  by_cases h1 : nn < 1
  · clear hn
    go_enter Tryd.func23, Tryd.ntmps23
    go_wp2
    go_ret2
    exact ⟨rfl, rfl⟩
  · have h2 : nn > 200 := by omega
    clear hn
    go_enter Tryd.func23, Tryd.ntmps23
    go_wp2
    go_ret2
    exact ⟨rfl, rfl⟩

set_option maxRecDepth 100000 in
set_option maxHeartbeats 2000000 in
theorem frame7_ok (a : Option Addr) (n c : Nat) (r : List Int) (hn : r.length = n) (hb : InB r) (ho : okR r) (w : World) (hs : SlB (.slice a n c) r w) :
    Calls Tryd.prog 23 #[.slice a n c] w fun e w' => ∃ v, e = .returned (.tuple #[v, .bool true]) ∧ w'.ownsRow w.heap.size 5 1 v (n + 6) ((frm r).map (Value.int .u8)) ∧ Kp w w' := by
  rw [okR_num hn] at ho
  obtain ⟨nn, hnn⟩ : ∃ x : Int, (n : Int) = x := ⟨_, rfl⟩
  have h1 : ¬ nn < 1 := by omega
  have h2 : ¬ nn > 200 := by omega
  have x0 : 0 ≤ nn := by omega
  have x1 : nn ≤ 200 := by omega
  have HS := Lib.hid hs
  have HSU := Lib.hid (fun w1 (hk : Kp w w1) => rsum_any a c r n hn (by omega) hb w1 (hs.kp hk))
  have HFO := Lib.hid (fun w1 => four_any (crc r) (crc_lt hb) w1)
  have HN := Lib.hid hn
  have e0 : (hd2 n).map (Value.int .u8) = [Value.int .u8 (nn / 256), .int .u8 (nn % 256)] := by rw [← hnn]; simp [hd2]
  have HH2 := Lib.hid e0
  have OWL := Lib.hid (show (w.alloc (.cells #[.int .u8 (nn / 256), .int .u8 (nn % 256)] 5)).ownsRow w.heap.size 5 1 (.slice (some ⟨w.heap.size, 0, none⟩) 2 2) 2 [Value.int .u8 (nn / 256), .int .u8 (nn % 256)] from World.ownsRow_lit (base := w.heap.size) (e := 5) (size := 1) w #[.int .u8 (nn / 256), .int .u8 (nn % 256)] 2 (Nat.le_refl _) (by decide) rfl)
  have SL0 := Lib.hid (hs.kp (kp_alloc w (.cells #[.int .u8 (nn / 256), .int .u8 (nn % 256)] 5)))
  clear hs hn hb ho e0
  go_enter Tryd.func23, Tryd.ntmps23
  go_wp2_with (at_builtin; refine wpList_append_blk _ rfl _ _ rfl w.heap.size _ 2 _ rfl OWL.out a n c r rfl SL0.out ?d1 ?d2 ?_)
  case d1 => omega
  intro v2 w2 hown hgr _
  have K2 := Lib.hid (row_kp OWL.out hgr (kp_alloc w (.cells #[.int .u8 (nn / 256), .int .u8 (nn % 256)] 5)))
  have OW2 := Lib.hid hown
  clear hown hgr
  obtain ⟨cr, hcr⟩ : ∃ x : Int, ((crc r : Nat) : Int) = x := ⟨_, rfl⟩
  rw [hcr] at HSU HFO
  go_wp2_with (first
    | (go_at_call 51; (with_reducible refine (HSU.out _ K2.out).mono ?_); rintro e w3 ⟨rfl, rfl⟩)
    | (go_at_call 50; (with_reducible refine (HFO.out _).mono ?_); rintro e w4 ⟨v4, rfl, hown, hk⟩; have K4 := Lib.hid (Kp.trans K2.out hk); have OW4 := Lib.hid (own_kp OW2.out hk); have S4 := Lib.hid (own_slb hown); have HV : ∃ a4 c4, v4 = .slice a4 4 c4 := (by rcases hown.2 with ⟨rfl, q⟩ | ⟨gb, cap, cur, rfl, _⟩; exact ⟨none, 0, by cases q⟩; exact ⟨_, _, rfl⟩); obtain ⟨a4, c4, rfl⟩ := HV; clear hown hk)
    | (at_builtin; refine wpList_append_blk _ rfl _ _ rfl w.heap.size _ _ _ rfl OW4.out a4 4 c4 (four (crc r)) rfl S4.out ?e1 ?e2 ?_))
  case e1 => omega
  case e2 => exact Below.size K4.out
  intro v5 w5 hown hgr _
  have K5 := Lib.hid (row_kp OW4.out hgr K4.out)
  have OW5 := Lib.hid hown
  clear hown hgr
  go_wp2
  go_ret2
  refine ⟨_, rfl, ?_, K5.out⟩
  have h := OW5.out
  have e2 : (frm r).map (Value.int .u8) = [Value.int .u8 (nn / 256), .int .u8 (nn % 256)] ++ r.map (Value.int .u8) ++ (four (crc r)).map (Value.int .u8) := by
    unfold frm
    rw [List.map_append, List.map_append, HN.out, HH2.out, List.append_assoc]
  rw [e2]
  have e3 : 2 + n + 4 = n + 6 := by omega
  rw [e3] at h
  exact h

set_option maxRecDepth 100000 in
set_option maxHeartbeats 2000000 in
theorem all7_any (a : Option Addr) (m cp : Nat) (rs : List (List Int)) (hm : rs.length = m) (hl : m ≤ 100000) (hin : ∀ r ∈ rs, InB r ∧ r.length ≤ 100000) (hs7 : ∀ j, okRs (rs.take j) → (allF (rs.take j)).length ≤ 200000) (w : World) (hs : SlBB (.slice a m cp) rs w) :
    Calls Tryd.prog 15 #[.slice a m cp] w fun e w' => ((okRs rs ∧ ∃ v, e = .returned (.tuple #[v, .bool true]) ∧ w'.ownsRow w.heap.size 5 1 v (allF rs).length ((allF rs).map (Value.int .u8))) ∨ (¬ okRs rs ∧ e = .returned (.tuple #[.slice none 0 0, .bool false]))) ∧ Kp w w' := by
  have HS := Lib.hid (fun w1 (hk : Kp w w1) (j : Nat) (hj : j < rs.length) => (hs.kp hk).at j hj)
  have HM := Lib.hid hm
  have HIN := Lib.hid hin
  have H7 := Lib.hid hs7
  have OW0 := Lib.hid (own_empty w 5)
  clear hs hm hin hs7
  go_enter Tryd.func15, Tryd.ntmps15
  go_wp2
  go_loopw [4, 12] (fun v i wr => ∃ j : Nat, j ≤ m ∧ i = .int .i64 j ∧ okRs (rs.take j) ∧ Kp w wr ∧ wr.ownsRow w.heap.size 5 1 v (allF (rs.take j)).length ((allF (rs.take j)).map (Value.int .u8))) (fun _ i _ => m - (intOf i).toNat)
  case atStart => exact ⟨0, Nat.zero_le _, rfl, fun r hr => (by cases hr), kp_alloc _ _, OW0.out⟩
  case round =>
    obtain ⟨j, hj, rfl, hok, hk, hown⟩ := hrel
    obtain ⟨jj, hjj⟩ : ∃ jj : Int, (j : Int) = jj := ⟨_, rfl⟩
    rw [hjj]
    have K := Lib.hid hk
    have HJ := Lib.hid hjj
    have OK := Lib.hid hok
    have hmm := HM.out
    by_cases hlt : j < m
    · have hjl : j < rs.length := by omega
      obtain ⟨b, off, rfl, a', c', hc, hsl, hb⟩ := HS.out wr hk j hjl
      have hlen := (HIN.out rs[j] (List.getElem_mem hjl)).2
      have SR := Lib.hid (show rs.take (j + 1) = rs.take j ++ [rs[j]] from List.take_succ_eq_append_getElem hjl)
      have MR := Lib.hid (show rs[j] ∈ rs from List.getElem_mem hjl)
      obtain ⟨r, hr⟩ : ∃ r, rs[j] = r := ⟨_, rfl⟩
      rw [hr] at hc hsl hb hlen SR MR
      obtain ⟨l, hl2⟩ : ∃ l, r.length = l := ⟨_, rfl⟩
      rw [hl2] at hc hsl hlen
      have ej : jj.toNat = j := by omega
      rw [← ej] at hc
      have hj0 : 0 ≤ jj := by omega
      have hltj : jj < m := by omega
      by_cases ho : okR r
      · have HF := Lib.hid (fun w1 (hk : Kp wr w1) => frame7_ok a' l c' r hl2 hb ho w1 (hsl.kp hk))
        obtain ⟨A, hA⟩ : ∃ x, allF (rs.take j) = x := ⟨_, rfl⟩
        have EA := Lib.hid (show allF (rs.take (j + 1)) = A ++ frm r by rw [SR.out, allF_app, hA, allF_one])
        have OK1 := Lib.hid (show okRs (rs.take (j + 1)) by rw [SR.out]; exact okRs_app OK.out (fun x hx => by obtain rfl := List.mem_singleton.1 hx; exact ho))
        have h7 := H7.out (j + 1) OK1.out
        rw [EA.out, List.length_append, frm_len, hl2] at h7
        rw [hA] at hown
        obtain ⟨la, hla⟩ : ∃ x, A.length = x := ⟨_, rfl⟩
        rw [hla] at hown h7
        have OW := Lib.hid hown
        have HLA := Lib.hid hla
        have HL2 := Lib.hid hl2
        have HLT := Lib.hid hlt
        clear hk hown hok hsl hb hr hl2 hjj ej hjl hmm hA hla hlt ho
        go_wp2_with (first
          | (go_at_call 23; (with_reducible refine (HF.out _ (Kp.refl _)).mono ?_); rintro e w2 ⟨v2, rfl, hown2, hk2⟩; have K2 := Lib.hid (Kp.trans K.out hk2); have OWb := Lib.hid (own_kp OW.out hk2); have S2 := Lib.hid (own_slb hown2); have HV : ∃ a2 c2, v2 = .slice a2 (l + 6) c2 := (by rcases hown2.2 with ⟨rfl, q⟩ | ⟨gb, cap, cur, rfl, _⟩; exact ⟨none, 0, by cases q⟩; exact ⟨_, _, rfl⟩); obtain ⟨a2, c2, rfl⟩ := HV; clear hown2 hk2)
          | (at_builtin; refine wpList_append_blk _ rfl _ _ rfl w.heap.size _ _ _ rfl OWb.out a2 (l + 6) c2 (frm r) rfl S2.out ?d1 ?d2 ?_))
        case d1 => omega
        case d2 => exact Below.size K2.out
        intro v3 w3 hown3 hgr3 _
        have K3 := Lib.hid (row_kp OWb.out hgr3 K2.out)
        have OW3 := Lib.hid hown3
        clear hown3 hgr3
        go_wp2
        have hjj := HJ.out
        have hlt2 := HLT.out
        go_round
        case rel =>
          refine ⟨j + 1, by omega, by congr 1; omega, OK1.out, K3.out, ?_⟩
          rw [EA.out, List.map_append, List.length_append, frm_len, HLA.out, HL2.out]
          exact OW3.out
        case measure => simp [intOf]; omega
      · have HF := Lib.hid (fun w1 => frame7_no a' l c' r hl2 (by omega) ho w1)
        have HNO := Lib.hid ho
        clear hk hown hok hsl hb hr hl2 hjj ej hjl hmm hlt ho
        go_wp2_with (go_at_call 23; (with_reducible refine (HF.out _).mono ?_); rintro e w2 ⟨rfl, rfl⟩)
        go_ret2
        exact ⟨.inr ⟨fun q => HNO.out (q r MR.out), rfl⟩, K.out⟩
    · obtain rfl : j = m := by omega
      have hful : rs.take j = rs := List.take_of_length_le (by omega)
      rw [hful] at hown hok
      have hex : ¬ jj < j := by omega
      have OKr := Lib.hid hok
      have OW := Lib.hid hown
      clear hk hown hok hjj hlt hful OK hmm
      go_wp2
      go_ret2
      exact ⟨.inl ⟨OKr.out, _, rfl, OW.out⟩, K.out⟩
end Go.Proofs.YtpehmkglkjlmfaaDoor
