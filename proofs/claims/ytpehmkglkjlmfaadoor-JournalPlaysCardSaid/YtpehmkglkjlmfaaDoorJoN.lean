/-
  A JOURNAL's CODE KEEPS ITS CONTRACTS (own work): right, frameSize, Frame, join. A JOURNAL's ROWS, each in a block of its own (own work). A JOURNAL's CODE KEEPS ITS CONTRACTS: how it lies; Len, Size, Dead, Rows (own work). A JOURNAL's CODE KEEPS ITS CONTRACTS: a journal and its tape amid a call (own work). A JOURNAL's CODE KEEPS ITS CONTRACTS: write, and what Put and Compact hand it (own work). A JOURNAL's CODE KEEPS ITS CONTRACTS: Put, Compact (own work).
-/
import Derived.Test.YtpehmkglkjlmfaaDoorLaidJ
import Derived.Test.YtpehmkglkjlmfaaDoorJouC
import Derived.Test.YtpehmkglkjlmfaaDoorSealC
import Derived.Test.YtpehmkglkjlmfaaDoorAppO
import Derived.Test.YtpehmkglkjlmfaaDoorRed7
import Derived.Test.YtpehmkglkjlmfaaDoorAppS
import Derived.Test.YtpehmkglkjlmfaaDoorClo
import Derived.Test.YtpehmkglkjlmfaaDoorDigC
import Derived.Test.YtpehmkglkjlmfaaDoorRef6
import Derived.Deep.RegionHeld3
namespace Go.Proofs.YtpehmkglkjlmfaaDoor
open Go.RowKit Go.ChangeShapes Go.WideShapes

theorem jright_yes (n : Int) (h1 : 1 ≤ n) (h2 : n ≤ 200) (w : World) :
    Calls Tryd.prog 47 #[.int .i64 n] w fun e w' => e = .returned (.bool true) ∧ w = w' := by
  go_enter Tryd.func47, Tryd.ntmps47
  go_wp2
  go_ret
  exact ⟨rfl, rfl⟩
theorem jright_no (n : Int) (h : n < 1 ∨ 200 < n) (w : World) :
    Calls Tryd.prog 47 #[.int .i64 n] w fun e w' => e = .returned (.bool false) ∧ w = w' := by
  rcases h with h | h
  · have h1 : ¬ 1 ≤ n := by omega
    clear h
    go_enter Tryd.func47, Tryd.ntmps47
    go_wp2
    go_ret
    exact ⟨rfl, rfl⟩
  · have h1 : 1 ≤ n := by omega
    have h2 : ¬ n ≤ 200 := by omega
    clear h
    go_enter Tryd.func47, Tryd.ntmps47
    go_wp2
    go_ret
    exact ⟨rfl, rfl⟩
theorem jfsize_any (n : Int) (h1 : 0 ≤ n) (h2 : n ≤ 1000000) (w : World) :
    Calls Tryd.prog 45 #[.int .i64 n] w fun e w' => e = .returned (.int .i64 (n + 6)) ∧ w = w' := by
  obtain ⟨s, hs⟩ : ∃ s, n + 6 = s := ⟨_, rfl⟩
  have e1 : 2 + n + 4 = s := by omega
  rw [hs]
  clear hs
  go_enter Tryd.func45, Tryd.ntmps45
  go_wp2
  go_ret
  exact ⟨rfl, rfl⟩

set_option maxRecDepth 100000 in
theorem jframe_no (ads : List Addr) (a : Option Addr) (n c : Nat) (r : List Int) (hn : r.length = n) (hl : n ≤ 100000) (ho : ¬ okR r) (w : World) (c4 : w.cell? ⟨0, 0, none⟩ = some (errI ads 4)) :
    Calls Tryd.prog 22 #[.slice a n c] w fun e w' => e = .returned (.tuple #[.slice none 0 0, errI ads 4]) ∧ Kp w w' := by
  rw [okR_num hn] at ho
  obtain ⟨nn, hnn⟩ : ∃ x : Int, (n : Int) = x := ⟨_, rfl⟩
  obtain ⟨e4, he4⟩ : ∃ x, errI ads 4 = x := ⟨_, rfl⟩
  rw [he4] at c4 ⊢
  have HR := Lib.hid (jright_no nn (by omega))
  clear hn he4 ho hl
  go_enter Tryd.func22, Tryd.ntmps22
  go_wp2_with (go_at_call 47; (with_reducible refine (HR.out _).mono ?_); rintro e w2 ⟨rfl, rfl⟩)
  go_quiet (fail)
  go_wp2
  go_ret2
  exact ⟨rfl, Kp.drewN (Kp.refl _) _⟩

set_option maxRecDepth 100000 in
set_option maxHeartbeats 2000000 in
theorem jframe_ok (a : Option Addr) (n c : Nat) (r : List Int) (hn : r.length = n) (hb : InB r) (ho : okR r) (w : World) (ht : Tb w) (hs : SlB (.slice a n c) r w) :
    Calls Tryd.prog 22 #[.slice a n c] w fun e w' => ∃ v, e = .returned (.tuple #[v, .nilIface]) ∧ w'.ownsRow w.heap.size 5 1 v (n + 6) ((frm r).map (Value.int .u8)) ∧ Kp w w' := by
  rw [okR_num hn] at ho
  obtain ⟨nn, hnn⟩ : ∃ x : Int, (n : Int) = x := ⟨_, rfl⟩
  have x0 : 0 ≤ nn := by omega
  have x1 : nn ≤ 200 := by omega
  have HR := Lib.hid (jright_yes nn (by omega) x1)
  have HSE := Lib.hid (fun w1 (hk : Kp w w1) => seal_any a n c r hn (by omega) hb w1 (ht.kp hk) (hs.kp hk))
  have HN := Lib.hid hn
  have e0 : (hd2 n).map (Value.int .u8) = [Value.int .u8 (nn / 256), .int .u8 nn] := by
    have e1 : ((n % 256 : Nat) : Int) = nn := by omega
    have e2 : ((n / 256 : Nat) : Int) = nn / 256 := by omega
    simp only [hd2, List.map_cons, List.map_nil, e1, e2]
  have HI2 : InB (hd2 n) := hd2_in (by omega)
  have HL2 : (hd2 n).length = 2 := rfl
  have S1 : SlB (.slice (some ⟨w.heap.size, 0, none⟩) 2 2) (hd2 n) (w.alloc (.cells #[.int .u8 (nn / 256), .int .u8 nn] 5)) := by
    have h := World.ownsRow_lit (base := w.heap.size) (e := 5) (size := 1) w #[.int .u8 (nn / 256), .int .u8 nn] 2 (Nat.le_refl _) (by decide) rfl
    exact own_slb (by rw [e0]; exact h)
  have HS1 := Lib.hid S1
  have HHI := Lib.hid HI2
  have HHL := Lib.hid HL2
  have HBR := Lib.hid hb
  have HLR := Lib.hid (show n + 4 ≤ 1000 by omega)
  have K1 := Lib.hid (kp_alloc w (.cells #[.int .u8 (nn / 256), .int .u8 nn] 5))
  clear hs hn hb ho ht e0 S1 HI2 HL2
  go_enter Tryd.func22, Tryd.ntmps22
  go_wp2_with (first
    | (go_at_call 47; (with_reducible refine (HR.out _).mono ?_); rintro e w2 ⟨rfl, rfl⟩)
    | (go_at_call 49; (with_reducible refine (HSE.out _ K1.out).mono ?_); rintro e w2 ⟨v2, rfl, hown, hk⟩; have K2 := Lib.hid (Kp.trans K1.out hk); have S2 := Lib.hid (own_slb hown); have T1 := Lib.hid (HS1.out.kp hk); have HV : ∃ a2 c2, v2 = .slice a2 (n + 4) c2 := (by rcases hown.2 with ⟨rfl, q⟩ | ⟨gb, cap, cur, rfl, _⟩; exact ⟨none, 0, by cases q⟩; exact ⟨_, _, rfl⟩); obtain ⟨a2, c2, rfl⟩ := HV; have HC := Lib.hid (concat_any _ _ (by simp) (fun l hl' => by rcases List.mem_cons.1 hl' with h | h; (rw [h, HHL.out]; decide); (rw [List.mem_singleton.1 h, List.length_append, HN.out]; exact HLR.out)) _ (bb_two (t := 46) T1.out HHL.out HHI.out S2.out (by rw [List.length_append, HN.out]; rfl) (fun x hx => by rcases List.mem_append.1 hx with q | q; exact HBR.out x q; exact four_in _ x q))); clear hown hk)
    | (go_at_call 48; (with_reducible refine HC.out.mono ?_); rintro e w3 ⟨v3, rfl, ho3, hk3⟩; have K3 := Lib.hid (Kp.trans K2.out (Kp.trans (kp_alloc _ _) hk3)); have O3 := Lib.hid ho3; clear ho3 hk3))
  go_ret2
  refine ⟨_, rfl, ?_, K3.out⟩
  have h := own_mono O3.out (show w.heap.size ≤ _ from Nat.le_trans (Below.size K2.out) (Below.size (kp_alloc _ _)))
  have e1 : [hd2 n, r ++ four (crc r)].flatten = frm r := by simp [frm, HN.out]
  rw [e1, frm_len, HN.out] at h
  exact h

/-- all rows' frames, as Put and Compact want them -/
theorem jframes_any (ads : List Addr) (a : Option Addr) (m cp : Nat) (rs : List (List Int)) (hm : rs.length = m) (hl : m ≤ 100) (hin : ∀ r ∈ rs, InB r ∧ r.length ≤ 100000) (w : World) (ht : Tb w) (c4 : w.cell? ⟨0, 0, none⟩ = some (errI ads 4)) (hs : SlBB (.slice a m cp) rs w) :
    Calls Tryd.prog 72 #[.slice a m cp] w fun e w' => ((okRs rs ∧ ∃ v, e = .returned (.tuple #[v, .nilIface]) ∧ w'.ownsRow w.heap.size 5 1 v (allF rs).length ((allF rs).map (Value.int .u8))) ∨ (¬ okRs rs ∧ e = .returned (.tuple #[.slice none 0 0, errI ads 4]))) ∧ Kp w w' := by
  have HS := Lib.hid (fun w1 (hk : Kp w w1) (j : Nat) (hj : j < rs.length) => (hs.kp hk).at j hj)
  have HM := Lib.hid hm
  have HIN := Lib.hid hin
  have HT := Lib.hid ht
  have HC4 := Lib.hid c4
  obtain ⟨o4, ho4⟩ : ∃ o, errI ads 4 = .iface 121 (.pointer o) := ⟨_, if_neg (by decide)⟩
  have HO4 := Lib.hid ho4
  clear hs hm hin ht c4
  go_enter Tryd.func72, Tryd.ntmps72
  go_wp2
  go_loopw [4, 11] (fun v i wr => ∃ j : Nat, j ≤ m ∧ i = .int .i64 j ∧ okRs (rs.take j) ∧ Kp w wr ∧ wr.ownsRow w.heap.size 5 1 v (allF (rs.take j)).length ((allF (rs.take j)).map (Value.int .u8))) (fun _ i _ => m - (intOf i).toNat)
  case atStart => exact ⟨0, Nat.zero_le _, rfl, fun r hr => (by cases hr), Kp.refl _, World.ownsRow_nil _ _ _ _⟩
  case round =>
    obtain ⟨j, hj, rfl, hok, hk, hown⟩ := hrel
    obtain ⟨jj, hjj⟩ : ∃ jj : Int, (j : Int) = jj := ⟨_, rfl⟩
    rw [hjj]
    have K := Lib.hid hk
    have HJ := Lib.hid hjj
    have OK := Lib.hid hok
    have hmm := HM.out
    by_cases hlt : j < m
    · have hjl : j < rs.length := by omega
      obtain ⟨b, off, rfl, a', c', hc, hsl, hb⟩ := HS.out wr hk j hjl
      have hlen := (HIN.out rs[j] (List.getElem_mem hjl)).2
      have SR := Lib.hid (show rs.take (j + 1) = rs.take j ++ [rs[j]] from List.take_succ_eq_append_getElem hjl)
      have MR := Lib.hid (show rs[j] ∈ rs from List.getElem_mem hjl)
      obtain ⟨r, hr⟩ : ∃ r, rs[j] = r := ⟨_, rfl⟩
      rw [hr] at hc hsl hb hlen SR MR
      obtain ⟨l, hl2⟩ : ∃ l, r.length = l := ⟨_, rfl⟩
      rw [hl2] at hc hsl hlen
      have ej : jj.toNat = j := by omega
      rw [← ej] at hc
      have hj0 : 0 ≤ jj := by omega
      have hltj : jj < m := by omega
      by_cases ho : okR r
      · have HF := Lib.hid (fun w1 (hk : Kp wr w1) => jframe_ok a' l c' r hl2 hb ho w1 (HT.out.kp (Kp.trans K.out hk)) (hsl.kp hk))
        obtain ⟨A, hA⟩ : ∃ x, allF (rs.take j) = x := ⟨_, rfl⟩
        have EA := Lib.hid (show allF (rs.take (j + 1)) = A ++ frm r by rw [SR.out, allF_app, hA, allF_one])
        have OK1 := Lib.hid (show okRs (rs.take (j + 1)) by rw [SR.out]; exact okRs_app OK.out (fun x hx => by obtain rfl := List.mem_singleton.1 hx; exact ho))
        have h7 := allF_le OK1.out
        have h8 : (rs.take (j + 1)).length ≤ m := by rw [List.length_take]; omega
        rw [EA.out, List.length_append, frm_len, hl2] at h7
        rw [hA] at hown
        obtain ⟨la, hla⟩ : ∃ x, A.length = x := ⟨_, rfl⟩
        rw [hla] at hown h7
        have h9 : la + (l + 6) ≤ 1000000 := by omega
        have OW := Lib.hid hown
        have HLA := Lib.hid hla
        have HL2 := Lib.hid hl2
        have HLT := Lib.hid hlt
        clear hk hown hok hsl hb hr hl2 hjj ej hjl hmm hA hla hlt ho h7 h8
        go_wp2_with (first
          | (go_at_call 22; (with_reducible refine (HF.out _ (Kp.refl _)).mono ?_); rintro e w2 ⟨v2, rfl, hown2, hk2⟩; have K2 := Lib.hid (Kp.trans K.out hk2); have OWb := Lib.hid (own_kp OW.out hk2); have S2 := Lib.hid (own_slb hown2); have HV : ∃ a2 c2, v2 = .slice a2 (l + 6) c2 := (by rcases hown2.2 with ⟨rfl, q⟩ | ⟨gb, cap, cur, rfl, _⟩; exact ⟨none, 0, by cases q⟩; exact ⟨_, _, rfl⟩); obtain ⟨a2, c2, rfl⟩ := HV; clear hown2 hk2)
          | (at_builtin; refine wpList_append_blk _ rfl _ _ rfl w.heap.size _ _ _ rfl OWb.out a2 (l + 6) c2 (frm r) rfl S2.out ?d1 ?d2 ?_))
        case d1 => omega
        case d2 => exact Below.size K2.out
        intro v3 w3 hown3 hgr3 _
        have K3 := Lib.hid (row_kp OWb.out hgr3 K2.out)
        have OW3 := Lib.hid hown3
        clear hown3 hgr3
        go_wp2
        have hjj := HJ.out
        have hlt2 := HLT.out
        go_round
        case rel =>
          refine ⟨j + 1, by omega, by congr 1; omega, OK1.out, K3.out, ?_⟩
          rw [EA.out, List.map_append, List.length_append, frm_len, HLA.out, HL2.out]
          exact OW3.out
        case measure => simp [intOf]; omega
      · have HF := fun w1 (hk : Kp w w1) => jframe_no ads a' l c' r hl2 hlen ho w1 (kp_cell hk HC4.out)
        simp only [HO4.out] at HF
        have HF := Lib.hid HF
        have HNO := Lib.hid ho
        clear hk hown hok hsl hb hr hl2 hjj ej hjl hmm hlt ho
        go_wp2_with (go_at_call 22; (with_reducible refine (HF.out _ K.out).mono ?_); rintro e w2 ⟨rfl, hk2⟩; have K2 := Lib.hid (Kp.trans K.out hk2); clear hk2)
        go_ret2
        exact ⟨.inr ⟨fun q => HNO.out (q r MR.out), by rw [HO4.out]; rfl⟩, K2.out⟩
    · obtain rfl : j = m := by omega
      have hful : rs.take j = rs := List.take_of_length_le (by omega)
      rw [hful] at hown hok
      have hex : ¬ jj < j := by omega
      have OKr := Lib.hid hok
      have OW := Lib.hid hown
      clear hk hown hok hjj hlt hful OK hmm
      go_wp2
      go_ret2
      exact ⟨.inl ⟨OKr.out, _, rfl, OW.out⟩, K.out⟩
end Go.Proofs.YtpehmkglkjlmfaaDoor

namespace Go.Proofs.YtpehmkglkjlmfaaDoor
open Go.RowKit Go.ChangeShapes Go.WideShapes

/-- slice values that are rows of the journal's own, newer than base -/
def Cln (base : Nat) (us : List Value) (rs : List (List Int)) (w : World) : Prop :=
  us.length = rs.length ∧ ∀ (i : Nat) (h : i < rs.length), ∃ u, us[i]? = some u ∧ w.ownsRow base 5 1 u rs[i].length (rs[i].map (Value.int .u8)) ∧ InB rs[i]
/-- none of them lies in the list's own block -/
def Sep (v : Value) (us : List Value) : Prop := ∀ b, v.ownBlock = some b → ∀ u ∈ us, u.ownBlock ≠ some b
variable {w w' w1 w2 w3 w4 : World} {base : Nat} {us : List Value} {rs : List (List Int)} {v v' v8 : Value} {r : List Int}
theorem Cln.nil (base : Nat) (w : World) : Cln base [] [] w := ⟨rfl, fun i hi => by cases hi⟩
theorem Cln.stay (h : Cln base us rs w) (hb : ∀ u ∈ us, ∀ b, u.ownBlock = some b → w'.heap[b]? = w.heap[b]?) : Cln base us rs w' :=
  ⟨h.1, fun i hi => by
    obtain ⟨u, e, ho, hin⟩ := h.2 i hi
    exact ⟨u, e, own_stay2 ho (hb u (List.mem_of_getElem? e)), hin⟩⟩
theorem Cln.lt (h : Cln base us rs w) : ∀ u ∈ us, ∀ b, u.ownBlock = some b → base ≤ b ∧ b < w.heap.size := fun u hu b hb => by
  obtain ⟨i, hi, rfl⟩ := List.getElem_of_mem hu
  obtain ⟨u, e, ho, -⟩ := h.2 i (by rw [← h.1]; exact hi)
  rw [List.getElem?_eq_getElem hi] at e
  injection e with e
  rw [e] at hb
  exact ⟨own_blk ho hb, own_lt2 ho hb⟩
theorem Cln.vals (h : Cln base us rs w) : Vals us rs w := ⟨h.1, fun i hi => by
  obtain ⟨u, e, ho, hin⟩ := h.2 i hi
  have hs := own_slb ho
  rcases ho.2 with ⟨rfl, q⟩ | ⟨g, cap, cur, rfl, _⟩
  · refine ⟨none, 0, ?_, ?_, hin⟩
    · rw [e, q]
    · rw [q]; exact hs
  · exact ⟨_, _, e, hs, hin⟩⟩
/-- one more, just cloned -/
theorem cln_step (hv : ∀ b, v.ownBlock = some b → b < w1.heap.size) (hc : Cln base us rs w1) (hsep : Sep v us) (h8 : w2.ownsRow w1.heap.size 5 1 v8 r.length (r.map (Value.int .u8))) (hb : InB r) (k3 : Kp w1 w3) (k23 : Kp w2 w3) (hs12 : w1.heap.size ≤ w2.heap.size) (hbase : base ≤ w1.heap.size) (hgr : w3.grownBy w4 v.ownBlock) (hbk : ∀ b, v'.ownBlock = some b → v.ownBlock = some b ∨ w3.heap.size ≤ b) :
    Cln base (us ++ [v8]) (rs ++ [r]) w4 ∧ Sep v' (us ++ [v8]) := by
  have h8b : ∀ b, v8.ownBlock = some b → w1.heap.size ≤ b ∧ b < w3.heap.size := fun b q => ⟨own_blk h8 q, Nat.lt_of_lt_of_le (own_lt2 h8 q) (Below.size k23)⟩
  have hus : ∀ u ∈ us, ∀ b, u.ownBlock = some b → b < w1.heap.size ∧ v.ownBlock ≠ some b := fun u hu b q => ⟨(hc.lt u hu b q).2, fun p => hsep b p u hu q⟩
  have hsz := Below.size k3
  have hold : Cln base us rs w4 := hc.stay (fun u hu b q => by
    have h1 := hus u hu b q
    rw [hgr.block b (by omega) (fun p => h1.2 p.symm)]
    exact Below.block k3 b h1.1)
  have hnew : w4.ownsRow base 5 1 v8 r.length (r.map (Value.int .u8)) := own_mono (own_stay2 (w' := w4) h8 (fun b q => by
    have h1 := h8b b q
    rw [hgr.block b h1.2 (fun p => by have := hv b p.symm; omega)]
    exact Below.block k23 b (own_lt2 h8 q))) hbase
  have _u := hs12
  clear _u
  refine ⟨⟨by simp [hc.1], fun i hi => ?_⟩, fun b hb u hu q => ?_⟩
  · by_cases hlt : i < rs.length
    · obtain ⟨u, e, ho, hin⟩ := hold.2 i hlt
      have er : (rs ++ [r])[i] = rs[i] := List.getElem_append_left hlt
      rw [er, List.getElem?_append_left (by rw [hc.1]; exact hlt)]
      exact ⟨u, e, ho, hin⟩
    · have hi2 : i = rs.length := by simp at hi; omega
      subst hi2
      have er : (rs ++ [r])[rs.length] = r := by simp
      rw [er, ← hc.1, List.getElem?_append_right (Nat.le_refl _), Nat.sub_self]
      exact ⟨v8, rfl, hnew, hb⟩
  · rcases List.mem_append.1 hu with p | p
    · have h1 := hus u p b q
      rcases hbk b hb with e | e
      · exact h1.2 e
      · omega
    · obtain rfl := List.mem_singleton.1 p
      have h1 := h8b b q
      rcases hbk b hb with e | e
      · have := hv b e; omega
      · omega
/-- what is handed out may be written -/
theorem Cln.out (hown : w.ownsRow base 46 1 v rs.length us) (hc : Cln base us rs w) (hsep : Sep v us) (hok : okRs rs) : Out base v rs w := fun i hi => by
  obtain ⟨u, e, ho, -⟩ := hc.2 i hi
  have hpos : 0 < rs[i].length := (hok _ (List.getElem_mem hi)).1
  rcases hown.2 with ⟨rfl, q⟩ | ⟨g, cap, cur, rfl, hg, hh, _⟩
  · omega
  · rcases ho.2 with ⟨rfl, q⟩ | ⟨g2, cap2, cur2, rfl, hg2, hh2, _⟩
    · omega
    · have hcell := hown.cellAt i (by omega)
      refine ⟨g, 0, g2, 0, cap2, _, cap, rfl, ?_, fun q => ?_, hg2, hg, fun k => ?_⟩
      · rw [Nat.zero_add, hcell]
        exact e
      · exact hsep g rfl _ (List.mem_of_getElem? e) (by rw [← q]; rfl)
      · unfold World.frozen?
        dsimp only
        rw [hh2]
        simp

theorem rep_set {us : List Value} {j m : Nat} {z u : Value} (hu : us.length = j) (hj : j < m) : (us ++ List.replicate (m - j) z).set j u = (us ++ [u]) ++ List.replicate (m - (j + 1)) z := by
  obtain ⟨k, rfl⟩ : ∃ k, m = j + 1 + k := ⟨m - (j + 1), by omega⟩
  rw [show j + 1 + k - j = k + 1 by omega, show j + 1 + k - (j + 1) = k by omega, List.replicate_succ, List.set_append_right _ _ (by omega), hu, Nat.sub_self]
  simp
theorem rep_get {us : List Value} {j m : Nat} {z : Value} (hu : us.length = j) (hj : j < m) : (us ++ List.replicate (m - j) z)[j]? = some z := by
  rw [List.getElem?_append_right (by omega), hu, Nat.sub_self, List.getElem?_replicate, if_pos (by omega)]

set_option maxRecDepth 100000 in
/-- copies: rows in memory of their own -/
theorem jcopies_any (a : Option Addr) (m cp : Nat) (rs : List (List Int)) (hm : rs.length = m) (hl : m ≤ 9362) (hin : ∀ r ∈ rs, InB r ∧ r.length ≤ 100000) (w : World) (hs : SlBB (.slice a m cp) rs w) :
    Calls Tryd.prog 44 #[.slice a m cp] w fun e w' => ∃ us, e = .returned (.slice (some ⟨w.heap.size, 0, none⟩) m m) ∧ w'.ownsRow w.heap.size 46 1 (.slice (some ⟨w.heap.size, 0, none⟩) m m) m us ∧ Cln w.heap.size us rs w' ∧ Sep (.slice (some ⟨w.heap.size, 0, none⟩) m m) us ∧ Kp w w' := by
  have HS := Lib.hid (fun w1 (hk : Kp w w1) (j : Nat) (hj : j < rs.length) => (hs.kp hk).at j hj)
  have HM := Lib.hid hm
  have HIN := Lib.hid hin
  obtain ⟨i0, hi, hz0, hz1, hz2⟩ := info_parts info_rowT
  have HI := Lib.hid (And.intro hz1 hz2)
  have HI2 := Lib.hid hi
  have HI3 := Lib.hid hz0
  have HLm := Lib.hid hl
  clear hs hm hin hz1 hz2 hi hz0
  go_enter Tryd.func44, Tryd.ntmps44
  go_wp2_with (at_make; refine wpList_make_full _ rfl _ _ 42 rfl w.heap.size 46 i0 (.slice none 0 0) 1 Tryd.underlying42 HI2.out HI3.out HI.out.1 .i64 .i64 _ _ m rfl rfl ?m1 ?m2 ?m3 ?m4 ?m5 ?_)
  case m1 => rfl
  case m2 => rfl
  case m3 => rw [HI.out.2]; omega
  case m4 => unfold maxLen; omega
  case m5 => exact Nat.le_refl _
  rintro w1 hown1 hgr1
  have K1 : Hid (Kp w w1) := Lib.hid ((Below.refl _ _).grown hgr1 (Nat.le_refl _) (fun k hk => by cases hk))
  have h0 : w1.ownsRow w.heap.size 46 1 (.slice (some ⟨w.heap.size, 0, none⟩) m m) m ([] ++ List.replicate (m - 0) (.slice none 0 0)) := by
    have e : (madeCells #[.slice none 0 0] m).toList = [] ++ List.replicate (m - 0) (.slice none 0 0) := by
      rw [List.nil_append, Nat.sub_zero]
      exact made_rep _ _
    rw [← e]; exact hown1
  have OW1 := Lib.hid h0
  obtain ⟨L, hL⟩ : ∃ L, w.heap.size = L := ⟨_, rfl⟩
  rw [hL] at OW1 ⊢
  have HLL := Lib.hid hL
  clear hown1 hgr1 h0 hL
  go_wp2
  go_loopw [11] (fun i wr => ∃ (j : Nat) (us : List Value), j ≤ m ∧ i = .int .i64 j ∧ Kp w wr ∧ wr.ownsRow L 46 1 (.slice (some ⟨L, 0, none⟩) m m) m (us ++ List.replicate (m - j) (.slice none 0 0)) ∧ Cln L us (rs.take j) wr ∧ Sep (.slice (some ⟨L, 0, none⟩) m m) us) (fun i _ => m - (intOf i).toNat)
  case atStart => exact ⟨0, [], Nat.zero_le _, rfl, K1.out, OW1.out, Cln.nil _ _, fun b hb u hu => (by cases hu)⟩
  case round =>
    obtain ⟨j, us, hj, rfl, hk, hown, hc, hsep⟩ := hrel
    obtain ⟨jj, hjj⟩ : ∃ jj : Int, (j : Int) = jj := ⟨_, rfl⟩
    rw [hjj]
    have K := Lib.hid hk
    have HJ := Lib.hid hjj
    have HC := Lib.hid hc
    have HSEP := Lib.hid hsep
    have OW := Lib.hid hown
    have hmm := HM.out
    by_cases hlt : j < m
    · have hjl : j < rs.length := by omega
      obtain ⟨b, off, rfl, a', c', hcell, hsl, hb⟩ := HS.out wr hk j hjl
      have SR := Lib.hid (show rs.take (j + 1) = rs.take j ++ [rs[j]] from List.take_succ_eq_append_getElem hjl)
      have hlen := (HIN.out rs[j] (List.getElem_mem hjl)).2
      have hul : us.length = j := by rw [hc.1, List.length_take]; omega
      have HUL := Lib.hid hul
      obtain ⟨r, hr⟩ : ∃ r, rs[j] = r := ⟨_, rfl⟩
      rw [hr] at hcell hsl hb SR hlen
      have HB := Lib.hid hb
      have HCL := Lib.hid (fun w1 (hk : Kp wr w1) => clone_any (.slice a' r.length c') r (by omega) w1 (hsl.kp hk))
      obtain ⟨l, hl2⟩ : ∃ l, r.length = l := ⟨_, rfl⟩
      rw [hl2] at hcell hsl HCL
      have HL2 := Lib.hid hl2
      have ej : jj.toNat = j := by omega
      have EJ := Lib.hid ej
      rw [← ej] at hcell
      have hj0 : 0 ≤ jj := by omega
      have hltj : jj < m := by omega
      have HLT := Lib.hid hlt
      clear hk hown hc hsep hsl hb hr hl2 hjj ej hjl hmm hlt hlen hul
      go_wp2_with (go_at_call 46; (with_reducible refine (HCL.out _ (Kp.refl _)).mono ?_); rintro e w2 ⟨v8, rfl, hown8, hk2⟩; have K2 := Lib.hid hk2; have O8 := Lib.hid hown8; have HV : ∃ a8 c8, v8 = .slice a8 l c8 := (by rcases hown8.2 with ⟨rfl, q⟩ | ⟨gb, cap, cur, rfl, _⟩; exact ⟨none, 0, by rw [← q]⟩; exact ⟨_, _, rfl⟩); obtain ⟨a8, c8, rfl⟩ := HV; have OW3 := Lib.hid (own_kp OW.out hk2); have cold : w2.cell? ⟨L, jj.toNat, none⟩ = some (.slice none 0 0) := (by rw [EJ.out]; have h := OW3.out.cellAt j (by have := HLT.out; omega); rw [rep_get HUL.out HLT.out] at h; exact h); have zold : w2.frozen? ⟨L, jj.toNat, none⟩ = false := (by rw [EJ.out]; exact OW3.out.frozenAt j); clear hown8 hk2)
      have hst := OW3.out.stored j (.slice a8 l c8)
      rw [rep_set HUL.out HLT.out] at hst
      have h8 : w2.ownsRow wr.heap.size 5 1 (.slice a8 l c8) r.length (r.map (Value.int .u8)) := by rw [HL2.out]; exact O8.out
      have S5 := cln_step (v := .slice (some ⟨L, 0, none⟩) m m) (v' := .slice (some ⟨L, 0, none⟩) m m) (fun b q => own_lt2 OW.out q) HC.out HSEP.out h8 HB.out K2.out (Kp.refl _) (Below.size K2.out) (by rw [← HLL.out]; exact Below.size K.out) hst.2 (fun b q => .inl q)
      have K5 := Below.grown (Kp.trans K.out K2.out) hst.2 (Below.size (Kp.trans K.out K2.out)) (fun k hk => by rw [← show L = k from Option.some.inj hk]; exact Nat.le_of_eq HLL.out)
      rw [EJ.out]
      have hjj := HJ.out
      have hlt2 := HLT.out
      go_roundw
      case rel =>
        refine ⟨j + 1, us ++ [.slice a8 l c8], by omega, by congr 1; omega, K5, hst.1, ?_, S5.2⟩
        rw [SR.out]
        exact S5.1
      case measure => simp [intOf]; omega
    · obtain rfl : j = m := by omega
      have hful : rs.take j = rs := List.take_of_length_le (by omega)
      rw [hful] at HC
      rw [Nat.sub_self, List.replicate_zero, List.append_nil] at OW
      have hex : ¬ jj < j := by omega
      clear hk hown hc hsep hjj hlt hful hmm
      go_wp2
      go_ret
      rw [HLL.out]
      exact ⟨rfl, us, OW.out, HC.out, HSEP.out, K.out⟩
end Go.Proofs.YtpehmkglkjlmfaaDoor

namespace Go.Proofs.YtpehmkglkjlmfaaDoor
open Go.RowKit Go.ChangeShapes Go.WideShapes

def objJ (g : Nat) (v : Value) (dead : Bool) : Obj := .cells #[.pointer (some ⟨g, 0, none⟩), v, .bool dead] 78 (0, 0)
/-- THE JOURNAL's BLOCK. -/
def JoC (q g : Nat) (v : Value) (dead : Bool) (w : World) : Prop := w.heap[q]? = some (objJ g v dead)
variable {B q g : Nat} {v v' : Value} {dead : Bool} {w w' : World} {us : List Value} {rows : List (List Int)} {j : JM} {OJ : Nat → Prop}
theorem JoC.c0 (h : JoC q g v dead w) : w.cell? ⟨q, 0, none⟩ = some (.pointer (some ⟨g, 0, none⟩)) := by unfold World.cell?; dsimp only; rw [h]; rfl
theorem JoC.c1 (h : JoC q g v dead w) : w.cell? ⟨q, 1, none⟩ = some v := by unfold World.cell?; dsimp only; rw [h]; rfl
theorem JoC.c2 (h : JoC q g v dead w) : w.cell? ⟨q, 2, none⟩ = some (.bool dead) := by unfold World.cell?; dsimp only; rw [h]; rfl
theorem JoC.z (h : JoC q g v dead w) (i : Nat) : w.frozen? ⟨q, i, none⟩ = false := by unfold World.frozen?; dsimp only; rw [h]; simp [objJ]
theorem JoC.set1 (h : JoC q g v dead w) (x : Value) : JoC q g x dead (w.setCell ⟨q, 1, none⟩ x) := (Joins.block_setCell h _).trans rfl
theorem JoC.set2 (h : JoC q g v dead w) (x : Bool) : JoC q g v x (w.setCell ⟨q, 2, none⟩ (.bool x)) := (Joins.block_setCell h _).trans rfl
/-- its block, the list of its rows, each row; all its own, newer than B -/
structure JouS (B q g : Nat) (v : Value) (us : List Value) (rows : List (List Int)) (dead : Bool) (w : World) : Prop where
  c : JoC q g v dead w
  own : w.ownsRow B 46 1 v rows.length us
  cln : Cln B us rows w
  sep : Sep v us
  nq : v.ownBlock ≠ some q
  nu : ∀ u ∈ us, u.ownBlock ≠ some q
  base : B ≤ q
def JBl (q : Nat) (v : Value) (us : List Value) : Nat → Prop := fun b => b = q ∨ v.ownBlock = some b ∨ ∃ u ∈ us, u.ownBlock = some b
theorem JouS.stay (h : JouS B q g v us rows dead w) (hb : ∀ b, JBl q v us b → w'.heap[b]? = w.heap[b]?) : JouS B q g v us rows dead w' :=
  ⟨by unfold JoC; rw [hb q (.inl rfl)]; exact h.c, own_stay2 h.own (fun b e => hb b (.inr (.inl e))), h.cln.stay (fun u hu b e => hb b (.inr (.inr ⟨u, hu, e⟩))), h.sep, h.nq, h.nu, h.base⟩
theorem JouS.mem (h : JouS B q g v us rows dead w) : ∀ b, JBl q v us b → B ≤ b ∧ b < w.heap.size := by
  intro b hb
  rcases hb with rfl | e | ⟨u, hu, e⟩
  · exact ⟨h.base, old_of_row h.c⟩
  · exact ⟨own_blk h.own e, own_lt2 h.own e⟩
  · exact h.cln.lt u hu b e
/-- a cell of its block is another -/
theorem JouS.turn {dead' : Bool} (h : JouS B q g v us rows dead w) (ho : On q w w') (hc : JoC q g v dead' w') : JouS B q g v us rows dead' w' :=
  ⟨hc, own_stay2 h.own (fun b e => ho.block b (own_lt2 h.own e) (fun p => h.nq (by rw [← p]; exact e))), h.cln.stay (fun u hu b e => ho.block b (h.cln.lt u hu b e).2 (fun p => h.nu u hu (by rw [← p]; exact e))), h.sep, h.nq, h.nu, h.base⟩
/-- HOW A JOURNAL LIES in memory. -/
def JouR (B q g : Nat) (j : JM) (OJ : Nat → Prop) (w : World) : Prop :=
  ∃ v us, JouS B q g v us j.rows j.dead w ∧ ∀ b, OJ b ↔ JBl q v us b
theorem JouR.stay (h : JouR B q g j OJ w) (hb : ∀ b, OJ b → w'.heap[b]? = w.heap[b]?) : JouR B q g j OJ w' := by
  obtain ⟨v, us, h1, h2⟩ := h
  exact ⟨v, us, h1.stay (fun b e => hb b ((h2 b).2 e)), h2⟩
theorem JouR.mem (h : JouR B q g j OJ w) : ∀ b, OJ b → B ≤ b ∧ b < w.heap.size := by
  obtain ⟨v, us, h1, h2⟩ := h
  exact fun b hb => h1.mem b ((h2 b).1 hb)
theorem Cln.app {us2 : List Value} {rs rs2 : List (List Int)} (h : Cln B us rs w) (k : Cln B us2 rs2 w) : Cln B (us ++ us2) (rs ++ rs2) w := by
  refine ⟨by simp [h.1, k.1], fun i hi => ?_⟩
  by_cases hlt : i < rs.length
  · obtain ⟨u, e, ho, hin⟩ := h.2 i hlt
    have er : (rs ++ rs2)[i] = rs[i] := List.getElem_append_left hlt
    rw [er, List.getElem?_append_left (by rw [h.1]; exact hlt)]
    exact ⟨u, e, ho, hin⟩
  · have hi2 : i - rs.length < rs2.length := by rw [List.length_append] at hi; omega
    obtain ⟨u, e, ho, hin⟩ := k.2 (i - rs.length) hi2
    have er : (rs ++ rs2)[i] = rs2[i - rs.length] := List.getElem_append_right (by omega)
    rw [er, List.getElem?_append_right (by rw [h.1]; omega), h.1]
    exact ⟨u, e, ho, hin⟩
theorem Cln.mono {B' : Nat} {rs : List (List Int)} (h : Cln B us rs w) (hb : B' ≤ B) : Cln B' us rs w :=
  ⟨h.1, fun i hi => by
    obtain ⟨u, e, ho, hin⟩ := h.2 i hi
    exact ⟨u, e, own_mono ho hb, hin⟩⟩
theorem Cln.kp {rs : List (List Int)} (h : Cln B us rs w) (hk : Kp w w') : Cln B us rs w' := h.stay (fun u hu b e => Below.block hk b (h.lt u hu b e).2)
/-- rows of one's own behind the others, and the list's cell turned -/
theorem JouS.more {w3 w4 : World} {us2 : List Value} {rs : List (List Int)} (h : JouS B q g v us rows dead w) (hst : ∀ b, JBl q v us b → w3.heap[b]? = w.heap[b]?) (hc2 : Cln B us2 rs w3) (hn2 : ∀ u ∈ us2, ∀ b, u.ownBlock = some b → ¬ JBl q v us b) (hgr : w3.grownBy w4 v.ownBlock) (hbk : ∀ b, v'.ownBlock = some b → v.ownBlock = some b ∨ w3.heap.size ≤ b)
    (hown : w4.ownsRow B 46 1 v' (rows.length + rs.length) (us ++ us2)) : JouS B q g v' (us ++ us2) (rows ++ rs) dead (w4.setCell ⟨q, 1, none⟩ v') := by
  have h3 := h.stay hst
  have hq := old_of_row h3.c
  have hold : Cln B us rows w4 := h3.cln.stay (fun u hu b e => hgr.block b (h3.cln.lt u hu b e).2 (fun p => h3.sep b p.symm u hu e))
  have hnew : Cln B us2 rs w4 := hc2.stay (fun u hu b e => hgr.block b (hc2.lt u hu b e).2 (fun p => hn2 u hu b e (.inr (.inl p.symm))))
  have hc4 : JoC q g v dead w4 := by
    unfold JoC
    rw [hgr.block q hq (fun p => h.nq p.symm)]
    exact h3.c
  have hnv : v'.ownBlock ≠ some q := fun e => by
    rcases hbk q e with p | p
    · exact h.nq p
    · omega
  have hnu : ∀ u ∈ us ++ us2, u.ownBlock ≠ some q := fun u hu e => by
    rcases List.mem_append.1 hu with p | p
    · exact h.nu u p e
    · exact hn2 u p q e (.inl rfl)
  have hsep : Sep v' (us ++ us2) := fun b hb u hu e => by
    rcases List.mem_append.1 hu with p | p
    · rcases hbk b hb with x | x
      · exact h.sep b x u p e
      · have := (h3.cln.lt u p b e).2; omega
    · rcases hbk b hb with x | x
      · exact hn2 u p b e (.inr (.inl x))
      · have := (hc2.lt u p b e).2; omega
  have hne : ∀ b, b ≠ q → (w4.setCell ⟨q, 1, none⟩ v').heap[b]? = w4.heap[b]? := fun b hb => Below.heap_setCell _ _ _ _ hb
  refine ⟨hc4.set1 v', ?_, (hold.app hnew).stay (fun u hu b e => hne b (fun p => hnu u hu (by rw [← p]; exact e))), hsep, hnv, hnu, h.base⟩
  rw [List.length_append]
  exact own_stay2 hown (fun b e => hne b (fun p => hnv (by rw [← p]; exact e)))
theorem more_asd {w3 w4 : World} {us2 : List Value} {rs : List (List Int)} (hc2 : Cln w.heap.size us2 rs w3) (k3 : Kp w w3) (hgr : w3.grownBy w4 v.ownBlock) (hbk : ∀ b, v'.ownBlock = some b → v.ownBlock = some b ∨ w3.heap.size ≤ b) :
    Asd (JBl q v us) (JBl q v' (us ++ us2)) w (w4.setCell ⟨q, 1, none⟩ v') := by
  have hsz := Below.size k3
  have hne : ∀ b, b ≠ q → (w4.setCell ⟨q, 1, none⟩ v').heap[b]? = w4.heap[b]? := fun b hb => Below.heap_setCell _ _ _ _ hb
  refine ⟨?_, ?_, ?_, ?_, fun b hb hn => ?_, fun b hb => ?_⟩
  · exact hgr.os.trans k3.os
  · exact hgr.tape.trans k3.tape
  · exact hgr.output.trans k3.output
  · have := hgr.size; simp; omega
  · rw [hne b (fun p => hn (.inl p)), hgr.block b (by omega) (fun p => hn (.inr (.inl p.symm)))]
    exact Below.block k3 b hb
  · rcases hb with e | e | ⟨u, hu, e⟩
    · exact .inl (.inl e)
    · rcases hbk b e with p | p
      · exact .inl (.inr (.inl p))
      · exact .inr (by omega)
    · rcases List.mem_append.1 hu with p | p
      · exact .inl (.inr (.inr ⟨u, p, e⟩))
      · exact .inr (hc2.lt u p b e).1
/-- other rows in the place of all -/
theorem JouS.repl {w3 : World} {us2 : List Value} {rs : List (List Int)} (h : JouS B q g v us rows dead w) (k3 : Kp w w3) (hown : w3.ownsRow w.heap.size 46 1 v' rs.length us2) (hc2 : Cln w.heap.size us2 rs w3) (hsep : Sep v' us2) :
    JouS B q g v' us2 rs dead (w3.setCell ⟨q, 1, none⟩ v') ∧ Asd (JBl q v us) (JBl q v' us2) w (w3.setCell ⟨q, 1, none⟩ v') := by
  have hq := old_of_row h.c
  have hB : B ≤ w.heap.size := by have := h.base; omega
  have h3 : JoC q g v dead w3 := by
    unfold JoC
    rw [Below.block k3 q hq]
    exact h.c
  have hnv : v'.ownBlock ≠ some q := fun e => by have := own_blk hown e; omega
  have hnu : ∀ u ∈ us2, u.ownBlock ≠ some q := fun u hu e => by have := (hc2.lt u hu q e).1; omega
  have hne : ∀ b, b ≠ q → (w3.setCell ⟨q, 1, none⟩ v').heap[b]? = w3.heap[b]? := fun b hb => Below.heap_setCell _ _ _ _ hb
  refine ⟨⟨h3.set1 v', own_mono (own_stay2 hown (fun b e => hne b (fun p => hnv (by rw [← p]; exact e)))) hB, (hc2.stay (fun u hu b e => hne b (fun p => hnu u hu (by rw [← p]; exact e)))).mono hB, hsep, hnv, hnu, h.base⟩, ?_⟩
  refine ⟨k3.os, k3.tape, k3.output, ?_, fun b hb hn => ?_, fun b hb => ?_⟩
  · have := Below.size k3; simp; omega
  · rw [hne b (fun p => hn (.inl p))]
    exact Below.block k3 b hb
  · rcases hb with e | e | ⟨u, hu, e⟩
    · exact .inl (.inl e)
    · exact .inr (own_blk hown e)
    · exact .inr (hc2.lt u hu b e).1
theorem one_cell (w : World) (u : Value) (e : TypeId) (ad : Addr) (h : (some ⟨w.heap.size, 0, none⟩ : Option Addr) = some ad) (j : Nat) (u' : Value) (hu : [u][j]? = some u') : (w.alloc (.cells #[u] e)).cell? (ad.add j) = some u' := by
  obtain rfl := (Option.some.inj h).symm
  cases j with
  | succ k => simp at hu
  | zero =>
    obtain rfl := Option.some.inj hu
    unfold World.cell?
    rw [show (Addr.add ⟨w.heap.size, 0, none⟩ 0) = ⟨w.heap.size, 0, none⟩ from rfl]
    dsimp only
    rw [(MapKept.heap_alloc w _).1]
    rfl

theorem jlen_any (h : JoC q g v dead w) (ho : w.ownsRow B 46 1 v rows.length us) :
    Calls Tryd.prog 18 #[.pointer (some ⟨q, 0, none⟩)] w fun e w' => e = .returned (.int .i64 rows.length) ∧ Kp w w' := by
  have HV : ∃ a c, v = .slice a rows.length c := by
    rcases ho.2 with ⟨rfl, e⟩ | ⟨b, cap, cur, rfl, _⟩
    · exact ⟨none, 0, by rw [e]⟩
    · exact ⟨_, _, rfl⟩
  obtain ⟨a, c, rfl⟩ := HV
  have c1 := h.c1
  obtain ⟨n, hn⟩ : ∃ n, rows.length = n := ⟨_, rfl⟩
  rw [hn] at c1 ⊢
  clear h ho hn
  go_enter Tryd.func18, Tryd.ntmps18
  go_wp2
  go_ret
  exact ⟨rfl, Kp.refl _⟩
set_option maxRecDepth 100000 in
theorem jsize_any (q : Nat) (a : Option Addr) (m cp : Nat) (rs : List (List Int)) (hm : rs.length = m) (hl : m ≤ 9362) (hok : okRs rs) (w : World) (c1 : w.cell? ⟨q, 1, none⟩ = some (.slice a m cp)) (hs : SlBB (.slice a m cp) rs w) :
    Calls Tryd.prog 19 #[.pointer (some ⟨q, 0, none⟩)] w fun e w' => e = .returned (.int .i64 (allF rs).length) ∧ Kp w w' := by
  have HS := Lib.hid (fun (j : Nat) (hj : j < rs.length) => hs.at j hj)
  have HM := Lib.hid hm
  have HOK := Lib.hid hok
  clear hs hm hok
  go_enter Tryd.func19, Tryd.ntmps19
  go_wp2
  clear c1
  go_loop [3, 11] (fun v i => ∃ j : Nat, j ≤ m ∧ i = .int .i64 j ∧ v = .int .i64 ((allF (rs.take j)).length : Nat)) (fun _ i => m - (intOf i).toNat)
  case atStart => exact ⟨0, Nat.zero_le _, rfl, rfl⟩
  case round =>
    obtain ⟨j, hj, rfl, rfl⟩ := hrel
    obtain ⟨jj, hjj⟩ : ∃ jj : Int, (j : Int) = jj := ⟨_, rfl⟩
    obtain ⟨u, hu⟩ : ∃ u : Int, (((allF (rs.take j)).length : Nat) : Int) = u := ⟨_, rfl⟩
    have hub := allF_le (rs := rs.take j) (fun r hr => HOK.out r (List.mem_of_mem_take hr))
    have htl : (rs.take j).length ≤ j := by rw [List.length_take]; omega
    have u0 : 0 ≤ u := by omega
    have u1 : u ≤ 206 * 9362 := by omega
    rw [hjj, hu]
    have hmm := HM.out
    by_cases hlt : j < m
    · have hjl : j < rs.length := by omega
      obtain ⟨b, off, rfl, a', c', hcell, -, -⟩ := HS.out j hjl
      have SR : rs.take (j + 1) = rs.take j ++ [rs[j]] := List.take_succ_eq_append_getElem hjl
      have ho := HOK.out rs[j] (List.getElem_mem hjl)
      obtain ⟨l, hl2⟩ : ∃ l : Nat, rs[j].length = l := ⟨_, rfl⟩
      have hl200 : l ≤ 200 := by rw [← hl2]; exact ho.2
      have HX := Lib.hid (show (((allF (rs.take (j + 1))).length : Nat) : Int) = u + (l + 6) by rw [SR, allF_app, allF_one, List.length_append, frm_len, hl2]; omega)
      rw [hl2] at hcell
      obtain ⟨ll, hll⟩ : ∃ ll : Int, (l : Int) = ll := ⟨_, rfl⟩
      rw [hll] at HX
      have l0 : 0 ≤ ll := by omega
      have l1 : ll ≤ 200 := by omega
      have FS := Lib.hid (jfsize_any ll l0 (by omega))
      have ej : jj.toNat = j := by omega
      rw [← ej] at hcell
      have hj0 : 0 ≤ jj := by omega
      have hltj : jj < m := by omega
      have HJ := Lib.hid hjj
      have HLT := Lib.hid hlt
      clear hjj hu hub htl hmm hlt hl2 ho SR ej hl200 hjl
      go_wp2_with (go_at_call 45; (with_reducible refine (FS.out _).mono ?_); rintro e w2 ⟨rfl, rfl⟩)
      have hjj := HJ.out
      have hlt2 := HLT.out
      go_round
      case rel => exact ⟨j + 1, by omega, by congr 1; omega, by rw [HX.out]⟩
      case measure => simp [intOf]; omega
    · obtain rfl : j = m := by omega
      have hful : rs.take j = rs := List.take_of_length_le (by omega)
      rw [hful] at hu
      have hex : ¬ jj < j := by omega
      have HU := Lib.hid hu
      clear hjj hlt hful hmm hu hub htl
      go_wp2
      go_ret
      exact ⟨by rw [HU.out]; rfl, Kp.refl _⟩
theorem jdead_any (h : JoC q g v dead w) :
    Calls Tryd.prog 20 #[.pointer (some ⟨q, 0, none⟩)] w fun e w' => e = .returned (.bool dead) ∧ Kp w w' := by
  have c2 := h.c2
  clear h
  go_enter Tryd.func20, Tryd.ntmps20
  go_wp2
  go_ret
  exact ⟨rfl, Kp.refl _⟩

theorem jrows_any (q : Nat) (a : Option Addr) (m cp : Nat) (rs : List (List Int)) (hm : rs.length = m) (hl : m ≤ 9362) (hin : ∀ r ∈ rs, InB r ∧ r.length ≤ 200) (w : World) (c1 : w.cell? ⟨q, 1, none⟩ = some (.slice a m cp)) (hs : SlBB (.slice a m cp) rs w) :
    Calls Tryd.prog 17 #[.pointer (some ⟨q, 0, none⟩)] w fun e w' => ∃ v us, e = .returned v ∧ w'.ownsRow w.heap.size 46 1 v m us ∧ Cln w.heap.size us rs w' ∧ Sep v us ∧ Kp w w' := by
  have HC := Lib.hid (jcopies_any a m cp rs hm hl (fun r hr => ⟨(hin r hr).1, by have := (hin r hr).2; omega⟩) w hs)
  clear hs hm hin
  go_enter Tryd.func17, Tryd.ntmps17
  go_wp2_with (go_at_call 44; (with_reducible refine HC.out.mono ?_); rintro e w2 ⟨us, rfl, hown, hcl, hsep, hk⟩)
  go_ret
  exact ⟨_, us, rfl, hown, hcl, hsep, hk⟩
end Go.Proofs.YtpehmkglkjlmfaaDoor

namespace Go.Proofs.YtpehmkglkjlmfaaDoor
open Go.RowKit Go.ChangeShapes Go.WideShapes

variable {ads : List Addr} {W w0 w1 w w' : World} {R : Nat → TM → (Nat → Prop) → World → Prop} {B q g : Nat} {v v' : Value} {us us' : List Value} {rows rows' : List (List Int)} {dead dead' : Bool} {m m' : TM} {O O' P : Nat → Prop}
theorem JouS.kp (h : JouS B q g v us rows dead w) (hk : Kp w w') : JouS B q g v us rows dead w' := h.stay (fun b hb => Below.block hk b (h.mem b hb).2)
theorem Asd.right {O O' P : Nat → Prop} {w w' : World} (h : Asd O O' w w') : Asd (fun b => O b ∨ P b) (fun b => O' b ∨ P b) w w' :=
  ⟨h.os, h.tape, h.output, h.size, fun b hb hn => h.block b hb (fun q => hn (.inl q)), fun b q => by
    rcases q with q | q
    · exact (h.own b q).imp .inl id
    · exact .inl (.inr q)⟩
/-- a journal and its tape, amid a call that began at w1 -/
structure PS (R : Nat → TM → (Nat → Prop) → World → Prop) (B q g : Nat) (v : Value) (us : List Value) (rows : List (List Int)) (dead : Bool) (m : TM) (O P : Nat → Prop) (w1 w : World) : Prop where
  s : JouS B q g v us rows dead w
  r : R g m O w
  dis : ∀ b, JBl q v us b → ¬ O b
  asd : Asd P (fun b => JBl q v us b ∨ O b) w1 w
theorem PS.kp (T : TapC ads W R) (h : PS R B q g v us rows dead m O P w1 w) (hk : Kp w w') : PS R B q g v us rows dead m O P w1 w' :=
  ⟨h.s.kp hk, T.stay h.r (Below.size hk) (fun b hb => Below.block hk b (T.mem h.r b hb).2), h.dis, h.asd.trans (Asd.of_kp _ hk)⟩
theorem PS.tape (h : PS R B q g v us rows dead m O P w1 w) (r : R g m' O' w') (ha : Asd O O' w w') : PS R B q g v us rows dead m' O' P w1 w' :=
  ⟨h.s.stay (fun b hb => ha.block b (h.s.mem b hb).2 (h.dis b hb)), r, fun b hb hO => by
    rcases ha.own b hO with p | p
    · exact h.dis b hb p
    · exact absurd (h.s.mem b hb).2 (by omega), h.asd.trans ha.left⟩
/-- the journal alone is another -/
theorem PS.jou (T : TapC ads W R) (h : PS R B q g v us rows dead m O P w1 w) (s : JouS B q g v' us' rows' dead' w') (ha : Asd (JBl q v us) (JBl q v' us') w w') : PS R B q g v' us' rows' dead' m O P w1 w' :=
  ⟨s, T.stay h.r ha.size (fun b hb => ha.block b (T.mem h.r b hb).2 (fun p => h.dis b p hb)), fun b hb hO => by
    rcases ha.own b hb with p | p
    · exact h.dis b p hO
    · exact absurd (T.mem h.r b hO).2 (by omega), h.asd.trans ha.right⟩
theorem PS.turn (T : TapC ads W R) (h : PS R B q g v us rows dead m O P w1 w) (ho : On q w w') (hc : JoC q g v dead' w') : PS R B q g v us rows dead' m O P w1 w' :=
  h.jou T (h.s.turn ho hc) ⟨ho.os, ho.tape, ho.output, ho.size, fun b hb hn => ho.block b hb (fun p => hn (.inl p)), fun _ p => .inl p⟩
theorem PS.done (h : PS R B q g v us rows dead m O P w1 w) {j : JM} (e1 : j.rows = rows) (e3 : j.dead = dead) :
    ∃ OJ' O', JouR B q g j OJ' w ∧ R g m O' w ∧ (∀ b, OJ' b → ¬ O' b) ∧ Asd P (fun b => OJ' b ∨ O' b) w1 w :=
  ⟨JBl q v us, O, ⟨v, us, by rw [e1, e3]; exact h.s, fun _ => Iff.rfl⟩, h.r, h.dis, h.asd⟩
theorem PS.old (hm : ∀ b, P b → W.heap.size ≤ b) (hk : Kp W w1) (h : PS R B q g v us rows dead m O P w1 w) : Kp W w := h.asd.kp hk hm

theorem errI_ne (ads : List Addr) {k : Int} (h : k ≠ 0) : errI ads k ≠ .nilIface := by unfold errI; rw [if_neg h]; simp
theorem appM_code (m : TM) (bs : List Int) : (appM m bs).1 = 0 ∨ (appM m bs).1 = 6 ∨ (appM m bs).1 = 7 := by
  unfold appM
  split
  · exact .inr (.inl rfl)
  split
  · exact .inl rfl
  · rename_i h
    refine .inr (.inr ?_)
    unfold stepM at h ⊢
    split
    · rfl
    · rename_i g; rw [if_neg g] at h; split at h <;> exact absurd rfl h

end Go.Proofs.YtpehmkglkjlmfaaDoor

namespace Go.Proofs.YtpehmkglkjlmfaaDoor
open Go.RowKit Go.ChangeShapes Go.WideShapes

variable {ads : List Addr} {W w0 w1 w w' : World} {R : Nat → TM → (Nat → Prop) → World → Prop} {B q g : Nat} {v v' : Value} {us us' : List Value} {rows rows' : List (List Int)} {dead dead' : Bool} {m m' : TM} {O O' P : Nat → Prop}

set_option maxRecDepth 100000 in
/-- errors.Is(nil, x) -/
theorem is_nil (b : Addr) (w : World) :
    Calls Tryd.prog 52 #[.nilIface, .iface 121 (.pointer (some b))] w fun e w' => e = .returned (.bool false) ∧ w = w' := by
  have heq := run_eql_iface_nil_left (P := Tryd.prog) w 121 (.pointer (some b)) Tryd.underlying28
  go_enter Tryd.func52, Tryd.ntmps52
  go_wp2
  go_ret
  exact ⟨rfl, rfl⟩
/-- whether it is ErrPower -/
theorem EJ.is7 (E : EJ ads W) (hk : Kp W w) {k : Int} (h : k = 0 ∨ k = 6 ∨ k = 7) :
    Calls Tryd.prog 52 #[errI ads k, errI ads 7] w fun e w' => e = .returned (.bool (decide (k = 7))) ∧ w = w' := by
  obtain ⟨a6, a7, c6, t6, c7, t7, e6, e7, hne, r6, r7⟩ := E.two
  have h7 : errI ads 7 = .iface 121 (.pointer (some a7)) := by unfold errI; rw [if_neg (by decide), show ((7 : Int) - 1).toNat = 6 from rfl, e7]
  have h6 : errI ads 6 = .iface 121 (.pointer (some a6)) := by unfold errI; rw [if_neg (by decide), show ((6 : Int) - 1).toNat = 5 from rfl, e6]
  rw [h7]
  rcases h with rfl | rfl | rfl
  · exact is_nil a7 w
  · rw [h6]
    exact is_other a6 a7 c6 c7 t6 t7 w hne (kp_row hk r6) (kp_row hk r7)
  · rw [h7]
    exact is_same a7 w

/-! ### write -/
set_option maxRecDepth 100000 in
set_option maxHeartbeats 2000000 in
theorem jwrite_dead (h : JoC q g v true w) (c9 : w.cell? ⟨8, 0, none⟩ = some (errI ads 9)) (x fv : Value) :
    Calls Tryd.prog 55 #[.pointer (some ⟨q, 0, none⟩), x, fv] w fun e w' => e = .returned (errI ads 9) ∧ Kp w w' := by
  have c2 := h.c2
  obtain ⟨e9, he9⟩ : ∃ x, errI ads 9 = x := ⟨_, rfl⟩
  rw [he9] at c9 ⊢
  clear h he9
  go_enter Tryd.func55, Tryd.ntmps55
  go_wp2
  go_ret
  exact ⟨rfl, Kp.refl _⟩

set_option maxRecDepth 100000 in
set_option maxHeartbeats 2000000 in
theorem jwrite_form (E : EJ ads W) (KW : Kp W w) (h : JoC q g v false w) (a : Option Addr) (n c : Nat) (rs : List (List Int)) (hs : SlBB (.slice a n c) rs w) (hn : rs.length = n) (hl : n ≤ 100) (hin : ∀ r ∈ rs, InB r ∧ r.length ≤ 100000) (ho : ¬ okRs rs) (fv : Value) :
    Calls Tryd.prog 55 #[.pointer (some ⟨q, 0, none⟩), .slice a n c, fv] w fun e w' => e = .returned (errI ads 4) ∧ Kp w w' := by
  have c2 := h.c2
  have HF := Lib.hid (fun w2 (hk : Kp w w2) => jframes_any ads a n c rs hn hl hin w2 (E.tb.kp (Kp.trans KW hk)) (kp_cell (Kp.trans KW hk) E.c4) (hs.kp hk))
  have HO := Lib.hid ho
  obtain ⟨o4, ho4⟩ : ∃ o, errI ads 4 = .iface 121 (.pointer o) := ⟨_, if_neg (by decide)⟩
  rw [ho4] at HF ⊢
  clear h KW hs hn hin ho ho4 E
  go_enter Tryd.func55, Tryd.ntmps55
  go_wp2_with (go_at_call 72; (with_reducible refine (HF.out _ (Kp.refl _)).mono ?_); rintro e w2 ⟨h2 | ⟨-, rfl⟩, hk2⟩; exact absurd h2.1 HO.out; have K2 := Lib.hid hk2; clear hk2)
  go_ret
  exact ⟨rfl, K2.out⟩

set_option maxRecDepth 100000 in
set_option maxHeartbeats 2000000 in
theorem jwrite_put (E : EJ ads W) (hW : ∀ b, P b → W.heap.size ≤ b) (hk1 : Kp W w1) (T : TapC ads W R) (h : PS R B q g v us rows false m O P w1 w) (a : Option Addr) (n c : Nat) (rs : List (List Int)) (hs : SlBB (.slice a n c) rs w) (hn : rs.length = n) (hl : n ≤ 100) (hin : ∀ r ∈ rs, InB r ∧ r.length ≤ 100000) (ho : okRs rs) (r1 j1 : Nat) (k : Int) (h67 : k = 0 ∨ k = 6 ∨ k = 7)
    (HB : ∀ w2 a2 c2, Kp w w2 → w2.ownsRow w.heap.size 5 1 (.slice a2 (allF rs).length c2) (allF rs).length ((allF rs).map (Value.int .u8)) → (allF rs).length ≤ c2 → Calls Tryd.prog 56 #[.slice a2 (allF rs).length c2, .pointer (some ⟨r1, 0, none⟩), .pointer (some ⟨j1, 0, none⟩)] w2 fun e w3 => e = .returned (errI ads k) ∧ ∃ O', PS R B q g v us rows false m' O' P w1 w3) :
    Calls Tryd.prog 55 #[.pointer (some ⟨q, 0, none⟩), .slice a n c, .func (.func 56) #[] #[.pointer (some ⟨r1, 0, none⟩), .pointer (some ⟨j1, 0, none⟩)]] w fun e w' => e = .returned (errI ads k) ∧ ∃ O', PS R B q g v us rows (decide (k = 7)) m' O' P w1 w' := by
  have c2 := h.s.c.c2
  have KW := h.old hW hk1
  have HF := Lib.hid (fun w2 (hk : Kp w w2) => jframes_any ads a n c rs hn hl hin w2 (E.tb.kp (Kp.trans KW hk)) (kp_cell (Kp.trans KW hk) E.c4) (hs.kp hk))
  obtain ⟨bs, hbs⟩ : ∃ x, allF rs = x := ⟨_, rfl⟩
  rw [hbs] at HF HB
  have HT := Lib.hid T
  have HO := Lib.hid ho
  have HI := Lib.hid (fun w (hk : Kp W w) => E.is7 hk h67)
  have HC := Lib.hid (fun w (hk : Kp W w) => kp_cell hk E.e3.c7)
  have HOLD := Lib.hid (fun O w2 (h : PS R B q g v us rows false m' O P w1 w2) => h.old hW hk1)
  obtain ⟨ek, hek⟩ : ∃ x, errI ads k = x := ⟨_, rfl⟩
  obtain ⟨e7, he7⟩ : ∃ x, errI ads 7 = x := ⟨_, rfl⟩
  obtain ⟨b7, hb7⟩ : ∃ b, decide (k = 7) = b := ⟨_, rfl⟩
  rw [hek] at HB HI ⊢
  rw [he7] at HI HC
  rw [hb7] at HI ⊢
  have HBR := Lib.hid HB
  clear h T KW hs hn hin ho E hbs hW hk1 HB hek he7 hb7
  go_enter Tryd.func55, Tryd.ntmps55
  go_wp2_with (first
    | (go_at_call 72; (with_reducible refine (HF.out _ (Kp.refl _)).mono ?_); rintro e w2 ⟨h2, hk2⟩; obtain ⟨-, v2, rfl, hown2⟩ := h2.resolve_right (fun x => x.1 HO.out); obtain ⟨a2, c2, rfl, hnc⟩ := own_len hown2; have HBA := Lib.hid (HBR.out w2 a2 c2 hk2 hown2 hnc); clear hk2 hown2 h2 hnc)
    | (go_at_call 56; (with_reducible refine HBA.out.mono ?_); rintro e w3 ⟨rfl, O3, h3⟩; have H3 := Lib.hid h3; have K3 := HOLD.out _ _ h3; have c73 := HC.out _ K3; have HI3 := Lib.hid (HI.out _ K3); have c23 := h3.s.c.c2; have z3 := h3.s.c.z 2; clear h3 K3)
    | (go_at_call 52; (with_reducible refine HI3.out.mono ?_); rintro e w4 ⟨rfl, rfl⟩))
  go_ret
  exact ⟨rfl, O3, H3.out.turn HT.out ((On.refl _ _).set _ _) (H3.out.s.c.set2 _)⟩

set_option maxRecDepth 100000 in
set_option maxHeartbeats 2000000 in
theorem jwrite_swap (E : EJ ads W) (hW : ∀ b, P b → W.heap.size ≤ b) (hk1 : Kp W w1) (T : TapC ads W R) (h : PS R B q g v us rows false m O P w1 w) (a : Option Addr) (n c : Nat) (rs : List (List Int)) (hs : SlBB (.slice a n c) rs w) (hn : rs.length = n) (hl : n ≤ 100) (hin : ∀ r ∈ rs, InB r ∧ r.length ≤ 100000) (ho : okRs rs)  (k : Int) (h67 : k = 0 ∨ k = 6 ∨ k = 7)
    (HB : ∀ w2 a2 c2, Kp w w2 → w2.ownsRow w.heap.size 5 1 (.slice a2 (allF rs).length c2) (allF rs).length ((allF rs).map (Value.int .u8)) → (allF rs).length ≤ c2 → Calls Tryd.prog 57 #[.pointer (some ⟨g, 0, none⟩), .slice a2 (allF rs).length c2] w2 fun e w3 => e = .returned (errI ads k) ∧ ∃ O', PS R B q g v us rows false m' O' P w1 w3) :
    Calls Tryd.prog 55 #[.pointer (some ⟨q, 0, none⟩), .slice a n c, .func (.func 57) #[.pointer (some ⟨g, 0, none⟩)] #[]] w fun e w' => e = .returned (errI ads k) ∧ ∃ O', PS R B q g v us rows (decide (k = 7)) m' O' P w1 w' := by
  have c2 := h.s.c.c2
  have KW := h.old hW hk1
  have HF := Lib.hid (fun w2 (hk : Kp w w2) => jframes_any ads a n c rs hn hl hin w2 (E.tb.kp (Kp.trans KW hk)) (kp_cell (Kp.trans KW hk) E.c4) (hs.kp hk))
  obtain ⟨bs, hbs⟩ : ∃ x, allF rs = x := ⟨_, rfl⟩
  rw [hbs] at HF HB
  have HT := Lib.hid T
  have HO := Lib.hid ho
  have HI := Lib.hid (fun w (hk : Kp W w) => E.is7 hk h67)
  have HC := Lib.hid (fun w (hk : Kp W w) => kp_cell hk E.e3.c7)
  have HOLD := Lib.hid (fun O w2 (h : PS R B q g v us rows false m' O P w1 w2) => h.old hW hk1)
  obtain ⟨ek, hek⟩ : ∃ x, errI ads k = x := ⟨_, rfl⟩
  obtain ⟨e7, he7⟩ : ∃ x, errI ads 7 = x := ⟨_, rfl⟩
  obtain ⟨b7, hb7⟩ : ∃ b, decide (k = 7) = b := ⟨_, rfl⟩
  rw [hek] at HB HI ⊢
  rw [he7] at HI HC
  rw [hb7] at HI ⊢
  have HBR := Lib.hid HB
  clear h T KW hs hn hin ho E hbs hW hk1 HB hek he7 hb7
  go_enter Tryd.func55, Tryd.ntmps55
  go_wp2_with (first
    | (go_at_call 72; (with_reducible refine (HF.out _ (Kp.refl _)).mono ?_); rintro e w2 ⟨h2, hk2⟩; obtain ⟨-, v2, rfl, hown2⟩ := h2.resolve_right (fun x => x.1 HO.out); obtain ⟨a2, c2, rfl, hnc⟩ := own_len hown2; have HBA := Lib.hid (HBR.out w2 a2 c2 hk2 hown2 hnc); clear hk2 hown2 h2 hnc)
    | (go_at_call 57; (with_reducible refine HBA.out.mono ?_); rintro e w3 ⟨rfl, O3, h3⟩; have H3 := Lib.hid h3; have K3 := HOLD.out _ _ h3; have c73 := HC.out _ K3; have HI3 := Lib.hid (HI.out _ K3); have c23 := h3.s.c.c2; have z3 := h3.s.c.z 2; clear h3 K3)
    | (go_at_call 52; (with_reducible refine HI3.out.mono ?_); rintro e w4 ⟨rfl, rfl⟩))
  go_ret
  exact ⟨rfl, O3, H3.out.turn HT.out ((On.refl _ _).set _ _) (H3.out.s.c.set2 _)⟩

/-! ### Put's closure -/
set_option maxRecDepth 100000 in
set_option maxHeartbeats 2000000 in
theorem jput1_none (a : Option Addr) (c : Nat) (r1 j1 : Nat) (x : Value) (w : World) (cr : w.cell? ⟨r1, 0, none⟩ = some (.slice a 0 c)) :
    Calls Tryd.prog 56 #[x, .pointer (some ⟨r1, 0, none⟩), .pointer (some ⟨j1, 0, none⟩)] w fun e w' => e = .returned .nilIface ∧ Kp w w' := by
  go_enter Tryd.func56, Tryd.ntmps56
  go_wp2
  go_ret
  exact ⟨rfl, Kp.refl _⟩

set_option maxRecDepth 100000 in
set_option maxHeartbeats 2000000 in
theorem jput1_app (hW : ∀ b, P b → W.heap.size ≤ b) (hk1 : Kp W w1) (T : TapC ads W R) (h : PS R B q g v us rows false m O P w1 w) (hm : Mok m) (a a2 : Option Addr) (n c c2 : Nat) (bs : List Int) (hs : SlB (.slice a2 bs.length c2) bs w) (hnc : bs.length ≤ c2) (hin2 : InB bs) (hbl : bs.length ≤ 100000) (hap : ∀ ad, a2 = some ad → ¬ O ad.block) (hn0 : n ≠ 0) (r1 j1 : Nat) (cr : w.cell? ⟨r1, 0, none⟩ = some (.slice a n c)) (cj : w.cell? ⟨j1, 0, none⟩ = some (.pointer (some ⟨q, 0, none⟩))) (k : Int) (hk : (appM m bs).1 = k) (h67 : k ≠ 0) :
    Calls Tryd.prog 56 #[.slice a2 bs.length c2, .pointer (some ⟨r1, 0, none⟩), .pointer (some ⟨j1, 0, none⟩)] w fun e w' => e = .returned (errI ads k) ∧ ∃ O', PS R B q g v us rows false (appM m bs).2 O' P w1 w' := by
  have c0 := h.s.c.c0
  have KW := h.old hW hk1
  have HA := Lib.hid (T.append w KW g m O h.r hm a2 bs.length c2 bs hs rfl hnc hin2 hbl (fun _ => hap))
  have H := Lib.hid h
  have HT := Lib.hid T
  have HOLD := Lib.hid (fun (v : Value) us rows dead m O w2 (h : PS R B q g v us rows dead m O P w1 w2) => h.old hW hk1)
  have hnp : ¬ (n : Int) = 0 := by omega
  obtain ⟨ok, hok⟩ : ∃ o, errI ads k = .iface 121 (.pointer o) := ⟨_, if_neg h67⟩
  rw [hk, hok] at HA
  rw [hok]
  obtain ⟨nb, hnb⟩ : ∃ x, bs.length = x := ⟨_, rfl⟩
  rw [hnb] at HA ⊢
  clear h T KW hs hnc hin2 hbl hap hW hk1 hn0 hm hk h67 hok hnb
  go_enter Tryd.func56, Tryd.ntmps56
  go_wp2_with (go_at_call 25; (with_reducible refine HA.out.mono ?_); rintro e w3 ⟨rfl, O3, hr3, ha3⟩; have H3 := Lib.hid (H.out.tape hr3 ha3); clear hr3 ha3)
  go_ret
  exact ⟨rfl, O3, H3.out⟩

set_option maxRecDepth 100000 in
set_option maxHeartbeats 2000000 in
theorem jput1_sync (hW : ∀ b, P b → W.heap.size ≤ b) (hk1 : Kp W w1) (T : TapC ads W R) (h : PS R B q g v us rows false m O P w1 w) (hm : Mok m) (a a2 : Option Addr) (n c c2 : Nat) (bs : List Int) (hs : SlB (.slice a2 bs.length c2) bs w) (hnc : bs.length ≤ c2) (hin2 : InB bs) (hbl : bs.length ≤ 100000) (hap : ∀ ad, a2 = some ad → ¬ O ad.block) (hn0 : n ≠ 0) (r1 j1 : Nat) (cr : w.cell? ⟨r1, 0, none⟩ = some (.slice a n c)) (cj : w.cell? ⟨j1, 0, none⟩ = some (.pointer (some ⟨q, 0, none⟩))) (hj1 : ¬ O j1) (hk : (appM m bs).1 = 0) :
    Calls Tryd.prog 56 #[.slice a2 bs.length c2, .pointer (some ⟨r1, 0, none⟩), .pointer (some ⟨j1, 0, none⟩)] w fun e w' => e = .returned (errI ads (syncM (appM m bs).2).1) ∧ ∃ O', PS R B q g v us rows false (syncM (appM m bs).2).2 O' P w1 w' := by
  have c0 := h.s.c.c0
  have KW := h.old hW hk1
  have HA := Lib.hid (T.append w KW g m O h.r hm a2 bs.length c2 bs hs rfl hnc hin2 hbl (fun _ => hap))
  have H := Lib.hid h
  have HT := Lib.hid T
  have HOLD := Lib.hid (fun (v : Value) us rows dead m O w2 (h : PS R B q g v us rows dead m O P w1 w2) => h.old hW hk1)
  have hnp : ¬ (n : Int) = 0 := by omega
  have HSY := Lib.hid (fun w3 O3 (h : PS R B q g v us rows false (appM m bs).2 O3 P w1 w3) => T.sync w3 (HOLD.out _ _ _ _ _ _ _ h) g (appM m bs).2 O3 h.r (hm.app hin2))
  have HCJ := Lib.hid (And.intro cj hj1)
  rw [hk, errI_nil] at HA
  obtain ⟨ek, hek⟩ : ∃ x, errI ads (syncM (appM m bs).2).1 = x := ⟨_, rfl⟩
  rw [hek] at HSY ⊢
  obtain ⟨nb, hnb⟩ : ∃ x, bs.length = x := ⟨_, rfl⟩
  rw [hnb] at HA ⊢
  clear h T KW hs hnc hin2 hbl hap hW hk1 hn0 hj1 hm hk hnb hek
  go_enter Tryd.func56, Tryd.ntmps56
  go_wp2_with (first
    | (go_at_call 25; (with_reducible refine HA.out.mono ?_); rintro e w3 ⟨rfl, O3, hr3, ha3⟩; have H3 := Lib.hid (H.out.tape hr3 ha3); have c03 := H3.out.s.c.c0; have cj3 : w3.cell? ⟨j1, 0, none⟩ = some (.pointer (some ⟨q, 0, none⟩)) := (World.cell?_of_block (a := ⟨j1, 0, none⟩) (ha3.block j1 (old_of_cell HCJ.out.1) HCJ.out.2)).trans HCJ.out.1; clear hr3 ha3)
    | (go_at_call 26; (with_reducible refine (HSY.out _ _ H3.out).mono ?_); rintro e w4 ⟨rfl, O4, hr4, ha4⟩; have H4 := Lib.hid (H3.out.tape hr4 ha4); clear hr4 ha4))
  go_ret
  exact ⟨rfl, O4, H4.out⟩
end Go.Proofs.YtpehmkglkjlmfaaDoor

namespace Go.Proofs.YtpehmkglkjlmfaaDoor
open Go.RowKit Go.ChangeShapes Go.WideShapes

variable {ads : List Addr} {W w0 w1 w w' : World} {R : Nat → TM → (Nat → Prop) → World → Prop} {B q g : Nat} {v v' : Value} {us us' : List Value} {rows rows' : List (List Int)} {dead dead' : Bool} {m m' : TM} {O O' P : Nat → Prop}

theorem jc4 {w3 w4 : World} (h : JouS B q g v us rows dead w) (k3 : Kp w w3) (hgr : w3.grownBy w4 v.ownBlock) : JoC q g v dead w4 := by
  have hq := old_of_row h.c
  have hsz := Below.size k3
  unfold JoC
  rw [hgr.block q (by omega) (fun p => h.nq p.symm), Below.block k3 q hq]
  exact h.c
section
variable {P : Program} {ops : Array Oper} {Q : Exit → Act → World → Prop} {md : Region.Mode} {S : World → Prop}
/-- an operation that may come up, as a list of its own -/
theorem wpOp_of_list {i : Nat} {o : Oper} {a : Act} {w : World} {K : Act → World → Prop} (h0 : ops[i]? = some o) (h : wpList P ops (Exit.then K Q) [o] a w) : wpOp P ops Q i K a w := by
  unfold wpOp
  simp only [h0]
  exact h
theorem AllReadyH.consL {fuel : Nat} {listed : Array Bool} {a : Act} {w : World} {i : Nat} {o : Oper} {rs : List Nat} (ho : ops[i]? = some o)
    (h : ∀ K' : Act → World → Prop, Shut (∀ a w, S w → (S w → wpAnyH P md ops Q S fuel (listed.setIfInBounds i true) a w) → K' a w) → wpList P ops (Exit.then K' Q) [o] a w)
    (hs : AllReadyH P md ops Q S fuel listed a w rs) : AllReadyH P md ops Q S fuel listed a w (i :: rs) := fun j hj => by
  rcases List.mem_cons.1 hj with rfl | hj
  · exact wpOp_of_list ho (h _ (fun a w h1 h2 => ⟨h1, h2 h1⟩))
  · exact hs j hj
end
theorem JoC.kp (h : JoC q g v dead w) (hk : Kp w w') : JoC q g v dead w' := by
  unfold JoC
  rw [Below.block hk q (old_of_row h)]
  exact h
theorem new0 (w : World) (o o' : Obj) : ((w.alloc o).alloc o').heap[w.heap.size]? = some o := by
  rw [Below.heap_alloc _ _ _ (by simp)]
  exact (MapKept.heap_alloc w o).1
theorem new1 (w : World) (o o' : Obj) : ((w.alloc o).alloc o').heap[w.heap.size + 1]? = some o' := by
  have := (MapKept.heap_alloc (w.alloc o) o').1
  simpa using this
theorem jcopies_g (a : Option Addr) (m cp : Nat) (rs : List (List Int)) (hm : rs.length = m) (hl : m ≤ 9362) (hin : ∀ r ∈ rs, InB r ∧ r.length ≤ 100000) (w : World) (hs : SlBB (.slice a m cp) rs w) :
    Calls Tryd.prog 44 #[.slice a m cp] w fun e w' => ∃ L us, e = .returned (.slice (some ⟨L, 0, none⟩) m m) ∧ w'.ownsRow w.heap.size 46 1 (.slice (some ⟨L, 0, none⟩) m m) m us ∧ Cln w.heap.size us rs w' ∧ Sep (.slice (some ⟨L, 0, none⟩) m m) us ∧ Kp w w' :=
  (jcopies_any a m cp rs hm hl hin w hs).mono fun _ _ ⟨us, h⟩ => ⟨_, us, h⟩
theorem kB {w0 w : World} {x y : Value} (h : w.cell? ⟨w0.heap.size, 0, none⟩ = some x ∧ w.cell? ⟨w0.heap.size + 1, 0, none⟩ = some y) (hq : q ≠ w0.heap.size ∧ q ≠ w0.heap.size + 1) (u : Value) : (w.setCell ⟨q, 1, none⟩ u).cell? ⟨w0.heap.size, 0, none⟩ = some x ∧ (w.setCell ⟨q, 1, none⟩ u).cell? ⟨w0.heap.size + 1, 0, none⟩ = some y :=
  ⟨(World.cell?_of_block (a := ⟨w0.heap.size, 0, none⟩) (Below.heap_setCell _ _ _ _ (fun e => hq.1 e.symm))).trans h.1, (World.cell?_of_block (a := ⟨w0.heap.size + 1, 0, none⟩) (Below.heap_setCell _ _ _ _ (fun e => hq.2 e.symm))).trans h.2⟩
theorem own_cells {base L n : Nat} {us2 : List Value} (h : w.ownsRow base 46 1 (.slice (some ⟨L, 0, none⟩) n n) n us2) (ad : Addr) (e : (some ⟨L, 0, none⟩ : Option Addr) = some ad) (j : Nat) (u : Value) (hu : us2[j]? = some u) : w.cell? (ad.add j) = some u := by
  injection e with e
  subst e
  have hj : j < n * 1 := by
    have h1 := h.1
    have h2 := (List.getElem?_eq_some_iff.1 hu).1
    omega
  rw [Addr.add_lit, Nat.zero_add, h.cellAt j hj]
  exact hu

/-! ### where write errs -/
set_option maxRecDepth 100000 in
set_option maxHeartbeats 4000000 in
theorem jput_err (a : Option Addr) (n c : Nat) (k : Int) (h0 : k ≠ 0) (Post : World → Prop)
    (HW : Calls Tryd.prog 55 #[.pointer (some ⟨q, 0, none⟩), .slice a n c, .func (.func 56) #[] #[.pointer (some ⟨w.heap.size + 1, 0, none⟩), .pointer (some ⟨w.heap.size, 0, none⟩)]] ((w.alloc (.cells #[.pointer (some ⟨q, 0, none⟩)] 31)).alloc (.cells #[.slice a n c] 42)) fun e w' => e = .returned (errI ads k) ∧ Post w') :
    Calls Tryd.prog 28 #[.pointer (some ⟨q, 0, none⟩), .slice a n c] w fun e w' => e = .returned (errI ads k) ∧ Post w' := by
  obtain ⟨ok, hok⟩ : ∃ o, errI ads k = .iface 121 (.pointer o) := ⟨_, if_neg h0⟩
  rw [hok] at HW ⊢
  have H := Lib.hid HW
  clear HW hok
  go_enter Tryd.func28, Tryd.ntmps28
  go_wp2_with (go_at_call 55; (with_reducible refine H.out.mono ?_); rintro e w4 ⟨rfl, hp⟩; have HP := Lib.hid hp; clear hp)
  go_ret
  exact ⟨rfl, HP.out⟩
set_option maxRecDepth 100000 in
set_option maxHeartbeats 4000000 in
theorem jcomp_err (c0 : w.cell? ⟨q, 0, none⟩ = some (.pointer (some ⟨g, 0, none⟩))) (a : Option Addr) (n c : Nat) (k : Int) (h0 : k ≠ 0) (Post : World → Prop)
    (HW : Calls Tryd.prog 55 #[.pointer (some ⟨q, 0, none⟩), .slice a n c, .func (.func 57) #[.pointer (some ⟨g, 0, none⟩)] #[]] w fun e w' => e = .returned (errI ads k) ∧ Post w') :
    Calls Tryd.prog 31 #[.pointer (some ⟨q, 0, none⟩), .slice a n c] w fun e w' => e = .returned (errI ads k) ∧ Post w' := by
  obtain ⟨ok, hok⟩ : ∃ o, errI ads k = .iface 121 (.pointer o) := ⟨_, if_neg h0⟩
  rw [hok] at HW ⊢
  have H := Lib.hid HW
  clear HW hok
  go_enter Tryd.func31, Tryd.ntmps31
  go_wp2_with (go_at_call 55; (with_reducible refine H.out.mono ?_); rintro e w4 ⟨rfl, hp⟩; have HP := Lib.hid hp; clear hp)
  go_ret
  exact ⟨rfl, HP.out⟩

/-! ### where it doesn't -/
set_option maxRecDepth 100000 in
set_option maxHeartbeats 4000000 in
theorem jcomp_ok (T : TapC ads W R) (h : PS R B q g v us rows false m O P w w) (a : Option Addr) (n c : Nat) (rs : List (List Int)) (hsf : Sfe P (.slice a n c) rs w) (hn : rs.length = n) (hl : n ≤ 100) (hin : ∀ r ∈ rs, InB r ∧ r.length ≤ 100000)
    (HW : Calls Tryd.prog 55 #[.pointer (some ⟨q, 0, none⟩), .slice a n c, .func (.func 57) #[.pointer (some ⟨g, 0, none⟩)] #[]] w fun e w' => e = .returned .nilIface ∧ ∃ O', PS R B q g v us rows false m' O' P w w') :
    Calls Tryd.prog 31 #[.pointer (some ⟨q, 0, none⟩), .slice a n c] w fun e w' => e = .returned .nilIface ∧ ∃ v' us' O', PS R B q g v' us' rs false m' O' P w w' := by
  have c0 := h.s.c.c0
  have HC := Lib.hid (fun w4 O4 (h4 : PS R B q g v us rows false m' O4 P w w4) => jcopies_any a n c rs hn (by omega) hin w4 (hsf.on h4.asd).now)
  have HT := Lib.hid T
  have H := Lib.hid HW
  have HN := Lib.hid hn
  clear HW h T hsf hn hin
  go_enter Tryd.func31, Tryd.ntmps31
  go_wp2_with (first
    | (go_at_call 55; (with_reducible refine H.out.mono ?_); rintro e w4 ⟨rfl, O4, h4⟩; have H4 := Lib.hid h4; have HCP := Lib.hid (HC.out _ _ h4); clear h4)
    | (go_at_call 44; (with_reducible refine HCP.out.mono ?_); rintro e w5 ⟨us2, rfl, hown, hcl, hsep, hk⟩; have S := Lib.hid (H4.out.s.repl hk (by rw [HN.out]; exact hown) hcl hsep); have j5 := H4.out.s.c.kp hk; have c5 := j5.c1; have z5 := j5.z 1; clear j5 hown hcl hsep hk))
  go_ret
  exact ⟨rfl, _, us2, O4, H4.out.jou HT.out S.out.1 S.out.2⟩

set_option maxRecDepth 100000 in
set_option maxHeartbeats 4000000 in
theorem jput_ok (T : TapC ads W R) (hq : q < w.heap.size) (a : Option Addr) (n c : Nat) (rs : List (List Int)) (hsf : Sfe P (.slice a n c) rs ((w.alloc (.cells #[.pointer (some ⟨q, 0, none⟩)] 31)).alloc (.cells #[.slice a n c] 42))) (hn : rs.length = n) (hl : n ≤ 100) (hin : ∀ r ∈ rs, InB r ∧ r.length ≤ 100000) (hrl : rows.length ≤ 9362) (hP : ∀ b, P b → b < w.heap.size) (hvw : ∀ b, v.ownBlock = some b → b < w.heap.size)
    (HW : Calls Tryd.prog 55 #[.pointer (some ⟨q, 0, none⟩), .slice a n c, .func (.func 56) #[] #[.pointer (some ⟨w.heap.size + 1, 0, none⟩), .pointer (some ⟨w.heap.size, 0, none⟩)]] ((w.alloc (.cells #[.pointer (some ⟨q, 0, none⟩)] 31)).alloc (.cells #[.slice a n c] 42)) fun e w' => e = .returned .nilIface ∧ ∃ O', PS R B q g v us rows false m' O' P ((w.alloc (.cells #[.pointer (some ⟨q, 0, none⟩)] 31)).alloc (.cells #[.slice a n c] 42)) w') :
    Calls Tryd.prog 28 #[.pointer (some ⟨q, 0, none⟩), .slice a n c] w fun e w' => e = .returned .nilIface ∧ ∃ v' us' O', PS R B q g v' us' (rows ++ rs) false m' O' P ((w.alloc (.cells #[.pointer (some ⟨q, 0, none⟩)] 31)).alloc (.cells #[.slice a n c] 42)) w' := by
  obtain ⟨wb, hwb⟩ : ∃ x, ((w.alloc (.cells #[.pointer (some ⟨q, 0, none⟩)] 31)).alloc (.cells #[.slice a n c] 42)) = x := ⟨_, rfl⟩
  have HC := Lib.hid (fun w4 O4 (h4 : PS R B q g v us rows false m' O4 P wb w4) w5 (hk : Kp w4 w5) => jcopies_g a n c rs hn (by omega) hin w5 (by rw [hwb] at hsf; exact ((hsf.on h4.asd).now).kp hk))
  have hs2 : wb.heap.size = w.heap.size + 2 := by rw [← hwb]; simp
  have b0 : wb.cell? ⟨w.heap.size, 0, none⟩ = some (.pointer (some ⟨q, 0, none⟩)) := by rw [← hwb]; unfold World.cell?; dsimp only; rw [new0]; rfl
  have b1 : wb.cell? ⟨w.heap.size + 1, 0, none⟩ = some (.slice a n c) := by rw [← hwb]; unfold World.cell?; dsimp only; rw [new1]; rfl
  have HB := Lib.hid (fun w4 O4 (h4 : PS R B q g v us rows false m' O4 P wb w4) => (show w4.cell? ⟨w.heap.size, 0, none⟩ = some (.pointer (some ⟨q, 0, none⟩)) ∧ w4.cell? ⟨w.heap.size + 1, 0, none⟩ = some (.slice a n c) from
    ⟨(World.cell?_of_block (a := ⟨w.heap.size, 0, none⟩) (h4.asd.block w.heap.size (by omega) (fun p => by have := hP _ p; omega))).trans b0, (World.cell?_of_block (a := ⟨w.heap.size + 1, 0, none⟩) (h4.asd.block (w.heap.size + 1) (by omega) (fun p => by have := hP _ p; omega))).trans b1⟩))
  have HT := Lib.hid T
  have HQ := Lib.hid (show q ≠ w.heap.size ∧ q ≠ w.heap.size + 1 by omega)
  have HSZ := Lib.hid hs2
  have H := Lib.hid HW
  rw [hwb] at H ⊢
  have HV := Lib.hid (fun b (hb : b = w.heap.size ∨ b = w.heap.size + 1) (p : some b = v.ownBlock) => show False by have := hvw b p.symm; omega)
  have HN := Lib.hid hn
  have HNB := Lib.hid (And.intro hl hrl)
  have _u := hq
  clear HW T hsf hn hin _u hq hP hs2 hl hrl hvw
  go_enter Tryd.func28, Tryd.ntmps28
  go_wp2_with (go_at_call 55; (with_reducible refine H.out.mono ?_); rintro e w4 ⟨rfl, O4, h4⟩; have H4 := Lib.hid h4; have HCP := Lib.hid (HC.out _ _ h4); obtain ⟨b04, b14⟩ := HB.out _ _ h4; clear h4)
  have c1 := H4.out.s.c.c1
  obtain ⟨av, cv, rfl, -⟩ := own_len H4.out.s.own
  obtain ⟨nr, hnr⟩ : ∃ x, rows.length = x := ⟨_, rfl⟩
  rw [hnr] at c1 HNB
  have HNR := Lib.hid hnr
  clear hnr hwb
  go_wp2_with fail
  refine wp_region_held_drew (S := (fun w' => w'.cell? ⟨w.heap.size, 0, none⟩ = some (.pointer (some ⟨q, 0, none⟩)) ∧ w'.cell? ⟨w.heap.size + 1, 0, none⟩ = some (.slice a n c))) (by kernel_rfl) ?_ (fun hHeld => ?_)
  · exact ⟨b04, b14⟩
  obtain ⟨b05, b15⟩ := id hHeld
  refine wpAnyH_take (i := 0) (v := ?_) rfl (by kernel_rfl) (by kernel_rfl) (by kernel_rfl) (fun _ _ _ h => h) (Or.inl ⟨by rfl, ?_⟩) (by assumption) ?_
  rotate_left
  · intro w hSw; obtain ⟨s1, s2⟩ := hSw; go_simp; try with_reducible rfl
  go_simp
  refine wpAnyH_take (i := 1) (v := ?_) rfl (by kernel_rfl) (by kernel_rfl) (by kernel_rfl) (fun _ _ _ h => h) (Or.inl ⟨by rfl, ?_⟩) (by assumption) ?_
  rotate_left
  · intro w hSw; obtain ⟨s1, s2⟩ := hSw; go_simp; try with_reducible rfl
  go_simp
  refine wpAnyH_take (i := 2) (v := ?_) rfl (by kernel_rfl) (by kernel_rfl) (by kernel_rfl) (fun _ _ _ h => h) (Or.inl ⟨by rfl, ?_⟩) (by assumption) ?_
  rotate_left
  · intro w hSw; obtain ⟨s1, s2⟩ := hSw; go_simp; try with_reducible rfl
  go_simp
  refine wpAnyH_take (i := 3) (v := ?_) rfl (by kernel_rfl) (by kernel_rfl) (by kernel_rfl) (fun _ _ _ h => h) (Or.inl ⟨by rfl, ?_⟩) (by assumption) ?_
  rotate_left
  · intro w hSw; obtain ⟨s1, s2⟩ := hSw; go_simp; try with_reducible rfl
  go_simp
  refine wpAnyH_take (i := 5) (v := ?_) rfl (by kernel_rfl) (by kernel_rfl) (by kernel_rfl) (fun _ _ _ h => h) (Or.inl ⟨by rfl, ?_⟩) (by assumption) ?_
  rotate_left
  · intro w hSw; obtain ⟨s1, s2⟩ := hSw; go_simp; try with_reducible rfl
  go_simp
  refine wpAnyH_ready (rs := [4, 6]) (by kernel_rfl) (by simp) ?_
  refine AllReadyH.consL rfl (fun K hK => ?_) (AllReadyH.consL rfl (fun K hK => ?_) AllReadyH.nil)
  · go_wp2_with fail
    go_simp
    refine hK.out _ _ ?_ (fun hHeld => ?_)
    · exact ⟨b05, b15⟩
    clear hK K
    refine wpAnyH_ready (rs := [6]) (by kernel_rfl) (by simp) ?_
    refine AllReadyH.consL rfl (fun K hK => ?_) AllReadyH.nil
    go_wp2_with (go_at_call 44; (with_reducible refine (HCP.out _ (Kp.refl _).drew).mono ?_); rintro e w2 ⟨L, us2, rfl, hown2, hcl2, -, hk2⟩; have K2 := Lib.hid (Kp.trans (Kp.refl w4).drew hk2); have O2 := Lib.hid hown2; have C2 := Lib.hid (show Cln w4.heap.size us2 rs w2 from hcl2); have OW3 := Lib.hid (by have h := own_kp H4.out.s.own K2.out; rw [HNR.out] at h; exact h); have c12 := kp_cell K2.out c1; clear hown2 hcl2 hk2)
    have b02 := kp_cell K2.out b04
    have b12 := kp_cell K2.out b14
    go_simp
    refine hK.out _ _ ?_ (fun hHeld => ?_)
    · exact ⟨b02, b12⟩
    clear hK K
    refine wpAnyH_ready (rs := [7]) (by kernel_rfl) (by simp) ?_
    refine AllReadyH.consL rfl (fun K hK => ?_) AllReadyH.nil
    go_simp
    refine wpList_append_us _ rfl _ _ rfl B _ _ us rfl OW3.out _ n n us2 rfl ?d1 ?d2 ?d3 ?d4 ?d5 ?d6 ?_
    case d1 => rw [C2.out.1]; exact HN.out
    case d2 => intro h; cases h
    case d3 => exact C2.out.vals.one
    case d4 => exact own_cells O2.out
    case d5 => have := HNB.out; omega
    case d6 => have := H4.out.s.base; have := old_of_row H4.out.s.c; have := Below.size K2.out; omega
    intro v5 w5 hown5 hgr5 hbk5
    obtain ⟨a5, cv5, rfl, -⟩ := own_len hown5
    rw [← HNR.out] at hgr5 hbk5
    have hc2 := C2.out
    have S5 := Lib.hid (H4.out.s.more (fun b hb => Below.block K2.out b (H4.out.s.mem b hb).2) (hc2.mono (by have := H4.out.s.base; have := old_of_row H4.out.s.c; omega)) (fun u hu b e hb => by have := (hc2.lt u hu b e).1; have := (H4.out.s.mem b hb).2; omega) hgr5 hbk5 (by rw [HNR.out, HN.out]; exact hown5))
    have A5 := Lib.hid (more_asd (q := q) (us := us) hc2 K2.out hgr5 hbk5)
    have j5 := jc4 H4.out.s K2.out hgr5
    have c5 := j5.c1
    have z5 := j5.z 1
    rw [HNR.out] at c5
    have B5 := Lib.hid (show w5.cell? ⟨w.heap.size, 0, none⟩ = some (.pointer (some ⟨q, 0, none⟩)) ∧ w5.cell? ⟨w.heap.size + 1, 0, none⟩ = some (.slice a n c) from ⟨(World.cell?_of_block (a := ⟨w.heap.size, 0, none⟩) (hgr5.block w.heap.size (old_of_cell b02) (HV.out _ (.inl rfl)))).trans b02, (World.cell?_of_block (a := ⟨w.heap.size + 1, 0, none⟩) (hgr5.block (w.heap.size + 1) (old_of_cell b12) (HV.out _ (.inr rfl)))).trans b12⟩)
    go_simp
    refine hK.out _ _ ?_ (fun hHeld => ?_)
    · exact B5.out
    clear hK K hown5 hgr5 hbk5 j5 hc2
    refine wpAnyH_take (i := 8) (v := ?_) rfl (by kernel_rfl) (by kernel_rfl) (by kernel_rfl) (fun _ _ _ h => h) (Or.inl ⟨by rfl, ?_⟩) (by assumption) ?_
    rotate_left
    · intro w hSw; go_simp; try with_reducible rfl
    go_simp
    refine wpAnyH_take (i := 9) (v := ?_) rfl (by kernel_rfl) (by kernel_rfl) (by kernel_rfl) (fun _ _ _ h => h) (Or.inl ⟨by rfl, ?_⟩) (by assumption) ?_
    rotate_left
    · intro w hSw; go_simp; try with_reducible rfl
    go_simp
    refine wpAnyH_ready (rs := [10]) (by kernel_rfl) (by simp) ?_
    refine AllReadyH.consL rfl (fun K hK => ?_) AllReadyH.nil
    go_wp2_with (fail)
    have B6 := kB B5.out HQ.out (Value.slice a5 (nr + n) cv5)
    refine hK.out _ _ ?_ (fun hHeld => ?_)
    · exact B6
    clear hK K
    refine wpAnyH_done (by kernel_rfl) ?_ _
    go_wp2
    go_ret
    have S := S5.out
    have H9 := H4.out
    have A9 := A5.out
    rw [HNR.out] at S H9 A9
    exact ⟨rfl, _, us ++ us2, O4, H9.jou HT.out S A9⟩
  · go_wp2_with (go_at_call 44; (with_reducible refine (HCP.out _ (Kp.refl _).drew).mono ?_); rintro e w2 ⟨L, us2, rfl, hown2, hcl2, -, hk2⟩; have K2 := Lib.hid (Kp.trans (Kp.refl w4).drew hk2); have O2 := Lib.hid hown2; have C2 := Lib.hid (show Cln w4.heap.size us2 rs w2 from hcl2); have OW3 := Lib.hid (by have h := own_kp H4.out.s.own K2.out; rw [HNR.out] at h; exact h); have c12 := kp_cell K2.out c1; clear hown2 hcl2 hk2)
    have b02 := kp_cell K2.out b04
    have b12 := kp_cell K2.out b14
    go_simp
    refine hK.out _ _ ?_ (fun hHeld => ?_)
    · exact ⟨b02, b12⟩
    clear hK K
    refine wpAnyH_ready (rs := [4]) (by kernel_rfl) (by simp) ?_
    refine AllReadyH.consL rfl (fun K hK => ?_) AllReadyH.nil
    go_wp2_with fail
    go_simp
    refine hK.out _ _ ?_ (fun hHeld => ?_)
    · exact ⟨b02, b12⟩
    clear hK K
    refine wpAnyH_ready (rs := [7]) (by kernel_rfl) (by simp) ?_
    refine AllReadyH.consL rfl (fun K hK => ?_) AllReadyH.nil
    go_simp
    refine wpList_append_us _ rfl _ _ rfl B _ _ us rfl OW3.out _ n n us2 rfl ?d1 ?d2 ?d3 ?d4 ?d5 ?d6 ?_
    case d1 => rw [C2.out.1]; exact HN.out
    case d2 => intro h; cases h
    case d3 => exact C2.out.vals.one
    case d4 => exact own_cells O2.out
    case d5 => have := HNB.out; omega
    case d6 => have := H4.out.s.base; have := old_of_row H4.out.s.c; have := Below.size K2.out; omega
    intro v5 w5 hown5 hgr5 hbk5
    obtain ⟨a5, cv5, rfl, -⟩ := own_len hown5
    rw [← HNR.out] at hgr5 hbk5
    have hc2 := C2.out
    have S5 := Lib.hid (H4.out.s.more (fun b hb => Below.block K2.out b (H4.out.s.mem b hb).2) (hc2.mono (by have := H4.out.s.base; have := old_of_row H4.out.s.c; omega)) (fun u hu b e hb => by have := (hc2.lt u hu b e).1; have := (H4.out.s.mem b hb).2; omega) hgr5 hbk5 (by rw [HNR.out, HN.out]; exact hown5))
    have A5 := Lib.hid (more_asd (q := q) (us := us) hc2 K2.out hgr5 hbk5)
    have j5 := jc4 H4.out.s K2.out hgr5
    have c5 := j5.c1
    have z5 := j5.z 1
    rw [HNR.out] at c5
    have B5 := Lib.hid (show w5.cell? ⟨w.heap.size, 0, none⟩ = some (.pointer (some ⟨q, 0, none⟩)) ∧ w5.cell? ⟨w.heap.size + 1, 0, none⟩ = some (.slice a n c) from ⟨(World.cell?_of_block (a := ⟨w.heap.size, 0, none⟩) (hgr5.block w.heap.size (old_of_cell b02) (HV.out _ (.inl rfl)))).trans b02, (World.cell?_of_block (a := ⟨w.heap.size + 1, 0, none⟩) (hgr5.block (w.heap.size + 1) (old_of_cell b12) (HV.out _ (.inr rfl)))).trans b12⟩)
    go_simp
    refine hK.out _ _ ?_ (fun hHeld => ?_)
    · exact B5.out
    clear hK K hown5 hgr5 hbk5 j5 hc2
    refine wpAnyH_take (i := 8) (v := ?_) rfl (by kernel_rfl) (by kernel_rfl) (by kernel_rfl) (fun _ _ _ h => h) (Or.inl ⟨by rfl, ?_⟩) (by assumption) ?_
    rotate_left
    · intro w hSw; go_simp; try with_reducible rfl
    go_simp
    refine wpAnyH_take (i := 9) (v := ?_) rfl (by kernel_rfl) (by kernel_rfl) (by kernel_rfl) (fun _ _ _ h => h) (Or.inl ⟨by rfl, ?_⟩) (by assumption) ?_
    rotate_left
    · intro w hSw; go_simp; try with_reducible rfl
    go_simp
    refine wpAnyH_ready (rs := [10]) (by kernel_rfl) (by simp) ?_
    refine AllReadyH.consL rfl (fun K hK => ?_) AllReadyH.nil
    go_wp2_with (fail)
    have B6 := kB B5.out HQ.out (Value.slice a5 (nr + n) cv5)
    refine hK.out _ _ ?_ (fun hHeld => ?_)
    · exact B6
    clear hK K
    refine wpAnyH_done (by kernel_rfl) ?_ _
    go_wp2
    go_ret
    have S := S5.out
    have H9 := H4.out
    have A9 := A5.out
    rw [HNR.out] at S H9 A9
    exact ⟨rfl, _, us ++ us2, O4, H9.jou HT.out S A9⟩
end Go.Proofs.YtpehmkglkjlmfaaDoor

