/-
  THE LAWS OF CLOCKS (own work): TimersOrder.
-/
import Derived.Test.YtanbeaebdingeaaDoorTmH
import Derived.Test.YtanbeaebdingeaaDoorTmG
namespace Go.Proofs.YtanbeaebdingeaaDoor
open Go.RowKit Go.ChangeShapes Go.WideShapes
variable {w w1 w2 : World} {q mb mt : Nat} {c : CkM} {ads : List Addr}
/-- a set of keys, as the law keeps it -/
def boD (b : Bool) : DataW Unit := .lit (.bool b)
def boR : Value → Option (DataW Unit × List MemPlace)
  | .bool b => some (boD b, [])
  | _ => none
theorem boR_inv {v : Value} {b : Bool} {ps : List MemPlace} (h : boR v = some (boD b, ps)) : v = .bool b := by
  unfold boR at h
  split at h
  · injection h with h
    injection h with h _
    unfold boD at h
    injection h with h
    injection h with h
    rw [h]
  · cases h
def Td (mt : Nat) (ks : List (List UInt8)) (w : World) : Prop := ∃ D, w.ownsMap Tryd.prog 9 boR mt ks.length D ∧ ∀ k : List UInt8, k.length ≤ maxLen → D.atKey (.string k) (boD false) = boD (decide (k ∈ ks))
theorem Td.lt {ks : List (List UInt8)} (h : Td mt ks w) : mt < w.heap.size := by
  obtain ⟨D, hD, _⟩ := h
  exact hD.lt
theorem Td.kp {ks : List (List UInt8)} (h : Td mt ks w) (hk : Kp w w1) : Td mt ks w1 := by
  have hb := Below.block hk mt h.lt
  obtain ⟨D, ⟨es, clock, h1, r⟩, hD⟩ := h
  exact ⟨D, ⟨es, clock, hb.trans h1, r⟩, hD⟩
theorem Td.new (w : World) : Td w.heap.size [] (w.alloc (.map #[] 0)) :=
  ⟨.map [], World.ownsMap_made w Tryd.prog 9 boR, fun k _ => by rw [WideAt.atKey_none _ (fun p hp => by cases hp)]; rfl⟩
theorem zero_bo (w : World) : (zeroValue 4).run Tryd.prog w = .ok (.bool false) w := by kernel_rfl
theorem Td.look {ks : List (List UInt8)} (h : Td mt ks w) {k : List UInt8} (hk : k.length ≤ maxLen) : (Instr.lookup 60 (.map (some mt)) (encStr k) false).run Tryd.prog w = .ok (.bool (decide (k ∈ ks))) w := by
  obtain ⟨D, hD, hm⟩ := h
  obtain ⟨v, ps, hr, hv⟩ := hD.lookup kS Tryd.underlying60 (zero_bo w) (zd := boD false) (zp := []) rfl (key_str hk)
  rw [hm k hk] at hv
  rw [hr, boR_inv hv]
theorem Td.put {ks : List (List UInt8)} (h : Td mt ks w) {k : List UInt8} (hk : k.length ≤ maxLen) (hn : ks.length < maxLen) : ∃ w', (Instr.mapUpdate 60 (.map (some mt)) (encStr k) (.bool true)).run Tryd.prog w = .ok () w' ∧ Td mt (ks ++ [k]) w' ∧ w.grownBy w' (some mt) := by
  obtain ⟨D, hD, hm⟩ := h
  have T := hD.tidy kS
  obtain ⟨w', hr, ho, hg⟩ := hD.update kS Tryd.underlying60 hn (key_str hk) (val := .bool true) (d := boD true) (ps := []) rfl
  refine ⟨w', hr, ⟨_, by rw [List.length_append]; exact ho, fun k' hk' => ?_⟩, hg⟩
  by_cases e : k' = k
  · rw [e, Maps.atKey_put_same T.isMap (key_lit hk), decide_eq_true (List.mem_append_right _ (List.mem_singleton_self k))]
  · rw [Maps.atKey_put_other (fun q => e (by injection q)), hm k' hk']
    refine congrArg boD ?_
    rw [Bool.eq_iff_iff, decide_eq_true_eq, decide_eq_true_eq, List.mem_append, List.mem_singleton]
    exact ⟨.inl, fun h => h.resolve_right e⟩
theorem AtL.up (h : AtL w q mb c w1) (hq : q < mt) (hm : mb < mt) (h0 : w.heap.size ≤ mt) (hg : w1.grownBy w2 (some mt)) : AtL w q mb c w2 := by
  refine ⟨h.1.stay fun b hb => hg.block b (h.1.mem b hb).2 (fun e => ?_), Below.grown h.2 hg (Below.size h.2) (fun k hk => by injection hk with hk; omega)⟩
  injection e with e
  rcases hb with rfl | rfl <;> omega
theorem AtL.at' (h : AtL w q mb c w1) : q < w1.heap.size ∧ mb < w1.heap.size := ⟨(h.1.mem q (.inl rfl)).2, (h.1.mem mb (.inr rfl)).2⟩
/-- a key of a row of keys -/
theorem own_atK {base n cp : Nat} {a : Option Addr} {l : List (List UInt8)} (h : w.ownsRow base 9 1 (.slice a n cp) n (kyE.row l)) (hn : l.length = n) {p : Nat} (hp : p < l.length) : ∃ g, a = some ⟨g, 0, none⟩ ∧ w.cell? ⟨g, p, none⟩ = some (encStr l[p]) := by
  rcases h.2 with ⟨_, hz⟩ | ⟨g, cl, cur, e1, hgl, hh, hrest⟩
  · omega
  injection e1 with e1 _ e2
  subst e1
  subst e2
  refine ⟨g, rfl, ?_⟩
  have hr := row_at kyE l p hp 0 (by decide)
  have := h.cells rfl (p * 1 + 0) (encStr l[p]) (by rw [← show (kyE.enc l[p])[0]? = some (encStr l[p]) from rfl]; exact hr)
  rw [Addr.add_lit, Nat.zero_add] at this
  simpa using this
theorem nd_take {l : List (List UInt8)} (h : l.Nodup) {p : Nat} (hp : p < l.length) : l[p] ∉ l.take p := by
  intro hm
  obtain ⟨i, hi, e⟩ := List.getElem_of_mem hm
  rw [List.length_take] at hi
  rw [List.getElem_take] at e
  have := List.getElem_inj h |>.1 e
  omega
theorem le_drop {l : List (List UInt8)} (h : l.Pairwise (leK c)) {p : Nat} (hp : p < l.length) : ∀ k ∈ l.drop (p + 1), c.atK l[p] ≤ c.atK k := by
  have h2 : (l.drop p).Pairwise (leK c) := h.sublist (List.drop_sublist p l)
  rw [List.drop_eq_getElem_cons hp, List.pairwise_cons] at h2
  intro k hk
  rcases h2.1 k hk with g | ⟨g, _⟩ <;> omega
theorem fl_gt_no {a b : Nat} (ha : a ≤ 9218868437227405312) (hb : b ≤ 9218868437227405312) (h : a ≤ b) : (FloatKind.f64.format.order a b == some .gt) = false := by
  have e := Fl.test_gt (a := a) (b := b) (by omega) (by omega)
  rw [Fl.dl_isLt (Fl.dl_of_le hb).1 (Fl.dl_of_le ha).1, (Fl.dl_of_le ha).2.2, (Fl.dl_of_le hb).2.2, decide_eq_false (by omega)] at e
  exact e
/-- the letters of TimersOrder -/
def leL (j : Nat) : List UInt8 := [UInt8.ofNat (65 + j)]
theorem leL_len (k : Nat) : (leL k).length ≤ maxLen := by show 1 ≤ maxLen; decide
theorem leL_str (j : Nat) : encStr (leL j) = .string (strOfNums [65 + (j : Int)]) := by
  unfold strOfNums leL encStr
  rw [List.map_cons, List.map_nil, show (65 + (j : Int)).toNat = 65 + j by omega]
theorem tick_ts (c : CkM) (x : Nat) : (c.tick x).2.ts = c.ts := by
  unfold CkM.tick
  split <;> rfl
theorem atK_key {k : List UInt8} (nd : c.ts.Pairwise (fun x y => x.k ≠ y.k)) {l : List (List UInt8)} (h : DueIs c l) (hk : k ∈ l) : c.has k = true ∧ c.atK k ≤ c.now := by
  obtain ⟨t, h1, rfl, h2⟩ := (due_mem h k).1 hk
  exact ⟨has_iff.2 ⟨t, h1, rfl⟩, by rw [atK_of nd h1]; exact h2⟩
theorem atK_not {k : List UInt8} (nd : c.ts.Pairwise (fun x y => x.k ≠ y.k)) {l : List (List UInt8)} (h : DueIs c l) (hh : c.has k = true) (hk : k ∉ l) : ¬ c.atK k ≤ c.now := by
  obtain ⟨t, h1, rfl⟩ := has_iff.1 hh
  rw [atK_of nd h1]
  exact fun g => hk ((due_mem h t.k).2 ⟨t, h1, rfl, g⟩)
set_option maxRecDepth 100000 in
set_option maxHeartbeats 8000000 in
theorem order13_any (v0 : Value) (f : List Nat) (tk : Nat) (htk : tk < 18446744073709551616) (hs : SlF v0 f w) (hf : ∀ x ∈ f, x < 18446744073709551616) (E0 : EP [0, 3, 5, 7] ads w) : Calls Tryd.prog 6 #[v0, .float .f64 tk] w fun r w' => r = .returned (.bool true) ∧ Kp w w' := by
  have hmm := @run_makeMap Tryd.prog
  obtain ⟨a, cap, rfl, hat⟩ := slf_form hs
  obtain ⟨n, hn⟩ : ∃ n, f.length = n := ⟨_, rfl⟩
  rw [hn] at hat ⊢
  obtain ⟨N, hN⟩ : ∃ N : Int, (n : Int) = N := ⟨_, rfl⟩
  have E := Lib.hid E0
  have HN := Lib.hid (fun w1 (h : Kp w w1) => atL_new h)
  have HAL := Lib.hid (alive13_any E0)
  have HNN := Lib.hid hN
  have HFN := Lib.hid hn
  have HF := Lib.hid hf
  have HAT := Lib.hid hat
  have HTK := Lib.hid htk
  have HTS := Lib.hid (fun q mb c w1 (h : AtL w q mb c w1) => atL_tick E0 h htk)
  have e_ge := ge0 htk
  clear E0 hs hf hat htk
  by_cases h60 : N > 50
  · clear hn
    go_enter Tryd.func6, Tryd.ntmps6
    go_wp2_with (first | (go_at_call 7; (with_reducible refine HAL.out.mono ?_); rintro e' w1 ⟨rfl, h1⟩; have K1 := Lib.hid h1; clear h1) | (go_at_call 9; (with_reducible refine (HN.out _ K1.out).mono ?_); rintro e' w2 ⟨q, mb, rfl, h2, -⟩; have Q2 := Lib.hid h2; clear h2))
    go_ret
    exact ⟨rfl, K1.out⟩
  have hn60 : ¬ 50 < N := h60
  have HN50 := Lib.hid hn60
  clear hn h60
  go_enter Tryd.func6, Tryd.ntmps6
  go_wp2_with (first | (go_at_call 7; (with_reducible refine HAL.out.mono ?_); rintro e' w1 ⟨rfl, h1⟩; have K1 := Lib.hid h1; clear h1) | (go_at_call 9; (with_reducible refine (HN.out _ K1.out).mono ?_); rintro e' w2 ⟨q, mb, rfl, h2, -⟩; have Q2 := Lib.hid h2; clear h2))
  go_loopw [30] (fun i wr => ∃ (j : Nat) (c : CkM), j ≤ n ∧ i = .int .i64 j ∧ AtL w q mb c wr) (fun i _ => n - (intOf i).toNat)
  case atStart => exact ⟨0, _, Nat.zero_le _, rfl, Q2.out⟩
  case round =>
    obtain ⟨j, c, hj, rfl, ha⟩ := hrel
    obtain ⟨jj, hjj⟩ : ∃ jj : Int, (j : Int) = jj := ⟨_, rfl⟩
    have HJ := Lib.hid hjj
    rw [hjj]
    by_cases hlt : j < n
    · have hjn : jj < N := by omega
      have hj0 : 0 ≤ jj := by omega
      have HLT := Lib.hid hlt
      have hw1 : wrap64 (jj + 1) = jj + 1 := IntWalk.wrap64_in _ (by omega)
      have hw65 : wrap64 (65 + jj) = 65 + jj := IntWalk.wrap64_in _ (by omega)
      have hw8 : IntKind.u8.wrap (65 + jj) = 65 + jj := by simp only [IntKind.wrap, IntKind.signed, IntKind.bits]; simp; omega
      obtain ⟨bb, off, rfl, hcell⟩ := HAT.out j hlt
      have hcl : wr.cell? ⟨bb, off + jj.toNat, none⟩ = some (.float .f64 (f.getD j 0)) := by
        rw [show jj.toNat = j by omega]
        exact kp_cell ha.2 hcell
      have hx : f.getD j 0 < 18446744073709551616 := by
        have hjf : j < f.length := by rw [HFN.out]; exact hlt
        rw [List.getD_eq_getElem?_getD, List.getElem?_eq_getElem hjf]
        exact HF.out _ (List.getElem_mem hjf)
      obtain ⟨x, hxx⟩ : ∃ x, f.getD j 0 = x := ⟨_, rfl⟩
      rw [hxx] at hcl hx
      have hk3 := kp_alloc wr (.cells #[.int .u8 (65 + jj)] 5)
      have hcl2 := kp_cell hk3 hcl
      have cv := conv_slb (box_byte13 wr (65 + jj) 5)
      have hst := atL_set E.out (ha.kp hk3) (k := leL j) (leL_len j) hx hx
      rw [leL_str, hjj] at hst
      obtain ⟨ss, hss⟩ : ∃ s, strOfNums [65 + jj] = s := ⟨_, rfl⟩
      rw [hss] at hst cv
      obtain ⟨ev, hev⟩ : ∃ e, errI ads (c.set (leL j) x x).1 = e := ⟨_, rfl⟩
      rw [hev] at hst
      have HST := Lib.hid hst
      clear ha hst hss hjj hlt hxx hcell hx hev hk3 hj
      go_wp2_with (go_at_call 21; (with_reducible refine HST.out.mono ?_); rintro e' w5 ⟨rfl, h5, -⟩; have Q5 := Lib.hid h5; clear h5)
      go_roundw
      case rel => exact ⟨j + 1, _, by have := HLT.out; omega, by have := HJ.out; rw [show ((j + 1 : Nat) : Int) = jj + 1 by omega], Q5.out⟩
      case measure => have := HJ.out; have := HLT.out; simp [intOf]; omega
    · have hjn : ¬ jj < N := by omega
      have Q3 := Lib.hid ha
      have hlen := fun w1 (h : AtL w q mb c w1) => atL_len h
      obtain ⟨LL, hLL⟩ : ∃ L : Int, (c.ts.length : Int) = L := ⟨_, rfl⟩
      rw [hLL] at hlen
      have HLL := Lib.hid hLL
      have HLE := Lib.hid hlen
      have hts := HTS.out q mb c
      cases hd : Fl.dl tk with
      | false =>
        rw [hd] at e_ge
        have hte : (c.tick tk).1 = 4 := by unfold CkM.tick; rw [if_neg (by rw [hd]; decide)]
        obtain ⟨o4, he4⟩ := errI_some ads 4 (by decide)
        rw [hte, he4] at hts
        have HTC := Lib.hid hts
        clear ha hlt hj hjj hLL hlen hts hte he4 hd
        go_wp2_with (first | (go_at_call 25; (with_reducible refine (HTC.out _ Q3.out).mono ?_); rintro e' w6 ⟨rfl, h6, -⟩; have Q6 := Lib.hid h6; clear h6) | (go_at_call 13; (with_reducible refine (HLE.out _ Q3.out).mono ?_); rintro e' w5 ⟨rfl, rfl⟩))
        go_ret
        exact ⟨rfl, Q6.out.2⟩
      | true =>
        have hte : (c.tick tk).1 = 0 := by unfold CkM.tick; rw [if_pos hd]
        rw [hte, errI_nil] at hts
        have hLL2 : ((c.tick tk).2.ts.length : Int) = LL := by rw [tick_ts]; exact hLL
        obtain ⟨d, hdd⟩ : ∃ d, (c.tick tk).2 = d := ⟨_, rfl⟩
        rw [hdd] at hts hLL2
        have HTC := Lib.hid hts
        have HL2 := Lib.hid hLL2
        have HDU := Lib.hid (fun w1 (h : AtL w q mb d w1) => atL_due h)
        clear ha hlt hj hjj hLL hlen hts hte hd hLL2 hdd e_ge
        go_wp2_with (first | (go_at_call 15; (with_reducible refine (HDU.out _ Q6.out).mono ?_); rintro e' w7 ⟨ao, cp, l, rfl, hl, ho, h7, -⟩; have Q7 := Lib.hid h7; have HLD := Lib.hid hl; have HOW := Lib.hid ho; clear h7 hl ho) | (go_at_call 25; (with_reducible refine (HTC.out _ Q3.out).mono ?_); rintro e' w6 ⟨rfl, h6, -⟩; have Q6 := Lib.hid h6; clear h6) | (go_at_call 13; (with_reducible refine (HLE.out _ Q3.out).mono ?_); rintro e' w5 ⟨rfl, rfl⟩))
        obtain ⟨np, hnp⟩ : ∃ n, l.length = n := ⟨_, rfl⟩
        obtain ⟨NP, hNP⟩ : ∃ N : Int, (np : Int) = N := ⟨_, rfl⟩
        have HNP := Lib.hid hnp
        have HNPI := Lib.hid hNP
        have hnp64 : np ≤ 64 := by rw [← hnp]; exact due_len Q7.out.1.ok HLD.out
        have HN64 := Lib.hid hnp64
        have ow := own_baseG HOW.out (Nat.zero_le _)
        simp only [hnp] at ow ⊢
        have km := kp_alloc w7 (.map #[] 0)
        have T8 := Lib.hid (Td.new w7)
        obtain ⟨B, hB⟩ : ∃ B, w7.heap.size = B := ⟨_, rfl⟩
        rw [hB] at T8
        have HB := Lib.hid hB
        obtain ⟨W8, hW8⟩ : ∃ W, w7.alloc (.map #[] 0) = W := ⟨_, rfl⟩
        rw [hW8] at km T8
        have Q8 := Lib.hid (Q7.out.kp km)
        have O8 := Lib.hid (own_stayG ow (fun b hb => Below.block km b (ow.lt b hb).2))
        have HOB := Lib.hid (fun b (hb : Value.ownBlock (.slice ao np cp) = some b) => (show b < B from by rw [← hB]; exact (ow.lt b hb).2))
        have HQB := Lib.hid (show q < B ∧ mb < B from by rw [← hB]; exact Q7.out.at')
        have HWB := Lib.hid (show w.heap.size ≤ B from by rw [← hB]; exact Below.size Q7.out.2)
        have HOKD := Lib.hid Q7.out.1.ok
        clear km ow hnp
        go_wp2
        rw [hB]
        try rw [hNP]
        go_loopw [11, 59] (fun ls i wr => ∃ (p lv : Nat), p ≤ np ∧ ls = .float .f64 lv ∧ i = .int .i64 p ∧ lv ≤ 9218868437227405312 ∧ (∀ k ∈ l.drop p, lv ≤ d.atK k) ∧ AtL w q mb d wr ∧ Td B (l.take p) wr ∧ wr.ownsRow 0 9 1 (.slice ao np cp) np (kyE.row l)) (fun _ i _ => np - (intOf i).toNat)
        case atStart => rw [hW8]; exact ⟨0, 0, Nat.zero_le _, rfl, rfl, Nat.zero_le _, fun _ _ => Nat.zero_le _, Q8.out, T8.out, O8.out⟩
        case round =>
          obtain ⟨p, lv, hp, rfl, rfl, hlv, hle, ha, htd, how⟩ := hrel
          obtain ⟨kk, hkk⟩ : ∃ kk : Int, (p : Int) = kk := ⟨_, rfl⟩
          rw [hkk]
          have HKK := Lib.hid hkk
          have A0 := Lib.hid ha
          have T0 := Lib.hid htd
          have O0 := Lib.hid how
          by_cases hlt : p < np
          · have hkN : kk < NP := by omega
            have hk0 : 0 ≤ kk := by omega
            have hw1 : wrap64 (kk + 1) = kk + 1 := IntWalk.wrap64_in _ (by omega)
            have hpl : p < l.length := by rw [HNP.out]; exact hlt
            obtain ⟨g, rfl, hcell⟩ := own_atK how HNP.out hpl
            have hcl : wr.cell? ⟨g, kk.toNat, none⟩ = some (encStr l[p]) := by
              rw [show kk.toNat = p by omega]
              exact hcell
            have hkm : l[p] ∈ l := List.getElem_mem hpl
            have hkl := due_keys HOKD.out HLD.out _ hkm
            obtain ⟨hhas, hnow⟩ := atK_key HOKD.out.nd HLD.out hkm
            have hta := atK_le HOKD.out l[p]
            have e_lt := fl_lt_no hta hlv (hle _ (by rw [List.drop_eq_getElem_cons hpl]; exact List.mem_cons_self))
            have e_gt := fl_gt_no hta HOKD.out.now hnow
            have HNX := Lib.hid (le_drop HLD.out.2 hpl)
            have HNI := Lib.hid (decide_eq_false (nd_take (due_nd HOKD.out.nd HLD.out) hpl))
            have HTK2 := Lib.hid (show l.take (p + 1) = l.take p ++ [l[p]] from List.take_succ_eq_append_getElem hpl)
            have HTA := Lib.hid hta
            have HKL := Lib.hid hkl
            have HLM := Lib.hid (show (l.take p).length < maxLen by rw [List.length_take]; have := HN64.out; unfold maxLen; omega)
            have HAA := Lib.hid (fun w1 (h : AtL w q mb d w1) => (show Calls Tryd.prog 19 #[.pointer (some ⟨q, 0, none⟩), encStr l[p]] w1 fun r w' => r = .returned (.tuple #[.float .f64 (d.atK l[p]), .int .i64 (d.getT l[p]).n, .bool true]) ∧ AtL w q mb d w' ∧ Kp w1 w' from by rw [← hhas]; exact atL_at h hkl))
            have HNW := Lib.hid (fun w1 (h : AtL w q mb d w1) => atL_now h)
            have HLT := Lib.hid hlt
            obtain ⟨k, hk⟩ : ∃ k, l[p] = k := ⟨_, rfl⟩
            rw [hk] at hcl e_lt e_gt HNX HNI HTK2 HTA HKL HAA
            obtain ⟨kn, hkn⟩ : ∃ x, (d.getT k).n = x := ⟨_, rfl⟩
            rw [hkn] at HAA
            obtain ⟨ka, hka⟩ : ∃ x, d.atK k = x := ⟨_, rfl⟩
            rw [hka] at HAA e_lt e_gt HNX HTA
            obtain ⟨dn, hdn⟩ : ∃ x, d.now = x := ⟨_, rfl⟩
            rw [hdn] at HNW e_gt
            clear ha htd how hlt hkk hcell hkm hkl hhas hnow hta hpl hk hkn hka hdn hle hp
            go_wp2_with (first
              | (go_at_call 12; (with_reducible refine (HNW.out _ A9.out).mono ?_); rintro e' w10 ⟨rfl, rfl⟩)
              | (go_at_call 19; (with_reducible refine (HAA.out _ A0.out).mono ?_); rintro e' w9 ⟨rfl, h9, hk9⟩; have A9 := Lib.hid h9; have t9 := T0.out.kp hk9; have lk := t9.look HKL.out; rw [HNI.out] at lk; obtain ⟨wU, hru, htu, hgu⟩ := t9.put HKL.out HLM.out; have TU := Lib.hid htu; have AU := Lib.hid (h9.up HQB.out.1 HQB.out.2 HWB.out hgu); have o9 := own_stayG O0.out (fun b hb => Below.block hk9 b (O0.out.lt b hb).2); have OU := Lib.hid (own_stayG o9 (fun b hb => hgu.block b (o9.lt b hb).2 (fun e => by have := HOB.out b hb; injection e with e; omega))); clear h9 hk9 t9 htu hgu o9))
            go_roundw
            case rel => exact ⟨p + 1, ka, by have := HLT.out; omega, rfl, by have := HKK.out; rw [show ((p + 1 : Nat) : Int) = kk + 1 by omega], HTA.out, HNX.out, AU.out, by rw [HTK2.out]; exact TU.out, OU.out⟩
            case measure => have := HKK.out; have := HLT.out; simp [intOf]; omega
          · have hkN : ¬ kk < NP := by omega
            have hpn : l.take p = l := List.take_of_length_le (by rw [HNP.out]; omega)
            rw [hpn] at T0
            have hn51 : N ≤ 50 := by have := HN50.out; omega
            clear ha htd how hlt hkk hle hp hpn
            go_wp2
            go_loopw [94] (fun i wr => ∃ j : Nat, j ≤ n ∧ i = .int .i64 j ∧ AtL w q mb d wr ∧ Td B l wr) (fun i _ => n - (intOf i).toNat)
            case atStart => exact ⟨0, Nat.zero_le _, rfl, A0.out, T0.out⟩
            case round =>
              obtain ⟨j, hj, rfl, ha, htd⟩ := hrel
              clear A0 T0
              obtain ⟨jj, hjj⟩ : ∃ jj : Int, (j : Int) = jj := ⟨_, rfl⟩
              have HJ := Lib.hid hjj
              rw [hjj]
              by_cases hlt : j < n
              · have hjn : jj < N := by omega
                have hj0 : 0 ≤ jj := by omega
                have HLT := Lib.hid hlt
                have hw1 : wrap64 (jj + 1) = jj + 1 := IntWalk.wrap64_in _ (by omega)
                have hw65 : wrap64 (65 + jj) = 65 + jj := IntWalk.wrap64_in _ (by omega)
                have hw8 : IntKind.u8.wrap (65 + jj) = 65 + jj := by simp only [IntKind.wrap, IntKind.signed, IntKind.bits]; simp; omega
                have hk3 := kp_alloc wr (.cells #[.int .u8 (65 + jj)] 5)
                have cv := conv_slb (box_byte13 wr (65 + jj) 5)
                have A0 := Lib.hid (ha.kp hk3)
                have T0 := Lib.hid (htd.kp hk3)
                have hta := atK_le HOKD.out (leL j)
                have hst := fun w1 (h : AtL w q mb d w1) => atL_at h (leL_len j)
                have hlk := fun w1 (h : Td B l w1) => h.look (leL_len j)
                rw [leL_str, hjj] at hst hlk
                obtain ⟨ss, hss⟩ : ∃ s, strOfNums [65 + jj] = s := ⟨_, rfl⟩
                rw [hss] at hst hlk cv
                have HNW := Lib.hid (fun w1 (h : AtL w q mb d w1) => atL_now h)
                have e_le := fl_le hta HOKD.out.now
                change ∀ w1, AtL w q mb d w1 → Calls Tryd.prog 19 #[.pointer (some ⟨q, 0, none⟩), .string ss] w1 fun r w' => r = .returned (.tuple #[.float .f64 (d.atK (leL j)), .int .i64 (d.getT (leL j)).n, .bool (d.has (leL j))]) ∧ AtL w q mb d w' ∧ Kp w1 w' at hst
                cases hhas : d.has (leL j) with
                | false =>
                  rw [hhas] at hst
                  have HST := Lib.hid hst
                  clear ha htd hst hss hjj hlt hk3 hj hta hlk e_le hhas
                  go_wp2_with (go_at_call 19; (with_reducible refine (HST.out _ A0.out).mono ?_); rintro e' w9 ⟨rfl, h9, hk9⟩; have A9 := Lib.hid h9; have T9 := Lib.hid (T0.out.kp hk9); clear h9 hk9)
                  go_roundw
                  case rel => exact ⟨j + 1, by have := HLT.out; omega, by have := HJ.out; rw [show ((j + 1 : Nat) : Int) = jj + 1 by omega], A9.out, T9.out⟩
                  case measure => have := HJ.out; have := HLT.out; simp [intOf]; omega
                | true =>
                  rw [hhas] at hst
                  by_cases hin : leL j ∈ l
                  · rw [decide_eq_true hin] at hlk
                    have HST := Lib.hid hst
                    have HLK := Lib.hid hlk
                    clear ha htd hst hss hjj hlt hk3 hj hta hlk e_le hhas hin
                    go_wp2_with (go_at_call 19; (with_reducible refine (HST.out _ A0.out).mono ?_); rintro e' w9 ⟨rfl, h9, hk9⟩; have A9 := Lib.hid h9; have T9 := Lib.hid (T0.out.kp hk9); have lk := HLK.out _ T9.out; clear h9 hk9)
                    go_roundw
                    case rel => exact ⟨j + 1, by have := HLT.out; omega, by have := HJ.out; rw [show ((j + 1 : Nat) : Int) = jj + 1 by omega], A9.out, T9.out⟩
                    case measure => have := HJ.out; have := HLT.out; simp [intOf]; omega
                  · have hno := atK_not HOKD.out.nd HLD.out hhas hin
                    rw [decide_eq_false hin] at hlk
                    rw [decide_eq_false hno] at e_le
                    have HST := Lib.hid hst
                    have HLK := Lib.hid hlk
                    obtain ⟨ka, hka⟩ : ∃ x, d.atK (leL j) = x := ⟨_, rfl⟩
                    rw [hka] at HST e_le
                    obtain ⟨dn, hdn⟩ : ∃ x, d.now = x := ⟨_, rfl⟩
                    rw [hdn] at HNW e_le
                    clear ha htd hst hss hjj hlt hk3 hj hta hlk hhas hin hno hka hdn
                    go_wp2_with (first | (go_at_call 12; (with_reducible refine (HNW.out _ A9.out).mono ?_); rintro e' w10 ⟨rfl, rfl⟩) | (go_at_call 19; (with_reducible refine (HST.out _ A0.out).mono ?_); rintro e' w9 ⟨rfl, h9, hk9⟩; have A9 := Lib.hid h9; have T9 := Lib.hid (T0.out.kp hk9); have lk := HLK.out _ T9.out; clear h9 hk9))
                    go_roundw
                    case rel => exact ⟨j + 1, by have := HLT.out; omega, by have := HJ.out; rw [show ((j + 1 : Nat) : Int) = jj + 1 by omega], A9.out, T9.out⟩
                    case measure => have := HJ.out; have := HLT.out; simp [intOf]; omega
              · have hjn : ¬ jj < N := by omega
                have A0 := Lib.hid ha
                have HLE := Lib.hid (fun w1 (h : AtL w q mb d w1) => (show Calls Tryd.prog 13 #[.pointer (some ⟨q, 0, none⟩)] w1 fun r w' => r = .returned (.int .i64 LL) ∧ w1 = w' from by rw [← HL2.out]; exact atL_len h))
                clear ha htd hlt hjj hj
                go_wp2_with (go_at_call 13; (with_reducible refine (HLE.out _ A0.out).mono ?_); rintro e' w10 ⟨rfl, rfl⟩)
                go_ret
                exact ⟨rfl, A0.out.2⟩
end Go.Proofs.YtanbeaebdingeaaDoor
