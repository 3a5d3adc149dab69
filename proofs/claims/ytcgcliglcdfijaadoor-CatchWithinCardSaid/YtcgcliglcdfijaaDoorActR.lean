/-
  catch.All AND catch.Until OVER THE LAW's ACTS, and the document's answers (own work).
-/
import Derived.Test.YtcgcliglcdfijaaDoorActs
namespace Go.Proofs.YtcgcliglcdfijaaDoor
open Go.RowKit Go.Extern.Stop Go.Stop Go.Extern Go.ChangeShapes Go.WideShapes

/-- THE NUMBER of an act's error, a Nat. -/
def num (k : Nat) : Nat := if k = 0 then 0 else idx k + 1
theorem num_le (k : Nat) : num k ≤ 14 := by simp only [num, idx]; split <;> (try split) <;> omega
theorem ek_num (k : Nat) : ek k = num k := by simp only [ek, num]; split <;> rfl

theorem ActV.dw {w w' : World} {pc : Addr} {c : Int} {k : Nat} {v : Value} (h : ActV w pc k v) (hd : DW pc c w w') : ActV w' pc k v := by
  rcases h with h | ⟨h, b, pb, h1, h2, h3, h4, h5⟩
  · exact .inl h
  · have e : ∀ (q : Nat) (o : Obj), pc.block < q → w.heap[q]? = some o → w'.heap[q]? = some o := by
      intro q o hq ho
      rw [Below.block hd q (by rw [setCell_at]; exact old_of_row ho), Below.heap_setCell _ _ _ _ (by omega)]
      exact ho
    exact .inr ⟨h, b, pb, h1, h2, e b _ h2 h3, h4, e pb _ h4 h5⟩

theorem act_do (ads : List Addr) (s : Addr) (B : Nat) (w : World) (V : StB ads (some s) B w) (pk pb pc : Addr) (hp : B ≤ pc.block) (k : Nat) (hk : k ≤ 20) (n c : Int) (hn : (k : Int) = n)
    (ck : w.cell? pk = some (.int .i64 n)) (cb : w.cell? pb = some (.pointer (some pc))) (cc : w.cell? pc = some (.int .i64 c)) (zc : w.frozen? pc = false) :
    Calls Tryd.prog 36 #[.pointer (some pk), .pointer (some pb)] w fun e w' => Fin ads (some s) (.tuple #[]) k e w' ∧ DW pc c w w' := by
  have hd := does_any ads s B w V pc hp c cc zc k hk n hn
  rcases Nat.eq_zero_or_pos k with rfl | h0
  · have HD := Lib.hid hd
    clear hd V hn
    go_enter Tryd.func36, Tryd.ntmps36
    go_wp2_with (go_at_call 10; (with_reducible refine HD.out.mono ?_); rintro e w' ⟨he, hw⟩; obtain rfl : e = .returned (.tuple #[]) := he)
    go_end0
    exact ⟨rfl, hw⟩
  · have hd' : Calls Tryd.prog 10 #[.int .i64 n, .pointer (some pc)] w fun e w' => ∃ v, e = .panicked [{ v, recovered := false }] ∧ Pv ads (some s) w' v (idx k) ∧ DW pc c w w' := by
      refine hd.mono ?_
      rintro e w' ⟨he, hw⟩
      simp only [Fin] at he
      rw [if_neg (by omega)] at he
      obtain ⟨v, h1, h2⟩ := he
      exact ⟨v, h1, h2, hw⟩
    have HD := Lib.hid hd'
    clear hd hd' V
    go_enter Tryd.func36, Tryd.ntmps36
    go_wp2_with (go_at_call 10; (with_reducible refine HD.out.mono ?_); rintro e w' ⟨v, rfl, hv, hw⟩)
    refine ⟨rfl, ?_, hw⟩
    simp only [Fin]
    rw [if_neg (by omega)]
    exact ⟨v, rfl, hv⟩

/-- catch.run OF AN ACT. -/
theorem run_act (ads : List Addr) (s : Addr) (B : Nat) (w : World) (V : StB ads (some s) B w) (pc : Addr) (hp : B ≤ pc.block) (k : Nat) (hk : k ≤ 21) (c : Int) (v : Value) (hv : ActV w pc k v)
    (cc : w.cell? pc = some (.int .i64 c)) (zc : w.frozen? pc = false) :
    Calls Tryd.prog 35 #[v] w fun e w' => e = .returned (errV ads (num k)) ∧ (Kp w w' ∨ DW pc c w w') := by
  have hB := V.le
  have hl := V.st.len
  rcases hv with ⟨rfl, rfl⟩ | ⟨h21, b, pb, rfl, hb1, hb2, hb3, hb4⟩
  · refine (run_nil ads (some s) w V.st (by omega)).mono ?_
    rintro e w' ⟨rfl, hw⟩
    refine ⟨?_, .inl hw⟩
    have h12 : 12 < ads.length := by omega
    have : num 21 = 13 := rfl
    rw [this]
    simp [errV, h12]
  · have ck : w.cell? ⟨b, 0, none⟩ = some (.int .i64 k) := by simp [World.cell?, hb2]
    have cb : w.cell? ⟨pb, 0, none⟩ = some (.pointer (some pc)) := by simp [World.cell?, hb4]
    have H : ∀ w1, Kp w w1 → Calls Tryd.prog 36 #[.pointer (some ⟨b, 0, none⟩), .pointer (some ⟨pb, 0, none⟩)] w1 fun e w2 => Fin ads (some s) (.tuple #[]) k e w2 ∧ DW pc c w1 w2 := fun w1 h1 =>
      act_do ads s B w1 (V.below (Below.mono h1 hB)) _ _ pc hp k (by omega) k c rfl (kp_cell h1 ck) (kp_cell h1 cb) (kp_cell h1 cc) (kp_frozen h1 cc zc)
    rcases Nat.eq_zero_or_pos k with rfl | h0
    · refine (run_ret 36 _ w (DW pc c) (fun w => by simp [go_sem]) fun w1 h1 => (H w1 h1).mono ?_).mono ?_
      · rintro e w2 ⟨he, hw⟩
        exact ⟨he, dw_past hw (old_of_cell cc), hw⟩
      · rintro e w' ⟨rfl, hm⟩
        exact ⟨rfl, .inr (mid_dw hm)⟩
    · have hki : idx k < ads.length := by simp only [idx]; split <;> omega
      refine (run_panic ads (some s) (idx k) hki 36 _ w (DW pc c) (fun w => by simp [go_sem]) fun w1 h1 => (H w1 h1).mono ?_).mono ?_
      · rintro e w2 ⟨he, hw⟩
        simp only [Fin] at he
        rw [if_neg (by omega)] at he
        obtain ⟨v, h2, h3⟩ := he
        exact ⟨⟨v, h2, h3, ((V.below (Below.mono h1 hB)).below (dw_below hw hp (Nat.le_trans hB (Below.size h1)))).st⟩, dw_past hw (old_of_cell cc), hw⟩
      · rintro e w' ⟨rfl, hm⟩
        refine ⟨?_, .inr (mid_dw hm)⟩
        have : num k = idx k + 1 := by simp only [num]; rw [if_neg (by omega)]
        rw [this]
        simp [errV, hki]

/-- WHAT HOLDS while acts are done: all that lay in W0 is as it was. -/
def CInv (ads : List Addr) (s : Addr) (W0 : World) (pc : Addr) (ns : List Nat) (xs : List Value) (w : World) : Prop :=
  (St ads (some s) W0 ∧ Kp W0 w) ∧ (∃ c, w.cell? pc = some (.int .i64 c)) ∧ w.frozen? pc = false ∧ ∀ (i m : Nat) (x : Value), ns[i]? = some m → xs[i]? = some x → ActV w pc m x

theorem CInv.stb {ads : List Addr} {s : Addr} {W0 : World} {pc : Addr} {ns : List Nat} {xs : List Value} {w : World} (h : CInv ads s W0 pc ns xs w) : StB ads (some s) W0.heap.size w := ⟨W0, h.1.1, rfl, h.1.2⟩

theorem CInv.kp {ads : List Addr} {s : Addr} {W0 : World} {pc : Addr} {ns : List Nat} {xs : List Value} {w w' : World} (h : CInv ads s W0 pc ns xs w) (hk : Kp w w') : CInv ads s W0 pc ns xs w' := by
  obtain ⟨V, ⟨c, hc⟩, hz, ha⟩ := h
  exact ⟨⟨V.1, Kp.trans V.2 hk⟩, ⟨c, kp_cell hk hc⟩, kp_frozen hk hc hz, fun i m x h1 h2 => (ha i m x h1 h2).kp hk⟩

theorem CInv.dw {ads : List Addr} {s : Addr} {W0 : World} {pc : Addr} {ns : List Nat} {xs : List Value} {w w' : World} {c : Int} (h : CInv ads s W0 pc ns xs w) (hp : W0.heap.size ≤ pc.block) (hd : DW pc c w w') : CInv ads s W0 pc ns xs w' := by
  obtain ⟨V, ⟨c0, hc⟩, hz, ha⟩ := h
  have hs : (w.setCell pc (.int .i64 (wrap64 (c + 1)))).cell? pc = some (.int .i64 (wrap64 (c + 1))) := by simp [go_sem, hc]
  exact ⟨⟨V.1, Below.trans V.2 (dw_below hd hp (Below.size V.2))⟩, ⟨_, dw_cell hd hc⟩, kp_frozen hd hs (by rw [World.frozen?_setCell]; exact hz), fun i m x h1 h2 => (ha i m x h1 h2).dw hd⟩

theorem act_step (ads : List Addr) (s : Addr) (W0 : World) (pc : Addr) (hp : W0.heap.size ≤ pc.block) (ns : List Nat) (xs : List Value) (hlen : ns.length = xs.length) (hn21 : ∀ n ∈ ns, n ≤ 21) (w : World) (hpc : pc.block < w.heap.size) :
    ∀ (j : Nat) (h : j < xs.length) (h' : j < (ns.map num).length) w1, w.heap.size ≤ w1.heap.size → CInv ads s W0 pc ns xs w1 → Calls Tryd.prog 35 #[xs[j]] w1 fun e w' => e = .returned (errV ads (ns.map num)[j]) ∧ CInv ads s W0 pc ns xs w' ∧ Past w.heap.size w1 w' := by
  intro j h h' w1 hsz hI
  have hj : j < ns.length := by omega
  have hI' := hI
  have V := hI.stb
  obtain ⟨-, ⟨c, hc⟩, hz, ha⟩ := hI
  have hav := ha j ns[j] xs[j] (List.getElem?_eq_getElem hj) (List.getElem?_eq_getElem h)
  refine (run_act ads s W0.heap.size w1 V pc hp ns[j] (hn21 _ (List.getElem_mem _)) c xs[j] hav hc hz).mono ?_
  rintro e w' ⟨he, hw⟩
  refine ⟨by rw [he, List.getElem_map], ?_, ?_⟩
  · rcases hw with hw | hw
    · exact hI'.kp hw
    · exact hI'.dw hp hw
  · rcases hw with hw | hw
    · exact Past.of_kp hw
    · exact dw_past hw hpc

theorem act_shape {w : World} {pc : Addr} {ns : List Nat} {xs : List Value} (hlen : ns.length = xs.length) (h : ∀ (i m : Nat) (x : Value), ns[i]? = some m → xs[i]? = some x → ActV w pc m x) :
    ∀ u ∈ xs, u.oneCell' = true ∧ ∀ cs, u ≠ .agg cs := by
  intro u hu
  obtain ⟨i, hi, rfl⟩ := List.getElem_of_mem hu
  have hi' : i < ns.length := by omega
  rcases h i ns[i] xs[i] (List.getElem?_eq_getElem hi') (List.getElem?_eq_getElem hi) with ⟨_, e⟩ | ⟨_, b, pb, e, _⟩
  · rw [e]; exact ⟨rfl, fun cs h => by cases h⟩
  · rw [e]; exact ⟨rfl, fun cs h => by cases h⟩

theorem all_acts (ads : List Addr) (s : Addr) (W0 : World) (pc : Addr) (hp : W0.heap.size ≤ pc.block) (ns : List Nat) (hn21 : ∀ n ∈ ns, n ≤ 21) (hl : ns.length ≤ 1000) (v : Value) (xs : List Value) (hlen : xs.length = ns.length) (w : World) (hs : SlV v xs w) (hI : CInv ads s W0 pc ns xs w) :
    Calls Tryd.prog 14 #[v] w fun e w' => e = .returned (.tuple #[.int .i64 (cnt (ns.map num)), errV ads (fst1 (ns.map num))]) ∧ CInv ads s W0 pc ns xs w' := by
  have hpc : pc.block < w.heap.size := by obtain ⟨c, hc⟩ := hI.2.1; exact old_of_cell hc
  refine (all_any ads hI.stb.st.len v xs w hs (by omega) (act_shape hlen.symm hI.2.2.2) (ns.map num) (by simp [hlen]) ?_ (fun _ w1 => CInv ads s W0 pc ns xs w1) (fun w1 h1 => hI.kp h1) (act_step ads s W0 pc hp ns xs hlen.symm hn21 w hpc)).mono ?_
  · intro k hk
    obtain ⟨n, _, rfl⟩ := List.mem_map.1 hk
    exact num_le n
  · rintro e w' ⟨he, hi, _⟩
    exact ⟨he, hi⟩

theorem until_acts (ads : List Addr) (s : Addr) (W0 : World) (pc : Addr) (hp : W0.heap.size ≤ pc.block) (ns : List Nat) (hn21 : ∀ n ∈ ns, n ≤ 21) (hl : ns.length ≤ 1000) (v : Value) (xs : List Value) (hlen : xs.length = ns.length) (w : World) (hs : SlV v xs w) (hI : CInv ads s W0 pc ns xs w) :
    Calls Tryd.prog 17 #[v] w fun e w' => e = .returned (.tuple #[.int .i64 (ahead (ns.map num)), errV ads (fst1 (ns.map num))]) ∧ CInv ads s W0 pc ns xs w' := by
  have hpc : pc.block < w.heap.size := by obtain ⟨c, hc⟩ := hI.2.1; exact old_of_cell hc
  refine (until_any ads hI.stb.st.len v xs w hs (by omega) (act_shape hlen.symm hI.2.2.2) (ns.map num) (by simp [hlen]) ?_ (fun _ w1 => CInv ads s W0 pc ns xs w1) (fun w1 h1 => hI.kp h1) (act_step ads s W0 pc hp ns xs hlen.symm hn21 w hpc)).mono ?_
  · intro k hk
    obtain ⟨n, _, rfl⟩ := List.mem_map.1 hk
    exact num_le n
  · rintro e w' ⟨he, ⟨_, hi⟩, _⟩
    exact ⟨he, hi⟩


theorem cnt_from : ∀ (l : List Nat) (n : Nat), l.foldl (fun n x => if x = 0 then n else n + 1) n = n + cnt l
  | [], n => by simp [cnt]
  | x :: t, n => by
    have h1 := cnt_from t
    simp only [cnt, List.foldl_cons] at h1 ⊢
    rw [h1, h1 (if x = 0 then 0 else 0 + 1)]
    split <;> omega
theorem cnt_fst : ∀ l : List Nat, cnt l = 0 ↔ fst1 l = 0
  | [] => by simp [cnt, fst1]
  | x :: t => by
    rw [fst1_cons]
    have h1 : cnt (x :: t) = (if x = 0 then 0 else 1) + cnt t := by
      have := cnt_from t (if x = 0 then 0 else 0 + 1)
      simp only [Nat.zero_add] at this
      rw [← this]
      rfl
    rw [h1]
    have := cnt_fst t
    split
    · simpa using this
    · simp; omega

theorem ref_zero {ks : List Nat} {j : Nat} {cc : Int} {F : Nat} (h : ((cnt (ks.take j) : Nat) : Int) = cc) (h0 : cc = 0) (hF : fst1 (ks.take j) = F) : F = 0 := by
  rw [← hF]
  have : cnt (ks.take j) = 0 := by omega
  generalize ks.take j = l at this
  exact (cnt_fst l).1 this
theorem ref_pos {ks : List Nat} {j : Nat} {cc : Int} {F : Nat} (h : ((cnt (ks.take j) : Nat) : Int) = cc) (h0 : cc ≠ 0) (hF : fst1 (ks.take j) = F) : F ≠ 0 := by
  rw [← hF]
  have : cnt (ks.take j) ≠ 0 := by omega
  generalize ks.take j = l at this
  exact fun h => this ((cnt_fst l).2 h)


set_option maxRecDepth 20000 in
set_option maxHeartbeats 1000000 in
theorem refAll_any (a : Option Addr) (cap : Nat) (ns : List Nat) (len : Nat) (hlen : ns.length = len) (hl : len ≤ 1000) (hn21 : ∀ n ∈ ns, n ≤ 21) (w : World) (hs : SlI (.slice a len cap) (ns.map fun (n : Nat) => (n : Int)) w) :
    Calls Tryd.prog 16 #[.slice a len cap] w fun e w' => e = .returned (.tuple #[.int .i64 (cnt (ns.map num)), .int .i64 (fst1 (ns.map num))]) ∧ w = w' := by
  have hel : ∀ j (hj : j < ns.length), ∃ b off, a = some ⟨b, off, none⟩ ∧ w.cell? ⟨b, off + j, none⟩ = some (.int .i64 (ns[j] : Int)) := by
    intro j hj
    obtain ⟨b, off, h1, h2⟩ := hs.at j (by simpa using hj)
    refine ⟨b, off, h1, ?_⟩
    rw [h2]
    simp [List.getD, hj]
  have HEL := Lib.hid hel
  have HLEN := Lib.hid hlen
  have H21 := Lib.hid hn21
  clear hel hlen hs hn21
  go_enter Tryd.func16, Tryd.ntmps16
  go_wp2
  go_loop [4, 5, 10] (fun c f i => ∃ j : Nat, j ≤ len ∧ i = .int .i64 j ∧ c = .int .i64 (cnt ((ns.map num).take j)) ∧ f = .int .i64 (fst1 ((ns.map num).take j))) (fun _ _ i => len - (intOf i).toNat)
  case atStart => exact ⟨0, Nat.zero_le _, rfl, rfl, rfl⟩
  case round =>
    obtain ⟨j, hj, rfl, rfl, rfl⟩ := hrel
    obtain ⟨cc, hcc⟩ : ∃ cc : Int, ((cnt ((ns.map num).take j) : Nat) : Int) = cc := ⟨_, rfl⟩
    obtain ⟨F, hF⟩ : ∃ F, fst1 ((ns.map num).take j) = F := ⟨_, rfl⟩
    obtain ⟨FF, hFF⟩ : ∃ FF : Int, (F : Int) = FF := ⟨_, rfl⟩
    rw [hcc, hF, hFF]
    obtain ⟨jj, hjj⟩ : ∃ jj : Int, (j : Int) = jj := ⟨_, rfl⟩
    rw [hjj]
    have hLn := HLEN.out
    by_cases hlt : j < len
    · have hjn : j < ns.length := by omega
      have hkj : j < (ns.map num).length := by simpa using hjn
      obtain ⟨b, off, rfl, hc⟩ := HEL.out j hjn
      obtain ⟨k, hk⟩ : ∃ k, ns[j] = k := ⟨_, rfl⟩
      have hk21 : k ≤ 21 := hk ▸ H21.out _ (List.getElem_mem _)
      have hnum : (ns.map num)[j] = num k := by rw [List.getElem_map, hk]
      rw [hk] at hc
      obtain ⟨kk, hkk⟩ : ∃ kk : Int, (k : Int) = kk := ⟨_, rfl⟩
      have ej : jj.toNat = j := by omega
      rw [hkk, ← ej] at hc
      have RR : ∀ w, Calls Tryd.prog 12 #[.int .i64 kk] w fun e w' => e = .returned (.int .i64 (num k : Int)) ∧ w = w' := by
        intro w; rw [← ek_num]; exact refErr_any k hk21 kk hkk w
      obtain ⟨ee, hee⟩ : ∃ ee : Int, ((num k : Nat) : Int) = ee := ⟨_, rfl⟩
      rw [hee] at RR
      have HR := Lib.hid RR
      have HEE := Lib.hid hee
      have HNUM := Lib.hid hnum
      have hj0 : 0 ≤ jj := by omega
      have hltj : jj < len := by omega
      have HJ := Lib.hid hjj
      have HKJ := Lib.hid hkj
      clear RR hjj ej hkk hk hlt hnum hee
      have hcn := cnt_next hkj
      have hfn := fst_next hkj
      have hcle := cnt_le (ns.map num) j (by omega)
      rw [HNUM.out] at hcn hfn
      rw [hF] at hfn
      have hcc0 : 0 ≤ cc ∧ cc ≤ 1000 := by omega
      have HC := Lib.hid hcc
      have HF := Lib.hid hF
      have HFF := Lib.hid hFF
      have HCN := Lib.hid hcn
      have HFN := Lib.hid hfn
      clear hcc hF hFF hcn hfn hcle
      by_cases h0 : ee = 0
      · have HE0 := Lib.hid h0
        subst h0
        go_wp2_with (go_at_call 12; (with_reducible refine (HR.out _).mono ?_); rintro e w' ⟨rfl, rfl⟩)
        have h1 := HJ.out
        have hn0 : num k = 0 := by have := HEE.out; omega
        have h3 : cnt ((ns.map num).take (j + 1)) = cnt ((ns.map num).take j) := by have := HCN.out; rw [hn0] at this; simpa using this
        have h4 : fst1 ((ns.map num).take (j + 1)) = F := by have := HFN.out; rw [hn0] at this; split at this <;> omega
        go_round
        case rel => exact ⟨j + 1, by omega, by congr 1; omega, by rw [h3, HC.out], by rw [h4, HFF.out]⟩
        case measure => simp [intOf]; omega
      · have hb : (ee != 0) = true := by simp; exact h0
        have H0 := Lib.hid h0
        have hnz : num k ≠ 0 := by have := HEE.out; omega
        have h3 : cnt ((ns.map num).take (j + 1)) = cnt ((ns.map num).take j) + 1 := by have := HCN.out; rw [if_neg hnz] at this; exact this
        have HH3 := Lib.hid h3
        clear h3 hnz
        by_cases hc0 : cc = 0
        · have HC0 := Lib.hid hc0
          have hF0 : F = 0 := by have := HF.out; have := HC.out; exact ref_zero this hc0 HF.out
          have h4 : fst1 ((ns.map num).take (j + 1)) = num k := by have := HFN.out; rw [if_pos hF0] at this; exact this
          have HH4 := Lib.hid h4
          clear h4 hF0
          subst hc0
          go_wp2_with (go_at_call 12; (with_reducible refine (HR.out _).mono ?_); rintro e w' ⟨rfl, rfl⟩)
          have h1 := HJ.out
          have h2 := HC.out
          go_round
          case rel => exact ⟨j + 1, by omega, by congr 1; omega, by rw [HH3.out]; congr 1; omega, by rw [HH4.out, HEE.out]⟩
          case measure => simp [intOf]; omega
        · have hcb : (cc == 0) = false := by simp; exact hc0
          have hF0 : F ≠ 0 := ref_pos HC.out hc0 HF.out
          have h4 : fst1 ((ns.map num).take (j + 1)) = F := by have := HFN.out; rw [if_neg hF0] at this; exact this
          have HH4 := Lib.hid h4
          clear h4 hF0
          go_wp2_with (go_at_call 12; (with_reducible refine (HR.out _).mono ?_); rintro e w' ⟨rfl, rfl⟩)
          have h1 := HJ.out
          have h2 := HC.out
          go_round
          case rel => exact ⟨j + 1, by omega, by congr 1; omega, by rw [HH3.out]; congr 1; omega, by rw [HH4.out, HFF.out]⟩
          case measure => simp [intOf]; omega
    · obtain rfl : j = len := by omega
      have hex : ¬ jj < j := by omega
      have hful : (ns.map num).take j = ns.map num := by rw [List.take_of_length_le]; simp [hLn]
      rw [hful] at hcc hF
      have HCC := Lib.hid hcc
      have HF := Lib.hid hF
      have HFF := Lib.hid hFF
      clear hcc hF hFF hful hjj
      go_wp2
      go_ret2
      refine ⟨?_, rfl⟩
      rw [HCC.out, HF.out, HFF.out]
      rfl


set_option maxRecDepth 20000 in
set_option maxHeartbeats 1000000 in
theorem refUntil_any (a : Option Addr) (cap : Nat) (ns : List Nat) (len : Nat) (hlen : ns.length = len) (hl : len ≤ 1000) (hn21 : ∀ n ∈ ns, n ≤ 21) (w : World) (hs : SlI (.slice a len cap) (ns.map fun (n : Nat) => (n : Int)) w) :
    Calls Tryd.prog 18 #[.slice a len cap] w fun e w' => e = .returned (.tuple #[.int .i64 (ahead (ns.map num)), .int .i64 (fst1 (ns.map num))]) ∧ w = w' := by
  have hel : ∀ j (hj : j < ns.length), ∃ b off, a = some ⟨b, off, none⟩ ∧ w.cell? ⟨b, off + j, none⟩ = some (.int .i64 (ns[j] : Int)) := by
    intro j hj
    obtain ⟨b, off, h1, h2⟩ := hs.at j (by simpa using hj)
    refine ⟨b, off, h1, ?_⟩
    rw [h2]
    simp [List.getD, hj]
  have HEL := Lib.hid hel
  have HLEN := Lib.hid hlen
  have H21 := Lib.hid hn21
  clear hel hlen hs hn21
  go_enter Tryd.func18, Tryd.ntmps18
  go_wp2
  go_loop [8] (fun i => ∃ j : Nat, j ≤ len ∧ i = .int .i64 j ∧ ∀ i (hi : i < j) (hi' : i < (ns.map num).length), (ns.map num)[i] = 0) (fun i => len - (intOf i).toNat)
  case atStart => exact ⟨0, Nat.zero_le _, rfl, fun i hi => absurd hi (by omega)⟩
  case round =>
    obtain ⟨j, hj, rfl, hzero⟩ := hrel
    have HZ := Lib.hid hzero
    clear hzero
    obtain ⟨jj, hjj⟩ : ∃ jj : Int, (j : Int) = jj := ⟨_, rfl⟩
    rw [hjj]
    have hLn := HLEN.out
    by_cases hlt : j < len
    · have hjn : j < ns.length := by omega
      have hkj : j < (ns.map num).length := by simpa using hjn
      obtain ⟨b, off, rfl, hc⟩ := HEL.out j hjn
      obtain ⟨k, hk⟩ : ∃ k, ns[j] = k := ⟨_, rfl⟩
      have hk21 : k ≤ 21 := hk ▸ H21.out _ (List.getElem_mem _)
      have hnum : (ns.map num)[j] = num k := by rw [List.getElem_map, hk]
      rw [hk] at hc
      obtain ⟨kk, hkk⟩ : ∃ kk : Int, (k : Int) = kk := ⟨_, rfl⟩
      have ej : jj.toNat = j := by omega
      rw [hkk, ← ej] at hc
      have RR : ∀ w, Calls Tryd.prog 12 #[.int .i64 kk] w fun e w' => e = .returned (.int .i64 (num k : Int)) ∧ w = w' := by
        intro w; rw [← ek_num]; exact refErr_any k hk21 kk hkk w
      obtain ⟨ee, hee⟩ : ∃ ee : Int, ((num k : Nat) : Int) = ee := ⟨_, rfl⟩
      rw [hee] at RR
      have HR := Lib.hid RR
      have HEE := Lib.hid hee
      have HNUM := Lib.hid hnum
      have hj0 : 0 ≤ jj := by omega
      have hltj : jj < len := by omega
      have HJ := Lib.hid hjj
      have HKJ := Lib.hid hkj
      clear RR hjj ej hkk hk hlt hnum hee
      by_cases h0 : ee = 0
      · have HE0 := Lib.hid h0
        subst h0
        go_wp2_with (go_at_call 12; (with_reducible refine (HR.out _).mono ?_); rintro e w' ⟨rfl, rfl⟩)
        have h1 := HJ.out
        go_round
        case rel =>
          refine ⟨j + 1, by omega, by congr 1; omega, fun i hi hi' => ?_⟩
          by_cases e : i = j
          · subst e; rw [HNUM.out]; have := HEE.out; omega
          · exact HZ.out i (by omega) hi'
        case measure => simp [intOf]; omega
      · have hb : (ee != 0) = true := by simp; exact h0
        have H0 := Lib.hid h0
        go_wp2_with (go_at_call 12; (with_reducible refine (HR.out _).mono ?_); rintro e w' ⟨rfl, rfl⟩)
        go_ret2
        obtain ⟨e1, e2⟩ := until_hit (ns.map num) j HKJ.out (fun i hi => HZ.out i hi (by have := HKJ.out; omega)) (by rw [HNUM.out]; have := HEE.out; have := H0.out; omega)
        refine ⟨?_, rfl⟩
        rw [e1, e2, HNUM.out, HEE.out, HJ.out]
        rfl
    · obtain rfl : j = len := by omega
      have hex : ¬ jj < j := by omega
      obtain ⟨e1, e2⟩ := until_miss (ns.map num) (fun i hi => HZ.out i (by simpa [hLn] using hi) hi)
      have HE1 := Lib.hid e1
      have HE2 := Lib.hid e2
      clear e1 e2 hjj
      go_wp2
      go_ret2
      refine ⟨?_, rfl⟩
      rw [HE1.out, HE2.out]
      simp [HLEN.out]

end Go.Proofs.YtcgcliglcdfijaaDoor
