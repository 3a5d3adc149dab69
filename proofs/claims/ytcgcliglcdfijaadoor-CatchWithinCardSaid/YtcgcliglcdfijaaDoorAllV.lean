/-
  catch.All, catch.Until (own work), over whatever functions: how many panic, and the first one's error.
-/
import Derived.Test.YtcgcliglcdfijaaDoorSlI
import Derived.Test.YtcgcliglcdfijaaDoorRun
import Derived.Lib.SliceRun
namespace Go.Proofs.YtcgcliglcdfijaaDoor
open Go.RowKit Go.Extern.Stop Go.Stop Go.Extern Go.ChangeShapes Go.WideShapes

/-- THE SLICE VALUE v, not nil, READS AS THE VALUES xs. -/
def SlV (v : Value) (xs : List Value) (w : World) : Prop := ∃ b off cap, v = .slice (some ⟨b, off, none⟩) xs.length cap ∧ ∀ j u, xs[j]? = some u → w.cell? ⟨b, off + j, none⟩ = some u
theorem SlV.kp {v : Value} {xs : List Value} {w w' : World} (h : SlV v xs w) (hk : Kp w w') : SlV v xs w' := by
  obtain ⟨b, off, cap, h1, h2⟩ := h
  exact ⟨b, off, cap, h1, fun j u hj => kp_cell hk (h2 j u hj)⟩

theorem row_slv {w : World} {base : Nat} {e : TypeId} {n : Nat} {v : Value} {xs : List Value} (h : w.ownsRow base e 1 v n xs) (hn : v ≠ .slice none 0 0) : SlV v xs w := by
  obtain ⟨h1, h2⟩ := h
  rcases h2 with ⟨h2, _⟩ | ⟨g, cap, cur, hv, hg, hh, hnc, hcm, hcs, ht⟩
  · exact absurd h2 hn
  · refine ⟨g, 0, cap, by rw [hv, h1, Nat.mul_one], fun j u hj => ?_⟩
    unfold World.cell?
    dsimp only
    rw [hh]
    simp only [Option.isSome_none, Bool.false_eq_true, if_false, Nat.zero_add]
    rw [← ht, List.getElem?_take] at hj
    split at hj
    · simpa using hj
    · cases hj

theorem info_fn : (Tryd.prog.info? 1).map (fun i => (i.zero, i.size, i.bytes)) = some (some .nilFunc, 1, 8) := by kernel_rfl
theorem own_empty (w : World) (e : TypeId) : (w.alloc (.cells #[] e)).ownsRow w.heap.size e 1 (.slice (some ⟨w.heap.size, 0, none⟩) 0 0) 0 [] :=
  ⟨by simp, Or.inr ⟨w.heap.size, 0, #[], rfl, Nat.le_refl _, (MapKept.heap_alloc w _).1, Nat.le_refl _, by omega, by simp, by simp⟩⟩

set_option maxRecDepth 20000 in
theorem clone_any (v : Value) (xs : List Value) (w : World) (hs : SlV v xs w) (hl : xs.length ≤ 1000) (h1 : ∀ u ∈ xs, u.oneCell' = true) :
    Calls Tryd.prog 34 #[v] w fun e w' => ∃ v', e = .returned v' ∧ w'.ownsRow w.heap.size 1 1 v' xs.length xs ∧ v' ≠ .slice none 0 0 ∧ Kp w w' := by
  obtain ⟨i0, hi, hz0, hz1, hz2⟩ := info_parts info_fn
  have hs1 := hs.kp (kp_alloc w (.cells #[] 1))
  obtain ⟨b, off, cap, rfl, hc⟩ := hs1
  obtain ⟨len, hlen⟩ : ∃ len, xs.length = len := ⟨_, rfl⟩
  have HL := Lib.hid hlen
  have HC := Lib.hid hc
  have H1 := Lib.hid h1
  have HI := Lib.hid (And.intro hz1 hz2)
  have HI2 := Lib.hid hi
  have HI3 := Lib.hid hz0
  have OW := Lib.hid (own_empty w 1)
  have hll := hl
  rw [hlen] at hll ⊢
  have heqn := Lib.run_eql_slice_nil (P := Tryd.prog) w 36 1 (some ⟨b, off, none⟩) len cap 0 0 Tryd.underlying36
  clear hlen hc h1 hs hz1 hz2 hi hz0 hl
  go_enter Tryd.func34, Tryd.ntmps34
  go_wp2_with (at_builtin; refine wpList_append_own _ rfl _ _ 36 rfl w.heap.size 1 i0 .nilFunc 1 8 Tryd.underlying36 HI2.out HI3.out HI.out.1 HI.out.2 rfl (by decide) _ _ _ rfl OW.out ⟨b, off, none⟩ len cap xs rfl ?c1 ?c2 ?c3 ?c4 ?c5 ?c6 ?_)
  case c1 => rw [HL.out, Nat.mul_one]
  case c2 => intro j u hj; rw [add_plain]; exact HC.out j u hj
  case c3 => exact H1.out
  case c4 => unfold maxLen; omega
  case c5 => omega
  case c6 => simp
  rintro v' w' hown hgr hnil
  have hnn : v' ≠ .slice none 0 0 := hnil
  have hk : Kp w w' := (kp_alloc w (.cells #[] 1)).grown hgr (by simp) (fun k hk => by simp [Value.ownBlock] at hk; omega)
  have OWN := Lib.hid hown
  have NN := Lib.hid hnn
  have HK := Lib.hid hk
  clear hown hgr hnil hnn hk
  go_wp2
  go_ret
  exact ⟨_, rfl, OWN.out, NN.out, HK.out⟩

/-! ### how many panic, and the first one's error -/
def cnt (ks : List Nat) : Nat := ks.foldl (fun n x => if x = 0 then n else n + 1) 0
def fst1 (ks : List Nat) : Nat := ks.foldl (fun a x => if a = 0 then x else a) 0
def ahead (ks : List Nat) : Nat := (ks.takeWhile (· == 0)).length

theorem take_next {ks : List Nat} {j : Nat} (h : j < ks.length) : ks.take (j + 1) = ks.take j ++ [ks[j]] := by
  rw [List.take_add_one, List.getElem?_eq_getElem h]; rfl
theorem cnt_next {ks : List Nat} {j : Nat} (h : j < ks.length) : cnt (ks.take (j + 1)) = if ks[j] = 0 then cnt (ks.take j) else cnt (ks.take j) + 1 := by
  rw [take_next h]; simp only [cnt, List.foldl_append, List.foldl_cons, List.foldl_nil]
theorem fst_next {ks : List Nat} {j : Nat} (h : j < ks.length) : fst1 (ks.take (j + 1)) = if fst1 (ks.take j) = 0 then ks[j] else fst1 (ks.take j) := by
  rw [take_next h]; unfold fst1; rw [List.foldl_append]; rfl
theorem cnt_le (ks : List Nat) : ∀ j, j ≤ ks.length → cnt (ks.take j) ≤ j
  | 0, _ => by simp [cnt]
  | j + 1, h => by
    rw [cnt_next (by omega)]
    have := cnt_le ks j (by omega)
    split <;> omega
theorem fst_le (ks : List Nat) (m : Nat) (hm : ∀ k ∈ ks, k ≤ m) : ∀ j, j ≤ ks.length → fst1 (ks.take j) ≤ m
  | 0, _ => by simp [fst1]
  | j + 1, h => by
    rw [fst_next (by omega)]
    have := fst_le ks m hm j (by omega)
    split
    · exact hm _ (List.getElem_mem _)
    · exact this
theorem errV_some {ads : List Addr} {k : Nat} (h0 : 0 < k) (h : k ≤ ads.length) : ∃ a, errV ads k = snt a := by
  obtain ⟨n, rfl⟩ : ∃ n, k = n + 1 := ⟨k - 1, by omega⟩
  have hn : n < ads.length := by omega
  exact ⟨ads[n], by simp [errV, hn]⟩

set_option maxRecDepth 20000 in
set_option maxHeartbeats 1000000 in
/-- catch.All. -/
theorem all_any (ads : List Addr) (hads : ads.length = 14) (v : Value) (xs : List Value) (w : World) (hs : SlV v xs w) (hl : xs.length ≤ 1000) (h1 : ∀ u ∈ xs, u.oneCell' = true ∧ ∀ cs, u ≠ .agg cs)
    (ks : List Nat) (hks : ks.length = xs.length) (hk14 : ∀ k ∈ ks, k ≤ 14) (Inv : Nat → World → Prop) (hInv0 : ∀ w1, Kp w w1 → Inv 0 w1)
    (hstep : ∀ (j : Nat) (h : j < xs.length) (h' : j < ks.length) w1, w.heap.size ≤ w1.heap.size → Inv j w1 → Calls Tryd.prog 35 #[xs[j]] w1 fun e w' => e = .returned (errV ads ks[j]) ∧ Inv (j + 1) w' ∧ Past w.heap.size w1 w') :
    Calls Tryd.prog 14 #[v] w fun e w' => e = .returned (.tuple #[.int .i64 (cnt ks), errV ads (fst1 ks)]) ∧ Inv xs.length w' ∧ w.heap.size ≤ w'.heap.size := by
  have hcl := clone_any v xs w hs hl (fun u hu => (h1 u hu).1)
  have hful : ks.take xs.length = ks := by rw [← hks, List.take_length]
  obtain ⟨len, hlen⟩ : ∃ len, xs.length = len := ⟨_, rfl⟩
  have HST := Lib.hid hstep
  have H1 := Lib.hid h1
  have HK14 := Lib.hid hk14
  have HFUL := Lib.hid hful
  have HINV := Lib.hid hInv0
  have HL := Lib.hid hlen
  have HKS := Lib.hid hks
  have HAD := Lib.hid hads
  rw [hlen] at hcl hl ⊢
  have HCL := Lib.hid hcl
  clear hstep h1 hk14 hful hInv0 hlen hks hads hcl hs
  go_enter Tryd.func14, Tryd.ntmps14
  go_wp2_with (go_at_call 34; (with_reducible refine HCL.out.mono ?_); rintro e w1 ⟨v', rfl, hown, hnn, hk⟩; obtain ⟨hxl, hrow⟩ := hown; obtain ⟨g, cap, cur, rfl, hg, hh, hnc, hcm, hcs, htk⟩ := hrow.resolve_left (fun h => hnn h.1); have HG := Lib.hid hg; have HH := Lib.hid hh; have HT := Lib.hid htk; have HCS := Lib.hid hcs; have HK := Lib.hid hk; clear hxl hnn hrow hg hh htk hcs hk)
  go_loopw [4, 5, 12] (fun f c i wr => ∃ j : Nat, j ≤ len ∧ i = .int .i64 j ∧ c = .int .i64 (cnt (ks.take j)) ∧ f = errV ads (fst1 (ks.take j)) ∧ Inv j wr ∧ w.heap.size ≤ wr.heap.size ∧ wr.heap[g]? = some (.cells cur 1 (0, 0))) (fun _ _ i _ => len - (intOf i).toNat)
  case atStart => exact ⟨0, Nat.zero_le _, rfl, rfl, rfl, HINV.out _ HK.out, HK.out.size, HH.out⟩
  case round =>
    obtain ⟨j, hj, rfl, rfl, rfl, hinv, hsz, hrow⟩ := hrel
    have HIN := Lib.hid hinv
    have HSZ := Lib.hid hsz
    have HRW := Lib.hid hrow
    clear hinv hsz hrow
    obtain ⟨cc, hcc⟩ : ∃ cc : Int, ((cnt (ks.take j) : Nat) : Int) = cc := ⟨_, rfl⟩
    obtain ⟨jj, hjj⟩ : ∃ jj : Int, (j : Int) = jj := ⟨_, rfl⟩
    obtain ⟨F, hF⟩ : ∃ F, fst1 (ks.take j) = F := ⟨_, rfl⟩
    rw [hcc, hjj, hF]
    have HKSL := HKS.out
    have HLL := HL.out
    by_cases hlt : j < len
    · have hxj : j < xs.length := by omega
      have hkj : j < ks.length := by omega
      have hcn := cnt_next hkj
      have hfn := fst_next hkj
      have hcle := cnt_le ks j (by omega)
      have hfle := fst_le ks 14 HK14.out j (by omega)
      have hkle : ks[j] ≤ 14 := HK14.out _ (List.getElem_mem _)
      have hag := (H1.out xs[j] (List.getElem_mem _)).2
      have st := HST.out j hxj hkj wr HSZ.out HIN.out
      have hget : (cur.toList.take (len * 1))[j]? = some xs[j] := by rw [HT.out]; exact List.getElem?_eq_getElem hxj
      have hc : wr.cell? ⟨g, jj.toNat, none⟩ = some xs[j] := by
        have ej : jj.toNat = j := by omega
        rw [ej]
        unfold World.cell?
        dsimp only
        rw [HRW.out]
        rw [List.getElem?_take] at hget
        split at hget
        · simpa using hget
        · cases hget
      obtain ⟨u, hu⟩ : ∃ u, xs[j] = u := ⟨_, rfl⟩
      obtain ⟨kj, hkj'⟩ : ∃ kj, ks[j] = kj := ⟨_, rfl⟩
      rw [hu] at hag st hc
      rw [hkj'] at st hcn hfn hkle
      rw [hF] at hfn hfle
      have hj0 : 0 ≤ jj := by omega
      have hltj : jj < len := by omega
      have hgl : g < wr.heap.size := by
        rcases Nat.lt_or_ge g wr.heap.size with q | q
        · exact q
        · have := HRW.out; simp [Array.getElem?_eq_none q] at this
      have keep : ∀ w', Past w.heap.size wr w' → w'.heap[g]? = some (.cells cur 1 (0, 0)) ∧ w.heap.size ≤ w'.heap.size := by
        intro w' hp
        exact ⟨by rw [hp.2 g HG.out hgl]; exact HRW.out, Nat.le_trans HSZ.out hp.1⟩
      have KEEP := Lib.hid keep
      have HJ := Lib.hid hjj
      have HCC := Lib.hid hcc
      have HF := Lib.hid hF
      have HCN := Lib.hid hcn
      have HFN := Lib.hid hfn
      have HLE := Lib.hid hcle
      have hAD := HAD.out
      clear hjj hcc hF hcn hfn hcle keep hget hu hkj' HKSL HLL
      rcases Nat.eq_zero_or_pos kj with rfl | hkp
      · have ST : Hid (Calls Tryd.prog 35 #[u] wr fun e w' => e = .returned .nilIface ∧ Inv (j + 1) w' ∧ Past w.heap.size wr w') := Lib.hid st
        clear st hfle hkle hlt hxj hkj hAD
        go_wp2_with (go_at_call 35; (with_reducible refine ST.out.mono ?_); rintro e w5 ⟨rfl, hi5, hp5⟩; have HI5 := Lib.hid hi5; have HP5 := Lib.hid hp5; clear hi5 hp5)
        have h1 := HJ.out
        have h2 := HCC.out
        have h3 : cnt (ks.take (j + 1)) = cnt (ks.take j) := by have := HCN.out; simpa using this
        have h4 := HFN.out
        go_roundw
        case rel => exact ⟨j + 1, by omega, by congr 1; omega, by rw [h3, h2], by rw [h4]; split <;> simp_all, HI5.out, (KEEP.out _ HP5.out).2, (KEEP.out _ HP5.out).1⟩
        case measure => simp [intOf]; omega
      · obtain ⟨a, ha⟩ := errV_some (ads := ads) hkp (by omega)
        have ST : Hid (Calls Tryd.prog 35 #[u] wr fun e w' => e = .returned (snt a) ∧ Inv (j + 1) w' ∧ Past w.heap.size wr w') := Lib.hid (by rw [← ha]; exact st)
        have HA := Lib.hid ha
        have hcc0 : 0 ≤ cc := by have := HCC.out; omega
        have hccm : cc ≤ 1000 := by have := HCC.out; have := HLE.out; omega
        rcases Nat.eq_zero_or_pos F with rfl | hFp
        · show Code.wp _ _ _ _ _
          have e0 : errV ads 0 = .nilIface := rfl
          rw [e0]
          clear st ha hlt hxj hkj
          go_wp2_with (go_at_call 35; (with_reducible refine ST.out.mono ?_); rintro e w5 ⟨rfl, hi5, hp5⟩; have HI5 := Lib.hid hi5; have HP5 := Lib.hid hp5; clear hi5 hp5)
          have h1 := HJ.out
          have h2 := HCC.out
          have h3 := HCN.out
          have h4 : fst1 (ks.take (j + 1)) = kj := by have := HFN.out; simpa using this
          rw [if_neg (by omega)] at h3
          go_roundw
          case rel => exact ⟨j + 1, by omega, by congr 1; omega, by rw [h3]; congr 1; omega, by rw [h4, HA.out], HI5.out, (KEEP.out _ HP5.out).2, (KEEP.out _ HP5.out).1⟩
          case measure => simp [intOf]; omega
        · obtain ⟨b, hb⟩ := errV_some (ads := ads) hFp (by omega)
          rw [hb]
          have HB := Lib.hid hb
          clear st ha hb hlt hxj hkj
          go_wp2_with (go_at_call 35; (with_reducible refine ST.out.mono ?_); rintro e w5 ⟨rfl, hi5, hp5⟩; have HI5 := Lib.hid hi5; have HP5 := Lib.hid hp5; clear hi5 hp5)
          have h1 := HJ.out
          have h2 := HCC.out
          have h3 := HCN.out
          have h4 := HFN.out
          rw [if_neg (by omega)] at h3
          rw [if_neg (by omega)] at h4
          go_roundw
          case rel => exact ⟨j + 1, by omega, by congr 1; omega, by rw [h3]; congr 1; omega, by rw [h4, HB.out], HI5.out, (KEEP.out _ HP5.out).2, (KEEP.out _ HP5.out).1⟩
          case measure => simp [intOf]; omega
    · obtain rfl : j = len := by omega
      have hex : ¬ jj < j := by omega
      have hful := HFUL.out
      rw [HLL] at hful
      rw [hful] at hcc hF
      have HCC := Lib.hid hcc
      have HF := Lib.hid hF
      clear hcc hF hful HKSL HLL hjj
      go_wp2
      go_ret2
      exact ⟨by rw [HCC.out, HF.out]; rfl, HIN.out, HSZ.out⟩

theorem fst1_stay (x : Nat) (hx : x ≠ 0) : ∀ t : List Nat, t.foldl (fun a x => if a = 0 then x else a) x = x
  | [] => rfl
  | y :: t => by
    rw [List.foldl_cons, if_neg hx]
    exact fst1_stay x hx t
theorem fst1_cons (x : Nat) (t : List Nat) : fst1 (x :: t) = if x = 0 then fst1 t else x := by
  by_cases h : x = 0
  · subst h; rfl
  · rw [if_neg h]
    exact fst1_stay x h t
theorem ahead_cons (x : Nat) (t : List Nat) : ahead (x :: t) = if x = 0 then ahead t + 1 else 0 := by
  by_cases h : x = 0
  · subst h; simp [ahead]
  · simp [ahead, h]
theorem until_hit : ∀ (ks : List Nat) (j : Nat) (h : j < ks.length), (∀ i (hi : i < j), ks[i] = 0) → ks[j] ≠ 0 → ahead ks = j ∧ fst1 ks = ks[j]
  | [], _, h, _, _ => absurd h (by simp)
  | x :: t, 0, _, _, hx => by
    have hx' : x ≠ 0 := hx
    rw [ahead_cons, fst1_cons, if_neg hx', if_neg hx']
    exact ⟨rfl, rfl⟩
  | x :: t, j + 1, h, hz, hx => by
    have h0 : x = 0 := hz 0 (by omega)
    obtain ⟨h1, h2⟩ := until_hit t j (by simpa using h) (fun i hi => hz (i + 1) (by omega)) hx
    rw [ahead_cons, fst1_cons, if_pos h0, if_pos h0, h1, h2]
    exact ⟨rfl, rfl⟩
theorem until_miss : ∀ (ks : List Nat), (∀ i (hi : i < ks.length), ks[i] = 0) → ahead ks = ks.length ∧ fst1 ks = 0
  | [], _ => ⟨rfl, rfl⟩
  | x :: t, hz => by
    have h0 : x = 0 := hz 0 (by simp)
    obtain ⟨h1, h2⟩ := until_miss t (fun i hi => hz (i + 1) (by simpa using hi))
    rw [ahead_cons, fst1_cons, if_pos h0, if_pos h0, h1, h2]
    exact ⟨rfl, rfl⟩

set_option maxRecDepth 20000 in
set_option maxHeartbeats 1000000 in
/-- catch.Until. -/
theorem until_any (ads : List Addr) (hads : ads.length = 14) (v : Value) (xs : List Value) (w : World) (hs : SlV v xs w) (hl : xs.length ≤ 1000) (h1 : ∀ u ∈ xs, u.oneCell' = true ∧ ∀ cs, u ≠ .agg cs)
    (ks : List Nat) (hks : ks.length = xs.length) (hk14 : ∀ k ∈ ks, k ≤ 14) (Inv : Nat → World → Prop) (hInv0 : ∀ w1, Kp w w1 → Inv 0 w1)
    (hstep : ∀ (j : Nat) (h : j < xs.length) (h' : j < ks.length) w1, w.heap.size ≤ w1.heap.size → Inv j w1 → Calls Tryd.prog 35 #[xs[j]] w1 fun e w' => e = .returned (errV ads ks[j]) ∧ Inv (j + 1) w' ∧ Past w.heap.size w1 w') :
    Calls Tryd.prog 17 #[v] w fun e w' => e = .returned (.tuple #[.int .i64 (ahead ks), errV ads (fst1 ks)]) ∧ (∃ j, Inv j w') ∧ w.heap.size ≤ w'.heap.size := by
  have hcl := clone_any v xs w hs hl (fun u hu => (h1 u hu).1)
  obtain ⟨b, off, capv, rfl, _⟩ := hs
  obtain ⟨len, hlen⟩ : ∃ len, xs.length = len := ⟨_, rfl⟩
  have HST := Lib.hid hstep
  have H1 := Lib.hid h1
  have HK14 := Lib.hid hk14
  have HINV := Lib.hid hInv0
  have HL := Lib.hid hlen
  have HKS := Lib.hid hks
  have HAD := Lib.hid hads
  rw [hlen] at hcl hl ⊢
  have HCL := Lib.hid hcl
  clear hstep h1 hk14 hInv0 hlen hks hads hcl
  go_enter Tryd.func17, Tryd.ntmps17
  go_wp2_with (go_at_call 34; (with_reducible refine HCL.out.mono ?_); rintro e w1 ⟨v', rfl, hown, hnn, hk⟩; obtain ⟨hxl, hrow⟩ := hown; obtain ⟨g, cap, cur, rfl, hg, hh, hnc, hcm, hcs, htk⟩ := hrow.resolve_left (fun h => hnn h.1); have HG := Lib.hid hg; have HH := Lib.hid hh; have HT := Lib.hid htk; have HCS := Lib.hid hcs; have HK := Lib.hid hk; clear hxl hnn hrow hg hh htk hcs hk)
  go_loopw [10] (fun i wr => ∃ j : Nat, j ≤ len ∧ i = .int .i64 j ∧ (∀ i (hi : i < j) (hi' : i < ks.length), ks[i] = 0) ∧ Inv j wr ∧ w.heap.size ≤ wr.heap.size ∧ wr.heap[g]? = some (.cells cur 1 (0, 0))) (fun i _ => len - (intOf i).toNat)
  case atStart => exact ⟨0, Nat.zero_le _, rfl, fun i hi => absurd hi (by omega), HINV.out _ HK.out, HK.out.size, HH.out⟩
  case round =>
    obtain ⟨j, hj, rfl, hzero, hinv, hsz, hrow⟩ := hrel
    have HZ := Lib.hid hzero
    have HIN := Lib.hid hinv
    have HSZ := Lib.hid hsz
    have HRW := Lib.hid hrow
    clear hinv hsz hrow hzero
    obtain ⟨jj, hjj⟩ : ∃ jj : Int, (j : Int) = jj := ⟨_, rfl⟩
    rw [hjj]
    have HKSL := HKS.out
    have HLL := HL.out
    by_cases hlt : j < len
    · have hxj : j < xs.length := by omega
      have hkj : j < ks.length := by omega
      have hkle : ks[j] ≤ 14 := HK14.out _ (List.getElem_mem _)
      have hag := (H1.out xs[j] (List.getElem_mem _)).2
      have st := HST.out j hxj hkj wr HSZ.out HIN.out
      have hget : (cur.toList.take (len * 1))[j]? = some xs[j] := by rw [HT.out]; exact List.getElem?_eq_getElem hxj
      have hc : wr.cell? ⟨g, jj.toNat, none⟩ = some xs[j] := by
        have ej : jj.toNat = j := by omega
        rw [ej]
        unfold World.cell?
        dsimp only
        rw [HRW.out]
        rw [List.getElem?_take] at hget
        split at hget
        · simpa using hget
        · cases hget
      obtain ⟨u, hu⟩ : ∃ u, xs[j] = u := ⟨_, rfl⟩
      obtain ⟨kj, hkj'⟩ : ∃ kj, ks[j] = kj := ⟨_, rfl⟩
      rw [hu] at hag st hc
      rw [hkj'] at st hkle
      have hj0 : 0 ≤ jj := by omega
      have hltj : jj < len := by omega
      have hgl : g < wr.heap.size := by
        rcases Nat.lt_or_ge g wr.heap.size with q | q
        · exact q
        · have := HRW.out; simp [Array.getElem?_eq_none q] at this
      have keep : ∀ w', Past w.heap.size wr w' → w'.heap[g]? = some (.cells cur 1 (0, 0)) ∧ w.heap.size ≤ w'.heap.size := by
        intro w' hp
        exact ⟨by rw [hp.2 g HG.out hgl]; exact HRW.out, Nat.le_trans HSZ.out hp.1⟩
      have KEEP := Lib.hid keep
      have HJ := Lib.hid hjj
      have HKJ := Lib.hid hkj'
      have hAD := HAD.out
      have HLT := Lib.hid hkj
      clear hjj keep hget hu hkj' HKSL HLL
      rcases Nat.eq_zero_or_pos kj with rfl | hkp
      · have ST : Hid (Calls Tryd.prog 35 #[u] wr fun e w' => e = .returned .nilIface ∧ Inv (j + 1) w' ∧ Past w.heap.size wr w') := Lib.hid st
        clear st hkle hlt hxj hAD
        go_wp2_with (go_at_call 35; (with_reducible refine ST.out.mono ?_); rintro e w5 ⟨rfl, hi5, hp5⟩; have HI5 := Lib.hid hi5; have HP5 := Lib.hid hp5; clear hi5 hp5)
        have h1 := HJ.out
        go_roundw
        case rel =>
          refine ⟨j + 1, by omega, by congr 1; omega, fun i hi hi' => ?_, HI5.out, (KEEP.out _ HP5.out).2, (KEEP.out _ HP5.out).1⟩
          by_cases e : i = j
          · subst e; exact HKJ.out
          · exact HZ.out i (by omega) hi'
        case measure => simp [intOf]; omega
      · obtain ⟨a, ha⟩ := errV_some (ads := ads) hkp (by omega)
        have ST : Hid (Calls Tryd.prog 35 #[u] wr fun e w' => e = .returned (snt a) ∧ Inv (j + 1) w' ∧ Past w.heap.size wr w') := Lib.hid (by rw [← ha]; exact st)
        have HA := Lib.hid ha
        clear st ha hlt hxj
        go_wp2_with (go_at_call 35; (with_reducible refine ST.out.mono ?_); rintro e w5 ⟨rfl, hi5, hp5⟩; have HI5 := Lib.hid hi5; have HP5 := Lib.hid hp5; clear hi5 hp5)
        go_ret2
        obtain ⟨e1, e2⟩ := until_hit ks j HLT.out (fun i hi => HZ.out i hi (by have := HLT.out; omega)) (by rw [HKJ.out]; omega)
        refine ⟨?_, ⟨_, HI5.out⟩, (KEEP.out _ HP5.out).2⟩
        rw [e1, e2, HKJ.out, HA.out, HJ.out]
        rfl
    · obtain rfl : j = len := by omega
      have hex : ¬ jj < j := by omega
      obtain ⟨e1, e2⟩ := until_miss ks (fun i hi => HZ.out i (by omega) hi)
      have HE1 := Lib.hid e1
      have HE2 := Lib.hid e2
      have HL2 : Hid (ks.length = j) := Lib.hid (by omega)
      clear e1 e2 HKSL HLL hjj
      go_wp2
      go_ret2
      refine ⟨?_, ⟨_, HIN.out⟩, HSZ.out⟩
      rw [HE1.out, HE2.out, HL2.out]
      rfl
end Go.Proofs.YtcgcliglcdfijaaDoor
