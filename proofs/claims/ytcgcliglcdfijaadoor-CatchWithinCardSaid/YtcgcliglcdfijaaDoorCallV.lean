/-
  CatchAll's WALK (own work).
-/
import Derived.Test.YtcgcliglcdfijaaDoorActR
namespace Go.Proofs.YtcgcliglcdfijaaDoor
open Go.RowKit Go.Extern.Stop Go.Stop Go.Extern Go.ChangeShapes Go.WideShapes

/-- A NUMBER AS A KIND, as the law makes it. -/
def kz (m : Nat) (n : Int) : Nat := (wrap64 ((IntKind.u64.wrap n).tmod m)).toNat
theorem kz_spec (m : Nat) (n : Int) (h : 0 < m) (hm : m < 1000000) : kz m n < m ∧ wrap64 ((IntKind.u64.wrap n).tmod m) = kz m n := by
  obtain ⟨k, hk, he⟩ := key_range n m h hm
  simp only [kz, he]
  omega

theorem info_int : (Tryd.prog.info? 3).map (fun i => (i.zero, i.size, i.bytes)) = some (some (.int .i64 0), 1, 8) := by kernel_rfl

theorem own_sli {w : World} {base n : Nat} {v : Value} {bs : List Int} (h : w.ownsRow base 3 1 v n (bs.map (Value.int .i64))) : SlI v bs w := by
  obtain ⟨h1, h2⟩ := h
  have hlen : bs.length = n := by simpa using h1
  rcases h2 with ⟨rfl, hn⟩ | ⟨g, cap, cur, rfl, hg, hh, hc, hm, hs, ht⟩
  · left
    exact ⟨List.length_eq_zero_iff.1 (by omega), none, 0, rfl⟩
  · by_cases h0 : n = 0
    · left
      subst h0
      exact ⟨List.length_eq_zero_iff.1 (by omega), _, cap, rfl⟩
    · right
      refine ⟨g, 0, cap, by omega, by rw [hlen], fun j hj => ?_⟩
      unfold World.cell?
      dsimp only
      rw [hh]
      simp only [Option.isSome_none, Bool.false_eq_true, if_false, Nat.zero_add]
      have : (cur.toList.take (n * 1))[j]? = some (.int .i64 (bs.getD j 0)) := by
        rw [ht]; simp [List.getD, hj]
      rw [List.getElem?_take, Nat.mul_one, if_pos (by omega)] at this
      simpa using this

/-- the kinds, as the row of ints that the law makes -/
def kindRow (m : Nat) (bs : List Int) : List Value := bs.map fun n => Value.int .i64 (kz m n)
theorem kindRow_next (m : Nat) {bs : List Int} {j : Nat} (h : j < bs.length) : kindRow m (bs.take (j + 1)) = kindRow m (bs.take j) ++ [Value.int .i64 (kz m bs[j])] := by
  rw [List.take_add_one, List.getElem?_eq_getElem h]
  simp only [kindRow, List.map_append, Option.toList, List.map_cons, List.map_nil]
theorem kindRow_sl (m : Nat) (bs : List Int) : kindRow m bs = ((bs.map (kz m)).map fun (n : Nat) => (n : Int)).map (Value.int .i64) := by
  simp only [kindRow, List.map_map]; rfl

theorem num_errV (ads : List Addr) (so : Option Addr) (w : World) (V : St ads so w) (m : Nat) (hm : m ≤ 14) :
    Calls Tryd.prog 13 #[errV ads m] w fun e w' => e = .returned (.int .i64 m) ∧ Kp w w' := by
  have hl := V.len
  match m, hm with
  | 0, _ => exact (num_nil w).mono fun e w' ⟨h1, h2⟩ => ⟨h1, Kp.of_eq h2⟩
  | k + 1, hm =>
    have hk : k < ads.length := by omega
    have : errV ads (k + 1) = snt ads[k] := by simp [errV, hk]
    rw [this]
    exact num_int ads w V.E k (by omega) hk _ (by omega)

theorem errV_shape (ads : List Addr) (m : Nat) : ∀ cs, errV ads m ≠ .agg cs := by
  intro cs h
  match m with
  | 0 => cases h
  | k + 1 =>
    simp only [errV] at h
    cases hg : ads[k]? with
    | none => simp [hg] at h
    | some a => simp [hg] at h

theorem all_long (a : Option Addr) (cap len : Nat) (h100 : 100 < len) (w : World) (ads : List Addr) (so : Option Addr) (V : St ads so w) :
    Calls Tryd.prog 4 #[.slice a len cap] w fun e w' => e = .returned (.bool true) ∧ Kp w w' := by
  have HA := Lib.hid (alive_any ads so _ V)
  obtain ⟨ll, hll⟩ : ∃ ll : Int, (len : Int) = ll := ⟨_, rfl⟩
  have h : ll > 100 := by omega
  clear V
  go_enter Tryd.func4, Tryd.ntmps4
  go_wp2_with (go_at_call 8; (with_reducible refine HA.out.mono ?_); rintro e w1 ⟨rfl, hw1⟩)
  go_ret
  exact ⟨rfl, hw1⟩

set_option maxRecDepth 20000 in
set_option maxHeartbeats 4000000 in
theorem all_short (a : Option Addr) (cap : Nat) (bs : List Int) (len : Nat) (hlen : bs.length = len) (h100 : len ≤ 100) (w : World) (hs : SlI (.slice a len cap) bs w) (ads : List Addr) (s : Addr) (V : St ads (some s) w) :
    Calls Tryd.prog 4 #[.slice a len cap] w fun e w' => e = .returned (.bool true) ∧ Kp w w' := by
  obtain ⟨i0, hi, hz0, hz1, hz2⟩ := info_parts info_int
  have hel : ∀ wr, Kp w wr → ∀ j (hj : j < bs.length), ∃ b off, a = some ⟨b, off, none⟩ ∧ wr.cell? ⟨b, off + j, none⟩ = some (.int .i64 bs[j]) := by
    intro wr hk j hj
    obtain ⟨b, off, h1, h2⟩ := (hs.kp hk).at j hj
    refine ⟨b, off, h1, ?_⟩
    rw [h2]
    simp [List.getD, hj]
  have HEL := Lib.hid hel
  have HA := Lib.hid (alive_any ads (some s) _ V)
  have HI := Lib.hid (And.intro hz1 hz2)
  have HI2 := Lib.hid hi
  have HI3 := Lib.hid hz0
  have HLEN := Lib.hid hlen
  have HV := Lib.hid V
  clear V hs hel hlen hz1 hz2 hi hz0
  go_enter Tryd.func4, Tryd.ntmps4
  go_wp2_with (go_at_call 8; (with_reducible refine HA.out.mono ?_); rintro e w1 ⟨rfl, hw1⟩)
  have K0 := Lib.hid (Kp.trans hw1 (kp_alloc w1 (.cells #[] 3)))
  have OW0 := Lib.hid (own_mono (base' := w.heap.size) (own_empty w1 3) (Below.size hw1))
  clear hw1
  go_loopw [3, 22] (fun kv i wr => ∃ j : Nat, j ≤ len ∧ i = .int .i64 j ∧ wr.ownsRow w.heap.size 3 1 kv j (kindRow 22 (bs.take j)) ∧ kv ≠ .slice none 0 0 ∧ Kp w wr) (fun _ i _ => len - (intOf i).toNat)
  case atStart => exact ⟨0, Nat.zero_le _, rfl, OW0.out, (by intro h; cases h), K0.out⟩
  case round =>
    obtain ⟨j, hj, rfl, hown, hnn, hkp⟩ := hrel
    have HOW := Lib.hid hown
    have HNN := Lib.hid hnn
    have HKP := Lib.hid hkp
    have hln := HLEN.out
    have HSZ := Lib.hid (Below.size hkp)
    clear hown hnn hkp
    obtain ⟨jj, hjj⟩ : ∃ jj : Int, (j : Int) = jj := ⟨_, rfl⟩
    rw [hjj]
    by_cases hlt : j < len
    · have hjn : j < bs.length := by omega
      obtain ⟨b, off, rfl, hc⟩ := HEL.out wr HKP.out j hjn
      have hkr := kindRow_next 22 hjn
      obtain ⟨nb, hnb⟩ : ∃ nb, bs[j] = nb := ⟨_, rfl⟩
      rw [hnb] at hc hkr
      obtain ⟨hk22, hkey⟩ := kz_spec 22 nb (by decide) (by decide)
      obtain ⟨kk, hkk⟩ : ∃ kk : Int, ((kz 22 nb : Nat) : Int) = kk := ⟨_, rfl⟩
      rw [hkk] at hkey hkr
      have hkey' : wrap64 ((IntKind.u64.wrap nb).tmod 22) = kk := hkey
      have ej : jj.toNat = j := by omega
      rw [← ej] at hc
      have hj0 : 0 ≤ jj := by omega
      have hltj : jj < len := by omega
      have HJ := Lib.hid hjj
      have HKR := Lib.hid hkr
      have W2 := kp_alloc wr (.cells #[.int .i64 kk] 3)
      have OW2 := Lib.hid (own_kp HOW.out W2)
      have HEL2 := Lib.hid (box_cell wr (.int .i64 kk) 3)
      have HW := Lib.hid W2
      clear hjj ej hkk hnb hlt hkr hkey W2 hk22
      go_wp2_with (at_builtin; refine wpList_append_own _ rfl _ _ 34 rfl w.heap.size 3 i0 (.int .i64 0) 1 8 Tryd.underlying34 HI2.out HI3.out HI.out.1 HI.out.2 rfl (by decide) _ _ _ rfl OW2.out ⟨wr.heap.size, 0, none⟩ 1 1 [.int .i64 kk] rfl ?c1 ?c2 ?c3 ?c4 ?c5 ?c6 ?_)
      case c1 => rfl
      case c2 =>
        intro i u hi
        match i, hi with
        | 0, hi => simp at hi; subst hi; rw [add_plain]; exact HEL2.out
      case c3 => intro u hu; simp at hu; subst hu; rfl
      case c4 => unfold maxLen; omega
      case c5 => omega
      case c6 => have := HSZ.out; simp; omega
      rintro v' w5 hown5 hgr hnil
      have hjj := HJ.out
      have hnn5 : v' ≠ .slice none 0 0 := by first | exact hnil | exact (fun h => HNN.out (hnil.1 h).1)
      have kp5 : Kp w w5 := by
        obtain ⟨-, hr⟩ := OW2.out
        obtain ⟨g, cap', cur, rfl, hg, hh, -⟩ := hr.resolve_left (fun h => HNN.out h.1)
        exact Below.grown (Kp.trans HKP.out HW.out) hgr (Below.size (Kp.trans HKP.out HW.out)) (fun k hk' => by simp [Value.ownBlock] at hk'; omega)
      have own5 : w5.ownsRow w.heap.size 3 1 v' (j + 1) (kindRow 22 (bs.take (j + 1))) := by rw [HKR.out]; exact hown5
      go_wp2
      go_roundw
      case rel => exact ⟨j + 1, by omega, by congr 1; omega, own5, hnn5, kp5⟩
      case measure => simp [intOf]; omega
    · obtain rfl : j = len := by omega
      have hex : ¬ jj < j := by omega
      obtain ⟨hxl, hr⟩ := HOW.out
      obtain ⟨g, cap', cur, rfl, hg, hh, hnc, hcm, hcs, htk⟩ := hr.resolve_left (fun h => HNN.out h.1)
      have hful : bs.take j = bs := by rw [List.take_of_length_le]; omega
      have hown := HOW.out
      rw [hful, kindRow_sl] at hown
      have SL := own_sli hown
      obtain ⟨ns, hns⟩ : ∃ ns, bs.map (kz 22) = ns := ⟨_, rfl⟩
      rw [hns] at SL
      have hnl : ns.length = j := by rw [← hns, List.length_map]; omega
      have hn21 : ∀ n ∈ ns, n ≤ 21 := by
        intro n hn
        rw [← hns] at hn
        obtain ⟨b, _, rfl⟩ := List.mem_map.1 hn
        have := (kz_spec 22 b (by decide) (by decide)).1
        omega
      obtain ⟨nn, hnn⟩ : ∃ nn : Int, ((cnt (ns.map num) : Nat) : Int) = nn := ⟨_, rfl⟩
      obtain ⟨aa, haa⟩ : ∃ aa : Int, ((ahead (ns.map num) : Nat) : Int) = aa := ⟨_, rfl⟩
      obtain ⟨ff, hff⟩ : ∃ ff : Int, ((fst1 (ns.map num) : Nat) : Int) = ff := ⟨_, rfl⟩
      obtain ⟨r, hr'⟩ : ∃ r, errV ads (fst1 (ns.map num)) = r := ⟨_, rfl⟩
      have hag : ∀ cs, r ≠ .agg cs := by rw [← hr']; exact errV_shape ads _
      have VW := HV.out.kp HKP.out
      have f14 : fst1 (ns.map num) ≤ 14 := by
        have := fst_le (ns.map num) 14 (fun k hk => by obtain ⟨n, _, rfl⟩ := List.mem_map.1 hk; exact num_le n) (ns.map num).length (Nat.le_refl _)
        rwa [List.take_length] at this
      have ACT : ∀ w0, Kp wr w0 → wr.heap.size < w0.heap.size → Calls Tryd.prog 15 #[.slice (some ⟨g, 0, none⟩) j cap', .pointer (some ⟨wr.heap.size, 0, none⟩)] w0 fun e w' => ∃ v' xs, e = .returned v' ∧ SlV v' xs w' ∧ xs.length = j ∧ (∀ (i m : Nat) (x : Value), ns[i]? = some m → xs[i]? = some x → ActV w' ⟨wr.heap.size, 0, none⟩ m x) ∧ Kp w0 w' := by
        intro w0 hk hlt0
        exact acts_any _ _ ns j hnl (by omega) w0 _ hlt0 (SL.kp hk)
      have ALLC : ∀ v xs w0, xs.length = j → SlV v xs w0 → CInv ads s wr ⟨wr.heap.size, 0, none⟩ ns xs w0 → Calls Tryd.prog 14 #[v] w0 fun e w' => e = .returned (.tuple #[.int .i64 nn, r]) ∧ CInv ads s wr ⟨wr.heap.size, 0, none⟩ ns xs w' := by
        intro v xs w0 hx hs hI
        rw [← hnn, ← hr']
        exact all_acts ads s wr _ (Nat.le_refl _) ns hn21 (by omega) v xs (by omega) w0 hs hI
      have UNC : ∀ v xs w0, xs.length = j → SlV v xs w0 → CInv ads s wr ⟨wr.heap.size, 0, none⟩ ns xs w0 → Calls Tryd.prog 17 #[v] w0 fun e w' => e = .returned (.tuple #[.int .i64 aa, r]) ∧ CInv ads s wr ⟨wr.heap.size, 0, none⟩ ns xs w' := by
        intro v xs w0 hx hs hI
        rw [← haa, ← hr']
        exact until_acts ads s wr _ (Nat.le_refl _) ns hn21 (by omega) v xs (by omega) w0 hs hI
      have RAC : ∀ w0, Kp wr w0 → Calls Tryd.prog 16 #[.slice (some ⟨g, 0, none⟩) j cap'] w0 fun e w' => e = .returned (.tuple #[.int .i64 nn, .int .i64 ff]) ∧ w0 = w' := by
        intro w0 hk
        rw [← hnn, ← hff]
        exact refAll_any _ _ ns j hnl (by omega) hn21 w0 (SL.kp hk)
      have RUC : ∀ w0, Kp wr w0 → Calls Tryd.prog 18 #[.slice (some ⟨g, 0, none⟩) j cap'] w0 fun e w' => e = .returned (.tuple #[.int .i64 aa, .int .i64 ff]) ∧ w0 = w' := by
        intro w0 hk
        rw [← haa, ← hff]
        exact refUntil_any _ _ ns j hnl (by omega) hn21 w0 (SL.kp hk)
      have NMC : ∀ w0, Kp wr w0 → Calls Tryd.prog 13 #[r] w0 fun e w' => e = .returned (.int .i64 ff) ∧ Kp w0 w' := by
        intro w0 hk
        rw [← hr', ← hff]
        exact num_errV ads (some s) w0 (VW.kp hk) _ f14
      have KW4 := Lib.hid (kp_alloc wr (.cells #[.int .i64 0] 3))
      have SZ4 : Hid (wr.heap.size < (wr.alloc (.cells #[.int .i64 0] 3)).heap.size) := Lib.hid (by simp)
      have BC := Lib.hid (box_cell wr (.int .i64 0) 3)
      have BZ := Lib.hid (box_frozen wr (.int .i64 0) 3)
      have HACT := Lib.hid ACT
      have HALL := Lib.hid ALLC
      have HUN := Lib.hid UNC
      have HRA := Lib.hid RAC
      have HRU := Lib.hid RUC
      have HNM := Lib.hid NMC
      have HVW := Lib.hid VW
      clear ACT ALLC UNC RAC RUC NMC VW f14 hr' hff haa hnn hn21 hnl hns SL hown hful htk hcs hcm hnc hh hg hr hxl hjj hln
      go_wp2_with (go_at_call 15; (with_reducible refine (HACT.out _ KW4.out SZ4.out).mono ?_); rintro e w5 ⟨v5, xs5, rfl, hs5, hx5, ha5, hk5⟩)
      have I5 : CInv ads s wr ⟨wr.heap.size, 0, none⟩ ns xs5 w5 := ⟨⟨HVW.out, Kp.trans KW4.out hk5⟩, ⟨0, kp_cell hk5 BC.out⟩, kp_frozen hk5 BC.out BZ.out, ha5⟩
      with_reducible refine (HALL.out v5 xs5 w5 hx5 hs5 I5).mono ?_
      rintro e w6 ⟨rfl, I6⟩
      have HI6 := Lib.hid I6
      have K6 := Lib.hid I6.1.2
      clear I5 I6 hs5 hx5 ha5 hk5
      go_wp2_with (go_at_call 16; (with_reducible refine (HRA.out _ K6.out).mono ?_); rintro e w' ⟨rfl, rfl⟩)
      with_reducible refine (HNM.out _ K6.out).mono ?_
      rintro e w7 ⟨rfl, hw7⟩
      have K7 := Lib.hid (Kp.trans K6.out hw7)
      have HI7 := Lib.hid (HI6.out.kp hw7)
      have SZ7 : Hid (wr.heap.size < w7.heap.size) := Lib.hid (by obtain ⟨c, hc⟩ := HI7.out.2.1; exact old_of_cell hc)
      clear hw7
      go_wp2_with (go_at_call 15; (with_reducible refine (HACT.out _ K7.out SZ7.out).mono ?_); rintro e w8 ⟨v8, xs8, rfl, hs8, hx8, ha8, hk8⟩)
      have I8 : CInv ads s wr ⟨wr.heap.size, 0, none⟩ ns xs8 w8 := ⟨⟨HVW.out, Kp.trans K7.out hk8⟩, (HI7.out.kp hk8).2.1, (HI7.out.kp hk8).2.2.1, ha8⟩
      with_reducible refine (HUN.out v8 xs8 w8 hx8 hs8 I8).mono ?_
      rintro e w9 ⟨rfl, I9⟩
      have K9 := Lib.hid I9.1.2
      clear I8 I9 hs8 hx8 ha8 hk8
      go_wp2_with (go_at_call 18; (with_reducible refine (HRU.out _ K9.out).mono ?_); rintro e w' ⟨rfl, rfl⟩)
      with_reducible refine (HNM.out _ K9.out).mono ?_
      rintro e w10 ⟨rfl, hw10⟩
      have K10 := Lib.hid (Kp.trans (Kp.trans HKP.out K9.out) hw10)
      clear hw10
      go_wp2
      go_ret
      exact ⟨rfl, K10.out⟩
end Go.Proofs.YtcgcliglcdfijaaDoor
