/-
  BYTES' MESSAGE AS THE DOCUMENT HAS IT (own work): liaisonref08.Decode.
-/
import Derived.Test.YtfginhckeogafaaDoorPkB
import Derived.Test.YtfginhckeogafaaDoorPkA
import Derived.Lib.SmallJoins

namespace Go.Proofs.YtfginhckeogafaaDoor
open Go.RowKit Go.ChangeShapes Go.WideShapes

/-- the fields of numbers, from tag i on -/
def rowF : Int → List Int → List (Int × List Int)
  | _, [] => []
  | i, n :: ns => if n = 0 then rowF (i + 1) ns else (i, beF 8 n.toNat) :: rowF (i + 1) ns
theorem rowF_snoc : ∀ (ns : List Int) (i x : Int), rowF i (ns ++ [x]) = rowF i ns ++ (if x = 0 then [] else [(i + ns.length, beF 8 x.toNat)])
  | [], i, x => by simp only [List.nil_append, rowF, List.length_nil]; split <;> simp
  | n :: ns, i, x => by
    have ih := rowF_snoc ns (i + 1) x
    have e : i + 1 + (ns.length : Int) = i + ((n :: ns).length : Nat) := by rw [List.length_cons]; omega
    rw [e] at ih
    simp only [List.cons_append, rowF, ih]
    split <;> simp
theorem rowF_len : ∀ (ns : List Int) (i : Int), (rowF i ns).length ≤ ns.length
  | [], _ => Nat.le_refl _
  | n :: ns, i => by
    have := rowF_len ns (i + 1)
    simp only [rowF]
    split <;> simp <;> omega
theorem rowF_mem : ∀ (ns : List Int) (i : Int), ∀ x ∈ rowF i ns, i ≤ x.1 ∧ x.1 < i + ns.length ∧ x.2.length ≤ 8 ∧ InB x.2
  | [], _, x, hx => by cases hx
  | n :: ns, i, x, hx => by
    simp only [rowF] at hx
    split at hx
    · have := rowF_mem ns (i + 1) x hx
      rw [List.length_cons]
      exact ⟨by omega, by omega, this.2.2⟩
    · rcases List.mem_cons.1 hx with rfl | hx
      · exact ⟨Int.le_refl _, by rw [List.length_cons]; dsimp only; omega, beF_len _ _, beF_inB _ _⟩
      · have := rowF_mem ns (i + 1) x hx
        rw [List.length_cons]
        exact ⟨by omega, by omega, this.2.2⟩
/-- a message's bytes -/
def encM (m : MM) : List Int := joinB (rowF 1 m.nums)
theorem small_m (m : MM) : Small (rowF 1 m.nums) := fun x hx => by
  have h := rowF_mem m.nums 1 x hx
  have hl : m.nums.length = 9 := rfl
  rw [hl] at h
  exact ⟨by omega, by omega, by omega⟩
/-- all its numbers are from 0 to 999999 -/
def MM.okn (m : MM) : Prop := ∀ x ∈ m.nums, 0 ≤ x ∧ x ≤ 999999
theorem rightM_okn {m : MM} (h : rightM m = true) : m.okn := by
  obtain ⟨k, f, t, n, s, r, p, o, c⟩ := m
  have hko : 0 ≤ o ∧ o ≤ 2 ∧ 0 ≤ c ∧ c ≤ 14 := by
    unfold rightM at h
    dsimp only at h
    rw [Bool.and_eq_true] at h
    have h4 := h.2
    split at h4
    · have := of_decide_eq_true h4; omega
    split at h4
    · have := of_decide_eq_true h4; omega
    split at h4
    · have := of_decide_eq_true h4; omega
    split at h4
    · have := of_decide_eq_true h4; omega
    · have := of_decide_eq_true h4; omega
  unfold rightM rightA at h
  simp only [Bool.and_eq_true, decide_eq_true_eq] at h
  obtain ⟨⟨⟨h1, h2⟩, h3⟩, -⟩ := h
  intro x hx
  simp only [MM.nums, List.mem_cons, List.not_mem_nil, or_false] at hx
  rcases hx with rfl | rfl | rfl | rfl | rfl | rfl | rfl | rfl | rfl <;> omega

theorem enc_new1 (w : World) (o o' : Obj) : ((w.alloc o).alloc o').heap[w.heap.size + 1]? = some o' := by
  have := (MapKept.heap_alloc (w.alloc o) o').1
  simpa using this
set_option maxRecDepth 100000 in
theorem refNums8_any (m : MM) (w : World) :
    Calls Tryd.prog 42 #[.agg m.cells] w fun e w' => ∃ g, e = .returned (.slice (some ⟨g, 0, none⟩) 9 9) ∧ w'.ownsRow w.heap.size 3 1 (.slice (some ⟨g, 0, none⟩) 9 9) 9 (m.nums.map (Value.int .i64)) ∧ Kp w w' := by
  obtain ⟨k, f, t, n, s, r, p, o, c⟩ := m
  have K1 := Lib.hid (Kp.trans (kp_alloc w (.cells #[.int .i64 k, .int .i64 f, .int .i64 t, .int .i64 n, .int .i64 s, .int .i64 r, .int .i64 p, .int .i64 o, .int .i64 c] 25)) (kp_alloc _ (.cells #[.int .i64 k, .int .i64 f, .int .i64 t, .int .i64 n, .int .i64 s, .int .i64 r, .int .i64 p, .int .i64 o, .int .i64 c] 3)))
  have h0 := World.ownsRow_lit (base := w.heap.size) (e := 3) (size := 1) (w.alloc (.cells #[.int .i64 k, .int .i64 f, .int .i64 t, .int .i64 n, .int .i64 s, .int .i64 r, .int .i64 p, .int .i64 o, .int .i64 c] 25)) #[.int .i64 k, .int .i64 f, .int .i64 t, .int .i64 n, .int .i64 s, .int .i64 r, .int .i64 p, .int .i64 o, .int .i64 c] 9 (Below.size (kp_alloc w _)) (by decide) rfl
  rw [show (w.alloc (.cells #[.int .i64 k, .int .i64 f, .int .i64 t, .int .i64 n, .int .i64 s, .int .i64 r, .int .i64 p, .int .i64 o, .int .i64 c] 25)).heap.size = w.heap.size + 1 by simp] at h0
  have HN := Lib.hid h0
  clear h0
  dsimp only [MM.cells]
  go_enter Tryd.func42, Tryd.ntmps42
  go_wp2
  go_ret
  exact ⟨_, rfl, HN.out, K1.out⟩
theorem enc_len {w : World} {base n : Nat} {e : TypeId} {v : Value} {xs : List Value} (h : w.ownsRow base e 1 v n xs) : ∃ a c, v = .slice a n c ∧ n ≤ c := by
  rcases h.2 with ⟨rfl, rfl⟩ | ⟨g, cap, cur, rfl, _, _, hc, _⟩
  · exact ⟨none, 0, rfl, Nat.le_refl _⟩
  · exact ⟨_, cap, rfl, hc⟩

set_option maxRecDepth 100000 in
set_option maxHeartbeats 2000000 in
theorem refEncode8_any (m : MM) (hm : m.okn) (w : World) :
    Calls Tryd.prog 14 #[.agg m.cells] w fun e w' => ∃ v, e = .returned v ∧ SlB v (encM m) w' ∧ Kp w w' := by
  have hml : m.nums.length = 9 := rfl
  have hjo := fun (a : Option Addr) (cap len : Nat) (hl : (rowF 1 m.nums).length = len) (w1 : World) (hs : SlQ (.slice a len cap) (rowF 1 m.nums) w1) => refJoin_any a cap (rowF 1 m.nums) len hl (by rw [← hl]; have := rowF_len m.nums 1; omega) (small_m m) w1 hs
  have hnu := fun w1 => refNums8_any m w1
  unfold encM
  obtain ⟨k, f, t, n, s, r, p, o, c⟩ := m
  unfold MM.okn at hm
  obtain ⟨ns, hns⟩ : ∃ x, MM.nums ⟨k, f, t, n, s, r, p, o, c⟩ = x := ⟨_, rfl⟩
  rw [hns] at hnu hjo hml hm ⊢
  dsimp only [MM.cells] at hnu ⊢
  have HOK := Lib.hid hm
  have HML := Lib.hid hml
  have HNU := Lib.hid hnu
  have HJO := Lib.hid hjo
  have HIF := Lib.hid (info_parts info_fieldT)
  have h0 := own_empty2 (w.alloc (.cells #[.int .i64 k, .int .i64 f, .int .i64 t, .int .i64 n, .int .i64 s, .int .i64 r, .int .i64 p, .int .i64 o, .int .i64 c] 25)) 58 2
  rw [show (w.alloc (.cells #[.int .i64 k, .int .i64 f, .int .i64 t, .int .i64 n, .int .i64 s, .int .i64 r, .int .i64 p, .int .i64 o, .int .i64 c] 25)).heap.size = w.heap.size + 1 by simp] at h0
  have OW0 := Lib.hid h0
  have K0 := Lib.hid (Kp.trans (kp_alloc w (.cells #[.int .i64 k, .int .i64 f, .int .i64 t, .int .i64 n, .int .i64 s, .int .i64 r, .int .i64 p, .int .i64 o, .int .i64 c] 25)) (kp_alloc _ (.cells #[] 58)))
  clear hm hml hns hnu hjo h0
  go_enter Tryd.func14, Tryd.ntmps14
  go_wp2_with (go_at_call 42; (with_reducible refine (HNU.out _).mono ?_); rintro e w2 ⟨g, rfl, hc, hk⟩; have HCE := Lib.hid (own_mono hc (show w.heap.size ≤ _ from Below.size K0.out)); have K2 := Lib.hid (Kp.trans K0.out hk); have OW2 := Lib.hid (own_mono (own_kp OW0.out hk) (Nat.le_succ w.heap.size)); clear hc hk)
  go_loopw [3, 10] (fun v i wr => ∃ (j : Nat) (gs : List (Int × List Int × Value)), j ≤ 9 ∧ i = .int .i64 j ∧ Kp w wr ∧ wr.ownsRow w.heap.size 3 1 (.slice (some ⟨g, 0, none⟩) 9 9) 9 (ns.map (Value.int .i64)) ∧ wr.ownsRow w.heap.size 58 2 v gs.length (gs.flatMap cellQ) ∧ OwnD w.heap.size gs wr ∧ gs.map fldQ = rowF 1 (ns.take j)) (fun _ i _ => 9 - (intOf i).toNat)
  case atStart => exact ⟨0, [], Nat.zero_le _, rfl, K2.out, HCE.out, OW2.out, (fun g hg => by cases hg), rfl⟩
  case round =>
    obtain ⟨j, gs, hj, rfl, hk, hnw, hown, hod, hrow⟩ := hrel
    obtain ⟨jj, hjj⟩ : ∃ jj : Int, (j : Int) = jj := ⟨_, rfl⟩
    rw [hjj]
    have HK := Lib.hid hk
    have HNW := Lib.hid hnw
    have HOW := Lib.hid hown
    have HOD := Lib.hid hod
    have HROW := Lib.hid hrow
    have hml := HML.out
    by_cases hlt : j < 9
    · have hcj := hnw.cellAt j (by omega)
      have hjl : j < ns.length := by omega
      have hx := HOK.out ns[j] (List.getElem_mem hjl)
      have SN := rowF_snoc (ns.take j) 1 ns[j]
      rw [← List.take_succ_eq_append_getElem hjl, List.length_take, Nat.min_eq_left (by omega)] at SN
      rw [List.getElem?_map, List.getElem?_eq_getElem hjl, Option.map_some] at hcj
      obtain ⟨x, hxx⟩ : ∃ x, ns[j] = x := ⟨_, rfl⟩
      rw [hxx] at hcj hx SN
      obtain ⟨x0, x1⟩ := hx
      have ej : jj.toNat = j := by omega
      rw [← ej] at hcj
      have j0 : 0 ≤ jj := by omega
      have hltj : jj < 9 := by omega
      have HJ := Lib.hid hjj
      by_cases hz : x = 0
      · subst hz
        rw [if_pos rfl, List.append_nil] at SN
        have HSN := Lib.hid SN
        clear hk hown hod hrow SN hxx hnw hjl hml ej hlt x0 x1
        go_wp2
        have hjj := HJ.out
        go_roundw
        case rel => exact ⟨j + 1, gs, by omega, by congr 1; omega, HK.out, HNW.out, HOW.out, HOD.out, by rw [HSN.out]; exact HROW.out⟩
        case measure => simp [intOf]; omega
      · rw [if_neg hz] at SN
        have HSN := Lib.hid SN
        have hxn : ((x.toNat : Nat) : Int) = x := by omega
        have HNB := Lib.hid (fun w1 => refNumber_any 8 (Nat.le_refl _) x.toNat (by omega) x hxn w1)
        obtain ⟨bs, hbs⟩ : ∃ b, beF 8 x.toNat = b := ⟨_, rfl⟩
        have hbi : InB bs := by rw [← hbs]; exact beF_inB _ _
        rw [hbs] at HNB HSN
        have HBI := Lib.hid hbi
        obtain ⟨av, cv, hv⟩ := (own_slq rfl hown hod).form
        rw [List.length_map] at hv
        subst hv
        obtain ⟨kl, hkl⟩ : ∃ x, gs.length = x := ⟨_, rfl⟩
        have hk9 : kl ≤ 9 := by
          have h1 := congrArg List.length hrow
          have h2 := rowF_len (ns.take j) 1
          rw [List.length_map] at h1
          rw [List.length_take] at h2
          omega
        rw [hkl] at hown HOW ⊢
        have HKL := Lib.hid hkl
        obtain ⟨i0, hi, hz0, hz1, hz2⟩ := HIF.out
        have HI := Lib.hid (And.intro hz1 hz2)
        have HI2 := Lib.hid hi
        have HI3 := Lib.hid hz0
        clear hk hown hod hrow SN hxx hnw hjl hml ej hlt x0 x1 hxn hbs hbi hi hz0 hz1 hz2 hkl
        go_wp2_with (first
          | (go_at_call 43; (with_reducible refine (HNB.out _).mono ?_); rintro e w5 ⟨v5, rfl, ho5, hk5⟩; obtain ⟨a5, c5, rfl, -⟩ := enc_len ho5; have HO5 := Lib.hid ho5; have K5 := Lib.hid hk5; have K6 := Lib.hid (Kp.trans hk5 (kp_alloc w5 (.cells #[.int .i64 (jj + 1), .slice a5 bs.length c5] 58))); have OW6 := Lib.hid (own_kp HOW.out K6.out); clear ho5 hk5)
          | (at_builtin; refine wpList_append_own _ rfl (.tmp 17) (.tmp 23) 50 rfl w.heap.size 58 i0 (.agg #[.int .i64 0, .slice none 0 0]) 2 32 Tryd.underlying50 HI2.out HI3.out HI.out.1 HI.out.2 rfl (by decide) _ _ _ rfl OW6.out ⟨w5.heap.size, 0, none⟩ 1 1 [.int .i64 (jj + 1), .slice a5 bs.length c5] rfl ?c1 ?c2 ?c3 ?c4 ?c5 ?c6 ?_))
        case c1 => rfl
        case c2 =>
          intro i u hi
          rw [add_plain]
          unfold World.cell?
          dsimp only
          rw [(MapKept.heap_alloc w5 _).1]
          have hi3 : i < 2 := by
            rcases Nat.lt_or_ge i 2 with q | q
            · exact q
            · rw [List.getElem?_eq_none (by simpa using q)] at hi; cases hi
          match i, hi3, hi with
          | 0, _, hi | 1, _, hi => simpa using hi
        case c3 => intro u hu; simp at hu; rcases hu with rfl | rfl <;> rfl
        case c4 => unfold maxLen; omega
        case c5 => omega
        case c6 => exact Below.size (Kp.trans HK.out K6.out)
        rintro v6 w6 hown6 hgr6 -
        have hsz := Below.size HK.out
        have kp6 : Kp w w6 := rows_kp OW6.out hgr6 (Kp.trans HK.out K6.out)
        have nw6 := Lib.hid (own_grows OW6.out hgr6 (own_kp HNW.out K6.out) (by decide))
        have od6 : OwnD w.heap.size (gs ++ [(jj + 1, bs, Value.slice a5 bs.length c5)]) w6 := by
          intro g hg
          rcases List.mem_append.1 hg with hg | hg
          · exact ((HOD.out.kp K6.out).grows OW6.out hgr6) g hg
          · have : g = (jj + 1, bs, Value.slice a5 bs.length c5) := by simpa using hg
            subst this
            exact ⟨own_grows OW6.out hgr6 (own_kp (own_mono HO5.out hsz) (kp_alloc w5 _)) (by decide), HBI.out⟩
        have own6 : w6.ownsRow w.heap.size 58 2 v6 (gs ++ [(jj + 1, bs, Value.slice a5 bs.length c5)]).length ((gs ++ [(jj + 1, bs, Value.slice a5 bs.length c5)]).flatMap cellQ) := by
          rw [List.length_append, List.length_singleton, HKL.out, List.flatMap_append]
          exact hown6
        have O6 := Lib.hid own6
        have D6 := Lib.hid od6
        have KQ6 := Lib.hid kp6
        clear own6 od6 kp6 hown6 hgr6 hsz
        go_wp2
        have hjj := HJ.out
        go_roundw
        case rel =>
          refine ⟨j + 1, gs ++ [(jj + 1, bs, Value.slice a5 bs.length c5)], by omega, by congr 1; omega, KQ6.out, nw6.out, O6.out, D6.out, ?_⟩
          rw [HSN.out, List.map_append, HROW.out, ← hjj, show (1 : Int) + (j : Int) = (j : Int) + 1 by omega]
          rfl
        case measure => simp [intOf]; omega
    · obtain rfl : j = 9 := by omega
      have hful : ns.take 9 = ns := List.take_of_length_le (by omega)
      rw [hful] at hrow
      have hsq := own_slq rfl hown hod
      rw [hrow] at hsq
      obtain ⟨av, cv, hv⟩ := hsq.form
      subst hv
      have hj := Lib.hid (HJO.out av cv _ rfl wr hsq)
      have hex : ¬ jj < 9 := by omega
      have K3 := Lib.hid hk
      clear hk hnw hown hod hrow hsq hful hml hjj hlt
      go_wp2_with (go_at_call 44; (with_reducible refine hj.out.mono ?_); rintro e w7 ⟨v7, rfl, hs7, hk7⟩; have K7 := Lib.hid (Kp.trans K3.out hk7); have S7 := Lib.hid hs7; clear hs7 hk7)
      go_ret
      exact ⟨_, rfl, S7.out, K7.out⟩
end Go.Proofs.YtfginhckeogafaaDoor

namespace Go.Proofs.YtfginhckeogafaaDoor
open Go.RowKit Go.ChangeShapes Go.WideShapes

theorem splitQ_tags : ∀ (f : Nat) (bs : List Int) (last : Int) (k : Nat), InB bs → ∀ x ∈ (splitQ f bs last k).2, last < x.1 ∧ x.1 ≤ 255 ∧ x.2.length ≤ 200
  | 0, _, _, _, _, x, hx => by simp [splitQ] at hx
  | f + 1, bs, last, k, hb, x, hx => by
    rw [splitQ] at hx
    have gb : ∀ i, 0 ≤ bs.getD i 0 ∧ bs.getD i 0 < 256 := by
      intro i
      rcases Nat.lt_or_ge i bs.length with q | q
      · have := hb bs[i] (List.getElem_mem _)
        simpa [List.getD, q] using this
      · simp [List.getD, q]
    have b0 := gb 0
    split at hx
    · cases hx
    split at hx
    · cases hx
    split at hx
    · cases hx
    rename_i h3
    split at hx
    · cases hx
    dsimp only at hx
    rcases List.mem_cons.1 hx with rfl | hx
    · dsimp only
      refine ⟨by omega, by omega, ?_⟩
      rw [List.length_take]
      omega
    · have ih := splitQ_tags f _ (bs.getD 0 0) (k + 1) (fun y hy => hb y (List.mem_of_mem_drop hy)) x hx
      exact ⟨by omega, ih.2.1, ih.2.2⟩
theorem splitQ_len : ∀ (f : Nat) (bs : List Int) (last : Int) (k : Nat), (splitQ f bs last k).2.length ≤ f
  | 0, _, _, _ => by simp [splitQ]
  | f + 1, bs, last, k => by
    rw [splitQ]
    split
    · simp
    split
    · simp
    split
    · simp
    split
    · simp
    · simp only [List.length_cons]
      exact Nat.succ_le_succ (splitQ_len f _ _ _)
theorem splitQ_num : ∀ (f : Nat) (bs : List Int) (last : Int) (k : Nat), (splitQ f bs last k).1 = 0 ∨ (splitQ f bs last k).1 = 2 ∨ (splitQ f bs last k).1 = 4
  | 0, _, _, _ => .inr (.inr rfl)
  | f + 1, bs, last, k => by
    rw [splitQ]
    split
    · exact .inl rfl
    split
    · exact .inr (.inl rfl)
    split
    · exact .inr (.inr rfl)
    split
    · exact .inr (.inl rfl)
    · exact splitQ_num f _ _ _
/-- the fields' numbers, each at its place -/
def putF : List Int → List (Int × List Int) → Option (List Int)
  | l, [] => some l
  | l, x :: fs => if 9 < x.1 ∨ x.2.length = 0 ∨ (toNum x.2).2 ≠ 0 then none else putF (l.set (x.1 - 1).toNat (toNum x.2).1) fs
def ofL (l : List Int) : MM := ⟨l.getD 0 0, l.getD 1 0, l.getD 2 0, l.getD 3 0, l.getD 4 0, l.getD 5 0, l.getD 6 0, l.getD 7 0, l.getD 8 0⟩
/-- WHAT Decode ANSWERS: the error's number, the message -/
def decM (bs : List Int) : Int × MM :=
  if 1000 < bs.length then (3, noM) else if (splitQ 17 bs 0 0).1 ≠ 0 then ((splitQ 17 bs 0 0).1, noM)
  else match putF (List.replicate 9 0) (splitQ 17 bs 0 0).2 with
    | none => (4, noM)
    | some l => if rightM (ofL l) = true then (0, ofL l) else (4, noM)
theorem toNum_rng (bs : List Int) (hb : InB bs) : 0 ≤ (toNum bs).1 ∧ (toNum bs).1 ≤ 9223372036854775807 := by
  unfold toNum
  split
  · exact ⟨by decide, by decide⟩
  split
  · exact ⟨by decide, by decide⟩
  split
  · exact ⟨by decide, by decide⟩
  · rename_i h
    have := beNum_range hb bs.length (Nat.le_refl _)
    rw [List.take_length] at this
    exact ⟨this.1, by omega⟩

theorem results_row_tmp8 {P : Program} {fn : Func} {p u : Tmp} {ty : TypeId} (h : fn.results = #[.cell p ty, .tmp u]) (tmps : Array Value) (w : World) (g : Nat) (t : TypeId) (cs : Array Value) (fr : Nat × Nat) (d : TypeDesc)
    (hp : tmps.getD p undef = .pointer (some ⟨g, 0, none⟩)) (hg : w.heap[g]? = some (.cells cs t fr))
    (hu : P.underlying ty = some d) (hd : (match d with | .struct _ | .array _ _ => true | _ => false) = true) (hi : (P.info? ty).map (·.size) = some cs.size) :
    (results fn tmps).run P w = .ok (.tuple #[.agg cs, tmps.getD u undef]) w := by
  have hp' : tmps[p]?.getD undef = .pointer (some ⟨g, 0, none⟩) := by simpa using hp
  simp [results, h, hp', asAddr, run_loadVar_row w g t ty cs fr d hg hu hd hi]
theorem cells9 {b : Nat} {t : TypeId} {w : World} {x0 x1 x2 x3 x4 x5 x6 x7 x8 : Value} (h : w.heap[b]? = some (.cells #[x0, x1, x2, x3, x4, x5, x6, x7, x8] t (0, 0))) : w.cell? ⟨b, 0, none⟩ = some x0 ∧ w.cell? ⟨b, 1, none⟩ = some x1 ∧ w.cell? ⟨b, 2, none⟩ = some x2 ∧ w.cell? ⟨b, 3, none⟩ = some x3 ∧ w.cell? ⟨b, 4, none⟩ = some x4 ∧ w.cell? ⟨b, 5, none⟩ = some x5 ∧ w.cell? ⟨b, 6, none⟩ = some x6 ∧ w.cell? ⟨b, 7, none⟩ = some x7 ∧ w.cell? ⟨b, 8, none⟩ = some x8 := by
  refine ⟨?_, ?_, ?_, ?_, ?_, ?_, ?_, ?_, ?_⟩ <;> (unfold World.cell?; dsimp only; rw [h]; rfl)
theorem froz9 {b : Nat} {t : TypeId} {w : World} {cs : Array Value} (h : w.heap[b]? = some (.cells cs t (0, 0))) (i : Nat) : w.frozen? ⟨b, i, none⟩ = false := by
  unfold World.frozen?
  dsimp only
  rw [h]
  simp
theorem set9 {b : Nat} {t : TypeId} {w : World} {x0 x1 x2 x3 x4 x5 x6 x7 x8 : Value} (y0 y1 y2 y3 y4 y5 y6 y7 y8 : Value) (h : w.heap[b]? = some (.cells #[x0, x1, x2, x3, x4, x5, x6, x7, x8] t (0, 0))) : (((((((((w.setCell ⟨b, 0, none⟩ y0).setCell ⟨b, 1, none⟩ y1).setCell ⟨b, 2, none⟩ y2).setCell ⟨b, 3, none⟩ y3).setCell ⟨b, 4, none⟩ y4).setCell ⟨b, 5, none⟩ y5).setCell ⟨b, 6, none⟩ y6).setCell ⟨b, 7, none⟩ y7).setCell ⟨b, 8, none⟩ y8).heap[b]? = some (.cells #[y0, y1, y2, y3, y4, y5, y6, y7, y8] t (0, 0)) := by
  have h1 : (w.setCell ⟨b, 0, none⟩ y0).heap[b]? = some (.cells #[y0, x1, x2, x3, x4, x5, x6, x7, x8] t (0, 0)) := (Joins.block_setCell h _).trans rfl
  have h2 : ((w.setCell ⟨b, 0, none⟩ y0).setCell ⟨b, 1, none⟩ y1).heap[b]? = some (.cells #[y0, y1, x2, x3, x4, x5, x6, x7, x8] t (0, 0)) := (Joins.block_setCell h1 _).trans rfl
  have h3 : (((w.setCell ⟨b, 0, none⟩ y0).setCell ⟨b, 1, none⟩ y1).setCell ⟨b, 2, none⟩ y2).heap[b]? = some (.cells #[y0, y1, y2, x3, x4, x5, x6, x7, x8] t (0, 0)) := (Joins.block_setCell h2 _).trans rfl
  have h4 : ((((w.setCell ⟨b, 0, none⟩ y0).setCell ⟨b, 1, none⟩ y1).setCell ⟨b, 2, none⟩ y2).setCell ⟨b, 3, none⟩ y3).heap[b]? = some (.cells #[y0, y1, y2, y3, x4, x5, x6, x7, x8] t (0, 0)) := (Joins.block_setCell h3 _).trans rfl
  have h5 : (((((w.setCell ⟨b, 0, none⟩ y0).setCell ⟨b, 1, none⟩ y1).setCell ⟨b, 2, none⟩ y2).setCell ⟨b, 3, none⟩ y3).setCell ⟨b, 4, none⟩ y4).heap[b]? = some (.cells #[y0, y1, y2, y3, y4, x5, x6, x7, x8] t (0, 0)) := (Joins.block_setCell h4 _).trans rfl
  have h6 : ((((((w.setCell ⟨b, 0, none⟩ y0).setCell ⟨b, 1, none⟩ y1).setCell ⟨b, 2, none⟩ y2).setCell ⟨b, 3, none⟩ y3).setCell ⟨b, 4, none⟩ y4).setCell ⟨b, 5, none⟩ y5).heap[b]? = some (.cells #[y0, y1, y2, y3, y4, y5, x6, x7, x8] t (0, 0)) := (Joins.block_setCell h5 _).trans rfl
  have h7 : (((((((w.setCell ⟨b, 0, none⟩ y0).setCell ⟨b, 1, none⟩ y1).setCell ⟨b, 2, none⟩ y2).setCell ⟨b, 3, none⟩ y3).setCell ⟨b, 4, none⟩ y4).setCell ⟨b, 5, none⟩ y5).setCell ⟨b, 6, none⟩ y6).heap[b]? = some (.cells #[y0, y1, y2, y3, y4, y5, y6, x7, x8] t (0, 0)) := (Joins.block_setCell h6 _).trans rfl
  have h8 : ((((((((w.setCell ⟨b, 0, none⟩ y0).setCell ⟨b, 1, none⟩ y1).setCell ⟨b, 2, none⟩ y2).setCell ⟨b, 3, none⟩ y3).setCell ⟨b, 4, none⟩ y4).setCell ⟨b, 5, none⟩ y5).setCell ⟨b, 6, none⟩ y6).setCell ⟨b, 7, none⟩ y7).heap[b]? = some (.cells #[y0, y1, y2, y3, y4, y5, y6, y7, x8] t (0, 0)) := (Joins.block_setCell h7 _).trans rfl
  have h9 : (((((((((w.setCell ⟨b, 0, none⟩ y0).setCell ⟨b, 1, none⟩ y1).setCell ⟨b, 2, none⟩ y2).setCell ⟨b, 3, none⟩ y3).setCell ⟨b, 4, none⟩ y4).setCell ⟨b, 5, none⟩ y5).setCell ⟨b, 6, none⟩ y6).setCell ⟨b, 7, none⟩ y7).setCell ⟨b, 8, none⟩ y8).heap[b]? = some (.cells #[y0, y1, y2, y3, y4, y5, y6, y7, y8] t (0, 0)) := (Joins.block_setCell h8 _).trans rfl
  exact h9
theorem set9_kp {b : Nat} {w0 w : World} (hk : Kp w0 w) (hb : w0.heap.size ≤ b) (y0 y1 y2 y3 y4 y5 y6 y7 y8 : Value) : Kp w0 (((((((((w.setCell ⟨b, 0, none⟩ y0).setCell ⟨b, 1, none⟩ y1).setCell ⟨b, 2, none⟩ y2).setCell ⟨b, 3, none⟩ y3).setCell ⟨b, 4, none⟩ y4).setCell ⟨b, 5, none⟩ y5).setCell ⟨b, 6, none⟩ y6).setCell ⟨b, 7, none⟩ y7).setCell ⟨b, 8, none⟩ y8) := by
  refine Below.setCell ?_ hb _
  refine Below.setCell ?_ hb _
  refine Below.setCell ?_ hb _
  refine Below.setCell ?_ hb _
  refine Below.setCell ?_ hb _
  refine Below.setCell ?_ hb _
  refine Below.setCell ?_ hb _
  refine Below.setCell ?_ hb _
  refine Below.setCell ?_ hb _
  exact hk
theorem dec_new0 (w : World) (o o' : Obj) : ((w.alloc o).alloc o').heap[w.heap.size]? = some o := by
  rw [Below.heap_alloc _ _ _ (by simp)]
  exact (MapKept.heap_alloc w o).1

set_option maxRecDepth 100000 in
set_option maxHeartbeats 4000000 in
theorem refDecode8_long (a : Option Addr) (n c : Nat) (hl : 1000 < n) (w : World) :
    Calls Tryd.prog 16 #[.slice a n c] w fun e w' => e = .returned (.tuple #[.agg noM.cells, .int .i64 3]) ∧ Kp w w' := by
  obtain ⟨nn, hnn⟩ : ∃ x : Int, (n : Int) = x := ⟨_, rfl⟩
  have h1 : nn > 1000 := by omega
  have K := Lib.hid (Kp.trans (kp_alloc w (.cells #[.int .i64 0, .int .i64 0, .int .i64 0, .int .i64 0, .int .i64 0, .int .i64 0, .int .i64 0, .int .i64 0, .int .i64 0] 25)) (kp_alloc _ (.cells #[.int .i64 0, .int .i64 0, .int .i64 0, .int .i64 0, .int .i64 0, .int .i64 0, .int .i64 0, .int .i64 0, .int .i64 0] 25)))
  have hz := Lib.hid (dec_new0 w (.cells #[.int .i64 0, .int .i64 0, .int .i64 0, .int .i64 0, .int .i64 0, .int .i64 0, .int .i64 0, .int .i64 0, .int .i64 0] 25) (.cells #[.int .i64 0, .int .i64 0, .int .i64 0, .int .i64 0, .int .i64 0, .int .i64 0, .int .i64 0, .int .i64 0, .int .i64 0] 25))
  go_enter Tryd.func16, Tryd.ntmps16
  go_wp2
  refine bodyPost_ret (results_row_tmp8 (p := 2) (u := 3) rfl _ _ w.heap.size 25 _ (0, 0) _ rfl hz.out Tryd.underlying25 rfl (by kernel_rfl)) rfl ?_
  exact ⟨rfl, K.out⟩

set_option maxRecDepth 100000 in
set_option maxHeartbeats 4000000 in
theorem refDecode8_err (a : Option Addr) (n c : Nat) (bs : List Int) (hn : bs.length = n) (hnc : n ≤ c) (hl : n ≤ 1000) (hb : InB bs) (w : World) (hs : SlB (.slice a n c) bs w) (he : (splitQ 17 bs 0 0).1 ≠ 0) :
    Calls Tryd.prog 16 #[.slice a n c] w fun e w' => e = .returned (.tuple #[.agg noM.cells, .int .i64 (splitQ 17 bs 0 0).1]) ∧ Kp w w' := by
  obtain ⟨nn, hnn⟩ : ∃ x : Int, (n : Int) = x := ⟨_, rfl⟩
  have h1 : ¬ nn > 1000 := by omega
  have K := Lib.hid (Kp.trans (kp_alloc w (.cells #[.int .i64 0, .int .i64 0, .int .i64 0, .int .i64 0, .int .i64 0, .int .i64 0, .int .i64 0, .int .i64 0, .int .i64 0] 25)) (kp_alloc _ (.cells #[.int .i64 0, .int .i64 0, .int .i64 0, .int .i64 0, .int .i64 0, .int .i64 0, .int .i64 0, .int .i64 0, .int .i64 0] 25)))
  have hz := Lib.hid (dec_new0 w (.cells #[.int .i64 0, .int .i64 0, .int .i64 0, .int .i64 0, .int .i64 0, .int .i64 0, .int .i64 0, .int .i64 0, .int .i64 0] 25) (.cells #[.int .i64 0, .int .i64 0, .int .i64 0, .int .i64 0, .int .i64 0, .int .i64 0, .int .i64 0, .int .i64 0, .int .i64 0] 25))
  have hz1 := Lib.hid (enc_new1 w (.cells #[.int .i64 0, .int .i64 0, .int .i64 0, .int .i64 0, .int .i64 0, .int .i64 0, .int .i64 0, .int .i64 0, .int .i64 0] 25) (.cells #[.int .i64 0, .int .i64 0, .int .i64 0, .int .i64 0, .int .i64 0, .int .i64 0, .int .i64 0, .int .i64 0, .int .i64 0] 25))
  have hsp := fun w1 (hk : Kp w w1) => refSplit_any a c bs n hn (by omega) hnc hb w1 (hs.kp hk)
  obtain ⟨S, hS⟩ : ∃ x, splitQ 17 bs 0 0 = x := ⟨_, rfl⟩
  rw [hS] at hsp he ⊢
  obtain ⟨S1, S2⟩ := S
  dsimp only at hsp he ⊢
  have HSP := Lib.hid hsp
  have h0 : (S1 == 0) = false := by simpa using he
  clear hsp hs hb hn hS
  go_enter Tryd.func16, Tryd.ntmps16
  go_wp2_with (go_at_call 45; (with_reducible refine (HSP.out _ K.out).mono ?_); rintro e w2 ⟨v, rfl, -, -, hk2⟩; have K2 := Lib.hid (Kp.trans K.out hk2); have KK := Lib.hid hk2; have Z2 := Lib.hid ((Below.block hk2 w.heap.size (old_of_row hz.out)).trans hz.out); have Z3 := Lib.hid ((Below.block hk2 (w.heap.size + 1) (old_of_row hz1.out)).trans hz1.out); obtain ⟨d0, d1, d2, d3, d4, d5, d6, d7, d8⟩ := cells9 Z3.out; obtain ⟨e0, e1, e2, e3, e4, e5, e6, e7, e8⟩ := cells9 Z2.out; have fz := froz9 Z2.out; clear hk2)
  have hz9 := set9 (.int .i64 0) (.int .i64 0) (.int .i64 0) (.int .i64 0) (.int .i64 0) (.int .i64 0) (.int .i64 0) (.int .i64 0) (.int .i64 0) Z2.out
  refine bodyPost_ret (results_row_tmp8 (p := 2) (u := 3) rfl _ _ w.heap.size 25 _ (0, 0) _ rfl hz9 Tryd.underlying25 rfl (by kernel_rfl)) rfl ?_
  exact ⟨rfl, set9_kp K2.out (Nat.le_refl _) _ _ _ _ _ _ _ _ _⟩
end Go.Proofs.YtfginhckeogafaaDoor

