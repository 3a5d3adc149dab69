/-
  THE LANDED CLOCK (own work): ranging over its timers; Next.
-/
import Derived.Test.YtanbeaebdingeaaDoorTmB
import Derived.Test.YtanbeaebdingeaaDoorSl
import Derived.Sort.OwnSorted
namespace Go.Proofs.YtanbeaebdingeaaDoor
open Go.RowKit Go.ChangeShapes Go.WideShapes
variable {w0 w w' W w3 : World} {q mb : Nat} {c : CkM}

/-- rows of floats, rows of keys -/
def flE : EncG Nat where
  enc x := [.float .f64 x]
  k := 1
  len := fun _ => rfl
  one := by
    intro x u hu
    rw [List.mem_singleton.1 hu]
    rfl
def kyE : EncG (List UInt8) where
  enc x := [encStr x]
  k := 1
  len := fun _ => rfl
  one := by
    intro x u hu
    rw [List.mem_singleton.1 hu]
    rfl
theorem row_fl (l : List Nat) : flE.row l = l.map (Value.float .f64) := by
  unfold EncG.row flE
  induction l with
  | nil => rfl
  | cons x l ih => rw [List.flatMap_cons, ih]; rfl
theorem row_ky (l : List (List UInt8)) : kyE.row l = l.map encStr := by
  unfold EncG.row kyE
  induction l with
  | nil => rfl
  | cons x l ih => rw [List.flatMap_cons, ih]; rfl
theorem info_fl0 : (Tryd.prog.info? 28).map (fun i => (i.zero, i.size, i.bytes)) = some (some (.float .f64 0), 1, 8) := by kernel_rfl
theorem info_fl : ∃ i0, Tryd.prog.info? 28 = some i0 ∧ i0.zero = some (.float .f64 0) ∧ i0.size = 1 ∧ i0.bytes = 8 := by
  have h := info_fl0
  cases g : Tryd.prog.info? 28 with
  | none => rw [g] at h; cases h
  | some i0 =>
    rw [g] at h
    simp only [Option.map_some, Option.some.injEq, Prod.mk.injEq] at h
    exact ⟨i0, rfl, h.1, h.2.1, h.2.2⟩
theorem ty_fl : TyG Tryd.prog 56 28 1 (.float .f64 0) 8 := ⟨Tryd.underlying56, info_fl, rfl, by decide⟩
theorem info_st0 : (Tryd.prog.info? 9).map (fun i => (i.zero, i.size, i.bytes)) = some (some (.string ⟨#[]⟩), 1, 16) := by kernel_rfl
theorem info_st : ∃ i0, Tryd.prog.info? 9 = some i0 ∧ i0.zero = some (.string ⟨#[]⟩) ∧ i0.size = 1 ∧ i0.bytes = 16 := by
  have h := info_st0
  cases g : Tryd.prog.info? 9 with
  | none => rw [g] at h; cases h
  | some i0 =>
    rw [g] at h
    simp only [Option.map_some, Option.some.injEq, Prod.mk.injEq] at h
    exact ⟨i0, rfl, h.1, h.2.1, h.2.2⟩
theorem ty_ky : TyG Tryd.prog 39 9 1 (.string ⟨#[]⟩) 16 := ⟨Tryd.underlying39, info_st, rfl, by decide⟩
theorem part_one1 {α : Type} {E : EncG α} {x : α} {u : Value} {b : Nat} {T : TypeId} (hE : E.enc x = [u]) (h : W.heap[b]? = some (.cells #[u] T (0, 0))) : PartG E (.slice (some ⟨b, 0, none⟩) 1 1) [x] W := by
  refine ⟨_, _, rfl, fun e => (by cases e), fun ad e j y hj => ?_⟩
  injection e with e
  subst e
  rw [Addr.add_lit, Nat.zero_add]
  match j, hj with
  | 0, hj => simp [EncG.row, hE] at hj; subst hj; exact cell_row h rfl
  | j + 1, hj => simp [EncG.row, hE] at hj
/-- a timer's shape in the map -/
def mkT (y : Nat × Int × Nat × Nat) : Value := .agg #[.float .f64 y.1, .int .i64 y.2.1, .float .f64 y.2.2.1, .float .f64 y.2.2.2]
theorem inv_key (key : Value) (kl : Lit) (h : keyOf Tryd.prog 9 key = some kl) : ∃ x, key = encStr x := by
  obtain ⟨x, hx, _⟩ := Maps.keyOf_str Tryd.underlying9 h
  exact ⟨x, hx⟩
theorem inv_tm (v : Value) (y : DataW Unit × List MemPlace) (h : tmR v = some y) : ∃ z, v = mkT z := by
  obtain ⟨a, n, b, m, rfl, _⟩ := tmR_inv h
  exact ⟨(a, n, b, m), rfl⟩
/-- an entry that comes is a timer's -/
theorem ent_is {D : DataW Unit} (hm : MapM D c) {x : List UInt8} (hx : x.length ≤ maxLen) {a : Nat} {n : Int} {b m : Nat} {yd : DataW Unit} {yp : List MemPlace} (hv : tmR (mkT (a, n, b, m)) = some (yd, yp)) (hat : ∀ zd, D.atKey (.string x) zd = yd) : c.has x = true ∧ c.getT x = ⟨(c.getT x).k, a, n, b, m⟩ := by
  have h1 := hm.has hx
  rw [Maps.has_true_of_atKey hat] at h1
  refine ⟨h1.symm, ?_⟩
  have h2 := hm.get hx
  rw [hat] at h2
  have h3 := tmR_mk a n b m
  have h4 : tmR (mkT (a, n, b, m)) = some (tmD a n b m, []) := h3
  rw [h4] at hv
  injection hv with hv
  injection hv with hv
  rw [← hv] at h2
  obtain ⟨e1, e2, e3, e4⟩ := tmD_inj h2
  rw [e1, e2, e3, e4]
/-- all that was collected -/
theorem coll_perm {D : DataW Unit} {left : Lit → Bool} {ks : List (List UInt8)} (hm : MapM D c) (ok : CkOk c) (hC : Collected D left ks) (hl : ∀ kl, left kl = false) (hk : ∀ k ∈ ks, k.length ≤ maxLen) : ks.Perm (c.ts.map Tm.k) := by
  refine (List.perm_ext_iff_of_nodup hC.1 (List.pairwise_map.2 ok.nd)).2 fun x => ?_
  rw [hC.2 x, hl, List.mem_map]
  constructor
  · rintro ⟨h1, _⟩
    by_cases hx : x.length ≤ maxLen
    · rw [hm.has hx] at h1
      exact has_iff.1 h1
    · exact absurd (hk x ((hC.2 x).2 ⟨h1, hl _⟩)) hx
  · rintro ⟨t, ht, rfl⟩
    refine ⟨?_, rfl⟩
    rw [hm.has (ok.each t ht).k]
    exact has_iff.2 ⟨t, ht, rfl⟩
theorem lst_le : ∀ (bs : List Nat), (∀ x ∈ bs, x ≤ 9218868437227405312) → bs ≠ [] → lst bs ∈ bs ∧ (∀ x ∈ bs, lst bs ≤ x) := by
  have step : ∀ (bs : List Nat) (acc : Nat), acc ≤ 9218868437227405312 → (∀ x ∈ bs, x ≤ 9218868437227405312) → (bs.foldl lstep acc = acc ∨ bs.foldl lstep acc ∈ bs) ∧ bs.foldl lstep acc ≤ acc ∧ ∀ x ∈ bs, bs.foldl lstep acc ≤ x := by
    intro bs
    induction bs with
    | nil => intro acc _ _; exact ⟨.inl rfl, Nat.le_refl _, fun x h => by cases h⟩
    | cons y bs ih =>
      intro acc ha hb
      have hy := hb y (by simp)
      have hs : lstep acc y = min y acc := by
        unfold lstep
        rw [Fl.ord_of_le hy ha]
        unfold Fl.cmpN
        split
        · rename_i h; rw [Nat.min_eq_left (by omega)]; rfl
        · split
          · rename_i h1 h2; rw [Nat.min_eq_right (by omega)]; rfl
          · rename_i h1 h2; rw [Nat.min_eq_right (by omega)]; rfl
      rw [List.foldl_cons, hs]
      obtain ⟨i1, i2, i3⟩ := ih (min y acc) (by omega) (fun x hx => hb x (by simp [hx]))
      refine ⟨?_, by omega, fun x hx => ?_⟩
      · rcases i1 with i1 | i1
        · rw [i1]
          rcases Nat.le_total y acc with h | h
          · rw [Nat.min_eq_left h]; exact .inr (by simp)
          · rw [Nat.min_eq_right h]; exact .inl rfl
        · exact .inr (by simp [i1])
      · rcases List.mem_cons.1 hx with rfl | hx
        · omega
        · exact i3 x hx
  intro bs hb hne
  obtain ⟨i1, i2, i3⟩ := step bs 9218868437227405312 (Nat.le_refl _) hb
  refine ⟨?_, i3⟩
  rcases i1 with i1 | i1
  · match bs, hne with
    | y :: bs, _ =>
      have h1 := i3 y (by simp)
      have h2 := hb y (by simp)
      have : lst (y :: bs) = y := by
        show (y :: bs).foldl lstep 9218868437227405312 = y
        omega
      rw [this]
      simp
  · exact i1
theorem next_of {ks : List (List UInt8)} (ok : CkOk c) (hp : ks.Perm (c.ts.map Tm.k)) (hne : ks ≠ []) : NextIs c (lst (ks.map c.atK)) ∧ lst (ks.map c.atK) ≤ 9218868437227405312 := by
  obtain ⟨h1, h2⟩ := lst_le (ks.map c.atK) (fun x hx => by obtain ⟨k, _, rfl⟩ := List.mem_map.1 hx; exact atK_le ok k) (by simpa using hne)
  obtain ⟨k, hk, hkm⟩ := List.mem_map.1 h1
  obtain ⟨t, ht, rfl⟩ := List.mem_map.1 (hp.mem_iff.1 hk)
  refine ⟨⟨⟨t, ht, by rw [← hkm, atK_of ok.nd ht]⟩, fun u hu => ?_⟩, by rw [← hkm]; exact atK_le ok _⟩
  rw [← atK_of ok.nd hu]
  exact h2 _ (List.mem_map.2 ⟨u.k, hp.mem_iff.2 (List.mem_map.2 ⟨u, hu, rfl⟩), rfl⟩)
theorem own_slf {base n : Nat} {v : Value} {l : List Nat} (h : w.ownsRow base 28 1 v n (flE.row l)) (hn : l.length = n) : SlF v l w := by
  subst hn
  by_cases h0 : l = []
  · subst h0
    obtain ⟨a, cp, rfl⟩ := own_formG h
    exact .inl ⟨rfl, a, cp, rfl⟩
  · rcases h.2 with ⟨rfl, hz⟩ | ⟨g, cap, cur, rfl, hg, hh, hc, hm, hs, ht⟩
    · exact absurd (List.length_eq_zero_iff.1 hz) h0
    · refine .inr ⟨g, 0, cap, List.length_pos_iff.2 h0, rfl, fun j hj => ?_⟩
      have := h.cells rfl j (.float .f64 (l.getD j 0)) (by rw [row_fl]; simp [List.getD, hj])
      rw [Addr.add_lit] at this
      exact this
set_option maxRecDepth 100000 in
set_option maxHeartbeats 2000000 in
theorem lkNext_any (H : Lk w0 q mb c w) : Calls Tryd.prog 17 #[.pointer (some ⟨q, 0, none⟩)] w fun r w' => ((c.ts = [] ∧ r = .returned (.tuple #[.float .f64 0, .bool false])) ∨ ∃ m, NextIs c m ∧ r = .returned (.tuple #[.float .f64 m, .bool true])) ∧ Kp w w' := by
  obtain ⟨D, hD, hm⟩ := H.map
  have e1 : w.cell? ⟨q, 1, none⟩ = some (.map (some mb)) := cell_row (i := 1) H.row rfl
  have MO := Lib.hid hD
  have HM := Lib.hid hm
  have OK := Lib.hid H.ok
  have HLT := Lib.hid hD.lt
  have HSZ := Lib.hid (hD.size_le)
  clear H hD hm
  go_enter Tryd.func17, Tryd.ntmps17
  go_wp2_with (first | (at_range; refine wpList_range_own _ rfl _ 63 rfl 9 71 kS Tryd.underlying63 tmR mb 64 D rfl MO.out ?_; intro w1 hrg0 hg0 hs0))
  try go_frame
  obtain ⟨rI, hrI⟩ : ∃ q, w.heap.size = q := ⟨_, rfl⟩
  rw [hrI] at hrg0
  try rw [hrI]
  have HKR := Lib.hid (Nat.le_of_eq hrI)
  have hk0 : Kp w w1 := Below.grown (Kp.refl w) hg0 (Nat.le_refl _) (fun k hk => by cases hk)
  clear hrI hg0 hs0
  go_loopw [4] (fun v wr => ∃ (left : Lit → Bool) (cnt : Nat) (ks : List (List UInt8)), wr.ranges Tryd.prog 9 tmR mb rI 64 D left cnt ∧ Collected D left ks ∧ (∀ k ∈ ks, k.length ≤ maxLen) ∧ ks.length + cnt ≤ 64 ∧ wr.ownsRow w.heap.size 28 1 v ks.length (flE.row (ks.map c.atK)) ∧ Kp w wr) (fun _ wr => wr.rangeLeft mb rI)
  case atStart => exact ⟨_, _, [], hrg0, Collected.start D, fun k h => (by cases h), (by have := HSZ.out; simpa using this), World.ownsRow_nil _ _ _ _, hk0⟩
  case round =>
    obtain ⟨left, cnt, ks, hrg, hC, hkl, hcnt, hrow, hgw⟩ := hrel
    go_wp2_with (first | (at_next; refine wpList_next_ranges _ rfl _ rfl 9 kS tmR encStr mkT inv_key inv_tm mb rI 64 _ _ _ rfl hrg ?_ ?_))
    · intro hc0 hl0
      have hp := coll_perm HM.out OK.out hC hl0 hkl
      obtain ⟨ad, cp, rfl⟩ := own_formG hrow
      have KE := Lib.hid hgw
      by_cases h0 : ks = []
      · subst h0
        have hts : c.ts = [] := by simpa using hp.length_eq.symm
        have HT := Lib.hid hts
        clear hrg hC hkl hcnt hrow hgw hp hts hc0 hl0
        go_wp2
        go_ret2
        exact ⟨.inl ⟨HT.out, rfl⟩, KE.out⟩
      · obtain ⟨hnx, hle⟩ := next_of OK.out hp h0
        have hl := least_any (.slice ad ks.length cp) (ks.map c.atK) wr (own_slf hrow (by simp)) (by simp; unfold maxLen; omega) (fun x hx => by obtain ⟨k, _, rfl⟩ := List.mem_map.1 hx; have := atK_le OK.out k; omega)
        rw [(Fl.dl_of_le hle).2.2] at hl
        obtain ⟨lm, hlm⟩ : ∃ m, lst (ks.map c.atK) = m := ⟨_, rfl⟩
        rw [hlm] at hl hnx
        obtain ⟨ln, hln⟩ : ∃ m, ks.length = m := ⟨_, rfl⟩
        rw [hln] at hl
        have hn0 : ln ≠ 0 := by rw [← hln]; exact fun e => h0 (List.length_eq_zero_iff.1 e)
        obtain ⟨li, hli⟩ : ∃ m : Int, (ln : Int) = m := ⟨_, rfl⟩
        have b0 : (li == 0) = false := by
          rw [beq_eq_false_iff_ne]; omega
        have b1 : ¬ li = 0 := by omega
        have HL := Lib.hid hl
        have HN := Lib.hid hnx
        simp only [hln]
        clear hrg hC hkl hcnt hrow hgw hp hc0 hl0 hl hnx hlm hln hn0 hle h0
        go_wp2_with (go_at_call 39; (with_reducible refine HL.out.mono ?_); rintro e' w3 ⟨rfl, rfl⟩)
        go_ret2
        exact ⟨.inr ⟨_, HN.out, rfl⟩, KE.out⟩
    · intro x a n b m kl yd yp w2 cnt2 hkey hlk hv hat hrg2 hlt hg2 hs2 hen
      obtain ⟨x', ex, rfl, hxl⟩ := Maps.keyOf_str Tryd.underlying9 hkey
      obtain rfl := encStr_inj ex
      obtain ⟨hh, hgt⟩ := ent_is HM.out hxl hv hat
      have ha : c.atK x = a := by unfold CkM.atK; rw [hgt]
      have hgw2 : Kp w w2 := Below.grown hgw hg2 (Below.size hgw) (fun k hk => by injection hk with hk; have := HKR.out; omega)
      have n1 := row_ne_iter hrow hrg
      have n2 : some mb ≠ Value.ownBlock _ := row_ne_low hrow HLT.out
      have hrow2 := own_stayG hrow (w' := w2) (fun b hb => hg2.block b (hrow.lt b hb).2 (fun e => n1 (by rw [hb]; exact e.symm)))
      have k3 := kp_alloc w2 (.cells #[.float .f64 a, .int .i64 n, .float .f64 b, .float .f64 m] 71)
      have k4 := kp_alloc (w2.alloc (.cells #[.float .f64 a, .int .i64 n, .float .f64 b, .float .f64 m] 71)) (.cells #[.float .f64 a] 28)
      have R4 := Lib.hid (own_stayG hrow2 (fun b hb => Below.block (Kp.trans k3 k4) b (hrow2.lt b hb).2))
      have p4 := part_one1 (E := flE) (x := a) rfl (MapKept.heap_alloc (w2.alloc (.cells #[.float .f64 a, .int .i64 n, .float .f64 b, .float .f64 m] 71)) (.cells #[.float .f64 a] 28)).1
      rw [show (w2.alloc (.cells #[.float .f64 a, .int .i64 n, .float .f64 b, .float .f64 m] 71)).heap.size = w2.heap.size + 1 by simp] at p4
      have P4 := Lib.hid p4
      have y0 : (w2.alloc (.cells #[.float .f64 a, .int .i64 n, .float .f64 b, .float .f64 m] 71)).cell? ⟨w2.heap.size, 0, none⟩ = some (.float .f64 a) := cell_row (i := 0) (MapKept.heap_alloc w2 (.cells #[.float .f64 a, .int .i64 n, .float .f64 b, .float .f64 m] 71)).1 rfl
      have RG := Lib.hid ((hrg2.alloc (.cells #[.float .f64 a, .int .i64 n, .float .f64 b, .float .f64 m] 71)).alloc (.cells #[.float .f64 a] 28))
      have K4 := Lib.hid (Kp.trans hgw2 (Kp.trans k3 k4))
      have HC := Lib.hid (hC.step hlk hat)
      have HX := Lib.hid (show ∀ k ∈ ks ++ [x], k.length ≤ maxLen from fun k hk => by
        rcases List.mem_append.1 hk with hk | hk
        · exact hkl k hk
        · rw [List.mem_singleton.1 hk]; exact hxl)
      have HCN := Lib.hid (show ks.length + 1 + cnt2 ≤ 64 by omega)
      have HA := Lib.hid ha
      have HLQ := Lib.hid hrg.left_eq
      have HLT2 := Lib.hid hlt
      unfold mkT at hen
      dsimp only at hen
      have hsf := store_fl
      have N1 := Lib.hid n1
      have N2 := Lib.hid n2
      clear p4 hkey ex hlk hv hat hh hgt hxl ha hgw2 hrow2 hrow hrg hrg2 hlt hg2 hs2 hC hkl hcnt hgw k3 k4 n1 n2 hrg0 hk0
      go_wp2_with (at_builtin; refine wpList_append_rwG (E := flE) ty_fl (by decide) _ rfl _ _ rfl w.heap.size _ ks.length (ks.map c.atK) rfl R4.out _ [a] rfl P4.out ?f1 ?f2 ?_)
      case f1 => have := HCN.out; simp; omega
      case f2 => exact Below.size K4.out
      intro v3 w3 ho hg3 hb3
      have hrg3 := RG.out.kept hg3 N2.out N1.out
      have hk3 : Kp w w3 := Below.grown K4.out hg3 (Below.size K4.out) (fun k hk => (R4.out.lt k hk).1)
      clear hb3
      go_wp2
      go_roundw
      case rel => exact ⟨_, cnt2, ks ++ [x], hrg3, HC.out, HX.out, by have := HCN.out; simp; omega, by rw [List.map_append, List.length_append]; have := HA.out; simp only [List.map_cons, List.map_nil, this]; exact ho, hk3⟩
      case measure => rw [hrg3.left_eq, HLQ.out]; exact HLT2.out
end Go.Proofs.YtanbeaebdingeaaDoor
