/-
  A TAPE's CODE KEEPS ITS CONTRACTS (own work).
-/
import Derived.Test.YtpehmkglkjlmfaaDoorLaidT
import Derived.Test.YtpehmkglkjlmfaaDoorTapC
import Derived.Test.YtpehmkglkjlmfaaDoorRef6
import Derived.Test.YtpehmkglkjlmfaaDoorAppO
import Derived.Test.YtpehmkglkjlmfaaDoorSlH
import Derived.Test.YtpehmkglkjlmfaaDoorClo
namespace Go.Proofs.YtpehmkglkjlmfaaDoor
open Go.RowKit Go.ChangeShapes Go.WideShapes

def objT (v : Value) (m : TM) : Obj := .cells #[.bool m.off, .bool (decide (0 ≤ m.left)), .int .i64 (max m.left 0), v, .int .i64 m.sure.length, .int .i64 m.room] 72 (0, 0)
/-- THE TAPE's BLOCK. -/
def TaC (g : Nat) (v : Value) (m : TM) (w : World) : Prop := w.heap[g]? = some (objT v m)
theorem TaC.c0 {g : Nat} {v : Value} {m : TM} {w : World} (h : TaC g v m w) : w.cell? ⟨g, 0, none⟩ = some (.bool m.off) := by unfold World.cell?; dsimp only; rw [h]; rfl
theorem TaC.c1 {g : Nat} {v : Value} {m : TM} {w : World} (h : TaC g v m w) : w.cell? ⟨g, 1, none⟩ = some (.bool (decide (0 ≤ m.left))) := by unfold World.cell?; dsimp only; rw [h]; rfl
theorem TaC.c2 {g : Nat} {v : Value} {m : TM} {w : World} (h : TaC g v m w) : w.cell? ⟨g, 2, none⟩ = some (.int .i64 (max m.left 0)) := by unfold World.cell?; dsimp only; rw [h]; rfl
theorem TaC.c3 {g : Nat} {v : Value} {m : TM} {w : World} (h : TaC g v m w) : w.cell? ⟨g, 3, none⟩ = some v := by unfold World.cell?; dsimp only; rw [h]; rfl
theorem TaC.c4 {g : Nat} {v : Value} {m : TM} {w : World} (h : TaC g v m w) : w.cell? ⟨g, 4, none⟩ = some (.int .i64 m.sure.length) := by unfold World.cell?; dsimp only; rw [h]; rfl
theorem TaC.c5 {g : Nat} {v : Value} {m : TM} {w : World} (h : TaC g v m w) : w.cell? ⟨g, 5, none⟩ = some (.int .i64 m.room) := by unfold World.cell?; dsimp only; rw [h]; rfl
theorem TaC.z {g : Nat} {v : Value} {m : TM} {w : World} (h : TaC g v m w) (i : Nat) : w.frozen? ⟨g, i, none⟩ = false := by unfold World.frozen?; dsimp only; rw [h]; simp [objT]
/-- HOW A TAPE LIES in memory: its block, its bytes' row; both its own, newer than B. -/
def TapR (B : Nat) (g : Nat) (m : TM) (O : Nat → Prop) (w : World) : Prop :=
  ∃ v, TaC g v m w ∧ w.ownsRow B 5 1 v m.all.length (m.all.map (Value.int .u8)) ∧ (∀ b, O b ↔ b = g ∨ v.ownBlock = some b) ∧ v.ownBlock ≠ some g ∧ B ≤ g
theorem own_stay {w w' : World} {base n : Nat} {e : TypeId} {v : Value} {xs : List Value} (h : w.ownsRow base e 1 v n xs) (hb : ∀ b, v.ownBlock = some b → w'.heap[b]? = w.heap[b]?) : w'.ownsRow base e 1 v n xs := by
  obtain ⟨h1, h2⟩ := h
  refine ⟨h1, ?_⟩
  rcases h2 with h2 | ⟨g, cap, cur, hv, hg, hh, r⟩
  · exact Or.inl h2
  · refine Or.inr ⟨g, cap, cur, hv, hg, ?_, r⟩
    rw [hb g (by rw [hv]; rfl)]
    exact hh
theorem own_lt {w : World} {base n : Nat} {e : TypeId} {v : Value} {xs : List Value} (h : w.ownsRow base e 1 v n xs) {b : Nat} (hb : v.ownBlock = some b) : b < w.heap.size := by
  rcases h.2 with ⟨rfl, _⟩ | ⟨g, cap, cur, rfl, hg, hh, _⟩
  · simp [Value.ownBlock] at hb
  · have e : g = b := by simpa [Value.ownBlock] using hb
    subst e
    exact old_of_row hh
variable {B g : Nat} {m m' : TM} {O : Nat → Prop} {w w' : World} {v v' : Value}
/-- behind a call on a tape -/
theorem tap_upd (hO : ∀ b, O b ↔ b = g ∨ v.ownBlock = some b) (hB : B ≤ g)
    (r1 : TaC g v' m' w') (r2 : w'.ownsRow B 5 1 v' m'.all.length (m'.all.map (Value.int .u8))) (hb : ∀ b, v'.ownBlock = some b → v.ownBlock = some b ∨ w.heap.size ≤ b) (hne : v'.ownBlock ≠ some g)
    (ha : Asd O O w w') : ∃ O', TapR B g m' O' w' ∧ Asd O O' w w' :=
  ⟨fun b => b = g ∨ v'.ownBlock = some b, ⟨v', r1, r2, fun _ => Iff.rfl, hne, hB⟩, ⟨ha.os, ha.tape, ha.output, ha.size, ha.block, fun b hb' => by
    rcases hb' with q | q
    · exact .inl ((hO b).2 (.inl q))
    · rcases hb b q with q | q
      · exact .inl ((hO b).2 (.inr q))
      · exact .inr q⟩⟩
theorem asd_on (hO : O g) (h : On g w w') : Asd O O w w' := ⟨h.os, h.tape, h.output, h.size, fun b hb hn => h.block b hb (fun e => hn (by rw [e]; exact hO)), fun b hb => .inl hb⟩
/-- behind a call that turns the tape's block alone -/
theorem tap_on (h2 : w.ownsRow B 5 1 v m.all.length (m.all.map (Value.int .u8))) (hO : ∀ b, O b ↔ b = g ∨ v.ownBlock = some b) (hne : v.ownBlock ≠ some g) (hB : B ≤ g)
    (r1 : TaC g v m' w') (hall : m'.all = m.all) (h : On g w w') : ∃ O', TapR B g m' O' w' ∧ Asd O O' w w' :=
  ⟨O, ⟨v, r1, by rw [hall]; exact own_stay h2 (fun b hb => h.block b (own_lt h2 hb) (fun e => hne (by rw [← e]; exact hb))), hO, hne, hB⟩, asd_on ((hO g).2 (.inl rfl)) h⟩
theorem errI_iface (ads : List Addr) (k : Int) (hk : k ≠ 0) : ∃ o, errI ads k = .iface 121 (.pointer o) := ⟨_, if_neg hk⟩

theorem pow_ne (ads : List Addr) (h : TaC g v m w) (c7 : ∀ w', On g w w' → w'.cell? ⟨6, 0, none⟩ = some (errI ads 7)) : ¬ g = 6 := by
  intro e
  have h2 : TaC g v { m with off := true } (w.setCell ⟨g, 0, none⟩ (.bool true)) := (Joins.block_setCell h _).trans rfl
  have q := c7 _ ((On.refl g w).set 0 (.bool true))
  rw [← e, h2.c0] at q
  obtain ⟨o, ho⟩ := errI_iface ads 7 (by decide)
  rw [ho] at q
  simp at q

set_option maxRecDepth 20000 in
theorem tap_step (ads : List Addr) (hm : Mok m) (h : TaC g v m w) (c7w : ∀ w', On g w w' → w'.cell? ⟨6, 0, none⟩ = some (errI ads 7)) :
    Calls Tryd.prog 53 #[.pointer (some ⟨g, 0, none⟩)] w fun e w' => e = .returned (errI ads (stepM m).1) ∧ TaC g v (stepM m).2 w' ∧ On g w w' := by
  have c0 := h.c0
  have c1 := h.c1
  have c2 := h.c2
  have z := h.z
  have l0 := hm.l0
  have l1 := hm.l1
  have H := Lib.hid h
  have c7 := c7w _ (On.refl g w)
  have g7 := pow_ne ads h c7w
  have g8 : ¬ 6 = g := fun e => g7 e.symm
  clear c7w
  obtain ⟨ll, hll⟩ : ∃ x, m.left = x := ⟨_, rfl⟩
  obtain ⟨oo, hoo⟩ : ∃ x, m.off = x := ⟨_, rfl⟩
  obtain ⟨e7, he7⟩ : ∃ x, errI ads 7 = x := ⟨_, rfl⟩
  rw [he7] at c7
  rw [hll] at c1 c2 l0 l1
  rw [hoo] at c0
  have HLL := Lib.hid hll
  by_cases hl : ll = 0
  · have e : stepM m = (7, { m with off := true }) := by unfold stepM; rw [if_pos (.inl (hll.trans hl))]
    rw [e, he7]
    subst hl
    rw [show decide ((0 : Int) ≤ 0) = true from rfl] at c1
    rw [show max (0 : Int) 0 = 0 from rfl] at c2
    clear h hm hll hoo e he7
    go_enter Tryd.func53, Tryd.ntmps53
    go_wp2
    go_ret
    exact ⟨rfl, (Joins.block_setCell H.out _).trans rfl, (On.refl _ _).set _ _⟩
  · cases oo with
    | true =>
      have e : stepM m = (7, { m with off := true }) := by unfold stepM; rw [if_pos (.inr hoo)]
      have e2 : ({ m with off := true } : TM) = m := by cases m; simp only [TM.mk.injEq, true_and] at hoo ⊢; exact hoo.symm
      rw [e, e2, he7]
      by_cases hn : 0 ≤ ll
      · rw [decide_eq_true hn] at c1
        rw [show max ll 0 = ll by omega] at c2
        have hle : (ll == 0) = false := beq_eq_false_iff_ne.2 hl
        clear h hm hll hoo e e2 he7
        go_enter Tryd.func53, Tryd.ntmps53
        go_wp2
        go_ret
        exact ⟨rfl, H.out, On.refl _ _⟩
      · rw [decide_eq_false hn] at c1
        clear h hm hll hoo e e2 he7 c2
        go_enter Tryd.func53, Tryd.ntmps53
        go_wp2
        go_ret
        exact ⟨rfl, H.out, On.refl _ _⟩
    | false =>
      by_cases hn : 0 ≤ ll
      · have e : stepM m = (0, { m with left := ll - 1 }) := by unfold stepM; rw [if_neg (by rw [hll, hoo]; simp [hl]), if_pos (by rw [hll]; omega), hll]
        rw [e, errI_nil]
        rw [decide_eq_true hn] at c1
        rw [show max ll 0 = ll by omega] at c2
        have hle : (ll == 0) = false := beq_eq_false_iff_ne.2 hl
        have hp : 0 < ll := by omega
        clear h hm hll hoo e he7
        go_enter Tryd.func53, Tryd.ntmps53
        go_wp2
        go_ret
        refine ⟨rfl, ?_, (On.refl _ _).set _ _⟩
        refine (Joins.block_setCell H.out _).trans ?_
        unfold objT
        dsimp only
        rw [HLL.out, show max (ll - 1) 0 = ll - 1 by omega, decide_eq_true hn, decide_eq_true (show 0 ≤ ll - 1 by omega)]
        rfl
      · have e : stepM m = (0, m) := by unfold stepM; rw [if_neg (by rw [hll, hoo]; simp [hl]), if_neg (by rw [hll]; omega)]
        rw [e, errI_nil]
        rw [decide_eq_false hn] at c1
        clear h hm hll hoo e he7 c2
        go_enter Tryd.func53, Tryd.ntmps53
        go_wp2
        go_ret
        exact ⟨rfl, H.out, On.refl _ _⟩

set_option maxRecDepth 20000 in
theorem tap_settle (h1 : TaC g v m w) (a : Option Addr) (n c : Nat) (hs : m'.sure.length = n) (hr : m'.room = m.room) (hl : m'.left = m.left) (ho : m'.off = m.off) :
    Calls Tryd.prog 54 #[.pointer (some ⟨g, 0, none⟩), .slice a n c] w fun e w' => e = .returned (.tuple #[]) ∧ TaC g (.slice a n c) m' w' ∧ On g w w' := by
  have c3 := h1.c3
  have c4 := h1.c4
  have z := h1.z
  have HH := Lib.hid h1
  have HS := Lib.hid hs
  have HR := Lib.hid hr
  have HL := Lib.hid hl
  have HO := Lib.hid ho
  clear h1 hs hr hl ho
  go_enter Tryd.func54, Tryd.ntmps54
  go_wp2
  (try simp only [Exit.inBlock, Exit.then]); refine bodyPost_end (results_none rfl _ _ _) rfl ?_
  refine ⟨rfl, ?_, ((On.refl _ _).set _ _).set _ _⟩
  have q1 : (w.setCell ⟨g, 3, none⟩ (.slice a n c)).heap[g]? = some (objT (.slice a n c) m) := (Joins.block_setCell HH.out _).trans rfl
  refine (Joins.block_setCell q1 _).trans ?_
  unfold objT
  rw [HS.out, HR.out, HL.out, HO.out]
  rfl

theorem own_take {base N cap k gb : Nat} {e : TypeId} {xs : List Value} (h : w.ownsRow base e 1 (.slice (some ⟨gb, 0, none⟩) N cap) N xs) (hk : k ≤ N) : w.ownsRow base e 1 (.slice (some ⟨gb, 0, none⟩) k cap) k (xs.take k) := by
  have hl : xs.length = N := by simpa using h.1
  refine ⟨by rw [List.length_take]; omega, ?_⟩
  rcases h.2 with ⟨q, _⟩ | ⟨g', cap', cur, hv, hg, hh, hnc, hcm, hcs, htk⟩
  · simp at q
  · simp only [Value.slice.injEq, Option.some.injEq, Addr.mk.injEq, and_true, true_and] at hv
    obtain ⟨rfl, rfl⟩ := hv
    refine .inr ⟨gb, cap, cur, rfl, hg, hh, by omega, hcm, hcs, ?_⟩
    rw [← htk, List.take_take]
    congr 1
    omega

theorem slb_on {a : Option Addr} {n c : Nat} {bs : List Int} (h : SlB (.slice a n c) bs w) (ho : On g w w') (hn : 0 < n → ∀ ad, a = some ad → ad.block ≠ g) : SlB (.slice a n c) bs w' := by
  rcases h with h | ⟨b, off, cap, h0, h1, h2⟩
  · exact .inl h
  · refine .inr ⟨b, off, cap, h0, h1, fun j hj => ?_⟩
    injection h1 with e1 e2 _
    have hb := hn (by omega) _ e1
    have hc := h2 j hj
    have hlt : b < w.heap.size := old_of_cell hc
    have e := ho.block b hlt hb
    unfold World.cell? at hc ⊢
    dsimp only at hc ⊢
    rw [e]
    exact hc

set_option maxRecDepth 20000 in
theorem tap_bytes (h1 : TaC g v m w) (h2 : w.ownsRow B 5 1 v m.all.length (m.all.map (Value.int .u8))) (hm : Mok m) :
    Calls Tryd.prog 21 #[.pointer (some ⟨g, 0, none⟩)] w fun e w' => ∃ a c, e = .returned (.slice a m.all.length c) ∧ SlB (.slice a m.all.length c) m.all w' ∧ Kp w w' := by
  have c3 := h1.c3
  have hn6 : m.all.length ≤ 1000000 := by have := hm.len; rw [TM.all, List.length_append]; omega
  have HC := Lib.hid (clone_any v m.all hn6 w (own_slb h2))
  obtain ⟨n, hn⟩ : ∃ n, m.all.length = n := ⟨_, rfl⟩
  rw [hn] at HC ⊢
  obtain ⟨a0, cp, rfl⟩ : ∃ a0 cp, v = .slice a0 n cp := by
    rw [hn] at h2
    rcases h2.2 with ⟨rfl, q⟩ | ⟨gb, cap, cur, rfl, _⟩
    · exact ⟨none, 0, by rw [q]⟩
    · exact ⟨_, _, rfl⟩
  clear h1 h2 hm hn hn6
  go_enter Tryd.func21, Tryd.ntmps21
  go_wp2_with (go_at_call 46; (with_reducible refine HC.out.mono ?_); rintro e w2 ⟨v2, rfl, hown, hk⟩; have HK := Lib.hid hk; have HSL := Lib.hid (own_slb hown); have HV : ∃ a2 c2, v2 = .slice a2 n c2 := (by rcases hown.2 with ⟨rfl, q⟩ | ⟨gb, cap, cur, rfl, _⟩; exact ⟨none, 0, by rw [q]⟩; exact ⟨_, _, rfl⟩); obtain ⟨a2, c2, rfl⟩ := HV; clear hown hk)
  go_ret
  exact ⟨a2, c2, rfl, HSL.out, HK.out⟩

set_option maxRecDepth 20000 in
set_option maxHeartbeats 4000000 in
theorem tap_append (ads : List Addr) (h1 : TaC g v m w) (h2 : w.ownsRow B 5 1 v m.all.length (m.all.map (Value.int .u8))) (hO : ∀ b, O b ↔ b = g ∨ v.ownBlock = some b) (hne : v.ownBlock ≠ some g) (hB : B ≤ g) (hm : Mok m)
    (c6 : w.cell? ⟨5, 0, none⟩ = some (errI ads 6)) (c7 : ∀ w', On g w w' → w'.cell? ⟨6, 0, none⟩ = some (errI ads 7))
    (a : Option Addr) (n c : Nat) (bs : List Int) (hs : SlB (.slice a n c) bs w) (hn : bs.length = n) (hl : n ≤ 100000) (hno : 0 < n → ∀ ad, a = some ad → ¬ O ad.block) :
    Calls Tryd.prog 25 #[.pointer (some ⟨g, 0, none⟩), .slice a n c] w fun e w' => e = .returned (errI ads (appM m bs).1) ∧ ∃ O', TapR B g (appM m bs).2 O' w' ∧ Asd O O' w w' := by
  have hln := hm.len
  have c3 := h1.c3
  have c5 := h1.c5
  have r0 := hm.r0
  have r1 := hm.r1
  obtain ⟨N, hN⟩ : ∃ N, m.all.length = N := ⟨_, rfl⟩
  have hN6 : N ≤ 65536 := by rw [← hN, TM.all, List.length_append]; omega
  have hNl : (N : Int) = (m.sure.length : Int) + (m.tail.length : Int) := by rw [← hN, TM.all, List.length_append]; omega
  rw [hN] at h2
  obtain ⟨a0, cp, rfl⟩ : ∃ a0 cp, v = .slice a0 N cp := by
    rcases h2.2 with ⟨rfl, q⟩ | ⟨gb, cap, cur, rfl, _⟩
    · exact ⟨none, 0, by rw [q]⟩
    · exact ⟨_, _, rfl⟩
  obtain ⟨rr, hrr⟩ : ∃ x, m.room = x := ⟨_, rfl⟩
  obtain ⟨NN, hNN⟩ : ∃ x : Int, (N : Int) = x := ⟨_, rfl⟩
  obtain ⟨nn, hnn⟩ : ∃ x : Int, (n : Int) = x := ⟨_, rfl⟩
  rw [hrr] at c5 r0 r1
  have HH := Lib.hid h1
  have H2 := Lib.hid h2
  have HO := Lib.hid hO
  have HNE := Lib.hid hne
  have HS := Lib.hid hs
  have HNO := Lib.hid hno
  have HC7 := Lib.hid c7
  have HAL := Lib.hid hN
  have HST := fun (k : Nat) => tap_step ads hm (show TaC g (.slice a0 N cp) m (w.drewN k) from h1) (fun w' ho => c7 w' (((On.refl g w).drewN k).trans ho))
  have hq : ∀ b, b < w.heap.size → b ≠ g → ∀ w', On g w w' → w'.heap[b]? = w.heap[b]? := fun b hb hn w' ho => ho.block b hb hn
  have HQ := Lib.hid hq
  have x1 : 0 ≤ NN ∧ NN ≤ 65536 := by omega
  have x2 : 0 ≤ nn ∧ nn ≤ 100000 := by omega
  by_cases hf : rr < NN + nn
  · have e : appM m bs = (6, m) := by unfold appM; rw [if_pos (by rw [hrr, hn]; omega)]
    rw [e]
    have hg : NN + nn > rr := hf
    obtain ⟨e6, he6⟩ : ∃ x, errI ads 6 = x := ⟨_, rfl⟩
    rw [he6] at c6
    dsimp only
    rw [he6]
    clear e hf h1 h2 hm hln hN hs hno hrr c7 HST hq he6 hO hne hn
    go_enter Tryd.func25, Tryd.ntmps25
    go_wp2
    go_quiet (fail)
    go_wp2
    go_ret
    exact ⟨rfl, tap_on (by rw [HAL.out]; exact H2.out) HO.out HNE.out hB HH.out rfl ((On.refl g w).drewN _)⟩
  · have hg : ¬ NN + nn > rr := hf
    have hnf : ¬ m.room - (m.sure.length : Int) - (m.tail.length : Int) < (bs.length : Int) := by rw [hrr, hn]; omega
    rcases stepM_two m with hk | hk
    · have e : appM m bs = (0, { (stepM m).2 with tail := m.tail ++ bs }) := by unfold appM; rw [if_neg hnf, if_pos hk]
      rw [e]
      obtain ⟨es, et, er⟩ := stepM_same m
      have HA2 := Lib.hid (show TM.all { (stepM m).2 with tail := m.tail ++ bs } = m.all ++ bs by unfold TM.all; dsimp only; rw [es, List.append_assoc])
      simp only [hk, errI_nil] at HST
      have HST := Lib.hid HST
      dsimp only
      rw [errI_nil]
      clear e hf h1 h2 hm hln hN hs hno hrr c7 hq hO hne hnf hk es et er
      go_enter Tryd.func25, Tryd.ntmps25
      go_wp2
      go_quiet (fail)
      go_wp2_with (first
        | (go_at_call 53; (with_reducible refine (HST.out _).mono ?_); rintro e w2 ⟨rfl, ht2, ho2⟩; have T2 := Lib.hid ht2; have O2 := Lib.hid (((On.refl g w).drewN _).trans ho2); have d3 := ht2.c3; have OW := Lib.hid (own_stay H2.out (fun b hb => O2.out.block b (own_lt H2.out hb) (fun q => HNE.out (by rw [← q]; exact hb)))); have SL := Lib.hid (slb_on HS.out O2.out (fun p ad q e => HNO.out p ad q ((HO.out _).2 (.inl e)))); clear ht2 ho2)
        | (at_builtin; refine wpList_append_blk _ rfl _ _ rfl B (.slice a0 N cp) N _ rfl OW.out a n c bs rfl SL.out ?d1 ?d2 ?_))
      case d1 => omega
      case d2 => have h1 := old_of_row T2.out; omega
      intro v2 w3 hown hgr hbk
      obtain ⟨a2, cc2, rfl⟩ : ∃ a2 cc2, v2 = .slice a2 (N + n) cc2 := by
        rcases hown.2 with ⟨rfl, q⟩ | ⟨gb, cap, cur, rfl, _⟩
        · exact ⟨none, 0, by rw [q]⟩
        · exact ⟨_, _, rfl⟩
      have hgl : g < w2.heap.size := old_of_row T2.out
      have ht3 : TaC g (.slice a0 N cp) (stepM m).2 w3 := (hgr.block g hgl (fun q => HNE.out q.symm)).trans T2.out
      have d4 := ht3.c3
      have dz := ht3.z
      have hne2 : (Value.slice a2 (N + n) cc2).ownBlock ≠ some g := fun q => by
        rcases hbk g q with q | q
        · exact HNE.out q
        · omega
      have hr2 : (w3.setCell ⟨g, 3, none⟩ (.slice a2 (N + n) cc2)).ownsRow B 5 1 (.slice a2 (N + n) cc2) (N + n) (m.all.map (Value.int .u8) ++ bs.map (Value.int .u8)) := own_stay hown (fun b hb => Below.heap_setCell _ _ _ _ (fun q => hne2 (by have q' : b = g := q; rw [← q']; exact hb)))
      have ht4 : TaC g (.slice a2 (N + n) cc2) { (stepM m).2 with tail := m.tail ++ bs } (w3.setCell ⟨g, 3, none⟩ (.slice a2 (N + n) cc2)) := (Joins.block_setCell ht3 _).trans rfl
      have hasd : Asd O O w (w3.setCell ⟨g, 3, none⟩ (.slice a2 (N + n) cc2)) := by
        have o2 := O2.out
        refine ⟨hgr.os.trans o2.os, hgr.tape.trans o2.tape, hgr.output.trans o2.output, ?_, fun b hb hn => ?_, fun b hb => .inl hb⟩
        · have h1 := hgr.size
          have h2 := o2.size
          simp
          omega
        · have hbg : b ≠ g := fun q => hn ((HO.out b).2 (.inl q))
          rw [Below.heap_setCell _ _ _ _ hbg, hgr.block b (Nat.lt_of_lt_of_le hb o2.size) (fun q => hn ((HO.out b).2 (.inr q.symm)))]
          exact o2.block b hb hbg
      have hbk2 : ∀ b, (Value.slice a2 (N + n) cc2).ownBlock = some b → (Value.slice a0 N cp).ownBlock = some b ∨ w.heap.size ≤ b := fun b q => (hbk b q).imp id (fun q => Nat.le_trans O2.out.size q)
      have HF := Lib.hid (tap_upd HO.out hB ht4 (by rw [HA2.out, List.length_append, List.map_append, HAL.out, hn]; exact hr2) hbk2 hne2 hasd)
      clear hown hgr hbk ht3 hne2 hr2 ht4 hasd hbk2 hgl d3
      go_wp2
      go_ret
      exact ⟨rfl, HF.out⟩
    · have e : appM m bs = stepM m := by unfold appM; rw [if_neg hnf, if_neg (by rw [hk]; decide)]
      rw [e]
      obtain ⟨es, et, er⟩ := stepM_same m
      have HA2 := Lib.hid (show TM.all (stepM m).2 = m.all by unfold TM.all; rw [es, et])
      obtain ⟨o7, ho7⟩ := errI_iface ads 7 (by decide)
      simp only [hk, ho7] at HST ⊢
      have HST := Lib.hid HST
      clear e hf h1 h2 hm hln hN hs hno hrr c7 hq hO hne hnf hk es et er ho7
      go_enter Tryd.func25, Tryd.ntmps25
      go_wp2
      go_quiet (fail)
      go_wp2_with (go_at_call 53; (with_reducible refine (HST.out _).mono ?_); rintro e w2 ⟨rfl, ht2, ho2⟩; have T2 := Lib.hid ht2; have O2 := Lib.hid (((On.refl g w).drewN _).trans ho2); clear ht2 ho2)
      go_ret
      exact ⟨rfl, tap_on (by rw [HAL.out]; exact H2.out) HO.out HNE.out hB T2.out HA2.out O2.out⟩
end Go.Proofs.YtpehmkglkjlmfaaDoor
