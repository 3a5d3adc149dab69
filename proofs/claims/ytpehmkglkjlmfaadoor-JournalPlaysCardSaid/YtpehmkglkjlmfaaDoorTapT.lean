/-
  A TAPE's CODE KEEPS ITS CONTRACTS: Cut, Crash; all of them (own work).
-/
import Derived.Test.YtpehmkglkjlmfaaDoorTapS
namespace Go.Proofs.YtpehmkglkjlmfaaDoor
open Go.RowKit Go.ChangeShapes Go.WideShapes
variable {B g : Nat} {m m' : TM} {O : Nat → Prop} {w w' : World} {v v' : Value}
/-- THE BEGINNING OF ONE's OWN ROW. -/
theorem own_head {base N cp k : Nat} {a0 : Option Addr} {e : TypeId} {xs : List Value} {mm : Int} (h : w.ownsRow base e 1 (.slice a0 N cp) N xs) (hk : k ≤ N) (hmm : (k : Int) = mm) :
    ∃ A C, (∀ w, (Instr.slice 46 (.slice a0 N cp) none (some (.int .i64 mm)) none).run Tryd.prog w = .ok (.slice A k C) w) ∧
      w.ownsRow base e 1 (.slice A k C) k (xs.take k) ∧ (Value.slice A k C).ownBlock = (Value.slice a0 N cp).ownBlock := by
  have h0 := h
  rcases h.2 with ⟨q, hz⟩ | ⟨gb, cap, cur, q, hg, hh, hnc, r⟩
  · injection q with q1 q2 q3
    subst q1 q2 q3
    obtain rfl : k = 0 := by omega
    have e : mm.toNat = 0 := by omega
    refine ⟨none, 0, fun w => ?_, ?_, rfl⟩
    · rw [run_slice_h w 46 _ _ _ byte_sl .i64 _ (by omega) (by omega), byte_elem, byte_sz]
      simp [Result.andThen, sliced, e]
    · exact World.ownsRow_nil _ _ _ _
  · injection q with q1 q2 q3
    subst q1 q3
    exact ⟨_, _, fun w => run_head hmm hk hnc w, own_take h0 hk, rfl⟩

set_option maxRecDepth 20000 in
set_option maxHeartbeats 4000000 in
theorem tap_cut (ads : List Addr) (h1 : TaC g v m w) (h2 : w.ownsRow B 5 1 v m.all.length (m.all.map (Value.int .u8))) (hO : ∀ b, O b ↔ b = g ∨ v.ownBlock = some b) (hne : v.ownBlock ≠ some g) (hB : B ≤ g) (hm : Mok m) (c1 : w.cell? ⟨1, 0, none⟩ = some (errI ads 1)) (c7 : ∀ w', On g w w' → w'.cell? ⟨6, 0, none⟩ = some (errI ads 7)) (n : Int) (n0 : -9223372036854775808 ≤ n) (n1 : n ≤ 9223372036854775807) :
    Calls Tryd.prog 37 #[.pointer (some ⟨g, 0, none⟩), .int .i64 n] w fun e w' => e = .returned (errI ads (cutsM m n).1) ∧ ∃ O', TapR B g (cutsM m n).2 O' w' ∧ Asd O O' w w' := by
  have c3 := h1.c3
  obtain ⟨N, hN⟩ : ∃ N, m.all.length = N := ⟨_, rfl⟩
  have hN6 : N ≤ 65536 := by have := hm.len; rw [← hN, TM.all, List.length_append]; omega
  rw [hN] at h2
  obtain ⟨a0, cp, rfl⟩ : ∃ a0 cp, v = .slice a0 N cp := by
    rcases h2.2 with ⟨rfl, q⟩ | ⟨gb, cap, cur, rfl, _⟩
    · exact ⟨none, 0, by rw [q]⟩
    · exact ⟨_, _, rfl⟩
  obtain ⟨NN, hNN⟩ : ∃ x : Int, (N : Int) = x := ⟨_, rfl⟩
  have HH := Lib.hid h1
  have H2 := Lib.hid h2
  have HO := Lib.hid hO
  have HNE := Lib.hid hne
  have HAL := Lib.hid hN
  have HST := tap_step ads hm h1 c7
  obtain ⟨es, et, er⟩ := stepM_same m
  by_cases hf : n < 0 ∨ NN < n
  · have e : cutsM m n = (1, m) := by unfold cutsM; rw [if_pos (by rw [hN, hNN]; exact hf)]
    rw [e]
    obtain ⟨e1, he1⟩ : ∃ x, errI ads 1 = x := ⟨_, rfl⟩
    rw [he1] at c1
    dsimp only
    rw [he1]
    clear e h1 h2 hm c7 he1 hO hne hN es et er HST
    by_cases hn : n < 0
    · clear hf
      go_enter Tryd.func37, Tryd.ntmps37
      go_wp2
      go_ret
      exact ⟨rfl, tap_on (by rw [HAL.out]; exact H2.out) HO.out HNE.out hB HH.out rfl (On.refl g w)⟩
    · have hg : n > NN := by omega
      clear hf
      go_enter Tryd.func37, Tryd.ntmps37
      go_wp2
      go_ret
      exact ⟨rfl, tap_on (by rw [HAL.out]; exact H2.out) HO.out HNE.out hB HH.out rfl (On.refl g w)⟩
  · have hnf : ¬ (n < 0 ∨ (m.all.length : Int) < n) := by rw [hN, hNN]; exact hf
    have x1 : ¬ n < 0 := by omega
    have x2 : ¬ n > NN := by omega
    have hnn : ((n.toNat : Nat) : Int) = n := by omega
    have hkN : n.toNat ≤ N := by omega
    rcases stepM_two m with hk | hk
    · have e : cutsM m n = (0, { (stepM m).2 with sure := m.all.take n.toNat, tail := [] }) := by unfold cutsM; rw [if_neg hnf, if_pos hk]
      rw [e]
      obtain ⟨A, C, hsl, hrow, hob⟩ := own_head h2 hkN hnn
      have HR := Lib.hid hrow
      have HOB := Lib.hid hob
      have HA2 := Lib.hid (show TM.all { (stepM m).2 with sure := m.all.take n.toNat, tail := [] } = m.all.take n.toNat by unfold TM.all; dsimp only; rw [List.append_nil])
      have HKN := Lib.hid hkN
      have HSE := Lib.hid (fun w2 (t : TaC g (.slice a0 N cp) (stepM m).2 w2) => tap_settle (m' := { (stepM m).2 with sure := m.all.take n.toNat, tail := [] }) t A n.toNat C (by show (m.all.take n.toNat).length = n.toNat; rw [List.length_take, hN]; omega) rfl rfl rfl)
      simp only [hk, errI_nil] at HST
      have HST := Lib.hid HST
      dsimp only
      rw [errI_nil]
      clear e hf h1 h2 hm c7 c1 hO hne hnf hk es et er hN hrow hob hkN hnn
      go_enter Tryd.func37, Tryd.ntmps37
      go_wp2_with (first
        | (go_at_call 53; (with_reducible refine HST.out.mono ?_); rintro e w2 ⟨rfl, ht2, ho2⟩; have T2 := Lib.hid ht2; have O2 := Lib.hid ho2; have d3 := ht2.c3; clear ht2 ho2)
        | (go_at_call 54; (with_reducible refine (HSE.out _ T2.out).mono ?_); rintro e w3 ⟨rfl, ht3, ho3⟩; have T3 := Lib.hid ht3; have O3 := Lib.hid ho3; clear ht3 ho3))
      go_ret
      have on4 := O2.out.trans O3.out
      have hne2 : (Value.slice A n.toNat C).ownBlock ≠ some g := by rw [HOB.out]; exact HNE.out
      refine ⟨rfl, tap_upd HO.out hB T3.out ?_ (fun b q => .inl (by rw [← HOB.out]; exact q)) hne2 (asd_on ((HO.out g).2 (.inl rfl)) on4)⟩
      have q3 := own_stay HR.out (fun b hb => on4.block b (own_lt HR.out hb) (fun q => hne2 (by rw [← q]; exact hb)))
      rw [HA2.out, List.map_take, List.length_take, HAL.out, show min n.toNat N = n.toNat from Nat.min_eq_left HKN.out]
      exact q3
    · have e : cutsM m n = stepM m := by unfold cutsM; rw [if_neg hnf, if_neg (by rw [hk]; decide)]
      rw [e]
      have HA2 := Lib.hid (show TM.all (stepM m).2 = m.all by unfold TM.all; rw [es, et])
      obtain ⟨o7, ho7⟩ := errI_iface ads 7 (by decide)
      simp only [hk, ho7] at HST ⊢
      have HST := Lib.hid HST
      clear e hf h1 h2 hm c7 c1 hO hne hnf hk es et er hN ho7 hkN hnn
      go_enter Tryd.func37, Tryd.ntmps37
      go_wp2_with (go_at_call 53; (with_reducible refine HST.out.mono ?_); rintro e w2 ⟨rfl, ht2, ho2⟩; have T2 := Lib.hid ht2; have O2 := Lib.hid ho2; clear ht2 ho2)
      go_ret
      exact ⟨rfl, tap_on (by rw [HAL.out]; exact H2.out) HO.out HNE.out hB T2.out HA2.out O2.out⟩

set_option maxRecDepth 20000 in
set_option maxHeartbeats 4000000 in
theorem tap_crash (h1 : TaC g v m w) (h2 : w.ownsRow B 5 1 v m.all.length (m.all.map (Value.int .u8))) (hO : ∀ b, O b ↔ b = g ∨ v.ownBlock = some b) (hne : v.ownBlock ≠ some g) (hB : B ≤ g) (hm : Mok m) (n : Int) (n0 : -9223372036854775808 ≤ n) (n1 : n ≤ 9223372036854775807) :
    Calls Tryd.prog 30 #[.pointer (some ⟨g, 0, none⟩), .int .i64 n] w fun e w' => e = .returned (.tuple #[]) ∧ ∃ O', TapR B g (crashM m n) O' w' ∧ Asd O O' w w' := by
  have c3 := h1.c3
  have c4 := h1.c4
  have z := h1.z
  obtain ⟨N, hN⟩ : ∃ N, m.all.length = N := ⟨_, rfl⟩
  have hNs : m.sure.length + m.tail.length = N := by rw [← hN, TM.all, List.length_append]
  have hN6 : N ≤ 65536 := by have := hm.len; omega
  rw [hN] at h2
  obtain ⟨a0, cp, rfl⟩ : ∃ a0 cp, v = .slice a0 N cp := by
    rcases h2.2 with ⟨rfl, q⟩ | ⟨gb, cap, cur, rfl, _⟩
    · exact ⟨none, 0, by rw [q]⟩
    · exact ⟨_, _, rfl⟩
  obtain ⟨NN, hNN⟩ : ∃ x : Int, (N : Int) = x := ⟨_, rfl⟩
  obtain ⟨ss, hss⟩ : ∃ x : Int, (m.sure.length : Int) = x := ⟨_, rfl⟩
  have hkN : m.sure.length + min n.toNat m.tail.length ≤ N := by omega
  obtain ⟨kt, hkt⟩ : ∃ k, m.sure.length + min n.toNat m.tail.length = k := ⟨_, rfl⟩
  have hcr : (crashM m n).all = m.all.take kt := by
    unfold crashM TM.all
    dsimp only
    rw [List.append_nil, ← hkt, List.take_length_add_append, ← List.take_eq_take_min]
  have hlk : (crashM m n).sure.length = kt := by
    have q : (crashM m n).all.length = kt := by rw [hcr, List.length_take, hN]; omega
    have q2 : (crashM m n).all = (crashM m n).sure := by unfold crashM TM.all; dsimp only; rw [List.append_nil]
    rw [← q2]; exact q
  rw [hss] at c4
  have x1 : 0 ≤ ss := by omega
  have x2 : ss ≤ NN := by omega
  have x3 : NN ≤ 65536 := by omega
  have x4 : 0 ≤ min (max n 0) (NN - ss) := by omega
  have x5 : min (max n 0) (NN - ss) ≤ NN - ss := by omega
  have hmm : (kt : Int) = ss + min (max n 0) (NN - ss) := by omega
  obtain ⟨A, C, hsl, hrow, hob⟩ := own_head h2 (hkt ▸ hkN) hmm
  have HH := Lib.hid h1
  have H2 := Lib.hid h2
  have HO := Lib.hid hO
  have HNE := Lib.hid hne
  have HR := Lib.hid hrow
  have HOB := Lib.hid hob
  have HAL := Lib.hid hN
  have HLK := Lib.hid hlk
  have HCR := Lib.hid hcr
  have HKT := Lib.hid (show kt ≤ N by omega)
  have HMM := Lib.hid hmm
  have HSE := Lib.hid (fun k => tap_settle (m' := { (crashM m n) with left := m.left, off := m.off }) (show TaC g (.slice a0 N cp) m (w.drewN k) from h1) A kt C hlk rfl rfl rfl)
  have HSS := Lib.hid hss
  clear h1 h2 hO hne hN hNs hN6 hrow hob hlk hcr hkN hm hkt hmm hss
  go_enter Tryd.func30, Tryd.ntmps30
  go_wp2
  go_quiet (fail)
  go_wp2_with (go_at_call 54; (with_reducible refine (HSE.out _).mono ?_); rintro e w2 ⟨rfl, ht2, ho2⟩; have T2 := Lib.hid ht2; have O2 := Lib.hid (((On.refl g w).drewN _).trans ho2); have d0 := ht2.c0; have d1 := ht2.c1; have d2 := ht2.c2; have dz := ht2.z; clear ht2 ho2)
  (try simp only [Exit.inBlock, Exit.then]); refine bodyPost_end (results_none rfl _ _ _) rfl ?_
  have q1 : (((w2.setCell ⟨g, 0, none⟩ (.bool false)).setCell ⟨g, 1, none⟩ (.bool false)).setCell ⟨g, 2, none⟩ (.int .i64 0)).heap[g]? = some (objT (.slice A kt C) (crashM m n)) :=
    (Joins.block_setCell (Joins.block_setCell (Joins.block_setCell T2.out _) _) _).trans rfl
  have on4 : On g w (((w2.setCell ⟨g, 0, none⟩ (.bool false)).setCell ⟨g, 1, none⟩ (.bool false)).setCell ⟨g, 2, none⟩ (.int .i64 0)) := ((O2.out.set _ _).set _ _).set _ _
  have hne2 : (Value.slice A kt C).ownBlock ≠ some g := by rw [HOB.out]; exact HNE.out
  refine ⟨rfl, tap_upd HO.out hB q1 ?_ (fun b q => .inl (by rw [← HOB.out]; exact q)) hne2 (asd_on ((HO.out g).2 (.inl rfl)) on4)⟩
  have q3 := own_stay HR.out (fun b hb => on4.block b (own_lt HR.out hb) (fun q => hne2 (by rw [← q]; exact hb)))
  rw [HCR.out, List.map_take, List.length_take, HAL.out, show min kt N = kt from Nat.min_eq_left HKT.out]
  exact q3

theorem own_ge {base N : Nat} {e : TypeId} {xs : List Value} (h : w.ownsRow base e 1 v N xs) {b : Nat} (hb : v.ownBlock = some b) : base ≤ b := by
  rcases h.2 with ⟨rfl, _⟩ | ⟨g, cap, cur, rfl, hg, _⟩
  · simp [Value.ownBlock] at hb
  · have e : g = b := by simpa [Value.ownBlock] using hb
    rw [← e]
    exact hg

theorem tapC_R (ads : List Addr) (W : World) (E : E3 ads W) : TapC ads W (TapR W.heap.size) := by
  have C1 : ∀ w1, Kp W w1 → w1.cell? ⟨1, 0, none⟩ = some (errI ads 1) := fun w1 hk => by
    have h := old_of_cell E.c1
    rw [← E.c1]
    unfold World.cell?
    dsimp only
    rw [Below.block hk _ h]
  have C6 : ∀ w1, Kp W w1 → w1.cell? ⟨5, 0, none⟩ = some (errI ads 6) := fun w1 hk => by
    have h := old_of_cell E.c6
    rw [← E.c6]
    unfold World.cell?
    dsimp only
    rw [Below.block hk _ h]
  have C7 : ∀ w1, Kp W w1 → ∀ g, W.heap.size ≤ g → ∀ w', On g w1 w' → w'.cell? ⟨6, 0, none⟩ = some (errI ads 7) := fun w1 hk g hg w' ho => by
    have h := old_of_cell E.c7
    rw [← E.c7]
    unfold World.cell?
    dsimp only at h ⊢
    rw [ho.block _ (Nat.lt_of_lt_of_le h (Below.size hk)) (by omega), Below.block hk _ h]
  refine TapC.mk ?_ ?_ ?_ ?_ ?_ ?_ ?_ ?_ ?_ ?_ ?_ ?_
    ?_
  · rintro g m O w w' ⟨v, h1, h2, hO, hne, hB⟩ _ hb
    exact ⟨v, (hb g ((hO g).2 (.inl rfl))).trans h1, own_stay h2 (fun b q => hb b ((hO b).2 (.inr q))), hO, hne, hB⟩
  · rintro g m O w ⟨v, h1, h2, hO, hne, hB⟩ b hb
    rcases (hO b).1 hb with rfl | q
    · exact ⟨hB, old_of_row h1⟩
    · exact ⟨own_ge h2 q, own_lt h2 q⟩
  · intro w1 hk r r0 r1
    exact tap_new ads (Below.size hk) (fun w2 hk2 => C1 w2 (Kp.trans hk hk2)) r r0 r1
  · intro w1 hk r hr r0 r1
    exact tap_new_no ads (fun w2 hk2 => C1 w2 (Kp.trans hk hk2)) r hr r0 r1
  · rintro w1 hk g m O ⟨v, h1, h2, hO, hne, hB⟩ hm a n c bs hs hn _ _ hl hno
    exact tap_append ads h1 h2 hO hne hB hm (C6 _ hk) (C7 _ hk g hB) a n c bs hs hn hl hno
  · rintro w1 hk g m O ⟨v, h1, h2, hO, hne, hB⟩ hm
    exact tap_sync ads h1 h2 hO hne hB hm (C7 _ hk g hB)
  · rintro w1 hk g m O ⟨v, h1, h2, hO, hne, hB⟩ hm a n c bs hs hn _ _ hl hno
    exact tap_swap ads h1 h2 hO hne hB hm (C6 _ hk) (C7 _ hk g hB) a n c bs hs hn hl hno
  · rintro w1 hk g m O ⟨v, h1, h2, hO, hne, hB⟩ hm n n0 n1
    exact tap_cut ads h1 h2 hO hne hB hm (C1 _ hk) (C7 _ hk g hB) n n0 n1
  · rintro w1 hk g m O ⟨v, h1, h2, hO, hne, hB⟩ hm n n0 n1
    exact tap_setRoom ads h1 h2 hO hne hB (C1 _ hk) n n0 n1
  · rintro w1 hk g m O ⟨v, h1, h2, hO, hne, hB⟩ hm n n0 n1
    exact tap_arm h1 h2 hO hne hB n n0 n1
  · rintro w1 hk g m O ⟨v, h1, h2, hO, hne, hB⟩ hm n n0 n1
    exact tap_crash h1 h2 hO hne hB hm n n0 n1
  · rintro w1 hk g m O ⟨v, h1, h2, hO, hne, hB⟩ hm
    exact tap_bytes h1 h2 hm
  · rintro w1 hk g m O ⟨v, h1, h2, hO, hne, hB⟩ hm
    exact tap_off h1
theorem tapC_of (ads : List Addr) (W : World) (E : E3 ads W) : ∃ R, TapC ads W R := ⟨_, tapC_R ads W E⟩
end Go.Proofs.YtpehmkglkjlmfaaDoor
