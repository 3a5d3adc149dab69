/-
  A PAIR THAT A CALL HAS MADE (own work): At; the laws' alive.
-/
import Derived.Test.YtghjnhdepeiloaaDoorMvA
import Derived.Lib.Hide
namespace Go.Proofs.YtghjnhdepeiloaaDoor
open Go.RowKit Go.ChangeShapes Go.WideShapes

theorem pok_act {m : PairM} (h : Pok m) (e k : Int) : Pok (m.act e k).2 := by
  obtain ⟨⟨p, r, hp, R⟩, hl⟩ := h
  obtain ⟨r', K⟩ := rep_act hp R e k
  exact ⟨⟨p, r', hp, K.rep⟩, act_len m e k hl⟩
theorem pok_again {m : PairM} (h : Pok m) (e : Int) : Pok (m.again e).2 := by
  obtain ⟨⟨p, r, hp, R⟩, hl⟩ := h
  obtain ⟨r', K⟩ := rep_again hp R e
  exact ⟨⟨p, r', hp, K.rep⟩, again_len m e hl⟩
theorem pok_deliver {m : PairM} (h : Pok m) (i : Int) (c : Bool) : Pok (m.deliver i c).2 := by
  obtain ⟨⟨p, r, hp, R⟩, hl⟩ := h
  obtain ⟨r', K⟩ := rep_deliver hp R i c
  exact ⟨⟨p, r', hp, K.rep⟩, deliver_len m i c hl⟩
theorem pok_drop {m : PairM} (h : Pok m) (i : Int) : Pok (m.drop i).2 := by
  obtain ⟨⟨p, r, hp, R⟩, hl⟩ := h
  exact ⟨⟨p, r, hp, (rep_drop hp R i).rep⟩, drop_len m i hl⟩
/-- A PAIR MADE BEHIND B; its calls leave the blocks F alone. -/
def At (J : Nat → PairM → (Nat → Prop) → World → Prop) (w0 B : World) (F : Nat → Prop) (g : Nat) (m : PairM) (w1 : World) : Prop :=
  ∃ O, J g m O w1 ∧ (∀ b, O b → B.heap.size ≤ b) ∧ Kp w0 B ∧ Kp B w1 ∧ (∀ b, F b → ¬ O b ∧ b < w1.heap.size) ∧ Pok m
variable {ads : List Addr} {J : Nat → PairM → (Nat → Prop) → World → Prop} {w0 B w1 w2 : World} {F : Nat → Prop} {g : Nat} {m : PairM}
theorem At.base (h : At J w0 B F g m w1) : Kp B w1 := h.choose_spec.2.2.2.1
theorem At.pok (h : At J w0 B F g m w1) : Pok m := h.choose_spec.2.2.2.2.2
theorem At.kp (C : MovC ads w0 J) (h : At J w0 B F g m w1) (hk : Kp w1 w2) : At J w0 B F g m w2 := by
  obtain ⟨O, hj, hO, hb, hB, hF, hp⟩ := h
  exact ⟨O, C.stay hj (Below.size hk) (fun b hb => Below.block hk b (C.mem hj b hb).2), hO, hb, Kp.trans hB hk, fun b q => ⟨(hF b q).1, Nat.lt_of_lt_of_le (hF b q).2 (Below.size hk)⟩, hp⟩
/-- one block more that is let alone: any that was made but isn't the pair's own -/
theorem At.more (C : MovC ads w0 J) (h : At J w0 B F g m w1) (o : Obj) : At J w0 B (fun b => F b ∨ b = w1.heap.size) g m (w1.alloc o) := by
  have hk := kp_alloc w1 o
  have hs : (w1.alloc o).heap.size = w1.heap.size + 1 := by simp
  obtain ⟨O, hj, hO, hb, hB, hF, hp⟩ := h
  refine ⟨O, C.stay hj (Below.size hk) (fun b hb => Below.block hk b (C.mem hj b hb).2), hO, hb, Kp.trans hB hk, fun b q => ?_, hp⟩
  rcases q with q | rfl
  · exact ⟨(hF b q).1, Nat.lt_of_lt_of_le (hF b q).2 (Below.size hk)⟩
  · exact ⟨fun q => Nat.lt_irrefl _ (C.mem hj _ q).2, by omega⟩
theorem At.less (h : At J w0 B F g m w1) {G : Nat → Prop} (hG : ∀ b, G b → F b) : At J w0 B G g m w1 := by
  obtain ⟨O, hj, hO, hb, hB, hF, hp⟩ := h
  exact ⟨O, hj, hO, hb, hB, fun b q => hF b (hG b q), hp⟩
/-- behind a call of the pair -/
theorem At.call {m' : PairM} (h : At J w0 B F g m w1) {O O' : Nat → Prop} (hO : ∀ b, O b → B.heap.size ≤ b) (hF : ∀ b, F b → ¬ O b ∧ b < w1.heap.size) (hj : J g m' O' w2) (ha : Asd O O' w1 w2) (hp : Pok m') :
    At J w0 B F g m' w2 ∧ (∀ b, F b → w2.heap[b]? = w1.heap[b]?) := by
  obtain ⟨_, _, _, hb, hB, _, _⟩ := h
  refine ⟨⟨O', hj, fun b q => ?_, hb, ha.kp hB hO, fun b q => ⟨fun q2 => ?_, Nat.lt_of_lt_of_le (hF b q).2 ha.size⟩, hp⟩, fun b q => ha.block b (hF b q).2 (hF b q).1⟩
  · rcases ha.own b q with q | q
    · exact hO b q
    · exact Nat.le_trans (Below.size hB) q
  · rcases ha.own b q2 with q3 | q3
    · exact (hF b q).1 q3
    · exact absurd (hF b q).2 (by omega)
theorem at_do (C : MovC ads w0 J) (h : At J w0 B F g m w1) (e k : Int) (ie : i64M e) (ik : i64M k) : Calls Tryd.prog 29 #[.pointer (some ⟨g, 0, none⟩), .int .i64 e, .int .i64 k] w1 fun r w' => r = .returned (errI ads (m.act e k).1) ∧ At J w0 B F g (m.act e k).2 w' ∧ (∀ b, F b → w'.heap[b]? = w1.heap[b]?) := by
  have h' := h
  obtain ⟨O, hj, hO, hb, hB, hF, hp⟩ := h
  refine (C.pdo w1 (Kp.trans hb hB) g m O hj hp e k ie ik).mono ?_
  rintro r w' ⟨rfl, O', hj', ha⟩
  exact ⟨rfl, h'.call hO hF hj' ha (pok_act hp e k)⟩
theorem at_again (C : MovC ads w0 J) (h : At J w0 B F g m w1) (e : Int) (ie : i64M e) : Calls Tryd.prog 30 #[.pointer (some ⟨g, 0, none⟩), .int .i64 e] w1 fun r w' => r = .returned (.bool (m.again e).1) ∧ At J w0 B F g (m.again e).2 w' ∧ (∀ b, F b → w'.heap[b]? = w1.heap[b]?) := by
  have h' := h
  obtain ⟨O, hj, hO, hb, hB, hF, hp⟩ := h
  refine (C.pagain w1 (Kp.trans hb hB) g m O hj hp e ie).mono ?_
  rintro r w' ⟨rfl, O', hj', ha⟩
  exact ⟨rfl, h'.call hO hF hj' ha (pok_again hp e)⟩
theorem at_deliver (C : MovC ads w0 J) (h : At J w0 B F g m w1) (i : Int) (c : Bool) (ii : i64M i) : Calls Tryd.prog 28 #[.pointer (some ⟨g, 0, none⟩), .int .i64 i, .bool c] w1 fun r w' => r = .returned (.tuple #[.agg (effV (m.deliver i c).1.2), errI ads (m.deliver i c).1.1]) ∧ At J w0 B F g (m.deliver i c).2 w' ∧ (∀ b, F b → w'.heap[b]? = w1.heap[b]?) := by
  have h' := h
  obtain ⟨O, hj, hO, hb, hB, hF, hp⟩ := h
  refine (C.pdeliver w1 (Kp.trans hb hB) g m O hj hp i c ii).mono ?_
  rintro r w' ⟨rfl, O', hj', ha⟩
  exact ⟨rfl, h'.call hO hF hj' ha (pok_deliver hp i c)⟩
theorem at_drop (C : MovC ads w0 J) (h : At J w0 B F g m w1) (i : Int) (ii : i64M i) : Calls Tryd.prog 46 #[.pointer (some ⟨g, 0, none⟩), .int .i64 i] w1 fun r w' => r = .returned (errI ads (m.drop i).1) ∧ At J w0 B F g (m.drop i).2 w' ∧ (∀ b, F b → w'.heap[b]? = w1.heap[b]?) := by
  have h' := h
  obtain ⟨O, hj, hO, hb, hB, hF, hp⟩ := h
  refine (C.pdrop w1 (Kp.trans hb hB) g m O hj hp i ii).mono ?_
  rintro r w' ⟨rfl, O', hj', ha⟩
  exact ⟨rfl, h'.call hO hF hj' ha (pok_drop hp i)⟩
theorem at_seat (C : MovC ads w0 J) (h : At J w0 B F g m w1) (e : Int) (ie : i64M e) : Calls Tryd.prog 24 #[.pointer (some ⟨g, 0, none⟩), .int .i64 e] w1 fun r w' => r = .returned (.agg (seatV (seatO m e))) ∧ Kp w1 w' := by
  obtain ⟨O, hj, hO, hb, hB, hF, hp⟩ := h
  exact C.pseat w1 (Kp.trans hb hB) g m O hj hp e ie
theorem at_flight (C : MovC ads w0 J) (h : At J w0 B F g m w1) : Calls Tryd.prog 25 #[.pointer (some ⟨g, 0, none⟩)] w1 fun r w' => ∃ v, r = .returned v ∧ SlF v m.f w' ∧ Kp w1 w' := by
  obtain ⟨O, hj, hO, hb, hB, hF, hp⟩ := h
  exact C.pflight w1 (Kp.trans hb hB) g m O hj hp
theorem at_new (C : MovC ads w0 J) (hb : Kp w0 B) (hB : Kp B w1) (p : Int) (hp : p = 1 ∨ p = 2) : Calls Tryd.prog 21 #[.int .i64 p] w1 fun r w' => ∃ g, r = .returned (.tuple #[.pointer (some ⟨g, 0, none⟩), .nilIface]) ∧ At J w0 B (fun _ => False) g (PairM.new p) w' ∧ Kp w1 w' := by
  refine (C.pnew_ok w1 (Kp.trans hb hB) p hp).mono ?_
  rintro r w' ⟨g, O, rfl, hj, hO, hk⟩
  exact ⟨g, rfl, ⟨O, hj, fun b q => Nat.le_trans (Below.size hB) (hO b q), hb, Kp.trans hB hk, fun b q => q.elim, pok_new hp⟩, hk⟩
def aP1 : PairM := ((PairM.new 1).act 2 3).2
theorem aP1_e : ((PairM.new 1).act 2 3).1 = 0 := by decide +kernel
def aP2 : PairM := (aP1.deliver 0 false).2
theorem aP2_e : (aP1.deliver 0 false).1.1 = 0 := by decide +kernel
def aP3 : PairM := (aP2.act 1 9).2
theorem aP3_e : (aP2.act 1 9).1 = 0 := by decide +kernel
def aP4 : PairM := (aP3.deliver 0 false).2
theorem aP4_e : (aP3.deliver 0 false).1.1 = 0 := by decide +kernel
def aP5 : PairM := (aP4.act 2 7).2
theorem aP5_e : (aP4.act 2 7).1 = 0 := by decide +kernel
def aP6 : PairM := (aP5.deliver 0 false).2
theorem aP6_e : (aP5.deliver 0 false).1.1 = 0 := by decide +kernel
theorem aP4_w : (aP3.deliver 0 false).1.2.work = 9 := by decide +kernel
theorem aP6_c : (seatO aP6 1).h = 7 := by decide +kernel
theorem aP6_x : (seatO aP6 2).h = 7 := by decide +kernel
set_option maxRecDepth 100000 in
set_option maxHeartbeats 2000000 in
theorem alive11_any (C : MovC ads w0 J) (w : World) (hb : Kp w0 w) : Calls Tryd.prog 9 #[] w fun e w' => e = .returned (.bool true) ∧ Kp w w' := by
  have H0 := Lib.hid (at_new C hb (Kp.refl w) 1 (.inl rfl))
  have H1 := Lib.hid (fun g w1 (h : At J w0 w (fun _ : Nat => False) g (PairM.new 1) w1) => (show Calls Tryd.prog 29 #[.pointer (some ⟨g, 0, none⟩), .int .i64 2, .int .i64 3] w1 fun r w' => r = .returned .nilIface ∧ At J w0 w (fun _ : Nat => False) g aP1 w' from (at_do C h 2 3 (by decide) (by decide)).mono (fun r w' q => ⟨by rw [q.1, aP1_e, errI_nil], q.2.1⟩)))
  obtain ⟨y2, hy2⟩ : ∃ y, (aP1.deliver 0 false).1.2 = y := ⟨_, rfl⟩
  have H2 := Lib.hid (fun g w1 (h : At J w0 w (fun _ : Nat => False) g aP1 w1) => (show Calls Tryd.prog 28 #[.pointer (some ⟨g, 0, none⟩), .int .i64 0, .bool false] w1 fun r w' => r = .returned (.tuple #[.agg #[.int .i64 y2.z.p, .int .i64 y2.z.e, .int .i64 y2.z.s, .int .i64 y2.z.h, .int .i64 y2.send, .int .i64 y2.fault, .int .i64 y2.work, .bool y2.changed], .nilIface]) ∧ At J w0 w (fun _ : Nat => False) g aP2 w' from (at_deliver C h 0 false (by decide)).mono (fun r w' q => ⟨by rw [q.1, aP2_e, errI_nil, hy2]; rfl, q.2.1⟩)))
  have H3 := Lib.hid (fun g w1 (h : At J w0 w (fun _ : Nat => False) g aP2 w1) => (show Calls Tryd.prog 29 #[.pointer (some ⟨g, 0, none⟩), .int .i64 1, .int .i64 9] w1 fun r w' => r = .returned .nilIface ∧ At J w0 w (fun _ : Nat => False) g aP3 w' from (at_do C h 1 9 (by decide) (by decide)).mono (fun r w' q => ⟨by rw [q.1, aP3_e, errI_nil], q.2.1⟩)))
  obtain ⟨y4, hy4⟩ : ∃ y, (aP3.deliver 0 false).1.2 = y := ⟨_, rfl⟩
  have wk := aP4_w
  rw [hy4] at wk
  have H4 := Lib.hid (fun g w1 (h : At J w0 w (fun _ : Nat => False) g aP3 w1) => (show Calls Tryd.prog 28 #[.pointer (some ⟨g, 0, none⟩), .int .i64 0, .bool false] w1 fun r w' => r = .returned (.tuple #[.agg #[.int .i64 y4.z.p, .int .i64 y4.z.e, .int .i64 y4.z.s, .int .i64 y4.z.h, .int .i64 y4.send, .int .i64 y4.fault, .int .i64 9, .bool y4.changed], .nilIface]) ∧ At J w0 w (fun _ : Nat => False) g aP4 w' from (at_deliver C h 0 false (by decide)).mono (fun r w' q => ⟨by rw [q.1, aP4_e, errI_nil, hy4, ← wk]; rfl, q.2.1⟩)))
  have H5 := Lib.hid (fun g w1 (h : At J w0 w (fun _ : Nat => False) g aP4 w1) => (show Calls Tryd.prog 29 #[.pointer (some ⟨g, 0, none⟩), .int .i64 2, .int .i64 7] w1 fun r w' => r = .returned .nilIface ∧ At J w0 w (fun _ : Nat => False) g aP5 w' from (at_do C h 2 7 (by decide) (by decide)).mono (fun r w' q => ⟨by rw [q.1, aP5_e, errI_nil], q.2.1⟩)))
  obtain ⟨y6, hy6⟩ : ∃ y, (aP5.deliver 0 false).1.2 = y := ⟨_, rfl⟩
  have H6 := Lib.hid (fun g w1 (h : At J w0 w (fun _ : Nat => False) g aP5 w1) => (show Calls Tryd.prog 28 #[.pointer (some ⟨g, 0, none⟩), .int .i64 0, .bool false] w1 fun r w' => r = .returned (.tuple #[.agg #[.int .i64 y6.z.p, .int .i64 y6.z.e, .int .i64 y6.z.s, .int .i64 y6.z.h, .int .i64 y6.send, .int .i64 y6.fault, .int .i64 y6.work, .bool y6.changed], .nilIface]) ∧ At J w0 w (fun _ : Nat => False) g aP6 w' from (at_deliver C h 0 false (by decide)).mono (fun r w' q => ⟨by rw [q.1, aP6_e, errI_nil, hy6]; rfl, q.2.1⟩)))
  have S1 := Lib.hid (fun g w1 (h : At J w0 w (fun _ : Nat => False) g aP6 w1) => (show Calls Tryd.prog 24 #[.pointer (some ⟨g, 0, none⟩), .int .i64 1] w1 fun r w' => r = .returned (.agg #[.int .i64 (seatO aP6 1).p, .int .i64 (seatO aP6 1).e, .int .i64 (seatO aP6 1).s, .int .i64 7]) ∧ Kp w1 w' from (at_seat C h 1 (by decide)).mono (fun r w' q => ⟨by rw [q.1]; simp only [seatV, aP6_c], q.2⟩)))
  have S2 := Lib.hid (fun g w1 (h : At J w0 w (fun _ : Nat => False) g aP6 w1) => (show Calls Tryd.prog 24 #[.pointer (some ⟨g, 0, none⟩), .int .i64 2] w1 fun r w' => r = .returned (.agg #[.int .i64 (seatO aP6 2).p, .int .i64 (seatO aP6 2).e, .int .i64 (seatO aP6 2).s, .int .i64 7]) ∧ Kp w1 w' from (at_seat C h 2 (by decide)).mono (fun r w' q => ⟨by rw [q.1]; simp only [seatV, aP6_x], q.2⟩)))
  have KK := Lib.hid (fun g m w1 w2 (h : At J w0 w (fun _ : Nat => False) g m w1) (hk : Kp w1 w2) => At.kp C h hk)
  clear C hb hy2 hy4 hy6 wk
  have f3 := fun a b c d w => fS3 a b c d w
  go_enter Tryd.func9, Tryd.ntmps9
  go_wp2_with (first
    | (go_at_call 21; (with_reducible refine H0.out.mono ?_); rintro e w1 ⟨g, rfl, ha, hk⟩; have A0 := Lib.hid ha; clear ha hk)
    | (go_at_call 29; (with_reducible refine (H1.out _ _ A0.out).mono ?_); rintro e w2 ⟨rfl, ha⟩; have A1 := Lib.hid ha; clear ha)
    | (go_at_call 28; (with_reducible refine (H2.out _ _ A1.out).mono ?_); rintro e w3 ⟨rfl, ha⟩; have A2 := Lib.hid (KK.out _ _ _ _ ha (kp_alloc w3 (.cells #[.int .i64 y2.z.p, .int .i64 y2.z.e, .int .i64 y2.z.s, .int .i64 y2.z.h, .int .i64 y2.send, .int .i64 y2.fault, .int .i64 y2.work, .bool y2.changed] 27))); clear ha)
    | (go_at_call 29; (with_reducible refine (H3.out _ _ A2.out).mono ?_); rintro e w4 ⟨rfl, ha⟩; have A3 := Lib.hid ha; clear ha)
    | (go_at_call 28; (with_reducible refine (H4.out _ _ A3.out).mono ?_); rintro e w5 ⟨rfl, ha⟩; have A4 := Lib.hid (KK.out _ _ _ _ ha (kp_alloc w5 (.cells #[.int .i64 y4.z.p, .int .i64 y4.z.e, .int .i64 y4.z.s, .int .i64 y4.z.h, .int .i64 y4.send, .int .i64 y4.fault, .int .i64 9, .bool y4.changed] 27))); have B4 := (MapKept.heap_alloc w5 (.cells #[.int .i64 y4.z.p, .int .i64 y4.z.e, .int .i64 y4.z.s, .int .i64 y4.z.h, .int .i64 y4.send, .int .i64 y4.fault, .int .i64 9, .bool y4.changed] 27)).1; obtain ⟨v0, v1, v2, v3, v4, v5, v6, v7⟩ := cells_8 B4; clear ha)
    | (go_at_call 29; (with_reducible refine (H5.out _ _ A4.out).mono ?_); rintro e w6 ⟨rfl, ha⟩; have A5 := Lib.hid ha; clear ha)
    | (go_at_call 28; (with_reducible refine (H6.out _ _ A5.out).mono ?_); rintro e w7 ⟨rfl, ha⟩; have A6 := Lib.hid (KK.out _ _ _ _ ha (kp_alloc w7 (.cells #[.int .i64 y6.z.p, .int .i64 y6.z.e, .int .i64 y6.z.s, .int .i64 y6.z.h, .int .i64 y6.send, .int .i64 y6.fault, .int .i64 y6.work, .bool y6.changed] 27))); clear ha)
    | (go_at_call 24; (with_reducible refine (S1.out _ _ A6.out).mono ?_); rintro e w8 ⟨rfl, hk⟩; have A7 := Lib.hid (KK.out _ _ _ _ A6.out hk); clear hk)
    | (go_at_call 24; (with_reducible refine (S2.out _ _ A7.out).mono ?_); rintro e w9 ⟨rfl, hk⟩; have A8 := Lib.hid (KK.out _ _ _ _ A7.out hk); clear hk))
  go_ret
  exact ⟨by first | rfl | simp, A8.out.base⟩
end Go.Proofs.YtghjnhdepeiloaaDoor
