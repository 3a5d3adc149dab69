/-
  A CALL AT BOTH NETS (own work): the law's step.
-/
import Derived.Test.YtjffkfcokgcenaaDoorNetE
import Derived.Test.YtjffkfcokgcenaaDoorNumC
import Derived.Laws.StructEq
namespace Go.Proofs.YtjffkfcokgcenaaDoor
open Go.RowKit Go.Shelf Go.ChangeShapes Go.WideShapes

attribute [local go_sem] Oper.semAt_some
variable {ads : List Addr} {J : Nat → NetM → (Nat → Prop) → World → Prop} {w0 B w w' w1 w2 : World} {F F2 G G2 : Nat → Prop} {g q : Nat} {m m2 : NetM}
theorem rlt_fields : Tryd.prog.underlying 47 = some (.struct (Tryd.prog.fieldsOf 47)) := by
  unfold Program.fieldsOf
  rw [Tryd.underlying47]
theorem rlt_eql (a b : Int) (s : ByteArray) (w : World) : (binOp .eql 47 (.agg #[.int .i64 a, .int .i64 b, .string s]) (.agg #[.int .i64 a, .int .i64 b, .string s])).run Tryd.prog w = .ok (.bool true) w := by
  have ha : Tryd.prog.stoodInHeld 47 = false := by kernel_rfl
  rw [run_eql_struct, show (10000 : Nat) = 9999 + 1 from rfl, run_equalIn_agg w 9999 47 _ _ rlt_fields ha]
  simp [Program.fieldsOf, Tryd.underlying47, Op.eqFields, part, go_sem, Tryd.underlying3, Tryd.underlying9]
theorem rlt_neq (a b : Int) (s : ByteArray) (w : World) : (binOp .neq 47 (.agg #[.int .i64 a, .int .i64 b, .string s]) (.agg #[.int .i64 a, .int .i64 b, .string s])).run Tryd.prog w = .ok (.bool false) w := by
  have ha : Tryd.prog.stoodInHeld 47 = false := by kernel_rfl
  rw [run_neq_struct, show (10000 : Nat) = 9999 + 1 from rfl, run_equalIn_agg w 9999 47 _ _ rlt_fields ha]
  simp [Program.fieldsOf, Tryd.underlying47, Op.eqFields, part, go_sem, Tryd.underlying3, Tryd.underlying9]
theorem rlt_guard (op : BinOp) (x y : Operand) (a b a' b' : Int) (s s' : ByteArray) (w : World) : (eqGuard op 47 x y (.agg #[.int .i64 a, .int .i64 b, .string s]) (.agg #[.int .i64 a', .int .i64 b', .string s'])).run Tryd.prog w = .ok () w := run_eqGuard_agg w op 47 x y _ _ (by kernel_rfl)
set_option maxRecDepth 100000 in
set_option maxHeartbeats 2000000 in
theorem stepP_3 (C : NetC ads w0 J) (V : St ads w0) (h : Bt J w0 g q G m m w) (i a b : Int) (c : Bool) (ao : Option Addr) (n cp : Nat) : Calls Tryd.prog 12 #[.pointer (some ⟨g, 0, none⟩), .pointer (some ⟨q, 0, none⟩), .agg #[.int .i64 3, .int .i64 i, .int .i64 a, .int .i64 b, .bool c, .slice ao n cp]] w fun r w' => r = .returned (.bool true) ∧ Bt J w0 g q G (m.copy i).2 (m.copy i).2 w' ∧ (∀ b, G b → w'.heap[b]? = w.heap[b]?) := by
  have k1 := kp_alloc w (.cells #[.int .i64 3, .int .i64 i, .int .i64 a, .int .i64 b, .bool c, .slice ao n cp] 35)
  have r1 := (MapKept.heap_alloc w (.cells #[.int .i64 3, .int .i64 i, .int .i64 a, .int .i64 b, .bool c, .slice ao n cp] 35)).1
  have b1 := h.more C (.cells #[.int .i64 3, .int .i64 i, .int .i64 a, .int .i64 b, .bool c, .slice ao n cp] 35)
  have HPK := Lib.hid h.nok
  have HCC := Lib.hid C
  have HG := Lib.hid (fun b (hb : G b) => (h.in b hb).2)
  have kx : Kp w (w.alloc (.cells #[.int .i64 3, .int .i64 i, .int .i64 a, .int .i64 b, .bool c, .slice ao n cp] 35)).drew := kp_drewR k1
  obtain ⟨X, hX⟩ : ∃ X, (w.alloc (.cells #[.int .i64 3, .int .i64 i, .int .i64 a, .int .i64 b, .bool c, .slice ao n cp] 35)).drew = X := ⟨_, rfl⟩
  have bx := b1.kp C (kp_drewR (Kp.refl _))
  have tx := kp_row (kp_drewR (Kp.refl _)) r1
  rw [hX] at kx bx tx
  have TX := Lib.hid tx
  have FX := Lib.hid (fun b (hb : G b) => Below.block kx b (HG.out b hb))
  have HT1 := Lib.hid r1
  have HXW := Lib.hid hX
  have hd := bt_copy C bx i
  have hr := fun w1 m3 (H1 : Bt J w0 g q (fun b => G b ∨ b = w.heap.size) m3 m w1) => br_copy HCC.out H1 i
  have hb := copy_num m i
  obtain ⟨⟨n1, m'⟩, hy⟩ : ∃ y, m.copy i = y := ⟨_, rfl⟩
  rw [hy] at hd hb ⊢
  simp only [hy] at hr
  dsimp only at hd hr hb ⊢
  have hn := fun w1 (hk : Kp w0 w1) => num_errN ads w1 (V.below hk) n1 hb.1 hb.2
  obtain ⟨d1, hd1⟩ : ∃ d, errI ads n1 = d := ⟨_, rfl⟩
  rw [hd1] at hn hd
  have HN := Lib.hid hn
  have HD := Lib.hid hd
  have HR := Lib.hid (fun w1 (H1 : Bt J w0 g q (fun b => G b ∨ b = w.heap.size) m' m w1) => hr w1 m' H1)
  have x0 := cell_row (i := 0) r1 rfl; have x1 := cell_row (i := 1) r1 rfl; have x2 := cell_row (i := 2) r1 rfl; have x3 := cell_row (i := 3) r1 rfl; have x4 := cell_row (i := 4) r1 rfl; have x5 := cell_row (i := 5) r1 rfl
  clear k1 kx b1 bx tx hX hd hr hy h C V r1 hb hn hd1
  go_enter Tryd.func12, Tryd.ntmps12
  go_wp2_with fail
  refine wp_region_held_drew (S := fun w' => w'.heap[w.heap.size]? = some (.cells #[.int .i64 3, .int .i64 i, .int .i64 a, .int .i64 b, .bool c, .slice ao n cp] 35)) (by kernel_rfl) ?_ (fun hHeld => ?_)
  · exact kp_row (kp_drewR (Kp.refl _)) HT1.out
  rw [HXW.out]
  refine wpAnyH_take (i := 0) (v := ?_) rfl (by kernel_rfl) (by kernel_rfl) (by kernel_rfl) (fun _ _ _ h => h) (Or.inl ⟨by rfl, ?_⟩) (by assumption) ?_
  rotate_left
  · intro w hSw; have q0 := cell_row (i := 0) hSw rfl; have q1 := cell_row (i := 1) hSw rfl; have q2 := cell_row (i := 2) hSw rfl; have q3 := cell_row (i := 3) hSw rfl; have q4 := cell_row (i := 4) hSw rfl; have q5 := cell_row (i := 5) hSw rfl; go_simp; try with_reducible rfl
  go_simp
  refine wpAnyH_take (i := 1) (v := ?_) rfl (by kernel_rfl) (by kernel_rfl) (by kernel_rfl) (fun _ _ _ h => h) (Or.inl ⟨by rfl, ?_⟩) (by assumption) ?_
  rotate_left
  · intro w hSw; have q0 := cell_row (i := 0) hSw rfl; have q1 := cell_row (i := 1) hSw rfl; have q2 := cell_row (i := 2) hSw rfl; have q3 := cell_row (i := 3) hSw rfl; have q4 := cell_row (i := 4) hSw rfl; have q5 := cell_row (i := 5) hSw rfl; go_simp; try with_reducible rfl
  go_simp
  refine wpAnyH_take (i := 2) (v := ?_) rfl (by kernel_rfl) (by kernel_rfl) (by kernel_rfl) (fun _ _ _ h => h) (Or.inl ⟨by rfl, ?_⟩) (by assumption) ?_
  rotate_left
  · intro w hSw; have q0 := cell_row (i := 0) hSw rfl; have q1 := cell_row (i := 1) hSw rfl; have q2 := cell_row (i := 2) hSw rfl; have q3 := cell_row (i := 3) hSw rfl; have q4 := cell_row (i := 4) hSw rfl; have q5 := cell_row (i := 5) hSw rfl; go_simp; try with_reducible rfl
  go_simp
  refine wpAnyH_take (i := 5) (v := ?_) rfl (by kernel_rfl) (by kernel_rfl) (by kernel_rfl) (fun _ _ _ h => h) (Or.inl ⟨by rfl, ?_⟩) (by assumption) ?_
  rotate_left
  · intro w hSw; have q0 := cell_row (i := 0) hSw rfl; have q1 := cell_row (i := 1) hSw rfl; have q2 := cell_row (i := 2) hSw rfl; have q3 := cell_row (i := 3) hSw rfl; have q4 := cell_row (i := 4) hSw rfl; have q5 := cell_row (i := 5) hSw rfl; go_simp; try with_reducible rfl
  go_simp
  refine wpAnyH_take (i := 6) (v := ?_) rfl (by kernel_rfl) (by kernel_rfl) (by kernel_rfl) (fun _ _ _ h => h) (Or.inl ⟨by rfl, ?_⟩) (by assumption) ?_
  rotate_left
  · intro w hSw; have q0 := cell_row (i := 0) hSw rfl; have q1 := cell_row (i := 1) hSw rfl; have q2 := cell_row (i := 2) hSw rfl; have q3 := cell_row (i := 3) hSw rfl; have q4 := cell_row (i := 4) hSw rfl; have q5 := cell_row (i := 5) hSw rfl; go_simp; try with_reducible rfl
  go_simp
  refine wpAnyH_take (i := 7) (v := ?_) rfl (by kernel_rfl) (by kernel_rfl) (by kernel_rfl) (fun _ _ _ h => h) (Or.inl ⟨by rfl, ?_⟩) (by assumption) ?_
  rotate_left
  · intro w hSw; have q0 := cell_row (i := 0) hSw rfl; have q1 := cell_row (i := 1) hSw rfl; have q2 := cell_row (i := 2) hSw rfl; have q3 := cell_row (i := 3) hSw rfl; have q4 := cell_row (i := 4) hSw rfl; have q5 := cell_row (i := 5) hSw rfl; go_simp; try with_reducible rfl
  go_simp
  refine wpAnyH_ready (rs := [3]) (by kernel_rfl) (by simp) ?_
  refine AllReadyH.cons rfl (fun K hK => ?_) AllReadyH.nil
  go_simp
  go_wp2_with (go_at_call 21; (with_reducible refine HD.out.mono ?_); rintro e' w4 ⟨rfl, hb4, hf⟩; have B4 := Lib.hid hb4; have T4 := Lib.hid ((hf _ (.inr rfl)).trans TX.out); have F4 := Lib.hid (fun b (hb : G b) => (hf b (.inl hb)).trans (FX.out b hb)); clear hb4 hf)
  refine hK.out _ _ ?_ (fun hHeld => ?_)
  · exact T4.out
  clear hK K
  refine wpAnyH_ready (rs := [4]) (by kernel_rfl) (by simp) ?_
  refine AllReadyH.cons rfl (fun K hK => ?_) AllReadyH.nil
  go_simp
  go_wp2_with (go_at_call 10; (with_reducible refine (HN.out _ B4.out.base).mono ?_); rintro e' w5 ⟨rfl, hk⟩; have B5 := Lib.hid (B4.out.kp HCC.out hk); have T5 := Lib.hid (kp_row hk T4.out); have F5 := Lib.hid (fun b (hb : G b) => (Below.block hk b (B4.out.in b (.inl hb)).2).trans (F4.out b hb)); clear hk)
  refine hK.out _ _ ?_ (fun hHeld => ?_)
  · exact T5.out
  clear hK K
  refine wpAnyH_ready (rs := [8]) (by kernel_rfl) (by simp) ?_
  refine AllReadyH.cons rfl (fun K hK => ?_) AllReadyH.nil
  go_simp
  go_wp2_with (go_at_call 27; (with_reducible refine (HR.out _ B5.out).mono ?_); rintro e' w6 ⟨rfl, hb6, hf⟩; have B6 := Lib.hid hb6; have T6 := Lib.hid ((hf _ (.inr rfl)).trans T5.out); have F6 := Lib.hid (fun b (hb : G b) => (hf b (.inl hb)).trans (F5.out b hb)); clear hb6 hf)
  refine hK.out _ _ ?_ (fun hHeld => ?_)
  · exact T6.out
  clear hK K
  refine wpAnyH_take (i := 9) (v := ?_) rfl (by kernel_rfl) (by kernel_rfl) (by kernel_rfl) (fun _ _ _ h => h) (Or.inl ⟨by rfl, ?_⟩) (by assumption) ?_
  rotate_left
  · intro w hSw; go_simp; try with_reducible rfl
  go_simp
  refine wpAnyH_take (i := 10) (v := ?_) rfl (by kernel_rfl) (by kernel_rfl) (by kernel_rfl) (fun _ _ _ h => h) (Or.inl ⟨by rfl, ?_⟩) (by assumption) ?_
  rotate_left
  · intro w hSw; go_simp; try with_reducible rfl
  go_simp
  refine wpAnyH_done (by kernel_rfl) ?_ _
  go_wp2
  go_ret
  exact ⟨by first | rfl | simp | (congr 1; simp), B6.out.less fun b hb => .inl hb, F6.out⟩
set_option maxRecDepth 100000 in
set_option maxHeartbeats 2000000 in
theorem stepP_4 (C : NetC ads w0 J) (V : St ads w0) (h : Bt J w0 g q G m m w) (i a b : Int) (c : Bool) (ao : Option Addr) (n cp : Nat) : Calls Tryd.prog 12 #[.pointer (some ⟨g, 0, none⟩), .pointer (some ⟨q, 0, none⟩), .agg #[.int .i64 4, .int .i64 i, .int .i64 a, .int .i64 b, .bool c, .slice ao n cp]] w fun r w' => r = .returned (.bool true) ∧ Bt J w0 g q G (m.move i b).2 (m.move i b).2 w' ∧ (∀ b, G b → w'.heap[b]? = w.heap[b]?) := by
  have k1 := kp_alloc w (.cells #[.int .i64 4, .int .i64 i, .int .i64 a, .int .i64 b, .bool c, .slice ao n cp] 35)
  have r1 := (MapKept.heap_alloc w (.cells #[.int .i64 4, .int .i64 i, .int .i64 a, .int .i64 b, .bool c, .slice ao n cp] 35)).1
  have b1 := h.more C (.cells #[.int .i64 4, .int .i64 i, .int .i64 a, .int .i64 b, .bool c, .slice ao n cp] 35)
  have HPK := Lib.hid h.nok
  have HCC := Lib.hid C
  have HG := Lib.hid (fun b (hb : G b) => (h.in b hb).2)
  have kx : Kp w (w.alloc (.cells #[.int .i64 4, .int .i64 i, .int .i64 a, .int .i64 b, .bool c, .slice ao n cp] 35)).drew := kp_drewR k1
  obtain ⟨X, hX⟩ : ∃ X, (w.alloc (.cells #[.int .i64 4, .int .i64 i, .int .i64 a, .int .i64 b, .bool c, .slice ao n cp] 35)).drew = X := ⟨_, rfl⟩
  have bx := b1.kp C (kp_drewR (Kp.refl _))
  have tx := kp_row (kp_drewR (Kp.refl _)) r1
  rw [hX] at kx bx tx
  have TX := Lib.hid tx
  have FX := Lib.hid (fun b (hb : G b) => Below.block kx b (HG.out b hb))
  have HT1 := Lib.hid r1
  have HXW := Lib.hid hX
  have hd := bt_move C bx i b
  have hr := fun w1 m3 (H1 : Bt J w0 g q (fun b => G b ∨ b = w.heap.size) m3 m w1) => br_move HCC.out H1 HPK.out i b
  have hb := move_num m i b
  obtain ⟨⟨n1, m'⟩, hy⟩ : ∃ y, m.move i b = y := ⟨_, rfl⟩
  rw [hy] at hd hb ⊢
  simp only [hy] at hr
  dsimp only at hd hr hb ⊢
  have hn := fun w1 (hk : Kp w0 w1) => num_errN ads w1 (V.below hk) n1 hb.1 hb.2
  obtain ⟨d1, hd1⟩ : ∃ d, errI ads n1 = d := ⟨_, rfl⟩
  rw [hd1] at hn hd
  have HN := Lib.hid hn
  have HD := Lib.hid hd
  have HR := Lib.hid (fun w1 (H1 : Bt J w0 g q (fun b => G b ∨ b = w.heap.size) m' m w1) => hr w1 m' H1)
  have x0 := cell_row (i := 0) r1 rfl; have x1 := cell_row (i := 1) r1 rfl; have x2 := cell_row (i := 2) r1 rfl; have x3 := cell_row (i := 3) r1 rfl; have x4 := cell_row (i := 4) r1 rfl; have x5 := cell_row (i := 5) r1 rfl
  clear k1 kx b1 bx tx hX hd hr hy h C V r1 hb hn hd1
  go_enter Tryd.func12, Tryd.ntmps12
  go_wp2_with fail
  refine wp_region_held_drew (S := fun w' => w'.heap[w.heap.size]? = some (.cells #[.int .i64 4, .int .i64 i, .int .i64 a, .int .i64 b, .bool c, .slice ao n cp] 35)) (by kernel_rfl) ?_ (fun hHeld => ?_)
  · exact kp_row (kp_drewR (Kp.refl _)) HT1.out
  rw [HXW.out]
  refine wpAnyH_take (i := 0) (v := ?_) rfl (by kernel_rfl) (by kernel_rfl) (by kernel_rfl) (fun _ _ _ h => h) (Or.inl ⟨by rfl, ?_⟩) (by assumption) ?_
  rotate_left
  · intro w hSw; have q0 := cell_row (i := 0) hSw rfl; have q1 := cell_row (i := 1) hSw rfl; have q2 := cell_row (i := 2) hSw rfl; have q3 := cell_row (i := 3) hSw rfl; have q4 := cell_row (i := 4) hSw rfl; have q5 := cell_row (i := 5) hSw rfl; go_simp; try with_reducible rfl
  go_simp
  refine wpAnyH_take (i := 1) (v := ?_) rfl (by kernel_rfl) (by kernel_rfl) (by kernel_rfl) (fun _ _ _ h => h) (Or.inl ⟨by rfl, ?_⟩) (by assumption) ?_
  rotate_left
  · intro w hSw; have q0 := cell_row (i := 0) hSw rfl; have q1 := cell_row (i := 1) hSw rfl; have q2 := cell_row (i := 2) hSw rfl; have q3 := cell_row (i := 3) hSw rfl; have q4 := cell_row (i := 4) hSw rfl; have q5 := cell_row (i := 5) hSw rfl; go_simp; try with_reducible rfl
  go_simp
  refine wpAnyH_take (i := 2) (v := ?_) rfl (by kernel_rfl) (by kernel_rfl) (by kernel_rfl) (fun _ _ _ h => h) (Or.inl ⟨by rfl, ?_⟩) (by assumption) ?_
  rotate_left
  · intro w hSw; have q0 := cell_row (i := 0) hSw rfl; have q1 := cell_row (i := 1) hSw rfl; have q2 := cell_row (i := 2) hSw rfl; have q3 := cell_row (i := 3) hSw rfl; have q4 := cell_row (i := 4) hSw rfl; have q5 := cell_row (i := 5) hSw rfl; go_simp; try with_reducible rfl
  go_simp
  refine wpAnyH_take (i := 3) (v := ?_) rfl (by kernel_rfl) (by kernel_rfl) (by kernel_rfl) (fun _ _ _ h => h) (Or.inl ⟨by rfl, ?_⟩) (by assumption) ?_
  rotate_left
  · intro w hSw; have q0 := cell_row (i := 0) hSw rfl; have q1 := cell_row (i := 1) hSw rfl; have q2 := cell_row (i := 2) hSw rfl; have q3 := cell_row (i := 3) hSw rfl; have q4 := cell_row (i := 4) hSw rfl; have q5 := cell_row (i := 5) hSw rfl; go_simp; try with_reducible rfl
  go_simp
  refine wpAnyH_take (i := 4) (v := ?_) rfl (by kernel_rfl) (by kernel_rfl) (by kernel_rfl) (fun _ _ _ h => h) (Or.inl ⟨by rfl, ?_⟩) (by assumption) ?_
  rotate_left
  · intro w hSw; have q0 := cell_row (i := 0) hSw rfl; have q1 := cell_row (i := 1) hSw rfl; have q2 := cell_row (i := 2) hSw rfl; have q3 := cell_row (i := 3) hSw rfl; have q4 := cell_row (i := 4) hSw rfl; have q5 := cell_row (i := 5) hSw rfl; go_simp; try with_reducible rfl
  go_simp
  refine wpAnyH_take (i := 7) (v := ?_) rfl (by kernel_rfl) (by kernel_rfl) (by kernel_rfl) (fun _ _ _ h => h) (Or.inl ⟨by rfl, ?_⟩) (by assumption) ?_
  rotate_left
  · intro w hSw; have q0 := cell_row (i := 0) hSw rfl; have q1 := cell_row (i := 1) hSw rfl; have q2 := cell_row (i := 2) hSw rfl; have q3 := cell_row (i := 3) hSw rfl; have q4 := cell_row (i := 4) hSw rfl; have q5 := cell_row (i := 5) hSw rfl; go_simp; try with_reducible rfl
  go_simp
  refine wpAnyH_take (i := 8) (v := ?_) rfl (by kernel_rfl) (by kernel_rfl) (by kernel_rfl) (fun _ _ _ h => h) (Or.inl ⟨by rfl, ?_⟩) (by assumption) ?_
  rotate_left
  · intro w hSw; have q0 := cell_row (i := 0) hSw rfl; have q1 := cell_row (i := 1) hSw rfl; have q2 := cell_row (i := 2) hSw rfl; have q3 := cell_row (i := 3) hSw rfl; have q4 := cell_row (i := 4) hSw rfl; have q5 := cell_row (i := 5) hSw rfl; go_simp; try with_reducible rfl
  go_simp
  refine wpAnyH_take (i := 9) (v := ?_) rfl (by kernel_rfl) (by kernel_rfl) (by kernel_rfl) (fun _ _ _ h => h) (Or.inl ⟨by rfl, ?_⟩) (by assumption) ?_
  rotate_left
  · intro w hSw; have q0 := cell_row (i := 0) hSw rfl; have q1 := cell_row (i := 1) hSw rfl; have q2 := cell_row (i := 2) hSw rfl; have q3 := cell_row (i := 3) hSw rfl; have q4 := cell_row (i := 4) hSw rfl; have q5 := cell_row (i := 5) hSw rfl; go_simp; try with_reducible rfl
  go_simp
  refine wpAnyH_take (i := 10) (v := ?_) rfl (by kernel_rfl) (by kernel_rfl) (by kernel_rfl) (fun _ _ _ h => h) (Or.inl ⟨by rfl, ?_⟩) (by assumption) ?_
  rotate_left
  · intro w hSw; have q0 := cell_row (i := 0) hSw rfl; have q1 := cell_row (i := 1) hSw rfl; have q2 := cell_row (i := 2) hSw rfl; have q3 := cell_row (i := 3) hSw rfl; have q4 := cell_row (i := 4) hSw rfl; have q5 := cell_row (i := 5) hSw rfl; go_simp; try with_reducible rfl
  go_simp
  refine wpAnyH_take (i := 11) (v := ?_) rfl (by kernel_rfl) (by kernel_rfl) (by kernel_rfl) (fun _ _ _ h => h) (Or.inl ⟨by rfl, ?_⟩) (by assumption) ?_
  rotate_left
  · intro w hSw; have q0 := cell_row (i := 0) hSw rfl; have q1 := cell_row (i := 1) hSw rfl; have q2 := cell_row (i := 2) hSw rfl; have q3 := cell_row (i := 3) hSw rfl; have q4 := cell_row (i := 4) hSw rfl; have q5 := cell_row (i := 5) hSw rfl; go_simp; try with_reducible rfl
  go_simp
  refine wpAnyH_ready (rs := [5]) (by kernel_rfl) (by simp) ?_
  refine AllReadyH.cons rfl (fun K hK => ?_) AllReadyH.nil
  go_simp
  go_wp2_with (go_at_call 22; (with_reducible refine HD.out.mono ?_); rintro e' w4 ⟨rfl, hb4, hf⟩; have B4 := Lib.hid hb4; have T4 := Lib.hid ((hf _ (.inr rfl)).trans TX.out); have F4 := Lib.hid (fun b (hb : G b) => (hf b (.inl hb)).trans (FX.out b hb)); clear hb4 hf)
  refine hK.out _ _ ?_ (fun hHeld => ?_)
  · exact T4.out
  clear hK K
  refine wpAnyH_ready (rs := [6]) (by kernel_rfl) (by simp) ?_
  refine AllReadyH.cons rfl (fun K hK => ?_) AllReadyH.nil
  go_simp
  go_wp2_with (go_at_call 10; (with_reducible refine (HN.out _ B4.out.base).mono ?_); rintro e' w5 ⟨rfl, hk⟩; have B5 := Lib.hid (B4.out.kp HCC.out hk); have T5 := Lib.hid (kp_row hk T4.out); have F5 := Lib.hid (fun b (hb : G b) => (Below.block hk b (B4.out.in b (.inl hb)).2).trans (F4.out b hb)); clear hk)
  refine hK.out _ _ ?_ (fun hHeld => ?_)
  · exact T5.out
  clear hK K
  refine wpAnyH_ready (rs := [12]) (by kernel_rfl) (by simp) ?_
  refine AllReadyH.cons rfl (fun K hK => ?_) AllReadyH.nil
  go_simp
  go_wp2_with (go_at_call 28; (with_reducible refine (HR.out _ B5.out).mono ?_); rintro e' w6 ⟨rfl, hb6, hf⟩; have B6 := Lib.hid hb6; have T6 := Lib.hid ((hf _ (.inr rfl)).trans T5.out); have F6 := Lib.hid (fun b (hb : G b) => (hf b (.inl hb)).trans (F5.out b hb)); clear hb6 hf)
  refine hK.out _ _ ?_ (fun hHeld => ?_)
  · exact T6.out
  clear hK K
  refine wpAnyH_take (i := 13) (v := ?_) rfl (by kernel_rfl) (by kernel_rfl) (by kernel_rfl) (fun _ _ _ h => h) (Or.inl ⟨by rfl, ?_⟩) (by assumption) ?_
  rotate_left
  · intro w hSw; go_simp; try with_reducible rfl
  go_simp
  refine wpAnyH_take (i := 14) (v := ?_) rfl (by kernel_rfl) (by kernel_rfl) (by kernel_rfl) (fun _ _ _ h => h) (Or.inl ⟨by rfl, ?_⟩) (by assumption) ?_
  rotate_left
  · intro w hSw; go_simp; try with_reducible rfl
  go_simp
  refine wpAnyH_done (by kernel_rfl) ?_ _
  go_wp2
  go_ret
  exact ⟨by first | rfl | simp | (congr 1; simp), B6.out.less fun b hb => .inl hb, F6.out⟩
set_option maxRecDepth 100000 in
set_option maxHeartbeats 2000000 in
theorem stepP_5 (C : NetC ads w0 J) (V : St ads w0) (h : Bt J w0 g q G m m w) (i a b : Int) (c : Bool) (ao : Option Addr) (n cp : Nat) : Calls Tryd.prog 12 #[.pointer (some ⟨g, 0, none⟩), .pointer (some ⟨q, 0, none⟩), .agg #[.int .i64 5, .int .i64 i, .int .i64 a, .int .i64 b, .bool c, .slice ao n cp]] w fun r w' => r = .returned (.bool true) ∧ Bt J w0 g q G (m.cutW a b c).2 (m.cutW a b c).2 w' ∧ (∀ b, G b → w'.heap[b]? = w.heap[b]?) := by
  have k1 := kp_alloc w (.cells #[.int .i64 5, .int .i64 i, .int .i64 a, .int .i64 b, .bool c, .slice ao n cp] 35)
  have r1 := (MapKept.heap_alloc w (.cells #[.int .i64 5, .int .i64 i, .int .i64 a, .int .i64 b, .bool c, .slice ao n cp] 35)).1
  have b1 := h.more C (.cells #[.int .i64 5, .int .i64 i, .int .i64 a, .int .i64 b, .bool c, .slice ao n cp] 35)
  have HPK := Lib.hid h.nok
  have HCC := Lib.hid C
  have HG := Lib.hid (fun b (hb : G b) => (h.in b hb).2)
  have kx : Kp w (w.alloc (.cells #[.int .i64 5, .int .i64 i, .int .i64 a, .int .i64 b, .bool c, .slice ao n cp] 35)).drew := kp_drewR k1
  obtain ⟨X, hX⟩ : ∃ X, (w.alloc (.cells #[.int .i64 5, .int .i64 i, .int .i64 a, .int .i64 b, .bool c, .slice ao n cp] 35)).drew = X := ⟨_, rfl⟩
  have bx := b1.kp C (kp_drewR (Kp.refl _))
  have tx := kp_row (kp_drewR (Kp.refl _)) r1
  rw [hX] at kx bx tx
  have TX := Lib.hid tx
  have FX := Lib.hid (fun b (hb : G b) => Below.block kx b (HG.out b hb))
  have HT1 := Lib.hid r1
  have HXW := Lib.hid hX
  have hd := bt_cutW C bx a b c
  have hr := fun w1 m3 (H1 : Bt J w0 g q (fun b => G b ∨ b = w.heap.size) m3 m w1) => br_cutW HCC.out H1 HPK.out a b c
  have hb := cutW_num m a b c
  obtain ⟨⟨n1, m'⟩, hy⟩ : ∃ y, m.cutW a b c = y := ⟨_, rfl⟩
  rw [hy] at hd hb ⊢
  simp only [hy] at hr
  dsimp only at hd hr hb ⊢
  have hn := fun w1 (hk : Kp w0 w1) => num_errN ads w1 (V.below hk) n1 hb.1 hb.2
  obtain ⟨d1, hd1⟩ : ∃ d, errI ads n1 = d := ⟨_, rfl⟩
  rw [hd1] at hn hd
  have HN := Lib.hid hn
  have HD := Lib.hid hd
  have HR := Lib.hid (fun w1 (H1 : Bt J w0 g q (fun b => G b ∨ b = w.heap.size) m' m w1) => hr w1 m' H1)
  have x0 := cell_row (i := 0) r1 rfl; have x1 := cell_row (i := 1) r1 rfl; have x2 := cell_row (i := 2) r1 rfl; have x3 := cell_row (i := 3) r1 rfl; have x4 := cell_row (i := 4) r1 rfl; have x5 := cell_row (i := 5) r1 rfl
  clear k1 kx b1 bx tx hX hd hr hy h C V r1 hb hn hd1
  go_enter Tryd.func12, Tryd.ntmps12
  go_wp2_with fail
  refine wp_region_held_drew (S := fun w' => w'.heap[w.heap.size]? = some (.cells #[.int .i64 5, .int .i64 i, .int .i64 a, .int .i64 b, .bool c, .slice ao n cp] 35)) (by kernel_rfl) ?_ (fun hHeld => ?_)
  · exact kp_row (kp_drewR (Kp.refl _)) HT1.out
  rw [HXW.out]
  refine wpAnyH_take (i := 0) (v := ?_) rfl (by kernel_rfl) (by kernel_rfl) (by kernel_rfl) (fun _ _ _ h => h) (Or.inl ⟨by rfl, ?_⟩) (by assumption) ?_
  rotate_left
  · intro w hSw; have q0 := cell_row (i := 0) hSw rfl; have q1 := cell_row (i := 1) hSw rfl; have q2 := cell_row (i := 2) hSw rfl; have q3 := cell_row (i := 3) hSw rfl; have q4 := cell_row (i := 4) hSw rfl; have q5 := cell_row (i := 5) hSw rfl; go_simp; try with_reducible rfl
  go_simp
  refine wpAnyH_take (i := 1) (v := ?_) rfl (by kernel_rfl) (by kernel_rfl) (by kernel_rfl) (fun _ _ _ h => h) (Or.inl ⟨by rfl, ?_⟩) (by assumption) ?_
  rotate_left
  · intro w hSw; have q0 := cell_row (i := 0) hSw rfl; have q1 := cell_row (i := 1) hSw rfl; have q2 := cell_row (i := 2) hSw rfl; have q3 := cell_row (i := 3) hSw rfl; have q4 := cell_row (i := 4) hSw rfl; have q5 := cell_row (i := 5) hSw rfl; go_simp; try with_reducible rfl
  go_simp
  refine wpAnyH_take (i := 2) (v := ?_) rfl (by kernel_rfl) (by kernel_rfl) (by kernel_rfl) (fun _ _ _ h => h) (Or.inl ⟨by rfl, ?_⟩) (by assumption) ?_
  rotate_left
  · intro w hSw; have q0 := cell_row (i := 0) hSw rfl; have q1 := cell_row (i := 1) hSw rfl; have q2 := cell_row (i := 2) hSw rfl; have q3 := cell_row (i := 3) hSw rfl; have q4 := cell_row (i := 4) hSw rfl; have q5 := cell_row (i := 5) hSw rfl; go_simp; try with_reducible rfl
  go_simp
  refine wpAnyH_take (i := 3) (v := ?_) rfl (by kernel_rfl) (by kernel_rfl) (by kernel_rfl) (fun _ _ _ h => h) (Or.inl ⟨by rfl, ?_⟩) (by assumption) ?_
  rotate_left
  · intro w hSw; have q0 := cell_row (i := 0) hSw rfl; have q1 := cell_row (i := 1) hSw rfl; have q2 := cell_row (i := 2) hSw rfl; have q3 := cell_row (i := 3) hSw rfl; have q4 := cell_row (i := 4) hSw rfl; have q5 := cell_row (i := 5) hSw rfl; go_simp; try with_reducible rfl
  go_simp
  refine wpAnyH_take (i := 4) (v := ?_) rfl (by kernel_rfl) (by kernel_rfl) (by kernel_rfl) (fun _ _ _ h => h) (Or.inl ⟨by rfl, ?_⟩) (by assumption) ?_
  rotate_left
  · intro w hSw; have q0 := cell_row (i := 0) hSw rfl; have q1 := cell_row (i := 1) hSw rfl; have q2 := cell_row (i := 2) hSw rfl; have q3 := cell_row (i := 3) hSw rfl; have q4 := cell_row (i := 4) hSw rfl; have q5 := cell_row (i := 5) hSw rfl; go_simp; try with_reducible rfl
  go_simp
  refine wpAnyH_take (i := 5) (v := ?_) rfl (by kernel_rfl) (by kernel_rfl) (by kernel_rfl) (fun _ _ _ h => h) (Or.inl ⟨by rfl, ?_⟩) (by assumption) ?_
  rotate_left
  · intro w hSw; have q0 := cell_row (i := 0) hSw rfl; have q1 := cell_row (i := 1) hSw rfl; have q2 := cell_row (i := 2) hSw rfl; have q3 := cell_row (i := 3) hSw rfl; have q4 := cell_row (i := 4) hSw rfl; have q5 := cell_row (i := 5) hSw rfl; go_simp; try with_reducible rfl
  go_simp
  refine wpAnyH_take (i := 6) (v := ?_) rfl (by kernel_rfl) (by kernel_rfl) (by kernel_rfl) (fun _ _ _ h => h) (Or.inl ⟨by rfl, ?_⟩) (by assumption) ?_
  rotate_left
  · intro w hSw; have q0 := cell_row (i := 0) hSw rfl; have q1 := cell_row (i := 1) hSw rfl; have q2 := cell_row (i := 2) hSw rfl; have q3 := cell_row (i := 3) hSw rfl; have q4 := cell_row (i := 4) hSw rfl; have q5 := cell_row (i := 5) hSw rfl; go_simp; try with_reducible rfl
  go_simp
  refine wpAnyH_take (i := 9) (v := ?_) rfl (by kernel_rfl) (by kernel_rfl) (by kernel_rfl) (fun _ _ _ h => h) (Or.inl ⟨by rfl, ?_⟩) (by assumption) ?_
  rotate_left
  · intro w hSw; have q0 := cell_row (i := 0) hSw rfl; have q1 := cell_row (i := 1) hSw rfl; have q2 := cell_row (i := 2) hSw rfl; have q3 := cell_row (i := 3) hSw rfl; have q4 := cell_row (i := 4) hSw rfl; have q5 := cell_row (i := 5) hSw rfl; go_simp; try with_reducible rfl
  go_simp
  refine wpAnyH_take (i := 10) (v := ?_) rfl (by kernel_rfl) (by kernel_rfl) (by kernel_rfl) (fun _ _ _ h => h) (Or.inl ⟨by rfl, ?_⟩) (by assumption) ?_
  rotate_left
  · intro w hSw; have q0 := cell_row (i := 0) hSw rfl; have q1 := cell_row (i := 1) hSw rfl; have q2 := cell_row (i := 2) hSw rfl; have q3 := cell_row (i := 3) hSw rfl; have q4 := cell_row (i := 4) hSw rfl; have q5 := cell_row (i := 5) hSw rfl; go_simp; try with_reducible rfl
  go_simp
  refine wpAnyH_take (i := 11) (v := ?_) rfl (by kernel_rfl) (by kernel_rfl) (by kernel_rfl) (fun _ _ _ h => h) (Or.inl ⟨by rfl, ?_⟩) (by assumption) ?_
  rotate_left
  · intro w hSw; have q0 := cell_row (i := 0) hSw rfl; have q1 := cell_row (i := 1) hSw rfl; have q2 := cell_row (i := 2) hSw rfl; have q3 := cell_row (i := 3) hSw rfl; have q4 := cell_row (i := 4) hSw rfl; have q5 := cell_row (i := 5) hSw rfl; go_simp; try with_reducible rfl
  go_simp
  refine wpAnyH_take (i := 12) (v := ?_) rfl (by kernel_rfl) (by kernel_rfl) (by kernel_rfl) (fun _ _ _ h => h) (Or.inl ⟨by rfl, ?_⟩) (by assumption) ?_
  rotate_left
  · intro w hSw; have q0 := cell_row (i := 0) hSw rfl; have q1 := cell_row (i := 1) hSw rfl; have q2 := cell_row (i := 2) hSw rfl; have q3 := cell_row (i := 3) hSw rfl; have q4 := cell_row (i := 4) hSw rfl; have q5 := cell_row (i := 5) hSw rfl; go_simp; try with_reducible rfl
  go_simp
  refine wpAnyH_take (i := 13) (v := ?_) rfl (by kernel_rfl) (by kernel_rfl) (by kernel_rfl) (fun _ _ _ h => h) (Or.inl ⟨by rfl, ?_⟩) (by assumption) ?_
  rotate_left
  · intro w hSw; have q0 := cell_row (i := 0) hSw rfl; have q1 := cell_row (i := 1) hSw rfl; have q2 := cell_row (i := 2) hSw rfl; have q3 := cell_row (i := 3) hSw rfl; have q4 := cell_row (i := 4) hSw rfl; have q5 := cell_row (i := 5) hSw rfl; go_simp; try with_reducible rfl
  go_simp
  refine wpAnyH_take (i := 14) (v := ?_) rfl (by kernel_rfl) (by kernel_rfl) (by kernel_rfl) (fun _ _ _ h => h) (Or.inl ⟨by rfl, ?_⟩) (by assumption) ?_
  rotate_left
  · intro w hSw; have q0 := cell_row (i := 0) hSw rfl; have q1 := cell_row (i := 1) hSw rfl; have q2 := cell_row (i := 2) hSw rfl; have q3 := cell_row (i := 3) hSw rfl; have q4 := cell_row (i := 4) hSw rfl; have q5 := cell_row (i := 5) hSw rfl; go_simp; try with_reducible rfl
  go_simp
  refine wpAnyH_take (i := 15) (v := ?_) rfl (by kernel_rfl) (by kernel_rfl) (by kernel_rfl) (fun _ _ _ h => h) (Or.inl ⟨by rfl, ?_⟩) (by assumption) ?_
  rotate_left
  · intro w hSw; have q0 := cell_row (i := 0) hSw rfl; have q1 := cell_row (i := 1) hSw rfl; have q2 := cell_row (i := 2) hSw rfl; have q3 := cell_row (i := 3) hSw rfl; have q4 := cell_row (i := 4) hSw rfl; have q5 := cell_row (i := 5) hSw rfl; go_simp; try with_reducible rfl
  go_simp
  refine wpAnyH_ready (rs := [7]) (by kernel_rfl) (by simp) ?_
  refine AllReadyH.cons rfl (fun K hK => ?_) AllReadyH.nil
  go_simp
  go_wp2_with (go_at_call 18; (with_reducible refine HD.out.mono ?_); rintro e' w4 ⟨rfl, hb4, hf⟩; have B4 := Lib.hid hb4; have T4 := Lib.hid ((hf _ (.inr rfl)).trans TX.out); have F4 := Lib.hid (fun b (hb : G b) => (hf b (.inl hb)).trans (FX.out b hb)); clear hb4 hf)
  refine hK.out _ _ ?_ (fun hHeld => ?_)
  · exact T4.out
  clear hK K
  refine wpAnyH_ready (rs := [8]) (by kernel_rfl) (by simp) ?_
  refine AllReadyH.cons rfl (fun K hK => ?_) AllReadyH.nil
  go_simp
  go_wp2_with (go_at_call 10; (with_reducible refine (HN.out _ B4.out.base).mono ?_); rintro e' w5 ⟨rfl, hk⟩; have B5 := Lib.hid (B4.out.kp HCC.out hk); have T5 := Lib.hid (kp_row hk T4.out); have F5 := Lib.hid (fun b (hb : G b) => (Below.block hk b (B4.out.in b (.inl hb)).2).trans (F4.out b hb)); clear hk)
  refine hK.out _ _ ?_ (fun hHeld => ?_)
  · exact T5.out
  clear hK K
  refine wpAnyH_ready (rs := [16]) (by kernel_rfl) (by simp) ?_
  refine AllReadyH.cons rfl (fun K hK => ?_) AllReadyH.nil
  go_simp
  go_wp2_with (go_at_call 29; (with_reducible refine (HR.out _ B5.out).mono ?_); rintro e' w6 ⟨rfl, hb6, hf⟩; have B6 := Lib.hid hb6; have T6 := Lib.hid ((hf _ (.inr rfl)).trans T5.out); have F6 := Lib.hid (fun b (hb : G b) => (hf b (.inl hb)).trans (F5.out b hb)); clear hb6 hf)
  refine hK.out _ _ ?_ (fun hHeld => ?_)
  · exact T6.out
  clear hK K
  refine wpAnyH_take (i := 17) (v := ?_) rfl (by kernel_rfl) (by kernel_rfl) (by kernel_rfl) (fun _ _ _ h => h) (Or.inl ⟨by rfl, ?_⟩) (by assumption) ?_
  rotate_left
  · intro w hSw; go_simp; try with_reducible rfl
  go_simp
  refine wpAnyH_take (i := 18) (v := ?_) rfl (by kernel_rfl) (by kernel_rfl) (by kernel_rfl) (fun _ _ _ h => h) (Or.inl ⟨by rfl, ?_⟩) (by assumption) ?_
  rotate_left
  · intro w hSw; go_simp; try with_reducible rfl
  go_simp
  refine wpAnyH_done (by kernel_rfl) ?_ _
  go_wp2
  go_ret
  exact ⟨by first | rfl | simp | (congr 1; simp), B6.out.less fun b hb => .inl hb, F6.out⟩
set_option maxRecDepth 100000 in
theorem stepP_no (C : NetC ads w0 J) (h : Bt J w0 g q G m m w) (i a b : Int) (c : Bool) (ao : Option Addr) (n cp : Nat) (k : Int) (h1 : (k == 1) = false) (h2 : (k == 2) = false) (h3 : (k == 3) = false) (h4 : (k == 4) = false) (h5 : (k == 5) = false) : Calls Tryd.prog 12 #[.pointer (some ⟨g, 0, none⟩), .pointer (some ⟨q, 0, none⟩), .agg #[.int .i64 k, .int .i64 i, .int .i64 a, .int .i64 b, .bool c, .slice ao n cp]] w fun r w' => r = .returned (.bool true) ∧ Bt J w0 g q G m m w' ∧ (∀ b, G b → w'.heap[b]? = w.heap[b]?) := by
  have k1 := kp_alloc w (.cells #[.int .i64 k, .int .i64 i, .int .i64 a, .int .i64 b, .bool c, .slice ao n cp] 35)
  have r1 := (MapKept.heap_alloc w (.cells #[.int .i64 k, .int .i64 i, .int .i64 a, .int .i64 b, .bool c, .slice ao n cp] 35)).1
  have b1 := h.more C (.cells #[.int .i64 k, .int .i64 i, .int .i64 a, .int .i64 b, .bool c, .slice ao n cp] 35)
  have HPK := Lib.hid h.nok
  have HCC := Lib.hid C
  have HG := Lib.hid (fun b (hb : G b) => (h.in b hb).2)
  have B1 := Lib.hid b1
  have F1 := Lib.hid (fun b (hb : G b) => Below.block k1 b (HG.out b hb))
  have x0 := cell_row (i := 0) r1 rfl; have x1 := cell_row (i := 1) r1 rfl; have x2 := cell_row (i := 2) r1 rfl; have x3 := cell_row (i := 3) r1 rfl; have x4 := cell_row (i := 4) r1 rfl; have x5 := cell_row (i := 5) r1 rfl
  clear k1 h C r1 b1
  go_enter Tryd.func12, Tryd.ntmps12
  go_wp2
  go_ret
  exact ⟨rfl, B1.out.less fun b hb => .inl hb, F1.out⟩
set_option maxRecDepth 100000 in
set_option maxHeartbeats 2000000 in
theorem stepP_2 (C : NetC ads w0 J) (V : St ads w0) (h : Bt J w0 g q G m m w) (i a b : Int) (c : Bool) (ao : Option Addr) (n cp : Nat) : Calls Tryd.prog 12 #[.pointer (some ⟨g, 0, none⟩), .pointer (some ⟨q, 0, none⟩), .agg #[.int .i64 2, .int .i64 i, .int .i64 a, .int .i64 b, .bool c, .slice ao n cp]] w fun r w' => r = .returned (.bool true) ∧ Bt J w0 g q G (m.take i).2 (m.take i).2 w' ∧ (∀ b, G b → w'.heap[b]? = w.heap[b]?) := by
  have k1 := kp_alloc w (.cells #[.int .i64 2, .int .i64 i, .int .i64 a, .int .i64 b, .bool c, .slice ao n cp] 35)
  have r1 := (MapKept.heap_alloc w (.cells #[.int .i64 2, .int .i64 i, .int .i64 a, .int .i64 b, .bool c, .slice ao n cp] 35)).1
  have b1 := h.more C (.cells #[.int .i64 2, .int .i64 i, .int .i64 a, .int .i64 b, .bool c, .slice ao n cp] 35)
  have HPK := Lib.hid h.nok
  have HCC := Lib.hid C
  have HG := Lib.hid (fun b (hb : G b) => (h.in b hb).2)
  obtain ⟨X, hX⟩ : ∃ X, w.alloc (.cells #[.int .i64 2, .int .i64 i, .int .i64 a, .int .i64 b, .bool c, .slice ao n cp] 35) = X := ⟨_, rfl⟩
  have HXW := Lib.hid hX
  have rx := r1
  have kx := k1
  rw [hX] at kx b1 rx
  have TX := Lib.hid rx
  have FX := Lib.hid (fun b (hb : G b) => Below.block kx b (HG.out b hb))
  have hd := bt_take C b1 i
  have hr := fun w1 m3 G3 (H1 : Bt J w0 g q G3 m3 m w1) => br_take HCC.out H1 HPK.out i
  have hb := take_num m i
  obtain ⟨⟨⟨⟨x, y, ds⟩, n1⟩, m'⟩, hy⟩ : ∃ y, m.take i = y := ⟨_, rfl⟩
  rw [hy] at hd hb ⊢
  simp only [hy] at hr
  dsimp only [ltV] at hd hr hb ⊢
  have hn := fun w1 (hk : Kp w0 w1) => num_errN ads w1 (V.below hk) n1 hb.1 hb.2
  obtain ⟨d1, hd1⟩ : ∃ d, errI ads n1 = d := ⟨_, rfl⟩
  rw [hd1] at hn hd
  obtain ⟨dl, hdl⟩ : ∃ k, ds.length = k := ⟨_, rfl⟩
  rw [hdl] at hd
  obtain ⟨ss, hss⟩ : ∃ s, strOfNums ds = s := ⟨_, rfl⟩
  have ht := fun so sc w1 (hs : SlB (.slice so dl sc) ds w1) => told_any x y so dl sc ds w1 hs
  rw [hss] at hr ht
  have HT := Lib.hid ht
  have HN := Lib.hid hn
  have HD := Lib.hid hd
  have HR := Lib.hid (fun w1 G3 (H1 : Bt J w0 g q G3 m' m w1) => hr w1 m' G3 H1)
  have req := rlt_eql
  have rgd := rlt_guard
  have x0 := cell_row (i := 0) r1 rfl; have x1 := cell_row (i := 1) r1 rfl; have x2 := cell_row (i := 2) r1 rfl; have x3 := cell_row (i := 3) r1 rfl; have x4 := cell_row (i := 4) r1 rfl; have x5 := cell_row (i := 5) r1 rfl
  clear k1 kx b1 hX hd hr hy h C V r1 rx hb hn hd1 ht hss
  go_enter Tryd.func12, Tryd.ntmps12
  go_wp2_with (first | (go_at_call 20; (try rw [HXW.out]); (with_reducible refine HD.out.mono ?_); rintro e' w4 ⟨so, sc, rfl, hs, hb4, hf⟩; have hk4 := kp_alloc w4 (.cells #[.int .i64 x, .int .i64 y, .slice so dl sc] 45); have B4 := Lib.hid (hb4.more HCC.out (.cells #[.int .i64 x, .int .i64 y, .slice so dl sc] 45)); have T4 := Lib.hid (kp_row hk4 ((hf _ (.inr rfl)).trans TX.out)); have L4 := Lib.hid (MapKept.heap_alloc w4 (.cells #[.int .i64 x, .int .i64 y, .slice so dl sc] 45)).1; have O4 := Lib.hid (own_kp3 hs hk4); have F4 := Lib.hid (fun b (hb : G b) => ((Below.block hk4 b (hb4.in b (.inl (.inl hb))).2).trans (hf b (.inl hb))).trans (FX.out b hb)); have t0 := cell_row (i := 0) T4.out rfl; have t1 := cell_row (i := 1) T4.out rfl; have t2 := cell_row (i := 2) T4.out rfl; have t3 := cell_row (i := 3) T4.out rfl; have t4 := cell_row (i := 4) T4.out rfl; have t5 := cell_row (i := 5) T4.out rfl; clear hs hb4 hf hk4) | (go_at_call 26; (with_reducible refine (HR.out _ _ B4.out).mono ?_); rintro e' w5 ⟨rfl, hb5, hf⟩; have hk5 := kp_alloc w5 (.cells #[.int .i64 x, .int .i64 y, .string ss] 47); have B5 := Lib.hid (hb5.more HCC.out (.cells #[.int .i64 x, .int .i64 y, .string ss] 47)); have L5 := Lib.hid (kp_row hk5 ((hf _ (.inr rfl)).trans L4.out)); have M5 := Lib.hid (MapKept.heap_alloc w5 (.cells #[.int .i64 x, .int .i64 y, .string ss] 47)).1; have S5 := Lib.hid ((own_slb (own_stayG O4.out (fun b hb => hf b (.inl (.inr hb))))).kp hk5); have F5 := Lib.hid (fun b (hb : G b) => ((Below.block hk5 b (hb5.in b (.inl (.inl (.inl hb)))).2).trans (hf b (.inl (.inl (.inl hb))))).trans (F4.out b hb)); clear hb5 hf hk5))
  refine wp_region_held_drew (S := fun w' => w'.heap[w4.heap.size]? = some (.cells #[.int .i64 x, .int .i64 y, .slice so dl sc] 45) ∧ w'.heap[w5.heap.size]? = some (.cells #[.int .i64 x, .int .i64 y, .string ss] 47)) (by kernel_rfl) ?_ (fun hHeld => ?_)
  · exact ⟨kp_row (kp_drewR (Kp.refl _)) L5.out, kp_row (kp_drewR (Kp.refl _)) M5.out⟩
  have B5d := Lib.hid (B5.out.kp HCC.out (kp_drewR (Kp.refl _)))
  have S5d := Lib.hid (S5.out.kp (kp_drewR (Kp.refl _)))
  have F5d := Lib.hid (fun b (hb : G b) => (Below.block (kp_drewR (Kp.refl (w5.alloc (.cells #[.int .i64 x, .int .i64 y, .string ss] 47)))) b (B5.out.in b (.inl (.inl (.inl (.inl hb))))).2).trans (F5.out b hb))
  refine wpAnyH_take (i := 0) (v := ?_) rfl (by kernel_rfl) (by kernel_rfl) (by kernel_rfl) (fun _ _ _ h => h) (Or.inl ⟨by rfl, ?_⟩) (by assumption) ?_
  rotate_left
  · intro w hSw; have z0 := cell_row (i := 0) hSw.1 rfl; have z1 := cell_row (i := 1) hSw.1 rfl; have z2 := cell_row (i := 2) hSw.1 rfl; have y0 := cell_row (i := 0) hSw.2 rfl; have y1 := cell_row (i := 1) hSw.2 rfl; have y2 := cell_row (i := 2) hSw.2 rfl; go_simp; try with_reducible rfl
  go_simp
  refine wpAnyH_take (i := 2) (v := ?_) rfl (by kernel_rfl) (by kernel_rfl) (by kernel_rfl) (fun _ _ _ h => h) (Or.inl ⟨by rfl, ?_⟩) (by assumption) ?_
  rotate_left
  · intro w hSw; have z0 := cell_row (i := 0) hSw.1 rfl; have z1 := cell_row (i := 1) hSw.1 rfl; have z2 := cell_row (i := 2) hSw.1 rfl; have y0 := cell_row (i := 0) hSw.2 rfl; have y1 := cell_row (i := 1) hSw.2 rfl; have y2 := cell_row (i := 2) hSw.2 rfl; go_simp; try with_reducible rfl
  go_simp
  refine wpAnyH_ready (rs := [1]) (by kernel_rfl) (by simp) ?_
  refine AllReadyH.cons rfl (fun K hK => ?_) AllReadyH.nil
  go_simp
  go_wp2_with (go_at_call 16; (with_reducible refine (HT.out _ _ _ S5d.out).mono ?_); rintro e' w6 ⟨rfl, hk⟩; have B6 := Lib.hid (B5d.out.kp HCC.out hk); have L6 := Lib.hid (And.intro (kp_row hk hHeld.1) (kp_row hk hHeld.2)); have F6 := Lib.hid (fun b (hb : G b) => (Below.block hk b (B5d.out.in b (.inl (.inl (.inl (.inl hb))))).2).trans (F5d.out b hb)); clear hk)
  refine hK.out _ _ ?_ (fun hHeld => ?_)
  · exact L6.out
  clear hK K
  refine wpAnyH_take (i := 3) (v := ?_) rfl (by kernel_rfl) (by kernel_rfl) (by kernel_rfl) (fun _ _ _ h => h) (Or.inl ⟨by rfl, ?_⟩) (by assumption) ?_
  rotate_left
  · intro w hSw; go_simp; try with_reducible rfl
  go_simp
  refine wpAnyH_take (i := 4) (v := ?_) rfl (by kernel_rfl) (by kernel_rfl) (by kernel_rfl) (fun _ _ _ h => h) (Or.inl ⟨by rfl, ?_⟩) (by assumption) ?_
  rotate_left
  · intro w hSw; go_simp; try with_reducible rfl
  go_simp
  refine wpAnyH_take (i := 5) (v := ?_) rfl (by kernel_rfl) (by kernel_rfl) (by kernel_rfl) (fun _ _ _ h => h) (Or.inl ⟨by rfl, ?_⟩) (by assumption) ?_
  rotate_left
  · intro w hSw; go_simp; try with_reducible rfl
  go_simp
  refine wpAnyH_take (i := 7) (v := ?_) rfl (by kernel_rfl) (by kernel_rfl) (by kernel_rfl) (fun _ _ _ h => h) (Or.inl ⟨by rfl, ?_⟩) (by assumption) ?_
  rotate_left
  · intro w hSw; go_simp; try with_reducible rfl
  go_simp
  refine wpAnyH_ready (rs := [6]) (by kernel_rfl) (by simp) ?_
  refine AllReadyH.cons rfl (fun K hK => ?_) AllReadyH.nil
  go_simp
  go_wp2_with (go_at_call 10; (with_reducible refine (HN.out _ B6.out.base).mono ?_); rintro e' w7 ⟨rfl, hk⟩; have B7 := Lib.hid (B6.out.kp HCC.out hk); have L7 := Lib.hid (And.intro (kp_row hk L6.out.1) (kp_row hk L6.out.2)); have F7 := Lib.hid (fun b (hb : G b) => (Below.block hk b (B6.out.in b (.inl (.inl (.inl (.inl hb))))).2).trans (F6.out b hb)); clear hk)
  refine hK.out _ _ ?_ (fun hHeld => ?_)
  · exact L7.out
  clear hK K
  refine wpAnyH_take (i := 8) (v := ?_) rfl (by kernel_rfl) (by kernel_rfl) (by kernel_rfl) (fun _ _ _ h => h) (Or.inl ⟨by rfl, ?_⟩) (by assumption) ?_
  rotate_left
  · intro w hSw; go_simp; try with_reducible rfl
  go_simp
  refine wpAnyH_take (i := 9) (v := ?_) rfl (by kernel_rfl) (by kernel_rfl) (by kernel_rfl) (fun _ _ _ h => h) (Or.inl ⟨by rfl, ?_⟩) (by assumption) ?_
  rotate_left
  · intro w hSw; go_simp; try with_reducible rfl
  go_simp
  refine wpAnyH_take (i := 10) (v := ?_) rfl (by kernel_rfl) (by kernel_rfl) (by kernel_rfl) (fun _ _ _ h => h) (Or.inl ⟨by rfl, ?_⟩) (by assumption) ?_
  rotate_left
  · intro w hSw; go_simp; try with_reducible rfl
  go_simp
  refine wpAnyH_done (by kernel_rfl) ?_ _
  go_wp2
  go_ret
  exact ⟨by first | rfl | simp | (congr 1; simp), B7.out.less fun b hb => .inl (.inl (.inl (.inl hb))), F7.out⟩
theorem upto_eq {g1 : Nat} (h1 : w.heap.size = g1) (h : Bt J w0 g q (fun b => G b ∨ (w.heap.size ≤ b ∧ b < w'.heap.size)) m m2 w') : Bt J w0 g q (fun b => G b ∨ (g1 ≤ b ∧ b < w'.heap.size)) m m2 w' := h1 ▸ h
/-- a row of bytes, whatever they are -/
def RowB (gb n : Nat) (w : World) : Prop := ∃ cur : Array Value, w.heap[gb]? = some (.cells cur 5 (0, 0)) ∧ n ≤ cur.size ∧ ∀ k, k < n → ∃ x : Int, cur[k]? = some (.int .u8 x)
theorem RowB.heap {gb n : Nat} (h : RowB gb n w) (hb : w'.heap[gb]? = w.heap[gb]?) : RowB gb n w' := by
  obtain ⟨cur, h1, h2⟩ := h
  exact ⟨cur, hb.trans h1, h2⟩
theorem RowB.set {gb n k : Nat} (h : RowB gb n w) (y : Int) : RowB gb n (w.setCell ⟨gb, k, none⟩ (.int .u8 y)) := by
  obtain ⟨cur, h1, h2, h3⟩ := h
  refine ⟨cur.setIfInBounds k (.int .u8 y), (Joins.block_setCell h1 _).trans rfl, by simpa using h2, fun j hj => ?_⟩
  by_cases hkj : k = j
  · subst hkj
    exact ⟨y, by rw [Array.getElem?_setIfInBounds_self_of_lt (by omega)]⟩
  · rw [Array.getElem?_setIfInBounds_ne hkj]
    exact h3 j hj
theorem Marked.lt {gb c : Nat} {bs : List Int} (h : Marked gb c bs w) : gb < w.heap.size := by
  obtain ⟨cur, h1, -⟩ := h
  exact old_of_row h1
theorem Marked.rowb {gb c : Nat} {bs : List Int} (h : Marked gb c bs w) : RowB gb bs.length w := by
  obtain ⟨cur, h1, h2, h3, h4⟩ := h
  refine ⟨cur, h1, by omega, fun k hk => ?_⟩
  have e : cur.toList[k]? = some (.int .u8 (bs.getD k 0)) := by
    rw [h4, List.getElem?_map, List.getElem?_append_left hk]
    simp [List.getD, hk]
  exact ⟨_, by simpa using e⟩
set_option maxRecDepth 100000 in
set_option maxHeartbeats 2000000 in
theorem stepP_1 (C : NetC ads w0 J) (V : St ads w0) (h : Bt J w0 g q G m m w) (i a b : Int) (c : Bool) (d : List Int) (ao : Option Addr) (n cp : Nat) (hdn : d.length = n) (hnl : n ≤ 100000) (hsd : SlB (.slice ao n cp) d w0) (hi : InB d) : Calls Tryd.prog 12 #[.pointer (some ⟨g, 0, none⟩), .pointer (some ⟨q, 0, none⟩), .agg #[.int .i64 1, .int .i64 i, .int .i64 a, .int .i64 b, .bool c, .slice ao n cp]] w fun r w' => r = .returned (.bool true) ∧ Bt J w0 g q G (m.put ⟨a, b, d⟩).2 (m.put ⟨a, b, d⟩).2 w' ∧ (∀ b, G b → w'.heap[b]? = w.heap[b]?) := by
  have k1 := kp_alloc w (.cells #[.int .i64 1, .int .i64 i, .int .i64 a, .int .i64 b, .bool c, .slice ao n cp] 35)
  have r1 := (MapKept.heap_alloc w (.cells #[.int .i64 1, .int .i64 i, .int .i64 a, .int .i64 b, .bool c, .slice ao n cp] 35)).1
  have b1 := h.more C (.cells #[.int .i64 1, .int .i64 i, .int .i64 a, .int .i64 b, .bool c, .slice ao n cp] 35)
  have HPK := Lib.hid h.nok
  have HCC := Lib.hid C
  have HG := Lib.hid (fun b (hb : G b) => (h.in b hb).2)
  obtain ⟨X, hX⟩ : ∃ X, w.alloc (.cells #[.int .i64 1, .int .i64 i, .int .i64 a, .int .i64 b, .bool c, .slice ao n cp] 35) = X := ⟨_, rfl⟩
  have HXW := Lib.hid hX
  have rx := r1
  have kx := k1
  rw [hX] at kx b1 rx
  have TX := Lib.hid rx
  have BX := Lib.hid b1
  have FX := Lib.hid (fun b (hb : G b) => Below.block kx b (HG.out b hb))
  obtain ⟨gb, hgb⟩ : ∃ gb, X.heap.size = gb := ⟨_, rfl⟩
  have HXS := Lib.hid hgb
  have hby := numBytes_any ao cp d n hdn hnl X (hsd.kp (Kp.trans h.base kx))
  rw [hgb] at hby
  have HBY := Lib.hid hby
  have HSD := Lib.hid hsd
  have HDN := Lib.hid hdn
  have hpt := fun m2 G3 w1 (H1 : Bt J w0 g q G3 m m2 w1) (hm : Marked gb (n + 6) d w1) => bt_put C H1 a b (some ⟨gb, 0, none⟩) n (n + 6) d HDN.out (HDN.out ▸ hm.sl) hi
  have hr := fun w1 m3 G3 (H1 : Bt J w0 g q G3 m3 m w1) => br_put HCC.out H1 HPK.out ⟨a, b, d⟩
  have hb := put_num m ⟨a, b, d⟩
  obtain ⟨⟨⟨y, n1⟩, m'⟩, hy⟩ : ∃ y, m.put ⟨a, b, d⟩ = y := ⟨_, rfl⟩
  rw [hy] at hb ⊢
  simp only [hy] at hr hpt
  dsimp only at hr hb hpt ⊢
  have hn := fun w1 (hk : Kp w0 w1) => num_errN ads w1 (V.below hk) n1 hb.1 hb.2
  obtain ⟨d1, hd1⟩ : ∃ d, errI ads n1 = d := ⟨_, rfl⟩
  rw [hd1] at hn hpt
  obtain ⟨ss, hss⟩ : ∃ s, strOfNums d = s := ⟨_, rfl⟩
  rw [hss] at hr
  have HSS := Lib.hid hss
  have HN := Lib.hid hn
  have HPT := Lib.hid hpt
  have HR := Lib.hid (fun w1 G3 (H1 : Bt J w0 g q G3 m' m w1) => hr w1 m' G3 H1)
  obtain ⟨nn, hnn⟩ : ∃ x : Int, (n : Int) = x := ⟨_, rfl⟩
  have HNN := Lib.hid hnn
  have HNB := Lib.hid (show nn ≤ 100000 by omega)
  have x0 := cell_row (i := 0) r1 rfl; have x1 := cell_row (i := 1) r1 rfl; have x2 := cell_row (i := 2) r1 rfl; have x3 := cell_row (i := 3) r1 rfl; have x4 := cell_row (i := 4) r1 rfl; have x5 := cell_row (i := 5) r1 rfl
  clear k1 kx b1 hX hr hy h C V r1 rx hb hn hd1 hss hby hgb hsd hdn hpt hi hnl
  go_enter Tryd.func12, Tryd.ntmps12
  go_wp2_with (first | (go_at_call 24; (try rw [HXW.out]); (with_reducible refine HBY.out.mono ?_); rintro e' w3 ⟨rfl, hm3, hk⟩; have B3 := Lib.hid (upto_eq HXS.out (BX.out.upto HCC.out hk)); have M3 := Lib.hid hm3; have T3 := Lib.hid (kp_row hk TX.out); have F3 := Lib.hid (fun b (hb : G b) => (Below.block hk b (BX.out.in b (.inl hb)).2).trans (FX.out b hb)); have hpt := HPT.out _ _ w3 B3.out hm3; have t0 := cell_row (i := 0) T3.out rfl; have t1 := cell_row (i := 1) T3.out rfl; have t2 := cell_row (i := 2) T3.out rfl; have t3 := cell_row (i := 3) T3.out rfl; have t4 := cell_row (i := 4) T3.out rfl; have t5 := cell_row (i := 5) T3.out rfl; clear hm3 hk) | (go_at_call 19; (with_reducible refine hpt.mono ?_); rintro e' w4 ⟨rfl, hb4, hf⟩; have B4 := Lib.hid hb4; have R4 := Lib.hid (M3.out.rowb.heap (hf gb (.inr ⟨Nat.le_refl _, M3.out.lt⟩))); have T4 := Lib.hid ((hf _ (.inl (.inr rfl))).trans T3.out); have F4 := Lib.hid (fun b (hb : G b) => (hf b (.inl (.inl hb))).trans (F3.out b hb)); clear hb4 hf hpt))
  go_loopw [37] (fun iv wr => ∃ j : Nat, j ≤ n ∧ iv = .int .i64 j ∧ Bt J w0 g q (fun b => (G b ∨ b = w.heap.size) ∨ (gb ≤ b ∧ b < w3.heap.size)) m' m wr ∧ RowB gb n wr ∧ wr.heap[w.heap.size]? = some (.cells #[.int .i64 1, .int .i64 i, .int .i64 a, .int .i64 b, .bool c, .slice ao n cp] 35) ∧ (∀ b, G b → wr.heap[b]? = w.heap[b]?)) (fun iv _ => n - (intOf iv).toNat)
  case atStart => exact ⟨0, Nat.zero_le _, rfl, B4.out, HDN.out ▸ R4.out, T4.out, F4.out⟩
  case round =>
    obtain ⟨j, hj, rfl, hB, hR, hT, hF⟩ := hrel
    have hLL := HNN.out
    obtain ⟨jj, hjj⟩ : ∃ jj : Int, (j : Int) = jj := ⟨_, rfl⟩
    rw [hjj]
    have HJ := Lib.hid hjj
    by_cases hlt : j < n
    · have hjl : jj < nn := by omega
      have hj0 : 0 ≤ jj := by omega
      have hnb := HNB.out
      have htn : jj.toNat = j := by omega
      obtain ⟨cur, hc1, hc2, hc3⟩ := hR
      obtain ⟨x, hx⟩ := hc3 j hlt
      have hrd : wr.cell? ⟨gb, jj.toNat, none⟩ = some (.int .u8 x) := by rw [htn]; exact cell_row hc1 hx
      have fz := frozR hc1
      have R5 := Lib.hid (show RowB gb n wr from ⟨cur, hc1, hc2, hc3⟩)
      have B5 := Lib.hid hB
      have T5 := Lib.hid hT
      have F5 := Lib.hid hF
      have HLT := Lib.hid hlt
      have HGB := Lib.hid M3.out.lt
      clear hB hT hF hlt hjj hj hc1 hc2 hc3 hx htn
      go_wp2
      have hj1 : (j : Int) = jj := HJ.out
      have hlt1 : j < n := HLT.out
      have e5 : ∀ b, b ≠ gb → ∀ y, (wr.setCell ⟨gb, jj.toNat, none⟩ y).heap[b]? = wr.heap[b]? := fun b hb y => Below.heap_setCell _ _ _ _ hb
      have hgx : w.heap.size < gb := by rw [← HXS.out]; exact old_of_row TX.out
      go_roundw
      case rel => exact ⟨j + 1, hlt1, by rw [← hj1]; rfl, B5.out.set HCC.out _ (.inr ⟨Nat.le_refl _, HGB.out⟩), R5.out.set _, (e5 _ (by omega) _).trans T5.out, fun b hb => (e5 _ (by have := HG.out b hb; omega) _).trans (F5.out b hb)⟩
      case measure => simp [intOf]; omega
    · have hjl : ¬ jj < nn := by omega
      have B5 := Lib.hid hB
      have F5 := Lib.hid hF
      have cv := conv_slb (HSD.out.kp hB.base)
      rw [HSS.out] at cv
      have v0 := cell_row (i := 0) hT rfl; have v1 := cell_row (i := 1) hT rfl; have v2 := cell_row (i := 2) hT rfl; have v3 := cell_row (i := 3) hT rfl; have v4 := cell_row (i := 4) hT rfl; have v5 := cell_row (i := 5) hT rfl
      clear hB hF hR hlt hjj hj hT
      go_wp2_with (first | (go_at_call 25; (with_reducible refine (HR.out _ _ B5.out).mono ?_); rintro e' w6 ⟨rfl, hb6, hf⟩; have B6 := Lib.hid hb6; have F6 := Lib.hid (fun b (hb : G b) => (hf b (.inl (.inl hb))).trans (F5.out b hb)); clear hb6 hf) | (go_at_call 10; (with_reducible refine (HN.out _ B6.out.base).mono ?_); rintro e' w7 ⟨rfl, hk⟩; have B7 := Lib.hid (B6.out.kp HCC.out hk); have F7 := Lib.hid (fun b (hb : G b) => (Below.block hk b (B6.out.in b (.inl (.inl hb))).2).trans (F6.out b hb)); clear hk))
      go_ret
      exact ⟨by first | rfl | simp | (congr 1; simp), B7.out.less fun b hb => .inl (.inl hb), F7.out⟩
/-- an op as a value -/
def opPv (o : OpP) (ao : Option Addr) (cp : Nat) : Array Value := #[.int .i64 o.k, .int .i64 o.i, .int .i64 o.a, .int .i64 o.b, .bool o.c, .slice ao o.d.length cp]
/-- what an op does to a net -/
def doN (m : NetM) (o : OpP) : NetM :=
  if o.k = 1 then (m.put ⟨o.a, o.b, o.d⟩).2 else if o.k = 2 then (m.take o.i).2 else if o.k = 3 then (m.copy o.i).2 else if o.k = 4 then (m.move o.i o.b).2 else if o.k = 5 then (m.cutW o.a o.b o.c).2 else m
theorem stepP_any (C : NetC ads w0 J) (V : St ads w0) (h : Bt J w0 g q G m m w) (o : OpP) (ao : Option Addr) (cp : Nat) (hnl : o.d.length ≤ 100000) (hsd : SlB (.slice ao o.d.length cp) o.d w0) (hi : InB o.d) : Calls Tryd.prog 12 #[.pointer (some ⟨g, 0, none⟩), .pointer (some ⟨q, 0, none⟩), .agg (opPv o ao cp)] w fun r w' => r = .returned (.bool true) ∧ Bt J w0 g q G (doN m o) (doN m o) w' ∧ (∀ b, G b → w'.heap[b]? = w.heap[b]?) := by
  obtain ⟨k, i, a, b, c, d⟩ := o
  unfold doN opPv
  dsimp only at hnl hsd hi ⊢
  by_cases h1 : k = 1
  · subst h1; rw [if_pos rfl]; exact stepP_1 C V h i a b c d ao _ cp rfl hnl hsd hi
  rw [if_neg h1]
  by_cases h2 : k = 2
  · subst h2; rw [if_pos rfl]; exact stepP_2 C V h i a b c ao _ cp
  rw [if_neg h2]
  by_cases h3 : k = 3
  · subst h3; rw [if_pos rfl]; exact stepP_3 C V h i a b c ao _ cp
  rw [if_neg h3]
  by_cases h4 : k = 4
  · subst h4; rw [if_pos rfl]; exact stepP_4 C V h i a b c ao _ cp
  rw [if_neg h4]
  by_cases h5 : k = 5
  · subst h5; rw [if_pos rfl]; exact stepP_5 C V h i a b c ao _ cp
  rw [if_neg h5]
  exact stepP_no C h i a b c ao _ cp k (by simpa using h1) (by simpa using h2) (by simpa using h3) (by simpa using h4) (by simpa using h5)
end Go.Proofs.YtjffkfcokgcenaaDoor
