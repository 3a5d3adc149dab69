/-
  CatchTries' WALK (own work).
-/
import Derived.Test.YtcgcliglcdfijaaDoorTriesT
namespace Go.Proofs.YtcgcliglcdfijaaDoor
open Go.RowKit Go.Extern.Stop Go.Stop Go.Extern

theorem tries_world (n x kk : Int) (w w1 : World) (h : Kp ((w.alloc (.cells #[.int .i64 n] 3)).alloc (.cells #[.int .i64 x] 3)) w1) :
    (w1.cell? ⟨w.heap.size, 0, none⟩ = some (.int .i64 n) ∧ w1.frozen? ⟨w.heap.size, 0, none⟩ = false) ∧ w.heap.size + 2 ≤ w1.heap.size ∧
    ((w1.setCell ⟨w.heap.size, 0, none⟩ (.int .i64 kk)).alloc (.cells #[.int .i64 0] 3)).cell? ⟨w.heap.size, 0, none⟩ = some (.int .i64 kk) ∧ ((w1.setCell ⟨w.heap.size, 0, none⟩ (.int .i64 kk)).alloc (.cells #[.int .i64 0] 3)).cell? ⟨w.heap.size + 1, 0, none⟩ = some (.int .i64 x) ∧
    ((w1.setCell ⟨w.heap.size, 0, none⟩ (.int .i64 kk)).alloc (.cells #[.int .i64 0] 3)).cell? ⟨w1.heap.size, 0, none⟩ = some (.int .i64 0) ∧ ((w1.setCell ⟨w.heap.size, 0, none⟩ (.int .i64 kk)).alloc (.cells #[.int .i64 0] 3)).frozen? ⟨w1.heap.size, 0, none⟩ = false ∧ Kp w ((w1.setCell ⟨w.heap.size, 0, none⟩ (.int .i64 kk)).alloc (.cells #[.int .i64 0] 3)) := by
  have a0 : ((w.alloc (.cells #[.int .i64 n] 3)).alloc (.cells #[.int .i64 x] 3)).cell? ⟨w.heap.size, 0, none⟩ = some (.int .i64 n) := kp_cell (kp_alloc _ _) (box_cell _ _ _)
  have z0 : ((w.alloc (.cells #[.int .i64 n] 3)).alloc (.cells #[.int .i64 x] 3)).frozen? ⟨w.heap.size, 0, none⟩ = false := kp_frozen (kp_alloc _ _) (box_cell _ _ _) (box_frozen _ _ _)
  have a1 : ((w.alloc (.cells #[.int .i64 n] 3)).alloc (.cells #[.int .i64 x] 3)).cell? ⟨w.heap.size + 1, 0, none⟩ = some (.int .i64 x) := by
    have := box_cell (w.alloc (.cells #[.int .i64 n] 3)) (.int .i64 x) 3
    simp at this ⊢
  have hs : ((w.alloc (.cells #[.int .i64 n] 3)).alloc (.cells #[.int .i64 x] 3)).heap.size = w.heap.size + 2 := by simp
  have hsz : w.heap.size + 2 ≤ w1.heap.size := by have := Below.size h; omega
  have b0 := kp_cell h a0
  have b1 := kp_cell h a1
  have s0 : (w1.setCell ⟨w.heap.size, 0, none⟩ (.int .i64 kk)).cell? ⟨w.heap.size, 0, none⟩ = some (.int .i64 kk) := by simp [go_sem, b0]
  have s1 : (w1.setCell ⟨w.heap.size, 0, none⟩ (.int .i64 kk)).cell? ⟨w.heap.size + 1, 0, none⟩ = some (.int .i64 x) := by
    rw [← b1]
    exact World.cell?_of_block (Below.heap_setCell _ _ _ _ (show w.heap.size + 1 ≠ w.heap.size by omega))
  have ss : (w1.setCell ⟨w.heap.size, 0, none⟩ (.int .i64 kk)).heap.size = w1.heap.size := setCell_at _ _ _
  refine ⟨⟨b0, kp_frozen h a0 z0⟩, hsz, kp_cell (kp_alloc _ _) s0, kp_cell (kp_alloc _ _) s1, ?_, ?_, ?_⟩
  · have := box_cell (w1.setCell ⟨w.heap.size, 0, none⟩ (.int .i64 kk)) (.int .i64 0) 3
    rwa [ss] at this
  · have := box_frozen (w1.setCell ⟨w.heap.size, 0, none⟩ (.int .i64 kk)) (.int .i64 0) 3
    rwa [ss] at this
  · have k1 : Kp w w1 := Kp.trans (Kp.trans (kp_alloc _ _) (kp_alloc _ _)) h
    exact (Below.setCell k1 (show w.heap.size ≤ w.heap.size by omega) _).alloc (by rw [ss]; omega) _


set_option maxRecDepth 20000 in
theorem tries_0 (n x : Int) (ads : List Addr) (s : Addr) (w : World) (V : St ads (some s) w) (heq : wrap64 ((IntKind.u64.wrap n).tmod 22) = 0) :
    Calls Tryd.prog 3 #[.int .i64 n, .int .i64 x] w fun e w' => e = .returned (.bool true) ∧ Kp w w' := by
  have hmf : ∀ (fn : Fn) (first cap : Array Value) (w : World), (Instr.makeFunc fn first cap).run Tryd.prog w = .ok (.func fn first cap) w := fun _ _ _ _ => rfl
  have HF := Lib.hid (tries_world n x 0 w)
  have HA := Lib.hid (alive_any ads (some s) _ (V.kp (Kp.trans (kp_alloc w (.cells #[.int .i64 n] 3)) (kp_alloc _ (.cells #[.int .i64 x] 3)))))
  have TT : ∀ w1, Kp ((w.alloc (.cells #[.int .i64 n] 3)).alloc (.cells #[.int .i64 x] 3)) w1 → Calls Tryd.prog 11 #[.func (.func 9) #[] #[.pointer (some ⟨w.heap.size, 0, none⟩), .pointer (some ⟨w1.heap.size, 0, none⟩), .pointer (some ⟨w.heap.size + 1, 0, none⟩)]] ((w1.setCell ⟨w.heap.size, 0, none⟩ (.int .i64 0)).alloc (.cells #[.int .i64 0] 3)) fun e w' =>
      e = .returned (.tuple #[.int .i64 x, .nilIface]) ∧ (w'.cell? ⟨w.heap.size, 0, none⟩ = some (.int .i64 0) ∧ w'.cell? ⟨w.heap.size + 1, 0, none⟩ = some (.int .i64 x) ∧ w'.cell? ⟨w1.heap.size, 0, none⟩ = some (.int .i64 1)) ∧ St ads (some s) w' ∧ Kp w w' := by
    intro w1 h
    obtain ⟨-, hsz, c0, cx, cc, zc, hk3⟩ := tries_world n x 0 w w1 h
    have V3 : StB ads (some s) w.heap.size ((w1.setCell ⟨w.heap.size, 0, none⟩ (.int .i64 0)).alloc (.cells #[.int .i64 0] 3)) := StB.below ⟨w, V, rfl, Below.refl _ _⟩ hk3
    refine (tries_try ads s w.heap.size _ V3 _ _ _ (show w.heap.size ≤ w1.heap.size by omega) 0 (by omega) 0 x 0 rfl c0 cc zc cx (show w.heap.size + 1 ≠ w1.heap.size by omega)).mono ?_
    rintro e w' ⟨he, hw⟩
    have hb := dw_below hw (show w.heap.size ≤ w1.heap.size by omega) (Below.size hk3)
    refine ⟨?_, ⟨dw_other hw (show w.heap.size ≠ w1.heap.size by omega) c0, dw_other hw (show w.heap.size + 1 ≠ w1.heap.size by omega) cx, (by have := dw_cell hw cc; rwa [show wrap64 (0 + 1) = 1 from by simp [wrap64]] at this)⟩, (V3.below hb).st, Below.trans hk3 hb⟩
    simpa [errV] using he
  have HT := Lib.hid TT
  clear TT V
  go_enter Tryd.func3, Tryd.ntmps3
  go_wp2_with (go_at_call 8; (with_reducible refine HA.out.mono ?_); rintro e w1 ⟨rfl, hw1⟩; obtain ⟨⟨c0, z0⟩, -, d0, -⟩ := HF.out w1 hw1; have HW := Lib.hid hw1; clear hw1)
  with_reducible refine (HT.out w1 HW.out).mono ?_
  rintro e w2 ⟨rfl, ⟨e0, ex, ec⟩, -, hw2⟩
  have HW2 := Lib.hid hw2
  clear hw2
  go_wp2_with (go_at_call 12; (with_reducible refine (refErr_0 _).mono ?_); rintro e w' ⟨rfl, rfl⟩)
  go_ret
  exact ⟨rfl, HW2.out⟩


set_option maxRecDepth 20000 in
theorem tries_low (n x : Int) (ads : List Addr) (s : Addr) (w : World) (V : St ads (some s) w) (k : Nat) (h0 : 0 < k) (hk : k ≤ 20) (kk : Int) (hkk : (k : Int) = kk) (heq : wrap64 ((IntKind.u64.wrap n).tmod 22) = kk) :
    Calls Tryd.prog 3 #[.int .i64 n, .int .i64 x] w fun e w' => e = .returned (.bool true) ∧ Kp w w' := by
  have hmf : ∀ (fn : Fn) (first cap : Array Value) (w : World), (Instr.makeFunc fn first cap).run Tryd.prog w = .ok (.func fn first cap) w := fun _ _ _ _ => rfl
  have HF := Lib.hid (tries_world n x kk w)
  have HA := Lib.hid (alive_any ads (some s) _ (V.kp (Kp.trans (kp_alloc w (.cells #[.int .i64 n] 3)) (kp_alloc _ (.cells #[.int .i64 x] 3)))))
  have hl := V.len
  have hki : idx k < ads.length := by simp only [idx]; split <;> omega
  obtain ⟨a, ha⟩ : ∃ a, ads[idx k] = a := ⟨_, rfl⟩
  have TT : ∀ w1, Kp ((w.alloc (.cells #[.int .i64 n] 3)).alloc (.cells #[.int .i64 x] 3)) w1 → Calls Tryd.prog 11 #[.func (.func 9) #[] #[.pointer (some ⟨w.heap.size, 0, none⟩), .pointer (some ⟨w1.heap.size, 0, none⟩), .pointer (some ⟨w.heap.size + 1, 0, none⟩)]] ((w1.setCell ⟨w.heap.size, 0, none⟩ (.int .i64 kk)).alloc (.cells #[.int .i64 0] 3)) fun e w' =>
      e = .returned (.tuple #[.int .i64 0, snt a]) ∧ (w'.cell? ⟨w.heap.size, 0, none⟩ = some (.int .i64 kk) ∧ w'.cell? ⟨w.heap.size + 1, 0, none⟩ = some (.int .i64 x) ∧ w'.cell? ⟨w1.heap.size, 0, none⟩ = some (.int .i64 1)) ∧ St ads (some s) w' ∧ Kp w w' := by
    intro w1 h
    obtain ⟨-, hsz, c0, cx, cc, zc, hk3⟩ := tries_world n x kk w w1 h
    have V3 : StB ads (some s) w.heap.size ((w1.setCell ⟨w.heap.size, 0, none⟩ (.int .i64 kk)).alloc (.cells #[.int .i64 0] 3)) := StB.below ⟨w, V, rfl, Below.refl _ _⟩ hk3
    refine (tries_try ads s w.heap.size _ V3 _ _ _ (show w.heap.size ≤ w1.heap.size by omega) k hk kk x 0 hkk c0 cc zc cx (show w.heap.size + 1 ≠ w1.heap.size by omega)).mono ?_
    rintro e w' ⟨he, hw⟩
    have hb := dw_below hw (show w.heap.size ≤ w1.heap.size by omega) (Below.size hk3)
    refine ⟨?_, ⟨dw_other hw (show w.heap.size ≠ w1.heap.size by omega) c0, dw_other hw (show w.heap.size + 1 ≠ w1.heap.size by omega) cx, (by have := dw_cell hw cc; rwa [show wrap64 (0 + 1) = 1 from by simp [wrap64]] at this)⟩, (V3.below hb).st, Below.trans hk3 hb⟩
    rw [if_neg (by omega), if_neg (by omega)] at he
    simpa [errV, hki, ha] using he
  obtain ⟨ee, hee⟩ : ∃ ee, ek k = ee := ⟨_, rfl⟩
  have hee' : ee = idx k + 1 := by rw [← hee]; simp only [ek]; rw [if_neg (by omega)]
  have NN : ∀ w, St ads (some s) w → Calls Tryd.prog 13 #[snt a] w fun e w' => e = .returned (.int .i64 ee) ∧ Kp w w' := by
    intro w V; rw [← ha]; exact num_int ads w V.E (idx k) (by omega) hki ee hee'
  have RR : ∀ w, Calls Tryd.prog 12 #[.int .i64 kk] w fun e w' => e = .returned (.int .i64 ee) ∧ w = w' := by
    intro w; rw [← hee]; exact refErr_any k (by omega) kk hkk w
  have h21 : (kk == 21) = false := by simp; omega
  have hne0 : (ee != 0) = true := by simp; omega
  have HT := Lib.hid TT
  have HN := Lib.hid NN
  have HR := Lib.hid RR
  clear TT V NN RR ha hee hee' hkk
  go_enter Tryd.func3, Tryd.ntmps3
  go_wp2_with (go_at_call 8; (with_reducible refine HA.out.mono ?_); rintro e w1 ⟨rfl, hw1⟩; obtain ⟨⟨c0, z0⟩, -, d0, -⟩ := HF.out w1 hw1; have HW := Lib.hid hw1; clear hw1)
  with_reducible refine (HT.out w1 HW.out).mono ?_
  rintro e w2 ⟨rfl, ⟨e0, ex, ec⟩, V2, hw2⟩
  have HW2 := Lib.hid hw2
  have HV2 := Lib.hid V2
  clear hw2 V2
  go_wp2_with (first | (go_at_call 12; (with_reducible refine (HR.out _).mono ?_); rintro e w' ⟨rfl, rfl⟩) | (go_at_call 13; (with_reducible refine (HN.out _ HV2.out).mono ?_); rintro e w' ⟨rfl, hw3⟩))
  go_ret
  exact ⟨rfl, Kp.trans HW2.out hw3⟩


set_option maxRecDepth 20000 in
theorem tries_21 (n x : Int) (ads : List Addr) (so : Option Addr) (w : World) (V : St ads so w) (heq : wrap64 ((IntKind.u64.wrap n).tmod 22) = 21) :
    Calls Tryd.prog 3 #[.int .i64 n, .int .i64 x] w fun e w' => e = .returned (.bool true) ∧ Kp w w' := by
  have hmf : ∀ (fn : Fn) (first cap : Array Value) (w : World), (Instr.makeFunc fn first cap).run Tryd.prog w = .ok (.func fn first cap) w := fun _ _ _ _ => rfl
  have HF := Lib.hid (tries_world n x 21 w)
  have HA := Lib.hid (alive_any ads so _ (V.kp (Kp.trans (kp_alloc w (.cells #[.int .i64 n] 3)) (kp_alloc _ (.cells #[.int .i64 x] 3)))))
  have hl := V.len
  have h12 : 12 < ads.length := by omega
  obtain ⟨a, ha⟩ : ∃ a, ads[12] = a := ⟨_, rfl⟩
  have TT : ∀ w1, Kp ((w.alloc (.cells #[.int .i64 n] 3)).alloc (.cells #[.int .i64 x] 3)) w1 → Calls Tryd.prog 11 #[.nilFunc] ((w1.setCell ⟨w.heap.size, 0, none⟩ (.int .i64 21)).alloc (.cells #[.int .i64 0] 3)) fun e w' =>
      e = .returned (.tuple #[.int .i64 0, snt a]) ∧ w'.cell? ⟨w.heap.size, 0, none⟩ = some (.int .i64 21) ∧ St ads so w' ∧ Kp w w' := by
    intro w1 h
    obtain ⟨-, hsz, c0, cx, cc, zc, hk3⟩ := tries_world n x 21 w w1 h
    refine (try_int_nil ads so _ (V.kp hk3) h12).mono ?_
    rintro e w' ⟨rfl, hw⟩
    exact ⟨by rw [ha], kp_cell hw c0, (V.kp hk3).kp hw, Kp.trans hk3 hw⟩
  have NN : ∀ w, St ads so w → Calls Tryd.prog 13 #[snt a] w fun e w' => e = .returned (.int .i64 13) ∧ Kp w w' := by
    intro w V; rw [← ha]; exact num_int ads w V.E 12 (by omega) h12 13 (by omega)
  have HT := Lib.hid TT
  have HN := Lib.hid NN
  clear TT V NN ha
  go_enter Tryd.func3, Tryd.ntmps3
  go_wp2_with (go_at_call 8; (with_reducible refine HA.out.mono ?_); rintro e w1 ⟨rfl, hw1⟩; obtain ⟨⟨c0, z0⟩, -, d0, -⟩ := HF.out w1 hw1; have HW := Lib.hid hw1; clear hw1)
  with_reducible refine (HT.out w1 HW.out).mono ?_
  rintro e w2 ⟨rfl, e0, V2, hw2⟩
  have HW2 := Lib.hid hw2
  have HV2 := Lib.hid V2
  clear hw2 V2
  go_wp2_with (first | (go_at_call 12; (with_reducible refine (refErr_high 21 (by decide) (by decide) _).mono ?_); rintro e w' ⟨rfl, rfl⟩) | (go_at_call 13; (with_reducible refine (HN.out _ HV2.out).mono ?_); rintro e w' ⟨rfl, hw3⟩))
  go_ret
  exact ⟨rfl, Kp.trans HW2.out hw3⟩

theorem key_range (n : Int) (m : Nat) (h : 0 < m) (hm : m < 1000000) : ∃ k : Nat, k < m ∧ wrap64 ((IntKind.u64.wrap n).tmod m) = k := by
  have h0 : 0 ≤ IntKind.u64.wrap n := by
    simp [IntKind.wrap, IntKind.bits, IntKind.signed]
    omega
  rw [Int.tmod_eq_emod_of_nonneg h0]
  have h1 := Int.emod_nonneg (IntKind.u64.wrap n) (show (m : Int) ≠ 0 by omega)
  have h2 := Int.emod_lt_of_pos (IntKind.u64.wrap n) (show (0 : Int) < m by omega)
  refine ⟨(IntKind.u64.wrap n % m).toNat, by omega, ?_⟩
  unfold wrap64
  omega

theorem tries_all (n x : Int) (ads : List Addr) (s : Addr) (w : World) (V : St ads (some s) w) :
    Calls Tryd.prog 3 #[.int .i64 n, .int .i64 x] w fun e w' => e = .returned (.bool true) ∧ Kp w w' := by
  obtain ⟨k, hk, heq⟩ := key_range n 22 (by decide) (by decide)
  rcases Nat.lt_or_ge k 21 with h | h
  · rcases Nat.eq_zero_or_pos k with rfl | h0
    · exact tries_0 n x ads s w V heq
    · exact tries_low n x ads s w V k h0 (by omega) k rfl heq
  · obtain rfl : k = 21 := by omega
    exact tries_21 n x ads (some s) w V heq

end Go.Proofs.YtcgcliglcdfijaaDoor
