/-
  THE WALK OF TablesEnd (own work).
-/
import Derived.Test.YtoeidlhcioponaaDoorTenN
namespace Go.Proofs.YtoeidlhcioponaaDoor
open Go.RowKit Go.ChangeShapes Go.WideShapes

theorem addT_snoc (n : Int) : ∀ (a : List Int) (S : List Int), addT S (a ++ [n]) = if n ∈ addT S a then addT S a else addT S a ++ [n]
  | [], S => by
    rw [List.nil_append]
    show (if n ∈ S then S else S ++ [n]) = _
    rfl
  | x :: a, S => by rw [List.cons_append, addT, addT, addT_snoc n a]
theorem addT_len : ∀ (a S : List Int), S.length ≤ (addT S a).length ∧ (addT S a).length ≤ S.length + a.length
  | [], S => by simp [addT]
  | x :: a, S => by
    rw [addT]
    have := addT_len a (if x ∈ S then S else S ++ [x])
    split at this <;> rename_i q
    · rw [if_pos q, List.length_cons]; omega
    · rw [if_neg q, List.length_cons]
      rw [List.length_append, List.length_singleton] at this
      omega
theorem nextT_len {p e : Int} (h : rightT p e = true) (x : Int) : (nextT p e x).length ≤ 28 := by
  obtain ⟨l1, l2, l3⟩ := lists_len (p, e) (rightT_mem h)
  unfold nextT
  rw [List.length_append]
  have h1 := List.length_filterMap_le (lookN p e x) (takesL p e)
  have h2 := List.length_filterMap_le (stepN p e x) (sendsL p e)
  dsimp only at l2 l3
  omega
theorem states_i64 {p e x : Int} (h : x ∈ statesL p e) : i64T x := allT_i64 (mem_allT h)
theorem own_one (w : World) (x : Int) : (w.alloc (.cells #[.int .i64 x] 3)).ownsRow w.heap.size 3 1 (.slice (some ⟨w.heap.size, 0, none⟩) 1 1) 1 [.int .i64 x] :=
  ⟨by simp, Or.inr ⟨w.heap.size, 1, #[.int .i64 x], rfl, Nat.le_refl _, (MapKept.heap_alloc w _).1, Nat.le_refl _, by decide, by simp, by simp⟩⟩
set_option maxRecDepth 100000 in
set_option maxHeartbeats 4000000 in
theorem tend_wrong (ads : List Addr) (p e s : Int) (hp : i64T p) (he : i64T e) (w : World) (C : TabC ads w) (_TS : TabS ads w) (h : rightT p e = false)  :
    Calls Tryd.prog 7 #[.agg #[.int .i64 p, .int .i64 e], .int .i64 s] w fun e' w' => e' = .returned (.bool true) ∧ Kp w w' := by
  have hmf : ∀ (fn : Fn) (first cap : Array Value) (w : World), (Instr.makeFunc fn first cap).run Tryd.prog w = .ok (.func fn first cap) w := fun _ _ _ _ => rfl
  have HA := Lib.hid (fun w1 (hk : Kp w w1) => alive10_any ads w1 (TabC.kp C hk))
  have S1 := fun w1 (hk : Kp w w1) => C.states w1 hk p e hp he
  have KB := Lib.hid (kp_alloc w (.cells #[.int .i64 p, .int .i64 e] 23))
  have HR := Lib.hid (MapKept.heap_alloc w (.cells #[.int .i64 p, .int .i64 e] 23)).1
  simp only [h, Bool.false_eq_true, if_false] at S1
  obtain ⟨q, hq⟩ := errI_iface ads 14 (by decide)
  rw [hq] at S1
  have S1 := Lib.hid S1
  clear C _TS hp he h hq
  go_enter Tryd.func7, Tryd.ntmps7
  go_wp2_with (first
    | (go_at_call 10; (with_reducible refine (HA.out _ KB.out).mono ?_); rintro e' w1 ⟨rfl, hk⟩; have K1 := Lib.hid (Kp.trans KB.out hk); have R1 := Lib.hid (kp_row hk HR.out); obtain ⟨g10, g11⟩ := sides2 R1.out; clear hk)
    | (go_at_call 20; (with_reducible refine (S1.out _ K1.out).mono ?_); rintro e' w2 ⟨va, rfl, hs, hk⟩; obtain ⟨aA, cA, rfl⟩ := hs.form; have K2 := Lib.hid (Kp.trans K1.out hk); have R2 := Lib.hid (kp_row hk R1.out); obtain ⟨g20, g21⟩ := sides2 R2.out; have A2 := Lib.hid hs; clear hs hk))
  go_ret
  exact ⟨by first | rfl | simp, K2.out⟩
set_option maxRecDepth 100000 in
set_option maxHeartbeats 4000000 in
theorem tend_not (ads : List Addr) (p e s : Int) (hp : i64T p) (he : i64T e) (w : World) (C : TabC ads w) (TS : TabS ads w) (h : rightT p e = true) (hs : s ∉ statesL p e) :
    Calls Tryd.prog 7 #[.agg #[.int .i64 p, .int .i64 e], .int .i64 s] w fun e' w' => e' = .returned (.bool true) ∧ Kp w w' := by
  have hmf : ∀ (fn : Fn) (first cap : Array Value) (w : World), (Instr.makeFunc fn first cap).run Tryd.prog w = .ok (.func fn first cap) w := fun _ _ _ _ => rfl
  have HA := Lib.hid (fun w1 (hk : Kp w w1) => alive10_any ads w1 (TabC.kp C hk))
  have S1 := fun w1 (hk : Kp w w1) => C.states w1 hk p e hp he
  have KB := Lib.hid (kp_alloc w (.cells #[.int .i64 p, .int .i64 e] 23))
  have HR := Lib.hid (MapKept.heap_alloc w (.cells #[.int .i64 p, .int .i64 e] 23)).1
  have S2 := fun w1 (hk : Kp w w1) => C.takes w1 hk p e hp he
  have S3 := fun w1 (hk : Kp w w1) => C.sends w1 hk p e hp he
  simp only [h, if_true, errI_nil] at S1 S2 S3
  obtain ⟨l1, -, -⟩ := lists_len (p, e) (rightT_mem h)
  obtain ⟨e14, m14⟩ := end_none (p, e) (rightT_mem h)
  dsimp only at l1 e14 m14
  have HNX := Lib.hid (fun (x : Int) (hx : i64T x) (w1 : World) (hk : Kp w w1) (bT bP bS : Nat) (aT aS : Option Addr) (cT cS : Nat) h1 h2 h3 h4 h5 => next_any ads p e x hp he hx h w1 (C.kp hk) (TS.kp hk) bT bP bS aT aS cT cS h1 h2 h3 h4 h5)
  have HE14 := Lib.hid e14
  have I14 := Lib.hid (fun (a : Option Addr) (c : Nat) (w1 : World) (hs : SlI (.slice a (statesL p e).length c) (statesL p e) w1) => (show Calls Tryd.prog 27 #[.slice a (statesL p e).length c, .int .i64 14] w1 fun e w' => e = .returned (.bool true) ∧ Kp w1 w' from by have := in_any a c _ _ rfl (by omega) 14 w1 hs; rw [decide_eq_true m14] at this; exact this))
  have IS := Lib.hid (fun (a : Option Addr) (c : Nat) (w1 : World) (hs1 : SlI (.slice a (statesL p e).length c) (statesL p e) w1) => (show Calls Tryd.prog 27 #[.slice a (statesL p e).length c, .int .i64 s] w1 fun e w' => e = .returned (.bool false) ∧ Kp w1 w' from by have := in_any a c _ _ rfl (by omega) s w1 hs1; rw [decide_eq_false hs] at this; exact this))
  have S1 := Lib.hid S1
  have S2 := Lib.hid S2
  have S3 := Lib.hid S3
  clear C TS hp he h l1 e14 m14 hs
  go_enter Tryd.func7, Tryd.ntmps7
  go_wp2_with (first
    | (go_at_call 10; (with_reducible refine (HA.out _ KB.out).mono ?_); rintro e' w1 ⟨rfl, hk⟩; have K1 := Lib.hid (Kp.trans KB.out hk); have R1 := Lib.hid (kp_row hk HR.out); obtain ⟨g10, g11⟩ := sides2 R1.out; clear hk)
    | (go_at_call 20; (with_reducible refine (S1.out _ K1.out).mono ?_); rintro e' w2 ⟨va, rfl, hs, hk⟩; obtain ⟨aA, cA, rfl⟩ := hs.form; have K2 := Lib.hid (Kp.trans K1.out hk); have R2 := Lib.hid (kp_row hk R1.out); obtain ⟨g20, g21⟩ := sides2 R2.out; have A2 := Lib.hid hs; clear hs hk)
    | (go_at_call 21; (with_reducible refine (S2.out _ K2.out).mono ?_); rintro e' w3 ⟨vb, rfl, hs, hk⟩; obtain ⟨aB, cB, rfl⟩ := hs.form; have KK := Lib.hid (Kp.trans hk (kp_alloc w3 (.cells #[.slice aB (takesL p e).length cB] 44))); have K3 := Lib.hid (Kp.trans K2.out KK.out); have R3 := Lib.hid (kp_row KK.out R2.out); obtain ⟨g30, g31⟩ := sides2 R3.out; have A3 := Lib.hid (A2.out.kp KK.out); have B3 := Lib.hid (hs.kp (kp_alloc w3 (.cells #[.slice aB (takesL p e).length cB] 44))); have CB3 := Lib.hid (box_cell w3 (.slice aB (takesL p e).length cB) 44); clear hs hk KK)
    | (go_at_call 22; (with_reducible refine (S3.out _ K3.out).mono ?_); rintro e' w4 ⟨vc, rfl, hs, hk⟩; obtain ⟨aC, cC, rfl⟩ := hs.form; have KK := Lib.hid (Kp.trans hk (kp_alloc w4 (.cells #[.slice aC (sendsL p e).length cC] 44))); have K4 := Lib.hid (Kp.trans K3.out KK.out); have R4 := Lib.hid (kp_row KK.out R3.out); obtain ⟨g40, g41⟩ := sides2 R4.out; have A4 := Lib.hid (A3.out.kp KK.out); have B4 := Lib.hid (B3.out.kp KK.out); have CB4 := Lib.hid (kp_cell KK.out CB3.out); have D4 := Lib.hid (hs.kp (kp_alloc w4 (.cells #[.slice aC (sendsL p e).length cC] 44))); have CD4 := Lib.hid (box_cell w4 (.slice aC (sendsL p e).length cC) 44); clear hs hk KK)
    | (go_at_call 26; (with_reducible refine (HNX.out 14 (by decide) _ K4.out _ _ _ _ _ _ _ CB4.out B4.out R4.out CD4.out D4.out).mono ?_); rintro e' w5 ⟨v5, rfl, ho, hk⟩; rw [HE14.out] at ho; obtain ⟨a5, c5, rfl⟩ := (own_sli (bs := []) ho).form; have K5 := Lib.hid (Kp.trans K4.out hk); have R5 := Lib.hid (kp_row hk R4.out); have A5 := Lib.hid (A4.out.kp hk); have B5 := Lib.hid (B4.out.kp hk); have CB5 := Lib.hid (kp_cell hk CB4.out); have D5 := Lib.hid (D4.out.kp hk); have CD5 := Lib.hid (kp_cell hk CD4.out); clear ho hk)
    | (go_at_call 27; (with_reducible refine (I14.out _ _ _ A5.out).mono ?_); rintro e' w6 ⟨rfl, hk⟩; have K6 := Lib.hid (Kp.trans K5.out hk); have R6 := Lib.hid (kp_row hk R5.out); have A6 := Lib.hid (A5.out.kp hk); have B6 := Lib.hid (B5.out.kp hk); have CB6 := Lib.hid (kp_cell hk CB5.out); have D6 := Lib.hid (D5.out.kp hk); have CD6 := Lib.hid (kp_cell hk CD5.out); clear hk)
    | (go_at_call 27; (with_reducible refine (IS.out _ _ _ A6.out).mono ?_); rintro e' w7 ⟨rfl, hk⟩; have K7 := Lib.hid (Kp.trans K6.out hk); have R7 := Lib.hid (kp_row hk R6.out); have A7 := Lib.hid (A6.out.kp hk); have B7 := Lib.hid (B6.out.kp hk); have CB7 := Lib.hid (kp_cell hk CB6.out); have D7 := Lib.hid (D6.out.kp hk); have CD7 := Lib.hid (kp_cell hk CD6.out); clear hk))
  go_ret
  exact ⟨by first | rfl | simp, K7.out⟩
set_option maxRecDepth 100000 in
set_option maxHeartbeats 4000000 in
theorem tend_in (ads : List Addr) (p e s : Int) (hp : i64T p) (he : i64T e) (w : World) (C : TabC ads w) (TS : TabS ads w) (h : rightT p e = true) (hs : s ∈ statesL p e) :
    Calls Tryd.prog 7 #[.agg #[.int .i64 p, .int .i64 e], .int .i64 s] w fun e' w' => e' = .returned (.bool true) ∧ Kp w w' := by
  have hmf : ∀ (fn : Fn) (first cap : Array Value) (w : World), (Instr.makeFunc fn first cap).run Tryd.prog w = .ok (.func fn first cap) w := fun _ _ _ _ => rfl
  have HA := Lib.hid (fun w1 (hk : Kp w w1) => alive10_any ads w1 (TabC.kp C hk))
  have S1 := fun w1 (hk : Kp w w1) => C.states w1 hk p e hp he
  have KB := Lib.hid (kp_alloc w (.cells #[.int .i64 p, .int .i64 e] 23))
  have HR := Lib.hid (MapKept.heap_alloc w (.cells #[.int .i64 p, .int .i64 e] 23)).1
  have S2 := fun w1 (hk : Kp w w1) => C.takes w1 hk p e hp he
  have S3 := fun w1 (hk : Kp w w1) => C.sends w1 hk p e hp he
  simp only [h, if_true, errI_nil] at S1 S2 S3
  obtain ⟨l1, -, -⟩ := lists_len (p, e) (rightT_mem h)
  obtain ⟨e14, m14⟩ := end_none (p, e) (rightT_mem h)
  dsimp only at l1 e14 m14
  have HNX := Lib.hid (fun (x : Int) (hx : i64T x) (w1 : World) (hk : Kp w w1) (bT bP bS : Nat) (aT aS : Option Addr) (cT cS : Nat) h1 h2 h3 h4 h5 => next_any ads p e x hp he hx h w1 (C.kp hk) (TS.kp hk) bT bP bS aT aS cT cS h1 h2 h3 h4 h5)
  have HE14 := Lib.hid e14
  have I14 := Lib.hid (fun (a : Option Addr) (c : Nat) (w1 : World) (hs : SlI (.slice a (statesL p e).length c) (statesL p e) w1) => (show Calls Tryd.prog 27 #[.slice a (statesL p e).length c, .int .i64 14] w1 fun e w' => e = .returned (.bool true) ∧ Kp w1 w' from by have := in_any a c _ _ rfl (by omega) 14 w1 hs; rw [decide_eq_true m14] at this; exact this))
  have IS := Lib.hid (fun (a : Option Addr) (c : Nat) (w1 : World) (hs1 : SlI (.slice a (statesL p e).length c) (statesL p e) w1) => (show Calls Tryd.prog 27 #[.slice a (statesL p e).length c, .int .i64 s] w1 fun e w' => e = .returned (.bool true) ∧ Kp w1 w' from by have := in_any a c _ _ rfl (by omega) s w1 hs1; rw [decide_eq_true hs] at this; exact this))
  have IX := Lib.hid (fun (x : Int) (hx : x ∈ statesL p e) (a : Option Addr) (c : Nat) (w1 : World) (hs1 : SlI (.slice a (statesL p e).length c) (statesL p e) w1) => (show Calls Tryd.prog 27 #[.slice a (statesL p e).length c, .int .i64 x] w1 fun e w' => e = .returned (.bool true) ∧ Kp w1 w' from by have := in_any a c _ _ rfl (by omega) x w1 hs1; rw [decide_eq_true hx] at this; exact this))
  have OKS := Lib.hid (fun (m : Nat) (hm : m ≤ 14) => seen_ok (p, e) (rightT_mem h) s hs m (List.mem_range.2 (by omega)))
  have NXI := Lib.hid (fun (x : Int) (hx : x ∈ statesL p e) => next_in (p, e) (rightT_mem h) x hx)
  have NXL := Lib.hid (fun x => nextT_len h x)
  have S1 := Lib.hid S1
  have S2 := Lib.hid S2
  have S3 := Lib.hid S3
  clear C TS hp he h l1 e14 m14 hs
  go_enter Tryd.func7, Tryd.ntmps7
  go_wp2_with (first
    | (go_at_call 10; (with_reducible refine (HA.out _ KB.out).mono ?_); rintro e' w1 ⟨rfl, hk⟩; have K1 := Lib.hid (Kp.trans KB.out hk); have R1 := Lib.hid (kp_row hk HR.out); obtain ⟨g10, g11⟩ := sides2 R1.out; clear hk)
    | (go_at_call 20; (with_reducible refine (S1.out _ K1.out).mono ?_); rintro e' w2 ⟨va, rfl, hs, hk⟩; obtain ⟨aA, cA, rfl⟩ := hs.form; have K2 := Lib.hid (Kp.trans K1.out hk); have R2 := Lib.hid (kp_row hk R1.out); obtain ⟨g20, g21⟩ := sides2 R2.out; have A2 := Lib.hid hs; clear hs hk)
    | (go_at_call 21; (with_reducible refine (S2.out _ K2.out).mono ?_); rintro e' w3 ⟨vb, rfl, hs, hk⟩; obtain ⟨aB, cB, rfl⟩ := hs.form; have KK := Lib.hid (Kp.trans hk (kp_alloc w3 (.cells #[.slice aB (takesL p e).length cB] 44))); have K3 := Lib.hid (Kp.trans K2.out KK.out); have R3 := Lib.hid (kp_row KK.out R2.out); obtain ⟨g30, g31⟩ := sides2 R3.out; have A3 := Lib.hid (A2.out.kp KK.out); have B3 := Lib.hid (hs.kp (kp_alloc w3 (.cells #[.slice aB (takesL p e).length cB] 44))); have CB3 := Lib.hid (box_cell w3 (.slice aB (takesL p e).length cB) 44); clear hs hk KK)
    | (go_at_call 22; (with_reducible refine (S3.out _ K3.out).mono ?_); rintro e' w4 ⟨vc, rfl, hs, hk⟩; obtain ⟨aC, cC, rfl⟩ := hs.form; have KK := Lib.hid (Kp.trans hk (kp_alloc w4 (.cells #[.slice aC (sendsL p e).length cC] 44))); have K4 := Lib.hid (Kp.trans K3.out KK.out); have R4 := Lib.hid (kp_row KK.out R3.out); obtain ⟨g40, g41⟩ := sides2 R4.out; have A4 := Lib.hid (A3.out.kp KK.out); have B4 := Lib.hid (B3.out.kp KK.out); have CB4 := Lib.hid (kp_cell KK.out CB3.out); have D4 := Lib.hid (hs.kp (kp_alloc w4 (.cells #[.slice aC (sendsL p e).length cC] 44))); have CD4 := Lib.hid (box_cell w4 (.slice aC (sendsL p e).length cC) 44); clear hs hk KK)
    | (go_at_call 26; (with_reducible refine (HNX.out 14 (by decide) _ K4.out _ _ _ _ _ _ _ CB4.out B4.out R4.out CD4.out D4.out).mono ?_); rintro e' w5 ⟨v5, rfl, ho, hk⟩; rw [HE14.out] at ho; obtain ⟨a5, c5, rfl⟩ := (own_sli (bs := []) ho).form; have K5 := Lib.hid (Kp.trans K4.out hk); have R5 := Lib.hid (kp_row hk R4.out); have A5 := Lib.hid (A4.out.kp hk); have B5 := Lib.hid (B4.out.kp hk); have CB5 := Lib.hid (kp_cell hk CB4.out); have D5 := Lib.hid (D4.out.kp hk); have CD5 := Lib.hid (kp_cell hk CD4.out); clear ho hk)
    | (go_at_call 27; (with_reducible refine (I14.out _ _ _ A5.out).mono ?_); rintro e' w6 ⟨rfl, hk⟩; have K6 := Lib.hid (Kp.trans K5.out hk); have R6 := Lib.hid (kp_row hk R5.out); have A6 := Lib.hid (A5.out.kp hk); have B6 := Lib.hid (B5.out.kp hk); have CB6 := Lib.hid (kp_cell hk CB5.out); have D6 := Lib.hid (D5.out.kp hk); have CD6 := Lib.hid (kp_cell hk CD5.out); clear hk)
    | (go_at_call 27; (with_reducible refine (IS.out _ _ _ A6.out).mono ?_); rintro e' w7 ⟨rfl, hk⟩; have K7 := Lib.hid (Kp.trans K6.out hk); have R7 := Lib.hid (kp_row hk R6.out); have A7 := Lib.hid (A6.out.kp hk); have B7 := Lib.hid (B6.out.kp hk); have CB7 := Lib.hid (kp_cell hk CB6.out); have D7 := Lib.hid (D6.out.kp hk); have CD7 := Lib.hid (kp_cell hk CD6.out); clear hk))
  have KN := Lib.hid (kp_alloc w7 (.cells #[.int .i64 s] 3))
  have ON := Lib.hid (own_one w7 s)
  clear R1 R2 R3 R4 R5 R6 A2 A3 A4 A5 A6 B3 B4 B5 B6 CB3 CB4 CB5 CB6 D4 D5 D6 CD4 CD5 CD6 g10 g11 g20 g21 g30 g31 g40 g41 S1 S2 S3 HA I14 IS HE14
  go_wp2
  go_loopw [12, 13] (fun sn i wr => ∃ m : Nat, m ≤ 14 ∧ m ≤ (seenT p e s m).length ∧ i = .int .i64 m ∧ Kp w7 wr ∧ wr.ownsRow w7.heap.size 3 1 sn (seenT p e s m).length ((seenT p e s m).map (Value.int .i64))) (fun _ i _ => 15 - (intOf i).toNat)
  case atStart => exact ⟨0, by omega, by omega, rfl, KN.out, ON.out⟩
  case round =>
    obtain ⟨m, hm14, hms, rfl, hk, hown⟩ := hrel
    obtain ⟨mm, hmm⟩ : ∃ mm : Int, (m : Int) = mm := ⟨_, rfl⟩
    rw [hmm]
    obtain ⟨wo, hwo⟩ : ∃ wo, wo = wr := ⟨wr, rfl⟩
    rw [← hwo] at hk hown ⊢
    clear hwo
    obtain ⟨ok1, ok2, ok3⟩ := OKS.out m hm14
    have nx1 : seenT p e s (m + 1) = addT (seenT p e s m) (nextT p e ((seenT p e s m).getD m 0)) := rfl
    obtain ⟨S, hS⟩ : ∃ y, seenT p e s m = y := ⟨_, rfl⟩
    rw [hS] at hms hown ok1 ok2 ok3 nx1
    have hsl := own_sli hown
    obtain ⟨an, cn, hv⟩ := hsl.form
    subst hv
    obtain ⟨sl, hsl2⟩ : ∃ y : Int, (S.length : Int) = y := ⟨_, rfl⟩
    have KO := Lib.hid hk
    have OW := Lib.hid hown
    have M := Lib.hid (And.intro hm14 (And.intro hms hmm))
    by_cases hlt : m < S.length
    · obtain ⟨b, off, hab, ct⟩ := hsl.at m hlt
      have hg : S.getD m 0 = S[m] := by simp [List.getD, hlt]
      rw [hg] at ct nx1
      have hin := ok1 S[m] (List.getElem_mem hlt)
      obtain ⟨x, hx⟩ : ∃ y, S[m] = y := ⟨_, rfl⟩
      rw [hx] at ct nx1 hin
      have ej : mm.toNat = m := by omega
      rw [← ej] at ct
      have m0 : 0 ≤ mm := by omega
      have mlt : mm < sl := by omega
      have m14 : mm ≤ 14 := by omega
      have HIN := Lib.hid hin
      have NI := Lib.hid (NXI.out x hin)
      have NL := Lib.hid (NXL.out x)
      have HNX1 := Lib.hid nx1
      have HS := Lib.hid hS
      have SL := Lib.hid (And.intro ok2 hlt)
      have x64 := states_i64 hin
      have R8 := Lib.hid (kp_row hk R7.out)
      have B8 := Lib.hid (B7.out.kp hk)
      have CB8 := Lib.hid (kp_cell hk CB7.out)
      have D8 := Lib.hid (D7.out.kp hk)
      have CD8 := Lib.hid (kp_cell hk CD7.out)
      have KW := Lib.hid (Kp.trans K7.out hk)
      have X64 := Lib.hid x64
      subst hab
      clear hg hx hin nx1 hS ej ok1 ok2 ok3 hk hown hsl hms hm14 x64
      go_wp2_with (go_at_call 26; (with_reducible refine (HNX.out x X64.out _ KW.out _ _ _ _ _ _ _ CB8.out B8.out R8.out CD8.out D8.out).mono ?_); rintro e' w9 ⟨v9, rfl, ho, hk⟩; obtain ⟨a9, c9, rfl⟩ := (own_sli ho).form; have K9 := Lib.hid (Kp.trans KO.out hk); have HK9 := Lib.hid hk; have O9 := Lib.hid ho; clear ho hk)
      obtain ⟨NX, hNX⟩ : ∃ y, nextT p e x = y := ⟨_, rfl⟩
      rw [hNX] at NI NL HNX1 O9 ⊢
      obtain ⟨nl, hnl⟩ : ∃ y, NX.length = y := ⟨_, rfl⟩
      rw [hnl] at NL O9 ⊢
      have HNL := Lib.hid hnl
      have T9 : Hid (ThreeR w7.heap.size (.slice (some ⟨b, off, none⟩) S.length cn) (.slice a9 nl c9) (.slice none 0 0) S NX [] w9) := Lib.hid ⟨own_kp OW.out HK9.out, by rw [hnl]; exact own_mono O9.out (Below.size KO.out), World.ownsRow_nil _ _ _ _, fun k q g => by
        have h1 := own_oldI OW.out q
        have h2 := own_blk O9.out g
        omega, fun k q g => by simp [Value.ownBlock] at g, fun k q g => by simp [Value.ownBlock] at g⟩
      clear hNX hnl R8 B8 CB8 D8 CD8 O9 ct
      go_loopw [12, 79] (fun sn2 i2 wr2 => ∃ j : Nat, j ≤ nl ∧ i2 = .int .i64 j ∧ Kp w7 wr2 ∧ ThreeR w7.heap.size sn2 (.slice a9 nl c9) (.slice none 0 0) (addT S (NX.take j)) NX [] wr2) (fun _ i2 _ => nl - (intOf i2).toNat)
      case atStart => exact ⟨0, Nat.zero_le _, rfl, K9.out, T9.out⟩
      case round =>
        obtain ⟨j, hj, rfl, hk, h3⟩ := hrel
        obtain ⟨jj, hjj⟩ : ∃ jj : Int, (j : Int) = jj := ⟨_, rfl⟩
        rw [hjj]
        have K0 := Lib.hid hk
        have T0 := Lib.hid h3
        have hln := HNL.out
        have A8 := Lib.hid (A7.out.kp hk)
        by_cases hlt2 : j < nl
        · have hjl : j < NX.length := by omega
          have hy := own_sli h3.oy
          obtain ⟨b2, off2, hab2, ct2⟩ := hy.at j hjl
          have hg2 : NX.getD j 0 = NX[j] := by simp [List.getD, hjl]
          rw [hg2] at ct2
          have htk : NX.take (j + 1) = NX.take j ++ [NX[j]] := by rw [List.take_add_one, List.getElem?_eq_getElem hjl]; rfl
          have hnin := NI.out NX[j] (List.getElem_mem hjl)
          obtain ⟨n, hn⟩ : ∃ y, NX[j] = y := ⟨_, rfl⟩
          rw [hn] at ct2 htk hnin
          have ej : jj.toNat = j := by omega
          rw [← ej] at ct2
          have j0 : 0 ≤ jj := by omega
          have jlt : jj < nl := by omega
          have j28 : jj ≤ 28 := by have := NL.out; omega
          have hadd : addT S (NX.take (j + 1)) = if n ∈ addT S (NX.take j) then addT S (NX.take j) else addT S (NX.take j) ++ [n] := by rw [htk, addT_snoc]
          have hql := (addT_len (NX.take j) S).2
          rw [List.length_take] at hql
          obtain ⟨Q, hQ⟩ : ∃ y, addT S (NX.take j) = y := ⟨_, rfl⟩
          rw [hQ] at hadd hql h3
          have hox := own_sli h3.ox
          obtain ⟨aq, cq, hvq⟩ := hox.form
          subst hvq
          have T0 := Lib.hid h3
          have QL := Lib.hid (show Q.length ≤ 100 by have := NL.out; have := SL.out.1; omega)
          have IQ := Lib.hid (fun (w1 : World) (hk1 : Kp wr w1) => in_any aq cq Q.length Q rfl (by have := QL.out; omega) n w1 (hox.kp hk1))
          have HNI := Lib.hid hnin
          have J := Lib.hid (And.intro hj (And.intro hlt2 hjj))
          subst hab2
          by_cases hq : n ∈ Q
          · rw [if_pos hq] at hadd
            have HADD := Lib.hid hadd
            have IQ2 := IQ.out
            simp only [decide_eq_true hq] at IQ2
            have IQ3 := Lib.hid IQ2
            clear hg2 htk hnin hn hadd hql hQ hox IQ2 IQ hq hjl hln hlt2 ej hjj hk h3 hy hj
            go_wp2_with (first
              | (go_at_call 27; (with_reducible refine (IX.out n HNI.out _ _ _ A8.out).mono ?_); rintro e' wa ⟨rfl, hk⟩; have KA := Lib.hid hk; clear hk)
              | (go_at_call 27; (with_reducible refine (IQ3.out _ KA.out).mono ?_); rintro e' wb ⟨rfl, hk⟩; have KC := Lib.hid (Kp.trans KA.out hk); clear hk))
            have hlt2 := J.out.2.1
            have hjj := J.out.2.2
            go_roundw
            case rel => exact ⟨j + 1, by omega, by congr 1; omega, Kp.trans K0.out KC.out, by rw [HADD.out]; exact T0.out.kp KC.out⟩
            case measure => simp [intOf]; omega
          · rw [if_neg hq] at hadd
            have HADD := Lib.hid hadd
            have IQ2 := IQ.out
            simp only [decide_eq_false hq] at IQ2
            have IQ3 := Lib.hid IQ2
            clear hg2 htk hnin hn hadd hql hQ hox IQ2 IQ hq hjl hln hlt2 ej hjj hk h3 hy hj
            go_wp2_with (first
              | (go_at_call 27; (with_reducible refine (IX.out n HNI.out _ _ _ A8.out).mono ?_); rintro e' wa ⟨rfl, hk⟩; have KA := Lib.hid hk; clear hk)
              | (go_at_call 27; (with_reducible refine (IQ3.out _ KA.out).mono ?_); rintro e' wb ⟨rfl, hk⟩; have KC := Lib.hid (Kp.trans KA.out (Kp.trans hk (kp_alloc wb (.cells #[.int .i64 n] 3)))); have TC := Lib.hid (T0.out.kp KC.out); clear hk)
              | (at_builtin; refine wpList_append_int _ rfl (.tmp 91) (.tmp 93) rfl w7.heap.size _ _ _ rfl TC.out.ox ⟨wb.heap.size, 0, none⟩ n rfl ?c1 ?c2 ?c3 ?_))
            case c1 => rw [add_plain]; exact box_cell _ _ _
            case c2 => have := QL.out; omega
            case c3 => exact Below.size (Kp.trans K0.out KC.out)
            rintro vd wd ho hgr hbl
            have TD := Lib.hid (ThreeR.app TC.out ho hgr (fun k q => by have := hbl k q; simpa using this))
            have KD := Lib.hid (grown_kpI TC.out.ox hgr (Kp.trans K0.out KC.out) (Nat.le_refl _))
            clear ho hgr hbl
            go_wp2
            have hlt2 := J.out.2.1
            have hjj := J.out.2.2
            go_roundw
            case rel => exact ⟨j + 1, by omega, by congr 1; omega, KD.out, by rw [HADD.out]; exact TD.out⟩
            case measure => simp [intOf]; omega
        · obtain rfl : j = nl := by omega
          have hex : ¬ jj < j := by omega
          rw [List.take_of_length_le (by omega), ← HNX1.out] at h3
          have OX := Lib.hid h3.ox
          have hge := (addT_len NX S).1
          rw [← HNX1.out] at hge
          have HGE := Lib.hid hge
          clear hge hln hlt2 hk h3
          go_wp2
          have hmm := M.out.2.2
          have hm1 := SL.out.1
          have hm2 := SL.out.2
          have hge := HGE.out
          go_roundw
          case rel => exact ⟨m + 1, by omega, by omega, by congr 1; omega, K0.out, OX.out⟩
          case measure => simp [intOf]; omega
    · have hml : S.length = m := by omega
      have hex : ¬ mm < sl := by omega
      have h14 := ok3 hml
      have IE := Lib.hid (show Calls Tryd.prog 27 #[.slice an m cn, .int .i64 14] wo fun e w' => e = .returned (.bool true) ∧ Kp wo w' from by have := in_any an cn m S hml (by omega) 14 wo (hml ▸ hsl); rw [decide_eq_true h14] at this; exact this)
      clear hms hm14 ok1 ok2 ok3 nx1 hS hown hsl hk hlt
      go_wp2_with (go_at_call 27; (with_reducible refine IE.out.mono ?_); rintro e' wz ⟨rfl, hk⟩; have KZ := Lib.hid hk; clear hk)
      go_ret
      exact ⟨by first | rfl | simp, Kp.trans K7.out (Kp.trans KO.out KZ.out)⟩
theorem tend_any (ads : List Addr) (p e s : Int) (hp : i64T p) (he : i64T e) (w : World) (C : TabC ads w) (TS : TabS ads w) :
    Calls Tryd.prog 7 #[.agg #[.int .i64 p, .int .i64 e], .int .i64 s] w fun e' w' => e' = .returned (.bool true) ∧ Kp w w' := by
  cases h : rightT p e with
  | false => exact tend_wrong ads p e s hp he w C TS h
  | true =>
    by_cases hs : s ∈ statesL p e
    · exact tend_in ads p e s hp he w C TS h hs
    · exact tend_not ads p e s hp he w C TS h hs
end Go.Proofs.YtoeidlhcioponaaDoor
