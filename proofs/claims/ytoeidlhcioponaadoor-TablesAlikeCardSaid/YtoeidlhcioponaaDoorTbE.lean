/-
  PACKAGE tables (own work): pick, States, Takes, Sends.
-/
import Derived.Test.YtoeidlhcioponaaDoorTbA
import Derived.Test.YtoeidlhcioponaaDoorTliV
import Derived.Test.YtoeidlhcioponaaDoorRefL
import Derived.Laws.EntriesVeiled
namespace Go.Proofs.YtoeidlhcioponaaDoor
open Go.RowKit Go.ChangeShapes Go.WideShapes

theorem kp_drewU {a b : World} (h : Kp a b) : Kp a b.drew := ⟨h.os, h.tape, h.output, h.size, h.block⟩
theorem kp_drewT {a b : World} (h : Kp a b) (n : Nat) : Kp a (b.drewN n) := ⟨h.os, h.tape, h.output, h.size, h.block⟩
theorem states_14 : ∀ q ∈ sidesT, statesL q.1 q.2 = (allT.take 14).filter (hasT q.1 q.2) := by decide +kernel
set_option maxRecDepth 100000 in
theorem pick_wrong (ads : List Addr) (p e m : Int) (v : Value) (h : rightT p e = false) (w : World) (c14 : w.cell? ⟨0, 0, none⟩ = some (errI ads 14)) :
    Calls Tryd.prog 41 #[.int .i64 p, .int .i64 e, .int .i64 m, v] w fun e' w' => e' = .returned (.tuple #[.slice none 0 0, errI ads 14]) ∧ Kp w w' := by
  have HK := Lib.hid (fun w => h ▸ known_any p e w)
  obtain ⟨q, hq⟩ : ∃ x, errI ads 14 = x := ⟨_, rfl⟩
  rw [hq] at c14 ⊢
  clear h hq
  go_enter Tryd.func41, Tryd.ntmps41
  go_wp2_with (go_at_call 28; (with_reducible refine (HK.out _).mono ?_); rintro e' w2 ⟨rfl, rfl⟩)
  go_quiet (fail)
  go_wp2
  go_ret2
  exact ⟨rfl, kp_drewT (Kp.refl _) _⟩
theorem states1_any (p e n : Int) (he : e = 1 ∨ e = 2) (g1 g2 : Nat) (w : World) (c1 : w.cell? ⟨g1, 0, none⟩ = some (.int .i64 p)) (c2 : w.cell? ⟨g2, 0, none⟩ = some (.int .i64 e)) :
    Calls Tryd.prog 42 #[.int .i64 n, .pointer (some ⟨g1, 0, none⟩), .pointer (some ⟨g2, 0, none⟩)] w fun e' w' => e' = .returned (.bool (hasT p e n)) ∧ w = w' := by
  have HH := Lib.hid (fun w => has_any p e n w)
  have _u := he; clear _u he
  go_enter Tryd.func42, Tryd.ntmps42
  go_wp2_with (go_at_call 30; (with_reducible refine (HH.out _).mono ?_); rintro e' w' ⟨rfl, rfl⟩)
  go_ret
  exact ⟨rfl, rfl⟩
set_option maxRecDepth 100000 in
set_option maxHeartbeats 2000000 in
theorem pickStates_any (p e : Int) (h : rightT p e = true) (g1 g2 : Nat) (w : World) (c1 : w.cell? ⟨g1, 0, none⟩ = some (.int .i64 p)) (c2 : w.cell? ⟨g2, 0, none⟩ = some (.int .i64 e)) :
    Calls Tryd.prog 41 #[.int .i64 p, .int .i64 e, .int .i64 14, .func (.func 42) #[] #[.pointer (some ⟨g1, 0, none⟩), .pointer (some ⟨g2, 0, none⟩)]] w fun e' w' => ∃ v, e' = .returned (.tuple #[v, .nilIface]) ∧ SlI v ((allT.take 14).filter (hasT p e)) w' ∧ Kp w w' := by
  have HK := Lib.hid (fun w => h ▸ known_any p e w)
  have HC := Lib.hid (fun n w1 (hk : Kp w w1) => states1_any p e n (rightT_rng h).2 g1 g2 w1 (kp_cell hk c1) (kp_cell hk c2))
  clear h c1 c2
  go_enter Tryd.func41, Tryd.ntmps41
  go_wp2_with (go_at_call 28; (with_reducible refine (HK.out _).mono ?_); rintro e' w2 ⟨rfl, rfl⟩)
  go_loopw [10, 11] (fun v i wr => ∃ m : Nat, m ≤ 14 ∧ i = .int .i64 ((m : Int) + 1) ∧ Kp w wr ∧ wr.ownsRow w.heap.size 3 1 v ((allT.take m).filter (hasT p e)).length (((allT.take m).filter (hasT p e)).map (Value.int .i64))) (fun _ i _ => 15 - (intOf i).toNat)
  case atStart => exact ⟨0, by omega, rfl, Kp.refl _, World.ownsRow_nil _ _ _ _⟩
  case round =>
    obtain ⟨m, hm, rfl, hk, ho⟩ := hrel
    obtain ⟨nn, hnn⟩ : ∃ nn : Int, (m : Int) + 1 = nn := ⟨_, rfl⟩
    rw [hnn]
    by_cases hlt : m < 14
    · have hle : nn ≤ 14 := by omega
      have f1 := take_next (hasT p e) m (by omega) nn hnn
      have l1 := take_len (hasT p e) m
      obtain ⟨xa, hxa⟩ : ∃ y, (allT.take m).filter (hasT p e) = y := ⟨_, rfl⟩
      rw [hxa] at f1 ho l1
      have M := Lib.hid (And.intro hm (And.intro hlt hnn))
      have L1 := Lib.hid l1
      have K0 := Lib.hid hk
      have T0 := Lib.hid ho
      have H1 := HC.out nn wr hk
      clear hxa hk ho hlt hm hnn l1
      cases q1 : hasT p e nn with
      | true =>
        rw [q1] at H1 f1
        rw [if_pos rfl] at f1
        have H1 := Lib.hid H1
        have F := Lib.hid f1
        have K0A := Lib.hid (Kp.trans K0.out (kp_alloc wr (.cells #[.int .i64 nn] 3)))
        have T0A := Lib.hid (own_kp T0.out (kp_alloc wr (.cells #[.int .i64 nn] 3)))
        have C0A := Lib.hid (box_cell wr (.int .i64 nn) 3)
        clear q1 f1
        go_wp2_with (first | (go_at_call 42; (with_reducible refine H1.out.mono ?_); rintro e' w' ⟨rfl, rfl⟩) | (at_builtin; refine wpList_append_int _ rfl (.tmp 25) (.tmp 27) rfl w.heap.size _ _ _ rfl T0A.out ⟨wr.heap.size, 0, none⟩ nn rfl ?c1 ?c2 ?c3 ?_))
        case c1 => rw [add_plain]; exact C0A.out
        case c2 => have := L1.out; omega
        case c3 => exact Below.size K0A.out
        rintro v1 w1a ho hg hb
        have T1 := Lib.hid ho
        have K1 := Lib.hid (grown_kpI T0A.out hg K0A.out (Nat.le_refl _))
        clear ho hg hb
        go_wp2
        have hnn := M.out.2.2
        have hlt := M.out.2.1
        rw [IntWalk.wrap64_in (nn + 1) (by omega)]
        go_roundw
        case rel => exact ⟨m + 1, by omega, by congr 1; omega, K1.out, by rw [F.out, List.length_append, List.map_append]; exact T1.out⟩
        case measure => simp [intOf]; omega
      | false =>
        rw [q1] at H1 f1
        rw [if_neg (by decide), List.append_nil] at f1
        have H1 := Lib.hid H1
        have F := Lib.hid f1
        clear q1 f1
        go_wp2_with (go_at_call 42; (with_reducible refine H1.out.mono ?_); rintro e' w' ⟨rfl, rfl⟩)
        have hnn := M.out.2.2
        have hlt := M.out.2.1
        rw [IntWalk.wrap64_in (nn + 1) (by omega)]
        go_roundw
        case rel => exact ⟨m + 1, by omega, by congr 1; omega, K0.out, by rw [F.out]; exact T0.out⟩
        case measure => simp [intOf]; omega
    · obtain rfl : m = 14 := by omega
      have hex : ¬ nn ≤ 14 := by omega
      have X := Lib.hid (own_sli ho)
      have KW := Lib.hid hk
      clear hk ho hlt hm hnn
      go_wp2
      go_ret2
      exact ⟨_, rfl, X.out, KW.out⟩
set_option maxRecDepth 100000 in
theorem statesF_any (ads : List Addr) (p e : Int) (w : World) (c14 : w.cell? ⟨0, 0, none⟩ = some (errI ads 14)) :
    Calls Tryd.prog 20 #[.int .i64 p, .int .i64 e] w fun e' w' => ∃ v, e' = .returned (.tuple #[v, errI ads (if rightT p e = true then 0 else 14)]) ∧ SlI v (if rightT p e = true then statesL p e else []) w' ∧ Kp w w' := by
  have hmf : ∀ (fn : Fn) (first cap : Array Value) (w : World), (Instr.makeFunc fn first cap).run Tryd.prog w = .ok (.func fn first cap) w := fun _ _ _ _ => rfl
  have k2 := Kp.trans (kp_alloc w (.cells #[.int .i64 p] 3)) (kp_alloc (w.alloc (.cells #[.int .i64 p] 3)) (.cells #[.int .i64 e] 3))
  have c1 : ((w.alloc (.cells #[.int .i64 p] 3)).alloc (.cells #[.int .i64 e] 3)).cell? ⟨w.heap.size, 0, none⟩ = some (.int .i64 p) := kp_cell (kp_alloc (w.alloc (.cells #[.int .i64 p] 3)) (.cells #[.int .i64 e] 3)) (box_cell w (.int .i64 p) 3)
  have c2 : ((w.alloc (.cells #[.int .i64 p] 3)).alloc (.cells #[.int .i64 e] 3)).cell? ⟨w.heap.size + 1, 0, none⟩ = some (.int .i64 e) := by simp
  have K2 := Lib.hid k2
  cases h : rightT p e with
  | false =>
    have HP := Lib.hid (fun v => pick_wrong ads p e 14 v h _ (kp_cell k2 c14))
    rw [if_neg (by decide), if_neg (by decide)]
    obtain ⟨q, hq⟩ : ∃ x, errI ads 14 = x := ⟨_, rfl⟩
    rw [hq] at HP ⊢
    clear h hq k2 c14
    go_enter Tryd.func20, Tryd.ntmps20
    go_wp2_with (go_at_call 41; (with_reducible refine (HP.out _).mono ?_); rintro e' w3 ⟨rfl, hk⟩; have K3 := Lib.hid (Kp.trans K2.out hk); clear hk)
    go_ret2
    exact ⟨_, rfl, .inl ⟨rfl, none, 0, rfl⟩, K3.out⟩
  | true =>
    have HP := Lib.hid (pickStates_any p e h _ _ _ c1 c2)
    rw [if_pos rfl, if_pos rfl]
    have e0 : errI ads 0 = .nilIface := errI_nil ads
    rw [e0]
    have L := Lib.hid (states_14 (p, e) (rightT_mem h))
    clear h k2 c14 e0
    go_enter Tryd.func20, Tryd.ntmps20
    go_wp2_with (go_at_call 41; (with_reducible refine HP.out.mono ?_); rintro e' w3 ⟨v, rfl, hs, hk⟩; have K3 := Lib.hid (Kp.trans K2.out hk); have S3 := Lib.hid hs; clear hk hs)
    go_ret2
    exact ⟨_, rfl, by rw [L.out]; exact S3.out, K3.out⟩
theorem takes1_any (p e n : Int) (he : e = 1 ∨ e = 2) (g1 g2 : Nat) (w : World) (c1 : w.cell? ⟨g1, 0, none⟩ = some (.int .i64 p)) (c2 : w.cell? ⟨g2, 0, none⟩ = some (.int .i64 e)) :
    Calls Tryd.prog 43 #[.int .i64 n, .pointer (some ⟨g1, 0, none⟩), .pointer (some ⟨g2, 0, none⟩)] w fun e' w' => e' = .returned (.bool (takesT p e n)) ∧ w = w' := by
  have HH := Lib.hid (fun w => takes_any p e n w)
  have _u := he; clear _u he
  go_enter Tryd.func43, Tryd.ntmps43
  go_wp2_with (go_at_call 29; (with_reducible refine (HH.out _).mono ?_); rintro e' w' ⟨rfl, rfl⟩)
  go_ret
  exact ⟨rfl, rfl⟩
set_option maxRecDepth 100000 in
set_option maxHeartbeats 2000000 in
theorem pickTakes_any (p e : Int) (h : rightT p e = true) (g1 g2 : Nat) (w : World) (c1 : w.cell? ⟨g1, 0, none⟩ = some (.int .i64 p)) (c2 : w.cell? ⟨g2, 0, none⟩ = some (.int .i64 e)) :
    Calls Tryd.prog 41 #[.int .i64 p, .int .i64 e, .int .i64 19, .func (.func 43) #[] #[.pointer (some ⟨g1, 0, none⟩), .pointer (some ⟨g2, 0, none⟩)]] w fun e' w' => ∃ v, e' = .returned (.tuple #[v, .nilIface]) ∧ SlI v ((allT.take 19).filter (takesT p e)) w' ∧ Kp w w' := by
  have HK := Lib.hid (fun w => h ▸ known_any p e w)
  have HC := Lib.hid (fun n w1 (hk : Kp w w1) => takes1_any p e n (rightT_rng h).2 g1 g2 w1 (kp_cell hk c1) (kp_cell hk c2))
  clear h c1 c2
  go_enter Tryd.func41, Tryd.ntmps41
  go_wp2_with (go_at_call 28; (with_reducible refine (HK.out _).mono ?_); rintro e' w2 ⟨rfl, rfl⟩)
  go_loopw [10, 11] (fun v i wr => ∃ m : Nat, m ≤ 19 ∧ i = .int .i64 ((m : Int) + 1) ∧ Kp w wr ∧ wr.ownsRow w.heap.size 3 1 v ((allT.take m).filter (takesT p e)).length (((allT.take m).filter (takesT p e)).map (Value.int .i64))) (fun _ i _ => 20 - (intOf i).toNat)
  case atStart => exact ⟨0, by omega, rfl, Kp.refl _, World.ownsRow_nil _ _ _ _⟩
  case round =>
    obtain ⟨m, hm, rfl, hk, ho⟩ := hrel
    obtain ⟨nn, hnn⟩ : ∃ nn : Int, (m : Int) + 1 = nn := ⟨_, rfl⟩
    rw [hnn]
    by_cases hlt : m < 19
    · have hle : nn ≤ 19 := by omega
      have f1 := take_next (takesT p e) m (by omega) nn hnn
      have l1 := take_len (takesT p e) m
      obtain ⟨xa, hxa⟩ : ∃ y, (allT.take m).filter (takesT p e) = y := ⟨_, rfl⟩
      rw [hxa] at f1 ho l1
      have M := Lib.hid (And.intro hm (And.intro hlt hnn))
      have L1 := Lib.hid l1
      have K0 := Lib.hid hk
      have T0 := Lib.hid ho
      have H1 := HC.out nn wr hk
      clear hxa hk ho hlt hm hnn l1
      cases q1 : takesT p e nn with
      | true =>
        rw [q1] at H1 f1
        rw [if_pos rfl] at f1
        have H1 := Lib.hid H1
        have F := Lib.hid f1
        have K0A := Lib.hid (Kp.trans K0.out (kp_alloc wr (.cells #[.int .i64 nn] 3)))
        have T0A := Lib.hid (own_kp T0.out (kp_alloc wr (.cells #[.int .i64 nn] 3)))
        have C0A := Lib.hid (box_cell wr (.int .i64 nn) 3)
        clear q1 f1
        go_wp2_with (first | (go_at_call 43; (with_reducible refine H1.out.mono ?_); rintro e' w' ⟨rfl, rfl⟩) | (at_builtin; refine wpList_append_int _ rfl (.tmp 25) (.tmp 27) rfl w.heap.size _ _ _ rfl T0A.out ⟨wr.heap.size, 0, none⟩ nn rfl ?c1 ?c2 ?c3 ?_))
        case c1 => rw [add_plain]; exact C0A.out
        case c2 => have := L1.out; omega
        case c3 => exact Below.size K0A.out
        rintro v1 w1a ho hg hb
        have T1 := Lib.hid ho
        have K1 := Lib.hid (grown_kpI T0A.out hg K0A.out (Nat.le_refl _))
        clear ho hg hb
        go_wp2
        have hnn := M.out.2.2
        have hlt := M.out.2.1
        rw [IntWalk.wrap64_in (nn + 1) (by omega)]
        go_roundw
        case rel => exact ⟨m + 1, by omega, by congr 1; omega, K1.out, by rw [F.out, List.length_append, List.map_append]; exact T1.out⟩
        case measure => simp [intOf]; omega
      | false =>
        rw [q1] at H1 f1
        rw [if_neg (by decide), List.append_nil] at f1
        have H1 := Lib.hid H1
        have F := Lib.hid f1
        clear q1 f1
        go_wp2_with (go_at_call 43; (with_reducible refine H1.out.mono ?_); rintro e' w' ⟨rfl, rfl⟩)
        have hnn := M.out.2.2
        have hlt := M.out.2.1
        rw [IntWalk.wrap64_in (nn + 1) (by omega)]
        go_roundw
        case rel => exact ⟨m + 1, by omega, by congr 1; omega, K0.out, by rw [F.out]; exact T0.out⟩
        case measure => simp [intOf]; omega
    · obtain rfl : m = 19 := by omega
      have hex : ¬ nn ≤ 19 := by omega
      have X := Lib.hid (own_sli ho)
      have KW := Lib.hid hk
      clear hk ho hlt hm hnn
      go_wp2
      go_ret2
      exact ⟨_, rfl, X.out, KW.out⟩
set_option maxRecDepth 100000 in
theorem takesF_any (ads : List Addr) (p e : Int) (w : World) (c14 : w.cell? ⟨0, 0, none⟩ = some (errI ads 14)) :
    Calls Tryd.prog 21 #[.int .i64 p, .int .i64 e] w fun e' w' => ∃ v, e' = .returned (.tuple #[v, errI ads (if rightT p e = true then 0 else 14)]) ∧ SlI v (if rightT p e = true then takesL p e else []) w' ∧ Kp w w' := by
  have hmf : ∀ (fn : Fn) (first cap : Array Value) (w : World), (Instr.makeFunc fn first cap).run Tryd.prog w = .ok (.func fn first cap) w := fun _ _ _ _ => rfl
  have k2 := Kp.trans (kp_alloc w (.cells #[.int .i64 p] 3)) (kp_alloc (w.alloc (.cells #[.int .i64 p] 3)) (.cells #[.int .i64 e] 3))
  have c1 : ((w.alloc (.cells #[.int .i64 p] 3)).alloc (.cells #[.int .i64 e] 3)).cell? ⟨w.heap.size, 0, none⟩ = some (.int .i64 p) := kp_cell (kp_alloc (w.alloc (.cells #[.int .i64 p] 3)) (.cells #[.int .i64 e] 3)) (box_cell w (.int .i64 p) 3)
  have c2 : ((w.alloc (.cells #[.int .i64 p] 3)).alloc (.cells #[.int .i64 e] 3)).cell? ⟨w.heap.size + 1, 0, none⟩ = some (.int .i64 e) := by simp
  have K2 := Lib.hid k2
  cases h : rightT p e with
  | false =>
    have HP := Lib.hid (fun v => pick_wrong ads p e 19 v h _ (kp_cell k2 c14))
    rw [if_neg (by decide), if_neg (by decide)]
    obtain ⟨q, hq⟩ : ∃ x, errI ads 14 = x := ⟨_, rfl⟩
    rw [hq] at HP ⊢
    clear h hq k2 c14
    go_enter Tryd.func21, Tryd.ntmps21
    go_wp2_with (go_at_call 41; (with_reducible refine (HP.out _).mono ?_); rintro e' w3 ⟨rfl, hk⟩; have K3 := Lib.hid (Kp.trans K2.out hk); clear hk)
    go_ret2
    exact ⟨_, rfl, .inl ⟨rfl, none, 0, rfl⟩, K3.out⟩
  | true =>
    have HP := Lib.hid (pickTakes_any p e h _ _ _ c1 c2)
    rw [if_pos rfl, if_pos rfl]
    have e0 : errI ads 0 = .nilIface := errI_nil ads
    rw [e0]
    have L := Lib.hid ((show takesL p e = (allT.take 19).filter (takesT p e) from rfl))
    clear h k2 c14 e0
    go_enter Tryd.func21, Tryd.ntmps21
    go_wp2_with (go_at_call 41; (with_reducible refine HP.out.mono ?_); rintro e' w3 ⟨v, rfl, hs, hk⟩; have K3 := Lib.hid (Kp.trans K2.out hk); have S3 := Lib.hid hs; clear hk hs)
    go_ret2
    exact ⟨_, rfl, by rw [L.out]; exact S3.out, K3.out⟩
theorem sends1_any (p e n : Int) (he : e = 1 ∨ e = 2) (g1 g2 : Nat) (w : World) (c1 : w.cell? ⟨g1, 0, none⟩ = some (.int .i64 p)) (c2 : w.cell? ⟨g2, 0, none⟩ = some (.int .i64 e)) :
    Calls Tryd.prog 44 #[.int .i64 n, .pointer (some ⟨g1, 0, none⟩), .pointer (some ⟨g2, 0, none⟩)] w fun e' w' => e' = .returned (.bool (sendsT p e n)) ∧ w = w' := by
  have HH := Lib.hid (fun w => sends_any p e n he w)
  clear he
  go_enter Tryd.func44, Tryd.ntmps44
  go_wp2_with (go_at_call 36; (with_reducible refine (HH.out _).mono ?_); rintro e' w' ⟨rfl, rfl⟩)
  go_ret
  exact ⟨rfl, rfl⟩
set_option maxRecDepth 100000 in
set_option maxHeartbeats 2000000 in
theorem pickSends_any (p e : Int) (h : rightT p e = true) (g1 g2 : Nat) (w : World) (c1 : w.cell? ⟨g1, 0, none⟩ = some (.int .i64 p)) (c2 : w.cell? ⟨g2, 0, none⟩ = some (.int .i64 e)) :
    Calls Tryd.prog 41 #[.int .i64 p, .int .i64 e, .int .i64 19, .func (.func 44) #[] #[.pointer (some ⟨g1, 0, none⟩), .pointer (some ⟨g2, 0, none⟩)]] w fun e' w' => ∃ v, e' = .returned (.tuple #[v, .nilIface]) ∧ SlI v ((allT.take 19).filter (sendsT p e)) w' ∧ Kp w w' := by
  have HK := Lib.hid (fun w => h ▸ known_any p e w)
  have HC := Lib.hid (fun n w1 (hk : Kp w w1) => sends1_any p e n (rightT_rng h).2 g1 g2 w1 (kp_cell hk c1) (kp_cell hk c2))
  clear h c1 c2
  go_enter Tryd.func41, Tryd.ntmps41
  go_wp2_with (go_at_call 28; (with_reducible refine (HK.out _).mono ?_); rintro e' w2 ⟨rfl, rfl⟩)
  go_loopw [10, 11] (fun v i wr => ∃ m : Nat, m ≤ 19 ∧ i = .int .i64 ((m : Int) + 1) ∧ Kp w wr ∧ wr.ownsRow w.heap.size 3 1 v ((allT.take m).filter (sendsT p e)).length (((allT.take m).filter (sendsT p e)).map (Value.int .i64))) (fun _ i _ => 20 - (intOf i).toNat)
  case atStart => exact ⟨0, by omega, rfl, Kp.refl _, World.ownsRow_nil _ _ _ _⟩
  case round =>
    obtain ⟨m, hm, rfl, hk, ho⟩ := hrel
    obtain ⟨nn, hnn⟩ : ∃ nn : Int, (m : Int) + 1 = nn := ⟨_, rfl⟩
    rw [hnn]
    by_cases hlt : m < 19
    · have hle : nn ≤ 19 := by omega
      have f1 := take_next (sendsT p e) m (by omega) nn hnn
      have l1 := take_len (sendsT p e) m
      obtain ⟨xa, hxa⟩ : ∃ y, (allT.take m).filter (sendsT p e) = y := ⟨_, rfl⟩
      rw [hxa] at f1 ho l1
      have M := Lib.hid (And.intro hm (And.intro hlt hnn))
      have L1 := Lib.hid l1
      have K0 := Lib.hid hk
      have T0 := Lib.hid ho
      have H1 := HC.out nn wr hk
      clear hxa hk ho hlt hm hnn l1
      cases q1 : sendsT p e nn with
      | true =>
        rw [q1] at H1 f1
        rw [if_pos rfl] at f1
        have H1 := Lib.hid H1
        have F := Lib.hid f1
        have K0A := Lib.hid (Kp.trans K0.out (kp_alloc wr (.cells #[.int .i64 nn] 3)))
        have T0A := Lib.hid (own_kp T0.out (kp_alloc wr (.cells #[.int .i64 nn] 3)))
        have C0A := Lib.hid (box_cell wr (.int .i64 nn) 3)
        clear q1 f1
        go_wp2_with (first | (go_at_call 44; (with_reducible refine H1.out.mono ?_); rintro e' w' ⟨rfl, rfl⟩) | (at_builtin; refine wpList_append_int _ rfl (.tmp 25) (.tmp 27) rfl w.heap.size _ _ _ rfl T0A.out ⟨wr.heap.size, 0, none⟩ nn rfl ?c1 ?c2 ?c3 ?_))
        case c1 => rw [add_plain]; exact C0A.out
        case c2 => have := L1.out; omega
        case c3 => exact Below.size K0A.out
        rintro v1 w1a ho hg hb
        have T1 := Lib.hid ho
        have K1 := Lib.hid (grown_kpI T0A.out hg K0A.out (Nat.le_refl _))
        clear ho hg hb
        go_wp2
        have hnn := M.out.2.2
        have hlt := M.out.2.1
        rw [IntWalk.wrap64_in (nn + 1) (by omega)]
        go_roundw
        case rel => exact ⟨m + 1, by omega, by congr 1; omega, K1.out, by rw [F.out, List.length_append, List.map_append]; exact T1.out⟩
        case measure => simp [intOf]; omega
      | false =>
        rw [q1] at H1 f1
        rw [if_neg (by decide), List.append_nil] at f1
        have H1 := Lib.hid H1
        have F := Lib.hid f1
        clear q1 f1
        go_wp2_with (go_at_call 44; (with_reducible refine H1.out.mono ?_); rintro e' w' ⟨rfl, rfl⟩)
        have hnn := M.out.2.2
        have hlt := M.out.2.1
        rw [IntWalk.wrap64_in (nn + 1) (by omega)]
        go_roundw
        case rel => exact ⟨m + 1, by omega, by congr 1; omega, K0.out, by rw [F.out]; exact T0.out⟩
        case measure => simp [intOf]; omega
    · obtain rfl : m = 19 := by omega
      have hex : ¬ nn ≤ 19 := by omega
      have X := Lib.hid (own_sli ho)
      have KW := Lib.hid hk
      clear hk ho hlt hm hnn
      go_wp2
      go_ret2
      exact ⟨_, rfl, X.out, KW.out⟩
set_option maxRecDepth 100000 in
theorem sendsF_any (ads : List Addr) (p e : Int) (w : World) (c14 : w.cell? ⟨0, 0, none⟩ = some (errI ads 14)) :
    Calls Tryd.prog 22 #[.int .i64 p, .int .i64 e] w fun e' w' => ∃ v, e' = .returned (.tuple #[v, errI ads (if rightT p e = true then 0 else 14)]) ∧ SlI v (if rightT p e = true then sendsL p e else []) w' ∧ Kp w w' := by
  have hmf : ∀ (fn : Fn) (first cap : Array Value) (w : World), (Instr.makeFunc fn first cap).run Tryd.prog w = .ok (.func fn first cap) w := fun _ _ _ _ => rfl
  have k2 := Kp.trans (kp_alloc w (.cells #[.int .i64 p] 3)) (kp_alloc (w.alloc (.cells #[.int .i64 p] 3)) (.cells #[.int .i64 e] 3))
  have c1 : ((w.alloc (.cells #[.int .i64 p] 3)).alloc (.cells #[.int .i64 e] 3)).cell? ⟨w.heap.size, 0, none⟩ = some (.int .i64 p) := kp_cell (kp_alloc (w.alloc (.cells #[.int .i64 p] 3)) (.cells #[.int .i64 e] 3)) (box_cell w (.int .i64 p) 3)
  have c2 : ((w.alloc (.cells #[.int .i64 p] 3)).alloc (.cells #[.int .i64 e] 3)).cell? ⟨w.heap.size + 1, 0, none⟩ = some (.int .i64 e) := by simp
  have K2 := Lib.hid k2
  cases h : rightT p e with
  | false =>
    have HP := Lib.hid (fun v => pick_wrong ads p e 19 v h _ (kp_cell k2 c14))
    rw [if_neg (by decide), if_neg (by decide)]
    obtain ⟨q, hq⟩ : ∃ x, errI ads 14 = x := ⟨_, rfl⟩
    rw [hq] at HP ⊢
    clear h hq k2 c14
    go_enter Tryd.func22, Tryd.ntmps22
    go_wp2_with (go_at_call 41; (with_reducible refine (HP.out _).mono ?_); rintro e' w3 ⟨rfl, hk⟩; have K3 := Lib.hid (Kp.trans K2.out hk); clear hk)
    go_ret2
    exact ⟨_, rfl, .inl ⟨rfl, none, 0, rfl⟩, K3.out⟩
  | true =>
    have HP := Lib.hid (pickSends_any p e h _ _ _ c1 c2)
    rw [if_pos rfl, if_pos rfl]
    have e0 : errI ads 0 = .nilIface := errI_nil ads
    rw [e0]
    have L := Lib.hid ((show sendsL p e = (allT.take 19).filter (sendsT p e) from rfl))
    clear h k2 c14 e0
    go_enter Tryd.func22, Tryd.ntmps22
    go_wp2_with (go_at_call 41; (with_reducible refine HP.out.mono ?_); rintro e' w3 ⟨v, rfl, hs, hk⟩; have K3 := Lib.hid (Kp.trans K2.out hk); have S3 := Lib.hid hs; clear hk hs)
    go_ret2
    exact ⟨_, rfl, by rw [L.out]; exact S3.out, K3.out⟩
end Go.Proofs.YtoeidlhcioponaaDoor
