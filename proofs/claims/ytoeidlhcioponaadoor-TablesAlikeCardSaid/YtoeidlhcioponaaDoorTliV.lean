/-
  THE WALK OF TablesLists (own work).
-/
import Derived.Test.YtoeidlhcioponaaDoorTwaV
import Derived.Test.YtoeidlhcioponaaDoorTabE
import Derived.Test.YtoeidlhcioponaaDoorInT
import Derived.Test.YtoeidlhcioponaaDoorAppI
import Derived.Test.YtoeidlhcioponaaDoorTmeV
namespace Go.Proofs.YtoeidlhcioponaaDoor
open Go.RowKit Go.ChangeShapes Go.WideShapes

theorem own_oldI {w : World} {base n : Nat} {e : TypeId} {v : Value} {xs : List Value} (h : w.ownsRow base e 1 v n xs) {b : Nat} (hb : v.ownBlock = some b) : b < w.heap.size := by
  rcases h.2 with ⟨rfl, _⟩ | ⟨g, cap, cur, rfl, _, hh, _⟩
  · simp [Value.ownBlock] at hb
  · simp [Value.ownBlock] at hb
    subst hb
    exact old_of_row hh
/-- three lists of the call's own, apart from one another -/
structure ThreeR (base : Nat) (x y z : Value) (a b c : List Int) (w : World) : Prop where
  ox : w.ownsRow base 3 1 x a.length (a.map (Value.int .i64))
  oy : w.ownsRow base 3 1 y b.length (b.map (Value.int .i64))
  oz : w.ownsRow base 3 1 z c.length (c.map (Value.int .i64))
  xy : ∀ k, x.ownBlock = some k → y.ownBlock ≠ some k
  xz : ∀ k, x.ownBlock = some k → z.ownBlock ≠ some k
  yz : ∀ k, y.ownBlock = some k → z.ownBlock ≠ some k
theorem ThreeR.kp {base : Nat} {x y z : Value} {a b c : List Int} {w w' : World} (h : ThreeR base x y z a b c w) (hk : Kp w w') : ThreeR base x y z a b c w' := ⟨own_kp h.ox hk, own_kp h.oy hk, own_kp h.oz hk, h.xy, h.xz, h.yz⟩
theorem ThreeR.rot {base : Nat} {x y z : Value} {a b c : List Int} {w : World} (h : ThreeR base x y z a b c w) : ThreeR base y z x b c a w := ⟨h.oy, h.oz, h.ox, h.yz, fun k q g => h.xy k g q, fun k q g => h.xz k g q⟩
theorem ThreeR.app {base : Nat} {x y z : Value} {a b c : List Int} {w w' : World} (h : ThreeR base x y z a b c w) {x' : Value} {n : Int} (ho : w'.ownsRow base 3 1 x' (a.length + 1) (a.map (Value.int .i64) ++ [.int .i64 n])) (hg : w.grownBy w' x.ownBlock) (hb : ∀ k, x'.ownBlock = some k → x.ownBlock = some k ∨ w.heap.size ≤ k) :
    ThreeR base x' y z (a ++ [n]) b c w' := by
  refine ⟨?_, own_asideI h.oy hg (fun k q g => h.xy k g q), own_asideI h.oz hg (fun k q g => h.xz k g q), fun k q g => ?_, fun k q g => ?_, h.yz⟩
  · rw [List.length_append, List.map_append]; exact ho
  · rcases hb k q with q2 | q2
    · exact h.xy k q2 g
    · have := own_oldI h.oy g; omega
  · rcases hb k q with q2 | q2
    · exact h.xz k q2 g
    · have := own_oldI h.oz g; omega
theorem allT_at : ∀ m ∈ List.range 19, allT[m]? = some ((m : Int) + 1) := by decide
theorem take_next (f : Int → Bool) (m : Nat) (hm : m < 19) (n : Int) (hn : (m : Int) + 1 = n) : (allT.take (m + 1)).filter f = (allT.take m).filter f ++ (if f n = true then [n] else []) := by
  rw [List.take_add_one, allT_at m (List.mem_range.2 hm), hn, List.filter_append]
  congr 1
  simp only [Option.toList_some, List.filter_cons, List.filter_nil]
theorem take_len (f : Int → Bool) (m : Nat) : ((allT.take m).filter f).length ≤ 19 := Nat.le_trans (List.length_filter_le _ _) (by rw [List.length_take]; exact Nat.min_le_right _ _)
theorem three_new (w : World) (e : TypeId) (he : e = 3) : ThreeR w.heap.size (.slice (some ⟨w.heap.size, 0, none⟩) 0 0) (.slice (some ⟨w.heap.size + 1, 0, none⟩) 0 0) (.slice (some ⟨w.heap.size + 1 + 1, 0, none⟩) 0 0) [] [] [] (((w.alloc (.cells #[] e)).alloc (.cells #[] e)).alloc (.cells #[] e)) := by
  subst he
  have k1 := kp_alloc (w.alloc (.cells #[] 3)) (.cells #[] 3)
  have k2 := kp_alloc ((w.alloc (.cells #[] 3)).alloc (.cells #[] 3)) (.cells #[] 3)
  have a0 := own_emptyI w 3
  have a1 := own_emptyI (w.alloc (.cells #[] 3)) 3
  have a2 := own_emptyI ((w.alloc (.cells #[] 3)).alloc (.cells #[] 3)) 3
  have s1 : (w.alloc (.cells #[] 3)).heap.size = w.heap.size + 1 := by simp
  have s2 : ((w.alloc (.cells #[] 3)).alloc (.cells #[] 3)).heap.size = w.heap.size + 1 + 1 := by simp
  rw [s1] at a1
  rw [s2] at a2
  refine ⟨own_kp a0 (Kp.trans k1 k2), own_mono (own_kp a1 k2) (by omega), own_mono a2 (by omega), fun k q g => ?_, fun k q g => ?_, fun k q g => ?_⟩ <;> (simp [Value.ownBlock] at q g; omega)
set_option maxRecDepth 100000 in
set_option maxHeartbeats 4000000 in
theorem tlists_wrong (ads : List Addr) (p e : Int) (hp : i64T p) (he : i64T e) (w : World) (V : St ads w) (C : TabC ads w) (h : rightT p e = false) :
    Calls Tryd.prog 6 #[.agg #[.int .i64 p, .int .i64 e]] w fun e' w' => e' = .returned (.bool true) ∧ Kp w w' := by
  have HA := Lib.hid (fun w1 (hk : Kp w w1) => alive10_any ads w1 (TabC.kp C hk))
  have S1 := fun w1 (hk : Kp w w1) => C.states w1 hk p e hp he
  have S2 := fun w1 (hk : Kp w w1) => C.takes w1 hk p e hp he
  have S3 := fun w1 (hk : Kp w w1) => C.sends w1 hk p e hp he
  have HG := fun w1 => sideRight_any p e w1
  rw [h] at HG
  have HG := Lib.hid HG
  have kb := kp_alloc w (.cells #[.int .i64 p, .int .i64 e] 23)
  have KB := Lib.hid kb
  have HR := Lib.hid (MapKept.heap_alloc w (.cells #[.int .i64 p, .int .i64 e] 23)).1
  have HN := fun w1 (hk : Kp w w1) => num_errN ads w1 (V.below hk) 14 (by decide) (by decide)
  simp only [h, Bool.false_eq_true, if_false] at S1 S2 S3
  obtain ⟨q, hq⟩ := errI_iface ads 14 (by decide)
  rw [hq] at S1 S2 S3 HN
  have S1 := Lib.hid (fun w1 (hk : Kp w w1) => (S1 w1 hk).mono (fun e' w' ⟨v, h1, h2, h3⟩ => (show ∃ (a : Option Addr) (c : Nat), e' = Ending.returned (.tuple #[.slice a 0 c, .iface 80 (.pointer q)]) ∧ SlI (.slice a 0 c) [] w' ∧ Kp w1 w' from by obtain ⟨a, c, rfl⟩ := h2.form; exact ⟨a, c, h1, h2, h3⟩)))
  have S2 := Lib.hid (fun w1 (hk : Kp w w1) => (S2 w1 hk).mono (fun e' w' ⟨v, h1, h2, h3⟩ => (show ∃ (a : Option Addr) (c : Nat), e' = Ending.returned (.tuple #[.slice a 0 c, .iface 80 (.pointer q)]) ∧ SlI (.slice a 0 c) [] w' ∧ Kp w1 w' from by obtain ⟨a, c, rfl⟩ := h2.form; exact ⟨a, c, h1, h2, h3⟩)))
  have S3 := Lib.hid (fun w1 (hk : Kp w w1) => (S3 w1 hk).mono (fun e' w' ⟨v, h1, h2, h3⟩ => (show ∃ (a : Option Addr) (c : Nat), e' = Ending.returned (.tuple #[.slice a 0 c, .iface 80 (.pointer q)]) ∧ SlI (.slice a 0 c) [] w' ∧ Kp w1 w' from by obtain ⟨a, c, rfl⟩ := h2.form; exact ⟨a, c, h1, h2, h3⟩)))
  have HN := Lib.hid HN
  clear V C hp he h hq kb
  go_enter Tryd.func6, Tryd.ntmps6
  go_wp2_with (first
    | (go_at_call 10; (with_reducible refine (HA.out _ KB.out).mono ?_); rintro e' w1 ⟨rfl, hk⟩; have K1 := Lib.hid (Kp.trans KB.out hk); have R1 := Lib.hid (kp_row hk HR.out); obtain ⟨g10, g11⟩ := sides2 R1.out; clear hk)
    | (go_at_call 20; (with_reducible refine (S1.out _ K1.out).mono ?_); rintro e' w2 ⟨aa, ca, rfl, hs, hk⟩; have K2 := Lib.hid (Kp.trans K1.out hk); have R2 := Lib.hid (kp_row hk R1.out); obtain ⟨g20, g21⟩ := sides2 R2.out; have A2 := Lib.hid hs; clear hs hk)
    | (go_at_call 21; (with_reducible refine (S2.out _ K2.out).mono ?_); rintro e' w3 ⟨ab, cb, rfl, hs, hk⟩; have K3 := Lib.hid (Kp.trans K2.out hk); have R3 := Lib.hid (kp_row hk R2.out); obtain ⟨g30, g31⟩ := sides2 R3.out; have B3 := Lib.hid hs; have A3 := Lib.hid (A2.out.kp hk); clear hs hk)
    | (go_at_call 22; (with_reducible refine (S3.out _ K3.out).mono ?_); rintro e' w4 ⟨ac, cc, rfl, hs, hk⟩; have K4 := Lib.hid (Kp.trans K3.out hk); have R4 := Lib.hid (kp_row hk R3.out); obtain ⟨g40, g41⟩ := sides2 R4.out; have D4 := Lib.hid hs; have A4 := Lib.hid (A3.out.kp hk); have B4 := Lib.hid (B3.out.kp hk); clear hs hk)
    | (go_at_call 17; (with_reducible refine (HG.out _).mono ?_); rintro e' w5 ⟨rfl, hk⟩; have K5 := Lib.hid (Kp.trans K4.out hk); have R5 := Lib.hid (kp_row hk R4.out); obtain ⟨g50, g51⟩ := sides2 R5.out; have A5 := Lib.hid (A4.out.kp hk); have B5 := Lib.hid (B4.out.kp hk); have D5 := Lib.hid (D4.out.kp hk); clear hk)
    | (go_at_call 13; (with_reducible refine (HN.out _ K5.out).mono ?_); rintro e' w6 ⟨rfl, hk⟩; have K6 := Lib.hid (Kp.trans K5.out hk); clear hk)
    | (go_at_call 13; (with_reducible refine (HN.out _ K6.out).mono ?_); rintro e' w7 ⟨rfl, hk⟩; have K7 := Lib.hid (Kp.trans K6.out hk); clear hk)
    | (go_at_call 13; (with_reducible refine (HN.out _ K7.out).mono ?_); rintro e' w8 ⟨rfl, hk⟩; have K8 := Lib.hid (Kp.trans K7.out hk); clear hk))
  go_ret
  exact ⟨by first | rfl | simp, K8.out⟩
set_option maxRecDepth 100000 in
set_option maxHeartbeats 4000000 in
theorem tlists_right (ads : List Addr) (p e : Int) (hp : i64T p) (he : i64T e) (w : World) (C : TabC ads w) (h : rightT p e = true) :
    Calls Tryd.prog 6 #[.agg #[.int .i64 p, .int .i64 e]] w fun e' w' => e' = .returned (.bool true) ∧ Kp w w' := by
  have HA := Lib.hid (fun w1 (hk : Kp w w1) => alive10_any ads w1 (TabC.kp C hk))
  have S1 := fun w1 (hk : Kp w w1) => C.states w1 hk p e hp he
  have S2 := fun w1 (hk : Kp w w1) => C.takes w1 hk p e hp he
  have S3 := fun w1 (hk : Kp w w1) => C.sends w1 hk p e hp he
  have HG := fun w1 => sideRight_any p e w1
  rw [h] at HG
  have HG := Lib.hid HG
  have kb := kp_alloc w (.cells #[.int .i64 p, .int .i64 e] 23)
  have KB := Lib.hid kb
  have HR := Lib.hid (MapKept.heap_alloc w (.cells #[.int .i64 p, .int .i64 e] 23)).1
  simp only [h, if_true, errI_nil] at S1 S2 S3
  have hln := lists_len (p, e) (rightT_mem h)
  have e1 : statesL p e = (allT.take 19).filter (hasT p e) := rfl
  have e2 : takesL p e = (allT.take 19).filter (takesT p e) := rfl
  have e3 : sendsL p e = (allT.take 19).filter (sendsT p e) := rfl
  have Q := Lib.hid (fun (u v : Value) (xs : List Int) (hx : xs.length ≤ 19) (w1 : World) (h1 : SlI u xs w1) (h2 : SlI v xs w1) => (show Calls Tryd.prog 25 #[u, v] w1 fun e w' => e = .returned (.bool true) ∧ Kp w1 w' from by have := sameInts_any u v xs xs (by omega) w1 h1 h2; simpa using this))
  rw [e1] at S1
  rw [e2] at S2
  rw [e3] at S3
  have HH := Lib.hid (fun n w => refHas_any p e n w)
  have HT := Lib.hid (fun n w => refTakes_any p e n w)
  have HS := Lib.hid (fun n w => refSends_any p e n w)
  have S1 := Lib.hid S1
  have S2 := Lib.hid S2
  have S3 := Lib.hid S3
  clear C hp he h kb hln e1 e2 e3
  go_enter Tryd.func6, Tryd.ntmps6
  go_wp2_with (first
    | (go_at_call 10; (with_reducible refine (HA.out _ KB.out).mono ?_); rintro e' w1 ⟨rfl, hk⟩; have K1 := Lib.hid (Kp.trans KB.out hk); have R1 := Lib.hid (kp_row hk HR.out); obtain ⟨g10, g11⟩ := sides2 R1.out; clear hk)
    | (go_at_call 20; (with_reducible refine (S1.out _ K1.out).mono ?_); rintro e' w2 ⟨va, rfl, hs, hk⟩; have K2 := Lib.hid (Kp.trans K1.out hk); have R2 := Lib.hid (kp_row hk R1.out); obtain ⟨g20, g21⟩ := sides2 R2.out; have A2 := Lib.hid hs; clear hs hk)
    | (go_at_call 21; (with_reducible refine (S2.out _ K2.out).mono ?_); rintro e' w3 ⟨vb, rfl, hs, hk⟩; have K3 := Lib.hid (Kp.trans K2.out hk); have R3 := Lib.hid (kp_row hk R2.out); obtain ⟨g30, g31⟩ := sides2 R3.out; have B3 := Lib.hid hs; have A3 := Lib.hid (A2.out.kp hk); clear hs hk)
    | (go_at_call 22; (with_reducible refine (S3.out _ K3.out).mono ?_); rintro e' w4 ⟨vc, rfl, hs, hk⟩; have K4 := Lib.hid (Kp.trans K3.out hk); have R4 := Lib.hid (kp_row hk R3.out); obtain ⟨g40, g41⟩ := sides2 R4.out; have D4 := Lib.hid hs; have A4 := Lib.hid (A3.out.kp hk); have B4 := Lib.hid (B3.out.kp hk); clear hs hk)
    | (go_at_call 17; (with_reducible refine (HG.out _).mono ?_); rintro e' w5 ⟨rfl, hk⟩; have K5 := Lib.hid (Kp.trans K4.out hk); have R5 := Lib.hid (kp_row hk R4.out); obtain ⟨g50, g51⟩ := sides2 R5.out; have A5 := Lib.hid (A4.out.kp hk); have B5 := Lib.hid (B4.out.kp hk); have D5 := Lib.hid (D4.out.kp hk); clear hk))
  have T5 := Lib.hid (three_new w5 3 rfl)
  have N5 := Lib.hid (Kp.trans (kp_alloc w5 (.cells #[] 3)) (Kp.trans (kp_alloc (w5.alloc (.cells #[] 3)) (.cells #[] 3)) (kp_alloc ((w5.alloc (.cells #[] 3)).alloc (.cells #[] 3)) (.cells #[] 3))))
  clear A2 A3 A4 B3 B4 D4 R1 R2 R3 R4 g10 g11 g20 g21 g30 g31 g40 g41 g50 g51 S1 S2 S3 HA HG
  go_loopw [10, 11, 12, 13] (fun x y z i wr => ∃ m : Nat, m ≤ 19 ∧ i = .int .i64 ((m : Int) + 1) ∧ Kp w5 wr ∧ ThreeR w5.heap.size x y z ((allT.take m).filter (hasT p e)) ((allT.take m).filter (takesT p e)) ((allT.take m).filter (sendsT p e)) wr) (fun _ _ _ i _ => 20 - (intOf i).toNat)
  case atStart => exact ⟨0, by omega, rfl, N5.out, T5.out⟩
  case round =>
    obtain ⟨m, hm, rfl, hk, h3⟩ := hrel
    obtain ⟨nn, hnn⟩ : ∃ nn : Int, (m : Int) + 1 = nn := ⟨_, rfl⟩
    rw [hnn]
    by_cases hlt : m < 19
    · have hle : nn ≤ 19 := by omega
      have f1 := take_next (hasT p e) m hlt nn hnn
      have f2 := take_next (takesT p e) m hlt nn hnn
      have f3 := take_next (sendsT p e) m hlt nn hnn
      have l1 := take_len (hasT p e) m
      have l2 := take_len (takesT p e) m
      have l3 := take_len (sendsT p e) m
      obtain ⟨xa, hxa⟩ : ∃ y, (allT.take m).filter (hasT p e) = y := ⟨_, rfl⟩
      obtain ⟨xb, hxb⟩ : ∃ y, (allT.take m).filter (takesT p e) = y := ⟨_, rfl⟩
      obtain ⟨xc, hxc⟩ : ∃ y, (allT.take m).filter (sendsT p e) = y := ⟨_, rfl⟩
      rw [hxa] at f1 h3 l1
      rw [hxb] at f2 h3 l2
      rw [hxc] at f3 h3 l3
      have M := Lib.hid (And.intro hm (And.intro hlt hnn))
      have L1 := Lib.hid l1
      have L2 := Lib.hid l2
      have L3 := Lib.hid l3
      have K0 := Lib.hid hk
      have T0 := Lib.hid h3
      have H1 := fun w => HH.out nn w
      have H2 := fun w => HT.out nn w
      have H3 := fun w => HS.out nn w
      clear hxa hxb hxc hk h3 hlt hm hnn l1 l2 l3
      cases q1 : hasT p e nn with
      | true =>
        cases q2 : takesT p e nn with
        | true =>
          cases q3 : sendsT p e nn with
          | true =>
            rw [q1] at H1 f1
            rw [q2] at H2 f2
            rw [q3] at H3 f3
            rw [if_pos rfl] at f1
            rw [if_pos rfl] at f2
            rw [if_pos rfl] at f3
            have H1 := Lib.hid H1
            have H2 := Lib.hid H2
            have H3 := Lib.hid H3
            have F := Lib.hid (And.intro f1 (And.intro f2 f3))
            clear q1 q2 q3 f1 f2 f3
            have RB0 := kp_row K0.out R5.out
            obtain ⟨s00, s01⟩ := sides2 RB0
            clear RB0
            have K0A := Lib.hid (Kp.trans K0.out (kp_alloc wr (.cells #[.int .i64 nn] 3)))
            have T0A := Lib.hid (T0.out.kp (kp_alloc wr (.cells #[.int .i64 nn] 3)))
            have C0A := Lib.hid (box_cell wr (.int .i64 nn) 3)
            go_wp2_with (first | (go_at_call 18; (with_reducible refine (H1.out _).mono ?_); rintro e' w' ⟨rfl, rfl⟩) | (go_at_call 23; (with_reducible refine (H2.out _).mono ?_); rintro e' w' ⟨rfl, rfl⟩) | (go_at_call 24; (with_reducible refine (H3.out _).mono ?_); rintro e' w' ⟨rfl, rfl⟩) | (at_builtin; refine wpList_append_int _ rfl (.tmp 83) (.tmp 85) rfl w5.heap.size _ _ _ rfl T0A.out.ox ⟨wr.heap.size, 0, none⟩ nn rfl ?c1 ?c2 ?c3 ?_))
            case c1 => rw [add_plain]; exact C0A.out
            case c2 => have := L1.out; omega
            case c3 => exact Below.size K0A.out
            rintro v1 w1a ho hg hb
            have T1 := Lib.hid ((ThreeR.app T0A.out ho hg (fun k q => by have := hb k q; simpa using this)))
            have K1 := Lib.hid (grown_kpI T0A.out.ox hg K0A.out (Nat.le_refl _))
            clear ho hg hb
            have RB1 := kp_row K1.out R5.out
            obtain ⟨s10, s11⟩ := sides2 RB1
            clear RB1
            have K1A := Lib.hid (Kp.trans K1.out (kp_alloc w1a (.cells #[.int .i64 nn] 3)))
            have T1A := Lib.hid (T1.out.kp (kp_alloc w1a (.cells #[.int .i64 nn] 3)))
            have C1A := Lib.hid (box_cell w1a (.int .i64 nn) 3)
            go_wp2_with (first | (go_at_call 18; (with_reducible refine (H1.out _).mono ?_); rintro e' w' ⟨rfl, rfl⟩) | (go_at_call 23; (with_reducible refine (H2.out _).mono ?_); rintro e' w' ⟨rfl, rfl⟩) | (go_at_call 24; (with_reducible refine (H3.out _).mono ?_); rintro e' w' ⟨rfl, rfl⟩) | (at_builtin; refine wpList_append_int _ rfl (.tmp 93) (.tmp 95) rfl w5.heap.size _ _ _ rfl T1A.out.oy ⟨w1a.heap.size, 0, none⟩ nn rfl ?c1 ?c2 ?c3 ?_))
            case c1 => rw [add_plain]; exact C1A.out
            case c2 => have := L2.out; omega
            case c3 => exact Below.size K1A.out
            rintro v2 w2a ho hg hb
            have T2 := Lib.hid ((ThreeR.app T1A.out.rot ho hg (fun k q => by have := hb k q; simpa using this)).rot.rot)
            have K2 := Lib.hid (grown_kpI T1A.out.oy hg K1A.out (Nat.le_refl _))
            clear ho hg hb
            have RB2 := kp_row K2.out R5.out
            obtain ⟨s20, s21⟩ := sides2 RB2
            clear RB2
            have K2A := Lib.hid (Kp.trans K2.out (kp_alloc w2a (.cells #[.int .i64 nn] 3)))
            have T2A := Lib.hid (T2.out.kp (kp_alloc w2a (.cells #[.int .i64 nn] 3)))
            have C2A := Lib.hid (box_cell w2a (.int .i64 nn) 3)
            go_wp2_with (first | (go_at_call 18; (with_reducible refine (H1.out _).mono ?_); rintro e' w' ⟨rfl, rfl⟩) | (go_at_call 23; (with_reducible refine (H2.out _).mono ?_); rintro e' w' ⟨rfl, rfl⟩) | (go_at_call 24; (with_reducible refine (H3.out _).mono ?_); rintro e' w' ⟨rfl, rfl⟩) | (at_builtin; refine wpList_append_int _ rfl (.tmp 103) (.tmp 105) rfl w5.heap.size _ _ _ rfl T2A.out.oz ⟨w2a.heap.size, 0, none⟩ nn rfl ?c1 ?c2 ?c3 ?_))
            case c1 => rw [add_plain]; exact C2A.out
            case c2 => have := L3.out; omega
            case c3 => exact Below.size K2A.out
            rintro v3 w3a ho hg hb
            have T3 := Lib.hid ((ThreeR.app T2A.out.rot.rot ho hg (fun k q => by have := hb k q; simpa using this)).rot)
            have K3 := Lib.hid (grown_kpI T2A.out.oz hg K2A.out (Nat.le_refl _))
            clear ho hg hb
            have RB3 := kp_row K3.out R5.out
            obtain ⟨s30, s31⟩ := sides2 RB3
            clear RB3
            go_wp2_with (first | (go_at_call 18; (with_reducible refine (H1.out _).mono ?_); rintro e' w' ⟨rfl, rfl⟩) | (go_at_call 23; (with_reducible refine (H2.out _).mono ?_); rintro e' w' ⟨rfl, rfl⟩) | (go_at_call 24; (with_reducible refine (H3.out _).mono ?_); rintro e' w' ⟨rfl, rfl⟩))
            have hnn := M.out.2.2
            have hlt := M.out.2.1
            rw [IntWalk.wrap64_in (nn + 1) (by omega)]
            go_roundw
            case rel => exact ⟨m + 1, by omega, by congr 1; omega, K3.out, by rw [F.out.1, F.out.2.1, F.out.2.2]; exact T3.out⟩
            case measure => simp [intOf]; omega
          | false =>
            rw [q1] at H1 f1
            rw [q2] at H2 f2
            rw [q3] at H3 f3
            rw [if_pos rfl] at f1
            rw [if_pos rfl] at f2
            rw [if_neg (by decide), List.append_nil] at f3
            have H1 := Lib.hid H1
            have H2 := Lib.hid H2
            have H3 := Lib.hid H3
            have F := Lib.hid (And.intro f1 (And.intro f2 f3))
            clear q1 q2 q3 f1 f2 f3
            have RB0 := kp_row K0.out R5.out
            obtain ⟨s00, s01⟩ := sides2 RB0
            clear RB0
            have K0A := Lib.hid (Kp.trans K0.out (kp_alloc wr (.cells #[.int .i64 nn] 3)))
            have T0A := Lib.hid (T0.out.kp (kp_alloc wr (.cells #[.int .i64 nn] 3)))
            have C0A := Lib.hid (box_cell wr (.int .i64 nn) 3)
            go_wp2_with (first | (go_at_call 18; (with_reducible refine (H1.out _).mono ?_); rintro e' w' ⟨rfl, rfl⟩) | (go_at_call 23; (with_reducible refine (H2.out _).mono ?_); rintro e' w' ⟨rfl, rfl⟩) | (go_at_call 24; (with_reducible refine (H3.out _).mono ?_); rintro e' w' ⟨rfl, rfl⟩) | (at_builtin; refine wpList_append_int _ rfl (.tmp 83) (.tmp 85) rfl w5.heap.size _ _ _ rfl T0A.out.ox ⟨wr.heap.size, 0, none⟩ nn rfl ?c1 ?c2 ?c3 ?_))
            case c1 => rw [add_plain]; exact C0A.out
            case c2 => have := L1.out; omega
            case c3 => exact Below.size K0A.out
            rintro v1 w1a ho hg hb
            have T1 := Lib.hid ((ThreeR.app T0A.out ho hg (fun k q => by have := hb k q; simpa using this)))
            have K1 := Lib.hid (grown_kpI T0A.out.ox hg K0A.out (Nat.le_refl _))
            clear ho hg hb
            have RB1 := kp_row K1.out R5.out
            obtain ⟨s10, s11⟩ := sides2 RB1
            clear RB1
            have K1A := Lib.hid (Kp.trans K1.out (kp_alloc w1a (.cells #[.int .i64 nn] 3)))
            have T1A := Lib.hid (T1.out.kp (kp_alloc w1a (.cells #[.int .i64 nn] 3)))
            have C1A := Lib.hid (box_cell w1a (.int .i64 nn) 3)
            go_wp2_with (first | (go_at_call 18; (with_reducible refine (H1.out _).mono ?_); rintro e' w' ⟨rfl, rfl⟩) | (go_at_call 23; (with_reducible refine (H2.out _).mono ?_); rintro e' w' ⟨rfl, rfl⟩) | (go_at_call 24; (with_reducible refine (H3.out _).mono ?_); rintro e' w' ⟨rfl, rfl⟩) | (at_builtin; refine wpList_append_int _ rfl (.tmp 93) (.tmp 95) rfl w5.heap.size _ _ _ rfl T1A.out.oy ⟨w1a.heap.size, 0, none⟩ nn rfl ?c1 ?c2 ?c3 ?_))
            case c1 => rw [add_plain]; exact C1A.out
            case c2 => have := L2.out; omega
            case c3 => exact Below.size K1A.out
            rintro v2 w2a ho hg hb
            have T2 := Lib.hid ((ThreeR.app T1A.out.rot ho hg (fun k q => by have := hb k q; simpa using this)).rot.rot)
            have K2 := Lib.hid (grown_kpI T1A.out.oy hg K1A.out (Nat.le_refl _))
            clear ho hg hb
            have RB2 := kp_row K2.out R5.out
            obtain ⟨s20, s21⟩ := sides2 RB2
            clear RB2
            go_wp2_with (first | (go_at_call 18; (with_reducible refine (H1.out _).mono ?_); rintro e' w' ⟨rfl, rfl⟩) | (go_at_call 23; (with_reducible refine (H2.out _).mono ?_); rintro e' w' ⟨rfl, rfl⟩) | (go_at_call 24; (with_reducible refine (H3.out _).mono ?_); rintro e' w' ⟨rfl, rfl⟩))
            have hnn := M.out.2.2
            have hlt := M.out.2.1
            rw [IntWalk.wrap64_in (nn + 1) (by omega)]
            go_roundw
            case rel => exact ⟨m + 1, by omega, by congr 1; omega, K2.out, by rw [F.out.1, F.out.2.1, F.out.2.2]; exact T2.out⟩
            case measure => simp [intOf]; omega
        | false =>
          cases q3 : sendsT p e nn with
          | true =>
            rw [q1] at H1 f1
            rw [q2] at H2 f2
            rw [q3] at H3 f3
            rw [if_pos rfl] at f1
            rw [if_neg (by decide), List.append_nil] at f2
            rw [if_pos rfl] at f3
            have H1 := Lib.hid H1
            have H2 := Lib.hid H2
            have H3 := Lib.hid H3
            have F := Lib.hid (And.intro f1 (And.intro f2 f3))
            clear q1 q2 q3 f1 f2 f3
            have RB0 := kp_row K0.out R5.out
            obtain ⟨s00, s01⟩ := sides2 RB0
            clear RB0
            have K0A := Lib.hid (Kp.trans K0.out (kp_alloc wr (.cells #[.int .i64 nn] 3)))
            have T0A := Lib.hid (T0.out.kp (kp_alloc wr (.cells #[.int .i64 nn] 3)))
            have C0A := Lib.hid (box_cell wr (.int .i64 nn) 3)
            go_wp2_with (first | (go_at_call 18; (with_reducible refine (H1.out _).mono ?_); rintro e' w' ⟨rfl, rfl⟩) | (go_at_call 23; (with_reducible refine (H2.out _).mono ?_); rintro e' w' ⟨rfl, rfl⟩) | (go_at_call 24; (with_reducible refine (H3.out _).mono ?_); rintro e' w' ⟨rfl, rfl⟩) | (at_builtin; refine wpList_append_int _ rfl (.tmp 83) (.tmp 85) rfl w5.heap.size _ _ _ rfl T0A.out.ox ⟨wr.heap.size, 0, none⟩ nn rfl ?c1 ?c2 ?c3 ?_))
            case c1 => rw [add_plain]; exact C0A.out
            case c2 => have := L1.out; omega
            case c3 => exact Below.size K0A.out
            rintro v1 w1a ho hg hb
            have T1 := Lib.hid ((ThreeR.app T0A.out ho hg (fun k q => by have := hb k q; simpa using this)))
            have K1 := Lib.hid (grown_kpI T0A.out.ox hg K0A.out (Nat.le_refl _))
            clear ho hg hb
            have RB1 := kp_row K1.out R5.out
            obtain ⟨s10, s11⟩ := sides2 RB1
            clear RB1
            have K1A := Lib.hid (Kp.trans K1.out (kp_alloc w1a (.cells #[.int .i64 nn] 3)))
            have T1A := Lib.hid (T1.out.kp (kp_alloc w1a (.cells #[.int .i64 nn] 3)))
            have C1A := Lib.hid (box_cell w1a (.int .i64 nn) 3)
            go_wp2_with (first | (go_at_call 18; (with_reducible refine (H1.out _).mono ?_); rintro e' w' ⟨rfl, rfl⟩) | (go_at_call 23; (with_reducible refine (H2.out _).mono ?_); rintro e' w' ⟨rfl, rfl⟩) | (go_at_call 24; (with_reducible refine (H3.out _).mono ?_); rintro e' w' ⟨rfl, rfl⟩) | (at_builtin; refine wpList_append_int _ rfl (.tmp 103) (.tmp 105) rfl w5.heap.size _ _ _ rfl T1A.out.oz ⟨w1a.heap.size, 0, none⟩ nn rfl ?c1 ?c2 ?c3 ?_))
            case c1 => rw [add_plain]; exact C1A.out
            case c2 => have := L3.out; omega
            case c3 => exact Below.size K1A.out
            rintro v2 w2a ho hg hb
            have T2 := Lib.hid ((ThreeR.app T1A.out.rot.rot ho hg (fun k q => by have := hb k q; simpa using this)).rot)
            have K2 := Lib.hid (grown_kpI T1A.out.oz hg K1A.out (Nat.le_refl _))
            clear ho hg hb
            have RB2 := kp_row K2.out R5.out
            obtain ⟨s20, s21⟩ := sides2 RB2
            clear RB2
            go_wp2_with (first | (go_at_call 18; (with_reducible refine (H1.out _).mono ?_); rintro e' w' ⟨rfl, rfl⟩) | (go_at_call 23; (with_reducible refine (H2.out _).mono ?_); rintro e' w' ⟨rfl, rfl⟩) | (go_at_call 24; (with_reducible refine (H3.out _).mono ?_); rintro e' w' ⟨rfl, rfl⟩))
            have hnn := M.out.2.2
            have hlt := M.out.2.1
            rw [IntWalk.wrap64_in (nn + 1) (by omega)]
            go_roundw
            case rel => exact ⟨m + 1, by omega, by congr 1; omega, K2.out, by rw [F.out.1, F.out.2.1, F.out.2.2]; exact T2.out⟩
            case measure => simp [intOf]; omega
          | false =>
            rw [q1] at H1 f1
            rw [q2] at H2 f2
            rw [q3] at H3 f3
            rw [if_pos rfl] at f1
            rw [if_neg (by decide), List.append_nil] at f2
            rw [if_neg (by decide), List.append_nil] at f3
            have H1 := Lib.hid H1
            have H2 := Lib.hid H2
            have H3 := Lib.hid H3
            have F := Lib.hid (And.intro f1 (And.intro f2 f3))
            clear q1 q2 q3 f1 f2 f3
            have RB0 := kp_row K0.out R5.out
            obtain ⟨s00, s01⟩ := sides2 RB0
            clear RB0
            have K0A := Lib.hid (Kp.trans K0.out (kp_alloc wr (.cells #[.int .i64 nn] 3)))
            have T0A := Lib.hid (T0.out.kp (kp_alloc wr (.cells #[.int .i64 nn] 3)))
            have C0A := Lib.hid (box_cell wr (.int .i64 nn) 3)
            go_wp2_with (first | (go_at_call 18; (with_reducible refine (H1.out _).mono ?_); rintro e' w' ⟨rfl, rfl⟩) | (go_at_call 23; (with_reducible refine (H2.out _).mono ?_); rintro e' w' ⟨rfl, rfl⟩) | (go_at_call 24; (with_reducible refine (H3.out _).mono ?_); rintro e' w' ⟨rfl, rfl⟩) | (at_builtin; refine wpList_append_int _ rfl (.tmp 83) (.tmp 85) rfl w5.heap.size _ _ _ rfl T0A.out.ox ⟨wr.heap.size, 0, none⟩ nn rfl ?c1 ?c2 ?c3 ?_))
            case c1 => rw [add_plain]; exact C0A.out
            case c2 => have := L1.out; omega
            case c3 => exact Below.size K0A.out
            rintro v1 w1a ho hg hb
            have T1 := Lib.hid ((ThreeR.app T0A.out ho hg (fun k q => by have := hb k q; simpa using this)))
            have K1 := Lib.hid (grown_kpI T0A.out.ox hg K0A.out (Nat.le_refl _))
            clear ho hg hb
            have RB1 := kp_row K1.out R5.out
            obtain ⟨s10, s11⟩ := sides2 RB1
            clear RB1
            go_wp2_with (first | (go_at_call 18; (with_reducible refine (H1.out _).mono ?_); rintro e' w' ⟨rfl, rfl⟩) | (go_at_call 23; (with_reducible refine (H2.out _).mono ?_); rintro e' w' ⟨rfl, rfl⟩) | (go_at_call 24; (with_reducible refine (H3.out _).mono ?_); rintro e' w' ⟨rfl, rfl⟩))
            have hnn := M.out.2.2
            have hlt := M.out.2.1
            rw [IntWalk.wrap64_in (nn + 1) (by omega)]
            go_roundw
            case rel => exact ⟨m + 1, by omega, by congr 1; omega, K1.out, by rw [F.out.1, F.out.2.1, F.out.2.2]; exact T1.out⟩
            case measure => simp [intOf]; omega
      | false =>
        cases q2 : takesT p e nn with
        | true =>
          cases q3 : sendsT p e nn with
          | true =>
            rw [q1] at H1 f1
            rw [q2] at H2 f2
            rw [q3] at H3 f3
            rw [if_neg (by decide), List.append_nil] at f1
            rw [if_pos rfl] at f2
            rw [if_pos rfl] at f3
            have H1 := Lib.hid H1
            have H2 := Lib.hid H2
            have H3 := Lib.hid H3
            have F := Lib.hid (And.intro f1 (And.intro f2 f3))
            clear q1 q2 q3 f1 f2 f3
            have RB0 := kp_row K0.out R5.out
            obtain ⟨s00, s01⟩ := sides2 RB0
            clear RB0
            have K0A := Lib.hid (Kp.trans K0.out (kp_alloc wr (.cells #[.int .i64 nn] 3)))
            have T0A := Lib.hid (T0.out.kp (kp_alloc wr (.cells #[.int .i64 nn] 3)))
            have C0A := Lib.hid (box_cell wr (.int .i64 nn) 3)
            go_wp2_with (first | (go_at_call 18; (with_reducible refine (H1.out _).mono ?_); rintro e' w' ⟨rfl, rfl⟩) | (go_at_call 23; (with_reducible refine (H2.out _).mono ?_); rintro e' w' ⟨rfl, rfl⟩) | (go_at_call 24; (with_reducible refine (H3.out _).mono ?_); rintro e' w' ⟨rfl, rfl⟩) | (at_builtin; refine wpList_append_int _ rfl (.tmp 93) (.tmp 95) rfl w5.heap.size _ _ _ rfl T0A.out.oy ⟨wr.heap.size, 0, none⟩ nn rfl ?c1 ?c2 ?c3 ?_))
            case c1 => rw [add_plain]; exact C0A.out
            case c2 => have := L2.out; omega
            case c3 => exact Below.size K0A.out
            rintro v1 w1a ho hg hb
            have T1 := Lib.hid ((ThreeR.app T0A.out.rot ho hg (fun k q => by have := hb k q; simpa using this)).rot.rot)
            have K1 := Lib.hid (grown_kpI T0A.out.oy hg K0A.out (Nat.le_refl _))
            clear ho hg hb
            have RB1 := kp_row K1.out R5.out
            obtain ⟨s10, s11⟩ := sides2 RB1
            clear RB1
            have K1A := Lib.hid (Kp.trans K1.out (kp_alloc w1a (.cells #[.int .i64 nn] 3)))
            have T1A := Lib.hid (T1.out.kp (kp_alloc w1a (.cells #[.int .i64 nn] 3)))
            have C1A := Lib.hid (box_cell w1a (.int .i64 nn) 3)
            go_wp2_with (first | (go_at_call 18; (with_reducible refine (H1.out _).mono ?_); rintro e' w' ⟨rfl, rfl⟩) | (go_at_call 23; (with_reducible refine (H2.out _).mono ?_); rintro e' w' ⟨rfl, rfl⟩) | (go_at_call 24; (with_reducible refine (H3.out _).mono ?_); rintro e' w' ⟨rfl, rfl⟩) | (at_builtin; refine wpList_append_int _ rfl (.tmp 103) (.tmp 105) rfl w5.heap.size _ _ _ rfl T1A.out.oz ⟨w1a.heap.size, 0, none⟩ nn rfl ?c1 ?c2 ?c3 ?_))
            case c1 => rw [add_plain]; exact C1A.out
            case c2 => have := L3.out; omega
            case c3 => exact Below.size K1A.out
            rintro v2 w2a ho hg hb
            have T2 := Lib.hid ((ThreeR.app T1A.out.rot.rot ho hg (fun k q => by have := hb k q; simpa using this)).rot)
            have K2 := Lib.hid (grown_kpI T1A.out.oz hg K1A.out (Nat.le_refl _))
            clear ho hg hb
            have RB2 := kp_row K2.out R5.out
            obtain ⟨s20, s21⟩ := sides2 RB2
            clear RB2
            go_wp2_with (first | (go_at_call 18; (with_reducible refine (H1.out _).mono ?_); rintro e' w' ⟨rfl, rfl⟩) | (go_at_call 23; (with_reducible refine (H2.out _).mono ?_); rintro e' w' ⟨rfl, rfl⟩) | (go_at_call 24; (with_reducible refine (H3.out _).mono ?_); rintro e' w' ⟨rfl, rfl⟩))
            have hnn := M.out.2.2
            have hlt := M.out.2.1
            rw [IntWalk.wrap64_in (nn + 1) (by omega)]
            go_roundw
            case rel => exact ⟨m + 1, by omega, by congr 1; omega, K2.out, by rw [F.out.1, F.out.2.1, F.out.2.2]; exact T2.out⟩
            case measure => simp [intOf]; omega
          | false =>
            rw [q1] at H1 f1
            rw [q2] at H2 f2
            rw [q3] at H3 f3
            rw [if_neg (by decide), List.append_nil] at f1
            rw [if_pos rfl] at f2
            rw [if_neg (by decide), List.append_nil] at f3
            have H1 := Lib.hid H1
            have H2 := Lib.hid H2
            have H3 := Lib.hid H3
            have F := Lib.hid (And.intro f1 (And.intro f2 f3))
            clear q1 q2 q3 f1 f2 f3
            have RB0 := kp_row K0.out R5.out
            obtain ⟨s00, s01⟩ := sides2 RB0
            clear RB0
            have K0A := Lib.hid (Kp.trans K0.out (kp_alloc wr (.cells #[.int .i64 nn] 3)))
            have T0A := Lib.hid (T0.out.kp (kp_alloc wr (.cells #[.int .i64 nn] 3)))
            have C0A := Lib.hid (box_cell wr (.int .i64 nn) 3)
            go_wp2_with (first | (go_at_call 18; (with_reducible refine (H1.out _).mono ?_); rintro e' w' ⟨rfl, rfl⟩) | (go_at_call 23; (with_reducible refine (H2.out _).mono ?_); rintro e' w' ⟨rfl, rfl⟩) | (go_at_call 24; (with_reducible refine (H3.out _).mono ?_); rintro e' w' ⟨rfl, rfl⟩) | (at_builtin; refine wpList_append_int _ rfl (.tmp 93) (.tmp 95) rfl w5.heap.size _ _ _ rfl T0A.out.oy ⟨wr.heap.size, 0, none⟩ nn rfl ?c1 ?c2 ?c3 ?_))
            case c1 => rw [add_plain]; exact C0A.out
            case c2 => have := L2.out; omega
            case c3 => exact Below.size K0A.out
            rintro v1 w1a ho hg hb
            have T1 := Lib.hid ((ThreeR.app T0A.out.rot ho hg (fun k q => by have := hb k q; simpa using this)).rot.rot)
            have K1 := Lib.hid (grown_kpI T0A.out.oy hg K0A.out (Nat.le_refl _))
            clear ho hg hb
            have RB1 := kp_row K1.out R5.out
            obtain ⟨s10, s11⟩ := sides2 RB1
            clear RB1
            go_wp2_with (first | (go_at_call 18; (with_reducible refine (H1.out _).mono ?_); rintro e' w' ⟨rfl, rfl⟩) | (go_at_call 23; (with_reducible refine (H2.out _).mono ?_); rintro e' w' ⟨rfl, rfl⟩) | (go_at_call 24; (with_reducible refine (H3.out _).mono ?_); rintro e' w' ⟨rfl, rfl⟩))
            have hnn := M.out.2.2
            have hlt := M.out.2.1
            rw [IntWalk.wrap64_in (nn + 1) (by omega)]
            go_roundw
            case rel => exact ⟨m + 1, by omega, by congr 1; omega, K1.out, by rw [F.out.1, F.out.2.1, F.out.2.2]; exact T1.out⟩
            case measure => simp [intOf]; omega
        | false =>
          cases q3 : sendsT p e nn with
          | true =>
            rw [q1] at H1 f1
            rw [q2] at H2 f2
            rw [q3] at H3 f3
            rw [if_neg (by decide), List.append_nil] at f1
            rw [if_neg (by decide), List.append_nil] at f2
            rw [if_pos rfl] at f3
            have H1 := Lib.hid H1
            have H2 := Lib.hid H2
            have H3 := Lib.hid H3
            have F := Lib.hid (And.intro f1 (And.intro f2 f3))
            clear q1 q2 q3 f1 f2 f3
            have RB0 := kp_row K0.out R5.out
            obtain ⟨s00, s01⟩ := sides2 RB0
            clear RB0
            have K0A := Lib.hid (Kp.trans K0.out (kp_alloc wr (.cells #[.int .i64 nn] 3)))
            have T0A := Lib.hid (T0.out.kp (kp_alloc wr (.cells #[.int .i64 nn] 3)))
            have C0A := Lib.hid (box_cell wr (.int .i64 nn) 3)
            go_wp2_with (first | (go_at_call 18; (with_reducible refine (H1.out _).mono ?_); rintro e' w' ⟨rfl, rfl⟩) | (go_at_call 23; (with_reducible refine (H2.out _).mono ?_); rintro e' w' ⟨rfl, rfl⟩) | (go_at_call 24; (with_reducible refine (H3.out _).mono ?_); rintro e' w' ⟨rfl, rfl⟩) | (at_builtin; refine wpList_append_int _ rfl (.tmp 103) (.tmp 105) rfl w5.heap.size _ _ _ rfl T0A.out.oz ⟨wr.heap.size, 0, none⟩ nn rfl ?c1 ?c2 ?c3 ?_))
            case c1 => rw [add_plain]; exact C0A.out
            case c2 => have := L3.out; omega
            case c3 => exact Below.size K0A.out
            rintro v1 w1a ho hg hb
            have T1 := Lib.hid ((ThreeR.app T0A.out.rot.rot ho hg (fun k q => by have := hb k q; simpa using this)).rot)
            have K1 := Lib.hid (grown_kpI T0A.out.oz hg K0A.out (Nat.le_refl _))
            clear ho hg hb
            have RB1 := kp_row K1.out R5.out
            obtain ⟨s10, s11⟩ := sides2 RB1
            clear RB1
            go_wp2_with (first | (go_at_call 18; (with_reducible refine (H1.out _).mono ?_); rintro e' w' ⟨rfl, rfl⟩) | (go_at_call 23; (with_reducible refine (H2.out _).mono ?_); rintro e' w' ⟨rfl, rfl⟩) | (go_at_call 24; (with_reducible refine (H3.out _).mono ?_); rintro e' w' ⟨rfl, rfl⟩))
            have hnn := M.out.2.2
            have hlt := M.out.2.1
            rw [IntWalk.wrap64_in (nn + 1) (by omega)]
            go_roundw
            case rel => exact ⟨m + 1, by omega, by congr 1; omega, K1.out, by rw [F.out.1, F.out.2.1, F.out.2.2]; exact T1.out⟩
            case measure => simp [intOf]; omega
          | false =>
            rw [q1] at H1 f1
            rw [q2] at H2 f2
            rw [q3] at H3 f3
            rw [if_neg (by decide), List.append_nil] at f1
            rw [if_neg (by decide), List.append_nil] at f2
            rw [if_neg (by decide), List.append_nil] at f3
            have H1 := Lib.hid H1
            have H2 := Lib.hid H2
            have H3 := Lib.hid H3
            have F := Lib.hid (And.intro f1 (And.intro f2 f3))
            clear q1 q2 q3 f1 f2 f3
            have RB0 := kp_row K0.out R5.out
            obtain ⟨s00, s01⟩ := sides2 RB0
            clear RB0
            go_wp2_with (first | (go_at_call 18; (with_reducible refine (H1.out _).mono ?_); rintro e' w' ⟨rfl, rfl⟩) | (go_at_call 23; (with_reducible refine (H2.out _).mono ?_); rintro e' w' ⟨rfl, rfl⟩) | (go_at_call 24; (with_reducible refine (H3.out _).mono ?_); rintro e' w' ⟨rfl, rfl⟩))
            have hnn := M.out.2.2
            have hlt := M.out.2.1
            rw [IntWalk.wrap64_in (nn + 1) (by omega)]
            go_roundw
            case rel => exact ⟨m + 1, by omega, by congr 1; omega, K0.out, by rw [F.out.1, F.out.2.1, F.out.2.2]; exact T0.out⟩
            case measure => simp [intOf]; omega
    · obtain rfl : m = 19 := by omega
      have hex : ¬ nn ≤ 19 := by omega
      have A := Lib.hid (A5.out.kp hk)
      have B := Lib.hid (B5.out.kp hk)
      have D := Lib.hid (D5.out.kp hk)
      have X := Lib.hid (own_sli h3.ox)
      have Y := Lib.hid (own_sli h3.oy)
      have Z := Lib.hid (own_sli h3.oz)
      have KW := Lib.hid (Kp.trans K5.out hk)
      have J1 := take_len (hasT p e) 19
      have J2 := take_len (takesT p e) 19
      have J3 := take_len (sendsT p e) 19
      have Q1 := Lib.hid (fun u v w1 h1 h2 => Q.out u v _ J1 w1 h1 h2)
      have Q2 := Lib.hid (fun u v w1 h1 h2 => Q.out u v _ J2 w1 h1 h2)
      have Q3 := Lib.hid (fun u v w1 h1 h2 => Q.out u v _ J3 w1 h1 h2)
      clear hk h3 hlt hm hnn J1 J2 J3
      go_wp2_with (first
        | (go_at_call 25; (with_reducible refine (Q1.out va _ _ A.out X.out).mono ?_); rintro e' wa ⟨rfl, hk⟩; have KA := Lib.hid (Kp.trans KW.out hk); have BA := Lib.hid (B.out.kp hk); have DA := Lib.hid (D.out.kp hk); have YA := Lib.hid (Y.out.kp hk); have ZA := Lib.hid (Z.out.kp hk); clear hk)
        | (go_at_call 25; (with_reducible refine (Q2.out vb _ _ BA.out YA.out).mono ?_); rintro e' wb ⟨rfl, hk⟩; have KC := Lib.hid (Kp.trans KA.out hk); have DB := Lib.hid (DA.out.kp hk); have ZB := Lib.hid (ZA.out.kp hk); clear hk)
        | (go_at_call 25; (with_reducible refine (Q3.out vc _ _ DB.out ZB.out).mono ?_); rintro e' wc ⟨rfl, hk⟩; have KD := Lib.hid (Kp.trans KC.out hk); clear hk))
      go_ret
      exact ⟨by first | rfl | simp, KD.out⟩
theorem tlists_any (ads : List Addr) (p e : Int) (hp : i64T p) (he : i64T e) (w : World) (V : St ads w) (C : TabC ads w) :
    Calls Tryd.prog 6 #[.agg #[.int .i64 p, .int .i64 e]] w fun e' w' => e' = .returned (.bool true) ∧ Kp w w' := by
  cases h : rightT p e with
  | false => exact tlists_wrong ads p e hp he w V C h
  | true => exact tlists_right ads p e hp he w C h
end Go.Proofs.YtoeidlhcioponaaDoor
