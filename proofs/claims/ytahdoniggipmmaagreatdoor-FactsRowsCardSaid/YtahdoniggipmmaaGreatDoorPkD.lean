/-
  PARTS OF THIS PROOF (own work): CisE, PvE, TryK, TryF, TryG, TryS, TryH.
-/
import Derived.Test.YtahdoniggipmmaaGreatDoorPkA
import Derived.Recover
import Derived.Laws.Pointers
import Derived.Defers
import Derived.Lib.SmallJoins

namespace Go.Proofs.YtahdoniggipmmaaGreatDoor
open Go.RowKit Go.Extern.Stop Go.Stop Go.Extern

theorem isErrorE (v : Value) (w : World) : (Instr.typeAssert (.iface 166 v) 20 31 true).run Tryz.prog w = .ok (.tuple #[.iface 166 v, .bool true]) w := run_typeAssert_hasB Tryz.underlying31 (by kernel_rfl) v _ w

theorem is_door (w : World) :
    CallsD Tryz.prog 102 #[] .returning w fun e u' w' => e = .returned (.tuple #[]) ∧ u' = .returning ∧ w' = w := by
  refine callsD_of_wpS Tryz.func102 rfl fun c₀ cs hu => ?_
  apply wpS_region
  cases c₀
  simp_all [wpOpsS, go_sem, recoverD, Tryz.ntmps102, bodyPostS, results, Tryz.results102]

theorem cis_of {v t : Value} {b : Bool} {w : World} (h : Calls Tryz.prog 37 #[v, t] w fun e w' => e = .returned (.bool b) ∧ w = w') :
    Calls Tryz.prog 97 #[v, t] w fun e w' => e = .returned (.bool b) ∧ w = w' := by
  go_enter_defers Tryz.func97, Tryz.ntmps97
  go_wp2_with (go_at_call 37; (with_reducible refine h.mono ?_); rintro e w' ⟨rfl, rfl⟩)
  refine leaves_cons (f := 102) (args := #[]) (by simp) (by simp [go_sem]) ?_
  refine (is_door _).mono ?_
  rintro e u' w'' ⟨rfl, rfl, rfl⟩
  simp [Leaves, settle, results, Tryz.results97, go_sem]

end Go.Proofs.YtahdoniggipmmaaGreatDoor

namespace Go.Proofs.YtahdoniggipmmaaGreatDoor
open Go.RowKit Go.Extern.Stop Go.Stop Go.Extern


/-- catch.named: K is the first place of the table at which errors.Is says yes (14: none). -/
theorem named_gen (ads : List Addr) (w : World) (E : Errs gs14 ads w) (v r : Value) (K : Nat) (hK : K ≤ 14)
    (H0 : ∀ (j : Nat) (h : j < ads.length), j < K → ∀ w1, Kp w w1 → Calls Tryz.prog 97 #[v, snt ads[j]] w1 fun e w' => e = .returned (.bool false) ∧ w1 = w')
    (H1 : ∀ (h : K < ads.length), ∀ w1, Kp w w1 → Calls Tryz.prog 97 #[v, snt ads[K]] w1 fun e w' => e = .returned (.bool true) ∧ w1 = w')
    (hr : (∃ h : K < ads.length, r = snt ads[K]) ∨ (K = 14 ∧ ∃ h : 12 < ads.length, r = snt ads[12])) :
    Calls Tryz.prog 86 #[v] w fun e w' => e = .returned r ∧ Kp w w' := by
  match ads, E, H0, H1, hr with
  | [a0, a1, a2, a3, a4, a5, a6, a7, a8, a9, a10, a11, a12, a13], E, H0, H1, hr =>
    have c0 : w.cell? ⟨1, 0, none⟩ = some (.iface 166 (.pointer (some a0))) := E.cell 0 (by decide)
    have c1 : w.cell? ⟨2, 0, none⟩ = some (.iface 166 (.pointer (some a1))) := E.cell 1 (by decide)
    have c2 : w.cell? ⟨3, 0, none⟩ = some (.iface 166 (.pointer (some a2))) := E.cell 2 (by decide)
    have c3 : w.cell? ⟨0, 0, none⟩ = some (.iface 166 (.pointer (some a3))) := E.cell 3 (by decide)
    have c4 : w.cell? ⟨4, 0, none⟩ = some (.iface 166 (.pointer (some a4))) := E.cell 4 (by decide)
    have c5 : w.cell? ⟨5, 0, none⟩ = some (.iface 166 (.pointer (some a5))) := E.cell 5 (by decide)
    have c6 : w.cell? ⟨6, 0, none⟩ = some (.iface 166 (.pointer (some a6))) := E.cell 6 (by decide)
    have c7 : w.cell? ⟨7, 0, none⟩ = some (.iface 166 (.pointer (some a7))) := E.cell 7 (by decide)
    have c8 : w.cell? ⟨8, 0, none⟩ = some (.iface 166 (.pointer (some a8))) := E.cell 8 (by decide)
    have c9 : w.cell? ⟨9, 0, none⟩ = some (.iface 166 (.pointer (some a9))) := E.cell 9 (by decide)
    have c10 : w.cell? ⟨10, 0, none⟩ = some (.iface 166 (.pointer (some a10))) := E.cell 10 (by decide)
    have c11 : w.cell? ⟨11, 0, none⟩ = some (.iface 166 (.pointer (some a11))) := E.cell 11 (by decide)
    have c12 : w.cell? ⟨12, 0, none⟩ = some (.iface 166 (.pointer (some a12))) := E.cell 12 (by decide)
    have c13 : w.cell? ⟨13, 0, none⟩ = some (.iface 166 (.pointer (some a13))) := E.cell 13 (by decide)
    have hnew : Kp w (w.alloc (.cells #[.iface 166 (.pointer (some a0)), .iface 166 (.pointer (some a1)), .iface 166 (.pointer (some a2)), .iface 166 (.pointer (some a3)), .iface 166 (.pointer (some a4)), .iface 166 (.pointer (some a5)), .iface 166 (.pointer (some a6)), .iface 166 (.pointer (some a7)), .iface 166 (.pointer (some a8)), .iface 166 (.pointer (some a9)), .iface 166 (.pointer (some a10)), .iface 166 (.pointer (some a11)), .iface 166 (.pointer (some a12)), .iface 166 (.pointer (some a13))] 31)) := (Below.refl _ _).alloc (Nat.le_refl _) _
    have hlt : 12 < w.heap.size := E.old.1 12 (by decide)
    have c12' : (w.alloc (.cells #[.iface 166 (.pointer (some a0)), .iface 166 (.pointer (some a1)), .iface 166 (.pointer (some a2)), .iface 166 (.pointer (some a3)), .iface 166 (.pointer (some a4)), .iface 166 (.pointer (some a5)), .iface 166 (.pointer (some a6)), .iface 166 (.pointer (some a7)), .iface 166 (.pointer (some a8)), .iface 166 (.pointer (some a9)), .iface 166 (.pointer (some a10)), .iface 166 (.pointer (some a11)), .iface 166 (.pointer (some a12)), .iface 166 (.pointer (some a13))] 31)).cell? ⟨12, 0, none⟩ = some (.iface 166 (.pointer (some a12))) := by rw [Below.cell hnew hlt]; exact c12
    have HE := Lib.hid E
    have HR := Lib.hid hr
    have HH0 := Lib.hid H0
    have HH1 := Lib.hid H1
    have HN := Lib.hid hnew
    clear E hr H0 H1 hnew
    go_enter Tryz.func86, Tryz.ntmps86
    go_wp2
    go_loop [23] (fun i => ∃ j : Nat, j ≤ K ∧ i = .int .i64 j) (fun i => 14 - (intOf i).toNat)
    case atStart => exact ⟨0, Nat.zero_le _, rfl⟩
    case round =>
      obtain ⟨j, hj, rfl⟩ := hrel
      by_cases hj14 : j = 14
      · subst hj14
        obtain rfl : K = 14 := by omega
        go_wp2
        go_ret
        refine ⟨?_, HN.out⟩
        rcases HR.out with ⟨h, _⟩ | ⟨_, h, rfl⟩
        · exact absurd h (by simp)
        · rfl
      · have hj14' : j < 14 := by omega
        obtain ⟨x, hx⟩ : ∃ x, ([a0, a1, a2, a3, a4, a5, a6, a7, a8, a9, a10, a11, a12, a13] : List Addr)[j]'(by simpa using hj14') = x := ⟨_, rfl⟩
        have hel : (w.alloc (.cells #[.iface 166 (.pointer (some a0)), .iface 166 (.pointer (some a1)), .iface 166 (.pointer (some a2)), .iface 166 (.pointer (some a3)), .iface 166 (.pointer (some a4)), .iface 166 (.pointer (some a5)), .iface 166 (.pointer (some a6)), .iface 166 (.pointer (some a7)), .iface 166 (.pointer (some a8)), .iface 166 (.pointer (some a9)), .iface 166 (.pointer (some a10)), .iface 166 (.pointer (some a11)), .iface 166 (.pointer (some a12)), .iface 166 (.pointer (some a13))] 31)).cell? ⟨w.heap.size, j, none⟩ = some (.iface 166 (.pointer (some x))) := by
          rw [← hx]; exact cells_new w [a0, a1, a2, a3, a4, a5, a6, a7, a8, a9, a10, a11, a12, a13] 31 j (by simpa using hj14')
        by_cases hjk : j = K
        · subst hjk
          have h1 := HH1.out (by simpa using hj14') _ HN.out
          rw [hx] at h1
          have hrx : r = snt x := by
            rcases HR.out with ⟨h, rfl⟩ | ⟨h, _⟩
            · rw [hx]
            · exact absurd h (by omega)
          have HX := Lib.hid hx
          have HC := Lib.hid h1
          have HRX := Lib.hid hrx
          clear hx h1 hrx
          go_wp2_with (go_at_call 97; (with_reducible refine HC.out.mono ?_); rintro e w' ⟨rfl, rfl⟩)
          go_ret
          exact ⟨by rw [HRX.out]; rfl, HN.out⟩
        · have h0 := HH0.out j (by simpa using hj14') (by omega) _ HN.out
          rw [hx] at h0
          have HX := Lib.hid hx
          have HC := Lib.hid h0
          clear hx h0
          go_wp2_with (go_at_call 97; (with_reducible refine HC.out.mono ?_); rintro e w' ⟨rfl, rfl⟩)
          go_round
          case rel => exact ⟨j + 1, by omega, by go_num⟩
          case measure => simp [intOf]; omega

theorem named_any (ads : List Addr) (w : World) (V : St ads w) (k : Nat) (hk : k < ads.length) :
    Calls Tryz.prog 86 #[snt ads[k]] w fun e w' => e = .returned (snt ads[k]) ∧ Kp w w' := by
  have hl : ads.length = 14 := V.len
  refine named_gen ads w V _ _ k (by omega) (fun j hj hjk w1 hw => ?_) (fun _ w1 hw => ?_) (.inl ⟨hk, rfl⟩)
  · have V1 := V.below hw
    obtain ⟨ca, ta, ra⟩ := V1.row _ (List.getElem_mem hk)
    obtain ⟨cb, tb, rb⟩ := V1.row _ (List.getElem_mem hj)
    refine cis_of (is_other _ _ ca cb ta tb w1 (fun e => ?_) ra rb)
    exact List.pairwise_iff_getElem.1 V.nodup j k hj hk hjk e.symm
  · exact cis_of (is_same _ w1)

/-- catch.errorOf: A PANIC's ERROR. -/
theorem errorOf_any (ads : List Addr) (w : World) (V : St ads w) (k : Nat) (hk : k < ads.length) :
    Calls Tryz.prog 57 #[snt ads[k]] w fun e w' => e = .returned (snt ads[k]) ∧ Kp w w' := by
  have hn := named_any ads w V k hk
  obtain ⟨r, hr⟩ : ∃ r, ads[k] = r := ⟨_, rfl⟩
  rw [hr] at hn ⊢
  have HN := Lib.hid hn
  have ha := isErrorE (.pointer (some r)) w
  clear hn hr
  go_enter Tryz.func57, Tryz.ntmps57
  go_wp2_with (go_at_call 86; (with_reducible refine HN.out.mono ?_); rintro e w' ⟨rfl, hw⟩)
  go_ret
  exact ⟨rfl, hw⟩
end Go.Proofs.YtahdoniggipmmaaGreatDoor

namespace Go.Proofs.YtahdoniggipmmaaGreatDoor
open Go.RowKit Go.Extern.Stop Go.Stop Go.Extern

/-- BLOCKS FROM B ON ARE AS THEY WERE. -/
def Past (B : Nat) (w w' : World) : Prop := w.heap.size ≤ w'.heap.size ∧ ∀ b, B ≤ b → b < w.heap.size → w'.heap[b]? = w.heap[b]?
/-- ALL BUT THE BLOCKS B, B + 1 IS AS IT WAS. -/
def Aside (B : Nat) (w w' : World) : Prop := w.heap.size ≤ w'.heap.size ∧ ∀ b, b ≠ B → b ≠ B + 1 → w'.heap[b]? = w.heap[b]?
theorem Aside.below {B : Nat} {w w' : World} (h : Below B w w') (hs : ∀ b, b ≠ B → b ≠ B + 1 → w'.heap[b]? = w.heap[b]?) : Aside B w w' := ⟨h.size, hs⟩
theorem past_of {w0 w w' : World} (h : Kp w w') : Past w0.heap.size w w' := ⟨Below.size h, fun b _ hb => Below.block h b hb⟩
/-- WHAT IS DONE WITHIN, between two stretches that turn no old memory. -/
def Mid (w : World) (G : World → World → Prop) (w' : World) : Prop := ∃ w1 w2, Below w.heap.size w w1 ∧ w1.heap.size = w.heap.size + 2 ∧ G w1 w2 ∧ Below w.heap.size w2 w'

theorem own_aside {w w' : World} {B base : Nat} {e : TypeId} {size n : Nat} {v : Value} {xs : List Value} (h : w.ownsRow base e size v n xs) (ha : Aside B w w') (hb : B + 2 ≤ base) : w'.ownsRow base e size v n xs := by
  obtain ⟨h1, h2⟩ := h
  refine ⟨h1, ?_⟩
  rcases h2 with h2 | ⟨g, cap, cur, hv, hg, hh, r⟩
  · exact Or.inl h2
  · exact Or.inr ⟨g, cap, cur, hv, hg, by rw [ha.2 g (by omega) (by omega)]; exact hh, r⟩

theorem try_new0 (w : World) (o o' : Obj) : ((w.alloc o).alloc o').heap[w.heap.size]? = some o := by
  rw [Below.heap_alloc _ _ _ (by simp)]
  exact (MapKept.heap_alloc w o).1
theorem try_new1 (w : World) (o o' : Obj) : ((w.alloc o).alloc o').heap[w.heap.size + 1]? = some o' := by
  have := (MapKept.heap_alloc (w.alloc o) o').1
  simpa using this
theorem heap_setCell_other (w : World) (q : Addr) (v : Value) (b : Nat) (h : b ≠ q.block) : (w.setCell q v).heap[b]? = w.heap[b]? := Below.heap_setCell w q v b h
end Go.Proofs.YtahdoniggipmmaaGreatDoor

namespace Go.Proofs.YtahdoniggipmmaaGreatDoor
open Go.RowKit Go.Extern.Stop Go.Stop Go.Extern



theorem door_bytes_panic (ads : List Addr) (p q : Addr) (old : Value) (k : Nat) (hk : k < ads.length) (older : List PanicEntry) (w : World) (V : St ads w)
    (hp : w.cell? p = some (.bool true)) (hq : w.cell? q = some old) (hz : w.frozen? q = false) :
    CallsD Tryz.prog 56 #[.pointer (some p), .pointer (some q)] (.panicking ({ v := snt ads[k], recovered := false } :: older)) w fun e u' w' =>
      e = .returned (.tuple #[]) ∧ u' = .panicking ({ v := snt ads[k], recovered := true } :: older) ∧ ∃ w1, Kp w w1 ∧ w' = w1.setCell q (snt ads[k]) := by
  have hqb := old_of_cell hq
  have hn := errorOf_any ads w V k hk
  obtain ⟨a, ha⟩ : ∃ a, ads[k] = a := ⟨_, rfl⟩
  rw [ha] at hn ⊢
  clear ha V
  refine callsD_of_wpS Tryz.func56 rfl fun c₀ cs hu => ?_
  apply wpS_seq
  apply wpS_region
  simp [wpOpsS, go_sem, recoverD, hu, Tryz.ntmps56, Exit.thenS]
  refine wpS_of_wp ?_
  change Code.wp _ _ _ { tmps := #[.pointer (some p), .pointer (some q), snt a, snt a, undef, undef, undef], defers := [] } _
  have HN := Lib.hid hn
  have HU := Lib.hid hu
  clear hn hu
  go_wp2_with (go_at_call 57; (with_reducible refine HN.out.mono ?_); rintro e w1 ⟨rfl, hw⟩; have hq1 : w1.cell? q = some old := (by rw [Below.cell hw hqb]; exact hq); have hz1 : w1.frozen? q = false := (by rw [Below.frozen hw hqb]; exact hz))
  exact ⟨rfl, _, rfl, _, results_none rfl _ _ _, rfl, rfl, w1, hw, rfl⟩

theorem door_bytes_idle (p q : Addr) (w : World) (hp : w.cell? p = some (.bool false)) :
    CallsD Tryz.prog 56 #[.pointer (some p), .pointer (some q)] .returning w fun e u' w' => e = .returned (.tuple #[]) ∧ u' = .returning ∧ w' = w := by
  refine callsD_of_wpS Tryz.func56 rfl fun c₀ cs hu => ?_
  apply wpS_seq
  apply wpS_region
  simp [wpOpsS, go_sem, recoverD, hu, Tryz.ntmps56, Exit.thenS]
  refine wpS_of_wp ?_
  change Code.wp _ _ _ { tmps := #[.pointer (some p), .pointer (some q), .nilIface, .nilIface, undef, undef, undef], defers := [] } _
  go_wp2
  cases c₀
  simp only at hu
  subst hu
  exact ⟨rfl, _, rfl, _, results_none rfl _ _ _, rfl, rfl, rfl⟩


theorem door_fields_panic (ads : List Addr) (p q : Addr) (old : Value) (k : Nat) (hk : k < ads.length) (older : List PanicEntry) (w : World) (V : St ads w)
    (hp : w.cell? p = some (.bool true)) (hq : w.cell? q = some old) (hz : w.frozen? q = false) :
    CallsD Tryz.prog 92 #[.pointer (some p), .pointer (some q)] (.panicking ({ v := snt ads[k], recovered := false } :: older)) w fun e u' w' =>
      e = .returned (.tuple #[]) ∧ u' = .panicking ({ v := snt ads[k], recovered := true } :: older) ∧ ∃ w1, Kp w w1 ∧ w' = w1.setCell q (snt ads[k]) := by
  have hqb := old_of_cell hq
  have hn := errorOf_any ads w V k hk
  obtain ⟨a, ha⟩ : ∃ a, ads[k] = a := ⟨_, rfl⟩
  rw [ha] at hn ⊢
  clear ha V
  refine callsD_of_wpS Tryz.func92 rfl fun c₀ cs hu => ?_
  apply wpS_seq
  apply wpS_region
  simp [wpOpsS, go_sem, recoverD, hu, Tryz.ntmps92, Exit.thenS]
  refine wpS_of_wp ?_
  change Code.wp _ _ _ { tmps := #[.pointer (some p), .pointer (some q), snt a, snt a, undef, undef, undef], defers := [] } _
  have HN := Lib.hid hn
  have HU := Lib.hid hu
  clear hn hu
  go_wp2_with (go_at_call 57; (with_reducible refine HN.out.mono ?_); rintro e w1 ⟨rfl, hw⟩; have hq1 : w1.cell? q = some old := (by rw [Below.cell hw hqb]; exact hq); have hz1 : w1.frozen? q = false := (by rw [Below.frozen hw hqb]; exact hz))
  exact ⟨rfl, _, rfl, _, results_none rfl _ _ _, rfl, rfl, w1, hw, rfl⟩

theorem door_fields_idle (p q : Addr) (w : World) (hp : w.cell? p = some (.bool false)) :
    CallsD Tryz.prog 92 #[.pointer (some p), .pointer (some q)] .returning w fun e u' w' => e = .returned (.tuple #[]) ∧ u' = .returning ∧ w' = w := by
  refine callsD_of_wpS Tryz.func92 rfl fun c₀ cs hu => ?_
  apply wpS_seq
  apply wpS_region
  simp [wpOpsS, go_sem, recoverD, hu, Tryz.ntmps92, Exit.thenS]
  refine wpS_of_wp ?_
  change Code.wp _ _ _ { tmps := #[.pointer (some p), .pointer (some q), .nilIface, .nilIface, undef, undef, undef], defers := [] } _
  go_wp2
  cases c₀
  simp only at hu
  subst hu
  exact ⟨rfl, _, rfl, _, results_none rfl _ _ _, rfl, rfl, rfl⟩


theorem door_int_panic (ads : List Addr) (p q : Addr) (old : Value) (k : Nat) (hk : k < ads.length) (older : List PanicEntry) (w : World) (V : St ads w)
    (hp : w.cell? p = some (.bool true)) (hq : w.cell? q = some old) (hz : w.frozen? q = false) :
    CallsD Tryz.prog 101 #[.pointer (some p), .pointer (some q)] (.panicking ({ v := snt ads[k], recovered := false } :: older)) w fun e u' w' =>
      e = .returned (.tuple #[]) ∧ u' = .panicking ({ v := snt ads[k], recovered := true } :: older) ∧ ∃ w1, Kp w w1 ∧ w' = w1.setCell q (snt ads[k]) := by
  have hqb := old_of_cell hq
  have hn := errorOf_any ads w V k hk
  obtain ⟨a, ha⟩ : ∃ a, ads[k] = a := ⟨_, rfl⟩
  rw [ha] at hn ⊢
  clear ha V
  refine callsD_of_wpS Tryz.func101 rfl fun c₀ cs hu => ?_
  apply wpS_seq
  apply wpS_region
  simp [wpOpsS, go_sem, recoverD, hu, Tryz.ntmps101, Exit.thenS]
  refine wpS_of_wp ?_
  change Code.wp _ _ _ { tmps := #[.pointer (some p), .pointer (some q), snt a, snt a, undef, undef, undef], defers := [] } _
  have HN := Lib.hid hn
  have HU := Lib.hid hu
  clear hn hu
  go_wp2_with (go_at_call 57; (with_reducible refine HN.out.mono ?_); rintro e w1 ⟨rfl, hw⟩; have hq1 : w1.cell? q = some old := (by rw [Below.cell hw hqb]; exact hq); have hz1 : w1.frozen? q = false := (by rw [Below.frozen hw hqb]; exact hz))
  exact ⟨rfl, _, rfl, _, results_none rfl _ _ _, rfl, rfl, w1, hw, rfl⟩

theorem door_int_idle (p q : Addr) (w : World) (hp : w.cell? p = some (.bool false)) :
    CallsD Tryz.prog 101 #[.pointer (some p), .pointer (some q)] .returning w fun e u' w' => e = .returned (.tuple #[]) ∧ u' = .returning ∧ w' = w := by
  refine callsD_of_wpS Tryz.func101 rfl fun c₀ cs hu => ?_
  apply wpS_seq
  apply wpS_region
  simp [wpOpsS, go_sem, recoverD, hu, Tryz.ntmps101, Exit.thenS]
  refine wpS_of_wp ?_
  change Code.wp _ _ _ { tmps := #[.pointer (some p), .pointer (some q), .nilIface, .nilIface, undef, undef, undef], defers := [] } _
  go_wp2
  cases c₀
  simp only at hu
  subst hu
  exact ⟨rfl, _, rfl, _, results_none rfl _ _ _, rfl, rfl, rfl⟩


theorem door_f64_panic (ads : List Addr) (p q : Addr) (old : Value) (k : Nat) (hk : k < ads.length) (older : List PanicEntry) (w : World) (V : St ads w)
    (hp : w.cell? p = some (.bool true)) (hq : w.cell? q = some old) (hz : w.frozen? q = false) :
    CallsD Tryz.prog 93 #[.pointer (some p), .pointer (some q)] (.panicking ({ v := snt ads[k], recovered := false } :: older)) w fun e u' w' =>
      e = .returned (.tuple #[]) ∧ u' = .panicking ({ v := snt ads[k], recovered := true } :: older) ∧ ∃ w1, Kp w w1 ∧ w' = w1.setCell q (snt ads[k]) := by
  have hqb := old_of_cell hq
  have hn := errorOf_any ads w V k hk
  obtain ⟨a, ha⟩ : ∃ a, ads[k] = a := ⟨_, rfl⟩
  rw [ha] at hn ⊢
  clear ha V
  refine callsD_of_wpS Tryz.func93 rfl fun c₀ cs hu => ?_
  apply wpS_seq
  apply wpS_region
  simp [wpOpsS, go_sem, recoverD, hu, Tryz.ntmps93, Exit.thenS]
  refine wpS_of_wp ?_
  change Code.wp _ _ _ { tmps := #[.pointer (some p), .pointer (some q), snt a, snt a, undef, undef, undef], defers := [] } _
  have HN := Lib.hid hn
  have HU := Lib.hid hu
  clear hn hu
  go_wp2_with (go_at_call 57; (with_reducible refine HN.out.mono ?_); rintro e w1 ⟨rfl, hw⟩; have hq1 : w1.cell? q = some old := (by rw [Below.cell hw hqb]; exact hq); have hz1 : w1.frozen? q = false := (by rw [Below.frozen hw hqb]; exact hz))
  exact ⟨rfl, _, rfl, _, results_none rfl _ _ _, rfl, rfl, w1, hw, rfl⟩

theorem door_f64_idle (p q : Addr) (w : World) (hp : w.cell? p = some (.bool false)) :
    CallsD Tryz.prog 93 #[.pointer (some p), .pointer (some q)] .returning w fun e u' w' => e = .returned (.tuple #[]) ∧ u' = .returning ∧ w' = w := by
  refine callsD_of_wpS Tryz.func93 rfl fun c₀ cs hu => ?_
  apply wpS_seq
  apply wpS_region
  simp [wpOpsS, go_sem, recoverD, hu, Tryz.ntmps93, Exit.thenS]
  refine wpS_of_wp ?_
  change Code.wp _ _ _ { tmps := #[.pointer (some p), .pointer (some q), .nilIface, .nilIface, undef, undef, undef], defers := [] } _
  go_wp2
  cases c₀
  simp only at hu
  subst hu
  exact ⟨rfl, _, rfl, _, results_none rfl _ _ _, rfl, rfl, rfl⟩


set_option maxRecDepth 20000 in
theorem try_bytes_ret (f : FuncId) (caps : Array Value) (w : World) (G : Value → World → World → Prop) (hf : ∀ w, (callFunc f caps).run Tryz.prog w = .ok (.enter f caps) w)
    (H : ∀ w1, Below w.heap.size w w1 → w1.heap.size = w.heap.size + 2 → Calls Tryz.prog f caps w1 fun e w2 => ∃ v, e = .returned v ∧ Past w.heap.size w1 w2 ∧ G v w1 w2) :
    Calls Tryz.prog 20 #[.func (.func f) #[] caps] w fun e w' => ∃ v, e = .returned (.tuple #[v, .nilIface]) ∧ ∃ w1 w2, Below w.heap.size w w1 ∧ w1.heap.size = w.heap.size + 2 ∧ G v w1 w2 ∧ Below w.heap.size w2 w' ∧ Aside w.heap.size w2 w' := by
  have hmf : ∀ (fn : Fn) (first cap : Array Value) (w : World), (Instr.makeFunc fn first cap).run Tryz.prog w = .ok (.func fn first cap) w := fun _ _ _ _ => rfl
  have hN : ((w.alloc (.cells #[.nilIface] 31)).alloc (.cells #[.bool true] 4)).heap[w.heap.size]? = some (.cells #[.nilIface] 31) := try_new0 _ _ _
  have hM : ((w.alloc (.cells #[.nilIface] 31)).alloc (.cells #[.bool true] 4)).heap[w.heap.size + 1]? = some (.cells #[.bool true] 4) := try_new1 _ _ _
  have hB : Below w.heap.size w ((w.alloc (.cells #[.nilIface] 31)).alloc (.cells #[.bool true] 4)) := ((Below.refl _ _).alloc (Nat.le_refl _) _).alloc (by simp) _
  have hS : ((w.alloc (.cells #[.nilIface] 31)).alloc (.cells #[.bool true] 4)).heap.size = w.heap.size + 2 := by simp
  have HH := Lib.hid H
  have HN := Lib.hid hN
  have HM := Lib.hid hM
  have HB := Lib.hid hB
  have HS := Lib.hid hS
  clear H hN hM hB hS
  go_enter_defers Tryz.func20, Tryz.ntmps20
  go_wp2
  with_reducible refine (HH.out _ HB.out HS.out).mono ?_
  rintro e w2 ⟨v, rfl, hP, hG⟩
  have e0 : w2.heap[w.heap.size]? = some (.cells #[.nilIface] 31) := (hP.2 _ (by omega) (by rw [HS.out]; omega)).trans HN.out
  have e1 : w2.heap[w.heap.size + 1]? = some (.cells #[.bool true] 4) := (hP.2 _ (by omega) (by rw [HS.out]; omega)).trans HM.out
  have c0 : w2.cell? ⟨w.heap.size, 0, none⟩ = some .nilIface := by simp [World.cell?, e0]
  have c1 : w2.cell? ⟨w.heap.size + 1, 0, none⟩ = some (.bool true) := by simp [World.cell?, e1]
  have z0 : w2.frozen? ⟨w.heap.size, 0, none⟩ = false := by simp [World.frozen?, e0]
  have z1 : w2.frozen? ⟨w.heap.size + 1, 0, none⟩ = false := by simp [World.frozen?, e1]
  clear e0 e1
  go_wp2
  refine leaves_cons (f := 56) (args := #[.pointer (some ⟨w.heap.size + 1, 0, none⟩), .pointer (some ⟨w.heap.size, 0, none⟩)]) (by simp) (by simp [go_sem]) ?_
  refine (door_bytes_idle _ _ _ (by simp [go_sem, c1])).mono ?_
  rintro e u' w3 ⟨rfl, rfl, rfl⟩
  simp [Leaves, settle, results, Tryz.results20, go_sem, c0]
  have hb := ((Below.refl w.heap.size w2).setCell (show w.heap.size ≤ w.heap.size + 1 by omega) (.bool false) (p := ⟨w.heap.size + 1, 0, none⟩)).setCell (show w.heap.size ≤ w.heap.size by omega) (.nilIface) (p := ⟨w.heap.size, 0, none⟩)
  exact ⟨_, HB.out, HS.out, _, hG, hb, Aside.below hb fun b h0 h1 => by rw [heap_setCell_other _ _ _ _ h0, heap_setCell_other _ _ _ _ h1]⟩

set_option maxRecDepth 20000 in
theorem try_bytes_panic (ads : List Addr) (k : Nat) (hk : k < ads.length) (f : FuncId) (caps : Array Value) (w : World) (G : World → World → Prop) (hf : ∀ w, (callFunc f caps).run Tryz.prog w = .ok (.enter f caps) w)
    (H : ∀ w1, Below w.heap.size w w1 → w1.heap.size = w.heap.size + 2 → Calls Tryz.prog f caps w1 fun e w2 => e = .panicked [{ v := snt ads[k], recovered := false }] ∧ St ads w2 ∧ Past w.heap.size w1 w2 ∧ G w1 w2) :
    Calls Tryz.prog 20 #[.func (.func f) #[] caps] w fun e w' => e = .returned (.tuple #[.slice none 0 0, snt ads[k]]) ∧ Mid w G w' := by
  have hmf : ∀ (fn : Fn) (first cap : Array Value) (w : World), (Instr.makeFunc fn first cap).run Tryz.prog w = .ok (.func fn first cap) w := fun _ _ _ _ => rfl
  have hN : ((w.alloc (.cells #[.nilIface] 31)).alloc (.cells #[.bool true] 4)).heap[w.heap.size]? = some (.cells #[.nilIface] 31) := try_new0 _ _ _
  have hM : ((w.alloc (.cells #[.nilIface] 31)).alloc (.cells #[.bool true] 4)).heap[w.heap.size + 1]? = some (.cells #[.bool true] 4) := try_new1 _ _ _
  have hB : Below w.heap.size w ((w.alloc (.cells #[.nilIface] 31)).alloc (.cells #[.bool true] 4)) := ((Below.refl _ _).alloc (Nat.le_refl _) _).alloc (by simp) _
  have hS : ((w.alloc (.cells #[.nilIface] 31)).alloc (.cells #[.bool true] 4)).heap.size = w.heap.size + 2 := by simp
  have HH := Lib.hid H
  have HN := Lib.hid hN
  have HM := Lib.hid hM
  have HB := Lib.hid hB
  have HS := Lib.hid hS
  clear H hN hM hB hS
  go_enter_defers Tryz.func20, Tryz.ntmps20
  go_wp2
  with_reducible refine (HH.out _ HB.out HS.out).mono ?_
  rintro e w2 ⟨rfl, hV, hP, hG⟩
  have e0 : w2.heap[w.heap.size]? = some (.cells #[.nilIface] 31) := (hP.2 _ (by omega) (by rw [HS.out]; omega)).trans HN.out
  have e1 : w2.heap[w.heap.size + 1]? = some (.cells #[.bool true] 4) := (hP.2 _ (by omega) (by rw [HS.out]; omega)).trans HM.out
  have c0 : w2.cell? ⟨w.heap.size, 0, none⟩ = some .nilIface := by simp [World.cell?, e0]
  have c1 : w2.cell? ⟨w.heap.size + 1, 0, none⟩ = some (.bool true) := by simp [World.cell?, e1]
  have z0 : w2.frozen? ⟨w.heap.size, 0, none⟩ = false := by simp [World.frozen?, e0]
  have hd := door_bytes_panic ads ⟨w.heap.size + 1, 0, none⟩ ⟨w.heap.size, 0, none⟩ .nilIface k hk [] w2 hV c1 c0 z0
  have hlt : w.heap.size < w2.heap.size := old_of_cell c0
  clear e0 e1
  refine leaves_cons (f := 56) (args := #[.pointer (some ⟨w.heap.size + 1, 0, none⟩), .pointer (some ⟨w.heap.size, 0, none⟩)]) (by simp) (by simp [go_sem]) ?_
  refine hd.mono ?_
  rintro e u' w3 ⟨rfl, rfl, w4, hw4, rfl⟩
  have c4 : w4.cell? ⟨w.heap.size, 0, none⟩ = some .nilIface := by rw [Below.cell hw4 hlt]; exact c0
  simp [Leaves, settle, results, Tryz.results20, go_sem, c4]
  exact ⟨_, _, HB.out, HS.out, hG, (Below.mono hw4 (by omega)).setCell (show w.heap.size ≤ w.heap.size by omega) _⟩


set_option maxRecDepth 20000 in
theorem try_fields_ret (f : FuncId) (caps : Array Value) (w : World) (G : Value → World → World → Prop) (hf : ∀ w, (callFunc f caps).run Tryz.prog w = .ok (.enter f caps) w)
    (H : ∀ w1, Below w.heap.size w w1 → w1.heap.size = w.heap.size + 2 → Calls Tryz.prog f caps w1 fun e w2 => ∃ v, e = .returned v ∧ Past w.heap.size w1 w2 ∧ G v w1 w2) :
    Calls Tryz.prog 73 #[.func (.func f) #[] caps] w fun e w' => ∃ v, e = .returned (.tuple #[v, .nilIface]) ∧ ∃ w1 w2, Below w.heap.size w w1 ∧ w1.heap.size = w.heap.size + 2 ∧ G v w1 w2 ∧ Below w.heap.size w2 w' ∧ Aside w.heap.size w2 w' := by
  have hmf : ∀ (fn : Fn) (first cap : Array Value) (w : World), (Instr.makeFunc fn first cap).run Tryz.prog w = .ok (.func fn first cap) w := fun _ _ _ _ => rfl
  have hN : ((w.alloc (.cells #[.nilIface] 31)).alloc (.cells #[.bool true] 4)).heap[w.heap.size]? = some (.cells #[.nilIface] 31) := try_new0 _ _ _
  have hM : ((w.alloc (.cells #[.nilIface] 31)).alloc (.cells #[.bool true] 4)).heap[w.heap.size + 1]? = some (.cells #[.bool true] 4) := try_new1 _ _ _
  have hB : Below w.heap.size w ((w.alloc (.cells #[.nilIface] 31)).alloc (.cells #[.bool true] 4)) := ((Below.refl _ _).alloc (Nat.le_refl _) _).alloc (by simp) _
  have hS : ((w.alloc (.cells #[.nilIface] 31)).alloc (.cells #[.bool true] 4)).heap.size = w.heap.size + 2 := by simp
  have HH := Lib.hid H
  have HN := Lib.hid hN
  have HM := Lib.hid hM
  have HB := Lib.hid hB
  have HS := Lib.hid hS
  clear H hN hM hB hS
  go_enter_defers Tryz.func73, Tryz.ntmps73
  go_wp2
  with_reducible refine (HH.out _ HB.out HS.out).mono ?_
  rintro e w2 ⟨v, rfl, hP, hG⟩
  have e0 : w2.heap[w.heap.size]? = some (.cells #[.nilIface] 31) := (hP.2 _ (by omega) (by rw [HS.out]; omega)).trans HN.out
  have e1 : w2.heap[w.heap.size + 1]? = some (.cells #[.bool true] 4) := (hP.2 _ (by omega) (by rw [HS.out]; omega)).trans HM.out
  have c0 : w2.cell? ⟨w.heap.size, 0, none⟩ = some .nilIface := by simp [World.cell?, e0]
  have c1 : w2.cell? ⟨w.heap.size + 1, 0, none⟩ = some (.bool true) := by simp [World.cell?, e1]
  have z0 : w2.frozen? ⟨w.heap.size, 0, none⟩ = false := by simp [World.frozen?, e0]
  have z1 : w2.frozen? ⟨w.heap.size + 1, 0, none⟩ = false := by simp [World.frozen?, e1]
  clear e0 e1
  go_wp2
  refine leaves_cons (f := 92) (args := #[.pointer (some ⟨w.heap.size + 1, 0, none⟩), .pointer (some ⟨w.heap.size, 0, none⟩)]) (by simp) (by simp [go_sem]) ?_
  refine (door_fields_idle _ _ _ (by simp [go_sem, c1])).mono ?_
  rintro e u' w3 ⟨rfl, rfl, rfl⟩
  simp [Leaves, settle, results, Tryz.results73, go_sem, c0]
  have hb := ((Below.refl w.heap.size w2).setCell (show w.heap.size ≤ w.heap.size + 1 by omega) (.bool false) (p := ⟨w.heap.size + 1, 0, none⟩)).setCell (show w.heap.size ≤ w.heap.size by omega) (.nilIface) (p := ⟨w.heap.size, 0, none⟩)
  exact ⟨_, HB.out, HS.out, _, hG, hb, Aside.below hb fun b h0 h1 => by rw [heap_setCell_other _ _ _ _ h0, heap_setCell_other _ _ _ _ h1]⟩

set_option maxRecDepth 20000 in
theorem try_fields_panic (ads : List Addr) (k : Nat) (hk : k < ads.length) (f : FuncId) (caps : Array Value) (w : World) (G : World → World → Prop) (hf : ∀ w, (callFunc f caps).run Tryz.prog w = .ok (.enter f caps) w)
    (H : ∀ w1, Below w.heap.size w w1 → w1.heap.size = w.heap.size + 2 → Calls Tryz.prog f caps w1 fun e w2 => e = .panicked [{ v := snt ads[k], recovered := false }] ∧ St ads w2 ∧ Past w.heap.size w1 w2 ∧ G w1 w2) :
    Calls Tryz.prog 73 #[.func (.func f) #[] caps] w fun e w' => e = .returned (.tuple #[.slice none 0 0, snt ads[k]]) ∧ Mid w G w' := by
  have hmf : ∀ (fn : Fn) (first cap : Array Value) (w : World), (Instr.makeFunc fn first cap).run Tryz.prog w = .ok (.func fn first cap) w := fun _ _ _ _ => rfl
  have hN : ((w.alloc (.cells #[.nilIface] 31)).alloc (.cells #[.bool true] 4)).heap[w.heap.size]? = some (.cells #[.nilIface] 31) := try_new0 _ _ _
  have hM : ((w.alloc (.cells #[.nilIface] 31)).alloc (.cells #[.bool true] 4)).heap[w.heap.size + 1]? = some (.cells #[.bool true] 4) := try_new1 _ _ _
  have hB : Below w.heap.size w ((w.alloc (.cells #[.nilIface] 31)).alloc (.cells #[.bool true] 4)) := ((Below.refl _ _).alloc (Nat.le_refl _) _).alloc (by simp) _
  have hS : ((w.alloc (.cells #[.nilIface] 31)).alloc (.cells #[.bool true] 4)).heap.size = w.heap.size + 2 := by simp
  have HH := Lib.hid H
  have HN := Lib.hid hN
  have HM := Lib.hid hM
  have HB := Lib.hid hB
  have HS := Lib.hid hS
  clear H hN hM hB hS
  go_enter_defers Tryz.func73, Tryz.ntmps73
  go_wp2
  with_reducible refine (HH.out _ HB.out HS.out).mono ?_
  rintro e w2 ⟨rfl, hV, hP, hG⟩
  have e0 : w2.heap[w.heap.size]? = some (.cells #[.nilIface] 31) := (hP.2 _ (by omega) (by rw [HS.out]; omega)).trans HN.out
  have e1 : w2.heap[w.heap.size + 1]? = some (.cells #[.bool true] 4) := (hP.2 _ (by omega) (by rw [HS.out]; omega)).trans HM.out
  have c0 : w2.cell? ⟨w.heap.size, 0, none⟩ = some .nilIface := by simp [World.cell?, e0]
  have c1 : w2.cell? ⟨w.heap.size + 1, 0, none⟩ = some (.bool true) := by simp [World.cell?, e1]
  have z0 : w2.frozen? ⟨w.heap.size, 0, none⟩ = false := by simp [World.frozen?, e0]
  have hd := door_fields_panic ads ⟨w.heap.size + 1, 0, none⟩ ⟨w.heap.size, 0, none⟩ .nilIface k hk [] w2 hV c1 c0 z0
  have hlt : w.heap.size < w2.heap.size := old_of_cell c0
  clear e0 e1
  refine leaves_cons (f := 92) (args := #[.pointer (some ⟨w.heap.size + 1, 0, none⟩), .pointer (some ⟨w.heap.size, 0, none⟩)]) (by simp) (by simp [go_sem]) ?_
  refine hd.mono ?_
  rintro e u' w3 ⟨rfl, rfl, w4, hw4, rfl⟩
  have c4 : w4.cell? ⟨w.heap.size, 0, none⟩ = some .nilIface := by rw [Below.cell hw4 hlt]; exact c0
  simp [Leaves, settle, results, Tryz.results73, go_sem, c4]
  exact ⟨_, _, HB.out, HS.out, hG, (Below.mono hw4 (by omega)).setCell (show w.heap.size ≤ w.heap.size by omega) _⟩


set_option maxRecDepth 20000 in
theorem try_int_ret (f : FuncId) (caps : Array Value) (w : World) (G : Value → World → World → Prop) (hf : ∀ w, (callFunc f caps).run Tryz.prog w = .ok (.enter f caps) w)
    (H : ∀ w1, Below w.heap.size w w1 → w1.heap.size = w.heap.size + 2 → Calls Tryz.prog f caps w1 fun e w2 => ∃ v, e = .returned v ∧ Past w.heap.size w1 w2 ∧ G v w1 w2) :
    Calls Tryz.prog 94 #[.func (.func f) #[] caps] w fun e w' => ∃ v, e = .returned (.tuple #[v, .nilIface]) ∧ ∃ w1 w2, Below w.heap.size w w1 ∧ w1.heap.size = w.heap.size + 2 ∧ G v w1 w2 ∧ Below w.heap.size w2 w' ∧ Aside w.heap.size w2 w' := by
  have hmf : ∀ (fn : Fn) (first cap : Array Value) (w : World), (Instr.makeFunc fn first cap).run Tryz.prog w = .ok (.func fn first cap) w := fun _ _ _ _ => rfl
  have hN : ((w.alloc (.cells #[.nilIface] 31)).alloc (.cells #[.bool true] 4)).heap[w.heap.size]? = some (.cells #[.nilIface] 31) := try_new0 _ _ _
  have hM : ((w.alloc (.cells #[.nilIface] 31)).alloc (.cells #[.bool true] 4)).heap[w.heap.size + 1]? = some (.cells #[.bool true] 4) := try_new1 _ _ _
  have hB : Below w.heap.size w ((w.alloc (.cells #[.nilIface] 31)).alloc (.cells #[.bool true] 4)) := ((Below.refl _ _).alloc (Nat.le_refl _) _).alloc (by simp) _
  have hS : ((w.alloc (.cells #[.nilIface] 31)).alloc (.cells #[.bool true] 4)).heap.size = w.heap.size + 2 := by simp
  have HH := Lib.hid H
  have HN := Lib.hid hN
  have HM := Lib.hid hM
  have HB := Lib.hid hB
  have HS := Lib.hid hS
  clear H hN hM hB hS
  go_enter_defers Tryz.func94, Tryz.ntmps94
  go_wp2
  with_reducible refine (HH.out _ HB.out HS.out).mono ?_
  rintro e w2 ⟨v, rfl, hP, hG⟩
  have e0 : w2.heap[w.heap.size]? = some (.cells #[.nilIface] 31) := (hP.2 _ (by omega) (by rw [HS.out]; omega)).trans HN.out
  have e1 : w2.heap[w.heap.size + 1]? = some (.cells #[.bool true] 4) := (hP.2 _ (by omega) (by rw [HS.out]; omega)).trans HM.out
  have c0 : w2.cell? ⟨w.heap.size, 0, none⟩ = some .nilIface := by simp [World.cell?, e0]
  have c1 : w2.cell? ⟨w.heap.size + 1, 0, none⟩ = some (.bool true) := by simp [World.cell?, e1]
  have z0 : w2.frozen? ⟨w.heap.size, 0, none⟩ = false := by simp [World.frozen?, e0]
  have z1 : w2.frozen? ⟨w.heap.size + 1, 0, none⟩ = false := by simp [World.frozen?, e1]
  clear e0 e1
  go_wp2
  refine leaves_cons (f := 101) (args := #[.pointer (some ⟨w.heap.size + 1, 0, none⟩), .pointer (some ⟨w.heap.size, 0, none⟩)]) (by simp) (by simp [go_sem]) ?_
  refine (door_int_idle _ _ _ (by simp [go_sem, c1])).mono ?_
  rintro e u' w3 ⟨rfl, rfl, rfl⟩
  simp [Leaves, settle, results, Tryz.results94, go_sem, c0]
  have hb := ((Below.refl w.heap.size w2).setCell (show w.heap.size ≤ w.heap.size + 1 by omega) (.bool false) (p := ⟨w.heap.size + 1, 0, none⟩)).setCell (show w.heap.size ≤ w.heap.size by omega) (.nilIface) (p := ⟨w.heap.size, 0, none⟩)
  exact ⟨_, HB.out, HS.out, _, hG, hb, Aside.below hb fun b h0 h1 => by rw [heap_setCell_other _ _ _ _ h0, heap_setCell_other _ _ _ _ h1]⟩

set_option maxRecDepth 20000 in
theorem try_int_panic (ads : List Addr) (k : Nat) (hk : k < ads.length) (f : FuncId) (caps : Array Value) (w : World) (G : World → World → Prop) (hf : ∀ w, (callFunc f caps).run Tryz.prog w = .ok (.enter f caps) w)
    (H : ∀ w1, Below w.heap.size w w1 → w1.heap.size = w.heap.size + 2 → Calls Tryz.prog f caps w1 fun e w2 => e = .panicked [{ v := snt ads[k], recovered := false }] ∧ St ads w2 ∧ Past w.heap.size w1 w2 ∧ G w1 w2) :
    Calls Tryz.prog 94 #[.func (.func f) #[] caps] w fun e w' => e = .returned (.tuple #[.int .i64 0, snt ads[k]]) ∧ Mid w G w' := by
  have hmf : ∀ (fn : Fn) (first cap : Array Value) (w : World), (Instr.makeFunc fn first cap).run Tryz.prog w = .ok (.func fn first cap) w := fun _ _ _ _ => rfl
  have hN : ((w.alloc (.cells #[.nilIface] 31)).alloc (.cells #[.bool true] 4)).heap[w.heap.size]? = some (.cells #[.nilIface] 31) := try_new0 _ _ _
  have hM : ((w.alloc (.cells #[.nilIface] 31)).alloc (.cells #[.bool true] 4)).heap[w.heap.size + 1]? = some (.cells #[.bool true] 4) := try_new1 _ _ _
  have hB : Below w.heap.size w ((w.alloc (.cells #[.nilIface] 31)).alloc (.cells #[.bool true] 4)) := ((Below.refl _ _).alloc (Nat.le_refl _) _).alloc (by simp) _
  have hS : ((w.alloc (.cells #[.nilIface] 31)).alloc (.cells #[.bool true] 4)).heap.size = w.heap.size + 2 := by simp
  have HH := Lib.hid H
  have HN := Lib.hid hN
  have HM := Lib.hid hM
  have HB := Lib.hid hB
  have HS := Lib.hid hS
  clear H hN hM hB hS
  go_enter_defers Tryz.func94, Tryz.ntmps94
  go_wp2
  with_reducible refine (HH.out _ HB.out HS.out).mono ?_
  rintro e w2 ⟨rfl, hV, hP, hG⟩
  have e0 : w2.heap[w.heap.size]? = some (.cells #[.nilIface] 31) := (hP.2 _ (by omega) (by rw [HS.out]; omega)).trans HN.out
  have e1 : w2.heap[w.heap.size + 1]? = some (.cells #[.bool true] 4) := (hP.2 _ (by omega) (by rw [HS.out]; omega)).trans HM.out
  have c0 : w2.cell? ⟨w.heap.size, 0, none⟩ = some .nilIface := by simp [World.cell?, e0]
  have c1 : w2.cell? ⟨w.heap.size + 1, 0, none⟩ = some (.bool true) := by simp [World.cell?, e1]
  have z0 : w2.frozen? ⟨w.heap.size, 0, none⟩ = false := by simp [World.frozen?, e0]
  have hd := door_int_panic ads ⟨w.heap.size + 1, 0, none⟩ ⟨w.heap.size, 0, none⟩ .nilIface k hk [] w2 hV c1 c0 z0
  have hlt : w.heap.size < w2.heap.size := old_of_cell c0
  clear e0 e1
  refine leaves_cons (f := 101) (args := #[.pointer (some ⟨w.heap.size + 1, 0, none⟩), .pointer (some ⟨w.heap.size, 0, none⟩)]) (by simp) (by simp [go_sem]) ?_
  refine hd.mono ?_
  rintro e u' w3 ⟨rfl, rfl, w4, hw4, rfl⟩
  have c4 : w4.cell? ⟨w.heap.size, 0, none⟩ = some .nilIface := by rw [Below.cell hw4 hlt]; exact c0
  simp [Leaves, settle, results, Tryz.results94, go_sem, c4]
  exact ⟨_, _, HB.out, HS.out, hG, (Below.mono hw4 (by omega)).setCell (show w.heap.size ≤ w.heap.size by omega) _⟩


set_option maxRecDepth 20000 in
theorem try_f64_ret (f : FuncId) (caps : Array Value) (w : World) (G : Value → World → World → Prop) (hf : ∀ w, (callFunc f caps).run Tryz.prog w = .ok (.enter f caps) w)
    (H : ∀ w1, Below w.heap.size w w1 → w1.heap.size = w.heap.size + 2 → Calls Tryz.prog f caps w1 fun e w2 => ∃ v, e = .returned v ∧ Past w.heap.size w1 w2 ∧ G v w1 w2) :
    Calls Tryz.prog 78 #[.func (.func f) #[] caps] w fun e w' => ∃ v, e = .returned (.tuple #[v, .nilIface]) ∧ ∃ w1 w2, Below w.heap.size w w1 ∧ w1.heap.size = w.heap.size + 2 ∧ G v w1 w2 ∧ Below w.heap.size w2 w' ∧ Aside w.heap.size w2 w' := by
  have hmf : ∀ (fn : Fn) (first cap : Array Value) (w : World), (Instr.makeFunc fn first cap).run Tryz.prog w = .ok (.func fn first cap) w := fun _ _ _ _ => rfl
  have hN : ((w.alloc (.cells #[.nilIface] 31)).alloc (.cells #[.bool true] 4)).heap[w.heap.size]? = some (.cells #[.nilIface] 31) := try_new0 _ _ _
  have hM : ((w.alloc (.cells #[.nilIface] 31)).alloc (.cells #[.bool true] 4)).heap[w.heap.size + 1]? = some (.cells #[.bool true] 4) := try_new1 _ _ _
  have hB : Below w.heap.size w ((w.alloc (.cells #[.nilIface] 31)).alloc (.cells #[.bool true] 4)) := ((Below.refl _ _).alloc (Nat.le_refl _) _).alloc (by simp) _
  have hS : ((w.alloc (.cells #[.nilIface] 31)).alloc (.cells #[.bool true] 4)).heap.size = w.heap.size + 2 := by simp
  have HH := Lib.hid H
  have HN := Lib.hid hN
  have HM := Lib.hid hM
  have HB := Lib.hid hB
  have HS := Lib.hid hS
  clear H hN hM hB hS
  go_enter_defers Tryz.func78, Tryz.ntmps78
  go_wp2
  with_reducible refine (HH.out _ HB.out HS.out).mono ?_
  rintro e w2 ⟨v, rfl, hP, hG⟩
  have e0 : w2.heap[w.heap.size]? = some (.cells #[.nilIface] 31) := (hP.2 _ (by omega) (by rw [HS.out]; omega)).trans HN.out
  have e1 : w2.heap[w.heap.size + 1]? = some (.cells #[.bool true] 4) := (hP.2 _ (by omega) (by rw [HS.out]; omega)).trans HM.out
  have c0 : w2.cell? ⟨w.heap.size, 0, none⟩ = some .nilIface := by simp [World.cell?, e0]
  have c1 : w2.cell? ⟨w.heap.size + 1, 0, none⟩ = some (.bool true) := by simp [World.cell?, e1]
  have z0 : w2.frozen? ⟨w.heap.size, 0, none⟩ = false := by simp [World.frozen?, e0]
  have z1 : w2.frozen? ⟨w.heap.size + 1, 0, none⟩ = false := by simp [World.frozen?, e1]
  clear e0 e1
  go_wp2
  refine leaves_cons (f := 93) (args := #[.pointer (some ⟨w.heap.size + 1, 0, none⟩), .pointer (some ⟨w.heap.size, 0, none⟩)]) (by simp) (by simp [go_sem]) ?_
  refine (door_f64_idle _ _ _ (by simp [go_sem, c1])).mono ?_
  rintro e u' w3 ⟨rfl, rfl, rfl⟩
  simp [Leaves, settle, results, Tryz.results78, go_sem, c0]
  have hb := ((Below.refl w.heap.size w2).setCell (show w.heap.size ≤ w.heap.size + 1 by omega) (.bool false) (p := ⟨w.heap.size + 1, 0, none⟩)).setCell (show w.heap.size ≤ w.heap.size by omega) (.nilIface) (p := ⟨w.heap.size, 0, none⟩)
  exact ⟨_, HB.out, HS.out, _, hG, hb, Aside.below hb fun b h0 h1 => by rw [heap_setCell_other _ _ _ _ h0, heap_setCell_other _ _ _ _ h1]⟩

set_option maxRecDepth 20000 in
theorem try_f64_panic (ads : List Addr) (k : Nat) (hk : k < ads.length) (f : FuncId) (caps : Array Value) (w : World) (G : World → World → Prop) (hf : ∀ w, (callFunc f caps).run Tryz.prog w = .ok (.enter f caps) w)
    (H : ∀ w1, Below w.heap.size w w1 → w1.heap.size = w.heap.size + 2 → Calls Tryz.prog f caps w1 fun e w2 => e = .panicked [{ v := snt ads[k], recovered := false }] ∧ St ads w2 ∧ Past w.heap.size w1 w2 ∧ G w1 w2) :
    Calls Tryz.prog 78 #[.func (.func f) #[] caps] w fun e w' => e = .returned (.tuple #[.float .f64 0, snt ads[k]]) ∧ Mid w G w' := by
  have hmf : ∀ (fn : Fn) (first cap : Array Value) (w : World), (Instr.makeFunc fn first cap).run Tryz.prog w = .ok (.func fn first cap) w := fun _ _ _ _ => rfl
  have hN : ((w.alloc (.cells #[.nilIface] 31)).alloc (.cells #[.bool true] 4)).heap[w.heap.size]? = some (.cells #[.nilIface] 31) := try_new0 _ _ _
  have hM : ((w.alloc (.cells #[.nilIface] 31)).alloc (.cells #[.bool true] 4)).heap[w.heap.size + 1]? = some (.cells #[.bool true] 4) := try_new1 _ _ _
  have hB : Below w.heap.size w ((w.alloc (.cells #[.nilIface] 31)).alloc (.cells #[.bool true] 4)) := ((Below.refl _ _).alloc (Nat.le_refl _) _).alloc (by simp) _
  have hS : ((w.alloc (.cells #[.nilIface] 31)).alloc (.cells #[.bool true] 4)).heap.size = w.heap.size + 2 := by simp
  have HH := Lib.hid H
  have HN := Lib.hid hN
  have HM := Lib.hid hM
  have HB := Lib.hid hB
  have HS := Lib.hid hS
  clear H hN hM hB hS
  go_enter_defers Tryz.func78, Tryz.ntmps78
  go_wp2
  with_reducible refine (HH.out _ HB.out HS.out).mono ?_
  rintro e w2 ⟨rfl, hV, hP, hG⟩
  have e0 : w2.heap[w.heap.size]? = some (.cells #[.nilIface] 31) := (hP.2 _ (by omega) (by rw [HS.out]; omega)).trans HN.out
  have e1 : w2.heap[w.heap.size + 1]? = some (.cells #[.bool true] 4) := (hP.2 _ (by omega) (by rw [HS.out]; omega)).trans HM.out
  have c0 : w2.cell? ⟨w.heap.size, 0, none⟩ = some .nilIface := by simp [World.cell?, e0]
  have c1 : w2.cell? ⟨w.heap.size + 1, 0, none⟩ = some (.bool true) := by simp [World.cell?, e1]
  have z0 : w2.frozen? ⟨w.heap.size, 0, none⟩ = false := by simp [World.frozen?, e0]
  have hd := door_f64_panic ads ⟨w.heap.size + 1, 0, none⟩ ⟨w.heap.size, 0, none⟩ .nilIface k hk [] w2 hV c1 c0 z0
  have hlt : w.heap.size < w2.heap.size := old_of_cell c0
  clear e0 e1
  refine leaves_cons (f := 93) (args := #[.pointer (some ⟨w.heap.size + 1, 0, none⟩), .pointer (some ⟨w.heap.size, 0, none⟩)]) (by simp) (by simp [go_sem]) ?_
  refine hd.mono ?_
  rintro e u' w3 ⟨rfl, rfl, w4, hw4, rfl⟩
  have c4 : w4.cell? ⟨w.heap.size, 0, none⟩ = some .nilIface := by rw [Below.cell hw4 hlt]; exact c0
  simp [Leaves, settle, results, Tryz.results78, go_sem, c4]
  exact ⟨_, _, HB.out, HS.out, hG, (Below.mono hw4 (by omega)).setCell (show w.heap.size ≤ w.heap.size by omega) _⟩


end Go.Proofs.YtahdoniggipmmaaGreatDoor

namespace Go.Proofs.YtahdoniggipmmaaGreatDoor
open Go.RowKit Go.Extern.Stop Go.Stop Go.Extern

theorem kp_of_mid {w w1 w2 w' : World} (h1 : Below w.heap.size w w1) (h2 : Kp w1 w2) (h3 : Below w.heap.size w2 w') : Kp w w' :=
  Below.trans (Kp.trans h1 h2) h3

theorem try_bytes_own (f : FuncId) (caps : Array Value) (bs : List Int) (w : World) (hf : ∀ w, (callFunc f caps).run Tryz.prog w = .ok (.enter f caps) w)
    (H : ∀ w1, Kp w w1 → Calls Tryz.prog f caps w1 fun e w2 => ∃ v, e = .returned v ∧ w2.ownsRow w1.heap.size 5 1 v bs.length (bs.map (Value.int .u8)) ∧ Kp w1 w2) :
    Calls Tryz.prog 20 #[.func (.func f) #[] caps] w fun e w' => ∃ v, e = .returned (.tuple #[v, .nilIface]) ∧ w'.ownsRow w.heap.size 5 1 v bs.length (bs.map (Value.int .u8)) ∧ Kp w w' := by
  refine (try_bytes_ret f caps w (fun v w1 w2 => w2.ownsRow w1.heap.size 5 1 v bs.length (bs.map (Value.int .u8)) ∧ Kp w1 w2) hf fun w1 hb _ => ?_).mono ?_
  · refine (H w1 hb).mono ?_
    rintro e w2 ⟨v, rfl, ho, hk⟩
    exact ⟨v, rfl, past_of hk, ho, hk⟩
  · rintro e w' ⟨v, rfl, w1, w2, hb, hs, ⟨ho, hk⟩, hb2, ha⟩
    exact ⟨v, rfl, own_mono (own_aside ho ha (by omega)) (Below.size hb), kp_of_mid hb hk hb2⟩


theorem try_bytes_err (ads : List Addr) (k : Nat) (hk : k < ads.length) (f : FuncId) (caps : Array Value) (w : World) (V : St ads w) (hf : ∀ w, (callFunc f caps).run Tryz.prog w = .ok (.enter f caps) w)
    (H : ∀ w1, Kp w w1 → Calls Tryz.prog f caps w1 fun e w2 => e = .panicked [{ v := snt ads[k], recovered := false }] ∧ Kp w1 w2) :
    Calls Tryz.prog 20 #[.func (.func f) #[] caps] w fun e w' => e = .returned (.tuple #[.slice none 0 0, snt ads[k]]) ∧ Kp w w' := by
  refine (try_bytes_panic ads k hk f caps w (fun w1 w2 => Kp w1 w2) hf fun w1 hb _ => ?_).mono ?_
  · refine (H w1 hb).mono ?_
    rintro e w2 ⟨rfl, hk2⟩
    exact ⟨rfl, V.below (Kp.trans hb hk2), past_of hk2, hk2⟩
  · rintro e w' ⟨rfl, w1, w2, hb, _, hk2, hb2⟩
    exact ⟨rfl, kp_of_mid hb hk2 hb2⟩


theorem try_int_err (ads : List Addr) (k : Nat) (hk : k < ads.length) (f : FuncId) (caps : Array Value) (w : World) (V : St ads w) (hf : ∀ w, (callFunc f caps).run Tryz.prog w = .ok (.enter f caps) w)
    (H : ∀ w1, Kp w w1 → Calls Tryz.prog f caps w1 fun e w2 => e = .panicked [{ v := snt ads[k], recovered := false }] ∧ Kp w1 w2) :
    Calls Tryz.prog 94 #[.func (.func f) #[] caps] w fun e w' => e = .returned (.tuple #[.int .i64 0, snt ads[k]]) ∧ Kp w w' := by
  refine (try_int_panic ads k hk f caps w (fun w1 w2 => Kp w1 w2) hf fun w1 hb _ => ?_).mono ?_
  · refine (H w1 hb).mono ?_
    rintro e w2 ⟨rfl, hk2⟩
    exact ⟨rfl, V.below (Kp.trans hb hk2), past_of hk2, hk2⟩
  · rintro e w' ⟨rfl, w1, w2, hb, _, hk2, hb2⟩
    exact ⟨rfl, kp_of_mid hb hk2 hb2⟩


theorem try_int_val (f : FuncId) (caps : Array Value) (x : Int) (w : World) (hf : ∀ w, (callFunc f caps).run Tryz.prog w = .ok (.enter f caps) w)
    (H : ∀ w1, Kp w w1 → Calls Tryz.prog f caps w1 fun e w2 => e = .returned (.int .i64 x) ∧ Kp w1 w2) :
    Calls Tryz.prog 94 #[.func (.func f) #[] caps] w fun e w' => e = .returned (.tuple #[.int .i64 x, .nilIface]) ∧ Kp w w' := by
  refine (try_int_ret f caps w (fun u w1 w2 => u = .int .i64 x ∧ Kp w1 w2) hf fun w1 hb _ => ?_).mono ?_
  · refine (H w1 hb).mono ?_
    rintro e w2 ⟨rfl, hk⟩
    exact ⟨_, rfl, past_of hk, rfl, hk⟩
  · rintro e w' ⟨u, rfl, w1, w2, hb, _, ⟨rfl, hk⟩, hb2, _⟩
    exact ⟨rfl, kp_of_mid hb hk hb2⟩


theorem try_f64_err (ads : List Addr) (k : Nat) (hk : k < ads.length) (f : FuncId) (caps : Array Value) (w : World) (V : St ads w) (hf : ∀ w, (callFunc f caps).run Tryz.prog w = .ok (.enter f caps) w)
    (H : ∀ w1, Kp w w1 → Calls Tryz.prog f caps w1 fun e w2 => e = .panicked [{ v := snt ads[k], recovered := false }] ∧ Kp w1 w2) :
    Calls Tryz.prog 78 #[.func (.func f) #[] caps] w fun e w' => e = .returned (.tuple #[.float .f64 0, snt ads[k]]) ∧ Kp w w' := by
  refine (try_f64_panic ads k hk f caps w (fun w1 w2 => Kp w1 w2) hf fun w1 hb _ => ?_).mono ?_
  · refine (H w1 hb).mono ?_
    rintro e w2 ⟨rfl, hk2⟩
    exact ⟨rfl, V.below (Kp.trans hb hk2), past_of hk2, hk2⟩
  · rintro e w' ⟨rfl, w1, w2, hb, _, hk2, hb2⟩
    exact ⟨rfl, kp_of_mid hb hk2 hb2⟩


theorem try_f64_val (f : FuncId) (caps : Array Value) (x : Nat) (w : World) (hf : ∀ w, (callFunc f caps).run Tryz.prog w = .ok (.enter f caps) w)
    (H : ∀ w1, Kp w w1 → Calls Tryz.prog f caps w1 fun e w2 => e = .returned (.float .f64 x) ∧ Kp w1 w2) :
    Calls Tryz.prog 78 #[.func (.func f) #[] caps] w fun e w' => e = .returned (.tuple #[.float .f64 x, .nilIface]) ∧ Kp w w' := by
  refine (try_f64_ret f caps w (fun u w1 w2 => u = .float .f64 x ∧ Kp w1 w2) hf fun w1 hb _ => ?_).mono ?_
  · refine (H w1 hb).mono ?_
    rintro e w2 ⟨rfl, hk⟩
    exact ⟨_, rfl, past_of hk, rfl, hk⟩
  · rintro e w' ⟨u, rfl, w1, w2, hb, _, ⟨rfl, hk⟩, hb2, _⟩
    exact ⟨rfl, kp_of_mid hb hk hb2⟩


end Go.Proofs.YtahdoniggipmmaaGreatDoor

namespace Go.Proofs.YtahdoniggipmmaaGreatDoor
open Go.RowKit Go.Extern.Stop Go.Stop Go.Extern


theorem door_str_panic (ads : List Addr) (p q : Addr) (old : Value) (k : Nat) (hk : k < ads.length) (older : List PanicEntry) (w : World) (V : St ads w)
    (hp : w.cell? p = some (.bool true)) (hq : w.cell? q = some old) (hz : w.frozen? q = false) :
    CallsD Tryz.prog 111 #[.pointer (some p), .pointer (some q)] (.panicking ({ v := snt ads[k], recovered := false } :: older)) w fun e u' w' =>
      e = .returned (.tuple #[]) ∧ u' = .panicking ({ v := snt ads[k], recovered := true } :: older) ∧ ∃ w1, Kp w w1 ∧ w' = w1.setCell q (snt ads[k]) := by
  have hqb := old_of_cell hq
  have hn := errorOf_any ads w V k hk
  obtain ⟨a, ha⟩ : ∃ a, ads[k] = a := ⟨_, rfl⟩
  rw [ha] at hn ⊢
  clear ha V
  refine callsD_of_wpS Tryz.func111 rfl fun c₀ cs hu => ?_
  apply wpS_seq
  apply wpS_region
  simp [wpOpsS, go_sem, recoverD, hu, Tryz.ntmps111, Exit.thenS]
  refine wpS_of_wp ?_
  change Code.wp _ _ _ { tmps := #[.pointer (some p), .pointer (some q), snt a, snt a, undef, undef, undef], defers := [] } _
  have HN := Lib.hid hn
  have HU := Lib.hid hu
  clear hn hu
  go_wp2_with (go_at_call 57; (with_reducible refine HN.out.mono ?_); rintro e w1 ⟨rfl, hw⟩; have hq1 : w1.cell? q = some old := (by rw [Below.cell hw hqb]; exact hq); have hz1 : w1.frozen? q = false := (by rw [Below.frozen hw hqb]; exact hz))
  exact ⟨rfl, _, rfl, _, results_none rfl _ _ _, rfl, rfl, w1, hw, rfl⟩

theorem door_str_idle (p q : Addr) (w : World) (hp : w.cell? p = some (.bool false)) :
    CallsD Tryz.prog 111 #[.pointer (some p), .pointer (some q)] .returning w fun e u' w' => e = .returned (.tuple #[]) ∧ u' = .returning ∧ w' = w := by
  refine callsD_of_wpS Tryz.func111 rfl fun c₀ cs hu => ?_
  apply wpS_seq
  apply wpS_region
  simp [wpOpsS, go_sem, recoverD, hu, Tryz.ntmps111, Exit.thenS]
  refine wpS_of_wp ?_
  change Code.wp _ _ _ { tmps := #[.pointer (some p), .pointer (some q), .nilIface, .nilIface, undef, undef, undef], defers := [] } _
  go_wp2
  cases c₀
  simp only at hu
  subst hu
  exact ⟨rfl, _, rfl, _, results_none rfl _ _ _, rfl, rfl, rfl⟩


set_option maxRecDepth 20000 in
theorem try_str_ret (f : FuncId) (caps : Array Value) (w : World) (G : Value → World → World → Prop) (hf : ∀ w, (callFunc f caps).run Tryz.prog w = .ok (.enter f caps) w)
    (H : ∀ w1, Below w.heap.size w w1 → w1.heap.size = w.heap.size + 2 → Calls Tryz.prog f caps w1 fun e w2 => ∃ v, e = .returned v ∧ Past w.heap.size w1 w2 ∧ G v w1 w2) :
    Calls Tryz.prog 107 #[.func (.func f) #[] caps] w fun e w' => ∃ v, e = .returned (.tuple #[v, .nilIface]) ∧ ∃ w1 w2, Below w.heap.size w w1 ∧ w1.heap.size = w.heap.size + 2 ∧ G v w1 w2 ∧ Below w.heap.size w2 w' ∧ Aside w.heap.size w2 w' := by
  have hmf : ∀ (fn : Fn) (first cap : Array Value) (w : World), (Instr.makeFunc fn first cap).run Tryz.prog w = .ok (.func fn first cap) w := fun _ _ _ _ => rfl
  have hN : ((w.alloc (.cells #[.nilIface] 31)).alloc (.cells #[.bool true] 4)).heap[w.heap.size]? = some (.cells #[.nilIface] 31) := try_new0 _ _ _
  have hM : ((w.alloc (.cells #[.nilIface] 31)).alloc (.cells #[.bool true] 4)).heap[w.heap.size + 1]? = some (.cells #[.bool true] 4) := try_new1 _ _ _
  have hB : Below w.heap.size w ((w.alloc (.cells #[.nilIface] 31)).alloc (.cells #[.bool true] 4)) := ((Below.refl _ _).alloc (Nat.le_refl _) _).alloc (by simp) _
  have hS : ((w.alloc (.cells #[.nilIface] 31)).alloc (.cells #[.bool true] 4)).heap.size = w.heap.size + 2 := by simp
  have HH := Lib.hid H
  have HN := Lib.hid hN
  have HM := Lib.hid hM
  have HB := Lib.hid hB
  have HS := Lib.hid hS
  clear H hN hM hB hS
  go_enter_defers Tryz.func107, Tryz.ntmps107
  go_wp2
  with_reducible refine (HH.out _ HB.out HS.out).mono ?_
  rintro e w2 ⟨v, rfl, hP, hG⟩
  have e0 : w2.heap[w.heap.size]? = some (.cells #[.nilIface] 31) := (hP.2 _ (by omega) (by rw [HS.out]; omega)).trans HN.out
  have e1 : w2.heap[w.heap.size + 1]? = some (.cells #[.bool true] 4) := (hP.2 _ (by omega) (by rw [HS.out]; omega)).trans HM.out
  have c0 : w2.cell? ⟨w.heap.size, 0, none⟩ = some .nilIface := by simp [World.cell?, e0]
  have c1 : w2.cell? ⟨w.heap.size + 1, 0, none⟩ = some (.bool true) := by simp [World.cell?, e1]
  have z0 : w2.frozen? ⟨w.heap.size, 0, none⟩ = false := by simp [World.frozen?, e0]
  have z1 : w2.frozen? ⟨w.heap.size + 1, 0, none⟩ = false := by simp [World.frozen?, e1]
  clear e0 e1
  go_wp2
  refine leaves_cons (f := 111) (args := #[.pointer (some ⟨w.heap.size + 1, 0, none⟩), .pointer (some ⟨w.heap.size, 0, none⟩)]) (by simp) (by simp [go_sem]) ?_
  refine (door_str_idle _ _ _ (by simp [go_sem, c1])).mono ?_
  rintro e u' w3 ⟨rfl, rfl, rfl⟩
  simp [Leaves, settle, results, Tryz.results107, go_sem, c0]
  have hb := ((Below.refl w.heap.size w2).setCell (show w.heap.size ≤ w.heap.size + 1 by omega) (.bool false) (p := ⟨w.heap.size + 1, 0, none⟩)).setCell (show w.heap.size ≤ w.heap.size by omega) (.nilIface) (p := ⟨w.heap.size, 0, none⟩)
  exact ⟨_, HB.out, HS.out, _, hG, hb, Aside.below hb fun b h0 h1 => by rw [heap_setCell_other _ _ _ _ h0, heap_setCell_other _ _ _ _ h1]⟩

set_option maxRecDepth 20000 in
theorem try_str_panic (ads : List Addr) (k : Nat) (hk : k < ads.length) (f : FuncId) (caps : Array Value) (w : World) (G : World → World → Prop) (hf : ∀ w, (callFunc f caps).run Tryz.prog w = .ok (.enter f caps) w)
    (H : ∀ w1, Below w.heap.size w w1 → w1.heap.size = w.heap.size + 2 → Calls Tryz.prog f caps w1 fun e w2 => e = .panicked [{ v := snt ads[k], recovered := false }] ∧ St ads w2 ∧ Past w.heap.size w1 w2 ∧ G w1 w2) :
    Calls Tryz.prog 107 #[.func (.func f) #[] caps] w fun e w' => e = .returned (.tuple #[.string ⟨#[]⟩, snt ads[k]]) ∧ Mid w G w' := by
  have hmf : ∀ (fn : Fn) (first cap : Array Value) (w : World), (Instr.makeFunc fn first cap).run Tryz.prog w = .ok (.func fn first cap) w := fun _ _ _ _ => rfl
  have hN : ((w.alloc (.cells #[.nilIface] 31)).alloc (.cells #[.bool true] 4)).heap[w.heap.size]? = some (.cells #[.nilIface] 31) := try_new0 _ _ _
  have hM : ((w.alloc (.cells #[.nilIface] 31)).alloc (.cells #[.bool true] 4)).heap[w.heap.size + 1]? = some (.cells #[.bool true] 4) := try_new1 _ _ _
  have hB : Below w.heap.size w ((w.alloc (.cells #[.nilIface] 31)).alloc (.cells #[.bool true] 4)) := ((Below.refl _ _).alloc (Nat.le_refl _) _).alloc (by simp) _
  have hS : ((w.alloc (.cells #[.nilIface] 31)).alloc (.cells #[.bool true] 4)).heap.size = w.heap.size + 2 := by simp
  have HH := Lib.hid H
  have HN := Lib.hid hN
  have HM := Lib.hid hM
  have HB := Lib.hid hB
  have HS := Lib.hid hS
  clear H hN hM hB hS
  go_enter_defers Tryz.func107, Tryz.ntmps107
  go_wp2
  with_reducible refine (HH.out _ HB.out HS.out).mono ?_
  rintro e w2 ⟨rfl, hV, hP, hG⟩
  have e0 : w2.heap[w.heap.size]? = some (.cells #[.nilIface] 31) := (hP.2 _ (by omega) (by rw [HS.out]; omega)).trans HN.out
  have e1 : w2.heap[w.heap.size + 1]? = some (.cells #[.bool true] 4) := (hP.2 _ (by omega) (by rw [HS.out]; omega)).trans HM.out
  have c0 : w2.cell? ⟨w.heap.size, 0, none⟩ = some .nilIface := by simp [World.cell?, e0]
  have c1 : w2.cell? ⟨w.heap.size + 1, 0, none⟩ = some (.bool true) := by simp [World.cell?, e1]
  have z0 : w2.frozen? ⟨w.heap.size, 0, none⟩ = false := by simp [World.frozen?, e0]
  have hd := door_str_panic ads ⟨w.heap.size + 1, 0, none⟩ ⟨w.heap.size, 0, none⟩ .nilIface k hk [] w2 hV c1 c0 z0
  have hlt : w.heap.size < w2.heap.size := old_of_cell c0
  clear e0 e1
  refine leaves_cons (f := 111) (args := #[.pointer (some ⟨w.heap.size + 1, 0, none⟩), .pointer (some ⟨w.heap.size, 0, none⟩)]) (by simp) (by simp [go_sem]) ?_
  refine hd.mono ?_
  rintro e u' w3 ⟨rfl, rfl, w4, hw4, rfl⟩
  have c4 : w4.cell? ⟨w.heap.size, 0, none⟩ = some .nilIface := by rw [Below.cell hw4 hlt]; exact c0
  simp [Leaves, settle, results, Tryz.results107, go_sem, c4]
  exact ⟨_, _, HB.out, HS.out, hG, (Below.mono hw4 (by omega)).setCell (show w.heap.size ≤ w.heap.size by omega) _⟩


theorem try_str_val (f : FuncId) (caps : Array Value) (s : ByteArray) (w : World) (hf : ∀ w, (callFunc f caps).run Tryz.prog w = .ok (.enter f caps) w)
    (H : ∀ w1, Kp w w1 → Calls Tryz.prog f caps w1 fun e w2 => e = .returned (.string s) ∧ Kp w1 w2) :
    Calls Tryz.prog 107 #[.func (.func f) #[] caps] w fun e w' => e = .returned (.tuple #[.string s, .nilIface]) ∧ Kp w w' := by
  refine (try_str_ret f caps w (fun u w1 w2 => u = .string s ∧ Kp w1 w2) hf fun w1 hb _ => ?_).mono ?_
  · refine (H w1 hb).mono ?_
    rintro e w2 ⟨rfl, hk⟩
    exact ⟨_, rfl, past_of hk, rfl, hk⟩
  · rintro e w' ⟨u, rfl, w1, w2, hb, _, ⟨rfl, hk⟩, hb2, _⟩
    exact ⟨rfl, Below.trans (Kp.trans hb hk) hb2⟩

theorem try_str_err (ads : List Addr) (k : Nat) (hk : k < ads.length) (f : FuncId) (caps : Array Value) (w : World) (V : St ads w) (hf : ∀ w, (callFunc f caps).run Tryz.prog w = .ok (.enter f caps) w)
    (H : ∀ w1, Kp w w1 → Calls Tryz.prog f caps w1 fun e w2 => e = .panicked [{ v := snt ads[k], recovered := false }] ∧ Kp w1 w2) :
    Calls Tryz.prog 107 #[.func (.func f) #[] caps] w fun e w' => e = .returned (.tuple #[.string ⟨#[]⟩, snt ads[k]]) ∧ Kp w w' := by
  refine (try_str_panic ads k hk f caps w (fun w1 w2 => Kp w1 w2) hf fun w1 hb _ => ?_).mono ?_
  · refine (H w1 hb).mono ?_
    rintro e w2 ⟨rfl, hk2⟩
    exact ⟨rfl, V.below (Kp.trans hb hk2), past_of hk2, hk2⟩
  · rintro e w' ⟨rfl, w1, w2, hb, _, hk2, hb2⟩
    exact ⟨rfl, Below.trans (Kp.trans hb hk2) hb2⟩

end Go.Proofs.YtahdoniggipmmaaGreatDoor

namespace Go.Proofs.YtahdoniggipmmaaGreatDoor
open Go.RowKit Go.Extern.Stop Go.Stop Go.Extern

theorem set_fct {b : Nat} {t : TypeId} {w : World} {x0 x1 x2 x3 x4 x5 x6 x7 x8 x9 x10 x11 x12 x13 : Value} (y0 y1 y2 y3 y4 y5 y6 y7 y8 y9 y10 y11 y12 y13 : Value) (h : w.heap[b]? = some (.cells #[x0, x1, x2, x3, x4, x5, x6, x7, x8, x9, x10, x11, x12, x13] t (0, 0))) : ((((((((((((((w.setCell ⟨b, 0, none⟩ y0).setCell ⟨b, 1, none⟩ y1).setCell ⟨b, 2, none⟩ y2).setCell ⟨b, 3, none⟩ y3).setCell ⟨b, 4, none⟩ y4).setCell ⟨b, 5, none⟩ y5).setCell ⟨b, 6, none⟩ y6).setCell ⟨b, 7, none⟩ y7).setCell ⟨b, 8, none⟩ y8).setCell ⟨b, 9, none⟩ y9).setCell ⟨b, 10, none⟩ y10).setCell ⟨b, 11, none⟩ y11).setCell ⟨b, 12, none⟩ y12).setCell ⟨b, 13, none⟩ y13).heap[b]? = some (.cells #[y0, y1, y2, y3, y4, y5, y6, y7, y8, y9, y10, y11, y12, y13] t (0, 0)) := by
  have h1 : (w.setCell ⟨b, 0, none⟩ y0).heap[b]? = some (.cells #[y0, x1, x2, x3, x4, x5, x6, x7, x8, x9, x10, x11, x12, x13] t (0, 0)) := (Joins.block_setCell h _).trans rfl
  have h2 : ((w.setCell ⟨b, 0, none⟩ y0).setCell ⟨b, 1, none⟩ y1).heap[b]? = some (.cells #[y0, y1, x2, x3, x4, x5, x6, x7, x8, x9, x10, x11, x12, x13] t (0, 0)) := (Joins.block_setCell h1 _).trans rfl
  have h3 : (((w.setCell ⟨b, 0, none⟩ y0).setCell ⟨b, 1, none⟩ y1).setCell ⟨b, 2, none⟩ y2).heap[b]? = some (.cells #[y0, y1, y2, x3, x4, x5, x6, x7, x8, x9, x10, x11, x12, x13] t (0, 0)) := (Joins.block_setCell h2 _).trans rfl
  have h4 : ((((w.setCell ⟨b, 0, none⟩ y0).setCell ⟨b, 1, none⟩ y1).setCell ⟨b, 2, none⟩ y2).setCell ⟨b, 3, none⟩ y3).heap[b]? = some (.cells #[y0, y1, y2, y3, x4, x5, x6, x7, x8, x9, x10, x11, x12, x13] t (0, 0)) := (Joins.block_setCell h3 _).trans rfl
  have h5 : (((((w.setCell ⟨b, 0, none⟩ y0).setCell ⟨b, 1, none⟩ y1).setCell ⟨b, 2, none⟩ y2).setCell ⟨b, 3, none⟩ y3).setCell ⟨b, 4, none⟩ y4).heap[b]? = some (.cells #[y0, y1, y2, y3, y4, x5, x6, x7, x8, x9, x10, x11, x12, x13] t (0, 0)) := (Joins.block_setCell h4 _).trans rfl
  have h6 : ((((((w.setCell ⟨b, 0, none⟩ y0).setCell ⟨b, 1, none⟩ y1).setCell ⟨b, 2, none⟩ y2).setCell ⟨b, 3, none⟩ y3).setCell ⟨b, 4, none⟩ y4).setCell ⟨b, 5, none⟩ y5).heap[b]? = some (.cells #[y0, y1, y2, y3, y4, y5, x6, x7, x8, x9, x10, x11, x12, x13] t (0, 0)) := (Joins.block_setCell h5 _).trans rfl
  have h7 : (((((((w.setCell ⟨b, 0, none⟩ y0).setCell ⟨b, 1, none⟩ y1).setCell ⟨b, 2, none⟩ y2).setCell ⟨b, 3, none⟩ y3).setCell ⟨b, 4, none⟩ y4).setCell ⟨b, 5, none⟩ y5).setCell ⟨b, 6, none⟩ y6).heap[b]? = some (.cells #[y0, y1, y2, y3, y4, y5, y6, x7, x8, x9, x10, x11, x12, x13] t (0, 0)) := (Joins.block_setCell h6 _).trans rfl
  have h8 : ((((((((w.setCell ⟨b, 0, none⟩ y0).setCell ⟨b, 1, none⟩ y1).setCell ⟨b, 2, none⟩ y2).setCell ⟨b, 3, none⟩ y3).setCell ⟨b, 4, none⟩ y4).setCell ⟨b, 5, none⟩ y5).setCell ⟨b, 6, none⟩ y6).setCell ⟨b, 7, none⟩ y7).heap[b]? = some (.cells #[y0, y1, y2, y3, y4, y5, y6, y7, x8, x9, x10, x11, x12, x13] t (0, 0)) := (Joins.block_setCell h7 _).trans rfl
  have h9 : (((((((((w.setCell ⟨b, 0, none⟩ y0).setCell ⟨b, 1, none⟩ y1).setCell ⟨b, 2, none⟩ y2).setCell ⟨b, 3, none⟩ y3).setCell ⟨b, 4, none⟩ y4).setCell ⟨b, 5, none⟩ y5).setCell ⟨b, 6, none⟩ y6).setCell ⟨b, 7, none⟩ y7).setCell ⟨b, 8, none⟩ y8).heap[b]? = some (.cells #[y0, y1, y2, y3, y4, y5, y6, y7, y8, x9, x10, x11, x12, x13] t (0, 0)) := (Joins.block_setCell h8 _).trans rfl
  have h10 : ((((((((((w.setCell ⟨b, 0, none⟩ y0).setCell ⟨b, 1, none⟩ y1).setCell ⟨b, 2, none⟩ y2).setCell ⟨b, 3, none⟩ y3).setCell ⟨b, 4, none⟩ y4).setCell ⟨b, 5, none⟩ y5).setCell ⟨b, 6, none⟩ y6).setCell ⟨b, 7, none⟩ y7).setCell ⟨b, 8, none⟩ y8).setCell ⟨b, 9, none⟩ y9).heap[b]? = some (.cells #[y0, y1, y2, y3, y4, y5, y6, y7, y8, y9, x10, x11, x12, x13] t (0, 0)) := (Joins.block_setCell h9 _).trans rfl
  have h11 : (((((((((((w.setCell ⟨b, 0, none⟩ y0).setCell ⟨b, 1, none⟩ y1).setCell ⟨b, 2, none⟩ y2).setCell ⟨b, 3, none⟩ y3).setCell ⟨b, 4, none⟩ y4).setCell ⟨b, 5, none⟩ y5).setCell ⟨b, 6, none⟩ y6).setCell ⟨b, 7, none⟩ y7).setCell ⟨b, 8, none⟩ y8).setCell ⟨b, 9, none⟩ y9).setCell ⟨b, 10, none⟩ y10).heap[b]? = some (.cells #[y0, y1, y2, y3, y4, y5, y6, y7, y8, y9, y10, x11, x12, x13] t (0, 0)) := (Joins.block_setCell h10 _).trans rfl
  have h12 : ((((((((((((w.setCell ⟨b, 0, none⟩ y0).setCell ⟨b, 1, none⟩ y1).setCell ⟨b, 2, none⟩ y2).setCell ⟨b, 3, none⟩ y3).setCell ⟨b, 4, none⟩ y4).setCell ⟨b, 5, none⟩ y5).setCell ⟨b, 6, none⟩ y6).setCell ⟨b, 7, none⟩ y7).setCell ⟨b, 8, none⟩ y8).setCell ⟨b, 9, none⟩ y9).setCell ⟨b, 10, none⟩ y10).setCell ⟨b, 11, none⟩ y11).heap[b]? = some (.cells #[y0, y1, y2, y3, y4, y5, y6, y7, y8, y9, y10, y11, x12, x13] t (0, 0)) := (Joins.block_setCell h11 _).trans rfl
  have h13 : (((((((((((((w.setCell ⟨b, 0, none⟩ y0).setCell ⟨b, 1, none⟩ y1).setCell ⟨b, 2, none⟩ y2).setCell ⟨b, 3, none⟩ y3).setCell ⟨b, 4, none⟩ y4).setCell ⟨b, 5, none⟩ y5).setCell ⟨b, 6, none⟩ y6).setCell ⟨b, 7, none⟩ y7).setCell ⟨b, 8, none⟩ y8).setCell ⟨b, 9, none⟩ y9).setCell ⟨b, 10, none⟩ y10).setCell ⟨b, 11, none⟩ y11).setCell ⟨b, 12, none⟩ y12).heap[b]? = some (.cells #[y0, y1, y2, y3, y4, y5, y6, y7, y8, y9, y10, y11, y12, x13] t (0, 0)) := (Joins.block_setCell h12 _).trans rfl
  have h14 : ((((((((((((((w.setCell ⟨b, 0, none⟩ y0).setCell ⟨b, 1, none⟩ y1).setCell ⟨b, 2, none⟩ y2).setCell ⟨b, 3, none⟩ y3).setCell ⟨b, 4, none⟩ y4).setCell ⟨b, 5, none⟩ y5).setCell ⟨b, 6, none⟩ y6).setCell ⟨b, 7, none⟩ y7).setCell ⟨b, 8, none⟩ y8).setCell ⟨b, 9, none⟩ y9).setCell ⟨b, 10, none⟩ y10).setCell ⟨b, 11, none⟩ y11).setCell ⟨b, 12, none⟩ y12).setCell ⟨b, 13, none⟩ y13).heap[b]? = some (.cells #[y0, y1, y2, y3, y4, y5, y6, y7, y8, y9, y10, y11, y12, y13] t (0, 0)) := (Joins.block_setCell h13 _).trans rfl
  exact h14
theorem door_fct_panic (ads : List Addr) (p q : Addr) (old : Value) (k : Nat) (hk : k < ads.length) (older : List PanicEntry) (w : World) (V : St ads w)
    (hp : w.cell? p = some (.bool true)) (hq : w.cell? q = some old) (hz : w.frozen? q = false) :
    CallsD Tryz.prog 72 #[.pointer (some p), .pointer (some q)] (.panicking ({ v := snt ads[k], recovered := false } :: older)) w fun e u' w' =>
      e = .returned (.tuple #[]) ∧ u' = .panicking ({ v := snt ads[k], recovered := true } :: older) ∧ ∃ w1, Kp w w1 ∧ w' = w1.setCell q (snt ads[k]) := by
  have hqb := old_of_cell hq
  have hn := errorOf_any ads w V k hk
  obtain ⟨a, ha⟩ : ∃ a, ads[k] = a := ⟨_, rfl⟩
  rw [ha] at hn ⊢
  clear ha V
  refine callsD_of_wpS Tryz.func72 rfl fun c₀ cs hu => ?_
  apply wpS_seq
  apply wpS_region
  simp [wpOpsS, go_sem, recoverD, hu, Tryz.ntmps72, Exit.thenS]
  refine wpS_of_wp ?_
  change Code.wp _ _ _ { tmps := #[.pointer (some p), .pointer (some q), snt a, snt a, undef, undef, undef], defers := [] } _
  have HN := Lib.hid hn
  have HU := Lib.hid hu
  clear hn hu
  go_wp2_with (go_at_call 57; (with_reducible refine HN.out.mono ?_); rintro e w1 ⟨rfl, hw⟩; have hq1 : w1.cell? q = some old := (by rw [Below.cell hw hqb]; exact hq); have hz1 : w1.frozen? q = false := (by rw [Below.frozen hw hqb]; exact hz))
  exact ⟨rfl, _, rfl, _, results_none rfl _ _ _, rfl, rfl, w1, hw, rfl⟩

theorem door_fct_idle (p q : Addr) (w : World) (hp : w.cell? p = some (.bool false)) :
    CallsD Tryz.prog 72 #[.pointer (some p), .pointer (some q)] .returning w fun e u' w' => e = .returned (.tuple #[]) ∧ u' = .returning ∧ w' = w := by
  refine callsD_of_wpS Tryz.func72 rfl fun c₀ cs hu => ?_
  apply wpS_seq
  apply wpS_region
  simp [wpOpsS, go_sem, recoverD, hu, Tryz.ntmps72, Exit.thenS]
  refine wpS_of_wp ?_
  change Code.wp _ _ _ { tmps := #[.pointer (some p), .pointer (some q), .nilIface, .nilIface, undef, undef, undef], defers := [] } _
  go_wp2
  cases c₀
  simp only at hu
  subst hu
  exact ⟨rfl, _, rfl, _, results_none rfl _ _ _, rfl, rfl, rfl⟩



set_option maxRecDepth 100000 in
theorem try_fct_ret (f : FuncId) (caps : Array Value) (x0 : Int) (x1 : Int) (x2 : Int) (x3 : Int) (x4 : Int) (x5 : Int) (x6 : Int) (x7 : Int) (x8 : Int) (x9 : Int) (x10 : Int) (x11 : Int) (x12 : Int) (x13 : Nat) (w : World) (G : World → World → Prop) (hf : ∀ w, (callFunc f caps).run Tryz.prog w = .ok (.enter f caps) w)
    (H : ∀ w1, Below w.heap.size w w1 → w1.heap.size = w.heap.size + 3 → Calls Tryz.prog f caps w1 fun e w2 => e = .returned (.agg #[.int .i64 x0, .int .i64 x1, .int .i64 x2, .int .i64 x3, .int .i64 x4, .int .i64 x5, .int .i64 x6, .int .i64 x7, .int .i64 x8, .int .i64 x9, .int .i64 x10, .int .i64 x11, .int .i64 x12, .float .f64 x13]) ∧ Past w.heap.size w1 w2 ∧ G w1 w2) :
    Calls Tryz.prog 38 #[.func (.func f) #[] caps] w fun e w' => e = .returned (.tuple #[.agg #[.int .i64 x0, .int .i64 x1, .int .i64 x2, .int .i64 x3, .int .i64 x4, .int .i64 x5, .int .i64 x6, .int .i64 x7, .int .i64 x8, .int .i64 x9, .int .i64 x10, .int .i64 x11, .int .i64 x12, .float .f64 x13], .nilIface]) ∧ ∃ w1 w2, Below w.heap.size w w1 ∧ w1.heap.size = w.heap.size + 3 ∧ G w1 w2 ∧ Below w.heap.size w2 w' := by
  have hmf : ∀ (fn : Fn) (first cap : Array Value) (w : World), (Instr.makeFunc fn first cap).run Tryz.prog w = .ok (.func fn first cap) w := fun _ _ _ _ => rfl
  have hA : (((w.alloc (.cells #[.int .i64 0, .int .i64 0, .int .i64 0, .int .i64 0, .int .i64 0, .int .i64 0, .int .i64 0, .int .i64 0, .int .i64 0, .int .i64 0, .int .i64 0, .int .i64 0, .int .i64 0, .float .f64 0] 26)).alloc (.cells #[.nilIface] 31)).alloc (.cells #[.bool true] 4)).heap[w.heap.size]? = some (.cells #[.int .i64 0, .int .i64 0, .int .i64 0, .int .i64 0, .int .i64 0, .int .i64 0, .int .i64 0, .int .i64 0, .int .i64 0, .int .i64 0, .int .i64 0, .int .i64 0, .int .i64 0, .float .f64 0] 26) := by
    rw [Below.heap_alloc _ _ _ (by simp; omega), Below.heap_alloc _ _ _ (by simp)]
    exact (MapKept.heap_alloc w _).1
  have hN : (((w.alloc (.cells #[.int .i64 0, .int .i64 0, .int .i64 0, .int .i64 0, .int .i64 0, .int .i64 0, .int .i64 0, .int .i64 0, .int .i64 0, .int .i64 0, .int .i64 0, .int .i64 0, .int .i64 0, .float .f64 0] 26)).alloc (.cells #[.nilIface] 31)).alloc (.cells #[.bool true] 4)).heap[w.heap.size + 1]? = some (.cells #[.nilIface] 31) := by
    have := try_new0 (w.alloc (.cells #[.int .i64 0, .int .i64 0, .int .i64 0, .int .i64 0, .int .i64 0, .int .i64 0, .int .i64 0, .int .i64 0, .int .i64 0, .int .i64 0, .int .i64 0, .int .i64 0, .int .i64 0, .float .f64 0] 26)) (.cells #[.nilIface] 31) (.cells #[.bool true] 4)
    rwa [show (w.alloc (.cells #[.int .i64 0, .int .i64 0, .int .i64 0, .int .i64 0, .int .i64 0, .int .i64 0, .int .i64 0, .int .i64 0, .int .i64 0, .int .i64 0, .int .i64 0, .int .i64 0, .int .i64 0, .float .f64 0] 26)).heap.size = w.heap.size + 1 by simp] at this
  have hM : (((w.alloc (.cells #[.int .i64 0, .int .i64 0, .int .i64 0, .int .i64 0, .int .i64 0, .int .i64 0, .int .i64 0, .int .i64 0, .int .i64 0, .int .i64 0, .int .i64 0, .int .i64 0, .int .i64 0, .float .f64 0] 26)).alloc (.cells #[.nilIface] 31)).alloc (.cells #[.bool true] 4)).heap[w.heap.size + 1 + 1]? = some (.cells #[.bool true] 4) := by
    have := try_new1 (w.alloc (.cells #[.int .i64 0, .int .i64 0, .int .i64 0, .int .i64 0, .int .i64 0, .int .i64 0, .int .i64 0, .int .i64 0, .int .i64 0, .int .i64 0, .int .i64 0, .int .i64 0, .int .i64 0, .float .f64 0] 26)) (.cells #[.nilIface] 31) (.cells #[.bool true] 4)
    rwa [show (w.alloc (.cells #[.int .i64 0, .int .i64 0, .int .i64 0, .int .i64 0, .int .i64 0, .int .i64 0, .int .i64 0, .int .i64 0, .int .i64 0, .int .i64 0, .int .i64 0, .int .i64 0, .int .i64 0, .float .f64 0] 26)).heap.size + 1 = w.heap.size + 1 + 1 by simp] at this
  have hB : Below w.heap.size w (((w.alloc (.cells #[.int .i64 0, .int .i64 0, .int .i64 0, .int .i64 0, .int .i64 0, .int .i64 0, .int .i64 0, .int .i64 0, .int .i64 0, .int .i64 0, .int .i64 0, .int .i64 0, .int .i64 0, .float .f64 0] 26)).alloc (.cells #[.nilIface] 31)).alloc (.cells #[.bool true] 4)) := (((Below.refl _ _).alloc (Nat.le_refl _) _).alloc (by simp) _).alloc (by have h1 := Below.size (kp_alloc w (.cells #[.int .i64 0, .int .i64 0, .int .i64 0, .int .i64 0, .int .i64 0, .int .i64 0, .int .i64 0, .int .i64 0, .int .i64 0, .int .i64 0, .int .i64 0, .int .i64 0, .int .i64 0, .float .f64 0] 26)); have h2 := Below.size (kp_alloc (w.alloc (.cells #[.int .i64 0, .int .i64 0, .int .i64 0, .int .i64 0, .int .i64 0, .int .i64 0, .int .i64 0, .int .i64 0, .int .i64 0, .int .i64 0, .int .i64 0, .int .i64 0, .int .i64 0, .float .f64 0] 26)) (.cells #[.nilIface] 31)); omega) _
  have hS : (((w.alloc (.cells #[.int .i64 0, .int .i64 0, .int .i64 0, .int .i64 0, .int .i64 0, .int .i64 0, .int .i64 0, .int .i64 0, .int .i64 0, .int .i64 0, .int .i64 0, .int .i64 0, .int .i64 0, .float .f64 0] 26)).alloc (.cells #[.nilIface] 31)).alloc (.cells #[.bool true] 4)).heap.size = w.heap.size + 3 := by simp
  have HH := Lib.hid H
  have HA := Lib.hid hA
  have HN := Lib.hid hN
  have HM := Lib.hid hM
  have HB := Lib.hid hB
  have HS := Lib.hid hS
  clear H hA hN hM hB hS
  have hsf := store_fl
  go_enter_defers Tryz.func38, Tryz.ntmps38
  go_wp2
  with_reducible refine (HH.out _ HB.out HS.out).mono ?_
  rintro e w2 ⟨rfl, hP, hG⟩
  have eA : w2.heap[w.heap.size]? = some (.cells #[.int .i64 0, .int .i64 0, .int .i64 0, .int .i64 0, .int .i64 0, .int .i64 0, .int .i64 0, .int .i64 0, .int .i64 0, .int .i64 0, .int .i64 0, .int .i64 0, .int .i64 0, .float .f64 0] 26) := (hP.2 _ (by omega) (by rw [HS.out]; omega)).trans HA.out
  have e0 : w2.heap[w.heap.size + 1]? = some (.cells #[.nilIface] 31) := (hP.2 _ (by omega) (by rw [HS.out]; omega)).trans HN.out
  have e1 : w2.heap[w.heap.size + 1 + 1]? = some (.cells #[.bool true] 4) := (hP.2 _ (by omega) (by rw [HS.out]; omega)).trans HM.out
  have a0 : w2.cell? ⟨w.heap.size, 0, none⟩ = some (.int .i64 0) := by simp [World.cell?, eA]
  have a1 : w2.cell? ⟨w.heap.size, 1, none⟩ = some (.int .i64 0) := by simp [World.cell?, eA]
  have a2 : w2.cell? ⟨w.heap.size, 2, none⟩ = some (.int .i64 0) := by simp [World.cell?, eA]
  have a3 : w2.cell? ⟨w.heap.size, 3, none⟩ = some (.int .i64 0) := by simp [World.cell?, eA]
  have a4 : w2.cell? ⟨w.heap.size, 4, none⟩ = some (.int .i64 0) := by simp [World.cell?, eA]
  have a5 : w2.cell? ⟨w.heap.size, 5, none⟩ = some (.int .i64 0) := by simp [World.cell?, eA]
  have a6 : w2.cell? ⟨w.heap.size, 6, none⟩ = some (.int .i64 0) := by simp [World.cell?, eA]
  have a7 : w2.cell? ⟨w.heap.size, 7, none⟩ = some (.int .i64 0) := by simp [World.cell?, eA]
  have a8 : w2.cell? ⟨w.heap.size, 8, none⟩ = some (.int .i64 0) := by simp [World.cell?, eA]
  have a9 : w2.cell? ⟨w.heap.size, 9, none⟩ = some (.int .i64 0) := by simp [World.cell?, eA]
  have a10 : w2.cell? ⟨w.heap.size, 10, none⟩ = some (.int .i64 0) := by simp [World.cell?, eA]
  have a11 : w2.cell? ⟨w.heap.size, 11, none⟩ = some (.int .i64 0) := by simp [World.cell?, eA]
  have a12 : w2.cell? ⟨w.heap.size, 12, none⟩ = some (.int .i64 0) := by simp [World.cell?, eA]
  have a13 : w2.cell? ⟨w.heap.size, 13, none⟩ = some (.float .f64 0) := by simp [World.cell?, eA]
  have zA : ∀ i, w2.frozen? ⟨w.heap.size, i, none⟩ = false := fun i => by simp [World.frozen?, eA]
  have c0 : w2.cell? ⟨w.heap.size + 1, 0, none⟩ = some .nilIface := by simp [World.cell?, e0]
  have c1 : w2.cell? ⟨w.heap.size + 1 + 1, 0, none⟩ = some (.bool true) := by simp [World.cell?, e1]
  have z0 : w2.frozen? ⟨w.heap.size + 1, 0, none⟩ = false := by simp [World.frozen?, e0]
  have z1 : w2.frozen? ⟨w.heap.size + 1 + 1, 0, none⟩ = false := by simp [World.frozen?, e1]
  have e0 := Lib.hid e0
  have eA := Lib.hid eA
  clear e1
  go_wp2
  refine leaves_cons (f := 72) (args := #[.pointer (some ⟨w.heap.size + 1 + 1, 0, none⟩), .pointer (some ⟨w.heap.size + 1, 0, none⟩)]) (by simp) (by simp [go_sem]) ?_
  refine (door_fct_idle _ _ _ (by simp [go_sem, c1])).mono ?_
  rintro e u' w3 ⟨rfl, rfl, hw3⟩
  have hzA : w3.heap[w.heap.size]? = some (.cells #[.int .i64 x0, .int .i64 x1, .int .i64 x2, .int .i64 x3, .int .i64 x4, .int .i64 x5, .int .i64 x6, .int .i64 x7, .int .i64 x8, .int .i64 x9, .int .i64 x10, .int .i64 x11, .int .i64 x12, .float .f64 x13] 26) := by
    rw [hw3, Below.heap_setCell _ _ _ _ (by simp)]
    refine set_fct (x0 := .int .i64 x0) (x1 := .int .i64 x1) (x2 := .int .i64 x2) (x3 := .int .i64 x3) (x4 := .int .i64 x4) (x5 := .int .i64 x5) (x6 := .int .i64 x6) (x7 := .int .i64 x7) (x8 := .int .i64 x8) (x9 := .int .i64 x9) (x10 := .int .i64 x10) (x11 := .int .i64 x11) (x12 := .int .i64 x12) (x13 := .float .f64 x13) (.int .i64 x0) (.int .i64 x1) (.int .i64 x2) (.int .i64 x3) (.int .i64 x4) (.int .i64 x5) (.int .i64 x6) (.int .i64 x7) (.int .i64 x8) (.int .i64 x9) (.int .i64 x10) (.int .i64 x11) (.int .i64 x12) (.float .f64 x13) ?_
    rw [Below.heap_setCell _ _ _ _ (by simp; omega)]
    exact set_fct (.int .i64 x0) (.int .i64 x1) (.int .i64 x2) (.int .i64 x3) (.int .i64 x4) (.int .i64 x5) (.int .i64 x6) (.int .i64 x7) (.int .i64 x8) (.int .i64 x9) (.int .i64 x10) (.int .i64 x11) (.int .i64 x12) (.float .f64 x13) eA.out
  have hzE : w3.heap[w.heap.size + 1]? = some (.cells #[.nilIface] 31) := by
    rw [hw3]
    refine (Joins.block_setCell (cs := #[.nilIface]) (t := 31) (fr := (0, 0)) ?_ _).trans rfl
    rw [Below.heap_setCell _ _ _ _ (by simp), Below.heap_setCell _ _ _ _ (by simp), Below.heap_setCell _ _ _ _ (by simp), Below.heap_setCell _ _ _ _ (by simp), Below.heap_setCell _ _ _ _ (by simp), Below.heap_setCell _ _ _ _ (by simp), Below.heap_setCell _ _ _ _ (by simp), Below.heap_setCell _ _ _ _ (by simp), Below.heap_setCell _ _ _ _ (by simp), Below.heap_setCell _ _ _ _ (by simp), Below.heap_setCell _ _ _ _ (by simp), Below.heap_setCell _ _ _ _ (by simp), Below.heap_setCell _ _ _ _ (by simp), Below.heap_setCell _ _ _ _ (by simp), Below.heap_setCell _ _ _ _ (by simp), Below.heap_setCell _ _ _ _ (by simp), Below.heap_setCell _ _ _ _ (by simp), Below.heap_setCell _ _ _ _ (by simp), Below.heap_setCell _ _ _ _ (by simp), Below.heap_setCell _ _ _ _ (by simp), Below.heap_setCell _ _ _ _ (by simp), Below.heap_setCell _ _ _ _ (by simp), Below.heap_setCell _ _ _ _ (by simp), Below.heap_setCell _ _ _ _ (by simp), Below.heap_setCell _ _ _ _ (by simp), Below.heap_setCell _ _ _ _ (by simp), Below.heap_setCell _ _ _ _ (by simp), Below.heap_setCell _ _ _ _ (by simp), Below.heap_setCell _ _ _ _ (by simp)]
    exact e0.out
  have hk3 : Below w.heap.size w2 w3 := by
    rw [hw3]
    refine Below.setCell ?_ (by simp) _
    refine Below.setCell ?_ (by simp) _
    refine Below.setCell ?_ (by simp) _
    refine Below.setCell ?_ (by simp) _
    refine Below.setCell ?_ (by simp) _
    refine Below.setCell ?_ (by simp) _
    refine Below.setCell ?_ (by simp) _
    refine Below.setCell ?_ (by simp) _
    refine Below.setCell ?_ (by simp) _
    refine Below.setCell ?_ (by simp) _
    refine Below.setCell ?_ (by simp) _
    refine Below.setCell ?_ (by simp) _
    refine Below.setCell ?_ (by simp) _
    refine Below.setCell ?_ (by simp) _
    refine Below.setCell ?_ (by simp) _
    refine Below.setCell ?_ (by simp; omega) _
    refine Below.setCell ?_ (by simp) _
    refine Below.setCell ?_ (by simp) _
    refine Below.setCell ?_ (by simp) _
    refine Below.setCell ?_ (by simp) _
    refine Below.setCell ?_ (by simp) _
    refine Below.setCell ?_ (by simp) _
    refine Below.setCell ?_ (by simp) _
    refine Below.setCell ?_ (by simp) _
    refine Below.setCell ?_ (by simp) _
    refine Below.setCell ?_ (by simp) _
    refine Below.setCell ?_ (by simp) _
    refine Below.setCell ?_ (by simp) _
    refine Below.setCell ?_ (by simp) _
    refine Below.setCell ?_ (by simp) _
    exact Below.refl _ _
  have b0 : w3.cell? ⟨w.heap.size, 0, none⟩ = some (.int .i64 x0) := by simp [World.cell?, hzA]
  have b1 : w3.cell? ⟨w.heap.size, 1, none⟩ = some (.int .i64 x1) := by simp [World.cell?, hzA]
  have b2 : w3.cell? ⟨w.heap.size, 2, none⟩ = some (.int .i64 x2) := by simp [World.cell?, hzA]
  have b3 : w3.cell? ⟨w.heap.size, 3, none⟩ = some (.int .i64 x3) := by simp [World.cell?, hzA]
  have b4 : w3.cell? ⟨w.heap.size, 4, none⟩ = some (.int .i64 x4) := by simp [World.cell?, hzA]
  have b5 : w3.cell? ⟨w.heap.size, 5, none⟩ = some (.int .i64 x5) := by simp [World.cell?, hzA]
  have b6 : w3.cell? ⟨w.heap.size, 6, none⟩ = some (.int .i64 x6) := by simp [World.cell?, hzA]
  have b7 : w3.cell? ⟨w.heap.size, 7, none⟩ = some (.int .i64 x7) := by simp [World.cell?, hzA]
  have b8 : w3.cell? ⟨w.heap.size, 8, none⟩ = some (.int .i64 x8) := by simp [World.cell?, hzA]
  have b9 : w3.cell? ⟨w.heap.size, 9, none⟩ = some (.int .i64 x9) := by simp [World.cell?, hzA]
  have b10 : w3.cell? ⟨w.heap.size, 10, none⟩ = some (.int .i64 x10) := by simp [World.cell?, hzA]
  have b11 : w3.cell? ⟨w.heap.size, 11, none⟩ = some (.int .i64 x11) := by simp [World.cell?, hzA]
  have b12 : w3.cell? ⟨w.heap.size, 12, none⟩ = some (.int .i64 x12) := by simp [World.cell?, hzA]
  have b13 : w3.cell? ⟨w.heap.size, 13, none⟩ = some (.float .f64 x13) := by simp [World.cell?, hzA]
  have bE : w3.cell? ⟨w.heap.size + 1, 0, none⟩ = some .nilIface := by simp [World.cell?, hzE]
  clear hw3
  simp [Leaves, settle, results, Tryz.results38, go_sem, b0, b1, b2, b3, b4, b5, b6, b7, b8, b9, b10, b11, b12, b13, bE]
  exact ⟨_, HB.out, HS.out, _, hG, hk3⟩

set_option maxRecDepth 100000 in
theorem try_fct_panic (ads : List Addr) (k : Nat) (hk : k < ads.length) (f : FuncId) (caps : Array Value) (w : World) (G : World → World → Prop) (hf : ∀ w, (callFunc f caps).run Tryz.prog w = .ok (.enter f caps) w)
    (H : ∀ w1, Below w.heap.size w w1 → w1.heap.size = w.heap.size + 3 → Calls Tryz.prog f caps w1 fun e w2 => e = .panicked [{ v := snt ads[k], recovered := false }] ∧ St ads w2 ∧ Past w.heap.size w1 w2 ∧ G w1 w2) :
    Calls Tryz.prog 38 #[.func (.func f) #[] caps] w fun e w' => e = .returned (.tuple #[.agg #[.int .i64 0, .int .i64 0, .int .i64 0, .int .i64 0, .int .i64 0, .int .i64 0, .int .i64 0, .int .i64 0, .int .i64 0, .int .i64 0, .int .i64 0, .int .i64 0, .int .i64 0, .float .f64 0], snt ads[k]]) ∧ ∃ w1 w2, Below w.heap.size w w1 ∧ w1.heap.size = w.heap.size + 3 ∧ G w1 w2 ∧ Below w.heap.size w2 w' := by
  have hmf : ∀ (fn : Fn) (first cap : Array Value) (w : World), (Instr.makeFunc fn first cap).run Tryz.prog w = .ok (.func fn first cap) w := fun _ _ _ _ => rfl
  have hA : (((w.alloc (.cells #[.int .i64 0, .int .i64 0, .int .i64 0, .int .i64 0, .int .i64 0, .int .i64 0, .int .i64 0, .int .i64 0, .int .i64 0, .int .i64 0, .int .i64 0, .int .i64 0, .int .i64 0, .float .f64 0] 26)).alloc (.cells #[.nilIface] 31)).alloc (.cells #[.bool true] 4)).heap[w.heap.size]? = some (.cells #[.int .i64 0, .int .i64 0, .int .i64 0, .int .i64 0, .int .i64 0, .int .i64 0, .int .i64 0, .int .i64 0, .int .i64 0, .int .i64 0, .int .i64 0, .int .i64 0, .int .i64 0, .float .f64 0] 26) := by
    rw [Below.heap_alloc _ _ _ (by simp; omega), Below.heap_alloc _ _ _ (by simp)]
    exact (MapKept.heap_alloc w _).1
  have hN : (((w.alloc (.cells #[.int .i64 0, .int .i64 0, .int .i64 0, .int .i64 0, .int .i64 0, .int .i64 0, .int .i64 0, .int .i64 0, .int .i64 0, .int .i64 0, .int .i64 0, .int .i64 0, .int .i64 0, .float .f64 0] 26)).alloc (.cells #[.nilIface] 31)).alloc (.cells #[.bool true] 4)).heap[w.heap.size + 1]? = some (.cells #[.nilIface] 31) := by
    have := try_new0 (w.alloc (.cells #[.int .i64 0, .int .i64 0, .int .i64 0, .int .i64 0, .int .i64 0, .int .i64 0, .int .i64 0, .int .i64 0, .int .i64 0, .int .i64 0, .int .i64 0, .int .i64 0, .int .i64 0, .float .f64 0] 26)) (.cells #[.nilIface] 31) (.cells #[.bool true] 4)
    rwa [show (w.alloc (.cells #[.int .i64 0, .int .i64 0, .int .i64 0, .int .i64 0, .int .i64 0, .int .i64 0, .int .i64 0, .int .i64 0, .int .i64 0, .int .i64 0, .int .i64 0, .int .i64 0, .int .i64 0, .float .f64 0] 26)).heap.size = w.heap.size + 1 by simp] at this
  have hM : (((w.alloc (.cells #[.int .i64 0, .int .i64 0, .int .i64 0, .int .i64 0, .int .i64 0, .int .i64 0, .int .i64 0, .int .i64 0, .int .i64 0, .int .i64 0, .int .i64 0, .int .i64 0, .int .i64 0, .float .f64 0] 26)).alloc (.cells #[.nilIface] 31)).alloc (.cells #[.bool true] 4)).heap[w.heap.size + 1 + 1]? = some (.cells #[.bool true] 4) := by
    have := try_new1 (w.alloc (.cells #[.int .i64 0, .int .i64 0, .int .i64 0, .int .i64 0, .int .i64 0, .int .i64 0, .int .i64 0, .int .i64 0, .int .i64 0, .int .i64 0, .int .i64 0, .int .i64 0, .int .i64 0, .float .f64 0] 26)) (.cells #[.nilIface] 31) (.cells #[.bool true] 4)
    rwa [show (w.alloc (.cells #[.int .i64 0, .int .i64 0, .int .i64 0, .int .i64 0, .int .i64 0, .int .i64 0, .int .i64 0, .int .i64 0, .int .i64 0, .int .i64 0, .int .i64 0, .int .i64 0, .int .i64 0, .float .f64 0] 26)).heap.size + 1 = w.heap.size + 1 + 1 by simp] at this
  have hB : Below w.heap.size w (((w.alloc (.cells #[.int .i64 0, .int .i64 0, .int .i64 0, .int .i64 0, .int .i64 0, .int .i64 0, .int .i64 0, .int .i64 0, .int .i64 0, .int .i64 0, .int .i64 0, .int .i64 0, .int .i64 0, .float .f64 0] 26)).alloc (.cells #[.nilIface] 31)).alloc (.cells #[.bool true] 4)) := (((Below.refl _ _).alloc (Nat.le_refl _) _).alloc (by simp) _).alloc (by have h1 := Below.size (kp_alloc w (.cells #[.int .i64 0, .int .i64 0, .int .i64 0, .int .i64 0, .int .i64 0, .int .i64 0, .int .i64 0, .int .i64 0, .int .i64 0, .int .i64 0, .int .i64 0, .int .i64 0, .int .i64 0, .float .f64 0] 26)); have h2 := Below.size (kp_alloc (w.alloc (.cells #[.int .i64 0, .int .i64 0, .int .i64 0, .int .i64 0, .int .i64 0, .int .i64 0, .int .i64 0, .int .i64 0, .int .i64 0, .int .i64 0, .int .i64 0, .int .i64 0, .int .i64 0, .float .f64 0] 26)) (.cells #[.nilIface] 31)); omega) _
  have hS : (((w.alloc (.cells #[.int .i64 0, .int .i64 0, .int .i64 0, .int .i64 0, .int .i64 0, .int .i64 0, .int .i64 0, .int .i64 0, .int .i64 0, .int .i64 0, .int .i64 0, .int .i64 0, .int .i64 0, .float .f64 0] 26)).alloc (.cells #[.nilIface] 31)).alloc (.cells #[.bool true] 4)).heap.size = w.heap.size + 3 := by simp
  have HH := Lib.hid H
  have HA := Lib.hid hA
  have HN := Lib.hid hN
  have HM := Lib.hid hM
  have HB := Lib.hid hB
  have HS := Lib.hid hS
  clear H hA hN hM hB hS
  have hsf := store_fl
  go_enter_defers Tryz.func38, Tryz.ntmps38
  go_wp2
  with_reducible refine (HH.out _ HB.out HS.out).mono ?_
  rintro e w2 ⟨rfl, hV, hP, hG⟩
  have eA : w2.heap[w.heap.size]? = some (.cells #[.int .i64 0, .int .i64 0, .int .i64 0, .int .i64 0, .int .i64 0, .int .i64 0, .int .i64 0, .int .i64 0, .int .i64 0, .int .i64 0, .int .i64 0, .int .i64 0, .int .i64 0, .float .f64 0] 26) := (hP.2 _ (by omega) (by rw [HS.out]; omega)).trans HA.out
  have e0 : w2.heap[w.heap.size + 1]? = some (.cells #[.nilIface] 31) := (hP.2 _ (by omega) (by rw [HS.out]; omega)).trans HN.out
  have e1 : w2.heap[w.heap.size + 1 + 1]? = some (.cells #[.bool true] 4) := (hP.2 _ (by omega) (by rw [HS.out]; omega)).trans HM.out
  have a0 : w2.cell? ⟨w.heap.size, 0, none⟩ = some (.int .i64 0) := by simp [World.cell?, eA]
  have a1 : w2.cell? ⟨w.heap.size, 1, none⟩ = some (.int .i64 0) := by simp [World.cell?, eA]
  have a2 : w2.cell? ⟨w.heap.size, 2, none⟩ = some (.int .i64 0) := by simp [World.cell?, eA]
  have a3 : w2.cell? ⟨w.heap.size, 3, none⟩ = some (.int .i64 0) := by simp [World.cell?, eA]
  have a4 : w2.cell? ⟨w.heap.size, 4, none⟩ = some (.int .i64 0) := by simp [World.cell?, eA]
  have a5 : w2.cell? ⟨w.heap.size, 5, none⟩ = some (.int .i64 0) := by simp [World.cell?, eA]
  have a6 : w2.cell? ⟨w.heap.size, 6, none⟩ = some (.int .i64 0) := by simp [World.cell?, eA]
  have a7 : w2.cell? ⟨w.heap.size, 7, none⟩ = some (.int .i64 0) := by simp [World.cell?, eA]
  have a8 : w2.cell? ⟨w.heap.size, 8, none⟩ = some (.int .i64 0) := by simp [World.cell?, eA]
  have a9 : w2.cell? ⟨w.heap.size, 9, none⟩ = some (.int .i64 0) := by simp [World.cell?, eA]
  have a10 : w2.cell? ⟨w.heap.size, 10, none⟩ = some (.int .i64 0) := by simp [World.cell?, eA]
  have a11 : w2.cell? ⟨w.heap.size, 11, none⟩ = some (.int .i64 0) := by simp [World.cell?, eA]
  have a12 : w2.cell? ⟨w.heap.size, 12, none⟩ = some (.int .i64 0) := by simp [World.cell?, eA]
  have a13 : w2.cell? ⟨w.heap.size, 13, none⟩ = some (.float .f64 0) := by simp [World.cell?, eA]
  have zA : ∀ i, w2.frozen? ⟨w.heap.size, i, none⟩ = false := fun i => by simp [World.frozen?, eA]
  have c0 : w2.cell? ⟨w.heap.size + 1, 0, none⟩ = some .nilIface := by simp [World.cell?, e0]
  have c1 : w2.cell? ⟨w.heap.size + 1 + 1, 0, none⟩ = some (.bool true) := by simp [World.cell?, e1]
  have z0 : w2.frozen? ⟨w.heap.size + 1, 0, none⟩ = false := by simp [World.frozen?, e0]
  have hd := door_fct_panic ads ⟨w.heap.size + 1 + 1, 0, none⟩ ⟨w.heap.size + 1, 0, none⟩ .nilIface k hk [] w2 hV c1 c0 z0
  have hltA : w.heap.size < w2.heap.size := old_of_row eA
  have hlt : w.heap.size + 1 < w2.heap.size := old_of_cell c0
  clear e0 e1
  refine leaves_cons (f := 72) (args := #[.pointer (some ⟨w.heap.size + 1 + 1, 0, none⟩), .pointer (some ⟨w.heap.size + 1, 0, none⟩)]) (by simp) (by simp [go_sem]) ?_
  refine hd.mono ?_
  rintro e u' w3 ⟨rfl, rfl, w4, hw4, rfl⟩
  have c4 : w4.cell? ⟨w.heap.size + 1, 0, none⟩ = some .nilIface := by rw [Below.cell hw4 hlt]; exact c0
  have eA4 : w4.heap[w.heap.size]? = some (.cells #[.int .i64 0, .int .i64 0, .int .i64 0, .int .i64 0, .int .i64 0, .int .i64 0, .int .i64 0, .int .i64 0, .int .i64 0, .int .i64 0, .int .i64 0, .int .i64 0, .int .i64 0, .float .f64 0] 26) := by rw [Below.block hw4 _ hltA]; exact eA
  have b0 : w4.cell? ⟨w.heap.size, 0, none⟩ = some (.int .i64 0) := by simp [World.cell?, eA4]
  have b1 : w4.cell? ⟨w.heap.size, 1, none⟩ = some (.int .i64 0) := by simp [World.cell?, eA4]
  have b2 : w4.cell? ⟨w.heap.size, 2, none⟩ = some (.int .i64 0) := by simp [World.cell?, eA4]
  have b3 : w4.cell? ⟨w.heap.size, 3, none⟩ = some (.int .i64 0) := by simp [World.cell?, eA4]
  have b4 : w4.cell? ⟨w.heap.size, 4, none⟩ = some (.int .i64 0) := by simp [World.cell?, eA4]
  have b5 : w4.cell? ⟨w.heap.size, 5, none⟩ = some (.int .i64 0) := by simp [World.cell?, eA4]
  have b6 : w4.cell? ⟨w.heap.size, 6, none⟩ = some (.int .i64 0) := by simp [World.cell?, eA4]
  have b7 : w4.cell? ⟨w.heap.size, 7, none⟩ = some (.int .i64 0) := by simp [World.cell?, eA4]
  have b8 : w4.cell? ⟨w.heap.size, 8, none⟩ = some (.int .i64 0) := by simp [World.cell?, eA4]
  have b9 : w4.cell? ⟨w.heap.size, 9, none⟩ = some (.int .i64 0) := by simp [World.cell?, eA4]
  have b10 : w4.cell? ⟨w.heap.size, 10, none⟩ = some (.int .i64 0) := by simp [World.cell?, eA4]
  have b11 : w4.cell? ⟨w.heap.size, 11, none⟩ = some (.int .i64 0) := by simp [World.cell?, eA4]
  have b12 : w4.cell? ⟨w.heap.size, 12, none⟩ = some (.int .i64 0) := by simp [World.cell?, eA4]
  have b13 : w4.cell? ⟨w.heap.size, 13, none⟩ = some (.float .f64 0) := by simp [World.cell?, eA4]
  have c5 : (w4.setCell ⟨w.heap.size + 1, 0, none⟩ (snt ads[k])).cell? ⟨w.heap.size + 1, 0, none⟩ = some (snt ads[k]) := by simp [go_sem, c4]
  have d0 : (w4.setCell ⟨w.heap.size + 1, 0, none⟩ (snt ads[k])).cell? ⟨w.heap.size, 0, none⟩ = some (.int .i64 0) := by simp [go_sem, b0]
  have d1 : (w4.setCell ⟨w.heap.size + 1, 0, none⟩ (snt ads[k])).cell? ⟨w.heap.size, 1, none⟩ = some (.int .i64 0) := by simp [go_sem, b1]
  have d2 : (w4.setCell ⟨w.heap.size + 1, 0, none⟩ (snt ads[k])).cell? ⟨w.heap.size, 2, none⟩ = some (.int .i64 0) := by simp [go_sem, b2]
  have d3 : (w4.setCell ⟨w.heap.size + 1, 0, none⟩ (snt ads[k])).cell? ⟨w.heap.size, 3, none⟩ = some (.int .i64 0) := by simp [go_sem, b3]
  have d4 : (w4.setCell ⟨w.heap.size + 1, 0, none⟩ (snt ads[k])).cell? ⟨w.heap.size, 4, none⟩ = some (.int .i64 0) := by simp [go_sem, b4]
  have d5 : (w4.setCell ⟨w.heap.size + 1, 0, none⟩ (snt ads[k])).cell? ⟨w.heap.size, 5, none⟩ = some (.int .i64 0) := by simp [go_sem, b5]
  have d6 : (w4.setCell ⟨w.heap.size + 1, 0, none⟩ (snt ads[k])).cell? ⟨w.heap.size, 6, none⟩ = some (.int .i64 0) := by simp [go_sem, b6]
  have d7 : (w4.setCell ⟨w.heap.size + 1, 0, none⟩ (snt ads[k])).cell? ⟨w.heap.size, 7, none⟩ = some (.int .i64 0) := by simp [go_sem, b7]
  have d8 : (w4.setCell ⟨w.heap.size + 1, 0, none⟩ (snt ads[k])).cell? ⟨w.heap.size, 8, none⟩ = some (.int .i64 0) := by simp [go_sem, b8]
  have d9 : (w4.setCell ⟨w.heap.size + 1, 0, none⟩ (snt ads[k])).cell? ⟨w.heap.size, 9, none⟩ = some (.int .i64 0) := by simp [go_sem, b9]
  have d10 : (w4.setCell ⟨w.heap.size + 1, 0, none⟩ (snt ads[k])).cell? ⟨w.heap.size, 10, none⟩ = some (.int .i64 0) := by simp [go_sem, b10]
  have d11 : (w4.setCell ⟨w.heap.size + 1, 0, none⟩ (snt ads[k])).cell? ⟨w.heap.size, 11, none⟩ = some (.int .i64 0) := by simp [go_sem, b11]
  have d12 : (w4.setCell ⟨w.heap.size + 1, 0, none⟩ (snt ads[k])).cell? ⟨w.heap.size, 12, none⟩ = some (.int .i64 0) := by simp [go_sem, b12]
  have d13 : (w4.setCell ⟨w.heap.size + 1, 0, none⟩ (snt ads[k])).cell? ⟨w.heap.size, 13, none⟩ = some (.float .f64 0) := by simp [go_sem, b13]
  have hk5 : Below w.heap.size w2 (w4.setCell ⟨w.heap.size + 1, 0, none⟩ (snt ads[k])) := (Below.mono hw4 (by omega)).setCell (show w.heap.size ≤ w.heap.size + 1 by omega) _
  obtain ⟨w5, hw5⟩ : ∃ w5, w4.setCell ⟨w.heap.size + 1, 0, none⟩ (snt ads[k]) = w5 := ⟨_, rfl⟩
  rw [hw5] at c5 d0 d1 d2 d3 d4 d5 d6 d7 d8 d9 d10 d11 d12 d13 hk5 ⊢
  simp [Leaves, settle, results, Tryz.results38, go_sem, c5, d0, d1, d2, d3, d4, d5, d6, d7, d8, d9, d10, d11, d12, d13]
  exact ⟨_, HB.out, HS.out, _, hG, hk5⟩

/-- what is done turns no old memory -/
theorem try_fct_val (f : FuncId) (caps : Array Value) (x0 : Int) (x1 : Int) (x2 : Int) (x3 : Int) (x4 : Int) (x5 : Int) (x6 : Int) (x7 : Int) (x8 : Int) (x9 : Int) (x10 : Int) (x11 : Int) (x12 : Int) (x13 : Nat) (w : World) (hf : ∀ w, (callFunc f caps).run Tryz.prog w = .ok (.enter f caps) w)
    (H : ∀ w1, Kp w w1 → Calls Tryz.prog f caps w1 fun e w2 => e = .returned (.agg #[.int .i64 x0, .int .i64 x1, .int .i64 x2, .int .i64 x3, .int .i64 x4, .int .i64 x5, .int .i64 x6, .int .i64 x7, .int .i64 x8, .int .i64 x9, .int .i64 x10, .int .i64 x11, .int .i64 x12, .float .f64 x13]) ∧ Kp w1 w2) :
    Calls Tryz.prog 38 #[.func (.func f) #[] caps] w fun e w' => e = .returned (.tuple #[.agg #[.int .i64 x0, .int .i64 x1, .int .i64 x2, .int .i64 x3, .int .i64 x4, .int .i64 x5, .int .i64 x6, .int .i64 x7, .int .i64 x8, .int .i64 x9, .int .i64 x10, .int .i64 x11, .int .i64 x12, .float .f64 x13], .nilIface]) ∧ Kp w w' := by
  refine (try_fct_ret f caps x0 x1 x2 x3 x4 x5 x6 x7 x8 x9 x10 x11 x12 x13 w (fun w1 w2 => Kp w1 w2) hf fun w1 hb _ => ?_).mono ?_
  · refine (H w1 hb).mono ?_
    rintro e w2 ⟨rfl, hk⟩
    exact ⟨rfl, past_of hk, hk⟩
  · rintro e w' ⟨rfl, w1, w2, hb, _, hk, hb2⟩
    exact ⟨rfl, Below.trans (Kp.trans hb hk) hb2⟩
theorem try_fct_err (ads : List Addr) (k : Nat) (hk : k < ads.length) (f : FuncId) (caps : Array Value) (w : World) (V : St ads w) (hf : ∀ w, (callFunc f caps).run Tryz.prog w = .ok (.enter f caps) w)
    (H : ∀ w1, Kp w w1 → Calls Tryz.prog f caps w1 fun e w2 => e = .panicked [{ v := snt ads[k], recovered := false }] ∧ Kp w1 w2) :
    Calls Tryz.prog 38 #[.func (.func f) #[] caps] w fun e w' => e = .returned (.tuple #[.agg #[.int .i64 0, .int .i64 0, .int .i64 0, .int .i64 0, .int .i64 0, .int .i64 0, .int .i64 0, .int .i64 0, .int .i64 0, .int .i64 0, .int .i64 0, .int .i64 0, .int .i64 0, .float .f64 0], snt ads[k]]) ∧ Kp w w' := by
  refine (try_fct_panic ads k hk f caps w (fun w1 w2 => Kp w1 w2) hf fun w1 hb _ => ?_).mono ?_
  · refine (H w1 hb).mono ?_
    rintro e w2 ⟨rfl, hk2⟩
    exact ⟨rfl, V.below (Kp.trans hb hk2), past_of hk2, hk2⟩
  · rintro e w' ⟨rfl, w1, w2, hb, _, hk2, hb2⟩
    exact ⟨rfl, Below.trans (Kp.trans hb hk2) hb2⟩
end Go.Proofs.YtahdoniggipmmaaGreatDoor

