/-
  PARTS OF THIS PROOF (own work): CisE, PvE, TryK, TryF, TryG, TryS, TryM, Val, RefQ, Row, Fm, FlB, FlQ, Dig, Len, NumF, ToNum, JoinF, JoinG, Take.
-/
import Derived.Test.YtfginhckeogafaaDoorPkA
import Derived.Recover
import Derived.Laws.Pointers
import Derived.Defers
import Derived.Lib.SmallJoins
import Derived.Laws.Bits64b
import Derived.Lib.SliceRun
import Derived.OneCell
import Ieee.Arith
import Derived.KernelRfl
import Derived.WalkLawsBesides
import Derived.Laws.BitsAllLaws
import Derived.Laws.Externs
import Derived.Lib.Hide
import Derived.Laws.OwnMore
import Derived.Shelf.Small.Bits
import Derived.Ground.NamesProg
import Derived.Test.YtfginhckeogafaaDoorProg
import Derived.Lib.ItoaNum
import Derived.BigQuiet
import Derived.StillTailTactics
import Derived.Deep.RegionWith

namespace Go.Proofs.YtfginhckeogafaaDoor
open Go.RowKit Go.Extern.Stop Go.Stop Go.Extern

theorem isErrorE (v : Value) (w : World) : (Instr.typeAssert (.iface 134 v) 20 29 true).run Tryd.prog w = .ok (.tuple #[.iface 134 v, .bool true]) w := run_typeAssert_hasB Tryd.underlying29 (by kernel_rfl) v _ w

theorem is_door (w : World) :
    CallsD Tryd.prog 79 #[] .returning w fun e u' w' => e = .returned (.tuple #[]) ∧ u' = .returning ∧ w' = w := by
  refine callsD_of_wpS Tryd.func79 rfl fun c₀ cs hu => ?_
  apply wpS_region
  cases c₀
  simp_all [wpOpsS, go_sem, recoverD, Tryd.ntmps79, bodyPostS, results, Tryd.results79]

theorem cis_of {v t : Value} {b : Bool} {w : World} (h : Calls Tryd.prog 36 #[v, t] w fun e w' => e = .returned (.bool b) ∧ w = w') :
    Calls Tryd.prog 73 #[v, t] w fun e w' => e = .returned (.bool b) ∧ w = w' := by
  go_enter_defers Tryd.func73, Tryd.ntmps73
  go_wp2_with (go_at_call 36; (with_reducible refine h.mono ?_); rintro e w' ⟨rfl, rfl⟩)
  refine leaves_cons (f := 79) (args := #[]) (by simp) (by simp [go_sem]) ?_
  refine (is_door _).mono ?_
  rintro e u' w'' ⟨rfl, rfl, rfl⟩
  simp [Leaves, settle, results, Tryd.results73, go_sem]

end Go.Proofs.YtfginhckeogafaaDoor

namespace Go.Proofs.YtfginhckeogafaaDoor
open Go.RowKit Go.Extern.Stop Go.Stop Go.Extern


/-- catch.named: K is the first place of the table at which errors.Is says yes (14: none). -/
theorem named_gen (ads : List Addr) (w : World) (E : Errs gs14 ads w) (v r : Value) (K : Nat) (hK : K ≤ 14)
    (H0 : ∀ (j : Nat) (h : j < ads.length), j < K → ∀ w1, Kp w w1 → Calls Tryd.prog 73 #[v, snt ads[j]] w1 fun e w' => e = .returned (.bool false) ∧ w1 = w')
    (H1 : ∀ (h : K < ads.length), ∀ w1, Kp w w1 → Calls Tryd.prog 73 #[v, snt ads[K]] w1 fun e w' => e = .returned (.bool true) ∧ w1 = w')
    (hr : (∃ h : K < ads.length, r = snt ads[K]) ∨ (K = 14 ∧ ∃ h : 12 < ads.length, r = snt ads[12])) :
    Calls Tryd.prog 66 #[v] w fun e w' => e = .returned r ∧ Kp w w' := by
  match ads, E, H0, H1, hr with
  | [a0, a1, a2, a3, a4, a5, a6, a7, a8, a9, a10, a11, a12, a13], E, H0, H1, hr =>
    have c0 : w.cell? ⟨1, 0, none⟩ = some (.iface 134 (.pointer (some a0))) := E.cell 0 (by decide)
    have c1 : w.cell? ⟨2, 0, none⟩ = some (.iface 134 (.pointer (some a1))) := E.cell 1 (by decide)
    have c2 : w.cell? ⟨3, 0, none⟩ = some (.iface 134 (.pointer (some a2))) := E.cell 2 (by decide)
    have c3 : w.cell? ⟨0, 0, none⟩ = some (.iface 134 (.pointer (some a3))) := E.cell 3 (by decide)
    have c4 : w.cell? ⟨4, 0, none⟩ = some (.iface 134 (.pointer (some a4))) := E.cell 4 (by decide)
    have c5 : w.cell? ⟨5, 0, none⟩ = some (.iface 134 (.pointer (some a5))) := E.cell 5 (by decide)
    have c6 : w.cell? ⟨6, 0, none⟩ = some (.iface 134 (.pointer (some a6))) := E.cell 6 (by decide)
    have c7 : w.cell? ⟨7, 0, none⟩ = some (.iface 134 (.pointer (some a7))) := E.cell 7 (by decide)
    have c8 : w.cell? ⟨8, 0, none⟩ = some (.iface 134 (.pointer (some a8))) := E.cell 8 (by decide)
    have c9 : w.cell? ⟨9, 0, none⟩ = some (.iface 134 (.pointer (some a9))) := E.cell 9 (by decide)
    have c10 : w.cell? ⟨10, 0, none⟩ = some (.iface 134 (.pointer (some a10))) := E.cell 10 (by decide)
    have c11 : w.cell? ⟨11, 0, none⟩ = some (.iface 134 (.pointer (some a11))) := E.cell 11 (by decide)
    have c12 : w.cell? ⟨12, 0, none⟩ = some (.iface 134 (.pointer (some a12))) := E.cell 12 (by decide)
    have c13 : w.cell? ⟨13, 0, none⟩ = some (.iface 134 (.pointer (some a13))) := E.cell 13 (by decide)
    have hnew : Kp w (w.alloc (.cells #[.iface 134 (.pointer (some a0)), .iface 134 (.pointer (some a1)), .iface 134 (.pointer (some a2)), .iface 134 (.pointer (some a3)), .iface 134 (.pointer (some a4)), .iface 134 (.pointer (some a5)), .iface 134 (.pointer (some a6)), .iface 134 (.pointer (some a7)), .iface 134 (.pointer (some a8)), .iface 134 (.pointer (some a9)), .iface 134 (.pointer (some a10)), .iface 134 (.pointer (some a11)), .iface 134 (.pointer (some a12)), .iface 134 (.pointer (some a13))] 29)) := (Below.refl _ _).alloc (Nat.le_refl _) _
    have hlt : 12 < w.heap.size := E.old.1 12 (by decide)
    have c12' : (w.alloc (.cells #[.iface 134 (.pointer (some a0)), .iface 134 (.pointer (some a1)), .iface 134 (.pointer (some a2)), .iface 134 (.pointer (some a3)), .iface 134 (.pointer (some a4)), .iface 134 (.pointer (some a5)), .iface 134 (.pointer (some a6)), .iface 134 (.pointer (some a7)), .iface 134 (.pointer (some a8)), .iface 134 (.pointer (some a9)), .iface 134 (.pointer (some a10)), .iface 134 (.pointer (some a11)), .iface 134 (.pointer (some a12)), .iface 134 (.pointer (some a13))] 29)).cell? ⟨12, 0, none⟩ = some (.iface 134 (.pointer (some a12))) := by rw [Below.cell hnew hlt]; exact c12
    have HE := Lib.hid E
    have HR := Lib.hid hr
    have HH0 := Lib.hid H0
    have HH1 := Lib.hid H1
    have HN := Lib.hid hnew
    clear E hr H0 H1 hnew
    go_enter Tryd.func66, Tryd.ntmps66
    go_wp2
    go_loop [23] (fun i => ∃ j : Nat, j ≤ K ∧ i = .int .i64 j) (fun i => 14 - (intOf i).toNat)
    case atStart => exact ⟨0, Nat.zero_le _, rfl⟩
    case round =>
      obtain ⟨j, hj, rfl⟩ := hrel
      by_cases hj14 : j = 14
      · subst hj14
        obtain rfl : K = 14 := by omega
        go_wp2
        go_ret
        refine ⟨?_, HN.out⟩
        rcases HR.out with ⟨h, _⟩ | ⟨_, h, rfl⟩
        · exact absurd h (by simp)
        · rfl
      · have hj14' : j < 14 := by omega
        obtain ⟨x, hx⟩ : ∃ x, ([a0, a1, a2, a3, a4, a5, a6, a7, a8, a9, a10, a11, a12, a13] : List Addr)[j]'(by simpa using hj14') = x := ⟨_, rfl⟩
        have hel : (w.alloc (.cells #[.iface 134 (.pointer (some a0)), .iface 134 (.pointer (some a1)), .iface 134 (.pointer (some a2)), .iface 134 (.pointer (some a3)), .iface 134 (.pointer (some a4)), .iface 134 (.pointer (some a5)), .iface 134 (.pointer (some a6)), .iface 134 (.pointer (some a7)), .iface 134 (.pointer (some a8)), .iface 134 (.pointer (some a9)), .iface 134 (.pointer (some a10)), .iface 134 (.pointer (some a11)), .iface 134 (.pointer (some a12)), .iface 134 (.pointer (some a13))] 29)).cell? ⟨w.heap.size, j, none⟩ = some (.iface 134 (.pointer (some x))) := by
          rw [← hx]; exact cells_new w [a0, a1, a2, a3, a4, a5, a6, a7, a8, a9, a10, a11, a12, a13] 29 j (by simpa using hj14')
        by_cases hjk : j = K
        · subst hjk
          have h1 := HH1.out (by simpa using hj14') _ HN.out
          rw [hx] at h1
          have hrx : r = snt x := by
            rcases HR.out with ⟨h, rfl⟩ | ⟨h, _⟩
            · rw [hx]
            · exact absurd h (by omega)
          have HX := Lib.hid hx
          have HC := Lib.hid h1
          have HRX := Lib.hid hrx
          clear hx h1 hrx
          go_wp2_with (go_at_call 73; (with_reducible refine HC.out.mono ?_); rintro e w' ⟨rfl, rfl⟩)
          go_ret
          exact ⟨by rw [HRX.out]; rfl, HN.out⟩
        · have h0 := HH0.out j (by simpa using hj14') (by omega) _ HN.out
          rw [hx] at h0
          have HX := Lib.hid hx
          have HC := Lib.hid h0
          clear hx h0
          go_wp2_with (go_at_call 73; (with_reducible refine HC.out.mono ?_); rintro e w' ⟨rfl, rfl⟩)
          go_round
          case rel => exact ⟨j + 1, by omega, by go_num⟩
          case measure => simp [intOf]; omega

theorem named_any (ads : List Addr) (w : World) (V : St ads w) (k : Nat) (hk : k < ads.length) :
    Calls Tryd.prog 66 #[snt ads[k]] w fun e w' => e = .returned (snt ads[k]) ∧ Kp w w' := by
  have hl : ads.length = 14 := V.len
  refine named_gen ads w V _ _ k (by omega) (fun j hj hjk w1 hw => ?_) (fun _ w1 hw => ?_) (.inl ⟨hk, rfl⟩)
  · have V1 := V.below hw
    obtain ⟨ca, ta, ra⟩ := V1.row _ (List.getElem_mem hk)
    obtain ⟨cb, tb, rb⟩ := V1.row _ (List.getElem_mem hj)
    refine cis_of (is_other _ _ ca cb ta tb w1 (fun e => ?_) ra rb)
    exact List.pairwise_iff_getElem.1 V.nodup j k hj hk hjk e.symm
  · exact cis_of (is_same _ w1)

/-- catch.errorOf: A PANIC's ERROR. -/
theorem errorOf_any (ads : List Addr) (w : World) (V : St ads w) (k : Nat) (hk : k < ads.length) :
    Calls Tryd.prog 48 #[snt ads[k]] w fun e w' => e = .returned (snt ads[k]) ∧ Kp w w' := by
  have hn := named_any ads w V k hk
  obtain ⟨r, hr⟩ : ∃ r, ads[k] = r := ⟨_, rfl⟩
  rw [hr] at hn ⊢
  have HN := Lib.hid hn
  have ha := isErrorE (.pointer (some r)) w
  clear hn hr
  go_enter Tryd.func48, Tryd.ntmps48
  go_wp2_with (go_at_call 66; (with_reducible refine HN.out.mono ?_); rintro e w' ⟨rfl, hw⟩)
  go_ret
  exact ⟨rfl, hw⟩
end Go.Proofs.YtfginhckeogafaaDoor

namespace Go.Proofs.YtfginhckeogafaaDoor
open Go.RowKit Go.Extern.Stop Go.Stop Go.Extern

/-- BLOCKS FROM B ON ARE AS THEY WERE. -/
def Past (B : Nat) (w w' : World) : Prop := w.heap.size ≤ w'.heap.size ∧ ∀ b, B ≤ b → b < w.heap.size → w'.heap[b]? = w.heap[b]?
/-- ALL BUT THE BLOCKS B, B + 1 IS AS IT WAS. -/
def Aside (B : Nat) (w w' : World) : Prop := w.heap.size ≤ w'.heap.size ∧ ∀ b, b ≠ B → b ≠ B + 1 → w'.heap[b]? = w.heap[b]?
theorem Aside.below {B : Nat} {w w' : World} (h : Below B w w') (hs : ∀ b, b ≠ B → b ≠ B + 1 → w'.heap[b]? = w.heap[b]?) : Aside B w w' := ⟨h.size, hs⟩
theorem past_of {w0 w w' : World} (h : Kp w w') : Past w0.heap.size w w' := ⟨Below.size h, fun b _ hb => Below.block h b hb⟩
/-- WHAT IS DONE WITHIN, between two stretches that turn no old memory. -/
def Mid (w : World) (G : World → World → Prop) (w' : World) : Prop := ∃ w1 w2, Below w.heap.size w w1 ∧ w1.heap.size = w.heap.size + 2 ∧ G w1 w2 ∧ Below w.heap.size w2 w'

theorem own_aside {w w' : World} {B base : Nat} {e : TypeId} {size n : Nat} {v : Value} {xs : List Value} (h : w.ownsRow base e size v n xs) (ha : Aside B w w') (hb : B + 2 ≤ base) : w'.ownsRow base e size v n xs := by
  obtain ⟨h1, h2⟩ := h
  refine ⟨h1, ?_⟩
  rcases h2 with h2 | ⟨g, cap, cur, hv, hg, hh, r⟩
  · exact Or.inl h2
  · exact Or.inr ⟨g, cap, cur, hv, hg, by rw [ha.2 g (by omega) (by omega)]; exact hh, r⟩

theorem try_new0 (w : World) (o o' : Obj) : ((w.alloc o).alloc o').heap[w.heap.size]? = some o := by
  rw [Below.heap_alloc _ _ _ (by simp)]
  exact (MapKept.heap_alloc w o).1
theorem try_new1 (w : World) (o o' : Obj) : ((w.alloc o).alloc o').heap[w.heap.size + 1]? = some o' := by
  have := (MapKept.heap_alloc (w.alloc o) o').1
  simpa using this
theorem heap_setCell_other (w : World) (q : Addr) (v : Value) (b : Nat) (h : b ≠ q.block) : (w.setCell q v).heap[b]? = w.heap[b]? := Below.heap_setCell w q v b h
end Go.Proofs.YtfginhckeogafaaDoor

namespace Go.Proofs.YtfginhckeogafaaDoor
open Go.RowKit Go.Extern.Stop Go.Stop Go.Extern



theorem door_bytes_panic (ads : List Addr) (p q : Addr) (old : Value) (k : Nat) (hk : k < ads.length) (older : List PanicEntry) (w : World) (V : St ads w)
    (hp : w.cell? p = some (.bool true)) (hq : w.cell? q = some old) (hz : w.frozen? q = false) :
    CallsD Tryd.prog 47 #[.pointer (some p), .pointer (some q)] (.panicking ({ v := snt ads[k], recovered := false } :: older)) w fun e u' w' =>
      e = .returned (.tuple #[]) ∧ u' = .panicking ({ v := snt ads[k], recovered := true } :: older) ∧ ∃ w1, Kp w w1 ∧ w' = w1.setCell q (snt ads[k]) := by
  have hqb := old_of_cell hq
  have hn := errorOf_any ads w V k hk
  obtain ⟨a, ha⟩ : ∃ a, ads[k] = a := ⟨_, rfl⟩
  rw [ha] at hn ⊢
  clear ha V
  refine callsD_of_wpS Tryd.func47 rfl fun c₀ cs hu => ?_
  apply wpS_seq
  apply wpS_region
  simp [wpOpsS, go_sem, recoverD, hu, Tryd.ntmps47, Exit.thenS]
  refine wpS_of_wp ?_
  change Code.wp _ _ _ { tmps := #[.pointer (some p), .pointer (some q), snt a, snt a, undef, undef, undef], defers := [] } _
  have HN := Lib.hid hn
  have HU := Lib.hid hu
  clear hn hu
  go_wp2_with (go_at_call 48; (with_reducible refine HN.out.mono ?_); rintro e w1 ⟨rfl, hw⟩; have hq1 : w1.cell? q = some old := (by rw [Below.cell hw hqb]; exact hq); have hz1 : w1.frozen? q = false := (by rw [Below.frozen hw hqb]; exact hz))
  exact ⟨rfl, _, rfl, _, results_none rfl _ _ _, rfl, rfl, w1, hw, rfl⟩

theorem door_bytes_idle (p q : Addr) (w : World) (hp : w.cell? p = some (.bool false)) :
    CallsD Tryd.prog 47 #[.pointer (some p), .pointer (some q)] .returning w fun e u' w' => e = .returned (.tuple #[]) ∧ u' = .returning ∧ w' = w := by
  refine callsD_of_wpS Tryd.func47 rfl fun c₀ cs hu => ?_
  apply wpS_seq
  apply wpS_region
  simp [wpOpsS, go_sem, recoverD, hu, Tryd.ntmps47, Exit.thenS]
  refine wpS_of_wp ?_
  change Code.wp _ _ _ { tmps := #[.pointer (some p), .pointer (some q), .nilIface, .nilIface, undef, undef, undef], defers := [] } _
  go_wp2
  cases c₀
  simp only at hu
  subst hu
  exact ⟨rfl, _, rfl, _, results_none rfl _ _ _, rfl, rfl, rfl⟩


theorem door_fields_panic (ads : List Addr) (p q : Addr) (old : Value) (k : Nat) (hk : k < ads.length) (older : List PanicEntry) (w : World) (V : St ads w)
    (hp : w.cell? p = some (.bool true)) (hq : w.cell? q = some old) (hz : w.frozen? q = false) :
    CallsD Tryd.prog 70 #[.pointer (some p), .pointer (some q)] (.panicking ({ v := snt ads[k], recovered := false } :: older)) w fun e u' w' =>
      e = .returned (.tuple #[]) ∧ u' = .panicking ({ v := snt ads[k], recovered := true } :: older) ∧ ∃ w1, Kp w w1 ∧ w' = w1.setCell q (snt ads[k]) := by
  have hqb := old_of_cell hq
  have hn := errorOf_any ads w V k hk
  obtain ⟨a, ha⟩ : ∃ a, ads[k] = a := ⟨_, rfl⟩
  rw [ha] at hn ⊢
  clear ha V
  refine callsD_of_wpS Tryd.func70 rfl fun c₀ cs hu => ?_
  apply wpS_seq
  apply wpS_region
  simp [wpOpsS, go_sem, recoverD, hu, Tryd.ntmps70, Exit.thenS]
  refine wpS_of_wp ?_
  change Code.wp _ _ _ { tmps := #[.pointer (some p), .pointer (some q), snt a, snt a, undef, undef, undef], defers := [] } _
  have HN := Lib.hid hn
  have HU := Lib.hid hu
  clear hn hu
  go_wp2_with (go_at_call 48; (with_reducible refine HN.out.mono ?_); rintro e w1 ⟨rfl, hw⟩; have hq1 : w1.cell? q = some old := (by rw [Below.cell hw hqb]; exact hq); have hz1 : w1.frozen? q = false := (by rw [Below.frozen hw hqb]; exact hz))
  exact ⟨rfl, _, rfl, _, results_none rfl _ _ _, rfl, rfl, w1, hw, rfl⟩

theorem door_fields_idle (p q : Addr) (w : World) (hp : w.cell? p = some (.bool false)) :
    CallsD Tryd.prog 70 #[.pointer (some p), .pointer (some q)] .returning w fun e u' w' => e = .returned (.tuple #[]) ∧ u' = .returning ∧ w' = w := by
  refine callsD_of_wpS Tryd.func70 rfl fun c₀ cs hu => ?_
  apply wpS_seq
  apply wpS_region
  simp [wpOpsS, go_sem, recoverD, hu, Tryd.ntmps70, Exit.thenS]
  refine wpS_of_wp ?_
  change Code.wp _ _ _ { tmps := #[.pointer (some p), .pointer (some q), .nilIface, .nilIface, undef, undef, undef], defers := [] } _
  go_wp2
  cases c₀
  simp only at hu
  subst hu
  exact ⟨rfl, _, rfl, _, results_none rfl _ _ _, rfl, rfl, rfl⟩


theorem door_int_panic (ads : List Addr) (p q : Addr) (old : Value) (k : Nat) (hk : k < ads.length) (older : List PanicEntry) (w : World) (V : St ads w)
    (hp : w.cell? p = some (.bool true)) (hq : w.cell? q = some old) (hz : w.frozen? q = false) :
    CallsD Tryd.prog 78 #[.pointer (some p), .pointer (some q)] (.panicking ({ v := snt ads[k], recovered := false } :: older)) w fun e u' w' =>
      e = .returned (.tuple #[]) ∧ u' = .panicking ({ v := snt ads[k], recovered := true } :: older) ∧ ∃ w1, Kp w w1 ∧ w' = w1.setCell q (snt ads[k]) := by
  have hqb := old_of_cell hq
  have hn := errorOf_any ads w V k hk
  obtain ⟨a, ha⟩ : ∃ a, ads[k] = a := ⟨_, rfl⟩
  rw [ha] at hn ⊢
  clear ha V
  refine callsD_of_wpS Tryd.func78 rfl fun c₀ cs hu => ?_
  apply wpS_seq
  apply wpS_region
  simp [wpOpsS, go_sem, recoverD, hu, Tryd.ntmps78, Exit.thenS]
  refine wpS_of_wp ?_
  change Code.wp _ _ _ { tmps := #[.pointer (some p), .pointer (some q), snt a, snt a, undef, undef, undef], defers := [] } _
  have HN := Lib.hid hn
  have HU := Lib.hid hu
  clear hn hu
  go_wp2_with (go_at_call 48; (with_reducible refine HN.out.mono ?_); rintro e w1 ⟨rfl, hw⟩; have hq1 : w1.cell? q = some old := (by rw [Below.cell hw hqb]; exact hq); have hz1 : w1.frozen? q = false := (by rw [Below.frozen hw hqb]; exact hz))
  exact ⟨rfl, _, rfl, _, results_none rfl _ _ _, rfl, rfl, w1, hw, rfl⟩

theorem door_int_idle (p q : Addr) (w : World) (hp : w.cell? p = some (.bool false)) :
    CallsD Tryd.prog 78 #[.pointer (some p), .pointer (some q)] .returning w fun e u' w' => e = .returned (.tuple #[]) ∧ u' = .returning ∧ w' = w := by
  refine callsD_of_wpS Tryd.func78 rfl fun c₀ cs hu => ?_
  apply wpS_seq
  apply wpS_region
  simp [wpOpsS, go_sem, recoverD, hu, Tryd.ntmps78, Exit.thenS]
  refine wpS_of_wp ?_
  change Code.wp _ _ _ { tmps := #[.pointer (some p), .pointer (some q), .nilIface, .nilIface, undef, undef, undef], defers := [] } _
  go_wp2
  cases c₀
  simp only at hu
  subst hu
  exact ⟨rfl, _, rfl, _, results_none rfl _ _ _, rfl, rfl, rfl⟩


set_option maxRecDepth 20000 in
theorem try_bytes_ret (f : FuncId) (caps : Array Value) (w : World) (G : Value → World → World → Prop) (hf : ∀ w, (callFunc f caps).run Tryd.prog w = .ok (.enter f caps) w)
    (H : ∀ w1, Below w.heap.size w w1 → w1.heap.size = w.heap.size + 2 → Calls Tryd.prog f caps w1 fun e w2 => ∃ v, e = .returned v ∧ Past w.heap.size w1 w2 ∧ G v w1 w2) :
    Calls Tryd.prog 23 #[.func (.func f) #[] caps] w fun e w' => ∃ v, e = .returned (.tuple #[v, .nilIface]) ∧ ∃ w1 w2, Below w.heap.size w w1 ∧ w1.heap.size = w.heap.size + 2 ∧ G v w1 w2 ∧ Below w.heap.size w2 w' ∧ Aside w.heap.size w2 w' := by
  have hmf : ∀ (fn : Fn) (first cap : Array Value) (w : World), (Instr.makeFunc fn first cap).run Tryd.prog w = .ok (.func fn first cap) w := fun _ _ _ _ => rfl
  have hN : ((w.alloc (.cells #[.nilIface] 29)).alloc (.cells #[.bool true] 4)).heap[w.heap.size]? = some (.cells #[.nilIface] 29) := try_new0 _ _ _
  have hM : ((w.alloc (.cells #[.nilIface] 29)).alloc (.cells #[.bool true] 4)).heap[w.heap.size + 1]? = some (.cells #[.bool true] 4) := try_new1 _ _ _
  have hB : Below w.heap.size w ((w.alloc (.cells #[.nilIface] 29)).alloc (.cells #[.bool true] 4)) := ((Below.refl _ _).alloc (Nat.le_refl _) _).alloc (by simp) _
  have hS : ((w.alloc (.cells #[.nilIface] 29)).alloc (.cells #[.bool true] 4)).heap.size = w.heap.size + 2 := by simp
  have HH := Lib.hid H
  have HN := Lib.hid hN
  have HM := Lib.hid hM
  have HB := Lib.hid hB
  have HS := Lib.hid hS
  clear H hN hM hB hS
  go_enter_defers Tryd.func23, Tryd.ntmps23
  go_wp2
  with_reducible refine (HH.out _ HB.out HS.out).mono ?_
  rintro e w2 ⟨v, rfl, hP, hG⟩
  have e0 : w2.heap[w.heap.size]? = some (.cells #[.nilIface] 29) := (hP.2 _ (by omega) (by rw [HS.out]; omega)).trans HN.out
  have e1 : w2.heap[w.heap.size + 1]? = some (.cells #[.bool true] 4) := (hP.2 _ (by omega) (by rw [HS.out]; omega)).trans HM.out
  have c0 : w2.cell? ⟨w.heap.size, 0, none⟩ = some .nilIface := by simp [World.cell?, e0]
  have c1 : w2.cell? ⟨w.heap.size + 1, 0, none⟩ = some (.bool true) := by simp [World.cell?, e1]
  have z0 : w2.frozen? ⟨w.heap.size, 0, none⟩ = false := by simp [World.frozen?, e0]
  have z1 : w2.frozen? ⟨w.heap.size + 1, 0, none⟩ = false := by simp [World.frozen?, e1]
  clear e0 e1
  go_wp2
  refine leaves_cons (f := 47) (args := #[.pointer (some ⟨w.heap.size + 1, 0, none⟩), .pointer (some ⟨w.heap.size, 0, none⟩)]) (by simp) (by simp [go_sem]) ?_
  refine (door_bytes_idle _ _ _ (by simp [go_sem, c1])).mono ?_
  rintro e u' w3 ⟨rfl, rfl, rfl⟩
  simp [Leaves, settle, results, Tryd.results23, go_sem, c0]
  have hb := ((Below.refl w.heap.size w2).setCell (show w.heap.size ≤ w.heap.size + 1 by omega) (.bool false) (p := ⟨w.heap.size + 1, 0, none⟩)).setCell (show w.heap.size ≤ w.heap.size by omega) (.nilIface) (p := ⟨w.heap.size, 0, none⟩)
  exact ⟨_, HB.out, HS.out, _, hG, hb, Aside.below hb fun b h0 h1 => by rw [heap_setCell_other _ _ _ _ h0, heap_setCell_other _ _ _ _ h1]⟩

set_option maxRecDepth 20000 in
theorem try_bytes_panic (ads : List Addr) (k : Nat) (hk : k < ads.length) (f : FuncId) (caps : Array Value) (w : World) (G : World → World → Prop) (hf : ∀ w, (callFunc f caps).run Tryd.prog w = .ok (.enter f caps) w)
    (H : ∀ w1, Below w.heap.size w w1 → w1.heap.size = w.heap.size + 2 → Calls Tryd.prog f caps w1 fun e w2 => e = .panicked [{ v := snt ads[k], recovered := false }] ∧ St ads w2 ∧ Past w.heap.size w1 w2 ∧ G w1 w2) :
    Calls Tryd.prog 23 #[.func (.func f) #[] caps] w fun e w' => e = .returned (.tuple #[.slice none 0 0, snt ads[k]]) ∧ Mid w G w' := by
  have hmf : ∀ (fn : Fn) (first cap : Array Value) (w : World), (Instr.makeFunc fn first cap).run Tryd.prog w = .ok (.func fn first cap) w := fun _ _ _ _ => rfl
  have hN : ((w.alloc (.cells #[.nilIface] 29)).alloc (.cells #[.bool true] 4)).heap[w.heap.size]? = some (.cells #[.nilIface] 29) := try_new0 _ _ _
  have hM : ((w.alloc (.cells #[.nilIface] 29)).alloc (.cells #[.bool true] 4)).heap[w.heap.size + 1]? = some (.cells #[.bool true] 4) := try_new1 _ _ _
  have hB : Below w.heap.size w ((w.alloc (.cells #[.nilIface] 29)).alloc (.cells #[.bool true] 4)) := ((Below.refl _ _).alloc (Nat.le_refl _) _).alloc (by simp) _
  have hS : ((w.alloc (.cells #[.nilIface] 29)).alloc (.cells #[.bool true] 4)).heap.size = w.heap.size + 2 := by simp
  have HH := Lib.hid H
  have HN := Lib.hid hN
  have HM := Lib.hid hM
  have HB := Lib.hid hB
  have HS := Lib.hid hS
  clear H hN hM hB hS
  go_enter_defers Tryd.func23, Tryd.ntmps23
  go_wp2
  with_reducible refine (HH.out _ HB.out HS.out).mono ?_
  rintro e w2 ⟨rfl, hV, hP, hG⟩
  have e0 : w2.heap[w.heap.size]? = some (.cells #[.nilIface] 29) := (hP.2 _ (by omega) (by rw [HS.out]; omega)).trans HN.out
  have e1 : w2.heap[w.heap.size + 1]? = some (.cells #[.bool true] 4) := (hP.2 _ (by omega) (by rw [HS.out]; omega)).trans HM.out
  have c0 : w2.cell? ⟨w.heap.size, 0, none⟩ = some .nilIface := by simp [World.cell?, e0]
  have c1 : w2.cell? ⟨w.heap.size + 1, 0, none⟩ = some (.bool true) := by simp [World.cell?, e1]
  have z0 : w2.frozen? ⟨w.heap.size, 0, none⟩ = false := by simp [World.frozen?, e0]
  have hd := door_bytes_panic ads ⟨w.heap.size + 1, 0, none⟩ ⟨w.heap.size, 0, none⟩ .nilIface k hk [] w2 hV c1 c0 z0
  have hlt : w.heap.size < w2.heap.size := old_of_cell c0
  clear e0 e1
  refine leaves_cons (f := 47) (args := #[.pointer (some ⟨w.heap.size + 1, 0, none⟩), .pointer (some ⟨w.heap.size, 0, none⟩)]) (by simp) (by simp [go_sem]) ?_
  refine hd.mono ?_
  rintro e u' w3 ⟨rfl, rfl, w4, hw4, rfl⟩
  have c4 : w4.cell? ⟨w.heap.size, 0, none⟩ = some .nilIface := by rw [Below.cell hw4 hlt]; exact c0
  simp [Leaves, settle, results, Tryd.results23, go_sem, c4]
  exact ⟨_, _, HB.out, HS.out, hG, (Below.mono hw4 (by omega)).setCell (show w.heap.size ≤ w.heap.size by omega) _⟩


set_option maxRecDepth 20000 in
theorem try_fields_ret (f : FuncId) (caps : Array Value) (w : World) (G : Value → World → World → Prop) (hf : ∀ w, (callFunc f caps).run Tryd.prog w = .ok (.enter f caps) w)
    (H : ∀ w1, Below w.heap.size w w1 → w1.heap.size = w.heap.size + 2 → Calls Tryd.prog f caps w1 fun e w2 => ∃ v, e = .returned v ∧ Past w.heap.size w1 w2 ∧ G v w1 w2) :
    Calls Tryd.prog 60 #[.func (.func f) #[] caps] w fun e w' => ∃ v, e = .returned (.tuple #[v, .nilIface]) ∧ ∃ w1 w2, Below w.heap.size w w1 ∧ w1.heap.size = w.heap.size + 2 ∧ G v w1 w2 ∧ Below w.heap.size w2 w' ∧ Aside w.heap.size w2 w' := by
  have hmf : ∀ (fn : Fn) (first cap : Array Value) (w : World), (Instr.makeFunc fn first cap).run Tryd.prog w = .ok (.func fn first cap) w := fun _ _ _ _ => rfl
  have hN : ((w.alloc (.cells #[.nilIface] 29)).alloc (.cells #[.bool true] 4)).heap[w.heap.size]? = some (.cells #[.nilIface] 29) := try_new0 _ _ _
  have hM : ((w.alloc (.cells #[.nilIface] 29)).alloc (.cells #[.bool true] 4)).heap[w.heap.size + 1]? = some (.cells #[.bool true] 4) := try_new1 _ _ _
  have hB : Below w.heap.size w ((w.alloc (.cells #[.nilIface] 29)).alloc (.cells #[.bool true] 4)) := ((Below.refl _ _).alloc (Nat.le_refl _) _).alloc (by simp) _
  have hS : ((w.alloc (.cells #[.nilIface] 29)).alloc (.cells #[.bool true] 4)).heap.size = w.heap.size + 2 := by simp
  have HH := Lib.hid H
  have HN := Lib.hid hN
  have HM := Lib.hid hM
  have HB := Lib.hid hB
  have HS := Lib.hid hS
  clear H hN hM hB hS
  go_enter_defers Tryd.func60, Tryd.ntmps60
  go_wp2
  with_reducible refine (HH.out _ HB.out HS.out).mono ?_
  rintro e w2 ⟨v, rfl, hP, hG⟩
  have e0 : w2.heap[w.heap.size]? = some (.cells #[.nilIface] 29) := (hP.2 _ (by omega) (by rw [HS.out]; omega)).trans HN.out
  have e1 : w2.heap[w.heap.size + 1]? = some (.cells #[.bool true] 4) := (hP.2 _ (by omega) (by rw [HS.out]; omega)).trans HM.out
  have c0 : w2.cell? ⟨w.heap.size, 0, none⟩ = some .nilIface := by simp [World.cell?, e0]
  have c1 : w2.cell? ⟨w.heap.size + 1, 0, none⟩ = some (.bool true) := by simp [World.cell?, e1]
  have z0 : w2.frozen? ⟨w.heap.size, 0, none⟩ = false := by simp [World.frozen?, e0]
  have z1 : w2.frozen? ⟨w.heap.size + 1, 0, none⟩ = false := by simp [World.frozen?, e1]
  clear e0 e1
  go_wp2
  refine leaves_cons (f := 70) (args := #[.pointer (some ⟨w.heap.size + 1, 0, none⟩), .pointer (some ⟨w.heap.size, 0, none⟩)]) (by simp) (by simp [go_sem]) ?_
  refine (door_fields_idle _ _ _ (by simp [go_sem, c1])).mono ?_
  rintro e u' w3 ⟨rfl, rfl, rfl⟩
  simp [Leaves, settle, results, Tryd.results60, go_sem, c0]
  have hb := ((Below.refl w.heap.size w2).setCell (show w.heap.size ≤ w.heap.size + 1 by omega) (.bool false) (p := ⟨w.heap.size + 1, 0, none⟩)).setCell (show w.heap.size ≤ w.heap.size by omega) (.nilIface) (p := ⟨w.heap.size, 0, none⟩)
  exact ⟨_, HB.out, HS.out, _, hG, hb, Aside.below hb fun b h0 h1 => by rw [heap_setCell_other _ _ _ _ h0, heap_setCell_other _ _ _ _ h1]⟩

set_option maxRecDepth 20000 in
theorem try_fields_panic (ads : List Addr) (k : Nat) (hk : k < ads.length) (f : FuncId) (caps : Array Value) (w : World) (G : World → World → Prop) (hf : ∀ w, (callFunc f caps).run Tryd.prog w = .ok (.enter f caps) w)
    (H : ∀ w1, Below w.heap.size w w1 → w1.heap.size = w.heap.size + 2 → Calls Tryd.prog f caps w1 fun e w2 => e = .panicked [{ v := snt ads[k], recovered := false }] ∧ St ads w2 ∧ Past w.heap.size w1 w2 ∧ G w1 w2) :
    Calls Tryd.prog 60 #[.func (.func f) #[] caps] w fun e w' => e = .returned (.tuple #[.slice none 0 0, snt ads[k]]) ∧ Mid w G w' := by
  have hmf : ∀ (fn : Fn) (first cap : Array Value) (w : World), (Instr.makeFunc fn first cap).run Tryd.prog w = .ok (.func fn first cap) w := fun _ _ _ _ => rfl
  have hN : ((w.alloc (.cells #[.nilIface] 29)).alloc (.cells #[.bool true] 4)).heap[w.heap.size]? = some (.cells #[.nilIface] 29) := try_new0 _ _ _
  have hM : ((w.alloc (.cells #[.nilIface] 29)).alloc (.cells #[.bool true] 4)).heap[w.heap.size + 1]? = some (.cells #[.bool true] 4) := try_new1 _ _ _
  have hB : Below w.heap.size w ((w.alloc (.cells #[.nilIface] 29)).alloc (.cells #[.bool true] 4)) := ((Below.refl _ _).alloc (Nat.le_refl _) _).alloc (by simp) _
  have hS : ((w.alloc (.cells #[.nilIface] 29)).alloc (.cells #[.bool true] 4)).heap.size = w.heap.size + 2 := by simp
  have HH := Lib.hid H
  have HN := Lib.hid hN
  have HM := Lib.hid hM
  have HB := Lib.hid hB
  have HS := Lib.hid hS
  clear H hN hM hB hS
  go_enter_defers Tryd.func60, Tryd.ntmps60
  go_wp2
  with_reducible refine (HH.out _ HB.out HS.out).mono ?_
  rintro e w2 ⟨rfl, hV, hP, hG⟩
  have e0 : w2.heap[w.heap.size]? = some (.cells #[.nilIface] 29) := (hP.2 _ (by omega) (by rw [HS.out]; omega)).trans HN.out
  have e1 : w2.heap[w.heap.size + 1]? = some (.cells #[.bool true] 4) := (hP.2 _ (by omega) (by rw [HS.out]; omega)).trans HM.out
  have c0 : w2.cell? ⟨w.heap.size, 0, none⟩ = some .nilIface := by simp [World.cell?, e0]
  have c1 : w2.cell? ⟨w.heap.size + 1, 0, none⟩ = some (.bool true) := by simp [World.cell?, e1]
  have z0 : w2.frozen? ⟨w.heap.size, 0, none⟩ = false := by simp [World.frozen?, e0]
  have hd := door_fields_panic ads ⟨w.heap.size + 1, 0, none⟩ ⟨w.heap.size, 0, none⟩ .nilIface k hk [] w2 hV c1 c0 z0
  have hlt : w.heap.size < w2.heap.size := old_of_cell c0
  clear e0 e1
  refine leaves_cons (f := 70) (args := #[.pointer (some ⟨w.heap.size + 1, 0, none⟩), .pointer (some ⟨w.heap.size, 0, none⟩)]) (by simp) (by simp [go_sem]) ?_
  refine hd.mono ?_
  rintro e u' w3 ⟨rfl, rfl, w4, hw4, rfl⟩
  have c4 : w4.cell? ⟨w.heap.size, 0, none⟩ = some .nilIface := by rw [Below.cell hw4 hlt]; exact c0
  simp [Leaves, settle, results, Tryd.results60, go_sem, c4]
  exact ⟨_, _, HB.out, HS.out, hG, (Below.mono hw4 (by omega)).setCell (show w.heap.size ≤ w.heap.size by omega) _⟩


set_option maxRecDepth 20000 in
theorem try_int_ret (f : FuncId) (caps : Array Value) (w : World) (G : Value → World → World → Prop) (hf : ∀ w, (callFunc f caps).run Tryd.prog w = .ok (.enter f caps) w)
    (H : ∀ w1, Below w.heap.size w w1 → w1.heap.size = w.heap.size + 2 → Calls Tryd.prog f caps w1 fun e w2 => ∃ v, e = .returned v ∧ Past w.heap.size w1 w2 ∧ G v w1 w2) :
    Calls Tryd.prog 71 #[.func (.func f) #[] caps] w fun e w' => ∃ v, e = .returned (.tuple #[v, .nilIface]) ∧ ∃ w1 w2, Below w.heap.size w w1 ∧ w1.heap.size = w.heap.size + 2 ∧ G v w1 w2 ∧ Below w.heap.size w2 w' ∧ Aside w.heap.size w2 w' := by
  have hmf : ∀ (fn : Fn) (first cap : Array Value) (w : World), (Instr.makeFunc fn first cap).run Tryd.prog w = .ok (.func fn first cap) w := fun _ _ _ _ => rfl
  have hN : ((w.alloc (.cells #[.nilIface] 29)).alloc (.cells #[.bool true] 4)).heap[w.heap.size]? = some (.cells #[.nilIface] 29) := try_new0 _ _ _
  have hM : ((w.alloc (.cells #[.nilIface] 29)).alloc (.cells #[.bool true] 4)).heap[w.heap.size + 1]? = some (.cells #[.bool true] 4) := try_new1 _ _ _
  have hB : Below w.heap.size w ((w.alloc (.cells #[.nilIface] 29)).alloc (.cells #[.bool true] 4)) := ((Below.refl _ _).alloc (Nat.le_refl _) _).alloc (by simp) _
  have hS : ((w.alloc (.cells #[.nilIface] 29)).alloc (.cells #[.bool true] 4)).heap.size = w.heap.size + 2 := by simp
  have HH := Lib.hid H
  have HN := Lib.hid hN
  have HM := Lib.hid hM
  have HB := Lib.hid hB
  have HS := Lib.hid hS
  clear H hN hM hB hS
  go_enter_defers Tryd.func71, Tryd.ntmps71
  go_wp2
  with_reducible refine (HH.out _ HB.out HS.out).mono ?_
  rintro e w2 ⟨v, rfl, hP, hG⟩
  have e0 : w2.heap[w.heap.size]? = some (.cells #[.nilIface] 29) := (hP.2 _ (by omega) (by rw [HS.out]; omega)).trans HN.out
  have e1 : w2.heap[w.heap.size + 1]? = some (.cells #[.bool true] 4) := (hP.2 _ (by omega) (by rw [HS.out]; omega)).trans HM.out
  have c0 : w2.cell? ⟨w.heap.size, 0, none⟩ = some .nilIface := by simp [World.cell?, e0]
  have c1 : w2.cell? ⟨w.heap.size + 1, 0, none⟩ = some (.bool true) := by simp [World.cell?, e1]
  have z0 : w2.frozen? ⟨w.heap.size, 0, none⟩ = false := by simp [World.frozen?, e0]
  have z1 : w2.frozen? ⟨w.heap.size + 1, 0, none⟩ = false := by simp [World.frozen?, e1]
  clear e0 e1
  go_wp2
  refine leaves_cons (f := 78) (args := #[.pointer (some ⟨w.heap.size + 1, 0, none⟩), .pointer (some ⟨w.heap.size, 0, none⟩)]) (by simp) (by simp [go_sem]) ?_
  refine (door_int_idle _ _ _ (by simp [go_sem, c1])).mono ?_
  rintro e u' w3 ⟨rfl, rfl, rfl⟩
  simp [Leaves, settle, results, Tryd.results71, go_sem, c0]
  have hb := ((Below.refl w.heap.size w2).setCell (show w.heap.size ≤ w.heap.size + 1 by omega) (.bool false) (p := ⟨w.heap.size + 1, 0, none⟩)).setCell (show w.heap.size ≤ w.heap.size by omega) (.nilIface) (p := ⟨w.heap.size, 0, none⟩)
  exact ⟨_, HB.out, HS.out, _, hG, hb, Aside.below hb fun b h0 h1 => by rw [heap_setCell_other _ _ _ _ h0, heap_setCell_other _ _ _ _ h1]⟩

set_option maxRecDepth 20000 in
theorem try_int_panic (ads : List Addr) (k : Nat) (hk : k < ads.length) (f : FuncId) (caps : Array Value) (w : World) (G : World → World → Prop) (hf : ∀ w, (callFunc f caps).run Tryd.prog w = .ok (.enter f caps) w)
    (H : ∀ w1, Below w.heap.size w w1 → w1.heap.size = w.heap.size + 2 → Calls Tryd.prog f caps w1 fun e w2 => e = .panicked [{ v := snt ads[k], recovered := false }] ∧ St ads w2 ∧ Past w.heap.size w1 w2 ∧ G w1 w2) :
    Calls Tryd.prog 71 #[.func (.func f) #[] caps] w fun e w' => e = .returned (.tuple #[.int .i64 0, snt ads[k]]) ∧ Mid w G w' := by
  have hmf : ∀ (fn : Fn) (first cap : Array Value) (w : World), (Instr.makeFunc fn first cap).run Tryd.prog w = .ok (.func fn first cap) w := fun _ _ _ _ => rfl
  have hN : ((w.alloc (.cells #[.nilIface] 29)).alloc (.cells #[.bool true] 4)).heap[w.heap.size]? = some (.cells #[.nilIface] 29) := try_new0 _ _ _
  have hM : ((w.alloc (.cells #[.nilIface] 29)).alloc (.cells #[.bool true] 4)).heap[w.heap.size + 1]? = some (.cells #[.bool true] 4) := try_new1 _ _ _
  have hB : Below w.heap.size w ((w.alloc (.cells #[.nilIface] 29)).alloc (.cells #[.bool true] 4)) := ((Below.refl _ _).alloc (Nat.le_refl _) _).alloc (by simp) _
  have hS : ((w.alloc (.cells #[.nilIface] 29)).alloc (.cells #[.bool true] 4)).heap.size = w.heap.size + 2 := by simp
  have HH := Lib.hid H
  have HN := Lib.hid hN
  have HM := Lib.hid hM
  have HB := Lib.hid hB
  have HS := Lib.hid hS
  clear H hN hM hB hS
  go_enter_defers Tryd.func71, Tryd.ntmps71
  go_wp2
  with_reducible refine (HH.out _ HB.out HS.out).mono ?_
  rintro e w2 ⟨rfl, hV, hP, hG⟩
  have e0 : w2.heap[w.heap.size]? = some (.cells #[.nilIface] 29) := (hP.2 _ (by omega) (by rw [HS.out]; omega)).trans HN.out
  have e1 : w2.heap[w.heap.size + 1]? = some (.cells #[.bool true] 4) := (hP.2 _ (by omega) (by rw [HS.out]; omega)).trans HM.out
  have c0 : w2.cell? ⟨w.heap.size, 0, none⟩ = some .nilIface := by simp [World.cell?, e0]
  have c1 : w2.cell? ⟨w.heap.size + 1, 0, none⟩ = some (.bool true) := by simp [World.cell?, e1]
  have z0 : w2.frozen? ⟨w.heap.size, 0, none⟩ = false := by simp [World.frozen?, e0]
  have hd := door_int_panic ads ⟨w.heap.size + 1, 0, none⟩ ⟨w.heap.size, 0, none⟩ .nilIface k hk [] w2 hV c1 c0 z0
  have hlt : w.heap.size < w2.heap.size := old_of_cell c0
  clear e0 e1
  refine leaves_cons (f := 78) (args := #[.pointer (some ⟨w.heap.size + 1, 0, none⟩), .pointer (some ⟨w.heap.size, 0, none⟩)]) (by simp) (by simp [go_sem]) ?_
  refine hd.mono ?_
  rintro e u' w3 ⟨rfl, rfl, w4, hw4, rfl⟩
  have c4 : w4.cell? ⟨w.heap.size, 0, none⟩ = some .nilIface := by rw [Below.cell hw4 hlt]; exact c0
  simp [Leaves, settle, results, Tryd.results71, go_sem, c4]
  exact ⟨_, _, HB.out, HS.out, hG, (Below.mono hw4 (by omega)).setCell (show w.heap.size ≤ w.heap.size by omega) _⟩


end Go.Proofs.YtfginhckeogafaaDoor

namespace Go.Proofs.YtfginhckeogafaaDoor
open Go.RowKit Go.Extern.Stop Go.Stop Go.Extern

theorem kp_of_mid {w w1 w2 w' : World} (h1 : Below w.heap.size w w1) (h2 : Kp w1 w2) (h3 : Below w.heap.size w2 w') : Kp w w' :=
  Below.trans (Kp.trans h1 h2) h3

theorem try_bytes_own (f : FuncId) (caps : Array Value) (bs : List Int) (w : World) (hf : ∀ w, (callFunc f caps).run Tryd.prog w = .ok (.enter f caps) w)
    (H : ∀ w1, Kp w w1 → Calls Tryd.prog f caps w1 fun e w2 => ∃ v, e = .returned v ∧ w2.ownsRow w1.heap.size 5 1 v bs.length (bs.map (Value.int .u8)) ∧ Kp w1 w2) :
    Calls Tryd.prog 23 #[.func (.func f) #[] caps] w fun e w' => ∃ v, e = .returned (.tuple #[v, .nilIface]) ∧ w'.ownsRow w.heap.size 5 1 v bs.length (bs.map (Value.int .u8)) ∧ Kp w w' := by
  refine (try_bytes_ret f caps w (fun v w1 w2 => w2.ownsRow w1.heap.size 5 1 v bs.length (bs.map (Value.int .u8)) ∧ Kp w1 w2) hf fun w1 hb _ => ?_).mono ?_
  · refine (H w1 hb).mono ?_
    rintro e w2 ⟨v, rfl, ho, hk⟩
    exact ⟨v, rfl, past_of hk, ho, hk⟩
  · rintro e w' ⟨v, rfl, w1, w2, hb, hs, ⟨ho, hk⟩, hb2, ha⟩
    exact ⟨v, rfl, own_mono (own_aside ho ha (by omega)) (Below.size hb), kp_of_mid hb hk hb2⟩


theorem try_bytes_err (ads : List Addr) (k : Nat) (hk : k < ads.length) (f : FuncId) (caps : Array Value) (w : World) (V : St ads w) (hf : ∀ w, (callFunc f caps).run Tryd.prog w = .ok (.enter f caps) w)
    (H : ∀ w1, Kp w w1 → Calls Tryd.prog f caps w1 fun e w2 => e = .panicked [{ v := snt ads[k], recovered := false }] ∧ Kp w1 w2) :
    Calls Tryd.prog 23 #[.func (.func f) #[] caps] w fun e w' => e = .returned (.tuple #[.slice none 0 0, snt ads[k]]) ∧ Kp w w' := by
  refine (try_bytes_panic ads k hk f caps w (fun w1 w2 => Kp w1 w2) hf fun w1 hb _ => ?_).mono ?_
  · refine (H w1 hb).mono ?_
    rintro e w2 ⟨rfl, hk2⟩
    exact ⟨rfl, V.below (Kp.trans hb hk2), past_of hk2, hk2⟩
  · rintro e w' ⟨rfl, w1, w2, hb, _, hk2, hb2⟩
    exact ⟨rfl, kp_of_mid hb hk2 hb2⟩


theorem try_int_err (ads : List Addr) (k : Nat) (hk : k < ads.length) (f : FuncId) (caps : Array Value) (w : World) (V : St ads w) (hf : ∀ w, (callFunc f caps).run Tryd.prog w = .ok (.enter f caps) w)
    (H : ∀ w1, Kp w w1 → Calls Tryd.prog f caps w1 fun e w2 => e = .panicked [{ v := snt ads[k], recovered := false }] ∧ Kp w1 w2) :
    Calls Tryd.prog 71 #[.func (.func f) #[] caps] w fun e w' => e = .returned (.tuple #[.int .i64 0, snt ads[k]]) ∧ Kp w w' := by
  refine (try_int_panic ads k hk f caps w (fun w1 w2 => Kp w1 w2) hf fun w1 hb _ => ?_).mono ?_
  · refine (H w1 hb).mono ?_
    rintro e w2 ⟨rfl, hk2⟩
    exact ⟨rfl, V.below (Kp.trans hb hk2), past_of hk2, hk2⟩
  · rintro e w' ⟨rfl, w1, w2, hb, _, hk2, hb2⟩
    exact ⟨rfl, kp_of_mid hb hk2 hb2⟩


theorem try_int_val (f : FuncId) (caps : Array Value) (x : Int) (w : World) (hf : ∀ w, (callFunc f caps).run Tryd.prog w = .ok (.enter f caps) w)
    (H : ∀ w1, Kp w w1 → Calls Tryd.prog f caps w1 fun e w2 => e = .returned (.int .i64 x) ∧ Kp w1 w2) :
    Calls Tryd.prog 71 #[.func (.func f) #[] caps] w fun e w' => e = .returned (.tuple #[.int .i64 x, .nilIface]) ∧ Kp w w' := by
  refine (try_int_ret f caps w (fun u w1 w2 => u = .int .i64 x ∧ Kp w1 w2) hf fun w1 hb _ => ?_).mono ?_
  · refine (H w1 hb).mono ?_
    rintro e w2 ⟨rfl, hk⟩
    exact ⟨_, rfl, past_of hk, rfl, hk⟩
  · rintro e w' ⟨u, rfl, w1, w2, hb, _, ⟨rfl, hk⟩, hb2, _⟩
    exact ⟨rfl, kp_of_mid hb hk hb2⟩


end Go.Proofs.YtfginhckeogafaaDoor

namespace Go.Proofs.YtfginhckeogafaaDoor
open Go.RowKit Go.Extern.Stop Go.Stop Go.Extern


theorem door_str_panic (ads : List Addr) (p q : Addr) (old : Value) (k : Nat) (hk : k < ads.length) (older : List PanicEntry) (w : World) (V : St ads w)
    (hp : w.cell? p = some (.bool true)) (hq : w.cell? q = some old) (hz : w.frozen? q = false) :
    CallsD Tryd.prog 80 #[.pointer (some p), .pointer (some q)] (.panicking ({ v := snt ads[k], recovered := false } :: older)) w fun e u' w' =>
      e = .returned (.tuple #[]) ∧ u' = .panicking ({ v := snt ads[k], recovered := true } :: older) ∧ ∃ w1, Kp w w1 ∧ w' = w1.setCell q (snt ads[k]) := by
  have hqb := old_of_cell hq
  have hn := errorOf_any ads w V k hk
  obtain ⟨a, ha⟩ : ∃ a, ads[k] = a := ⟨_, rfl⟩
  rw [ha] at hn ⊢
  clear ha V
  refine callsD_of_wpS Tryd.func80 rfl fun c₀ cs hu => ?_
  apply wpS_seq
  apply wpS_region
  simp [wpOpsS, go_sem, recoverD, hu, Tryd.ntmps80, Exit.thenS]
  refine wpS_of_wp ?_
  change Code.wp _ _ _ { tmps := #[.pointer (some p), .pointer (some q), snt a, snt a, undef, undef, undef], defers := [] } _
  have HN := Lib.hid hn
  have HU := Lib.hid hu
  clear hn hu
  go_wp2_with (go_at_call 48; (with_reducible refine HN.out.mono ?_); rintro e w1 ⟨rfl, hw⟩; have hq1 : w1.cell? q = some old := (by rw [Below.cell hw hqb]; exact hq); have hz1 : w1.frozen? q = false := (by rw [Below.frozen hw hqb]; exact hz))
  exact ⟨rfl, _, rfl, _, results_none rfl _ _ _, rfl, rfl, w1, hw, rfl⟩

theorem door_str_idle (p q : Addr) (w : World) (hp : w.cell? p = some (.bool false)) :
    CallsD Tryd.prog 80 #[.pointer (some p), .pointer (some q)] .returning w fun e u' w' => e = .returned (.tuple #[]) ∧ u' = .returning ∧ w' = w := by
  refine callsD_of_wpS Tryd.func80 rfl fun c₀ cs hu => ?_
  apply wpS_seq
  apply wpS_region
  simp [wpOpsS, go_sem, recoverD, hu, Tryd.ntmps80, Exit.thenS]
  refine wpS_of_wp ?_
  change Code.wp _ _ _ { tmps := #[.pointer (some p), .pointer (some q), .nilIface, .nilIface, undef, undef, undef], defers := [] } _
  go_wp2
  cases c₀
  simp only at hu
  subst hu
  exact ⟨rfl, _, rfl, _, results_none rfl _ _ _, rfl, rfl, rfl⟩


set_option maxRecDepth 20000 in
theorem try_str_ret (f : FuncId) (caps : Array Value) (w : World) (G : Value → World → World → Prop) (hf : ∀ w, (callFunc f caps).run Tryd.prog w = .ok (.enter f caps) w)
    (H : ∀ w1, Below w.heap.size w w1 → w1.heap.size = w.heap.size + 2 → Calls Tryd.prog f caps w1 fun e w2 => ∃ v, e = .returned v ∧ Past w.heap.size w1 w2 ∧ G v w1 w2) :
    Calls Tryd.prog 74 #[.func (.func f) #[] caps] w fun e w' => ∃ v, e = .returned (.tuple #[v, .nilIface]) ∧ ∃ w1 w2, Below w.heap.size w w1 ∧ w1.heap.size = w.heap.size + 2 ∧ G v w1 w2 ∧ Below w.heap.size w2 w' ∧ Aside w.heap.size w2 w' := by
  have hmf : ∀ (fn : Fn) (first cap : Array Value) (w : World), (Instr.makeFunc fn first cap).run Tryd.prog w = .ok (.func fn first cap) w := fun _ _ _ _ => rfl
  have hN : ((w.alloc (.cells #[.nilIface] 29)).alloc (.cells #[.bool true] 4)).heap[w.heap.size]? = some (.cells #[.nilIface] 29) := try_new0 _ _ _
  have hM : ((w.alloc (.cells #[.nilIface] 29)).alloc (.cells #[.bool true] 4)).heap[w.heap.size + 1]? = some (.cells #[.bool true] 4) := try_new1 _ _ _
  have hB : Below w.heap.size w ((w.alloc (.cells #[.nilIface] 29)).alloc (.cells #[.bool true] 4)) := ((Below.refl _ _).alloc (Nat.le_refl _) _).alloc (by simp) _
  have hS : ((w.alloc (.cells #[.nilIface] 29)).alloc (.cells #[.bool true] 4)).heap.size = w.heap.size + 2 := by simp
  have HH := Lib.hid H
  have HN := Lib.hid hN
  have HM := Lib.hid hM
  have HB := Lib.hid hB
  have HS := Lib.hid hS
  clear H hN hM hB hS
  go_enter_defers Tryd.func74, Tryd.ntmps74
  go_wp2
  with_reducible refine (HH.out _ HB.out HS.out).mono ?_
  rintro e w2 ⟨v, rfl, hP, hG⟩
  have e0 : w2.heap[w.heap.size]? = some (.cells #[.nilIface] 29) := (hP.2 _ (by omega) (by rw [HS.out]; omega)).trans HN.out
  have e1 : w2.heap[w.heap.size + 1]? = some (.cells #[.bool true] 4) := (hP.2 _ (by omega) (by rw [HS.out]; omega)).trans HM.out
  have c0 : w2.cell? ⟨w.heap.size, 0, none⟩ = some .nilIface := by simp [World.cell?, e0]
  have c1 : w2.cell? ⟨w.heap.size + 1, 0, none⟩ = some (.bool true) := by simp [World.cell?, e1]
  have z0 : w2.frozen? ⟨w.heap.size, 0, none⟩ = false := by simp [World.frozen?, e0]
  have z1 : w2.frozen? ⟨w.heap.size + 1, 0, none⟩ = false := by simp [World.frozen?, e1]
  clear e0 e1
  go_wp2
  refine leaves_cons (f := 80) (args := #[.pointer (some ⟨w.heap.size + 1, 0, none⟩), .pointer (some ⟨w.heap.size, 0, none⟩)]) (by simp) (by simp [go_sem]) ?_
  refine (door_str_idle _ _ _ (by simp [go_sem, c1])).mono ?_
  rintro e u' w3 ⟨rfl, rfl, rfl⟩
  simp [Leaves, settle, results, Tryd.results74, go_sem, c0]
  have hb := ((Below.refl w.heap.size w2).setCell (show w.heap.size ≤ w.heap.size + 1 by omega) (.bool false) (p := ⟨w.heap.size + 1, 0, none⟩)).setCell (show w.heap.size ≤ w.heap.size by omega) (.nilIface) (p := ⟨w.heap.size, 0, none⟩)
  exact ⟨_, HB.out, HS.out, _, hG, hb, Aside.below hb fun b h0 h1 => by rw [heap_setCell_other _ _ _ _ h0, heap_setCell_other _ _ _ _ h1]⟩

set_option maxRecDepth 20000 in
theorem try_str_panic (ads : List Addr) (k : Nat) (hk : k < ads.length) (f : FuncId) (caps : Array Value) (w : World) (G : World → World → Prop) (hf : ∀ w, (callFunc f caps).run Tryd.prog w = .ok (.enter f caps) w)
    (H : ∀ w1, Below w.heap.size w w1 → w1.heap.size = w.heap.size + 2 → Calls Tryd.prog f caps w1 fun e w2 => e = .panicked [{ v := snt ads[k], recovered := false }] ∧ St ads w2 ∧ Past w.heap.size w1 w2 ∧ G w1 w2) :
    Calls Tryd.prog 74 #[.func (.func f) #[] caps] w fun e w' => e = .returned (.tuple #[.string ⟨#[]⟩, snt ads[k]]) ∧ Mid w G w' := by
  have hmf : ∀ (fn : Fn) (first cap : Array Value) (w : World), (Instr.makeFunc fn first cap).run Tryd.prog w = .ok (.func fn first cap) w := fun _ _ _ _ => rfl
  have hN : ((w.alloc (.cells #[.nilIface] 29)).alloc (.cells #[.bool true] 4)).heap[w.heap.size]? = some (.cells #[.nilIface] 29) := try_new0 _ _ _
  have hM : ((w.alloc (.cells #[.nilIface] 29)).alloc (.cells #[.bool true] 4)).heap[w.heap.size + 1]? = some (.cells #[.bool true] 4) := try_new1 _ _ _
  have hB : Below w.heap.size w ((w.alloc (.cells #[.nilIface] 29)).alloc (.cells #[.bool true] 4)) := ((Below.refl _ _).alloc (Nat.le_refl _) _).alloc (by simp) _
  have hS : ((w.alloc (.cells #[.nilIface] 29)).alloc (.cells #[.bool true] 4)).heap.size = w.heap.size + 2 := by simp
  have HH := Lib.hid H
  have HN := Lib.hid hN
  have HM := Lib.hid hM
  have HB := Lib.hid hB
  have HS := Lib.hid hS
  clear H hN hM hB hS
  go_enter_defers Tryd.func74, Tryd.ntmps74
  go_wp2
  with_reducible refine (HH.out _ HB.out HS.out).mono ?_
  rintro e w2 ⟨rfl, hV, hP, hG⟩
  have e0 : w2.heap[w.heap.size]? = some (.cells #[.nilIface] 29) := (hP.2 _ (by omega) (by rw [HS.out]; omega)).trans HN.out
  have e1 : w2.heap[w.heap.size + 1]? = some (.cells #[.bool true] 4) := (hP.2 _ (by omega) (by rw [HS.out]; omega)).trans HM.out
  have c0 : w2.cell? ⟨w.heap.size, 0, none⟩ = some .nilIface := by simp [World.cell?, e0]
  have c1 : w2.cell? ⟨w.heap.size + 1, 0, none⟩ = some (.bool true) := by simp [World.cell?, e1]
  have z0 : w2.frozen? ⟨w.heap.size, 0, none⟩ = false := by simp [World.frozen?, e0]
  have hd := door_str_panic ads ⟨w.heap.size + 1, 0, none⟩ ⟨w.heap.size, 0, none⟩ .nilIface k hk [] w2 hV c1 c0 z0
  have hlt : w.heap.size < w2.heap.size := old_of_cell c0
  clear e0 e1
  refine leaves_cons (f := 80) (args := #[.pointer (some ⟨w.heap.size + 1, 0, none⟩), .pointer (some ⟨w.heap.size, 0, none⟩)]) (by simp) (by simp [go_sem]) ?_
  refine hd.mono ?_
  rintro e u' w3 ⟨rfl, rfl, w4, hw4, rfl⟩
  have c4 : w4.cell? ⟨w.heap.size, 0, none⟩ = some .nilIface := by rw [Below.cell hw4 hlt]; exact c0
  simp [Leaves, settle, results, Tryd.results74, go_sem, c4]
  exact ⟨_, _, HB.out, HS.out, hG, (Below.mono hw4 (by omega)).setCell (show w.heap.size ≤ w.heap.size by omega) _⟩


theorem try_str_val (f : FuncId) (caps : Array Value) (s : ByteArray) (w : World) (hf : ∀ w, (callFunc f caps).run Tryd.prog w = .ok (.enter f caps) w)
    (H : ∀ w1, Kp w w1 → Calls Tryd.prog f caps w1 fun e w2 => e = .returned (.string s) ∧ Kp w1 w2) :
    Calls Tryd.prog 74 #[.func (.func f) #[] caps] w fun e w' => e = .returned (.tuple #[.string s, .nilIface]) ∧ Kp w w' := by
  refine (try_str_ret f caps w (fun u w1 w2 => u = .string s ∧ Kp w1 w2) hf fun w1 hb _ => ?_).mono ?_
  · refine (H w1 hb).mono ?_
    rintro e w2 ⟨rfl, hk⟩
    exact ⟨_, rfl, past_of hk, rfl, hk⟩
  · rintro e w' ⟨u, rfl, w1, w2, hb, _, ⟨rfl, hk⟩, hb2, _⟩
    exact ⟨rfl, Below.trans (Kp.trans hb hk) hb2⟩

theorem try_str_err (ads : List Addr) (k : Nat) (hk : k < ads.length) (f : FuncId) (caps : Array Value) (w : World) (V : St ads w) (hf : ∀ w, (callFunc f caps).run Tryd.prog w = .ok (.enter f caps) w)
    (H : ∀ w1, Kp w w1 → Calls Tryd.prog f caps w1 fun e w2 => e = .panicked [{ v := snt ads[k], recovered := false }] ∧ Kp w1 w2) :
    Calls Tryd.prog 74 #[.func (.func f) #[] caps] w fun e w' => e = .returned (.tuple #[.string ⟨#[]⟩, snt ads[k]]) ∧ Kp w w' := by
  refine (try_str_panic ads k hk f caps w (fun w1 w2 => Kp w1 w2) hf fun w1 hb _ => ?_).mono ?_
  · refine (H w1 hb).mono ?_
    rintro e w2 ⟨rfl, hk2⟩
    exact ⟨rfl, V.below (Kp.trans hb hk2), past_of hk2, hk2⟩
  · rintro e w' ⟨rfl, w1, w2, hb, _, hk2, hb2⟩
    exact ⟨rfl, Below.trans (Kp.trans hb hk2) hb2⟩

end Go.Proofs.YtfginhckeogafaaDoor

namespace Go.Proofs.YtfginhckeogafaaDoor
open Go.RowKit Go.Extern.Stop Go.Stop Go.Extern

theorem set_msg {b : Nat} {t : TypeId} {w : World} {x0 x1 x2 x3 x4 x5 x6 x7 x8 : Value} (y0 y1 y2 y3 y4 y5 y6 y7 y8 : Value) (h : w.heap[b]? = some (.cells #[x0, x1, x2, x3, x4, x5, x6, x7, x8] t (0, 0))) : (((((((((w.setCell ⟨b, 0, none⟩ y0).setCell ⟨b, 1, none⟩ y1).setCell ⟨b, 2, none⟩ y2).setCell ⟨b, 3, none⟩ y3).setCell ⟨b, 4, none⟩ y4).setCell ⟨b, 5, none⟩ y5).setCell ⟨b, 6, none⟩ y6).setCell ⟨b, 7, none⟩ y7).setCell ⟨b, 8, none⟩ y8).heap[b]? = some (.cells #[y0, y1, y2, y3, y4, y5, y6, y7, y8] t (0, 0)) := by
  have h1 : (w.setCell ⟨b, 0, none⟩ y0).heap[b]? = some (.cells #[y0, x1, x2, x3, x4, x5, x6, x7, x8] t (0, 0)) := (Joins.block_setCell h _).trans rfl
  have h2 : ((w.setCell ⟨b, 0, none⟩ y0).setCell ⟨b, 1, none⟩ y1).heap[b]? = some (.cells #[y0, y1, x2, x3, x4, x5, x6, x7, x8] t (0, 0)) := (Joins.block_setCell h1 _).trans rfl
  have h3 : (((w.setCell ⟨b, 0, none⟩ y0).setCell ⟨b, 1, none⟩ y1).setCell ⟨b, 2, none⟩ y2).heap[b]? = some (.cells #[y0, y1, y2, x3, x4, x5, x6, x7, x8] t (0, 0)) := (Joins.block_setCell h2 _).trans rfl
  have h4 : ((((w.setCell ⟨b, 0, none⟩ y0).setCell ⟨b, 1, none⟩ y1).setCell ⟨b, 2, none⟩ y2).setCell ⟨b, 3, none⟩ y3).heap[b]? = some (.cells #[y0, y1, y2, y3, x4, x5, x6, x7, x8] t (0, 0)) := (Joins.block_setCell h3 _).trans rfl
  have h5 : (((((w.setCell ⟨b, 0, none⟩ y0).setCell ⟨b, 1, none⟩ y1).setCell ⟨b, 2, none⟩ y2).setCell ⟨b, 3, none⟩ y3).setCell ⟨b, 4, none⟩ y4).heap[b]? = some (.cells #[y0, y1, y2, y3, y4, x5, x6, x7, x8] t (0, 0)) := (Joins.block_setCell h4 _).trans rfl
  have h6 : ((((((w.setCell ⟨b, 0, none⟩ y0).setCell ⟨b, 1, none⟩ y1).setCell ⟨b, 2, none⟩ y2).setCell ⟨b, 3, none⟩ y3).setCell ⟨b, 4, none⟩ y4).setCell ⟨b, 5, none⟩ y5).heap[b]? = some (.cells #[y0, y1, y2, y3, y4, y5, x6, x7, x8] t (0, 0)) := (Joins.block_setCell h5 _).trans rfl
  have h7 : (((((((w.setCell ⟨b, 0, none⟩ y0).setCell ⟨b, 1, none⟩ y1).setCell ⟨b, 2, none⟩ y2).setCell ⟨b, 3, none⟩ y3).setCell ⟨b, 4, none⟩ y4).setCell ⟨b, 5, none⟩ y5).setCell ⟨b, 6, none⟩ y6).heap[b]? = some (.cells #[y0, y1, y2, y3, y4, y5, y6, x7, x8] t (0, 0)) := (Joins.block_setCell h6 _).trans rfl
  have h8 : ((((((((w.setCell ⟨b, 0, none⟩ y0).setCell ⟨b, 1, none⟩ y1).setCell ⟨b, 2, none⟩ y2).setCell ⟨b, 3, none⟩ y3).setCell ⟨b, 4, none⟩ y4).setCell ⟨b, 5, none⟩ y5).setCell ⟨b, 6, none⟩ y6).setCell ⟨b, 7, none⟩ y7).heap[b]? = some (.cells #[y0, y1, y2, y3, y4, y5, y6, y7, x8] t (0, 0)) := (Joins.block_setCell h7 _).trans rfl
  have h9 : (((((((((w.setCell ⟨b, 0, none⟩ y0).setCell ⟨b, 1, none⟩ y1).setCell ⟨b, 2, none⟩ y2).setCell ⟨b, 3, none⟩ y3).setCell ⟨b, 4, none⟩ y4).setCell ⟨b, 5, none⟩ y5).setCell ⟨b, 6, none⟩ y6).setCell ⟨b, 7, none⟩ y7).setCell ⟨b, 8, none⟩ y8).heap[b]? = some (.cells #[y0, y1, y2, y3, y4, y5, y6, y7, y8] t (0, 0)) := (Joins.block_setCell h8 _).trans rfl
  exact h9
theorem door_msg_panic (ads : List Addr) (p q : Addr) (old : Value) (k : Nat) (hk : k < ads.length) (older : List PanicEntry) (w : World) (V : St ads w)
    (hp : w.cell? p = some (.bool true)) (hq : w.cell? q = some old) (hz : w.frozen? q = false) :
    CallsD Tryd.prog 59 #[.pointer (some p), .pointer (some q)] (.panicking ({ v := snt ads[k], recovered := false } :: older)) w fun e u' w' =>
      e = .returned (.tuple #[]) ∧ u' = .panicking ({ v := snt ads[k], recovered := true } :: older) ∧ ∃ w1, Kp w w1 ∧ w' = w1.setCell q (snt ads[k]) := by
  have hqb := old_of_cell hq
  have hn := errorOf_any ads w V k hk
  obtain ⟨a, ha⟩ : ∃ a, ads[k] = a := ⟨_, rfl⟩
  rw [ha] at hn ⊢
  clear ha V
  refine callsD_of_wpS Tryd.func59 rfl fun c₀ cs hu => ?_
  apply wpS_seq
  apply wpS_region
  simp [wpOpsS, go_sem, recoverD, hu, Tryd.ntmps59, Exit.thenS]
  refine wpS_of_wp ?_
  change Code.wp _ _ _ { tmps := #[.pointer (some p), .pointer (some q), snt a, snt a, undef, undef, undef], defers := [] } _
  have HN := Lib.hid hn
  have HU := Lib.hid hu
  clear hn hu
  go_wp2_with (go_at_call 48; (with_reducible refine HN.out.mono ?_); rintro e w1 ⟨rfl, hw⟩; have hq1 : w1.cell? q = some old := (by rw [Below.cell hw hqb]; exact hq); have hz1 : w1.frozen? q = false := (by rw [Below.frozen hw hqb]; exact hz))
  exact ⟨rfl, _, rfl, _, results_none rfl _ _ _, rfl, rfl, w1, hw, rfl⟩

theorem door_msg_idle (p q : Addr) (w : World) (hp : w.cell? p = some (.bool false)) :
    CallsD Tryd.prog 59 #[.pointer (some p), .pointer (some q)] .returning w fun e u' w' => e = .returned (.tuple #[]) ∧ u' = .returning ∧ w' = w := by
  refine callsD_of_wpS Tryd.func59 rfl fun c₀ cs hu => ?_
  apply wpS_seq
  apply wpS_region
  simp [wpOpsS, go_sem, recoverD, hu, Tryd.ntmps59, Exit.thenS]
  refine wpS_of_wp ?_
  change Code.wp _ _ _ { tmps := #[.pointer (some p), .pointer (some q), .nilIface, .nilIface, undef, undef, undef], defers := [] } _
  go_wp2
  cases c₀
  simp only at hu
  subst hu
  exact ⟨rfl, _, rfl, _, results_none rfl _ _ _, rfl, rfl, rfl⟩



set_option maxRecDepth 100000 in
theorem try_msg_ret (f : FuncId) (caps : Array Value) (x0 x1 x2 x3 x4 x5 x6 x7 x8 : Int) (w : World) (G : World → World → Prop) (hf : ∀ w, (callFunc f caps).run Tryd.prog w = .ok (.enter f caps) w)
    (H : ∀ w1, Below w.heap.size w w1 → w1.heap.size = w.heap.size + 3 → Calls Tryd.prog f caps w1 fun e w2 => e = .returned (.agg #[.int .i64 x0, .int .i64 x1, .int .i64 x2, .int .i64 x3, .int .i64 x4, .int .i64 x5, .int .i64 x6, .int .i64 x7, .int .i64 x8]) ∧ Past w.heap.size w1 w2 ∧ G w1 w2) :
    Calls Tryd.prog 37 #[.func (.func f) #[] caps] w fun e w' => e = .returned (.tuple #[.agg #[.int .i64 x0, .int .i64 x1, .int .i64 x2, .int .i64 x3, .int .i64 x4, .int .i64 x5, .int .i64 x6, .int .i64 x7, .int .i64 x8], .nilIface]) ∧ ∃ w1 w2, Below w.heap.size w w1 ∧ w1.heap.size = w.heap.size + 3 ∧ G w1 w2 ∧ Below w.heap.size w2 w' := by
  have hmf : ∀ (fn : Fn) (first cap : Array Value) (w : World), (Instr.makeFunc fn first cap).run Tryd.prog w = .ok (.func fn first cap) w := fun _ _ _ _ => rfl
  have hA : (((w.alloc (.cells #[.int .i64 0, .int .i64 0, .int .i64 0, .int .i64 0, .int .i64 0, .int .i64 0, .int .i64 0, .int .i64 0, .int .i64 0] 25)).alloc (.cells #[.nilIface] 29)).alloc (.cells #[.bool true] 4)).heap[w.heap.size]? = some (.cells #[.int .i64 0, .int .i64 0, .int .i64 0, .int .i64 0, .int .i64 0, .int .i64 0, .int .i64 0, .int .i64 0, .int .i64 0] 25) := by
    rw [Below.heap_alloc _ _ _ (by simp; omega), Below.heap_alloc _ _ _ (by simp)]
    exact (MapKept.heap_alloc w _).1
  have hN : (((w.alloc (.cells #[.int .i64 0, .int .i64 0, .int .i64 0, .int .i64 0, .int .i64 0, .int .i64 0, .int .i64 0, .int .i64 0, .int .i64 0] 25)).alloc (.cells #[.nilIface] 29)).alloc (.cells #[.bool true] 4)).heap[w.heap.size + 1]? = some (.cells #[.nilIface] 29) := by
    have := try_new0 (w.alloc (.cells #[.int .i64 0, .int .i64 0, .int .i64 0, .int .i64 0, .int .i64 0, .int .i64 0, .int .i64 0, .int .i64 0, .int .i64 0] 25)) (.cells #[.nilIface] 29) (.cells #[.bool true] 4)
    rwa [show (w.alloc (.cells #[.int .i64 0, .int .i64 0, .int .i64 0, .int .i64 0, .int .i64 0, .int .i64 0, .int .i64 0, .int .i64 0, .int .i64 0] 25)).heap.size = w.heap.size + 1 by simp] at this
  have hM : (((w.alloc (.cells #[.int .i64 0, .int .i64 0, .int .i64 0, .int .i64 0, .int .i64 0, .int .i64 0, .int .i64 0, .int .i64 0, .int .i64 0] 25)).alloc (.cells #[.nilIface] 29)).alloc (.cells #[.bool true] 4)).heap[w.heap.size + 1 + 1]? = some (.cells #[.bool true] 4) := by
    have := try_new1 (w.alloc (.cells #[.int .i64 0, .int .i64 0, .int .i64 0, .int .i64 0, .int .i64 0, .int .i64 0, .int .i64 0, .int .i64 0, .int .i64 0] 25)) (.cells #[.nilIface] 29) (.cells #[.bool true] 4)
    rwa [show (w.alloc (.cells #[.int .i64 0, .int .i64 0, .int .i64 0, .int .i64 0, .int .i64 0, .int .i64 0, .int .i64 0, .int .i64 0, .int .i64 0] 25)).heap.size + 1 = w.heap.size + 1 + 1 by simp] at this
  have hB : Below w.heap.size w (((w.alloc (.cells #[.int .i64 0, .int .i64 0, .int .i64 0, .int .i64 0, .int .i64 0, .int .i64 0, .int .i64 0, .int .i64 0, .int .i64 0] 25)).alloc (.cells #[.nilIface] 29)).alloc (.cells #[.bool true] 4)) := (((Below.refl _ _).alloc (Nat.le_refl _) _).alloc (by simp) _).alloc (by have h1 := Below.size (kp_alloc w (.cells #[.int .i64 0, .int .i64 0, .int .i64 0, .int .i64 0, .int .i64 0, .int .i64 0, .int .i64 0, .int .i64 0, .int .i64 0] 25)); have h2 := Below.size (kp_alloc (w.alloc (.cells #[.int .i64 0, .int .i64 0, .int .i64 0, .int .i64 0, .int .i64 0, .int .i64 0, .int .i64 0, .int .i64 0, .int .i64 0] 25)) (.cells #[.nilIface] 29)); omega) _
  have hS : (((w.alloc (.cells #[.int .i64 0, .int .i64 0, .int .i64 0, .int .i64 0, .int .i64 0, .int .i64 0, .int .i64 0, .int .i64 0, .int .i64 0] 25)).alloc (.cells #[.nilIface] 29)).alloc (.cells #[.bool true] 4)).heap.size = w.heap.size + 3 := by simp
  have HH := Lib.hid H
  have HA := Lib.hid hA
  have HN := Lib.hid hN
  have HM := Lib.hid hM
  have HB := Lib.hid hB
  have HS := Lib.hid hS
  clear H hA hN hM hB hS
  go_enter_defers Tryd.func37, Tryd.ntmps37
  go_wp2
  with_reducible refine (HH.out _ HB.out HS.out).mono ?_
  rintro e w2 ⟨rfl, hP, hG⟩
  have eA : w2.heap[w.heap.size]? = some (.cells #[.int .i64 0, .int .i64 0, .int .i64 0, .int .i64 0, .int .i64 0, .int .i64 0, .int .i64 0, .int .i64 0, .int .i64 0] 25) := (hP.2 _ (by omega) (by rw [HS.out]; omega)).trans HA.out
  have e0 : w2.heap[w.heap.size + 1]? = some (.cells #[.nilIface] 29) := (hP.2 _ (by omega) (by rw [HS.out]; omega)).trans HN.out
  have e1 : w2.heap[w.heap.size + 1 + 1]? = some (.cells #[.bool true] 4) := (hP.2 _ (by omega) (by rw [HS.out]; omega)).trans HM.out
  have a0 : w2.cell? ⟨w.heap.size, 0, none⟩ = some (.int .i64 0) := by simp [World.cell?, eA]
  have a1 : w2.cell? ⟨w.heap.size, 1, none⟩ = some (.int .i64 0) := by simp [World.cell?, eA]
  have a2 : w2.cell? ⟨w.heap.size, 2, none⟩ = some (.int .i64 0) := by simp [World.cell?, eA]
  have a3 : w2.cell? ⟨w.heap.size, 3, none⟩ = some (.int .i64 0) := by simp [World.cell?, eA]
  have a4 : w2.cell? ⟨w.heap.size, 4, none⟩ = some (.int .i64 0) := by simp [World.cell?, eA]
  have a5 : w2.cell? ⟨w.heap.size, 5, none⟩ = some (.int .i64 0) := by simp [World.cell?, eA]
  have a6 : w2.cell? ⟨w.heap.size, 6, none⟩ = some (.int .i64 0) := by simp [World.cell?, eA]
  have a7 : w2.cell? ⟨w.heap.size, 7, none⟩ = some (.int .i64 0) := by simp [World.cell?, eA]
  have a8 : w2.cell? ⟨w.heap.size, 8, none⟩ = some (.int .i64 0) := by simp [World.cell?, eA]
  have zA : ∀ i, w2.frozen? ⟨w.heap.size, i, none⟩ = false := fun i => by simp [World.frozen?, eA]
  have c0 : w2.cell? ⟨w.heap.size + 1, 0, none⟩ = some .nilIface := by simp [World.cell?, e0]
  have c1 : w2.cell? ⟨w.heap.size + 1 + 1, 0, none⟩ = some (.bool true) := by simp [World.cell?, e1]
  have z0 : w2.frozen? ⟨w.heap.size + 1, 0, none⟩ = false := by simp [World.frozen?, e0]
  have z1 : w2.frozen? ⟨w.heap.size + 1 + 1, 0, none⟩ = false := by simp [World.frozen?, e1]
  have e0 := Lib.hid e0
  have eA := Lib.hid eA
  clear e1
  go_wp2
  refine leaves_cons (f := 59) (args := #[.pointer (some ⟨w.heap.size + 1 + 1, 0, none⟩), .pointer (some ⟨w.heap.size + 1, 0, none⟩)]) (by simp) (by simp [go_sem]) ?_
  refine (door_msg_idle _ _ _ (by simp [go_sem, c1])).mono ?_
  rintro e u' w3 ⟨rfl, rfl, hw3⟩
  have hzA : w3.heap[w.heap.size]? = some (.cells #[.int .i64 x0, .int .i64 x1, .int .i64 x2, .int .i64 x3, .int .i64 x4, .int .i64 x5, .int .i64 x6, .int .i64 x7, .int .i64 x8] 25) := by
    rw [hw3, Below.heap_setCell _ _ _ _ (by simp)]
    refine set_msg (x0 := .int .i64 x0) (x1 := .int .i64 x1) (x2 := .int .i64 x2) (x3 := .int .i64 x3) (x4 := .int .i64 x4) (x5 := .int .i64 x5) (x6 := .int .i64 x6) (x7 := .int .i64 x7) (x8 := .int .i64 x8) (.int .i64 x0) (.int .i64 x1) (.int .i64 x2) (.int .i64 x3) (.int .i64 x4) (.int .i64 x5) (.int .i64 x6) (.int .i64 x7) (.int .i64 x8) ?_
    rw [Below.heap_setCell _ _ _ _ (by simp; omega)]
    exact set_msg (.int .i64 x0) (.int .i64 x1) (.int .i64 x2) (.int .i64 x3) (.int .i64 x4) (.int .i64 x5) (.int .i64 x6) (.int .i64 x7) (.int .i64 x8) eA.out
  have hzE : w3.heap[w.heap.size + 1]? = some (.cells #[.nilIface] 29) := by
    rw [hw3]
    refine (Joins.block_setCell (cs := #[.nilIface]) (t := 29) (fr := (0, 0)) ?_ _).trans rfl
    rw [Below.heap_setCell _ _ _ _ (by simp), Below.heap_setCell _ _ _ _ (by simp), Below.heap_setCell _ _ _ _ (by simp), Below.heap_setCell _ _ _ _ (by simp), Below.heap_setCell _ _ _ _ (by simp), Below.heap_setCell _ _ _ _ (by simp), Below.heap_setCell _ _ _ _ (by simp), Below.heap_setCell _ _ _ _ (by simp), Below.heap_setCell _ _ _ _ (by simp), Below.heap_setCell _ _ _ _ (by simp), Below.heap_setCell _ _ _ _ (by simp), Below.heap_setCell _ _ _ _ (by simp), Below.heap_setCell _ _ _ _ (by simp), Below.heap_setCell _ _ _ _ (by simp), Below.heap_setCell _ _ _ _ (by simp), Below.heap_setCell _ _ _ _ (by simp), Below.heap_setCell _ _ _ _ (by simp), Below.heap_setCell _ _ _ _ (by simp), Below.heap_setCell _ _ _ _ (by simp)]
    exact e0.out
  have hk3 : Below w.heap.size w2 w3 := by
    rw [hw3]
    refine Below.setCell ?_ (by simp) _
    refine Below.setCell ?_ (by simp) _
    refine Below.setCell ?_ (by simp) _
    refine Below.setCell ?_ (by simp) _
    refine Below.setCell ?_ (by simp) _
    refine Below.setCell ?_ (by simp) _
    refine Below.setCell ?_ (by simp) _
    refine Below.setCell ?_ (by simp) _
    refine Below.setCell ?_ (by simp) _
    refine Below.setCell ?_ (by simp) _
    refine Below.setCell ?_ (by simp; omega) _
    refine Below.setCell ?_ (by simp) _
    refine Below.setCell ?_ (by simp) _
    refine Below.setCell ?_ (by simp) _
    refine Below.setCell ?_ (by simp) _
    refine Below.setCell ?_ (by simp) _
    refine Below.setCell ?_ (by simp) _
    refine Below.setCell ?_ (by simp) _
    refine Below.setCell ?_ (by simp) _
    refine Below.setCell ?_ (by simp) _
    exact Below.refl _ _
  have b0 : w3.cell? ⟨w.heap.size, 0, none⟩ = some (.int .i64 x0) := by simp [World.cell?, hzA]
  have b1 : w3.cell? ⟨w.heap.size, 1, none⟩ = some (.int .i64 x1) := by simp [World.cell?, hzA]
  have b2 : w3.cell? ⟨w.heap.size, 2, none⟩ = some (.int .i64 x2) := by simp [World.cell?, hzA]
  have b3 : w3.cell? ⟨w.heap.size, 3, none⟩ = some (.int .i64 x3) := by simp [World.cell?, hzA]
  have b4 : w3.cell? ⟨w.heap.size, 4, none⟩ = some (.int .i64 x4) := by simp [World.cell?, hzA]
  have b5 : w3.cell? ⟨w.heap.size, 5, none⟩ = some (.int .i64 x5) := by simp [World.cell?, hzA]
  have b6 : w3.cell? ⟨w.heap.size, 6, none⟩ = some (.int .i64 x6) := by simp [World.cell?, hzA]
  have b7 : w3.cell? ⟨w.heap.size, 7, none⟩ = some (.int .i64 x7) := by simp [World.cell?, hzA]
  have b8 : w3.cell? ⟨w.heap.size, 8, none⟩ = some (.int .i64 x8) := by simp [World.cell?, hzA]
  have bE : w3.cell? ⟨w.heap.size + 1, 0, none⟩ = some .nilIface := by simp [World.cell?, hzE]
  clear hw3
  simp [Leaves, settle, results, Tryd.results37, go_sem, b0, b1, b2, b3, b4, b5, b6, b7, b8, bE]
  exact ⟨_, HB.out, HS.out, _, hG, hk3⟩

set_option maxRecDepth 100000 in
theorem try_msg_panic (ads : List Addr) (k : Nat) (hk : k < ads.length) (f : FuncId) (caps : Array Value) (w : World) (G : World → World → Prop) (hf : ∀ w, (callFunc f caps).run Tryd.prog w = .ok (.enter f caps) w)
    (H : ∀ w1, Below w.heap.size w w1 → w1.heap.size = w.heap.size + 3 → Calls Tryd.prog f caps w1 fun e w2 => e = .panicked [{ v := snt ads[k], recovered := false }] ∧ St ads w2 ∧ Past w.heap.size w1 w2 ∧ G w1 w2) :
    Calls Tryd.prog 37 #[.func (.func f) #[] caps] w fun e w' => e = .returned (.tuple #[.agg #[.int .i64 0, .int .i64 0, .int .i64 0, .int .i64 0, .int .i64 0, .int .i64 0, .int .i64 0, .int .i64 0, .int .i64 0], snt ads[k]]) ∧ ∃ w1 w2, Below w.heap.size w w1 ∧ w1.heap.size = w.heap.size + 3 ∧ G w1 w2 ∧ Below w.heap.size w2 w' := by
  have hmf : ∀ (fn : Fn) (first cap : Array Value) (w : World), (Instr.makeFunc fn first cap).run Tryd.prog w = .ok (.func fn first cap) w := fun _ _ _ _ => rfl
  have hA : (((w.alloc (.cells #[.int .i64 0, .int .i64 0, .int .i64 0, .int .i64 0, .int .i64 0, .int .i64 0, .int .i64 0, .int .i64 0, .int .i64 0] 25)).alloc (.cells #[.nilIface] 29)).alloc (.cells #[.bool true] 4)).heap[w.heap.size]? = some (.cells #[.int .i64 0, .int .i64 0, .int .i64 0, .int .i64 0, .int .i64 0, .int .i64 0, .int .i64 0, .int .i64 0, .int .i64 0] 25) := by
    rw [Below.heap_alloc _ _ _ (by simp; omega), Below.heap_alloc _ _ _ (by simp)]
    exact (MapKept.heap_alloc w _).1
  have hN : (((w.alloc (.cells #[.int .i64 0, .int .i64 0, .int .i64 0, .int .i64 0, .int .i64 0, .int .i64 0, .int .i64 0, .int .i64 0, .int .i64 0] 25)).alloc (.cells #[.nilIface] 29)).alloc (.cells #[.bool true] 4)).heap[w.heap.size + 1]? = some (.cells #[.nilIface] 29) := by
    have := try_new0 (w.alloc (.cells #[.int .i64 0, .int .i64 0, .int .i64 0, .int .i64 0, .int .i64 0, .int .i64 0, .int .i64 0, .int .i64 0, .int .i64 0] 25)) (.cells #[.nilIface] 29) (.cells #[.bool true] 4)
    rwa [show (w.alloc (.cells #[.int .i64 0, .int .i64 0, .int .i64 0, .int .i64 0, .int .i64 0, .int .i64 0, .int .i64 0, .int .i64 0, .int .i64 0] 25)).heap.size = w.heap.size + 1 by simp] at this
  have hM : (((w.alloc (.cells #[.int .i64 0, .int .i64 0, .int .i64 0, .int .i64 0, .int .i64 0, .int .i64 0, .int .i64 0, .int .i64 0, .int .i64 0] 25)).alloc (.cells #[.nilIface] 29)).alloc (.cells #[.bool true] 4)).heap[w.heap.size + 1 + 1]? = some (.cells #[.bool true] 4) := by
    have := try_new1 (w.alloc (.cells #[.int .i64 0, .int .i64 0, .int .i64 0, .int .i64 0, .int .i64 0, .int .i64 0, .int .i64 0, .int .i64 0, .int .i64 0] 25)) (.cells #[.nilIface] 29) (.cells #[.bool true] 4)
    rwa [show (w.alloc (.cells #[.int .i64 0, .int .i64 0, .int .i64 0, .int .i64 0, .int .i64 0, .int .i64 0, .int .i64 0, .int .i64 0, .int .i64 0] 25)).heap.size + 1 = w.heap.size + 1 + 1 by simp] at this
  have hB : Below w.heap.size w (((w.alloc (.cells #[.int .i64 0, .int .i64 0, .int .i64 0, .int .i64 0, .int .i64 0, .int .i64 0, .int .i64 0, .int .i64 0, .int .i64 0] 25)).alloc (.cells #[.nilIface] 29)).alloc (.cells #[.bool true] 4)) := (((Below.refl _ _).alloc (Nat.le_refl _) _).alloc (by simp) _).alloc (by have h1 := Below.size (kp_alloc w (.cells #[.int .i64 0, .int .i64 0, .int .i64 0, .int .i64 0, .int .i64 0, .int .i64 0, .int .i64 0, .int .i64 0, .int .i64 0] 25)); have h2 := Below.size (kp_alloc (w.alloc (.cells #[.int .i64 0, .int .i64 0, .int .i64 0, .int .i64 0, .int .i64 0, .int .i64 0, .int .i64 0, .int .i64 0, .int .i64 0] 25)) (.cells #[.nilIface] 29)); omega) _
  have hS : (((w.alloc (.cells #[.int .i64 0, .int .i64 0, .int .i64 0, .int .i64 0, .int .i64 0, .int .i64 0, .int .i64 0, .int .i64 0, .int .i64 0] 25)).alloc (.cells #[.nilIface] 29)).alloc (.cells #[.bool true] 4)).heap.size = w.heap.size + 3 := by simp
  have HH := Lib.hid H
  have HA := Lib.hid hA
  have HN := Lib.hid hN
  have HM := Lib.hid hM
  have HB := Lib.hid hB
  have HS := Lib.hid hS
  clear H hA hN hM hB hS
  go_enter_defers Tryd.func37, Tryd.ntmps37
  go_wp2
  with_reducible refine (HH.out _ HB.out HS.out).mono ?_
  rintro e w2 ⟨rfl, hV, hP, hG⟩
  have eA : w2.heap[w.heap.size]? = some (.cells #[.int .i64 0, .int .i64 0, .int .i64 0, .int .i64 0, .int .i64 0, .int .i64 0, .int .i64 0, .int .i64 0, .int .i64 0] 25) := (hP.2 _ (by omega) (by rw [HS.out]; omega)).trans HA.out
  have e0 : w2.heap[w.heap.size + 1]? = some (.cells #[.nilIface] 29) := (hP.2 _ (by omega) (by rw [HS.out]; omega)).trans HN.out
  have e1 : w2.heap[w.heap.size + 1 + 1]? = some (.cells #[.bool true] 4) := (hP.2 _ (by omega) (by rw [HS.out]; omega)).trans HM.out
  have a0 : w2.cell? ⟨w.heap.size, 0, none⟩ = some (.int .i64 0) := by simp [World.cell?, eA]
  have a1 : w2.cell? ⟨w.heap.size, 1, none⟩ = some (.int .i64 0) := by simp [World.cell?, eA]
  have a2 : w2.cell? ⟨w.heap.size, 2, none⟩ = some (.int .i64 0) := by simp [World.cell?, eA]
  have a3 : w2.cell? ⟨w.heap.size, 3, none⟩ = some (.int .i64 0) := by simp [World.cell?, eA]
  have a4 : w2.cell? ⟨w.heap.size, 4, none⟩ = some (.int .i64 0) := by simp [World.cell?, eA]
  have a5 : w2.cell? ⟨w.heap.size, 5, none⟩ = some (.int .i64 0) := by simp [World.cell?, eA]
  have a6 : w2.cell? ⟨w.heap.size, 6, none⟩ = some (.int .i64 0) := by simp [World.cell?, eA]
  have a7 : w2.cell? ⟨w.heap.size, 7, none⟩ = some (.int .i64 0) := by simp [World.cell?, eA]
  have a8 : w2.cell? ⟨w.heap.size, 8, none⟩ = some (.int .i64 0) := by simp [World.cell?, eA]
  have zA : ∀ i, w2.frozen? ⟨w.heap.size, i, none⟩ = false := fun i => by simp [World.frozen?, eA]
  have c0 : w2.cell? ⟨w.heap.size + 1, 0, none⟩ = some .nilIface := by simp [World.cell?, e0]
  have c1 : w2.cell? ⟨w.heap.size + 1 + 1, 0, none⟩ = some (.bool true) := by simp [World.cell?, e1]
  have z0 : w2.frozen? ⟨w.heap.size + 1, 0, none⟩ = false := by simp [World.frozen?, e0]
  have hd := door_msg_panic ads ⟨w.heap.size + 1 + 1, 0, none⟩ ⟨w.heap.size + 1, 0, none⟩ .nilIface k hk [] w2 hV c1 c0 z0
  have hltA : w.heap.size < w2.heap.size := old_of_row eA
  have hlt : w.heap.size + 1 < w2.heap.size := old_of_cell c0
  clear e0 e1
  refine leaves_cons (f := 59) (args := #[.pointer (some ⟨w.heap.size + 1 + 1, 0, none⟩), .pointer (some ⟨w.heap.size + 1, 0, none⟩)]) (by simp) (by simp [go_sem]) ?_
  refine hd.mono ?_
  rintro e u' w3 ⟨rfl, rfl, w4, hw4, rfl⟩
  have c4 : w4.cell? ⟨w.heap.size + 1, 0, none⟩ = some .nilIface := by rw [Below.cell hw4 hlt]; exact c0
  have eA4 : w4.heap[w.heap.size]? = some (.cells #[.int .i64 0, .int .i64 0, .int .i64 0, .int .i64 0, .int .i64 0, .int .i64 0, .int .i64 0, .int .i64 0, .int .i64 0] 25) := by rw [Below.block hw4 _ hltA]; exact eA
  have b0 : w4.cell? ⟨w.heap.size, 0, none⟩ = some (.int .i64 0) := by simp [World.cell?, eA4]
  have b1 : w4.cell? ⟨w.heap.size, 1, none⟩ = some (.int .i64 0) := by simp [World.cell?, eA4]
  have b2 : w4.cell? ⟨w.heap.size, 2, none⟩ = some (.int .i64 0) := by simp [World.cell?, eA4]
  have b3 : w4.cell? ⟨w.heap.size, 3, none⟩ = some (.int .i64 0) := by simp [World.cell?, eA4]
  have b4 : w4.cell? ⟨w.heap.size, 4, none⟩ = some (.int .i64 0) := by simp [World.cell?, eA4]
  have b5 : w4.cell? ⟨w.heap.size, 5, none⟩ = some (.int .i64 0) := by simp [World.cell?, eA4]
  have b6 : w4.cell? ⟨w.heap.size, 6, none⟩ = some (.int .i64 0) := by simp [World.cell?, eA4]
  have b7 : w4.cell? ⟨w.heap.size, 7, none⟩ = some (.int .i64 0) := by simp [World.cell?, eA4]
  have b8 : w4.cell? ⟨w.heap.size, 8, none⟩ = some (.int .i64 0) := by simp [World.cell?, eA4]
  have c5 : (w4.setCell ⟨w.heap.size + 1, 0, none⟩ (snt ads[k])).cell? ⟨w.heap.size + 1, 0, none⟩ = some (snt ads[k]) := by simp [go_sem, c4]
  have d0 : (w4.setCell ⟨w.heap.size + 1, 0, none⟩ (snt ads[k])).cell? ⟨w.heap.size, 0, none⟩ = some (.int .i64 0) := by simp [go_sem, b0]
  have d1 : (w4.setCell ⟨w.heap.size + 1, 0, none⟩ (snt ads[k])).cell? ⟨w.heap.size, 1, none⟩ = some (.int .i64 0) := by simp [go_sem, b1]
  have d2 : (w4.setCell ⟨w.heap.size + 1, 0, none⟩ (snt ads[k])).cell? ⟨w.heap.size, 2, none⟩ = some (.int .i64 0) := by simp [go_sem, b2]
  have d3 : (w4.setCell ⟨w.heap.size + 1, 0, none⟩ (snt ads[k])).cell? ⟨w.heap.size, 3, none⟩ = some (.int .i64 0) := by simp [go_sem, b3]
  have d4 : (w4.setCell ⟨w.heap.size + 1, 0, none⟩ (snt ads[k])).cell? ⟨w.heap.size, 4, none⟩ = some (.int .i64 0) := by simp [go_sem, b4]
  have d5 : (w4.setCell ⟨w.heap.size + 1, 0, none⟩ (snt ads[k])).cell? ⟨w.heap.size, 5, none⟩ = some (.int .i64 0) := by simp [go_sem, b5]
  have d6 : (w4.setCell ⟨w.heap.size + 1, 0, none⟩ (snt ads[k])).cell? ⟨w.heap.size, 6, none⟩ = some (.int .i64 0) := by simp [go_sem, b6]
  have d7 : (w4.setCell ⟨w.heap.size + 1, 0, none⟩ (snt ads[k])).cell? ⟨w.heap.size, 7, none⟩ = some (.int .i64 0) := by simp [go_sem, b7]
  have d8 : (w4.setCell ⟨w.heap.size + 1, 0, none⟩ (snt ads[k])).cell? ⟨w.heap.size, 8, none⟩ = some (.int .i64 0) := by simp [go_sem, b8]
  have hk5 : Below w.heap.size w2 (w4.setCell ⟨w.heap.size + 1, 0, none⟩ (snt ads[k])) := (Below.mono hw4 (by omega)).setCell (show w.heap.size ≤ w.heap.size + 1 by omega) _
  obtain ⟨w5, hw5⟩ : ∃ w5, w4.setCell ⟨w.heap.size + 1, 0, none⟩ (snt ads[k]) = w5 := ⟨_, rfl⟩
  rw [hw5] at c5 d0 d1 d2 d3 d4 d5 d6 d7 d8 hk5 ⊢
  simp [Leaves, settle, results, Tryd.results37, go_sem, c5, d0, d1, d2, d3, d4, d5, d6, d7, d8]
  exact ⟨_, HB.out, HS.out, _, hG, hk5⟩

/-- what is done turns no old memory -/
theorem try_msg_val (f : FuncId) (caps : Array Value) (x0 x1 x2 x3 x4 x5 x6 x7 x8 : Int) (w : World) (hf : ∀ w, (callFunc f caps).run Tryd.prog w = .ok (.enter f caps) w)
    (H : ∀ w1, Kp w w1 → Calls Tryd.prog f caps w1 fun e w2 => e = .returned (.agg #[.int .i64 x0, .int .i64 x1, .int .i64 x2, .int .i64 x3, .int .i64 x4, .int .i64 x5, .int .i64 x6, .int .i64 x7, .int .i64 x8]) ∧ Kp w1 w2) :
    Calls Tryd.prog 37 #[.func (.func f) #[] caps] w fun e w' => e = .returned (.tuple #[.agg #[.int .i64 x0, .int .i64 x1, .int .i64 x2, .int .i64 x3, .int .i64 x4, .int .i64 x5, .int .i64 x6, .int .i64 x7, .int .i64 x8], .nilIface]) ∧ Kp w w' := by
  refine (try_msg_ret f caps x0 x1 x2 x3 x4 x5 x6 x7 x8 w (fun w1 w2 => Kp w1 w2) hf fun w1 hb _ => ?_).mono ?_
  · refine (H w1 hb).mono ?_
    rintro e w2 ⟨rfl, hk⟩
    exact ⟨rfl, past_of hk, hk⟩
  · rintro e w' ⟨rfl, w1, w2, hb, _, hk, hb2⟩
    exact ⟨rfl, Below.trans (Kp.trans hb hk) hb2⟩
theorem try_msg_err (ads : List Addr) (k : Nat) (hk : k < ads.length) (f : FuncId) (caps : Array Value) (w : World) (V : St ads w) (hf : ∀ w, (callFunc f caps).run Tryd.prog w = .ok (.enter f caps) w)
    (H : ∀ w1, Kp w w1 → Calls Tryd.prog f caps w1 fun e w2 => e = .panicked [{ v := snt ads[k], recovered := false }] ∧ Kp w1 w2) :
    Calls Tryd.prog 37 #[.func (.func f) #[] caps] w fun e w' => e = .returned (.tuple #[.agg #[.int .i64 0, .int .i64 0, .int .i64 0, .int .i64 0, .int .i64 0, .int .i64 0, .int .i64 0, .int .i64 0, .int .i64 0], snt ads[k]]) ∧ Kp w w' := by
  refine (try_msg_panic ads k hk f caps w (fun w1 w2 => Kp w1 w2) hf fun w1 hb _ => ?_).mono ?_
  · refine (H w1 hb).mono ?_
    rintro e w2 ⟨rfl, hk2⟩
    exact ⟨rfl, V.below (Kp.trans hb hk2), past_of hk2, hk2⟩
  · rintro e w' ⟨rfl, w1, w2, hb, _, hk2, hb2⟩
    exact ⟨rfl, Below.trans (Kp.trans hb hk2) hb2⟩
end Go.Proofs.YtfginhckeogafaaDoor

namespace Go.Proofs.YtfginhckeogafaaDoor
open Go.RowKit Go.ChangeShapes Go.WideShapes

/-- A panic of the text's own, with an error. -/
theorem run_panic_some {P : Program} (t : TypeId) (v : Value) (w : World) : (Instr.panic (.iface t v)).run P w = .halt (.panic (.iface t v)) w := rfl

theorem demand_t (v : Value) (w : World) : Calls Tryd.prog 51 #[.bool true, v] w fun e w' => e = .returned (.tuple #[]) ∧ w = w' := by
  go_enter Tryd.func51, Tryd.ntmps51
  go_wp2
  go_end0
  exact ⟨rfl, rfl⟩

theorem demand_f (a : Addr) (w : World) : Calls Tryd.prog 51 #[.bool false, snt a] w fun e w' => e = .panicked [{ v := snt a, recovered := false }] ∧ w = w' := by
  have hpn := run_panic_some (P := Tryd.prog) 134 (.pointer (some a)) w
  go_enter Tryd.func51, Tryd.ntmps51
  go_wp2
  exact ⟨rfl, rfl, rfl⟩

theorem or8 {u c : Int} (hu : 0 ≤ u ∧ u < 72057594037927936) (hc : 0 ≤ c ∧ c < 256) : bits .or .u64 (u * 256) c = 256 * u + c := by
  obtain ⟨x, rfl⟩ : ∃ x : Nat, u = x := ⟨u.toNat, by omega⟩
  obtain ⟨y, rfl⟩ : ∃ y : Nat, c = y := ⟨c.toNat, by omega⟩
  have e : ((x : Int) * 256) = ((256 * x : Nat) : Int) := by omega
  rw [e, bits_or_u64_nat _ _ (by omega) (by omega)]
  have := Nat.two_pow_add_eq_or_of_lt (i := 8) (show y < 2 ^ 8 by omega) x
  rw [show (2 : Nat) ^ 8 = 256 from rfl] at this
  rw [← this]
  omega

set_option maxRecDepth 100000 in
theorem value_any (a : Option Addr) (cap : Nat) (bs : List Int) (len : Nat) (hlen : bs.length = len) (hl : len ≤ 8) (hb : InB bs) (w : World) (hs : SlB (.slice a len cap) bs w) :
    Calls Tryd.prog 63 #[.slice a len cap] w fun e w' => e = .returned (.int .u64 (beNum bs)) ∧ w = w' := by
  have hel : ∀ j (hj : j < bs.length), ∃ b off, a = some ⟨b, off, none⟩ ∧ w.cell? ⟨b, off + j, none⟩ = some (.int .u8 (bs.getD j 0)) := fun j hj => hs.at j hj
  have hr := beNum_range hb
  have hn := fun j (h : j < bs.length) => beNum_next h
  have HEL := Lib.hid hel
  have HR := Lib.hid hr
  have HNX := Lib.hid hn
  have HB := Lib.hid hb
  have HL := Lib.hid hlen
  clear hel hs hr hn hb hlen
  go_enter Tryd.func63, Tryd.ntmps63
  go_wp2
  go_loop [3, 8] (fun u i => ∃ j : Nat, j ≤ len ∧ i = .int .i64 j ∧ u = .int .u64 (beNum (bs.take j))) (fun _ i => len - (intOf i).toNat)
  case atStart => exact ⟨0, Nat.zero_le _, rfl, rfl⟩
  case round =>
    obtain ⟨j, hj, rfl, rfl⟩ := hrel
    obtain ⟨jj, hjj⟩ : ∃ jj : Int, (j : Int) = jj := ⟨_, rfl⟩
    obtain ⟨uu, huu⟩ : ∃ uu, beNum (bs.take j) = uu := ⟨_, rfl⟩
    rw [hjj, huu]
    have hl' := HL.out
    by_cases hlt : j < len
    · have hjl : j < bs.length := by omega
      obtain ⟨b2, off2, rfl, hc2⟩ := HEL.out j hjl
      have hnx := HNX.out j hjl
      have hbb := HB.out bs[j] (List.getElem_mem _)
      have hru := HR.out j (by omega)
      obtain ⟨y, hy⟩ : ∃ y, bs[j] = y := ⟨_, rfl⟩
      have hy2 : bs.getD j 0 = y := by simp [List.getD, hjl, hy]
      rw [hy2] at hc2
      rw [hy] at hnx hbb
      rw [huu] at hnx hru
      have hp7 : (256 : Int) ^ j ≤ 256 ^ 7 := p256_le (by omega)
      have e7 : (256 : Int) ^ 7 = 72057594037927936 := by decide
      have hub : 0 ≤ uu ∧ uu < 72057594037927936 := by omega
      have ej : jj.toNat = j := by omega
      rw [← ej] at hc2
      have hj0 : 0 ≤ jj := by omega
      have hltj : jj < len := by omega
      have hor := or8 hub hbb
      have HJ := Lib.hid hjj
      have HNXT := Lib.hid hnx
      clear hjj huu hnx hru hp7 e7 hy hy2 ej hlt hjl hl'
      go_wp2
      have hjj := HJ.out
      go_round
      case rel =>
        refine ⟨j + 1, by omega, by congr 1; omega, ?_⟩
        rw [HNXT.out]
      case measure => simp [intOf]; omega
    · obtain rfl : j = len := by omega
      have hex : ¬ jj < j := by omega
      have hful : bs.take j = bs := by rw [List.take_of_length_le]; omega
      rw [hful] at huu
      subst huu
      clear hjj hful hl'
      go_wp2
      go_ret
      exact ⟨rfl, rfl⟩

set_option maxRecDepth 20000 in
theorem clone_nil (w : World) : Calls Tryd.prog 64 #[.slice none 0 0] w fun e w' => e = .returned (.slice none 0 0) ∧ w = w' := by
  have hq : (binOp .eql 27 (.slice none 0 0) (.slice none 0 0)).run Tryd.prog w = .ok (.bool true) w := by
    rw [run_eql_nil_slice w 27 5 none 0 0 0 0 Tryd.underlying27]; rfl
  go_enter Tryd.func64, Tryd.ntmps64
  go_wp2
  go_ret
  exact ⟨rfl, rfl⟩

set_option maxRecDepth 20000 in
theorem clone_any (v : Value) (bs : List Int) (hl : bs.length ≤ 1000000) (w : World) (hs : SlB v bs w) :
    Calls Tryd.prog 64 #[v] w fun e w' => ∃ v', e = .returned v' ∧ w'.ownsRow w.heap.size 5 1 v' bs.length (bs.map (Value.int .u8)) ∧ Kp w w' := by
  obtain ⟨a, cap, rfl⟩ := hs.form
  cases a with
  | none =>
    obtain ⟨h0, rfl⟩ := hs.app.1 rfl
    have hbs : bs = [] := List.length_eq_zero_iff.1 h0
    subst hbs
    refine (clone_nil w).mono ?_
    rintro e w' ⟨rfl, rfl⟩
    exact ⟨_, rfl, ⟨by simp, .inl ⟨rfl, rfl⟩⟩, Kp.refl _⟩
  | some ad =>
    obtain ⟨len, hlen⟩ : ∃ n, bs.length = n := ⟨_, rfl⟩
    rw [hlen] at hs hl ⊢
    have OW0 := Lib.hid (own_empty w 5)
    have HS0 := Lib.hid (hs.kp (kp_alloc w (.cells #[] 5)))
    have K0 := Lib.hid (kp_alloc w (.cells #[] 5))
    have hq : (binOp .eql 27 (.slice (some ad) len cap) (.slice none 0 0)).run Tryd.prog w = .ok (.bool false) w := by
      rw [Lib.run_eql_slice_nil w 27 5 (some ad) len cap 0 0 Tryd.underlying27]; rfl
    clear hs
    go_enter Tryd.func64, Tryd.ntmps64
    go_wp2_with (at_builtin; refine wpList_append_slb _ rfl (.tmp 5) (.tmp 6) rfl w.heap.size _ _ _ rfl OW0.out (some ad) len cap bs rfl HS0.out ?d1 ?d2 ?_)
    case d1 => omega
    case d2 => exact Below.size K0.out
    rintro v5 w5 hown5 hgr5 -
    have kp5 : Kp w w5 := row_kp OW0.out hgr5 K0.out
    have HO := Lib.hid hown5
    have HK := Lib.hid kp5
    clear hown5 hgr5 kp5
    go_wp2
    go_ret
    refine ⟨_, rfl, ?_, HK.out⟩
    simpa using HO.out
end Go.Proofs.YtfginhckeogafaaDoor

namespace Go.Proofs.YtfginhckeogafaaDoor
open Go.RowKit Go.ChangeShapes Go.WideShapes

theorem find_hit (tag : Int) : ∀ (fs : List (Int × List Int)) (j : Nat) (h : j < fs.length), (∀ i (_ : i < j) (hi' : i < fs.length), fs[i].1 ≠ tag) → fs[j].1 = tag → (fs.find? fun f => f.1 == tag) = some fs[j]
  | [], _, h, _, _ => absurd h (by simp)
  | x :: t, 0, _, _, hx => by
    have : (x.1 == tag) = true := by simpa using hx
    rw [List.find?_cons, this]
    rfl
  | x :: t, j + 1, h, hz, hx => by
    have h0 : (x.1 == tag) = false := by
      have := hz 0 (by omega) (by simp)
      simpa using this
    rw [List.find?_cons, h0]
    exact find_hit tag t j (by simpa using h) (fun i hi hi' => hz (i + 1) (by omega) (by simpa using hi')) hx
theorem find_miss (tag : Int) : ∀ (fs : List (Int × List Int)), (∀ i (hi' : i < fs.length), fs[i].1 ≠ tag) → (fs.find? fun f => f.1 == tag) = none
  | [], _ => rfl
  | x :: t, hz => by
    have h0 : (x.1 == tag) = false := by
      have := hz 0 (by simp)
      simpa using this
    rw [List.find?_cons, h0]
    exact find_miss tag t (fun i hi' => hz (i + 1) (by simpa using hi'))

/-- WHAT Find ANSWERS. -/
def FindP (fs : List (Int × List Int)) (tag : Int) (e : Ending) (w : World) : Prop :=
  match (fs.find? fun f => f.1 == tag) with
  | some f => ∃ d, e = .returned (.tuple #[d, .bool true]) ∧ DatB d f.2 w
  | none => e = .returned (.tuple #[.slice none 0 0, .bool false])

/-- IS A ROW RIGHT? -/
def rightQ : Int → List (Int × List Int) → Bool
  | _, [] => true
  | last, f :: t => decide (1 ≤ f.1 ∧ f.1 ≤ 255 ∧ f.2.length ≤ 200 ∧ last < f.1) && rightQ f.1 t

end Go.Proofs.YtfginhckeogafaaDoor

namespace Go.Proofs.YtfginhckeogafaaDoor
open Go.RowKit Go.ChangeShapes Go.WideShapes

/-- A BOX OF AN INT. -/
abbrev boxI (x : Int) : Obj := .cells #[.int .i64 x] 3 (0, 0)

set_option maxRecDepth 20000 in
theorem newRow_any (w : World) :
    Calls Tryd.prog 55 #[] w fun e w' => e = .returned (.func (.func 67) #[] #[.pointer (some ⟨w.heap.size, 0, none⟩), .pointer (some ⟨w.heap.size + 1, 0, none⟩)]) ∧ w'.heap[w.heap.size]? = some (boxI 0) ∧ w'.heap[w.heap.size + 1]? = some (boxI 0) ∧ w'.heap.size = w.heap.size + 2 ∧ Kp w w' := by
  have hmf : ∀ (fn : Fn) (first cap : Array Value) (w : World), (Instr.makeFunc fn first cap).run Tryd.prog w = .ok (.func fn first cap) w := fun _ _ _ _ => rfl
  go_enter Tryd.func55, Tryd.ntmps55
  go_wp2
  go_ret
  refine ⟨rfl, ?_, ?_, ?_, ?_⟩
  · rw [Below.heap_alloc _ _ _ (by simp)]
    exact (MapKept.heap_alloc w _).1
  · have := (MapKept.heap_alloc (w.alloc (boxI 0)) (boxI 0)).1
    simpa using this
  · simp
  · exact Kp.trans (kp_alloc _ _) (kp_alloc _ _)

/-- MAY A FIELD STAND BEHIND k FIELDS, the last one's tag being last? -/
def mayQ (k : Nat) (last tag : Int) (n : Nat) : Prop := k < 16 ∧ last < tag ∧ tag ≤ 255 ∧ n ≤ 200
instance (k : Nat) (last tag : Int) (n : Nat) : Decidable (mayQ k last tag n) := by unfold mayQ; infer_instance
def runQ : Nat → Int → List (Int × List Int) → Bool
  | _, _, [] => true
  | k, last, f :: t => decide (mayQ k last f.1 f.2.length) && runQ (k + 1) f.1 t
theorem runQ_right : ∀ (fs : List (Int × List Int)) (k : Nat) (last : Int), k ≤ 16 → 0 ≤ last → runQ k last fs = (decide (k + fs.length ≤ 16) && rightQ last fs)
  | [], k, last, hk, _ => by simp [runQ, rightQ, hk]
  | f :: t, k, last, hk, hl => by
    unfold runQ rightQ
    by_cases h : mayQ k last f.1 f.2.length
    · obtain ⟨h1, h2, h3, h4⟩ := h
      rw [decide_eq_true ⟨h1, h2, h3, h4⟩, decide_eq_true (show 1 ≤ f.1 ∧ f.1 ≤ 255 ∧ f.2.length ≤ 200 ∧ last < f.1 from ⟨by omega, h3, h4, h2⟩), Bool.true_and, Bool.true_and, runQ_right t (k + 1) f.1 (by omega) (by omega)]
      congr 2
      simp only [List.length_cons, eq_iff_iff]
      omega
    · rw [decide_eq_false h, Bool.false_and]
      by_cases h1 : k + (f :: t).length ≤ 16
      · rw [decide_eq_true h1, Bool.true_and, decide_eq_false, Bool.false_and]
        rintro ⟨g1, g2, g3, g4⟩
        simp at h1
        exact h ⟨by omega, g4, g2, g3⟩
      · rw [decide_eq_false h1, Bool.false_and]

theorem enter_t (ads : List Addr) (p q : Nat) (k : Nat) (kk last tag : Int) (n : Nat) (nn : Int) (hkk : (k : Int) = kk) (hnn : (n : Int) = nn) (w : World) (V : St ads w) (hp : w.heap[p]? = some (boxI kk)) (hq : w.heap[q]? = some (boxI last)) (hpq : p ≠ q) (hm : mayQ k last tag n) :
    Calls Tryd.prog 67 #[.int .i64 tag, .int .i64 nn, .pointer (some ⟨p, 0, none⟩), .pointer (some ⟨q, 0, none⟩)] w fun e w' => e = .returned (.tuple #[]) ∧ w' = (w.setCell ⟨p, 0, none⟩ (.int .i64 (kk + 1))).setCell ⟨q, 0, none⟩ (.int .i64 tag) := by
  have h14 : ads.length = 14 := V.len
  obtain ⟨e3, c3⟩ : ∃ e3, w.cell? ⟨0, 0, none⟩ = some (snt e3) := ⟨ads[3]'(by omega), V.cell 3 (by decide)⟩
  obtain ⟨h1, h2, h3, h4⟩ := hm
  have g1 : kk < 16 := by omega
  have g0 : 0 ≤ kk := by omega
  have g4 : nn ≤ 200 := by omega
  have cp := cell_of_one hp
  have cq := cell_of_one hq
  have zp := free_of_one hp
  have zq := free_of_one hq
  have cq' : (w.setCell ⟨p, 0, none⟩ (.int .i64 (kk + 1))).cell? ⟨q, 0, none⟩ = some (.int .i64 last) := cell_of_one (by rw [Below.heap_setCell _ _ _ _ (fun e => hpq e.symm)]; exact hq)
  have zq' : (w.setCell ⟨p, 0, none⟩ (.int .i64 (kk + 1))).frozen? ⟨q, 0, none⟩ = false := by rw [World.frozen?_setCell]; exact zq
  clear V h14
  go_enter Tryd.func67, Tryd.ntmps67
  go_wp2_with (go_at_call 51; (with_reducible refine (demand_t _ _).mono ?_); rintro e w' ⟨rfl, rfl⟩)
  go_end0
  exact ⟨rfl, rfl⟩

theorem enter_f (ads : List Addr) (h3' : 3 < ads.length) (p q : Nat) (k : Nat) (kk last tag : Int) (n : Nat) (nn : Int) (hkk : (k : Int) = kk) (hnn : (n : Int) = nn) (w : World) (V : St ads w) (hp : w.heap[p]? = some (boxI kk)) (hq : w.heap[q]? = some (boxI last)) (hm : ¬ mayQ k last tag n) :
    Calls Tryd.prog 67 #[.int .i64 tag, .int .i64 nn, .pointer (some ⟨p, 0, none⟩), .pointer (some ⟨q, 0, none⟩)] w fun e w' => e = .panicked [{ v := snt (ads[3]'h3'), recovered := false }] ∧ w = w' := by
  have c3 : w.cell? ⟨0, 0, none⟩ = some (snt (ads[3]'h3')) := V.cell 3 (by decide)
  obtain ⟨e3, he3⟩ : ∃ a, ads[3]'h3' = a := ⟨_, rfl⟩
  rw [he3] at c3 ⊢
  have cp := cell_of_one hp
  have cq := cell_of_one hq
  clear V he3
  by_cases h1 : kk < 16
  · have g1 : decide (kk < 16) = true := decide_eq_true h1
    by_cases h2 : last < tag
    · have g2 : decide (last < tag) = true := decide_eq_true h2
      by_cases h3 : tag ≤ 255
      · have g3 : decide (tag ≤ 255) = true := decide_eq_true h3
        have g4 : decide (nn ≤ 200) = false := decide_eq_false (fun h4 => hm ⟨by omega, h2, h3, by omega⟩)
        clear hm
        go_enter Tryd.func67, Tryd.ntmps67
        go_wp2_with (go_at_call 51; (with_reducible refine (demand_f _ _).mono ?_); rintro e w' ⟨rfl, rfl⟩)
        exact ⟨rfl, rfl, rfl⟩
      · have g3 : decide (tag ≤ 255) = false := decide_eq_false h3
        clear hm
        go_enter Tryd.func67, Tryd.ntmps67
        go_wp2_with (go_at_call 51; (with_reducible refine (demand_f _ _).mono ?_); rintro e w' ⟨rfl, rfl⟩)
        exact ⟨rfl, rfl, rfl⟩
    · have g2 : decide (last < tag) = false := decide_eq_false h2
      clear hm
      go_enter Tryd.func67, Tryd.ntmps67
      go_wp2_with (go_at_call 51; (with_reducible refine (demand_f _ _).mono ?_); rintro e w' ⟨rfl, rfl⟩)
      exact ⟨rfl, rfl, rfl⟩
  · have g1 : decide (kk < 16) = false := decide_eq_false h1
    clear hm
    go_enter Tryd.func67, Tryd.ntmps67
    go_wp2_with (go_at_call 51; (with_reducible refine (demand_f _ _).mono ?_); rintro e w' ⟨rfl, rfl⟩)
    exact ⟨rfl, rfl, rfl⟩
end Go.Proofs.YtfginhckeogafaaDoor

namespace Go.Proofs.YtfginhckeogafaaDoor.Fl
open Ieee

def B : Nat := 4503599627370496
def S : Nat := 9223372036854775808
def INF : Nat := 9218868437227405312

theorem sw : double.signWeight = 9223372036854775808 := by rfl
theorem bi : double.binade = 4503599627370496 := by rfl
theorem ir : double.infRung = 9218868437227405312 := by rfl
theorem lp : double.leastPlace = -1074 := by rfl

/-- is a word a NaN -/
def isNan (b : Nat) : Bool := decide (9218868437227405312 < b % 9223372036854775808)

/-- a number that rises as a float's value does (both zeros alike) -/
def key (b : Nat) : Int := if b < 9223372036854775808 then (b : Int) else -((b : Int) - 9223372036854775808)

/-- a rung's magnitude, in units of the least place -/
def val (r : Nat) : Nat := if r < 4503599627370496 then r else (4503599627370496 + r % 4503599627370496) * 2 ^ (r / 4503599627370496 - 1)

theorem val_lt {r s : Nat} (h : r < s) : val r < val s := by
  unfold val
  by_cases hs : s < 4503599627370496
  · rw [if_pos (by omega), if_pos hs]; exact h
  · rw [if_neg hs]
    have hq : 1 ≤ s / 4503599627370496 := by omega
    have p1 : 1 ≤ 2 ^ (s / 4503599627370496 - 1) := Nat.one_le_two_pow
    by_cases hr : r < 4503599627370496
    · rw [if_pos hr]
      calc r < 4503599627370496 + s % 4503599627370496 := by omega
        _ = (4503599627370496 + s % 4503599627370496) * 1 := by omega
        _ ≤ _ := Nat.mul_le_mul_left _ p1
    · rw [if_neg hr]
      by_cases he : r / 4503599627370496 = s / 4503599627370496
      · rw [he]
        exact Nat.mul_lt_mul_of_pos_right (by omega) (by omega)
      · have hlt : r / 4503599627370496 + 1 ≤ s / 4503599627370496 := by omega
        have hrq : 1 ≤ r / 4503599627370496 := by omega
        have e1 : 2 ^ (s / 4503599627370496 - 1) = 2 ^ (r / 4503599627370496 - 1) * 2 ^ (s / 4503599627370496 - r / 4503599627370496) := by
          rw [← Nat.pow_add]; congr 1; omega
        have e2 : 2 ≤ 2 ^ (s / 4503599627370496 - r / 4503599627370496) := by
          calc 2 = 2 ^ 1 := rfl
            _ ≤ _ := Nat.pow_le_pow_right (by omega) (by omega)
        rw [e1]
        have pr : 1 ≤ 2 ^ (r / 4503599627370496 - 1) := Nat.one_le_two_pow
        calc (4503599627370496 + r % 4503599627370496) * 2 ^ (r / 4503599627370496 - 1)
            < 9007199254740992 * 2 ^ (r / 4503599627370496 - 1) := Nat.mul_lt_mul_of_pos_right (by omega) (by omega)
          _ = 4503599627370496 * (2 ^ (r / 4503599627370496 - 1) * 2) := by omega
          _ ≤ 4503599627370496 * (2 ^ (r / 4503599627370496 - 1) * 2 ^ (s / 4503599627370496 - r / 4503599627370496)) := Nat.mul_le_mul_left _ (Nat.mul_le_mul_left _ e2)
          _ ≤ _ := Nat.mul_le_mul_right _ (by omega)

theorem val_le {r s : Nat} (h : r ≤ s) : val r ≤ val s := by
  rcases Nat.lt_or_eq_of_le h with h | h
  · exact Nat.le_of_lt (val_lt h)
  · rw [h]; exact Nat.le_refl _

/-- the significand and the place (above the least one) of a rung -/
def mag (r : Nat) : Nat := if r < 4503599627370496 then r else 4503599627370496 + r % 4503599627370496
def plc (r : Nat) : Nat := if r < 4503599627370496 then 0 else r / 4503599627370496 - 1
theorem val_eq (r : Nat) : val r = mag r * 2 ^ plc r := by
  unfold val mag plc; split <;> simp

theorem read_pos_fin {b : Nat} (h : b < 9218868437227405312) : double.read b = .number false (mag b) (-1074 + (plc b : Nat)) := by
  unfold Format.read mag plc
  rw [sw, bi, ir, lp]
  have e1 : b / 9223372036854775808 = 0 := by omega
  have e2 : b % 9223372036854775808 = b := by omega
  simp only [e1, e2]
  by_cases hb : b < 4503599627370496
  · simp [hb]
  · simp [hb, h]

theorem read_neg_fin {b : Nat} (h : b < 9218868437227405312) : double.read (b + 9223372036854775808) = .number true (mag b) (-1074 + (plc b : Nat)) := by
  unfold Format.read mag plc
  rw [sw, bi, ir, lp]
  have e1 : (b + 9223372036854775808) / 9223372036854775808 = 1 := by omega
  have e2 : (b + 9223372036854775808) % 9223372036854775808 = b := by omega
  simp only [e1, e2]
  by_cases hb : b < 4503599627370496
  · simp [hb]
  · simp [hb, h]

theorem read_inf : double.read 9218868437227405312 = .infinity false := by kernel_rfl
theorem read_ninf : double.read 18442240474082181120 = .infinity true := by kernel_rfl

theorem read_nan {b : Nat} (hn : isNan b = true) : ∃ s f, double.read b = .nan s f := by
  unfold isNan at hn
  have hn := of_decide_eq_true hn
  unfold Format.read
  rw [sw, bi, ir, lp]
  exact ⟨_, _, by rw [if_neg (by omega), if_neg (by omega), if_neg (by omega)]⟩

/-- the four ways of a word that is no NaN -/
theorem four {b : Nat} (h : b < 18446744073709551616) (hn : isNan b = false) :
    b < 9218868437227405312 ∨ (∃ c, c < 9218868437227405312 ∧ b = c + 9223372036854775808) ∨ b = 9218868437227405312 ∨ b = 18442240474082181120 := by
  unfold isNan at hn
  have hn := of_decide_eq_false hn
  by_cases h1 : b < 9223372036854775808
  · omega
  · have : b % 9223372036854775808 = b - 9223372036854775808 := by omega
    by_cases h2 : b = 18442240474082181120
    · omega
    · right; left; exact ⟨b - 9223372036854775808, by omega, by omega⟩

theorem signed_scale (s : Bool) (m u c : Nat) : signed s m (u + c) = signed s m u * (2 ^ c : Nat) := by
  unfold signed
  simp only [Nat.shiftLeft_eq, Nat.pow_add]
  split <;> push_cast <;> simp [Int.neg_mul, Int.mul_assoc]

theorem compare_scale (x y : Int) (c : Nat) : compare (x * (2 ^ c : Nat)) (y * (2 ^ c : Nat)) = compare x y := by
  have hc : (0 : Int) < (2 ^ c : Nat) := by exact_mod_cast Nat.two_pow_pos c
  rw [Int.compare_eq_ite_lt, Int.compare_eq_ite_lt]
  have a : x * ((2 ^ c : Nat) : Int) < y * ((2 ^ c : Nat) : Int) ↔ x < y := Int.mul_lt_mul_right hc
  have b : y * ((2 ^ c : Nat) : Int) < x * ((2 ^ c : Nat) : Int) ↔ y < x := Int.mul_lt_mul_right hc
  simp only [a, b]

def sval (s : Bool) (r : Nat) : Int := if s then -(val r : Int) else (val r : Int)
theorem signed_val (s : Bool) (r : Nat) : signed s (mag r) (plc r) = sval s r := by
  unfold signed sval
  rw [val_eq, Nat.shiftLeft_eq]

theorem order_num (s t : Bool) (a b : Nat) :
    Datum.order (.number s (mag a) (-1074 + (plc a : Nat))) (.number t (mag b) (-1074 + (plc b : Nat))) = some (compare (sval s a) (sval t b)) := by
  unfold Datum.order
  simp only
  congr 1
  rw [← signed_val, ← signed_val]
  by_cases h : plc a ≤ plc b
  · have e1 : (-1074 + (plc a : Int) - min (-1074 + (plc a : Int)) (-1074 + (plc b : Int))).toNat = 0 := by omega
    have e2 : (-1074 + (plc b : Int) - min (-1074 + (plc a : Int)) (-1074 + (plc b : Int))).toNat = plc b - plc a := by omega
    rw [e1, e2, ← compare_scale _ _ (plc a), ← signed_scale, ← signed_scale]
    congr 2 <;> omega
  · have e1 : (-1074 + (plc a : Int) - min (-1074 + (plc a : Int)) (-1074 + (plc b : Int))).toNat = plc a - plc b := by omega
    have e2 : (-1074 + (plc b : Int) - min (-1074 + (plc a : Int)) (-1074 + (plc b : Int))).toNat = 0 := by omega
    rw [e1, e2, ← compare_scale _ _ (plc b), ← signed_scale, ← signed_scale]
    congr 2 <;> omega

theorem val_zero : val 0 = 0 := rfl
theorem val_inj {r s : Nat} (h : val r = val s) : r = s := by
  rcases Nat.lt_trichotomy r s with h1 | h1 | h1
  · have := val_lt h1; omega
  · exact h1
  · have := val_lt h1; omega
theorem val_lt_iff {r s : Nat} : val r < val s ↔ r < s := by
  constructor
  · intro h
    rcases Nat.lt_or_ge r s with h1 | h1
    · exact h1
    · have := val_le h1; omega
  · exact val_lt

theorem compare_sval (s t : Bool) (a b : Nat) : compare (sval s a) (sval t b) = compare (if s then -(a : Int) else (a : Int)) (if t then -(b : Int) else (b : Int)) := by
  have h1 := @val_lt_iff a b
  have h2 := @val_lt_iff b a
  have z1 : 0 < val a ↔ 0 < a := by rw [← val_zero]; exact val_lt_iff
  have z2 : 0 < val b ↔ 0 < b := by rw [← val_zero]; exact val_lt_iff
  rw [Int.compare_eq_ite_lt, Int.compare_eq_ite_lt]
  unfold sval
  have key : ∀ x y z u : Int, (x < y ↔ z < u) → (y < x ↔ u < z) → (if x < y then Ordering.lt else if y < x then Ordering.gt else Ordering.eq) = (if z < u then Ordering.lt else if u < z then Ordering.gt else Ordering.eq) := by
    intro x y z u g1 g2; simp only [g1, g2]
  apply key <;> cases s <;> cases t <;> simp only [if_true, if_false, Bool.false_eq_true] <;> omega

theorem key_pos {b : Nat} (h : b < 9223372036854775808) : key b = b := by unfold key; rw [if_pos h]
theorem key_neg (b : Nat) : key (b + 9223372036854775808) = -(b : Int) := by
  unfold key; rw [if_neg (by omega)]; omega

theorem order_eq {a b : Nat} (ha : a < 18446744073709551616) (hb : b < 18446744073709551616) (na : isNan a = false) (nb : isNan b = false) :
    double.order a b = some (compare (key a) (key b)) := by
  unfold Format.order
  have gt' : ∀ x y : Int, y < x → some (compare x y) = some Ordering.gt := by
    intro x y h; rw [Int.compare_eq_ite_lt, if_neg (by omega), if_pos h]
  have lt' : ∀ x y : Int, x < y → some (compare x y) = some Ordering.lt := by
    intro x y h; rw [Int.compare_eq_ite_lt, if_pos h]
  have eq' : ∀ x : Int, some (compare x x) = some Ordering.eq := by
    intro x; rw [Int.compare_eq_ite_lt, if_neg (by omega), if_neg (by omega)]
  have ki : key 9218868437227405312 = 9218868437227405312 := rfl
  have kn : key 18442240474082181120 = -9218868437227405312 := rfl
  rcases four ha na with h | ⟨c, h, rfl⟩ | rfl | rfl <;> rcases four hb nb with g | ⟨d, g, rfl⟩ | rfl | rfl
  all_goals try rw [read_pos_fin h]
  all_goals try rw [read_neg_fin h]
  all_goals try rw [read_pos_fin g]
  all_goals try rw [read_neg_fin g]
  all_goals try rw [read_inf]
  all_goals try rw [read_ninf]
  all_goals try rw [order_num, compare_sval]
  all_goals try rw [ki]
  all_goals try rw [kn]
  all_goals try rw [key_neg]
  all_goals try rw [key_neg]
  all_goals try rw [key_pos (by omega : a < 9223372036854775808)]
  all_goals try rw [key_pos (by omega : b < 9223372036854775808)]
  all_goals try rw [gt' _ _ (by omega)]
  all_goals try rw [lt' _ _ (by omega)]
  all_goals try rw [eq' _]
  all_goals rfl

theorem order_nan_left {a b : Nat} (na : isNan a = true) : double.order a b = none := by
  obtain ⟨s, f, h⟩ := read_nan na
  unfold Format.order; rw [h]; rfl
theorem order_nan_right {a b : Nat} (nb : isNan b = true) : double.order a b = none := by
  obtain ⟨s, f, h⟩ := read_nan nb
  unfold Format.order; rw [h]; cases double.read a <;> rfl

theorem compare_eq_gt (x y : Int) : (compare x y = .gt) ↔ y < x := by
  rw [Int.compare_eq_ite_lt]
  by_cases h : x < y
  · rw [if_pos h]; simp; omega
  · rw [if_neg h]
    by_cases g : y < x
    · rw [if_pos g]; simp [g]
    · rw [if_neg g]; simp; omega
theorem compare_eq_lt (x y : Int) : (compare x y = .lt) ↔ x < y := by
  rw [Int.compare_eq_ite_lt]
  by_cases h : x < y
  · rw [if_pos h]; simp [h]
  · rw [if_neg h]
    by_cases g : y < x
    · rw [if_pos g]; simp [h]
    · rw [if_neg g]; simp [h]
theorem compare_eq_eq (x y : Int) : (compare x y = .eq) ↔ x = y := by
  rw [Int.compare_eq_ite_lt]
  by_cases h : x < y
  · rw [if_pos h]; simp; omega
  · rw [if_neg h]
    by_cases g : y < x
    · rw [if_pos g]; simp; omega
    · rw [if_neg g]; simp; omega

/-- the tests of floats, by keys -/
def isLt (a b : Nat) : Bool := !isNan a && !isNan b && decide (key a < key b)
def isEq (a b : Nat) : Bool := !isNan a && !isNan b && decide (key a = key b)

theorem test_lt {a b : Nat} (ha : a < 18446744073709551616) (hb : b < 18446744073709551616) : (double.order a b == some .lt) = isLt a b := by
  unfold isLt
  cases na : isNan a
  · cases nb : isNan b
    · rw [order_eq ha hb na nb, Bool.eq_iff_iff]; simp [compare_eq_lt]
    · rw [order_nan_right nb]; rfl
  · rw [order_nan_left na]; rfl
theorem test_gt {a b : Nat} (ha : a < 18446744073709551616) (hb : b < 18446744073709551616) : (double.order a b == some .gt) = isLt b a := by
  unfold isLt
  cases na : isNan a
  · cases nb : isNan b
    · rw [order_eq ha hb na nb, Bool.eq_iff_iff]; simp [compare_eq_gt]
    · rw [order_nan_right nb]; rfl
  · rw [order_nan_left na]; cases isNan b <;> rfl
theorem test_eq {a b : Nat} (ha : a < 18446744073709551616) (hb : b < 18446744073709551616) : (double.order a b == some .eq) = isEq a b := by
  unfold isEq
  cases na : isNan a
  · cases nb : isNan b
    · rw [order_eq ha hb na nb, Bool.eq_iff_iff]; simp
    · rw [order_nan_right nb]; rfl
  · rw [order_nan_left na]; rfl
theorem test_self {a : Nat} (ha : a < 18446744073709551616) : (double.order a a != some .eq) = isNan a := by
  unfold bne; rw [test_eq ha ha]; unfold isEq; cases isNan a <;> simp

/-- the place of a word in floats' order -/
def place (b : Nat) : Nat := if isNan b then 18446744073709551615 else if 9223372036854775808 ≤ b then 18446744073709551615 - b else b + 9223372036854775808
theorem place_lt {b : Nat} (h : b < 18446744073709551616) : place b < 18446744073709551616 := by
  unfold place; split
  · omega
  · split <;> omega
/-- the order of two words -/
def cmpN (x y : Nat) : Int := if x < y then -1 else if y < x then 1 else 0
def ord (a b : Nat) : Int := cmpN (place a) (place b)
theorem ord_swap (a b : Nat) : ord b a = - ord a b := by
  unfold ord cmpN
  by_cases h : place a < place b <;> by_cases g : place b < place a <;> simp only [h, g, if_true, if_false] <;> omega
theorem ord_range (a b : Nat) : -1 ≤ ord a b ∧ ord a b ≤ 1 := by unfold ord cmpN; split <;> (try split) <;> omega

/-- the plain form; which words are delays -/
def plain (b : Nat) : Nat := if isNan b then 9221120237041090561 else if b = 9223372036854775808 then 0 else b
def dl (b : Nat) : Bool := !isNan b && decide (b ≤ 9223372036854775808)
theorem plain_lt {b : Nat} (h : b < 18446744073709551616) : plain b < 18446744073709551616 := by
  unfold plain; split
  · omega
  · split <;> omega
theorem nan0 : isNan 0 = false := rfl
theorem key0 : key 0 = 0 := rfl
theorem key_zero {b : Nat} (h : b < 18446744073709551616) : key b = 0 ↔ (b = 0 ∨ b = 9223372036854775808) := by
  unfold key; split <;> omega
theorem isEq0 {b : Nat} (h : b < 18446744073709551616) : isEq b 0 = (decide (b = 0) || decide (b = 9223372036854775808)) := by
  unfold isEq
  rw [nan0, key0, Bool.eq_iff_iff]
  simp only [Bool.and_eq_true, Bool.not_eq_true', Bool.not_false, Bool.or_eq_true, decide_eq_true_eq, key_zero h, and_true]
  constructor
  · exact fun g => g.2
  · intro g
    refine ⟨?_, g⟩
    rcases g with rfl | rfl <;> rfl
theorem isGe0 {b : Nat} (h : b < 18446744073709551616) : (isLt 0 b || isEq b 0) = dl b := by
  unfold dl
  cases hn : isNan b
  · rw [isEq0 h]
    unfold isLt
    rw [nan0, key0, hn, Bool.eq_iff_iff]
    unfold key
    simp only [Bool.and_eq_true, Bool.not_false, Bool.or_eq_true, decide_eq_true_eq, true_and]
    split <;> omega
  · unfold isLt isEq; rw [hn]; simp

/-- the document's rank -/
def rkp (b : Nat) : Bool := isNan b || decide (b < 9223372036854775808)
def rkm (b : Nat) : Nat := if isNan b then 18446744073709551615 else if 9223372036854775808 ≤ b then 9223372036854775807 - (b - 9223372036854775808) else b
theorem place_rk {b : Nat} (h : b < 18446744073709551616) : place b = if rkp b then (if isNan b then 18446744073709551615 else rkm b + 9223372036854775808) else rkm b := by
  unfold place rkp rkm
  cases hn : isNan b
  · by_cases hs : 9223372036854775808 ≤ b
    · have : ¬ b < 9223372036854775808 := by omega
      simp [hs, this]; omega
    · have : b < 9223372036854775808 := by omega
      simp [hs, this]
  · simp
theorem rkm_small {b : Nat} (h : b < 18446744073709551616) (hn : isNan b = false) : rkm b ≤ 9223372036854775807 ∧ (rkp b = true → rkm b ≤ 9218868437227405312) := by
  unfold rkm rkp
  rw [hn]
  unfold isNan at hn
  have := of_decide_eq_false hn
  simp only [Bool.false_eq_true, if_false, Bool.false_or, decide_eq_true_eq]
  split <;> omega
theorem rkm_nan {b : Nat} (hn : isNan b = true) : rkm b = 18446744073709551615 := by unfold rkm; rw [if_pos hn]
theorem rkp_nan {b : Nat} (hn : isNan b = true) : rkp b = true := by unfold rkp; rw [hn]; rfl

theorem ord_ft {a b : Nat} (ha : a < 18446744073709551616) (hb : b < 18446744073709551616) (h : rkp a = false) (g : rkp b = true) : ord a b = -1 := by
  have na : isNan a = false := by cases hn : isNan a; rfl; rw [rkp_nan hn] at h; cases h
  have := (rkm_small ha na).1
  unfold ord cmpN
  rw [place_rk ha, place_rk hb, h, g]
  simp only [Bool.false_eq_true, if_false, if_true]
  split
  · rw [if_pos (by omega)]
  · rw [if_pos (by omega)]
theorem ord_tf {a b : Nat} (ha : a < 18446744073709551616) (hb : b < 18446744073709551616) (h : rkp a = true) (g : rkp b = false) : ord a b = 1 := by
  rw [ord_swap b a, ord_ft hb ha g h]; rfl
theorem ord_same {a b : Nat} (ha : a < 18446744073709551616) (hb : b < 18446744073709551616) (h : rkp a = rkp b) : ord a b = cmpN (rkm a) (rkm b) := by
  unfold ord cmpN
  rw [place_rk ha, place_rk hb, h]
  cases hp : rkp b
  · simp
  · simp only [if_true]
    cases na : isNan a <;> cases nb : isNan b
    · simp only [Bool.false_eq_true, if_false]
      have e1 : (rkm a + 9223372036854775808 < rkm b + 9223372036854775808) ↔ rkm a < rkm b := by omega
      have e2 : (rkm b + 9223372036854775808 < rkm a + 9223372036854775808) ↔ rkm b < rkm a := by omega
      simp only [e1, e2]
    · have := (rkm_small ha na).2 (by rw [h, hp]); rw [rkm_nan nb]
      simp only [Bool.false_eq_true, if_false, if_true]
      rw [if_pos (by omega), if_pos (by omega)]
    · have := (rkm_small hb nb).2 hp; rw [rkm_nan na]
      simp only [Bool.false_eq_true, if_false, if_true]
      rw [if_neg (by omega), if_pos (by omega), if_neg (by omega), if_pos (by omega)]
    · rw [rkm_nan na, rkm_nan nb]; simp
end Go.Proofs.YtfginhckeogafaaDoor.Fl

namespace Go.Proofs.YtfginhckeogafaaDoor
open Go.RowKit

theorem and62 {b : Nat} (hb : b < 18446744073709551616) : bits .and .u64 (b : Int) 9223372036854775807 = ((b % 9223372036854775808 : Nat) : Int) := by
  rw [show (9223372036854775807 : Int) = ((9223372036854775807 : Nat) : Int) from rfl, u64_and_nat b _ hb (by omega), show (9223372036854775807 : Nat) = 2 ^ 63 - 1 from rfl, Nat.and_two_pow_sub_one_eq_mod]
theorem u64_ret {a b : Int} (h : a = b) : Ending.returned (.int .u64 a) = .returned (.int .u64 b) := by rw [h]
theorem i64_ret {a b : Int} (h : a = b) : Ending.returned (.int .i64 a) = .returned (.int .i64 b) := by rw [h]
theorem bool_ret {a b : Bool} (h : a = b) : Ending.returned (.bool a) = .returned (.bool b) := by rw [h]

theorem f64_ret {a b : Nat} (h : a = b) : Ending.returned (.float .f64 a) = .returned (.float .f64 b) := by rw [h]

theorem eq0 {b : Nat} (hb : b < 18446744073709551616) : (FloatKind.f64.format.order b 0 == some .eq) = (decide (b = 0) || decide (b = 9223372036854775808)) := by
  rw [← Fl.isEq0 hb]; exact Fl.test_eq hb (by omega)
end Go.Proofs.YtfginhckeogafaaDoor

namespace Go.Proofs.YtfginhckeogafaaDoor
open Go.RowKit Go.ChangeShapes Go.WideShapes

/-- the i-th byte of a number from the low end; the eight of a word, the high one first -/
def fb (n i : Nat) : Int := ((n / 256 ^ i % 256 : Nat) : Int)
def f8 (n : Nat) : List Int := [fb n 7, fb n 6, fb n 5, fb n 4, fb n 3, fb n 2, fb n 1, fb n 0]

/-- WHAT ToFloat ANSWERS: the word, the error's number. -/
def toFl (bs : List Int) : Nat × Int := if bs.length = 8 ∧ Fl.plain (beNum bs).toNat = (beNum bs).toNat then ((beNum bs).toNat, 0) else (0, 4)

end Go.Proofs.YtfginhckeogafaaDoor

namespace Go.Proofs.YtfginhckeogafaaDoor
open Go.RowKit Go.ChangeShapes Go.WideShapes

/-- the n lowest bytes of x, the high one first; those that are laid behind i rounds -/
def digB (x n : Nat) : List Int := (List.range n).map fun p => fb x (n - 1 - p)
def digP (x n i : Nat) : List Value := (List.range n).map fun p => Value.int .u8 (if n - 1 - p < i then fb x (n - 1 - p) else 0)
theorem digP_len (x n i : Nat) : (digP x n i).length = n := by simp [digP]
theorem digP_full (x n : Nat) : digP x n n = (digB x n).map (Value.int .u8) := by
  unfold digP digB
  rw [List.map_map]
  refine List.map_congr_left fun p hp => ?_
  have := List.mem_range.1 hp
  simp only [Function.comp]
  rw [if_pos (by omega)]
theorem digP_next (x n i : Nat) (h : i < n) : (digP x n i).set (n - 1 - i) (.int .u8 (fb x i)) = digP x n (i + 1) := by
  refine List.ext_getElem (by simp [digP]) fun p h1 h2 => ?_
  have hp : p < n := by simpa [digP] using h2
  rw [List.getElem_set]
  split
  · rename_i e
    subst e
    have q : n - 1 - (n - 1 - i) = i := by omega
    simp [digP, q]
  · rename_i e
    simp only [digP, List.getElem_map, List.getElem_range]
    congr 1
    by_cases g : n - 1 - p < i
    · rw [if_pos g, if_pos (by omega)]
    · rw [if_neg g, if_neg (by omega)]

theorem shr_fb (x j : Nat) : (x : Int) / 2 ^ (8 * (j : Int)).toNat % 256 = fb x j := by
  have e : (8 * (j : Int)).toNat = 8 * j := by omega
  rw [e]
  have e2 : (2 : Int) ^ (8 * j) = ((256 ^ j : Nat) : Int) := by
    rw [Int.natCast_pow, show ((256 : Nat) : Int) = 2 ^ 8 from rfl, ← Int.pow_mul]
  rw [e2]
  unfold fb
  omega

theorem made_rep (z : Value) (n : Nat) : (madeCells #[z] n).toList = List.replicate n z := by
  rw [List.eq_replicate_iff]
  refine ⟨by simp [madeCells], fun b hb => ?_⟩
  simp [madeCells] at hb
  obtain ⟨p, _, h⟩ := hb
  rw [← h]
  simp [Nat.mod_one]

set_option maxRecDepth 100000 in
set_option maxHeartbeats 2000000 in
theorem digits_any (x n : Nat) (hx : x < 18446744073709551616) (hn : n ≤ 8) (xx nn : Int) (hxx : (x : Int) = xx) (hnn : (n : Int) = nn) (w : World) :
    Calls Tryd.prog 52 #[.int .u64 xx, .int .i64 nn] w fun e w' => e = .returned (.slice (some ⟨w.heap.size, 0, none⟩) n n) ∧ w'.ownsRow w.heap.size 5 1 (.slice (some ⟨w.heap.size, 0, none⟩) n n) n ((digB x n).map (Value.int .u8)) ∧ Kp w w' := by
  obtain ⟨i0, hi, hz0, hz1, hz2⟩ := info_parts info_byte
  have hfull := digP_full x n
  have hxb : 0 ≤ xx ∧ xx < 18446744073709551616 := by omega
  have hnb : 0 ≤ nn ∧ nn ≤ 8 := by omega
  have HI := Lib.hid (And.intro hz1 hz2)
  have HI2 := Lib.hid hi
  have HI3 := Lib.hid hz0
  have HF := Lib.hid hfull
  have HX := Lib.hid hxx
  have HN := Lib.hid hnn
  clear hz1 hz2 hi hz0 hfull hxx hnn hx
  go_enter Tryd.func52, Tryd.ntmps52
  go_wp2_with (first | (refine wpList_make_full _ rfl _ _ 27 rfl w.heap.size 5 i0 (.int .u8 0) 1 Tryd.underlying27 HI2.out HI3.out HI.out.1 .i64 .i64 _ _ n rfl rfl ?m1 ?m2 ?m3 ?m4 ?m5 ?_))
  case m1 => exact HN.out.symm
  case m2 => exact HN.out.symm
  case m3 => rw [HI.out.2]; omega
  case m4 => unfold maxLen; omega
  case m5 => exact Nat.le_refl _
  rintro w1 hown1 hgr1
  have K1 : Hid (Kp w w1) := Lib.hid ((Below.refl _ _).grown hgr1 (Nat.le_refl _) (fun k hk => by cases hk))
  have h0 : w1.ownsRow w.heap.size 5 1 (.slice (some ⟨w.heap.size, 0, none⟩) n n) n (digP x n 0) := by
    have e : (madeCells #[.int .u8 0] n).toList = digP x n 0 := by
      have e1 : digP x n 0 = List.replicate n (.int .u8 0) := by
        unfold digP
        rw [List.eq_replicate_iff]
        refine ⟨by simp, fun b hb => ?_⟩
        obtain ⟨p, _, rfl⟩ := List.mem_map.1 hb
        simp
      rw [e1]
      exact made_rep _ _
    rw [← e]; exact hown1
  have OW1 := Lib.hid h0
  clear hown1 hgr1 h0
  go_wp2
  go_loopw [11] (fun i wr => ∃ j : Nat, j ≤ n ∧ i = .int .i64 j ∧ Kp w wr ∧ wr.ownsRow w.heap.size 5 1 (.slice (some ⟨w.heap.size, 0, none⟩) n n) n (digP x n j)) (fun i _ => n - (intOf i).toNat)
  case atStart => exact ⟨0, Nat.zero_le _, rfl, K1.out, OW1.out⟩
  case round =>
    obtain ⟨j, hj, rfl, hk, hown⟩ := hrel
    have HK := Lib.hid hk
    have HO := Lib.hid hown
    clear hk hown
    obtain ⟨jj, hjj⟩ : ∃ jj : Int, (j : Int) = jj := ⟨_, rfl⟩
    rw [hjj]
    have hnl := HN.out
    by_cases hlt : j < n
    · obtain ⟨pp, hpp⟩ : ∃ pp : Nat, n - 1 - j = pp := ⟨_, rfl⟩
      have hpn : pp < n := by omega
      have hc : wr.cell? ⟨w.heap.size, pp, none⟩ = some (.int .u8 0) := by
        rw [HO.out.cellAt pp (by omega)]
        have hl : pp < (digP x n j).length := by rw [digP_len]; exact hpn
        rw [List.getElem?_eq_getElem hl]
        simp only [digP, List.getElem_map, List.getElem_range]
        rw [if_neg (by omega)]
      have hz := HO.out.frozenAt pp
      have hst := (HO.out.stored pp (.int .u8 (fb x j)))
      rw [← hpp, digP_next x n j hlt, hpp] at hst
      have HST := Lib.hid hst.1
      have HGR := Lib.hid (Below.grown HK.out hst.2 (Below.size HK.out) (fun k hk => by injection hk with hk; omega))
      obtain ⟨fx, hfx⟩ : ∃ fx, fb x j = fx := ⟨_, rfl⟩
      rw [hfx] at HST HGR
      have HFX := Lib.hid hfx
      obtain ⟨qq, hqq⟩ : ∃ qq : Int, (pp : Int) = qq := ⟨_, rfl⟩
      have e1 : qq.toNat = pp := by omega
      have hdiff : nn - 1 - jj = qq := by omega
      have hq0 : 0 ≤ qq := by omega
      have hqn : qq < n := by omega
      have hltj : jj < n := by omega
      rw [← e1] at hc hz
      have HJ := Lib.hid hjj
      have HE1 := Lib.hid e1
      have hj8 : 0 ≤ jj ∧ jj < 8 := by omega
      clear hst hfx hjj hqq e1 hpp hpn hnl hlt
      go_wp2
      have hval : xx / 2 ^ (8 * jj).toNat % 256 = fx := by rw [← HFX.out, ← HX.out, ← HJ.out]; exact shr_fb x j
      rw [hval, HE1.out]
      have hjj := HJ.out
      go_roundw
      case rel => exact ⟨j + 1, by omega, by congr 1; omega, HGR.out, HST.out⟩
      case measure => simp [intOf]; omega
    · obtain rfl : j = n := by omega
      have hex : ¬ jj < j := by omega
      have HO2 := HO.out
      rw [HF.out] at HO2
      have HO3 := Lib.hid HO2
      clear HO2 hjj hnl hlt
      go_wp2
      go_ret
      exact ⟨rfl, HO3.out, HK.out⟩
end Go.Proofs.YtfginhckeogafaaDoor

namespace Go.Proofs
open Go.Shelf
def Tryd.lays129_ren : Go.Shelf.Ren := ⟨fun | 129 => 53 | n => n, fun | 53 => 83 | 3 => 3 | 4 => 4 | 46 => 45 | 5 => 5 | 9 => 9 | n => n, fun | n => n⟩
theorem Tryd.lays129 : Go.Proofs.Lays.n129 Tryd.prog Tryd.lays129_ren := {
  mixed := by kernel_rfl
  f129 := Tryd.func53.trans (congrArg some (by kernel_rfl))
  t3 := Tryd.underlying3
  a3 := Tryd.isAgg3
  z3 := Tryd.sizeOf3
  v3 := Tryd.zeroValue3
  t4 := Tryd.underlying4
  a4 := Tryd.isAgg4
  z4 := Tryd.sizeOf4
  v4 := Tryd.zeroValue4
  t5 := Tryd.underlying5
  a5 := Tryd.isAgg5
  z5 := Tryd.sizeOf5
  v5 := Tryd.zeroValue5
  t9 := Tryd.underlying9
  a9 := Tryd.isAgg9
  z9 := Tryd.sizeOf9
  v9 := Tryd.zeroValue9
  t46 := Tryd.underlying45
  a46 := Tryd.isAgg45
  z46 := Tryd.sizeOf45
  v46 := Tryd.zeroValue45
  t53 := Tryd.underlying83
  a53 := Tryd.isAgg83
  z53 := Tryd.sizeOf83
  v53 := Tryd.zeroValue83 }
end Go.Proofs

namespace Go.Proofs.YtfginhckeogafaaDoor
open Go.RowKit Go.ChangeShapes Go.WideShapes

/-- as many bytes as a number has -/
def nb (x : Nat) : Nat := (Lib.bitLen x + 7) / 8
theorem nb_zero : nb 0 = 0 := by decide
theorem nb_next (x : Nat) (h0 : x ≠ 0) (h : x < 18446744073709551616) : nb x = nb (x / 256) + 1 := by
  unfold nb
  rcases Nat.lt_or_ge x 256 with g | g
  · have e : x / 256 = 0 := by omega
    have h1 := Lib.bitLenAux_bounds 64 x h h0
    have h2 := Lib.bitLen_le8 ⟨x, g⟩
    have e0 : Lib.bitLen 0 = 0 := by decide
    rw [e, e0]
    unfold Lib.bitLen at h2 ⊢
    simp only at h2
    omega
  · rw [Lib.bitLen_shift8 x g h]
    omega
theorem nb_le (x : Nat) (h : x < 18446744073709551616) : nb x ≤ 8 := by
  unfold nb
  have := Lib.bitLen_le x 64 (by decide) h
  omega
theorem digB_next (x m : Nat) : digB x (m + 1) = digB (x / 256) m ++ [((x % 256 : Nat) : Int)] := by
  unfold digB
  rw [List.range_succ, List.map_append]
  congr 1
  · refine List.map_congr_left fun p hp => ?_
    have hp' := List.mem_range.1 hp
    have e : m + 1 - 1 - p = (m - 1 - p) + 1 := by omega
    rw [e]
    unfold fb
    rw [Nat.pow_succ, Nat.mul_comm, Nat.div_div_eq_div_mul]
  · simp [fb]
theorem beF_dig (k : Nat) : ∀ x, x < 256 ^ k → x < 18446744073709551616 → beF k x = digB x (nb x) := by
  induction k with
  | zero =>
    intro x h _
    obtain rfl : x = 0 := by simpa using h
    rfl
  | succ k ih =>
    intro x h h64
    by_cases h0 : x = 0
    · subst h0
      rfl
    · rw [beF, if_neg h0, nb_next x h0 h64, digB_next, ih (x / 256) (by rw [Nat.pow_succ] at h; omega) (by omega)]

theorem len64_any (x : Nat) (h : x < 18446744073709551616) (xx : Int) (hxx : (x : Int) = xx) (w : World) :
    Calls Tryd.prog 53 #[.int .u64 xx] w fun e w' => e = .returned (.int .i64 (Lib.bitLen x)) ∧ w = w' := by
  have t := Any.bits_Len64 Tryd.lays129 xx w (by omega) (by omega)
  have e : xx.toNat = x := by omega
  rw [e] at t
  refine t.mono ?_
  rintro e w' ⟨h1, h2⟩
  exact ⟨h1, h2.symm⟩

theorem number1_err (ads : List Addr) (h0 : 0 < ads.length) (p : Addr) (n : Int) (hn : n < 0) (w : World) (V : St ads w) (hp : w.cell? p = some (.int .i64 n)) :
    Calls Tryd.prog 50 #[.pointer (some p)] w fun e w' => e = .panicked [{ v := snt ads[0], recovered := false }] ∧ Kp w w' := by
  have c0 : w.cell? ⟨1, 0, none⟩ = some (snt ads[0]) := V.cell 0 (by decide)
  obtain ⟨a, ha⟩ : ∃ a, ads[0] = a := ⟨_, rfl⟩
  rw [ha] at c0 ⊢
  have hn' : ¬ n ≥ 0 := by omega
  clear ha V
  go_enter Tryd.func50, Tryd.ntmps50
  go_wp2_with (go_at_call 51; (with_reducible refine (demand_f _ _).mono ?_); rintro e w' ⟨rfl, rfl⟩)
  exact ⟨rfl, rfl, Kp.refl _⟩

set_option maxRecDepth 20000 in
theorem number1_any (ads : List Addr) (p : Addr) (n : Nat) (hn : n < 9223372036854775808) (nn : Int) (hnn : (n : Int) = nn) (w : World) (V : St ads w) (hp : w.cell? p = some (.int .i64 nn)) :
    Calls Tryd.prog 50 #[.pointer (some p)] w fun e w' => ∃ v, e = .returned v ∧ w'.ownsRow w.heap.size 5 1 v (beF 8 n).length ((beF 8 n).map (Value.int .u8)) ∧ Kp w w' := by
  have hl : 0 < ads.length := by have := V.len; simp [gs14] at this; omega
  have c0 : w.cell? ⟨1, 0, none⟩ = some (snt ads[0]) := V.cell 0 (by decide)
  have n64 : n < 18446744073709551616 := by omega
  have hd : ∀ w, Calls Tryd.prog 52 #[.int .u64 nn, .int .i64 (nb n)] w _ := fun w => digits_any n (nb n) n64 (nb_le n n64) nn _ hnn rfl w
  have hlen : ∀ w, Calls Tryd.prog 53 #[.int .u64 nn] w _ := fun w => len64_any n n64 nn hnn w
  have hb : (Lib.bitLen n) ≤ 64 := Lib.bitLen_le n 64 (by decide) n64
  obtain ⟨L, hL⟩ : ∃ L : Int, (Lib.bitLen n : Int) = L := ⟨_, rfl⟩
  have hq : (L + 7).tdiv 8 = (nb n : Int) := by
    rw [Int.tdiv_eq_ediv_of_nonneg (by omega)]
    unfold nb
    omega
  have hlb : 0 ≤ L ∧ L ≤ 64 := by omega
  simp only [hL] at hlen
  have hbe := beF_dig 8 n n64 n64
  have hdl : (digB n (nb n)).length = nb n := by simp [digB]
  rw [hbe, hdl]
  obtain ⟨nbn, hnb⟩ : ∃ k : Int, (nb n : Int) = k := ⟨_, rfl⟩
  simp only [hnb] at hd hq
  have n0 : 0 ≤ nn ∧ nn < 9223372036854775808 := by omega
  have hnb8 : 0 ≤ nbn ∧ nbn ≤ 8 := by have := nb_le n n64; omega
  have HD := Lib.hid hd
  have HLN := Lib.hid hlen
  clear hd hlen hbe hdl hb hL hnn hnb V n64 hn
  go_enter Tryd.func50, Tryd.ntmps50
  go_wp2_with (first | (go_at_call 51; (with_reducible refine (demand_t _ _).mono ?_); rintro e w' ⟨rfl, rfl⟩) | (go_at_call 53; (with_reducible refine (HLN.out _).mono ?_); rintro e w' ⟨rfl, rfl⟩) | (go_at_call 52; (with_reducible refine (HD.out _).mono ?_); rintro e w' ⟨rfl, ho, hk⟩; have HO := Lib.hid ho; have HK := Lib.hid hk; clear ho hk))
  go_ret
  exact ⟨_, rfl, HO.out, HK.out⟩

theorem number_err (ads : List Addr) (h0 : 0 < ads.length) (n : Int) (hn : n < 0) (w : World) (V : St ads w) :
    Calls Tryd.prog 28 #[.int .i64 n] w fun e w' => e = .returned (.tuple #[.slice none 0 0, snt ads[0]]) ∧ Kp w w' := by
  have hmf : ∀ (fn : Fn) (first cap : Array Value) (w : World), (Instr.makeFunc fn first cap).run Tryd.prog w = .ok (.func fn first cap) w := fun _ _ _ _ => rfl
  have kb := kp_alloc w (.cells #[.int .i64 n] 3)
  have hc := box_cell w (.int .i64 n) 3
  have HT := Lib.hid (try_bytes_err ads 0 h0 50 #[.pointer (some ⟨w.heap.size, 0, none⟩)] (w.alloc (.cells #[.int .i64 n] 3)) (V.below kb) (by intro w; simp [go_sem]) fun w1 h1 => number1_err ads h0 _ n hn w1 (V.below (Kp.trans kb h1)) (kp_cell h1 hc))
  have KB := Lib.hid kb
  clear kb hc V
  go_enter Tryd.func28, Tryd.ntmps28
  go_wp2_with (go_at_call 23; (with_reducible refine HT.out.mono ?_); rintro e w' ⟨rfl, hk⟩; have HK := Lib.hid hk; clear hk)
  go_ret2
  exact ⟨rfl, Kp.trans KB.out HK.out⟩

theorem number_any (ads : List Addr) (n : Nat) (hn : n < 9223372036854775808) (nn : Int) (hnn : (n : Int) = nn) (w : World) (V : St ads w) :
    Calls Tryd.prog 28 #[.int .i64 nn] w fun e w' => ∃ v, e = .returned (.tuple #[v, .nilIface]) ∧ w'.ownsRow w.heap.size 5 1 v (beF 8 n).length ((beF 8 n).map (Value.int .u8)) ∧ Kp w w' := by
  have hmf : ∀ (fn : Fn) (first cap : Array Value) (w : World), (Instr.makeFunc fn first cap).run Tryd.prog w = .ok (.func fn first cap) w := fun _ _ _ _ => rfl
  have kb := kp_alloc w (.cells #[.int .i64 nn] 3)
  have hc := box_cell w (.int .i64 nn) 3
  have HT := Lib.hid (try_bytes_own 50 #[.pointer (some ⟨w.heap.size, 0, none⟩)] (beF 8 n) (w.alloc (.cells #[.int .i64 nn] 3)) (by intro w; simp [go_sem]) fun w1 h1 => number1_any ads _ n hn nn hnn w1 (V.below (Kp.trans kb h1)) (kp_cell h1 hc))
  have KB := Lib.hid kb
  clear kb hc V hn
  go_enter Tryd.func28, Tryd.ntmps28
  go_wp2_with (go_at_call 23; (with_reducible refine HT.out.mono ?_); rintro e w' ⟨v, rfl, ho, hk⟩; have HK := Lib.hid hk; have HO := Lib.hid ho; clear hk ho)
  go_ret2
  exact ⟨_, rfl, own_mono HO.out (Below.size KB.out), Kp.trans KB.out HK.out⟩
end Go.Proofs.YtfginhckeogafaaDoor

namespace Go.Proofs.YtfginhckeogafaaDoor
open Go.RowKit Go.ChangeShapes Go.WideShapes

set_option maxRecDepth 20000 in
theorem toNumber1_form (ads : List Addr) (p : Addr) (a : Option Addr) (cap : Nat) (bs : List Int) (len : Nat) (hlen : bs.length = len) (h3 : 3 < ads.length) (hz : 0 < bs.length ∧ bs.getD 0 0 = 0) (w : World) (V : St ads w) (hp : w.cell? p = some (.slice a len cap)) (hs : SlB (.slice a len cap) bs w) :
    Calls Tryd.prog 72 #[.pointer (some p)] w fun e w' => e = .panicked [{ v := snt ads[3], recovered := false }] ∧ Kp w w' := by
  have c3 : w.cell? ⟨0, 0, none⟩ = some (snt ads[3]) := V.cell 3 (by decide)
  obtain ⟨e3, he3⟩ : ∃ a, ads[3] = a := ⟨_, rfl⟩
  rw [he3] at c3 ⊢
  obtain ⟨ll, hll⟩ : ∃ ll : Int, (len : Int) = ll := ⟨_, rfl⟩
  obtain ⟨b, off, rfl, hc⟩ := hs.at 0 hz.1
  rw [hz.2, Nat.add_zero] at hc
  have hd : (ll == 0) = false := by simp; omega
  have hpos : 0 < len := by omega
  have hposI : 0 < ll := by omega
  have KD := Lib.hid (Kp.refl w).drew
  clear hs hz hlen V he3
  go_enter Tryd.func72, Tryd.ntmps72
  go_wp2
  go_still_tail 10, (by kernel_rfl)
  change wpList _ _ _ _ _ w.drew
  go_wp2_with (go_at_call 51; (with_reducible refine (demand_f _ _).mono ?_); rintro e w' ⟨rfl, rfl⟩)
  exact ⟨rfl, rfl, KD.out⟩

/-- the first byte isn't 0 -/
def Lead (a : Option Addr) (len : Nat) (w : World) : Prop := len = 0 ∨ ∃ b off x, a = some ⟨b, off, none⟩ ∧ w.cell? ⟨b, off, none⟩ = some (.int .u8 x) ∧ (x != 0) = true ∧ 0 < len
theorem lead_of {a : Option Addr} {cap : Nat} {bs : List Int} {len : Nat} {w : World} (hlen : bs.length = len) (hs : SlB (.slice a len cap) bs w) (hz : ¬(0 < bs.length ∧ bs.getD 0 0 = 0)) : Lead a len w := by
  rcases Nat.eq_zero_or_pos len with q | q
  · exact .inl q
  · obtain ⟨b, off, h1, h2⟩ := hs.at 0 (by omega)
    rw [Nat.add_zero] at h2
    refine .inr ⟨b, off, _, h1, h2, ?_, q⟩
    simp only [bne_iff_ne, ne_eq]
    exact fun h => hz ⟨by omega, h⟩

set_option maxRecDepth 20000 in
theorem toNumber1_long (ads : List Addr) (p : Addr) (a : Option Addr) (cap len : Nat) (h8 : 8 < len) (h0 : 0 < ads.length) (w : World) (V : St ads w) (hp : w.cell? p = some (.slice a len cap)) (hz : Lead a len w) :
    Calls Tryd.prog 72 #[.pointer (some p)] w fun e w' => e = .panicked [{ v := snt (ads[0]'h0), recovered := false }] ∧ Kp w w' := by
  have h14 : ads.length = 14 := V.len
  obtain ⟨e3, c3⟩ : ∃ e3, w.cell? ⟨0, 0, none⟩ = some (snt e3) := ⟨ads[3]'(by omega), V.cell 3 (by decide)⟩
  have c0 : w.cell? ⟨1, 0, none⟩ = some (snt (ads[0]'h0)) := V.cell 0 (by decide)
  obtain ⟨e0, he0⟩ : ∃ a, ads[0]'h0 = a := ⟨_, rfl⟩
  rw [he0] at c0 ⊢
  obtain ⟨ll, hll⟩ : ∃ ll : Int, (len : Int) = ll := ⟨_, rfl⟩
  rcases hz with q | ⟨b, off, x, rfl, hc, hx, hpos⟩
  · omega
  have hd : (ll == 0) = false := by simp; omega
  have hle : decide (ll ≤ 8) = false := decide_eq_false (by omega)
  have hposI : 0 < ll := by omega
  have c0' : w.drew.cell? ⟨1, 0, none⟩ = some (snt e0) := c0
  have hp' : w.drew.cell? p = some (.slice (some ⟨b, off, none⟩) len cap) := hp
  have KD := Lib.hid (Kp.refl w).drew
  clear V he0 h14
  go_enter Tryd.func72, Tryd.ntmps72
  go_wp2
  go_still_tail 10, (by kernel_rfl)
  change wpList _ _ _ _ _ w.drew
  go_wp2_with (first | (go_at_call 51; (with_reducible refine (demand_t _ _).mono ?_); rintro e w' ⟨rfl, rfl⟩) | (go_at_call 51; (with_reducible refine (demand_f _ _).mono ?_); rintro e w' ⟨rfl, rfl⟩))
  exact ⟨rfl, rfl, KD.out⟩

set_option maxRecDepth 20000 in
theorem toNumber1_big (ads : List Addr) (p : Addr) (a : Option Addr) (cap : Nat) (bs : List Int) (len : Nat) (hlen : bs.length = len) (h8 : len ≤ 8) (hb : InB bs) (hbig : 9223372036854775807 < beNum bs) (h0 : 0 < ads.length) (w : World) (V : St ads w) (hp : w.cell? p = some (.slice a len cap)) (hs : SlB (.slice a len cap) bs w) (hz : Lead a len w) :
    Calls Tryd.prog 72 #[.pointer (some p)] w fun e w' => e = .panicked [{ v := snt (ads[0]'h0), recovered := false }] ∧ Kp w w' := by
  have h14 : ads.length = 14 := V.len
  obtain ⟨e3, c3⟩ : ∃ e3, w.cell? ⟨0, 0, none⟩ = some (snt e3) := ⟨ads[3]'(by omega), V.cell 3 (by decide)⟩
  have c0 : w.cell? ⟨1, 0, none⟩ = some (snt (ads[0]'h0)) := V.cell 0 (by decide)
  obtain ⟨e0, he0⟩ : ∃ a, ads[0]'h0 = a := ⟨_, rfl⟩
  rw [he0] at c0 ⊢
  have hv := fun w1 (hk : Kp w w1) => value_any a cap bs len hlen h8 hb w1 (hs.kp hk)
  obtain ⟨F, hF⟩ : ∃ F, beNum bs = F := ⟨_, rfl⟩
  simp only [hF] at hv
  rw [hF] at hbig
  have HV := Lib.hid hv
  have hle : decide (F ≤ 9223372036854775807) = false := decide_eq_false (by omega)
  obtain ⟨ll, hll⟩ : ∃ ll : Int, (len : Int) = ll := ⟨_, rfl⟩
  rcases hz with q | ⟨b, off, x, rfl, hc, hx, hpos⟩
  · subst q
    have hb0 : bs = [] := List.length_eq_zero_iff.1 hlen
    subst hb0
    have : F = 0 := by rw [← hF]; rfl
    omega
  have hd : (ll == 0) = false := by simp; omega
  have hle8 : ll ≤ 8 := by omega
  have hposI : 0 < ll := by omega
  have c0' : w.drew.cell? ⟨1, 0, none⟩ = some (snt e0) := c0
  have hp' : w.drew.cell? p = some (.slice (some ⟨b, off, none⟩) len cap) := hp
  have KD := Lib.hid (Kp.refl w).drew
  clear V he0 h14 hv hF hs hb hbig
  go_enter Tryd.func72, Tryd.ntmps72
  go_wp2
  go_still_tail 10, (by kernel_rfl)
  change wpList _ _ _ _ _ w.drew
  go_wp2_with (first | (go_at_call 51; (with_reducible refine (demand_t _ _).mono ?_); rintro e w' ⟨rfl, rfl⟩) | (go_at_call 51; (with_reducible refine (demand_f _ _).mono ?_); rintro e w' ⟨rfl, rfl⟩) | (go_at_call 63; (with_reducible refine (HV.out _ KD.out).mono ?_); rintro e w' ⟨rfl, rfl⟩))
  exact ⟨rfl, rfl, KD.out⟩

set_option maxRecDepth 20000 in
theorem toNumber1_ok (ads : List Addr) (p : Addr) (a : Option Addr) (cap : Nat) (bs : List Int) (len : Nat) (hlen : bs.length = len) (h8 : len ≤ 8) (hb : InB bs) (hsm : beNum bs ≤ 9223372036854775807) (w : World) (V : St ads w) (hp : w.cell? p = some (.slice a len cap)) (hs : SlB (.slice a len cap) bs w) (hz : Lead a len w) :
    Calls Tryd.prog 72 #[.pointer (some p)] w fun e w' => e = .returned (.int .i64 (beNum bs)) ∧ Kp w w' := by
  have h14 : ads.length = 14 := V.len
  obtain ⟨e3, c3⟩ : ∃ e3, w.cell? ⟨0, 0, none⟩ = some (snt e3) := ⟨ads[3]'(by omega), V.cell 3 (by decide)⟩
  obtain ⟨e0, c0⟩ : ∃ e0, w.cell? ⟨1, 0, none⟩ = some (snt e0) := ⟨ads[0]'(by omega), V.cell 0 (by decide)⟩
  have hv := fun w1 (hk : Kp w w1) => value_any a cap bs len hlen h8 hb w1 (hs.kp hk)
  have hr := beNum_range hb bs.length (Nat.le_refl _)
  rw [List.take_length] at hr
  obtain ⟨F, hF⟩ : ∃ F, beNum bs = F := ⟨_, rfl⟩
  simp only [hF] at hv hr ⊢
  rw [hF] at hsm
  have hF0 : 0 ≤ F := hr.1
  have HV := Lib.hid hv
  obtain ⟨ll, hll⟩ : ∃ ll : Int, (len : Int) = ll := ⟨_, rfl⟩
  have hle8 : ll ≤ 8 := by omega
  have c0' : w.drew.cell? ⟨1, 0, none⟩ = some (snt e0) := c0
  have KD := Lib.hid (Kp.refl w).drew
  have hp' : w.drew.cell? p = some (.slice a len cap) := hp
  clear V h14 hv hF hs hb hr
  rcases hz with q | ⟨b, off, x, rfl, hc, hx, hpos⟩
  · subst q
    have hd : ll = 0 := by omega
    subst hd
    go_enter Tryd.func72, Tryd.ntmps72
    go_wp2
    go_still_tail 10, (by kernel_rfl)
    change wpList _ _ _ _ _ w.drew
    go_wp2_with (first | (go_at_call 51; (with_reducible refine (demand_t _ _).mono ?_); rintro e w' ⟨rfl, rfl⟩) | (go_at_call 63; (with_reducible refine (HV.out _ KD.out).mono ?_); rintro e w' ⟨rfl, rfl⟩))
    go_ret
    exact ⟨rfl, KD.out⟩
  · have hd : (ll == 0) = false := by simp; omega
    have hposI : 0 < ll := by omega
    go_enter Tryd.func72, Tryd.ntmps72
    go_wp2
    go_still_tail 10, (by kernel_rfl)
    change wpList _ _ _ _ _ w.drew
    go_wp2_with (first | (go_at_call 51; (with_reducible refine (demand_t _ _).mono ?_); rintro e w' ⟨rfl, rfl⟩) | (go_at_call 63; (with_reducible refine (HV.out _ KD.out).mono ?_); rintro e w' ⟨rfl, rfl⟩))
    go_ret
    exact ⟨rfl, KD.out⟩

/-- THE ERROR of a number: 0 none. -/
def errN (ads : List Addr) (k : Int) : Value := if k = 0 then .nilIface else (ads[k.toNat - 1]?.map snt).getD .nilIface

theorem toNumber_err (ads : List Addr) (k : Nat) (hk : k < ads.length) (a : Option Addr) (cap len : Nat) (w : World) (V : St ads w)
    (H : ∀ w1, Kp w w1 → w1.cell? ⟨w.heap.size, 0, none⟩ = some (.slice a len cap) → Calls Tryd.prog 72 #[.pointer (some ⟨w.heap.size, 0, none⟩)] w1 fun e w' => e = .panicked [{ v := snt (ads[k]'hk), recovered := false }] ∧ Kp w1 w') :
    Calls Tryd.prog 65 #[.slice a len cap] w fun e w' => e = .returned (.tuple #[.int .i64 0, snt (ads[k]'hk)]) ∧ Kp w w' := by
  have hmf : ∀ (fn : Fn) (first cap : Array Value) (w : World), (Instr.makeFunc fn first cap).run Tryd.prog w = .ok (.func fn first cap) w := fun _ _ _ _ => rfl
  have kb := kp_alloc w (.cells #[.slice a len cap] 27)
  have hc := box_cell w (.slice a len cap) 27
  have HT := Lib.hid (try_int_err ads k hk 72 #[.pointer (some ⟨w.heap.size, 0, none⟩)] (w.alloc (.cells #[.slice a len cap] 27)) (V.below kb) (by intro w; simp [go_sem]) fun w1 h1 => H w1 (Kp.trans kb h1) (kp_cell h1 hc))
  have KB := Lib.hid kb
  clear kb hc V H
  go_enter Tryd.func65, Tryd.ntmps65
  go_wp2_with (go_at_call 71; (with_reducible refine HT.out.mono ?_); rintro e w' ⟨rfl, hk⟩; have HK := Lib.hid hk; clear hk)
  go_ret2
  exact ⟨rfl, Kp.trans KB.out HK.out⟩

theorem toNumber_val (x : Int) (a : Option Addr) (cap len : Nat) (w : World)
    (H : ∀ w1, Kp w w1 → w1.cell? ⟨w.heap.size, 0, none⟩ = some (.slice a len cap) → Calls Tryd.prog 72 #[.pointer (some ⟨w.heap.size, 0, none⟩)] w1 fun e w' => e = .returned (.int .i64 x) ∧ Kp w1 w') :
    Calls Tryd.prog 65 #[.slice a len cap] w fun e w' => e = .returned (.tuple #[.int .i64 x, .nilIface]) ∧ Kp w w' := by
  have hmf : ∀ (fn : Fn) (first cap : Array Value) (w : World), (Instr.makeFunc fn first cap).run Tryd.prog w = .ok (.func fn first cap) w := fun _ _ _ _ => rfl
  have kb := kp_alloc w (.cells #[.slice a len cap] 27)
  have hc := box_cell w (.slice a len cap) 27
  have HT := Lib.hid (try_int_val 72 #[.pointer (some ⟨w.heap.size, 0, none⟩)] x (w.alloc (.cells #[.slice a len cap] 27)) (by intro w; simp [go_sem]) fun w1 h1 => H w1 (Kp.trans kb h1) (kp_cell h1 hc))
  have KB := Lib.hid kb
  clear kb hc H
  go_enter Tryd.func65, Tryd.ntmps65
  go_wp2_with (go_at_call 71; (with_reducible refine HT.out.mono ?_); rintro e w' ⟨rfl, hk⟩; have HK := Lib.hid hk; clear hk)
  go_ret2
  exact ⟨rfl, Kp.trans KB.out HK.out⟩

theorem toNumber_any (ads : List Addr) (a : Option Addr) (cap : Nat) (bs : List Int) (len : Nat) (hlen : bs.length = len) (hb : InB bs) (w : World) (V : St ads w) (hs : SlB (.slice a len cap) bs w) :
    Calls Tryd.prog 65 #[.slice a len cap] w fun e w' => e = .returned (.tuple #[.int .i64 (toNum bs).1, errN ads (toNum bs).2]) ∧ Kp w w' := by
  have h14 : ads.length = 14 := V.len
  have h0 : 0 < ads.length := by omega
  have h3 : 3 < ads.length := by omega
  have e1 : errN ads 1 = snt (ads[0]'h0) := by unfold errN; simp [List.getElem?_eq_getElem h0]
  have e4 : errN ads 4 = snt (ads[3]'h3) := by unfold errN; simp [List.getElem?_eq_getElem h3]
  unfold toNum
  split
  · rename_i hz
    simp only [e4]
    exact toNumber_err ads 3 h3 a cap len w V fun w1 hk hc => toNumber1_form ads _ a cap bs len hlen h3 hz w1 (V.below hk) hc (hs.kp hk)
  · rename_i hz
    split
    · simp only [e1]
      exact toNumber_err ads 0 h0 a cap len w V fun w1 hk hc => toNumber1_long ads _ a cap len (by omega) h0 w1 (V.below hk) hc (lead_of hlen (hs.kp hk) hz)
    · rename_i h8
      split
      · rename_i hbig
        simp only [e1]
        exact toNumber_err ads 0 h0 a cap len w V fun w1 hk hc => toNumber1_big ads _ a cap bs len hlen (by omega) hb hbig h0 w1 (V.below hk) hc (hs.kp hk) (lead_of hlen (hs.kp hk) hz)
      · rename_i hbig
        exact toNumber_val (beNum bs) a cap len w fun w1 hk hc => toNumber1_ok ads _ a cap bs len hlen (by omega) hb (by omega) w1 (V.below hk) hc (hs.kp hk) (lead_of hlen (hs.kp hk) hz)
end Go.Proofs.YtfginhckeogafaaDoor

namespace Go.Proofs.YtfginhckeogafaaDoor
open Go.RowKit Go.ChangeShapes Go.WideShapes

/-- An append of the call's own row turns no block below its base. -/
theorem box_grow {w w' : World} {base n size : Nat} {e : TypeId} {v : Value} {xs : List Value} {o : Obj} {b : Nat} (hown : w.ownsRow base e size v n xs) (hgr : w.grownBy w' v.ownBlock) (hb : w.heap[b]? = some o) (hlt : b < base) : w'.heap[b]? = some o := by
  obtain ⟨-, hr⟩ := hown
  rcases hr with ⟨rfl, -⟩ | ⟨g, cap, cur, rfl, hg, hh, -⟩
  · rw [hgr.block b (old_of_row hb) (by simp [Value.ownBlock])]; exact hb
  · rw [hgr.block b (old_of_row hb) (by intro q; simp [Value.ownBlock] at q; omega)]; exact hb

theorem dig2 (n : Nat) (h : n ≤ 200) : digB n 2 = [0, (n : Int)] := by
  unfold digB fb
  simp [List.range_succ]
  omega

theorem cell_two0 {w : World} {b : Nat} {x y : Value} {t : TypeId} {f : Nat × Nat} (h : w.heap[b]? = some (.cells #[x, y] t f)) : w.cell? ⟨b, 0, none⟩ = some x := by
  unfold World.cell?; dsimp only; rw [h]; rfl
theorem cell_two1 {w : World} {b : Nat} {x y : Value} {t : TypeId} {f : Nat × Nat} (h : w.heap[b]? = some (.cells #[x, y] t f)) : w.cell? ⟨b, 1, none⟩ = some y := by
  unfold World.cell?; dsimp only; rw [h]; rfl

theorem own_nil (w : World) (base : Nat) (e : TypeId) : w.ownsRow base e 1 (.slice none 0 0) 0 [] := ⟨by simp, .inl ⟨rfl, rfl⟩⟩

set_option maxRecDepth 20000 in
set_option maxHeartbeats 2000000 in
theorem join1_any (ads : List Addr) (h3' : 3 < ads.length) (p : Addr) (a : Option Addr) (cap : Nat) (fs : List (Int × List Int)) (len : Nat) (hlen : fs.length = len) (hl : len ≤ 100000) (w : World) (V : St ads w) (hp : w.cell? p = some (.slice a len cap)) (hs : SlQ (.slice a len cap) fs w) :
    Calls Tryd.prog 54 #[.pointer (some p)] w fun e w' => ((runQ 0 0 fs = true ∧ ∃ v, e = .returned v ∧ w'.ownsRow w.heap.size 5 1 v (joinB fs).length ((joinB fs).map (Value.int .u8))) ∨ (runQ 0 0 fs = false ∧ e = .panicked [{ v := snt (ads[3]'h3'), recovered := false }])) ∧ Kp w w' := by
  have hel : ∀ wr, Kp w wr → ∀ j (hj : j < fs.length), ∃ b off, a = some ⟨b, off, none⟩ ∧ wr.cell? ⟨b, off + j * 2, none⟩ = some (.int .i64 fs[j].1) ∧ ∃ a' c, wr.cell? ⟨b, off + j * 2 + 1, none⟩ = some (.slice a' fs[j].2.length c) ∧ SlB (.slice a' fs[j].2.length c) fs[j].2 wr ∧ InB fs[j].2 :=
    fun wr hk j hj => (hs.kp hk).at j hj
  obtain ⟨i0, hi, hz0, hz1, hz2⟩ := info_parts info_byte
  have HI := Lib.hid (And.intro hz1 hz2)
  have HI2 := Lib.hid hi
  have HI3 := Lib.hid hz0
  have HEL := Lib.hid hel
  have HL := Lib.hid hlen
  have HV := Lib.hid V
  obtain ⟨R, hR⟩ : ∃ R, runQ 0 0 fs = R := ⟨_, rfl⟩
  rw [hR]
  have HR := Lib.hid hR
  obtain ⟨ea, hea⟩ : ∃ ea, ads[3]'h3' = ea := ⟨_, rfl⟩
  rw [hea]
  have HEA := Lib.hid hea
  clear hel hs hlen hz1 hz2 hi hz0 V hR hea
  go_enter Tryd.func54, Tryd.ntmps54
  go_wp2_with (go_at_call 55; (with_reducible refine (newRow_any _).mono ?_); rintro e w1 ⟨rfl, hp1, hq1, hsz1, hk1⟩; have hpp := kp_cell hk1 hp; have HP1 := Lib.hid hp1; have HQ1 := Lib.hid hq1; have HS1 := Lib.hid hsz1; have HK1 := Lib.hid hk1; clear hp1 hq1 hsz1 hk1)
  go_loopw [2, 9] (fun v i wr => ∃ (j : Nat) (last : Int), j ≤ len ∧ j ≤ 16 ∧ i = .int .i64 j ∧ Kp w wr ∧ w1.heap.size ≤ wr.heap.size ∧ wr.heap[w.heap.size]? = some (boxI j) ∧ wr.heap[w.heap.size + 1]? = some (boxI last) ∧ (joinB (fs.take j)).length ≤ 203 * j ∧ 0 ≤ last ∧ R = runQ j last (fs.drop j) ∧ wr.ownsRow w1.heap.size 5 1 v (joinB (fs.take j)).length ((joinB (fs.take j)).map (Value.int .u8))) (fun _ i _ => len - (intOf i).toNat)
  case atStart => exact ⟨0, 0, Nat.zero_le _, by omega, rfl, HK1.out, Nat.le_refl _, HP1.out, HQ1.out, by simp [joinB], Int.le_refl _, by rw [← HR.out]; rfl, own_nil _ _ _⟩
  case round =>
    obtain ⟨j, last, hj, hj16, rfl, hk, hw1, hbp, hbq, hjb, hlast, hRj, hown⟩ := hrel
    have HK := Lib.hid hk
    have HOW := Lib.hid hown
    have HBP := Lib.hid hbp
    have HBQ := Lib.hid hbq
    have HW1 := Lib.hid hw1
    have HJB := Lib.hid hjb
    have hln := HL.out
    clear hk hown hbp hbq hw1 hjb
    obtain ⟨jj, hjj⟩ : ∃ jj : Int, (j : Int) = jj := ⟨_, rfl⟩
    rw [hjj]
    by_cases hlt : j < len
    · have hjl : j < fs.length := by omega
      obtain ⟨b, off, rfl, c0, a1, k1, c1, h1, h2⟩ := HEL.out w (Kp.refl _) j hjl
      have c0 := kp_cell HK.out c0
      have c1 := kp_cell HK.out c1
      rw [List.drop_eq_getElem_cons hjl, runQ] at hRj
      have hjn := joinB_next hjl
      obtain ⟨tj, htj⟩ : ∃ tj, fs[j].1 = tj := ⟨_, rfl⟩
      obtain ⟨bs, hbs⟩ : ∃ bs, fs[j].2 = bs := ⟨_, rfl⟩
      have hfb : fieldB fs[j] = [tj, 0, (bs.length : Int)] ++ bs := by simp only [fieldB, htj, hbs]
      rw [htj] at c0 hRj
      rw [hbs] at c1 h1 hRj
      rw [hfb] at hjn
      obtain ⟨n1, hn1⟩ : ∃ n1, bs.length = n1 := ⟨_, rfl⟩
      rw [hn1] at c1 h1 hRj hjn
      obtain ⟨jb, hjbe⟩ : ∃ jb, joinB (fs.take j) = jb := ⟨_, rfl⟩
      rw [hjbe] at HOW hjn HJB
      obtain ⟨m1, hm1⟩ : ∃ m1 : Int, (n1 : Int) = m1 := ⟨_, rfl⟩
      have ej : jj.toNat = j := by omega
      rw [← ej] at c0 c1
      have hj0 : 0 ≤ jj := by omega
      have hltj : jj < len := by omega
      have HJ := Lib.hid hjj
      have HJN := Lib.hid hjn
      have HN1 := Lib.hid hn1
      have HB1 := Lib.hid h1
      have KF := Lib.hid (kp_alloc wr (.cells #[.int .i64 tj, .slice a1 n1 k1] 58))
      have BF : Hid ((wr.alloc (.cells #[.int .i64 tj, .slice a1 n1 k1] 58)).heap[wr.heap.size]? = some (.cells #[.int .i64 tj, .slice a1 n1 k1] 58 (0, 0))) := Lib.hid (MapKept.heap_alloc wr _).1
      by_cases hm : mayQ j last tj n1
      · rw [decide_eq_true hm, Bool.true_and] at hRj
        have het := enter_t ads w.heap.size (w.heap.size + 1) j jj last tj n1 m1 HJ.out hm1 (wr.alloc (.cells #[.int .i64 tj, .slice a1 n1 k1] 58)) (HV.out.below (Kp.trans HK.out KF.out)) (kp_row KF.out (by rw [← HJ.out]; exact HBP.out)) (kp_row KF.out HBQ.out) (by omega) hm
        have hent : Calls Tryd.prog 67 #[.int .i64 tj, .int .i64 m1, .pointer (some ⟨w.heap.size, 0, none⟩), .pointer (some ⟨w.heap.size + 1, 0, none⟩)] (wr.alloc (.cells #[.int .i64 tj, .slice a1 n1 k1] 58)) fun e w' => e = .returned (.tuple #[]) ∧ Kp w w' ∧ w1.heap.size ≤ w'.heap.size ∧ w'.heap[w.heap.size]? = some (boxI (jj + 1)) ∧ w'.heap[w.heap.size + 1]? = some (boxI tj) ∧ w'.heap[wr.heap.size]? = some (.cells #[.int .i64 tj, .slice a1 n1 k1] 58 (0, 0)) ∧ w'.ownsRow w1.heap.size 5 1 u2 jb.length (jb.map (Value.int .u8)) := by
          refine het.mono ?_
          rintro e w' ⟨rfl, rfl⟩
          have hs1 := HS1.out
          have hww := HW1.out
          have r1 := one_setCell (u := .int .i64 (jj + 1)) (kp_row KF.out (show wr.heap[w.heap.size]? = some (boxI jj) by rw [← HJ.out]; exact HBP.out))
          refine ⟨rfl, ((Kp.trans HK.out KF.out).setCell (show w.heap.size ≤ w.heap.size by omega) _).setCell (show w.heap.size ≤ w.heap.size + 1 by omega) _, ?_, ?_, ?_, ?_, ?_⟩
          · simp; omega
          · rw [Below.heap_setCell _ _ _ _ (by simp)]; exact r1
          · exact one_setCell (by rw [Below.heap_setCell _ _ _ _ (by simp)]; exact kp_row KF.out HBQ.out)
          · rw [Below.heap_setCell _ _ _ _ (by simp; omega), Below.heap_setCell _ _ _ _ (by simp; omega)]; exact BF.out
          · exact ownsRow_setCell_below (ownsRow_setCell_below (own_kp HOW.out KF.out) (show w.heap.size < w1.heap.size by omega) _) (show w.heap.size + 1 < w1.heap.size by omega) _
        have HET := Lib.hid hent
        obtain ⟨g1, g2, g3, g4⟩ := hm
        have HRJ := Lib.hid hRj
        have q4 : 0 ≤ tj ∧ tj ≤ 255 := by omega
        have q3 : 0 ≤ m1 ∧ m1 ≤ 200 := by omega
        have HDG := Lib.hid (fun w => digits_any n1 2 (by omega) (by omega) m1 2 hm1 rfl w)
        have HD2 := Lib.hid (dig2 n1 g4)
        clear het hent hRj hjj ej htj hn1 hbs hfb h1 h2 hln hlt hjn hjbe
        go_wp2_with (first | (go_at_call 67; (with_reducible refine HET.out.mono ?_); rintro e wE ⟨rfl, hkE, hwE, hpE, hqE, hfE, hoE⟩; have KE := Lib.hid hkE; have WE := Lib.hid hwE; have PE := Lib.hid hpE; have QE := Lib.hid hqE; have FE := Lib.hid hfE; have cf0 := cell_two0 hfE; have cf1 := cell_two1 hfE; have KA := Lib.hid (kp_alloc wE (.cells #[.int .u8 tj] 5)); have WB := Lib.hid (own_kp hoE KA.out); have NB := Lib.hid (box_cell wE (.int .u8 tj) 5); have KB := Lib.hid (Kp.trans hkE KA.out); clear hkE hwE hpE hqE hfE hoE) | (at_builtin; refine wpList_append_own _ rfl (.tmp 20) (.tmp 24) 27 rfl w1.heap.size 5 i0 (.int .u8 0) 1 1 Tryd.underlying27 HI2.out HI3.out HI.out.1 HI.out.2 rfl (by decide) _ _ _ rfl WB.out ⟨wE.heap.size, 0, none⟩ 1 1 [.int .u8 tj] rfl ?c1 ?c2 ?c3 ?c4 ?c5 ?c6 ?_))
        case c1 => rfl
        case c2 =>
          intro i u hi
          match i, hi with
          | 0, hi => simp at hi; subst hi; rw [add_plain]; exact NB.out
        case c3 => intro u hu; simp at hu; subst hu; rfl
        case c4 => have := HJB.out; unfold maxLen; omega
        case c5 => have := HJB.out; omega
        case c6 => have := Below.size KA.out; have := WE.out; omega
        rintro v5 w5 hown5 hgr5 -
        have hbase : w.heap.size ≤ w1.heap.size := by have := HS1.out; omega
        have kp5 : Kp w w5 := row_kp (own_mono WB.out hbase) hgr5 KB.out
        have b5p := box_grow WB.out hgr5 (kp_row KA.out PE.out) (by have := HS1.out; omega)
        have b5q := box_grow WB.out hgr5 (kp_row KA.out QE.out) (by have := HS1.out; omega)
        have b5f := row_grow WB.out hgr5 _ _ _ (kp_row KA.out FE.out) (by decide)
        have s5 : w1.heap.size ≤ w5.heap.size := by have := hgr5.size; have := Below.size KA.out; have := WE.out; omega
        have OW5 := Lib.hid hown5
        have KP5 := Lib.hid kp5
        have B5P := Lib.hid b5p
        have B5Q := Lib.hid b5q
        have B5F := Lib.hid b5f
        have S5 := Lib.hid s5
        have cg1 := cell_two1 b5f
        clear hown5 hgr5 kp5 b5p b5q b5f s5 cf0 cf1
        go_wp2_with (first | (go_at_call 52; (with_reducible refine (HDG.out _).mono ?_); rintro e w6 ⟨rfl, ho6, hk6⟩; have K6 := Lib.hid hk6; have hs6 := own_slb ho6; rw [HD2.out] at hs6; have S6 := Lib.hid hs6; have OW6 := Lib.hid (own_kp OW5.out hk6); have cg2 := kp_cell hk6 cg1; clear ho6 hk6 hs6) | (at_builtin; refine wpList_append_slb _ rfl (.tmp 26) (.tmp 31) rfl w1.heap.size _ _ _ rfl OW6.out (some ⟨w5.heap.size, 0, none⟩) 2 2 [0, (n1 : Int)] rfl S6.out ?d1 ?d2 ?_))
        case d1 => have := HJB.out; omega
        case d2 => have := Below.size K6.out; have := S5.out; omega
        rintro v7 w7 hown7 hgr7 -
        have hbase : w.heap.size ≤ w1.heap.size := by have := HS1.out; omega
        have kp7 : Kp w w7 := row_kp (own_mono OW6.out hbase) hgr7 (Kp.trans KP5.out K6.out)
        have b7p := box_grow OW6.out hgr7 (kp_row K6.out B5P.out) (by have := HS1.out; omega)
        have b7q := box_grow OW6.out hgr7 (kp_row K6.out B5Q.out) (by have := HS1.out; omega)
        have b7f := row_grow OW6.out hgr7 _ _ _ (kp_row K6.out B5F.out) (by decide)
        have s7 : w1.heap.size ≤ w7.heap.size := by have := hgr7.size; have := Below.size K6.out; have := S5.out; omega
        have OW7 := Lib.hid hown7
        have KP7 := Lib.hid kp7
        have B7P := Lib.hid b7p
        have B7Q := Lib.hid b7q
        have S7 := Lib.hid s7
        have ch1 := cell_two1 b7f
        have HB7 := Lib.hid (HB1.out.kp kp7)
        clear hown7 hgr7 kp7 b7p b7q b7f s7 cg1 cg2
        go_wp2_with (at_builtin; refine wpList_append_slb _ rfl (.tmp 33) (.tmp 35) rfl w1.heap.size _ _ _ rfl OW7.out a1 n1 k1 bs rfl HB7.out ?e1 ?e2 ?_)
        case e1 => have := HJB.out; omega
        case e2 => exact S7.out
        rintro v8 w8 hown8 hgr8 -
        have hbase : w.heap.size ≤ w1.heap.size := by have := HS1.out; omega
        have kp8 : Kp w w8 := row_kp (own_mono OW7.out hbase) hgr8 KP7.out
        have b8p := box_grow OW7.out hgr8 B7P.out (by have := HS1.out; omega)
        have b8q := box_grow OW7.out hgr8 B7Q.out (by have := HS1.out; omega)
        have s8 : w1.heap.size ≤ w8.heap.size := by have := hgr8.size; have := S7.out; omega
        have hjl8 : (joinB (fs.take (j + 1))).length = jb.length + 1 + 2 + n1 := by rw [HJN.out]; simp [HN1.out]; omega
        have own8 : w8.ownsRow w1.heap.size 5 1 v8 (joinB (fs.take (j + 1))).length ((joinB (fs.take (j + 1))).map (Value.int .u8)) := by
          rw [hjl8, HJN.out]
          have e2 : (jb ++ ([tj, 0, (n1 : Int)] ++ bs)).map (Value.int .u8) = jb.map (Value.int .u8) ++ .int .u8 tj :: .int .u8 0 :: .int .u8 m1 :: bs.map (Value.int .u8) := by simp [hm1]
          rw [e2]
          exact hown8
        have hlen8 : (joinB (fs.take (j + 1))).length ≤ 203 * (j + 1) := by have := HJB.out; omega
        have O8 := Lib.hid own8
        have K8 := Lib.hid kp8
        have B8P := Lib.hid b8p
        have B8Q := Lib.hid b8q
        have S8 := Lib.hid s8
        have L8 := Lib.hid hlen8
        clear own8 kp8 b8p b8q s8 hjl8 hlen8 hown8 hgr8 ch1
        go_wp2
        have hjj := HJ.out
        go_roundw
        case rel =>
          have e1 : ((j + 1 : Nat) : Int) = jj + 1 := by omega
          exact ⟨j + 1, tj, by omega, by omega, by rw [e1], K8.out, S8.out, by rw [e1]; exact B8P.out, B8Q.out, L8.out, q4.1, HRJ.out, O8.out⟩
        case measure => simp [intOf]; omega
      · rw [decide_eq_false hm, Bool.false_and] at hRj
        have hef := enter_f ads h3' w.heap.size (w.heap.size + 1) j jj last tj n1 m1 HJ.out hm1 (wr.alloc (.cells #[.int .i64 tj, .slice a1 n1 k1] 58)) (HV.out.below (Kp.trans HK.out KF.out)) (kp_row KF.out (by rw [← HJ.out]; exact HBP.out)) (kp_row KF.out HBQ.out) hm
        rw [HEA.out] at hef
        have HEF := Lib.hid hef
        have HRJ := Lib.hid hRj
        clear hef hRj hjj ej htj hn1 hbs hfb h1 h2 hln hlt hjn hjbe hm
        go_wp2_with (go_at_call 67; (with_reducible refine HEF.out.mono ?_); rintro e wE ⟨rfl, rfl⟩)
        exact ⟨rfl, .inr ⟨HRJ.out, rfl⟩, Kp.trans HK.out KF.out⟩
    · obtain rfl : j = len := by omega
      have hex : ¬ jj < j := by omega
      have hful : fs.take j = fs := by rw [List.take_of_length_le]; omega
      have hdr : fs.drop j = [] := by rw [List.drop_of_length_le]; omega
      have ho := HOW.out
      rw [hful] at ho
      rw [hdr, runQ] at hRj
      have HO := Lib.hid ho
      have HRJ := Lib.hid hRj
      clear hjj hful ho hdr hRj hln hlt
      go_wp2
      go_ret
      have hbase : w.heap.size ≤ w1.heap.size := by have := HS1.out; omega
      exact ⟨.inl ⟨HRJ.out, _, rfl, own_mono HO.out hbase⟩, HK.out⟩
end Go.Proofs.YtfginhckeogafaaDoor

namespace Go.Proofs.YtfginhckeogafaaDoor
open Go.RowKit Go.ChangeShapes Go.WideShapes

theorem join_ok (ads : List Addr) (a : Option Addr) (cap : Nat) (fs : List (Int × List Int)) (len : Nat) (hlen : fs.length = len) (hl : len ≤ 100000) (w : World) (V : St ads w) (hs : SlQ (.slice a len cap) fs w) (hr : runQ 0 0 fs = true) :
    Calls Tryd.prog 29 #[.slice a len cap] w fun e w' => ∃ v, e = .returned (.tuple #[v, .nilIface]) ∧ w'.ownsRow w.heap.size 5 1 v (joinB fs).length ((joinB fs).map (Value.int .u8)) ∧ Kp w w' := by
  have hmf : ∀ (fn : Fn) (first cap : Array Value) (w : World), (Instr.makeFunc fn first cap).run Tryd.prog w = .ok (.func fn first cap) w := fun _ _ _ _ => rfl
  have h3 : 3 < ads.length := by rw [V.len]; decide
  have kb := kp_alloc w (.cells #[.slice a len cap] 50)
  have hc := box_cell w (.slice a len cap) 50
  have HT := Lib.hid (try_bytes_own 54 #[.pointer (some ⟨w.heap.size, 0, none⟩)] (joinB fs) (w.alloc (.cells #[.slice a len cap] 50)) (by intro w; simp [go_sem]) fun w1 h1 => by
    refine (join1_any ads h3 ⟨w.heap.size, 0, none⟩ a cap fs len hlen hl w1 (V.below (Kp.trans kb h1)) (kp_cell h1 hc) (hs.kp (Kp.trans kb h1))).mono ?_
    rintro e w2 ⟨⟨_, v, rfl, ho⟩ | ⟨hf, _⟩, hk⟩
    · exact ⟨v, rfl, ho, hk⟩
    · rw [hr] at hf; cases hf)
  have KB := Lib.hid kb
  clear kb hc V hs hl hr
  go_enter Tryd.func29, Tryd.ntmps29
  go_wp2_with (go_at_call 23; (with_reducible refine HT.out.mono ?_); rintro e w' ⟨v, rfl, ho, hk⟩; have HK := Lib.hid hk; have HO := Lib.hid ho; clear hk ho)
  go_ret2
  exact ⟨_, rfl, own_mono HO.out (Below.size KB.out), Kp.trans KB.out HK.out⟩

theorem join_err (ads : List Addr) (h3 : 3 < ads.length) (a : Option Addr) (cap : Nat) (fs : List (Int × List Int)) (len : Nat) (hlen : fs.length = len) (hl : len ≤ 100000) (w : World) (V : St ads w) (hs : SlQ (.slice a len cap) fs w) (hr : runQ 0 0 fs = false) :
    Calls Tryd.prog 29 #[.slice a len cap] w fun e w' => e = .returned (.tuple #[.slice none 0 0, snt (ads[3]'h3)]) ∧ Kp w w' := by
  have hmf : ∀ (fn : Fn) (first cap : Array Value) (w : World), (Instr.makeFunc fn first cap).run Tryd.prog w = .ok (.func fn first cap) w := fun _ _ _ _ => rfl
  have kb := kp_alloc w (.cells #[.slice a len cap] 50)
  have hc := box_cell w (.slice a len cap) 50
  have HT := Lib.hid (try_bytes_err ads 3 h3 54 #[.pointer (some ⟨w.heap.size, 0, none⟩)] (w.alloc (.cells #[.slice a len cap] 50)) (V.below kb) (by intro w; simp [go_sem]) fun w1 h1 => by
    refine (join1_any ads h3 ⟨w.heap.size, 0, none⟩ a cap fs len hlen hl w1 (V.below (Kp.trans kb h1)) (kp_cell h1 hc) (hs.kp (Kp.trans kb h1))).mono ?_
    rintro e w2 ⟨⟨hf, _⟩ | ⟨_, rfl⟩, hk⟩
    · rw [hr] at hf; cases hf
    · exact ⟨rfl, hk⟩)
  have KB := Lib.hid kb
  clear kb hc V hs hl hr
  go_enter Tryd.func29, Tryd.ntmps29
  go_wp2_with (go_at_call 23; (with_reducible refine HT.out.mono ?_); rintro e w' ⟨rfl, hk⟩; have HK := Lib.hid hk; clear hk)
  go_ret2
  exact ⟨rfl, Kp.trans KB.out HK.out⟩
end Go.Proofs.YtfginhckeogafaaDoor

namespace Go.Proofs.YtfginhckeogafaaDoor
open Go.RowKit Go.ChangeShapes Go.WideShapes

theorem slb_take {b off n c m : Nat} {bs : List Int} {w : World} (h : SlB (.slice (some ⟨b, off, none⟩) n c) bs w) (hm : m ≤ n) : SlB (.slice (some ⟨b, off, none⟩) m c) (bs.take m) w := by
  have hl := h.len
  rcases Nat.eq_zero_or_pos m with rfl | hp
  · exact .inl ⟨by simp, _, c, rfl, fun h => by cases h⟩
  · rcases h with ⟨rfl, _⟩ | ⟨b', off', c', h0, hv, hc⟩
    · simp at hl; omega
    · injection hv with h1 h2 h3
      injection h1 with h1
      injection h1 with h4 h5
      subst h4 h5
      have hml : (bs.take m).length = m := by simp; omega
      refine .inr ⟨b, off, c, by omega, by rw [hml], fun j hj => ?_⟩
      rw [hc j (by omega)]
      simp [List.getD, show j < m by omega]
theorem slb_drop {b off n c m : Nat} {bs : List Int} {w : World} (h : SlB (.slice (some ⟨b, off, none⟩) n c) bs w) (hm : m ≤ n) (hnc : n ≤ c) : SlB (.slice (some ⟨b, if c = m then off else off + m, none⟩) (n - m) (c - m)) (bs.drop m) w := by
  have hl := h.len
  rcases Nat.eq_zero_or_pos (n - m) with hz | hp
  · rw [hz]
    exact .inl ⟨by rw [List.drop_of_length_le]; omega, _, _, rfl, fun h => by cases h⟩
  · have hcm : ¬ c = m := by omega
    rw [if_neg hcm]
    rcases h with ⟨rfl, _⟩ | ⟨b', off', c', h0, hv, hc⟩
    · simp at hl; omega
    · injection hv with h1 h2 h3
      injection h1 with h1
      injection h1 with h4 h5
      subst h4 h5
      have hml : (bs.drop m).length = n - m := by simp; omega
      refine .inr ⟨b, off + m, c - m, by omega, by rw [hml], fun j hj => ?_⟩
      rw [Nat.add_assoc, hc (m + j) (by omega)]
      simp [List.getD, List.getElem?_drop]

theorem byte_elem : Tryd.prog.elem 27 = 5 := by simp [Program.elem, Tryd.underlying27]
theorem byte_sl : Tryd.prog.underlying 27 = some (.slice (Tryd.prog.elem 27)) := by simp [Program.elem, Tryd.underlying27]
theorem run_head {b off n c m : Nat} {mm : Int} (hmm : (m : Int) = mm) (hm : m ≤ n) (hnc : n ≤ c) (w : World) :
    (Instr.slice 27 (.slice (some ⟨b, off, none⟩) n c) none (some (.int .i64 mm)) none).run Tryd.prog w = .ok (.slice (some ⟨b, off, none⟩) m c) w := by
  rw [run_slice_h w 27 _ _ _ byte_sl .i64 _ (by omega) (by omega), byte_elem, byte_sz]
  have e : mm.toNat = m := by omega
  simp [Result.andThen, sliced, Addr.add, e]
theorem run_tail {b off n c m : Nat} {mm : Int} (hmm : (m : Int) = mm) (hm : m ≤ n) (w : World) :
    (Instr.slice 27 (.slice (some ⟨b, off, none⟩) n c) (some (.int .i64 mm)) none none).run Tryd.prog w = .ok (.slice (some ⟨b, if c = m then off else off + m, none⟩) (n - m) (c - m)) w := by
  rw [run_slice_l w 27 _ _ _ byte_sl .i64 _ (by omega) (by omega), byte_elem, byte_sz]
  have e : mm.toNat = m := by omega
  simp [Result.andThen, sliced, Addr.add, e]
  split <;> simp

/-- A BOX OF A SLICE OF BYTES. -/
abbrev boxS (v : Value) : Obj := .cells #[v] 27 (0, 0)

theorem take_ok (ads : List Addr) (p b off n c m : Nat) (mm : Int) (hmm : (m : Int) = mm) (hm : m ≤ n) (hnc : n ≤ c) (w : World) (V : St ads w) (hp : w.heap[p]? = some (boxS (.slice (some ⟨b, off, none⟩) n c))) :
    Calls Tryd.prog 62 #[.int .i64 mm, .pointer (some ⟨p, 0, none⟩)] w fun e w' => e = .returned (.slice (some ⟨b, off, none⟩) m c) ∧ w' = w.setCell ⟨p, 0, none⟩ (.slice (some ⟨b, if c = m then off else off + m, none⟩) (n - m) (c - m)) := by
  have h14 : ads.length = 14 := V.len
  obtain ⟨e1, c1⟩ : ∃ e1, w.cell? ⟨2, 0, none⟩ = some (snt e1) := ⟨ads[1]'(by omega), V.cell 1 (by decide)⟩
  have cp := cell_of_one hp
  have zp := free_of_one hp
  have s1 := fun w => run_head (b := b) (off := off) hmm hm hnc w
  have s2 := fun w => run_tail (b := b) (off := off) (c := c) hmm hm w
  obtain ⟨o2, ho2⟩ : ∃ o2, (if c = m then off else off + m) = o2 := ⟨_, rfl⟩
  obtain ⟨n2, hn2⟩ : ∃ n2, n - m = n2 := ⟨_, rfl⟩
  obtain ⟨c2, hc2⟩ : ∃ c2, c - m = c2 := ⟨_, rfl⟩
  rw [ho2, hn2, hc2] at s2 ⊢
  have hle : mm ≤ n := by omega
  clear V h14 ho2 hn2 hc2 hmm hm hnc
  go_enter Tryd.func62, Tryd.ntmps62
  go_wp2_with (go_at_call 51; (with_reducible refine (demand_t _ _).mono ?_); rintro e w' ⟨rfl, rfl⟩)
  go_ret
  exact ⟨rfl, rfl⟩

theorem take_short (ads : List Addr) (h1 : 1 < ads.length) (p : Nat) (a : Option Addr) (n c m : Nat) (mm : Int) (hmm : (m : Int) = mm) (hm : n < m) (w : World) (V : St ads w) (hp : w.heap[p]? = some (boxS (.slice a n c))) :
    Calls Tryd.prog 62 #[.int .i64 mm, .pointer (some ⟨p, 0, none⟩)] w fun e w' => e = .panicked [{ v := snt (ads[1]'h1), recovered := false }] ∧ w = w' := by
  have c1 : w.cell? ⟨2, 0, none⟩ = some (snt (ads[1]'h1)) := V.cell 1 (by decide)
  obtain ⟨e1, he1⟩ : ∃ a, ads[1]'h1 = a := ⟨_, rfl⟩
  rw [he1] at c1 ⊢
  have cp := cell_of_one hp
  have hle : decide (mm ≤ n) = false := decide_eq_false (by omega)
  clear V he1 hmm hm
  go_enter Tryd.func62, Tryd.ntmps62
  go_wp2_with (go_at_call 51; (with_reducible refine (demand_f _ _).mono ?_); rintro e w' ⟨rfl, rfl⟩)
  exact ⟨rfl, rfl, rfl⟩
end Go.Proofs.YtfginhckeogafaaDoor

