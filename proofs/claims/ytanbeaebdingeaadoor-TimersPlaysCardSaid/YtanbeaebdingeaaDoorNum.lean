/-
  liaisonnum.Num (own work): the number of nil, and of each of package api's errors.
-/
import Derived.Test.YtanbeaebdingeaaDoorErr
namespace Go.Proofs.YtanbeaebdingeaaDoor
open Go.RowKit Go.Stop

def gs14 : List Nat := [0, 1, 2, 3, 4, 5, 6, 7, 8, 9, 10, 11, 12, 13]
def text14 : List (String × List UInt8) := [("liaison/api.ErrRange", [108, 105, 97, 105, 115, 111, 110, 58, 32, 114, 97, 110, 103, 101]), ("liaison/api.ErrShort", [108, 105, 97, 105, 115, 111, 110, 58, 32, 115, 104, 111, 114, 116]), ("liaison/api.ErrLong", [108, 105, 97, 105, 115, 111, 110, 58, 32, 108, 111, 110, 103]), ("liaison/api.ErrForm", [108, 105, 97, 105, 115, 111, 110, 58, 32, 102, 111, 114, 109]), ("liaison/api.ErrCheck", [108, 105, 97, 105, 115, 111, 110, 58, 32, 99, 104, 101, 99, 107]), ("liaison/api.ErrFull", [108, 105, 97, 105, 115, 111, 110, 58, 32, 102, 117, 108, 108]), ("liaison/api.ErrPower", [108, 105, 97, 105, 115, 111, 110, 58, 32, 112, 111, 119, 101, 114]), ("liaison/api.ErrNone", [108, 105, 97, 105, 115, 111, 110, 58, 32, 110, 111, 110, 101]), ("liaison/api.ErrState", [108, 105, 97, 105, 115, 111, 110, 58, 32, 115, 116, 97, 116, 101]), ("liaison/api.ErrTwice", [108, 105, 97, 105, 115, 111, 110, 58, 32, 116, 119, 105, 99, 101]), ("liaison/api.ErrDepth", [108, 105, 97, 105, 115, 111, 110, 58, 32, 100, 101, 112, 116, 104]), ("liaison/api.ErrExpired", [108, 105, 97, 105, 115, 111, 110, 58, 32, 101, 120, 112, 105, 114, 101, 100]), ("liaison/api.ErrPanic", [108, 105, 97, 105, 115, 111, 110, 58, 32, 112, 97, 110, 105, 99]), ("liaison/api.ErrProtocol", [108, 105, 97, 105, 115, 111, 110, 58, 32, 112, 114, 111, 116, 111, 99, 111, 108])]

theorem cells_new (w : World) (l : List Addr) (t : TypeId) (j : Nat) (h : j < l.length) :
    (w.alloc (.cells (l.map fun a => Value.iface 131 (.pointer (some a))).toArray t)).cell? ⟨w.heap.size, j, none⟩ = some (.iface 131 (.pointer (some l[j]))) := by
  have e : (w.alloc (.cells (l.map fun a => Value.iface 131 (.pointer (some a))).toArray t)).heap[w.heap.size]? = some (.cells (l.map fun a => Value.iface 131 (.pointer (some a))).toArray t) := (MapKept.heap_alloc w _).1
  unfold World.cell?
  dsimp only
  rw [e]
  simp [h]

theorem num_nil (w : World) :
    Calls Tryd.prog 22 #[.nilIface] w fun e w' => e = .returned (.int .i64 0) ∧ w = w' := by
  go_enter Tryd.func22, Tryd.ntmps22
  go_wp2
  go_ret
  exact ⟨rfl, rfl⟩

theorem num_err (ads : List Addr) (w : World) (E : Errs gs14 ads w) (k : Nat) (hk : k < 14) (hka : k < ads.length) :
    Calls Tryd.prog 22 #[.iface 131 (.pointer (some ads[k]))] w fun e w' => e = .returned (.int .i64 (k + 1)) ∧ Below w.heap.size w w' := by
  obtain ⟨a, hak⟩ : ∃ a, ads[k] = a := ⟨_, rfl⟩
  rw [hak]
  match ads, E, hka, hak with
  | [a0, a1, a2, a3, a4, a5, a6, a7, a8, a9, a10, a11, a12, a13], E, hka, hak =>
    have c0 : w.cell? ⟨0, 0, none⟩ = some (.iface 131 (.pointer (some a0))) := E.cell 0 (by decide)
    have c1 : w.cell? ⟨1, 0, none⟩ = some (.iface 131 (.pointer (some a1))) := E.cell 1 (by decide)
    have c2 : w.cell? ⟨2, 0, none⟩ = some (.iface 131 (.pointer (some a2))) := E.cell 2 (by decide)
    have c3 : w.cell? ⟨3, 0, none⟩ = some (.iface 131 (.pointer (some a3))) := E.cell 3 (by decide)
    have c4 : w.cell? ⟨4, 0, none⟩ = some (.iface 131 (.pointer (some a4))) := E.cell 4 (by decide)
    have c5 : w.cell? ⟨5, 0, none⟩ = some (.iface 131 (.pointer (some a5))) := E.cell 5 (by decide)
    have c6 : w.cell? ⟨6, 0, none⟩ = some (.iface 131 (.pointer (some a6))) := E.cell 6 (by decide)
    have c7 : w.cell? ⟨7, 0, none⟩ = some (.iface 131 (.pointer (some a7))) := E.cell 7 (by decide)
    have c8 : w.cell? ⟨8, 0, none⟩ = some (.iface 131 (.pointer (some a8))) := E.cell 8 (by decide)
    have c9 : w.cell? ⟨9, 0, none⟩ = some (.iface 131 (.pointer (some a9))) := E.cell 9 (by decide)
    have c10 : w.cell? ⟨10, 0, none⟩ = some (.iface 131 (.pointer (some a10))) := E.cell 10 (by decide)
    have c11 : w.cell? ⟨11, 0, none⟩ = some (.iface 131 (.pointer (some a11))) := E.cell 11 (by decide)
    have c12 : w.cell? ⟨12, 0, none⟩ = some (.iface 131 (.pointer (some a12))) := E.cell 12 (by decide)
    have c13 : w.cell? ⟨13, 0, none⟩ = some (.iface 131 (.pointer (some a13))) := E.cell 13 (by decide)
    have HE := Lib.hid E
    have HA := Lib.hid hak
    clear E hak
    go_enter Tryd.func22, Tryd.ntmps22
    go_wp2
    go_loop [25] (fun i => ∃ j : Nat, j ≤ k ∧ i = .int .i64 j) (fun i => 14 - (intOf i).toNat)
    case atStart => exact ⟨0, Nat.zero_le _, rfl⟩
    case round =>
      obtain ⟨j, hj, rfl⟩ := hrel
      have hj14 : j < 14 := by omega
      obtain ⟨x, hx⟩ : ∃ x, ([a0, a1, a2, a3, a4, a5, a6, a7, a8, a9, a10, a11, a12, a13] : List Addr)[j]'(by simpa using hj14) = x := ⟨_, rfl⟩
      have hel : (w.alloc (.cells #[.iface 131 (.pointer (some a0)), .iface 131 (.pointer (some a1)), .iface 131 (.pointer (some a2)), .iface 131 (.pointer (some a3)), .iface 131 (.pointer (some a4)), .iface 131 (.pointer (some a5)), .iface 131 (.pointer (some a6)), .iface 131 (.pointer (some a7)), .iface 131 (.pointer (some a8)), .iface 131 (.pointer (some a9)), .iface 131 (.pointer (some a10)), .iface 131 (.pointer (some a11)), .iface 131 (.pointer (some a12)), .iface 131 (.pointer (some a13))] 49)).cell? ⟨w.heap.size, j, none⟩ = some (.iface 131 (.pointer (some x))) := by
        rw [← hx]; exact cells_new w [a0, a1, a2, a3, a4, a5, a6, a7, a8, a9, a10, a11, a12, a13] 49 j (by simpa using hj14)
      by_cases hjk : j = k
      · subst hjk
        obtain rfl : x = a := hx.symm.trans HA.out
        have HX := Lib.hid hx
        clear hx
        go_wp2_with (go_at_call 41; (with_reducible refine (is_same x _).mono ?_); rintro e w' ⟨rfl, rfl⟩)
        go_ret
        exact ⟨rfl, (Below.refl _ _).alloc (Nat.le_refl _) _⟩
      · have hne : a ≠ x := by
          rw [← HA.out, ← hx]
          intro e
          have hnd := List.pairwise_iff_getElem.1 HE.out.nodup
          rcases Nat.lt_or_gt_of_ne hjk with g | g
          · exact hnd j k _ _ g e.symm
          · exact hnd k j _ _ g e
        have hma : a ∈ ([a0, a1, a2, a3, a4, a5, a6, a7, a8, a9, a10, a11, a12, a13] : List Addr) := HA.out ▸ List.getElem_mem _
        have hmx : x ∈ ([a0, a1, a2, a3, a4, a5, a6, a7, a8, a9, a10, a11, a12, a13] : List Addr) := hx ▸ List.getElem_mem _
        obtain ⟨ca, ta, ra⟩ := (HE.out.below ((Below.refl w.heap.size w).alloc (Nat.le_refl _) (.cells #[.iface 131 (.pointer (some a0)), .iface 131 (.pointer (some a1)), .iface 131 (.pointer (some a2)), .iface 131 (.pointer (some a3)), .iface 131 (.pointer (some a4)), .iface 131 (.pointer (some a5)), .iface 131 (.pointer (some a6)), .iface 131 (.pointer (some a7)), .iface 131 (.pointer (some a8)), .iface 131 (.pointer (some a9)), .iface 131 (.pointer (some a10)), .iface 131 (.pointer (some a11)), .iface 131 (.pointer (some a12)), .iface 131 (.pointer (some a13))] 49))).row a hma
        obtain ⟨cx, tx, rx⟩ := (HE.out.below ((Below.refl w.heap.size w).alloc (Nat.le_refl _) (.cells #[.iface 131 (.pointer (some a0)), .iface 131 (.pointer (some a1)), .iface 131 (.pointer (some a2)), .iface 131 (.pointer (some a3)), .iface 131 (.pointer (some a4)), .iface 131 (.pointer (some a5)), .iface 131 (.pointer (some a6)), .iface 131 (.pointer (some a7)), .iface 131 (.pointer (some a8)), .iface 131 (.pointer (some a9)), .iface 131 (.pointer (some a10)), .iface 131 (.pointer (some a11)), .iface 131 (.pointer (some a12)), .iface 131 (.pointer (some a13))] 49))).row x hmx
        have RA := Lib.hid ra
        have RX := Lib.hid rx
        have HX := Lib.hid hx
        have HN := Lib.hid hne
        clear ra rx hx hne hma hmx
        go_wp2_with (go_at_call 41; (with_reducible refine (is_other a x ca cx ta tx _ HN.out RA.out RX.out).mono ?_); rintro e w' ⟨rfl, rfl⟩)
        go_round
        case rel => exact ⟨j + 1, by omega, by go_num⟩
        case measure => simp [intOf]; omega
end Go.Proofs.YtanbeaebdingeaaDoor
