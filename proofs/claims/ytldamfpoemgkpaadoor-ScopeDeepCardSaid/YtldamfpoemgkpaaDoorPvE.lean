/-
  A PANIC's ERROR (own work), where it is one of package api's: itself: catch.named, catch.errorOf.
-/
import Derived.Test.YtldamfpoemgkpaaDoorCisE
import Derived.Test.YtldamfpoemgkpaaDoorStE
namespace Go.Proofs.YtldamfpoemgkpaaDoor
open Go.RowKit Go.Extern.Stop Go.Stop Go.Extern


/-- catch.named: K is the first place of the table at which errors.Is says yes (14: none). -/
theorem named_gen (ads : List Addr) (w : World) (E : Errs gs14 ads w) (v r : Value) (K : Nat) (hK : K ≤ 14)
    (H0 : ∀ (j : Nat) (h : j < ads.length), j < K → ∀ w1, Kp w w1 → Calls Tryd.prog 59 #[v, snt ads[j]] w1 fun e w' => e = .returned (.bool false) ∧ w1 = w')
    (H1 : ∀ (h : K < ads.length), ∀ w1, Kp w w1 → Calls Tryd.prog 59 #[v, snt ads[K]] w1 fun e w' => e = .returned (.bool true) ∧ w1 = w')
    (hr : (∃ h : K < ads.length, r = snt ads[K]) ∨ (K = 14 ∧ ∃ h : 12 < ads.length, r = snt ads[12])) :
    Calls Tryd.prog 56 #[v] w fun e w' => e = .returned r ∧ Kp w w' := by
  match ads, E, H0, H1, hr with
  | [a0, a1, a2, a3, a4, a5, a6, a7, a8, a9, a10, a11, a12, a13], E, H0, H1, hr =>
    have c0 : w.cell? ⟨0, 0, none⟩ = some (.iface 115 (.pointer (some a0))) := E.cell 0 (by decide)
    have c1 : w.cell? ⟨1, 0, none⟩ = some (.iface 115 (.pointer (some a1))) := E.cell 1 (by decide)
    have c2 : w.cell? ⟨2, 0, none⟩ = some (.iface 115 (.pointer (some a2))) := E.cell 2 (by decide)
    have c3 : w.cell? ⟨3, 0, none⟩ = some (.iface 115 (.pointer (some a3))) := E.cell 3 (by decide)
    have c4 : w.cell? ⟨4, 0, none⟩ = some (.iface 115 (.pointer (some a4))) := E.cell 4 (by decide)
    have c5 : w.cell? ⟨5, 0, none⟩ = some (.iface 115 (.pointer (some a5))) := E.cell 5 (by decide)
    have c6 : w.cell? ⟨6, 0, none⟩ = some (.iface 115 (.pointer (some a6))) := E.cell 6 (by decide)
    have c7 : w.cell? ⟨7, 0, none⟩ = some (.iface 115 (.pointer (some a7))) := E.cell 7 (by decide)
    have c8 : w.cell? ⟨8, 0, none⟩ = some (.iface 115 (.pointer (some a8))) := E.cell 8 (by decide)
    have c9 : w.cell? ⟨9, 0, none⟩ = some (.iface 115 (.pointer (some a9))) := E.cell 9 (by decide)
    have c10 : w.cell? ⟨10, 0, none⟩ = some (.iface 115 (.pointer (some a10))) := E.cell 10 (by decide)
    have c11 : w.cell? ⟨11, 0, none⟩ = some (.iface 115 (.pointer (some a11))) := E.cell 11 (by decide)
    have c12 : w.cell? ⟨12, 0, none⟩ = some (.iface 115 (.pointer (some a12))) := E.cell 12 (by decide)
    have c13 : w.cell? ⟨13, 0, none⟩ = some (.iface 115 (.pointer (some a13))) := E.cell 13 (by decide)
    have hnew : Kp w (w.alloc (.cells #[.iface 115 (.pointer (some a0)), .iface 115 (.pointer (some a1)), .iface 115 (.pointer (some a2)), .iface 115 (.pointer (some a3)), .iface 115 (.pointer (some a4)), .iface 115 (.pointer (some a5)), .iface 115 (.pointer (some a6)), .iface 115 (.pointer (some a7)), .iface 115 (.pointer (some a8)), .iface 115 (.pointer (some a9)), .iface 115 (.pointer (some a10)), .iface 115 (.pointer (some a11)), .iface 115 (.pointer (some a12)), .iface 115 (.pointer (some a13))] 31)) := (Below.refl _ _).alloc (Nat.le_refl _) _
    have hlt : 12 < w.heap.size := E.old.1 12 (by decide)
    have c12' : (w.alloc (.cells #[.iface 115 (.pointer (some a0)), .iface 115 (.pointer (some a1)), .iface 115 (.pointer (some a2)), .iface 115 (.pointer (some a3)), .iface 115 (.pointer (some a4)), .iface 115 (.pointer (some a5)), .iface 115 (.pointer (some a6)), .iface 115 (.pointer (some a7)), .iface 115 (.pointer (some a8)), .iface 115 (.pointer (some a9)), .iface 115 (.pointer (some a10)), .iface 115 (.pointer (some a11)), .iface 115 (.pointer (some a12)), .iface 115 (.pointer (some a13))] 31)).cell? ⟨12, 0, none⟩ = some (.iface 115 (.pointer (some a12))) := by rw [Below.cell hnew hlt]; exact c12
    have HE := Lib.hid E
    have HR := Lib.hid hr
    have HH0 := Lib.hid H0
    have HH1 := Lib.hid H1
    have HN := Lib.hid hnew
    clear E hr H0 H1 hnew
    go_enter Tryd.func56, Tryd.ntmps56
    go_wp2
    go_loop [23] (fun i => ∃ j : Nat, j ≤ K ∧ i = .int .i64 j) (fun i => 14 - (intOf i).toNat)
    case atStart => exact ⟨0, Nat.zero_le _, rfl⟩
    case round =>
      obtain ⟨j, hj, rfl⟩ := hrel
      by_cases hj14 : j = 14
      · subst hj14
        obtain rfl : K = 14 := by omega
        go_wp2
        go_ret
        refine ⟨?_, HN.out⟩
        rcases HR.out with ⟨h, _⟩ | ⟨_, h, rfl⟩
        · exact absurd h (by simp)
        · rfl
      · have hj14' : j < 14 := by omega
        obtain ⟨x, hx⟩ : ∃ x, ([a0, a1, a2, a3, a4, a5, a6, a7, a8, a9, a10, a11, a12, a13] : List Addr)[j]'(by simpa using hj14') = x := ⟨_, rfl⟩
        have hel : (w.alloc (.cells #[.iface 115 (.pointer (some a0)), .iface 115 (.pointer (some a1)), .iface 115 (.pointer (some a2)), .iface 115 (.pointer (some a3)), .iface 115 (.pointer (some a4)), .iface 115 (.pointer (some a5)), .iface 115 (.pointer (some a6)), .iface 115 (.pointer (some a7)), .iface 115 (.pointer (some a8)), .iface 115 (.pointer (some a9)), .iface 115 (.pointer (some a10)), .iface 115 (.pointer (some a11)), .iface 115 (.pointer (some a12)), .iface 115 (.pointer (some a13))] 31)).cell? ⟨w.heap.size, j, none⟩ = some (.iface 115 (.pointer (some x))) := by
          rw [← hx]; exact cells_new w [a0, a1, a2, a3, a4, a5, a6, a7, a8, a9, a10, a11, a12, a13] 31 j (by simpa using hj14')
        by_cases hjk : j = K
        · subst hjk
          have h1 := HH1.out (by simpa using hj14') _ HN.out
          rw [hx] at h1
          have hrx : r = snt x := by
            rcases HR.out with ⟨h, rfl⟩ | ⟨h, _⟩
            · rw [hx]
            · exact absurd h (by omega)
          have HX := Lib.hid hx
          have HC := Lib.hid h1
          have HRX := Lib.hid hrx
          clear hx h1 hrx
          go_wp2_with (go_at_call 59; (with_reducible refine HC.out.mono ?_); rintro e w' ⟨rfl, rfl⟩)
          go_ret
          exact ⟨by rw [HRX.out]; rfl, HN.out⟩
        · have h0 := HH0.out j (by simpa using hj14') (by omega) _ HN.out
          rw [hx] at h0
          have HX := Lib.hid hx
          have HC := Lib.hid h0
          clear hx h0
          go_wp2_with (go_at_call 59; (with_reducible refine HC.out.mono ?_); rintro e w' ⟨rfl, rfl⟩)
          go_round
          case rel => exact ⟨j + 1, by omega, by go_num⟩
          case measure => simp [intOf]; omega

theorem named_any (ads : List Addr) (w : World) (V : St ads w) (k : Nat) (hk : k < ads.length) :
    Calls Tryd.prog 56 #[snt ads[k]] w fun e w' => e = .returned (snt ads[k]) ∧ Kp w w' := by
  have hl : ads.length = 14 := V.len
  refine named_gen ads w V _ _ k (by omega) (fun j hj hjk w1 hw => ?_) (fun _ w1 hw => ?_) (.inl ⟨hk, rfl⟩)
  · have V1 := V.below hw
    obtain ⟨ca, ta, ra⟩ := V1.row _ (List.getElem_mem hk)
    obtain ⟨cb, tb, rb⟩ := V1.row _ (List.getElem_mem hj)
    refine cis_of (is_other _ _ ca cb ta tb w1 (fun e => ?_) ra rb)
    exact List.pairwise_iff_getElem.1 V.nodup j k hj hk hjk e.symm
  · exact cis_of (is_same _ w1)

/-- catch.errorOf: A PANIC's ERROR. -/
theorem errorOf_any (ads : List Addr) (w : World) (V : St ads w) (k : Nat) (hk : k < ads.length) :
    Calls Tryd.prog 45 #[snt ads[k]] w fun e w' => e = .returned (snt ads[k]) ∧ Kp w w' := by
  have hn := named_any ads w V k hk
  obtain ⟨r, hr⟩ : ∃ r, ads[k] = r := ⟨_, rfl⟩
  rw [hr] at hn ⊢
  have HN := Lib.hid hn
  have ha := isErrorE (.pointer (some r)) w
  clear hn hr
  go_enter Tryd.func45, Tryd.ntmps45
  go_wp2_with (go_at_call 56; (with_reducible refine HN.out.mono ?_); rintro e w' ⟨rfl, hw⟩)
  go_ret
  exact ⟨rfl, hw⟩
end Go.Proofs.YtldamfpoemgkpaaDoor
