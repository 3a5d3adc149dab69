/-
  A PANIC's ERROR (own work): which one of package api's errors a panic's value is: the first one of the table that errors.Is says, else ErrPanic: catch.named, catch.errorOf.
-/
import Derived.Test.YtcgcliglcdfijaaDoorCis
namespace Go.Proofs.YtcgcliglcdfijaaDoor
open Go.RowKit Go.Extern.Stop Go.Stop Go.Extern

abbrev snt (a : Addr) : Value := .iface 95 (.pointer (some a))

/-- catch.named: K is the first place of the table at which errors.Is says yes (14: none). -/
theorem named_gen (ads : List Addr) (w : World) (E : Errs gs14 ads w) (v r : Value) (K : Nat) (hK : K ≤ 14)
    (H0 : ∀ (j : Nat) (h : j < ads.length), j < K → ∀ w1, Kp w w1 → Calls Tryd.prog 50 #[v, snt ads[j]] w1 fun e w' => e = .returned (.bool false) ∧ w1 = w')
    (H1 : ∀ (h : K < ads.length), ∀ w1, Kp w w1 → Calls Tryd.prog 50 #[v, snt ads[K]] w1 fun e w' => e = .returned (.bool true) ∧ w1 = w')
    (hr : (∃ h : K < ads.length, r = snt ads[K]) ∨ (K = 14 ∧ ∃ h : 12 < ads.length, r = snt ads[12])) :
    Calls Tryd.prog 40 #[v] w fun e w' => e = .returned r ∧ Kp w w' := by
  match ads, E, H0, H1, hr with
  | [a0, a1, a2, a3, a4, a5, a6, a7, a8, a9, a10, a11, a12, a13], E, H0, H1, hr =>
    have c0 : w.cell? ⟨1, 0, none⟩ = some (.iface 95 (.pointer (some a0))) := E.cell 0 (by decide)
    have c1 : w.cell? ⟨2, 0, none⟩ = some (.iface 95 (.pointer (some a1))) := E.cell 1 (by decide)
    have c2 : w.cell? ⟨3, 0, none⟩ = some (.iface 95 (.pointer (some a2))) := E.cell 2 (by decide)
    have c3 : w.cell? ⟨4, 0, none⟩ = some (.iface 95 (.pointer (some a3))) := E.cell 3 (by decide)
    have c4 : w.cell? ⟨5, 0, none⟩ = some (.iface 95 (.pointer (some a4))) := E.cell 4 (by decide)
    have c5 : w.cell? ⟨0, 0, none⟩ = some (.iface 95 (.pointer (some a5))) := E.cell 5 (by decide)
    have c6 : w.cell? ⟨6, 0, none⟩ = some (.iface 95 (.pointer (some a6))) := E.cell 6 (by decide)
    have c7 : w.cell? ⟨7, 0, none⟩ = some (.iface 95 (.pointer (some a7))) := E.cell 7 (by decide)
    have c8 : w.cell? ⟨8, 0, none⟩ = some (.iface 95 (.pointer (some a8))) := E.cell 8 (by decide)
    have c9 : w.cell? ⟨9, 0, none⟩ = some (.iface 95 (.pointer (some a9))) := E.cell 9 (by decide)
    have c10 : w.cell? ⟨10, 0, none⟩ = some (.iface 95 (.pointer (some a10))) := E.cell 10 (by decide)
    have c11 : w.cell? ⟨11, 0, none⟩ = some (.iface 95 (.pointer (some a11))) := E.cell 11 (by decide)
    have c12 : w.cell? ⟨12, 0, none⟩ = some (.iface 95 (.pointer (some a12))) := E.cell 12 (by decide)
    have c13 : w.cell? ⟨13, 0, none⟩ = some (.iface 95 (.pointer (some a13))) := E.cell 13 (by decide)
    have hnew : Kp w (w.alloc (.cells #[.iface 95 (.pointer (some a0)), .iface 95 (.pointer (some a1)), .iface 95 (.pointer (some a2)), .iface 95 (.pointer (some a3)), .iface 95 (.pointer (some a4)), .iface 95 (.pointer (some a5)), .iface 95 (.pointer (some a6)), .iface 95 (.pointer (some a7)), .iface 95 (.pointer (some a8)), .iface 95 (.pointer (some a9)), .iface 95 (.pointer (some a10)), .iface 95 (.pointer (some a11)), .iface 95 (.pointer (some a12)), .iface 95 (.pointer (some a13))] 28)) := (Below.refl _ _).alloc (Nat.le_refl _) _
    have hlt : 12 < w.heap.size := E.old.1 12 (by decide)
    have c12' : (w.alloc (.cells #[.iface 95 (.pointer (some a0)), .iface 95 (.pointer (some a1)), .iface 95 (.pointer (some a2)), .iface 95 (.pointer (some a3)), .iface 95 (.pointer (some a4)), .iface 95 (.pointer (some a5)), .iface 95 (.pointer (some a6)), .iface 95 (.pointer (some a7)), .iface 95 (.pointer (some a8)), .iface 95 (.pointer (some a9)), .iface 95 (.pointer (some a10)), .iface 95 (.pointer (some a11)), .iface 95 (.pointer (some a12)), .iface 95 (.pointer (some a13))] 28)).cell? ⟨12, 0, none⟩ = some (.iface 95 (.pointer (some a12))) := by rw [Below.cell hnew hlt]; exact c12
    have HE := Lib.hid E
    have HR := Lib.hid hr
    have HH0 := Lib.hid H0
    have HH1 := Lib.hid H1
    have HN := Lib.hid hnew
    clear E hr H0 H1 hnew
    go_enter Tryd.func40, Tryd.ntmps40
    go_wp2
    go_loop [23] (fun i => ∃ j : Nat, j ≤ K ∧ i = .int .i64 j) (fun i => 14 - (intOf i).toNat)
    case atStart => exact ⟨0, Nat.zero_le _, rfl⟩
    case round =>
      obtain ⟨j, hj, rfl⟩ := hrel
      by_cases hj14 : j = 14
      · subst hj14
        obtain rfl : K = 14 := by omega
        go_wp2
        go_ret
        refine ⟨?_, HN.out⟩
        rcases HR.out with ⟨h, _⟩ | ⟨_, h, rfl⟩
        · exact absurd h (by simp)
        · rfl
      · have hj14' : j < 14 := by omega
        obtain ⟨x, hx⟩ : ∃ x, ([a0, a1, a2, a3, a4, a5, a6, a7, a8, a9, a10, a11, a12, a13] : List Addr)[j]'(by simpa using hj14') = x := ⟨_, rfl⟩
        have hel : (w.alloc (.cells #[.iface 95 (.pointer (some a0)), .iface 95 (.pointer (some a1)), .iface 95 (.pointer (some a2)), .iface 95 (.pointer (some a3)), .iface 95 (.pointer (some a4)), .iface 95 (.pointer (some a5)), .iface 95 (.pointer (some a6)), .iface 95 (.pointer (some a7)), .iface 95 (.pointer (some a8)), .iface 95 (.pointer (some a9)), .iface 95 (.pointer (some a10)), .iface 95 (.pointer (some a11)), .iface 95 (.pointer (some a12)), .iface 95 (.pointer (some a13))] 28)).cell? ⟨w.heap.size, j, none⟩ = some (.iface 95 (.pointer (some x))) := by
          rw [← hx]; exact cells_new w [a0, a1, a2, a3, a4, a5, a6, a7, a8, a9, a10, a11, a12, a13] 28 j (by simpa using hj14')
        by_cases hjk : j = K
        · subst hjk
          have h1 := HH1.out (by simpa using hj14') _ HN.out
          rw [hx] at h1
          have hrx : r = snt x := by
            rcases HR.out with ⟨h, rfl⟩ | ⟨h, _⟩
            · rw [hx]
            · exact absurd h (by omega)
          have HX := Lib.hid hx
          have HC := Lib.hid h1
          have HRX := Lib.hid hrx
          clear hx h1 hrx
          go_wp2_with (go_at_call 50; (with_reducible refine HC.out.mono ?_); rintro e w' ⟨rfl, rfl⟩)
          go_ret
          exact ⟨by rw [HRX.out]; rfl, HN.out⟩
        · have h0 := HH0.out j (by simpa using hj14') (by omega) _ HN.out
          rw [hx] at h0
          have HX := Lib.hid hx
          have HC := Lib.hid h0
          clear hx h0
          go_wp2_with (go_at_call 50; (with_reducible refine HC.out.mono ?_); rintro e w' ⟨rfl, rfl⟩)
          go_round
          case rel => exact ⟨j + 1, by omega, by go_num⟩
          case measure => simp [intOf]; omega

/-- WHAT THE PROOFS ASK OF THE VARIABLES: package api's errors lie at ads; strconv.ErrSyntax (where it is listed) at another place. -/
structure St (ads : List Addr) (so : Option Addr) (w : World) : Prop where
  E : Errs gs14 ads w
  out : ∀ s, so = some s → s ∉ ads
  row : ∀ s, so = some s → ∃ c t, w.heap[s.block]? = some (.cells c t (0, 0))
  syn : ∀ s, so = some s → w.cell? ⟨14, 0, none⟩ = some (snt s)

theorem St.len {ads : List Addr} {so : Option Addr} {w : World} (h : St ads so w) : ads.length = 14 := h.E.len
theorem St.below {ads : List Addr} {so : Option Addr} {w w' : World} (h : St ads so w) (hb : Below w.heap.size w w') : St ads so w' :=
  ⟨h.E.below hb, h.out, fun s hs => by
    obtain ⟨c, t, hr⟩ := h.row s hs
    refine ⟨c, t, ?_⟩
    rw [hb.block _ ?_]
    · exact hr
    · rcases Nat.lt_or_ge s.block w.heap.size with g | g
      · exact g
      · simp [Array.getElem?_eq_none g] at hr, fun s hs => by
    have hc := h.syn s hs
    rw [hb.cell]
    · exact hc
    · rcases Nat.lt_or_ge (14 : Nat) w.heap.size with g | g
      · exact g
      · simp [World.cell?, Array.getElem?_eq_none g] at hc⟩

/-- THE SAME, and all of it lies below B. -/
def StB (ads : List Addr) (so : Option Addr) (B : Nat) (w : World) : Prop := ∃ W : World, St ads so W ∧ W.heap.size = B ∧ Below B W w
theorem StB.st {ads : List Addr} {so : Option Addr} {B : Nat} {w : World} (h : StB ads so B w) : St ads so w := by
  obtain ⟨W, hW, rfl, hb⟩ := h
  exact hW.below hb
theorem StB.below {ads : List Addr} {so : Option Addr} {B : Nat} {w w' : World} (h : StB ads so B w) (hb : Below B w w') : StB ads so B w' := by
  obtain ⟨W, hW, rfl, hb'⟩ := h
  exact ⟨W, hW, rfl, hb'.trans hb⟩
theorem StB.le {ads : List Addr} {so : Option Addr} {B : Nat} {w : World} (h : StB ads so B w) : B ≤ w.heap.size := by
  obtain ⟨W, hW, rfl, hb'⟩ := h
  exact hb'.size

/-- THE VALUE v OF A PANIC: its error is the k-th of the table. -/
def Pv (ads : List Addr) (so : Option Addr) (w : World) (v : Value) (k : Nat) : Prop :=
  (∃ h : k < ads.length, v = snt ads[k]) ∨
  (k = 12 ∧ ∃ s pb, so = some s ∧ v = .iface 71 (.pointer (some ⟨pb, 0, none⟩)) ∧ w.cell? ⟨pb, 2, none⟩ = some (snt s)) ∨
  (k = 12 ∧ ∃ x, v = .iface 8 x ∨ v = .iface 10 x ∨ v = .iface 11 x)

theorem Pv.below {ads : List Addr} {so : Option Addr} {w w' : World} {v : Value} {k : Nat} (h : Pv ads so w v k) (hb : Below w.heap.size w w') : Pv ads so w' v k := by
  rcases h with h | ⟨h, s, pb, h1, h2, h3⟩ | h
  · exact .inl h
  · refine .inr (.inl ⟨h, s, pb, h1, h2, ?_⟩)
    rw [hb.cell]
    · exact h3
    · rcases Nat.lt_or_ge pb w.heap.size with g | g
      · exact g
      · simp [World.cell?, Array.getElem?_eq_none g] at h3
  · exact .inr (.inr h)

theorem named_any (ads : List Addr) (so : Option Addr) (w : World) (V : St ads so w) (v : Value) (k : Nat) (h : Pv ads so w v k) :
    ∃ hk : k < ads.length, Calls Tryd.prog 40 #[v] w fun e w' => e = .returned (snt ads[k]) ∧ Kp w w' := by
  have hl := V.len
  rcases h with ⟨hk, rfl⟩ | ⟨rfl, s, pb, hso, rfl, hc⟩ | ⟨rfl, x, hx⟩
  · refine ⟨hk, named_gen ads w V.E _ _ k (by omega) (fun j hj hjk w1 hw => ?_) (fun _ w1 hw => ?_) (.inl ⟨hk, rfl⟩)⟩
    · have V1 := V.below hw
      obtain ⟨ca, ta, ra⟩ := V1.E.row _ (List.getElem_mem hk)
      obtain ⟨cb, tb, rb⟩ := V1.E.row _ (List.getElem_mem hj)
      refine cis_of (is_other _ _ ca cb ta tb w1 (fun e => ?_) ra rb)
      exact List.pairwise_iff_getElem.1 V.E.nodup j k hj hk hjk e.symm
    · exact cis_of (is_same _ w1)
  · refine ⟨by omega, named_gen ads w V.E _ _ 14 (by omega) (fun j hj hjk w1 hw => ?_) (fun h => absurd h (by omega)) (.inr ⟨rfl, by omega, rfl⟩)⟩
    have V1 := V.below hw
    obtain ⟨cb, tb, rb⟩ := V1.E.row _ (List.getElem_mem hj)
    obtain ⟨cs, ts, rs⟩ := V1.row s hso
    refine cis_of (is_num pb s _ cs cb ts tb w1 ?_ (fun e => V.out s hso (e ▸ List.getElem_mem hj)) rs rb)
    rw [Below.cell hw]
    · exact hc
    · rcases Nat.lt_or_ge pb w.heap.size with g | g
      · exact g
      · simp [World.cell?, Array.getElem?_eq_none g] at hc
  · refine ⟨by omega, named_gen ads w V.E _ _ 14 (by omega) (fun j hj hjk w1 hw => ?_) (fun h => absurd h (by omega)) (.inr ⟨rfl, by omega, rfl⟩)⟩
    rcases hx with rfl | rfl | rfl
    · exact cis_of (is_rt0 _ _ w1)
    · exact cis_of (is_rt1 _ _ w1)
    · exact cis_of (is_rt2 _ _ w1)

/-- catch.errorOf: A PANIC's ERROR. -/
theorem errorOf_any (ads : List Addr) (so : Option Addr) (w : World) (V : St ads so w) (v : Value) (k : Nat) (h : Pv ads so w v k) :
    ∃ hk : k < ads.length, Calls Tryd.prog 32 #[v] w fun e w' => e = .returned (snt ads[k]) ∧ Kp w w' := by
  obtain ⟨hk, hn⟩ := named_any ads so w V v k h
  refine ⟨hk, ?_⟩
  obtain ⟨r, hr⟩ : ∃ r, snt ads[k] = r := ⟨_, rfl⟩
  rw [hr] at hn ⊢
  have HN := Lib.hid hn
  clear hn hr
  have hq : ∃ T x, v = .iface T x ∧ (Instr.typeAssert (.iface T x) 20 28 true).run Tryd.prog w = .ok (.tuple #[.iface T x, .bool true]) w := by
    rcases h with ⟨_, rfl⟩ | ⟨_, s, pb, _, rfl, _⟩ | ⟨_, x, rfl | rfl | rfl⟩
    · exact ⟨_, _, rfl, isErrorE _ w⟩
    · exact ⟨_, _, rfl, isErrorN _ w⟩
    · exact ⟨_, _, rfl, isErrorR0 _ w⟩
    · exact ⟨_, _, rfl, isErrorR1 _ w⟩
    · exact ⟨_, _, rfl, isErrorR2 _ w⟩
  clear h
  obtain ⟨T, x, rfl, ha⟩ := hq
  go_enter Tryd.func32, Tryd.ntmps32
  go_wp2_with (go_at_call 40; (with_reducible refine HN.out.mono ?_); rintro e w' ⟨rfl, hw⟩)
  go_ret
  exact ⟨rfl, hw⟩
end Go.Proofs.YtcgcliglcdfijaaDoor
