/-
  WHAT PACKAGE moves ANSWERS (own work): MovC out of the errors and tables' contracts.
-/
import Derived.Test.YtghjnhdepeiloaaDoorMpD
import Derived.Test.YtghjnhdepeiloaaDoorTabX
namespace Go.Proofs.YtghjnhdepeiloaaDoor
open Go.RowKit Go.ChangeShapes Go.WideShapes

theorem reach_kinds1 : (reach 1).all (fun r => r.h.all fun q => decide (1 ≤ q.2) && decide (q.2 ≤ 14)) = true := by decide +kernel
theorem reach_kinds2 : (reach 2).all (fun r => r.h.all fun q => decide (1 ≤ q.2) && decide (q.2 ≤ 14)) = true := by decide +kernel
theorem reach_kinds {p : Int} (hp : p = 1 ∨ p = 2) {r : RS} (hr : r ∈ reach p) {q : Int × Int} (hq : q ∈ r.h) : 1 ≤ q.2 ∧ q.2 ≤ 14 := by
  have h : (reach p).all (fun r => r.h.all fun q => decide (1 ≤ q.2) && decide (q.2 ≤ 14)) = true := by
    rcases hp with rfl | rfl
    · exact reach_kinds1
    · exact reach_kinds2
  simpa using List.all_eq_true.1 (List.all_eq_true.1 h r hr) q hq
theorem pok_fly {m : PairM} (h : Pok m) {i : Nat} (hi : i < m.f.length) : (m.f[i].1 = 1 ∨ m.f[i].1 = 2) ∧ ((m.seat m.f[i].1).tell m.f[i].2).1 = 0 ∧ i64M m.f[i].2 := by
  obtain ⟨⟨p, r, hp, R⟩, _⟩ := h
  have hq := R.f _ (List.getElem_mem hi)
  obtain ⟨h1, h2, -⟩ := closed_q hp R.mem hq
  rw [seat_e R h1]
  have := reach_kinds hp R.mem hq
  exact ⟨h1, h2, by omega, by omega⟩
theorem mpDl_any {w0 w : World} {ads : List Addr} {g : Nat} {m : PairM} {v : Value} (H : Pr w0 g m v w) (hm : Pok m) (i : Int) (cp : Bool) (T : TabC ads w) (cr : w.cell? ⟨1, 0, none⟩ = some (errI ads 1)) (cf : w.cell? ⟨5, 0, none⟩ = some (errI ads 6)) (ce : w.cell? ⟨0, 0, none⟩ = some (errI ads 4)) :
    Calls Tryd.prog 28 #[.pointer (some ⟨g, 0, none⟩), .int .i64 i, .bool cp] w fun r w' => r = .returned (.tuple #[.agg (effV (m.deliver i cp).1.2), errI ads (m.deliver i cp).1.1]) ∧ ∃ v', Pr w0 g (m.deliver i cp).2 v' w' ∧ Asd (Ob g v) (Ob g v') w w' := by
  have hl := hm.2
  unfold PairM.deliver
  by_cases hi : i < 0 ∨ (m.f.length : Int) ≤ i
  · rw [if_pos hi]
    exact (mpDl_range H i cp (by omega) cr).mono fun r w' ⟨q1, q2⟩ => ⟨q1, v, H.kp q2, Asd.of_kp _ q2⟩
  rw [if_neg hi]
  by_cases hc : cp = true ∧ 63 < m.f.length
  · rw [if_pos hc]
    obtain ⟨rfl, h63⟩ := hc
    exact (mpDl_full H i (by omega) h63 cf).mono fun r w' ⟨q1, q2⟩ => ⟨q1, v, H.kp q2, Asd.of_kp _ q2⟩
  rw [if_neg hc]
  have hlt : i.toNat < m.f.length := by omega
  rw [fly_get hlt]
  obtain ⟨h1, h2, h3⟩ := pok_fly hm hlt
  obtain ⟨⟨to, k⟩, hq⟩ : ∃ q, m.f[i.toNat] = q := ⟨_, rfl⟩
  rw [hq] at h1 h2 h3 ⊢
  dsimp only at h1 h2 h3 ⊢
  rw [if_neg (by simpa using h2)]
  have hr := right_ok (pok_seat hm h1)
  have hz := seatO_seat (m := m) h1
  obtain ⟨⟨p, e, s, h⟩, hzz⟩ : ∃ z, m.seat to = z := ⟨_, rfl⟩
  rw [hzz] at hr hz h2 ⊢
  obtain ⟨⟨n, ⟨⟨a0, a1, a2, a3⟩, b1, b2, b3, b4⟩⟩, hy⟩ : ∃ y, SeatM.tell ⟨p, e, s, h⟩ k = y := ⟨_, rfl⟩
  rw [hy] at h2 ⊢
  dsimp only at h2 ⊢
  subst h2
  rw [errI_nil]
  cases cp with
  | true =>
    rw [if_pos rfl]
    exact mpDl_true H (by simpa using hc) i.toNat i (by omega) hlt to k hq h1 h3 p e s h a0 a1 a2 a3 b1 b2 b3 b4 hz hr hy T ce
  | false =>
    rw [if_neg (by decide)]
    exact mpDl_false H hl i.toNat i (by omega) hlt to k hq h1 h3 p e s h a0 a1 a2 a3 b1 b2 b3 b4 hz hr hy T ce
/-- a pair: its block, its flight; these are its own blocks -/
def PJ (w0 : World) (g : Nat) (m : PairM) (O : Nat → Prop) (w : World) : Prop := ∃ v, Pr w0 g m v w ∧ O = Ob g v
theorem pj_of {P' : Prop} {w0 w w' : World} {g : Nat} {m : PairM} {v : Value} (h : P' ∧ ∃ v', Pr w0 g m v' w' ∧ Asd (Ob g v) (Ob g v') w w') : P' ∧ ∃ O', PJ w0 g m O' w' ∧ Asd (Ob g v) O' w w' := by
  obtain ⟨h1, v', h2, h3⟩ := h
  exact ⟨h1, _, ⟨v', h2, rfl⟩, h3⟩
theorem movC_of (ads : List Addr) (w : World) (E : EP [0, 3, 5, 8, 13] ads w) : MovC ads w (PJ w) := by
  have T : TabC ads w := tabC_of ads w (E.sub (by decide))
  have S : TabS ads w := tabS_of ads w (E.sub (by decide))
  have cr : w.cell? ⟨1, 0, none⟩ = some (errI ads 1) := E.cell 0 (by decide)
  have cm : w.cell? ⟨0, 0, none⟩ = some (errI ads 4) := E.cell 3 (by decide)
  have cf : w.cell? ⟨5, 0, none⟩ = some (errI ads 6) := E.cell 5 (by decide)
  have cp : w.cell? ⟨13, 0, none⟩ = some (errI ads 14) := E.cell 13 (by decide)
  exact {
    new := fun w1 hk p e ip ie => msNew_any p e ip ie w1 (T.kp hk) (kp_cell hk cp)
    right := fun w1 hk z hz => msRight_any z hz w1 (T.kp hk)
    tell := fun w1 hk z k hz ik => msTell_any z k hz ik w1 (T.kp hk) (kp_cell hk cm)
    act := fun w1 hk z k hz ik => msAct_any z k hz ik w1 (T.kp hk) (S.kp hk) (kp_cell hk cm)
    waits := fun w1 hk z hz => msWaits_any z hz w1 (T.kp hk)
    work := fun w1 hk z hz => msWork_any z hz w1 (T.kp hk)
    stay := fun ⟨v, hp, hO⟩ _ hb => ⟨v, hp.stay (fun b q => hb b (by rw [hO]; exact q)), hO⟩
    mem := fun ⟨v, hp, hO⟩ b q => hp.mem b (by rw [← hO]; exact q)
    pnew_ok := fun w1 hk p hp => (mpNew_ok p hp w1 (T.kp hk) (kp_cell hk cp)).mono (by
      rintro r w' ⟨rfl, hr, hk2⟩
      refine ⟨_, _, rfl, ⟨_, ⟨hr, Below.size hk, World.ownsRow_nil _ _ _ _⟩, rfl⟩, ?_, hk2⟩
      rintro b (rfl | q)
      · exact Nat.le_refl _
      · cases q)
    pnew_no := fun w1 hk p hp ip => mpNew_no p ip (by unfold rightT; exact decide_eq_false (fun q => hp q.1)) w1 (T.kp hk) (kp_cell hk cp)
    pdo := fun w1 hk g m O ⟨v, hp, hO⟩ hm e k _ ik => by subst hO; exact (mpDo_any hp hm e k ik (T.kp hk) (S.kp hk) (kp_cell hk cr) (kp_cell hk cf) (kp_cell hk cm)).mono fun r w' h => pj_of h
    pagain := fun w1 hk g m O ⟨v, hp, hO⟩ hm e _ => by subst hO; exact (mpAgain_any hp hm e (T.kp hk)).mono fun r w' h => pj_of h
    pdeliver := fun w1 hk g m O ⟨v, hp, hO⟩ hm i c _ => by subst hO; exact (mpDl_any hp hm i c (T.kp hk) (kp_cell hk cr) (kp_cell hk cf) (kp_cell hk cm)).mono fun r w' h => pj_of h
    pdrop := fun w1 hk g m O ⟨v, hp, hO⟩ hm i _ => by subst hO; exact (mpDrop_any hp hm.2 i (kp_cell hk cr)).mono fun r w' h => pj_of h
    pseat := fun w1 hk g m O ⟨v, hp, hO⟩ hm e _ => mpSeat_any hp e
    pflight := fun w1 hk g m O ⟨v, hp, hO⟩ hm => mpFlight_any hp hm.2 }
end Go.Proofs.YtghjnhdepeiloaaDoor
