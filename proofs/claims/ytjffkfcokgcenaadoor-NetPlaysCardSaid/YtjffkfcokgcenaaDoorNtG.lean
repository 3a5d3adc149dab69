/-
  A NET's CODE KEEPS ITS CONTRACTS (own work): each, whatever body it is given that goes on.
-/
import Derived.Test.YtjffkfcokgcenaaDoorNtF
import Derived.Test.YtjffkfcokgcenaaDoorRgS
namespace Go.Proofs.YtjffkfcokgcenaaDoor
open Go.RowKit Go.Shelf Go.ChangeShapes Go.WideShapes

attribute [local go_sem] Oper.semAt_some

theorem each_any (a : Option Addr) (n c : Nat) (w : World) : Calls Tryd.prog 30 #[.slice a n c] w fun r w' => r = .returned (.func (.func 44) #[] #[.pointer (some ⟨w.heap.size, 0, none⟩)]) ∧ w' = w.alloc (.cells #[.slice a n c] 42) := by
  have hmf : ∀ (fn : Fn) (first cap : Array Value) (w : World), (Instr.makeFunc fn first cap).run Tryd.prog w = .ok (.func fn first cap) w := fun _ _ _ _ => rfl
  go_enter Tryd.func30, Tryd.ntmps30
  go_wp2
  go_ret
  exact ⟨rfl, rfl⟩
set_option maxRecDepth 100000 in
set_option maxHeartbeats 4000000 in
theorem eIter (n l bb B : Nat) (h1n : 1 ≤ n) (ad : Option Addr) (m cc : Nat) (ps : List LtP) (hl : ∀ p ∈ ps, p.l.d.length ≤ 1000) (hm : m ≤ 1000) (J : Nat → World → Prop)
    (hJ : ∀ j W W', J j W → Kp W W' → J j W')
    (hR : ∀ j W, J j W → W.cell? ⟨bb, 0, none⟩ = some (.slice ad m cc) ∧ W.ownsRow B 45 3 (.slice ad m cc) m (pE.row ps) ∧ ∀ p ∈ ps, SlB p.v p.l.d W)
    (hY : ∀ j p o' c' W0 W, J j W0 → Kp W0 W → ps[j]? = some p → W.ownsRow W0.heap.size 5 1 (.slice o' p.l.d.length c') p.l.d.length (p.l.d.map (Value.int .u8)) →
      YieldAt Fence.wide (n - 1) Tryd.prog l #[.int .i64 (j : Nat), .agg #[.int .i64 p.l.a, .int .i64 p.l.b, .slice o' p.l.d.length c']] W fun e W' => e = .returned (.bool true) ∧ J (j + 1) W')
    (W : World) (h0 : J 0 W) :
    CallsIn Fence.wide n Tryd.prog 44 #[.func (.yield l) #[] #[], .pointer (some ⟨bb, 0, none⟩)] W fun e W' => (∃ v, e = .returned v) ∧ J m W' := by
  have HJ := Lib.hid hJ
  have HR := Lib.hid hR
  have HY := Lib.hid hY
  have HL := Lib.hid hl
  have HM := Lib.hid hm
  obtain ⟨cb0, -, -⟩ := hR 0 W h0
  obtain ⟨mm, hmm⟩ : ∃ x : Int, (m : Int) = x := ⟨_, rfl⟩
  have HMM := Lib.hid hmm
  clear hJ hR hY hl hm
  refine callsIn_of_wp Tryd.func44 rfl trivial ?_ rfl
  simp only [Tryd.ntmps44, List.size_toArray, List.length_cons, List.length_nil, Nat.reduceAdd, Nat.reduceSub, Array.replicate_succ, Array.replicate_zero, List.push_toArray, List.append_toArray, List.nil_append, List.cons_append]
  gi_wp2
  gi_loopw [7] (fun p wr => ∃ j : Nat, j ≤ m ∧ p = .int .i64 j ∧ J j wr) (fun p _ => m - (intOf p).toNat)
  case atStart => exact ⟨0, Nat.zero_le _, rfl, h0⟩
  case round =>
    obtain ⟨j, hj, rfl, hjr⟩ := hrel
    obtain ⟨jj, hjj⟩ : ∃ jj : Int, (j : Int) = jj := ⟨_, rfl⟩
    rw [hjj]
    obtain ⟨cb, hrow, hdat⟩ := HR.out j wr hjr
    have hmm := HMM.out
    have hm1 := HM.out
    have JJ := Lib.hid (And.intro hjj hj)
    have HJ0 := Lib.hid hjr
    have j0 : 0 ≤ jj := by omega
    have j1 : jj ≤ 1000 := by omega
    by_cases hlt : j < m
    · have hlt2 : jj < mm := by omega
      have hpl : ps.length = m := own_lenG (E := pE) (by decide) hrow
      have hjp : j < ps.length := by omega
      obtain ⟨p, hp⟩ : ∃ p, ps[j] = p := ⟨_, rfl⟩
      have hpm : p ∈ ps := hp ▸ List.getElem_mem hjp
      have hpq : ps[j]? = some p := by rw [List.getElem?_eq_getElem hjp, hp]
      rcases hrow.2 with ⟨h, hz⟩ | ⟨bv, cap', cur, hv, hbb, hh, hnc, -⟩
      · omega
      injection hv with hv1 hv2 hv3
      subst hv1 hv3
      have c3 : ∀ (i : Nat) (u : Value), i < 3 → (pE.enc p)[i]? = some u → wr.cell? ⟨bv, j * 3 + i, none⟩ = some u := fun i u hi hu => by
        have := hrow.cells rfl (j * 3 + i) u (by rw [← hu, ← hp]; exact row_at pE ps j hjp i hi)
        rw [Addr.add_lit, Nat.zero_add] at this
        exact this
      obtain ⟨a, e1⟩ : ∃ a, p.l.a = a := ⟨_, rfl⟩
      obtain ⟨b, e2⟩ : ∃ b, p.l.b = b := ⟨_, rfl⟩
      obtain ⟨op, e3⟩ : ∃ o, p.o = o := ⟨_, rfl⟩
      obtain ⟨k, e4⟩ : ∃ k, p.l.d.length = k := ⟨_, rfl⟩
      obtain ⟨c, e5⟩ : ∃ c, p.c = c := ⟨_, rfl⟩
      have e6 : p.v = .slice op k c := by unfold LtP.v; rw [e3, e4, e5]
      have x0 : wr.cell? ⟨bv, j * 3, none⟩ = some (.int .i64 a) := by rw [← e1]; exact c3 0 _ (by decide) rfl
      have x1 : wr.cell? ⟨bv, j * 3 + 1, none⟩ = some (.int .i64 b) := by rw [← e2]; exact c3 1 _ (by decide) rfl
      have x2 : wr.cell? ⟨bv, j * 3 + 2, none⟩ = some (.slice op k c) := by rw [← e6]; exact c3 2 _ (by decide) rfl
      have ej : j = jj.toNat := by omega
      rw [ej] at x0 x1 x2
      have hsl := hdat p hpm
      rw [e6] at hsl
      have k1 := kp_alloc wr (.cells #[.int .i64 a, .int .i64 b, .slice op k c] 45)
      have HOW := Lib.hid (ownL_base a b op k c p.l.d e4 (by have := HL.out p hpm; omega) (wr.alloc (.cells #[.int .i64 a, .int .i64 b, .slice op k c] 45)) (hsl.kp k1))
      have hyy := fun o' c' W1 (hk : Kp wr W1) (ho : W1.ownsRow wr.heap.size 5 1 (.slice o' k c') k (p.l.d.map (Value.int .u8))) => HY.out j p o' c' wr W1 hjr hk hpq (by rw [e4]; exact ho)
      rw [e1, e2, e4, hjj] at hyy
      have HYY := Lib.hid hyy
      have K1 := Lib.hid k1
      clear hjr hdat hrow hm1 hpl hjp hp hpm hpq hh hnc hbb hv2 c3 e1 e2 e3 e4 e5 e6 ej hsl k1 hyy hjj hj hlt hmm
      gi_wp2_with (refine ⟨trivial, ?_⟩; gi_at_call 35; refine (callsIn_wide.2 HOW.out).mono ?_; rintro e w2 ⟨o2, c2, rfl, ho2, hk2⟩; obtain ⟨fn, tmps, assign, body, hy, hR2⟩ := HYY.out o2 c2 w2 (Kp.trans K1.out hk2) (own_mono ho2 (Below.size K1.out)); have HRD := Lib.hid hR2; clear ho2 hk2 hR2)
      refine HRD.out.mono ?_
      rintro e W3 ⟨rfl, hj3⟩
      have HJ3 := Lib.hid hj3
      clear hj3
      gi_wp2
      have h1 := JJ.out
      have h2 := HMM.out
      go_roundw
      case rel => exact ⟨j + 1, by omega, by congr 1; omega, HJ3.out⟩
      case measure => simp [intOf]; omega
    · have hex : ¬ jj < mm := by omega
      have e : j = m := by omega
      subst e
      clear hrow hdat hm1 hjj hj hlt hmm hjr
      gi_wp2
      go_end0
      exact ⟨⟨_, rfl⟩, HJ0.out⟩
end Go.Proofs.YtjffkfcokgcenaaDoor
