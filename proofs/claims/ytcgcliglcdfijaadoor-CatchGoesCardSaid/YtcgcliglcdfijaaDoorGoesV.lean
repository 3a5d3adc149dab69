/-
  CatchGoes' WALK over its list (own work).
-/
import Derived.Test.YtcgcliglcdfijaaDoorGoesT
namespace Go.Proofs.YtcgcliglcdfijaaDoor
open Go.RowKit Go.Extern.Stop Go.Stop Go.Extern

theorem goes_long (a : Option Addr) (cap len : Nat) (h60 : 60 < len) (w : World) (ads : List Addr) (so : Option Addr) (V : St ads so w) :
    Calls Tryd.prog 6 #[.slice a len cap] w fun e w' => e = .returned (.bool true) ∧ Kp w w' := by
  have HA := Lib.hid (alive_any ads so _ V)
  obtain ⟨ll, hll⟩ : ∃ ll : Int, (len : Int) = ll := ⟨_, rfl⟩
  have h : ll > 60 := by omega
  clear V
  go_enter Tryd.func6, Tryd.ntmps6
  go_wp2_with (go_at_call 8; (with_reducible refine HA.out.mono ?_); rintro e w1 ⟨rfl, hw1⟩)
  go_ret
  exact ⟨rfl, hw1⟩

set_option maxRecDepth 20000 in
set_option maxHeartbeats 1000000 in
theorem goes_short (a : Option Addr) (cap : Nat) (bs : List Int) (len : Nat) (hlen : bs.length = len) (h60 : len ≤ 60) (w : World) (hs : SlI (.slice a len cap) bs w) (ads : List Addr) (s : Addr) (V : St ads (some s) w) :
    Calls Tryd.prog 6 #[.slice a len cap] w fun e w' => e = .returned (.bool true) ∧ Kp w w' := by
  have hmf : ∀ (fn : Fn) (first cap : Array Value) (w : World), (Instr.makeFunc fn first cap).run Tryd.prog w = .ok (.func fn first cap) w := fun _ _ _ _ => rfl
  have HA := Lib.hid (alive_any ads (some s) _ V)
  have hel : ∀ wr, Kp w wr → ∀ j, j < len → ∃ b off, a = some ⟨b, off, none⟩ ∧ wr.cell? ⟨b, off + j, none⟩ = some (.int .i64 (bs.getD j 0)) := by
    intro wr hk j hj
    exact (hs.kp hk).at j (by omega)
  have HEL := Lib.hid hel
  have HV : Hid (StB ads (some s) w.heap.size w) := Lib.hid ⟨w, V, rfl, Below.refl _ _⟩
  clear V hs hel hlen
  go_enter Tryd.func6, Tryd.ntmps6
  go_wp2_with (go_at_call 8; (with_reducible refine HA.out.mono ?_); rintro e w1 ⟨rfl, hw1⟩)
  have K1 := Lib.hid (Kp.trans hw1 (kp_alloc w1 (.cells #[.int .i64 0] 3)))
  have CE := Lib.hid (box_cell w1 (.int .i64 0) 3)
  have ZE := Lib.hid (box_frozen w1 (.int .i64 0) 3)
  have hsz : w.heap.size ≤ w1.heap.size := Below.size hw1
  have HSZ := Lib.hid hsz
  clear hw1 hsz
  have TT : ∀ wr, Kp w wr → ∀ j : Nat, j < 60 → wr.cell? ⟨w1.heap.size, 0, none⟩ = some (.int .i64 j) → wr.frozen? ⟨w1.heap.size, 0, none⟩ = false → ∀ (k : Nat) (kk : Int), k < 21 → (k : Int) = kk →
      Calls Tryd.prog 24 #[.func (.func 25) #[] #[.pointer (some ⟨w1.heap.size, 0, none⟩), .pointer (some ⟨wr.heap.size, 0, none⟩), .pointer (some ⟨wr.heap.size + 1, 0, none⟩)]] ((wr.alloc (.cells #[.int .i64 kk] 3)).alloc (.cells #[.int .i64 0] 3)) fun e w' =>
        ∃ b r, e = .returned (.tuple #[.bool b, r]) ∧ Kp w w' ∧ w'.cell? ⟨w1.heap.size, 0, none⟩ = some (.int .i64 ((j + 1 : Nat) : Int)) ∧ w'.frozen? ⟨w1.heap.size, 0, none⟩ = false := by
    intro wr hk j hj60 hce hze k kk hk21 hkk
    have KA := kp_alloc wr (.cells #[.int .i64 kk] 3)
    have KB := kp_alloc (wr.alloc (.cells #[.int .i64 kk] 3)) (.cells #[.int .i64 0] 3)
    have hs1 : (wr.alloc (.cells #[.int .i64 kk] 3)).heap.size = wr.heap.size + 1 := by simp
    have hb : Below w.heap.size w ((wr.alloc (.cells #[.int .i64 kk] 3)).alloc (.cells #[.int .i64 0] 3)) := Kp.trans hk (Kp.trans KA KB)
    have hlt := old_of_cell hce
    have hlt' : w1.heap.size < wr.heap.size := hlt
    have c2 := box_cell (wr.alloc (.cells #[.int .i64 kk] 3)) (.int .i64 0) 3
    have z2 := box_frozen (wr.alloc (.cells #[.int .i64 kk] 3)) (.int .i64 0) 3
    rw [hs1] at c2 z2
    have hw := HSZ.out
    have hws := Below.size hk
    refine (goes_try ads s w.heap.size _ (HV.out.below hb) w1.heap.size HSZ.out ⟨wr.heap.size, 0, none⟩ ⟨wr.heap.size + 1, 0, none⟩ (show w.heap.size ≤ wr.heap.size + 1 by omega) k (by omega) kk j 0 hkk (kp_cell KB (box_cell _ _ _)) c2 z2 (kp_cell KB (kp_cell KA hce)) (kp_frozen KB (kp_cell KA hce) (kp_frozen KA hce hze)) (show w1.heap.size ≠ wr.heap.size + 1 by omega)).mono ?_
    rintro e w' ⟨b, r, he, h1, h2, h3⟩
    refine ⟨b, r, he, Below.trans hb h1, ?_, h3⟩
    rw [h2]
    congr 2
    unfold wrap64
    omega
  have HT := Lib.hid TT
  clear TT
  go_loopw [14] (fun i wr => ∃ j : Nat, j ≤ len ∧ i = .int .i64 j ∧ Kp w wr ∧ wr.cell? ⟨w1.heap.size, 0, none⟩ = some (.int .i64 j) ∧ wr.frozen? ⟨w1.heap.size, 0, none⟩ = false) (fun i _ => len - (intOf i).toNat)
  case atStart => exact ⟨0, Nat.zero_le _, rfl, K1.out, CE.out, ZE.out⟩
  case round =>
    obtain ⟨j, hj, rfl, hk, hce, hze⟩ := hrel
    have HK := Lib.hid hk
    have HCE := Lib.hid hce
    have HZE := Lib.hid hze
    clear hk hze
    by_cases hlt : j < len
    · clear hce
      obtain ⟨b, off, rfl, hc⟩ := HEL.out wr HK.out j hlt
      obtain ⟨nb, hnb⟩ : ∃ nb, bs.getD j 0 = nb := ⟨_, rfl⟩
      rw [hnb] at hc
      obtain ⟨k, hk21, heq⟩ := key_range nb 21 (by decide) (by decide)
      obtain ⟨kk, hkk⟩ : ∃ kk : Int, (k : Int) = kk := ⟨_, rfl⟩
      rw [hkk] at heq
      have heq' : wrap64 ((IntKind.u64.wrap nb).tmod 21) = kk := heq
      have HTT := Lib.hid (HT.out wr HK.out j (by omega) HCE.out HZE.out k kk hk21 hkk)
      clear hkk hnb heq
      obtain ⟨jj, hjj⟩ : ∃ jj : Int, (j : Int) = jj := ⟨_, rfl⟩
      rw [hjj]
      have HJ := Lib.hid hjj
      have hjn : jj.toNat = j := by omega
      rw [← hjn] at hc
      have hj0 : 0 ≤ jj := by omega
      have hlt' : jj < len := by omega
      clear hjj hlt hjn
      go_wp2_with (go_at_call 24; (with_reducible refine HTT.out.mono ?_); rintro e w5 ⟨bb, r, rfl, hk5, hc5, hz5⟩; have HK5 := Lib.hid hk5; have HC5 := Lib.hid hc5; have HZ5 := Lib.hid hz5; clear hk5 hc5 hz5)
      have hj1 := HJ.out
      go_roundw
      case rel => exact ⟨j + 1, by omega, by congr 1; omega, HK5.out, HC5.out, HZ5.out⟩
      case measure => simp [intOf]; omega
    · obtain rfl : j = len := by omega
      go_wp2
      go_ret
      exact ⟨rfl, HK.out⟩
end Go.Proofs.YtcgcliglcdfijaaDoor
