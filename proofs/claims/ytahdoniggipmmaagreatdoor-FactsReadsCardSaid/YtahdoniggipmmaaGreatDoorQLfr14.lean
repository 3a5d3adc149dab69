/-
  FactsReads: for all bytes, facts.Read answers the document's fact or error, leaves the bytes as they are, and what is read has the same bytes. Condition: package api's errors and strconv's table of powers hold what their declarations lay.
-/
import Derived.Test.YtahdoniggipmmaaGreatDoorPkK
import Derived.Test.YtahdoniggipmmaaGreatDoorPkO
import Derived.Test.YtahdoniggipmmaaGreatDoorPkN
import Derived.Test.YtahdoniggipmmaaGreatDoorPkA
import Derived.Test.YtahdoniggipmmaaGreatDoorPkF
import Derived.Test.YtahdoniggipmmaaGreatDoorRows
import Derived.Test.YtahdoniggipmmaaGreatDoorPkL
import Derived.Test.YtahdoniggipmmaaGreatDoorCards
import Derived.Test.YtahdoniggipmmaaGreatDoorTie
import Derived.SevenTiedAt
import Derived.Lay
import Derived.MakeChecks

namespace Go.Proofs.YtahdoniggipmmaaGreatDoor
open Go.RowKit Go.ChangeShapes Go.WideShapes

set_option maxRecDepth 20000 in
theorem freads_long (ads : List Addr) (a : Option Addr) (cap len : Nat) (hl : 1000 < len) (w : World) (C : FacC ads w) :
    Calls Tryz.prog 4 #[.slice a len cap] w fun e w' => e = .returned (.bool true) ∧ Kp w w' := by
  have HA := Lib.hid (alive14_any ads w C)
  obtain ⟨ll, hll⟩ : ∃ ll : Int, (len : Int) = ll := ⟨_, rfl⟩
  have h : ll > 1000 := by omega
  clear C
  go_enter Tryz.func4, Tryz.ntmps4
  go_wp2_with (go_at_call 7; (with_reducible refine HA.out.mono ?_); rintro e w1 ⟨rfl, hk⟩; have K1 := Lib.hid hk; clear hk)
  go_ret
  exact ⟨rfl, K1.out⟩

set_option maxRecDepth 100000 in
set_option maxHeartbeats 8000000 in
theorem freads_bad (ads : List Addr) (a0 : Option Addr) (cap : Nat) (bs : List Int) (len : Nat) (hlen : bs.length = len) (hb : InB bs) (hlc : len ≤ cap) (w : World) (V : St ads w) (C : FacC ads w) (hs : SlB (.slice a0 len cap) bs w) (hl : len ≤ 1000) (h0 : (decG bs).1 ≠ 0) :
    Calls Tryz.prog 4 #[.slice a0 len cap] w fun e w' => e = .returned (.bool true) ∧ Kp w w' := by
  have HA := Lib.hid (alive14_any ads w C)
  have HBy := Lib.hid (fun w1 (hk : Kp w w1) => numBytes_at a0 cap bs len hlen (by omega) w1 (hs.kp hk))
  have HKt := Lib.hid (fun w1 (g : Nat) (hk : Kp w w1) (hm : Marked g (len + 6) bs w1) => numKept_any g (.slice a0 len cap) bs len hlen (by omega) w1 hm (hs.kp hk))
  have HD := fun w1 (g : Nat) (hk : Kp w w1) (hm : Marked g (len + 6) bs w1) => C.dec w1 hk (some ⟨g, 0, none⟩) (len + 6) bs len hlen hl hb (by omega) (by have := hm.sl; rw [hlen] at this; exact this)
  have HR := fun w1 (hk : Kp w w1) => refRead14_any a0 len cap bs hlen hlc hl hb w1 (hs.kp hk)
  have hrg := decG_rng bs
  have HN := fun w1 (hk : Kp w w1) => num_errN ads w1 (V.below hk) (decG bs).1 hrg.1 hrg.2
  have hwf := decG_wf (bs := bs)
  obtain ⟨q0, hq4⟩ := errI_some14 ads (decG bs).1 h0
  rw [hq4] at HD HN
  obtain ⟨D, hD⟩ : ∃ x, (decG bs).1 = x := ⟨_, rfl⟩
  obtain ⟨M, hM⟩ : ∃ x, (decG bs).2 = x := ⟨_, rfl⟩
  rw [hD] at HR HN h0
  rw [hM] at HD HR hwf
  clear hD hM hq4 hrg
  have HSM := fun w1 => refSame14_any M M hwf hwf w1
  rw [same_refl14] at HSM
  obtain ⟨k, n, s, r, u, p, q, o, d, a, t, hh, c, x⟩ := M
  dsimp only [FX.cells] at HD HR HSM
  have HD := Lib.hid HD
  have HR := Lib.hid HR
  have HN := Lib.hid HN
  have HSM := Lib.hid HSM
  obtain ⟨ll, hll⟩ : ∃ ll : Int, (len : Int) = ll := ⟨_, rfl⟩
  have hng : ¬ ll > 1000 := by omega
  have hsf := store_fl
  clear V C hs hb hlen hwf hlc
  go_enter Tryz.func4, Tryz.ntmps4
  go_wp2_with (first
    | (go_at_call 7; (with_reducible refine HA.out.mono ?_); rintro e w1 ⟨rfl, hk⟩; have K1 := Lib.hid hk; clear hk)
    | (go_at_call 15; (with_reducible refine (HBy.out _ K1.out).mono ?_); rintro e w2 ⟨g, rfl, hm2, hw2⟩; have K2 := Lib.hid (Kp.trans K1.out hw2); have M2 := Lib.hid hm2; clear hm2 hw2)
    | (go_at_call 12; (with_reducible refine (HD.out _ _ K2.out M2.out).mono ?_); rintro e w3 ⟨rfl, hw3⟩; have K3 := Lib.hid (Kp.trans K2.out (Kp.trans hw3 (kp_alloc w3 (.cells #[.int .i64 k, .int .i64 n, .int .i64 s, .int .i64 r, .int .i64 u, .int .i64 p, .int .i64 q, .int .i64 o, .int .i64 d, .int .i64 a, .int .i64 t, .int .i64 hh, .int .i64 c, .float .f64 x] 26)))); have M3 := Lib.hid (M2.out.kp (Kp.trans hw3 (kp_alloc w3 (.cells #[.int .i64 k, .int .i64 n, .int .i64 s, .int .i64 r, .int .i64 u, .int .i64 p, .int .i64 q, .int .i64 o, .int .i64 d, .int .i64 a, .int .i64 t, .int .i64 hh, .int .i64 c, .float .f64 x] 26)))); have B3 := Lib.hid (MapKept.heap_alloc w3 (.cells #[.int .i64 k, .int .i64 n, .int .i64 s, .int .i64 r, .int .i64 u, .int .i64 p, .int .i64 q, .int .i64 o, .int .i64 d, .int .i64 a, .int .i64 t, .int .i64 hh, .int .i64 c, .float .f64 x] 26)).1; clear hw3)
    | (go_at_call 16; (with_reducible refine (HR.out _ K3.out).mono ?_); rintro e w4 ⟨rfl, hw4⟩; have KK := Lib.hid (Kp.trans K3.out (Kp.trans hw4 (kp_alloc w4 (.cells #[.int .i64 k, .int .i64 n, .int .i64 s, .int .i64 r, .int .i64 u, .int .i64 p, .int .i64 q, .int .i64 o, .int .i64 d, .int .i64 a, .int .i64 t, .int .i64 hh, .int .i64 c, .float .f64 x] 28)))); have M4 := Lib.hid (M3.out.kp (Kp.trans hw4 (kp_alloc w4 (.cells #[.int .i64 k, .int .i64 n, .int .i64 s, .int .i64 r, .int .i64 u, .int .i64 p, .int .i64 q, .int .i64 o, .int .i64 d, .int .i64 a, .int .i64 t, .int .i64 hh, .int .i64 c, .float .f64 x] 28)))); have R4 := Lib.hid (kp_row (Kp.trans hw4 (kp_alloc w4 (.cells #[.int .i64 k, .int .i64 n, .int .i64 s, .int .i64 r, .int .i64 u, .int .i64 p, .int .i64 q, .int .i64 o, .int .i64 d, .int .i64 a, .int .i64 t, .int .i64 hh, .int .i64 c, .float .f64 x] 28))) B3.out); have S4 := (MapKept.heap_alloc w4 (.cells #[.int .i64 k, .int .i64 n, .int .i64 s, .int .i64 r, .int .i64 u, .int .i64 p, .int .i64 q, .int .i64 o, .int .i64 d, .int .i64 a, .int .i64 t, .int .i64 hh, .int .i64 c, .float .f64 x] 28)).1; obtain ⟨b0, b1, b2, b3, b4, b5, b6, b7, b8, b9, b10, b11, b12, b13⟩ := cells14 R4.out; obtain ⟨y0, y1, y2, y3, y4, y5, y6, y7, y8, y9, y10, y11, y12, y13⟩ := cells14 S4; clear hw4 S4)
    | (go_at_call 14; (with_reducible refine (HSM.out _).mono ?_); rintro e w5 ⟨rfl, hw5⟩; have K5 := Lib.hid (Kp.trans KK.out hw5); have M5 := Lib.hid (M4.out.kp hw5); have R5 := Lib.hid (kp_row hw5 R4.out); clear hw5 b0 b1 b2 b3 b4 b5 b6 b7 b8 b9 b10 b11 b12 b13 y0 y1 y2 y3 y4 y5 y6 y7 y8 y9 y10 y11 y12 y13)
    | (go_at_call 11; (with_reducible refine (HN.out _ K5.out).mono ?_); rintro e w6 ⟨rfl, hw6⟩; have K6 := Lib.hid (Kp.trans K5.out hw6); have M6 := Lib.hid (M5.out.kp hw6); have R6 := Lib.hid (kp_row hw6 R5.out); clear hw6)
    | (go_at_call 17; (with_reducible refine (HKt.out _ _ K6.out M6.out).mono ?_); rintro e w7 ⟨rfl, hw7⟩; have K7 := Lib.hid (Kp.trans K6.out hw7); have R7 := Lib.hid (kp_row hw7 R6.out); obtain ⟨j0, j1, j2, j3, j4, j5, j6, j7, j8, j9, j10, j11, j12, j13⟩ := cells14 R7.out; clear hw7))
  go_ret
  exact ⟨by first | rfl | simp, K7.out⟩

set_option maxRecDepth 100000 in
set_option maxHeartbeats 8000000 in
theorem freads_ok (ads : List Addr) (a0 : Option Addr) (cap : Nat) (bs : List Int) (len : Nat) (hlen : bs.length = len) (hb : InB bs) (hlc : len ≤ cap) (w : World) (V : St ads w) (C : FacC ads w) (hs : SlB (.slice a0 len cap) bs w) (hl : len ≤ 1000) (M : FX) (hM : decG bs = (0, M)) :
    Calls Tryz.prog 4 #[.slice a0 len cap] w fun e w' => e = .returned (.bool true) ∧ Kp w w' := by
  have HA := Lib.hid (alive14_any ads w C)
  have HBy := Lib.hid (fun w1 (hk : Kp w w1) => numBytes_at a0 cap bs len hlen (by omega) w1 (hs.kp hk))
  have HKt := Lib.hid (fun w1 (g : Nat) (hk : Kp w w1) (hm : Marked g (len + 6) bs w1) => numKept_any g (.slice a0 len cap) bs len hlen (by omega) w1 hm (hs.kp hk))
  have HD := fun w1 (g : Nat) (hk : Kp w w1) (hm : Marked g (len + 6) bs w1) => C.dec w1 hk (some ⟨g, 0, none⟩) (len + 6) bs len hlen hl hb (by omega) (by have := hm.sl; rw [hlen] at this; exact this)
  have HR := fun w1 (hk : Kp w w1) => refRead14_any a0 len cap bs hlen hlc hl hb w1 (hs.kp hk)
  have hrg := decG_rng bs
  have HN := fun w1 (hk : Kp w w1) => num_errN ads w1 (V.below hk) (decG bs).1 hrg.1 hrg.2
  have hwf := decG_wf (bs := bs)
  obtain ⟨hrm, hem⟩ := enc_decF hb hM
  have HE := fun w1 (hk : Kp w w1) => C.encOk w1 hk M hrm
  simp only [hem, hlen] at HE
  rw [hM] at HD HR HN hwf
  simp only [errI_nil] at HD HN
  obtain ⟨ss, hss⟩ : ∃ ss, strOfNums bs = ss := ⟨_, rfl⟩
  have HSS := Lib.hid hss
  clear hM hem hrm hss hrg
  have HSM := fun w1 => refSame14_any M M hwf hwf w1
  rw [same_refl14] at HSM
  obtain ⟨k, n, s, r, u, p, q, o, d, a, t, hh, c, x⟩ := M
  dsimp only [FX.cells] at HD HR HSM HE
  have HD := Lib.hid HD
  have HR := Lib.hid HR
  have HN := Lib.hid HN
  have HSM := Lib.hid HSM
  have HS := Lib.hid hs
  have HE := Lib.hid HE
  obtain ⟨ll, hll⟩ : ∃ ll : Int, (len : Int) = ll := ⟨_, rfl⟩
  have hng : ¬ ll > 1000 := by omega
  have hsf := store_fl
  clear V C hs hb hlen hwf hlc
  go_enter Tryz.func4, Tryz.ntmps4
  go_wp2_with (first
    | (go_at_call 7; (with_reducible refine HA.out.mono ?_); rintro e w1 ⟨rfl, hk⟩; have K1 := Lib.hid hk; clear hk)
    | (go_at_call 15; (with_reducible refine (HBy.out _ K1.out).mono ?_); rintro e w2 ⟨g, rfl, hm2, hw2⟩; have K2 := Lib.hid (Kp.trans K1.out hw2); have M2 := Lib.hid hm2; clear hm2 hw2)
    | (go_at_call 12; (with_reducible refine (HD.out _ _ K2.out M2.out).mono ?_); rintro e w3 ⟨rfl, hw3⟩; have K3 := Lib.hid (Kp.trans K2.out (Kp.trans hw3 (kp_alloc w3 (.cells #[.int .i64 k, .int .i64 n, .int .i64 s, .int .i64 r, .int .i64 u, .int .i64 p, .int .i64 q, .int .i64 o, .int .i64 d, .int .i64 a, .int .i64 t, .int .i64 hh, .int .i64 c, .float .f64 x] 26)))); have M3 := Lib.hid (M2.out.kp (Kp.trans hw3 (kp_alloc w3 (.cells #[.int .i64 k, .int .i64 n, .int .i64 s, .int .i64 r, .int .i64 u, .int .i64 p, .int .i64 q, .int .i64 o, .int .i64 d, .int .i64 a, .int .i64 t, .int .i64 hh, .int .i64 c, .float .f64 x] 26)))); have B3 := Lib.hid (MapKept.heap_alloc w3 (.cells #[.int .i64 k, .int .i64 n, .int .i64 s, .int .i64 r, .int .i64 u, .int .i64 p, .int .i64 q, .int .i64 o, .int .i64 d, .int .i64 a, .int .i64 t, .int .i64 hh, .int .i64 c, .float .f64 x] 26)).1; clear hw3)
    | (go_at_call 16; (with_reducible refine (HR.out _ K3.out).mono ?_); rintro e w4 ⟨rfl, hw4⟩; have KK := Lib.hid (Kp.trans K3.out (Kp.trans hw4 (kp_alloc w4 (.cells #[.int .i64 k, .int .i64 n, .int .i64 s, .int .i64 r, .int .i64 u, .int .i64 p, .int .i64 q, .int .i64 o, .int .i64 d, .int .i64 a, .int .i64 t, .int .i64 hh, .int .i64 c, .float .f64 x] 28)))); have M4 := Lib.hid (M3.out.kp (Kp.trans hw4 (kp_alloc w4 (.cells #[.int .i64 k, .int .i64 n, .int .i64 s, .int .i64 r, .int .i64 u, .int .i64 p, .int .i64 q, .int .i64 o, .int .i64 d, .int .i64 a, .int .i64 t, .int .i64 hh, .int .i64 c, .float .f64 x] 28)))); have R4 := Lib.hid (kp_row (Kp.trans hw4 (kp_alloc w4 (.cells #[.int .i64 k, .int .i64 n, .int .i64 s, .int .i64 r, .int .i64 u, .int .i64 p, .int .i64 q, .int .i64 o, .int .i64 d, .int .i64 a, .int .i64 t, .int .i64 hh, .int .i64 c, .float .f64 x] 28))) B3.out); have S4 := (MapKept.heap_alloc w4 (.cells #[.int .i64 k, .int .i64 n, .int .i64 s, .int .i64 r, .int .i64 u, .int .i64 p, .int .i64 q, .int .i64 o, .int .i64 d, .int .i64 a, .int .i64 t, .int .i64 hh, .int .i64 c, .float .f64 x] 28)).1; obtain ⟨b0, b1, b2, b3, b4, b5, b6, b7, b8, b9, b10, b11, b12, b13⟩ := cells14 R4.out; obtain ⟨y0, y1, y2, y3, y4, y5, y6, y7, y8, y9, y10, y11, y12, y13⟩ := cells14 S4; clear hw4 S4)
    | (go_at_call 14; (with_reducible refine (HSM.out _).mono ?_); rintro e w5 ⟨rfl, hw5⟩; have K5 := Lib.hid (Kp.trans KK.out hw5); have M5 := Lib.hid (M4.out.kp hw5); have R5 := Lib.hid (kp_row hw5 R4.out); clear hw5 b0 b1 b2 b3 b4 b5 b6 b7 b8 b9 b10 b11 b12 b13 y0 y1 y2 y3 y4 y5 y6 y7 y8 y9 y10 y11 y12 y13)
    | (go_at_call 11; (with_reducible refine (HN.out _ K5.out).mono ?_); rintro e w6 ⟨rfl, hw6⟩; have K6 := Lib.hid (Kp.trans K5.out hw6); have M6 := Lib.hid (M5.out.kp hw6); have R6 := Lib.hid (kp_row hw6 R5.out); clear hw6)
    | (go_at_call 17; (with_reducible refine (HKt.out _ _ K6.out M6.out).mono ?_); rintro e w7 ⟨rfl, hw7⟩; have K7 := Lib.hid (Kp.trans K6.out hw7); have R7 := Lib.hid (kp_row hw7 R6.out); obtain ⟨j0, j1, j2, j3, j4, j5, j6, j7, j8, j9, j10, j11, j12, j13⟩ := cells14 R7.out; clear hw7)
    | (go_at_call 8; (with_reducible refine (HE.out _ K7.out).mono ?_); rintro e w8 ⟨a8, c8, rfl, -, ho8, hw8⟩; have K8 := Lib.hid (Kp.trans K7.out hw8); have cv8 := conv_slb (own_slb ho8); rw [HSS.out] at cv8; have cw8 := conv_slb (HS.out.kp K8.out); rw [HSS.out] at cw8; clear ho8 hw8))
  go_ret
  exact ⟨by first | rfl | simp, K8.out⟩

theorem factsReads_any (ads : List Addr) (a : Option Addr) (cap : Nat) (bs : List Int) (len : Nat) (hlen : bs.length = len) (hb : InB bs) (hlc : len ≤ cap) (w : World) (V : St ads w) (C : FacC ads w) (hs : SlB (.slice a len cap) bs w) :
    Calls Tryz.prog 4 #[.slice a len cap] w fun e w' => e = .returned (.bool true) ∧ Kp w w' := by
  by_cases hl : 1000 < len
  · exact freads_long ads a cap len hl w C
  by_cases h0 : (decG bs).1 = 0
  · exact freads_ok ads a cap bs len hlen hb hlc w V C hs (by omega) (decG bs).2 (Prod.ext h0 rfl)
  · exact freads_bad ads a cap bs len hlen hb hlc w V C hs (by omega) h0
end Go.Proofs.YtahdoniggipmmaaGreatDoor

namespace Go.Proofs.YtahdoniggipmmaaGreatDoor
open Go.RowKit

theorem factsReads_walk (a : Option Addr) (cap : Nat) (bs : List Int) (W : World) (k1 : SlB (.slice a bs.length cap) bs W) (k2 : InB bs) (_k3 : bs.length ≤ maxLen) (k4 : bs.length ≤ cap) (hL : laidMetH Tryz.prog Rows.factsReadsRow.laid W) :
    Calls Tryz.prog 4 #[.slice a bs.length cap] W fun e w' => e = .returned (.bool true) ∧ Below W.heap.size W w' := by
  obtain ⟨⟨ads, V⟩, T⟩ := st_tab_of (l := Rows.factsReadsRow.laid) (by kernel_rfl) (by kernel_rfl) (by kernel_rfl) hL
  have C := facC_of ads W V T
  exact factsReads_any ads a cap bs bs.length rfl k2 k4 W V C k1

end Go.Proofs.YtahdoniggipmmaaGreatDoor

namespace Go.Proofs.YtahdoniggipmmaaGreatDoor
open Go.ChangeShapes Go.WideShapes Go.ChangeAt Go.WideMaps Go.WideElems Go.RowKit


set_option maxRecDepth 100000 in
theorem factsReads_lifted (os : Os) (started : os.Started) (H : Type) (enc : TypeId × Value → H) :
    ReturnsInHanded {} Tryz.checked os 4 .any (fun w args => (Rows.factsReadsSpec.pre enc Tryz.prog Tryz.f4 [] false w args ∧ laidMetH Tryz.prog Rows.factsReadsRow.laid w) ∧ sizedMet enc Tryz.prog Tryz.f4 (OpenSpec.ofChange Rows.factsReadsSpec) false w args)
      (Rows.factsReadsSpec.post enc Tryz.prog Tryz.f4 false true false false) := by
  refine returnsInHanded_of_change_and (C := Tryz.checked) (X := fun w _ => laidMetH Tryz.prog Rows.factsReadsRow.laid w) (fun _ _ _ hh h => h.of_heap hh) own started (by kernel_rfl) Tryz.func4
    (ChangeSpec.witness_shaped (enc := enc) (C := Tryz.checked) (os := os) (X := fun w _ => laidMetH Tryz.prog Rows.factsReadsRow.laid w) false (World.laidAll Tryz.prog os Rows.factsReadsRow.laid) #[.slice none 0 0] 8 (World.laidAll_os _ _ _) (World.shaped_of_ZipB (by kernel_rfl) (by kernel_rfl)) (by kernel_rfl) (by kernel_rfl) (by kernel_rfl) (by rw [MakeChecks.laidMetH_plain _ _ _ (by kernel_rfl)]; exact laidMet_laidAll _ (by kernel_rfl) (by kernel_rfl))) ?_
  intro W base args ds gs before hval0 hW _ hsz hL _
  have hval : ∀ (j : Nat) t v, Tryz.f4.params[j]? = some t → args[j]? = some v → Value.okWide Tryz.prog W .any base t v := hval0
  have hW' := hW
  obtain ⟨p, q, hA0, hV, rfl, hfz, hnd⟩ := hW
  have hA : DataW.TrodAll enc Tryz.prog W 0 (fun _ => true) true Tryz.f4.params.toList args.toList ds p := hA0
  rw [Tryz.params4] at hA hval
  obtain ⟨v0, vs0, d0, ds0, p0, q0, e0, rfl, rfl, h0, r0⟩ := trodAll_cons hA
  obtain ⟨rfl, rfl, rfl⟩ := trodAll_nil r0
  obtain rfl : args = #[v0] := by cases args; simp_all
  obtain ⟨rfl, rfl⟩ := trodVars_none hV
  obtain ⟨r, ar, cr, rfl, kra, krb, krc, krd⟩ := open_bytes Tryz.underlying29 Tryz.underlying5 (by kernel_rfl) (hval 0 29 v0 rfl rfl) h0
  clear hA0 hval0
  refine (factsReads_walk ar cr r W kra krb krc krd hL).mono fun e W' ⟨he, hw⟩ => ?_
  subst he
  exact ⟨_, rfl, law_post laidOut hW' rfl rfl rfl Tryz.underlying4 (par_ok (by kernel_rfl)) hw⟩

theorem factsReads_said : Rows.FactsReadsSaid :=
  OpenClaim.holds_of_wide 4 Tryz.f4 rfl rfl rfl rfl rfl rfl rfl ⟨rfl, rfl, rfl, rfl, rfl⟩ rfl rfl rfl rfl rfl (by kernel_rfl) Tryz.func4 (by kernel_rfl)
    (of_decide_eq_true (by kernel_rfl)) (by unfold Func.isWrapper; first | (rw [if_pos (by decide +kernel)]; kernel_rfl) | (rw [if_neg (by decide +kernel)]; exact ⟨rfl, rfl⟩))
    (fun os started H enc _ => factsReads_lifted os started H enc)

theorem factsReads_holds : Rows.FactsReadsCardSaid :=
  Claim7.holds_tied_plain_at .later [] _ _ _ _ factsReads_said (fun _ h => by cases h) (by kernel_rfl) (fun _ h => by cases h) factsReads_row_tie rfl ⟨rfl, rfl⟩ (by kernel_rfl) rfl
    (fun f fn hf hfn => by
      obtain rfl : f = 4 := Option.some.inj ((show Tryz.prog.funcNamed "liaison/liaisonlaw14.FactsReads" = some 4 by kernel_rfl).symm.trans hf) |>.symm
      obtain rfl : fn = Tryz.f4 := (Option.some.inj (Tryz.func4.symm.trans hfn)).symm
      exact ⟨by kernel_rfl, stand_ok (P := Tryz.prog) (by kernel_rfl)⟩)
    (by kernel_rfl)
end Go.Proofs.YtahdoniggipmmaaGreatDoor

