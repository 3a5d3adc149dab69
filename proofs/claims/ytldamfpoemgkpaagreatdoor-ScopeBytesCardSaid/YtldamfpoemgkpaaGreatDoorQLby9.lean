/-
  ScopeBytes: for every context and all bytes, a right context's bytes are the document's and are decoded to it, others have none; bytes are decoded just as the document has it, and what is decoded is encoded to the same bytes. Condition: package api's errors and strconv's table of powers hold what their declarations lay.
-/
import Derived.Test.YtldamfpoemgkpaaGreatDoorPkK
import Derived.Test.YtldamfpoemgkpaaGreatDoorPkF
import Derived.Deep.RegionHeld3
import Derived.Test.YtldamfpoemgkpaaGreatDoorRows
import Derived.Test.YtldamfpoemgkpaaGreatDoorPkL
import Derived.Test.YtldamfpoemgkpaaGreatDoorPkJ
import Derived.Test.YtldamfpoemgkpaaGreatDoorCards
import Derived.Test.YtldamfpoemgkpaaGreatDoorTie
import Derived.SevenTiedAt
import Derived.Lay
import Derived.MakeChecks

namespace Go.Proofs.YtldamfpoemgkpaaGreatDoor
open Go.RowKit Go.ChangeShapes Go.WideShapes

theorem decX_rng (bs : List Int) : 0 ≤ (decX bs).1 ∧ (decX bs).1 ≤ 14 := by
  rcases decX_num bs with h | h | h <;> rw [h] <;> exact ⟨by decide, by decide⟩
set_option maxRecDepth 20000 in
theorem bytes_long (ads : List Addr) (c : CX) (a : Option Addr) (cap len : Nat) (hl : 1000 < len) (w : World) (S : ScoC ads w) :
    Calls Tryz.prog 3 #[.agg c.cells, .slice a len cap] w fun e w' => e = .returned (.bool true) ∧ Kp w w' := by
  have HA := Lib.hid (fun w1 (hk : Kp w w1) => alive9_any ads w1 (ScoC.kp S hk))
  obtain ⟨ll, hll⟩ : ∃ ll : Int, (len : Int) = ll := ⟨_, rfl⟩
  have h : ll > 1000 := by omega
  obtain ⟨n, s, o, d, x⟩ := c
  dsimp only [CX.cells]
  have KB := Lib.hid (kp_alloc w (.cells #[.int .i64 n, .int .i64 s, .int .i64 o, .int .i64 d, .float .f64 x] 26))
  clear S
  go_enter Tryz.func3, Tryz.ntmps3
  go_wp2_with (go_at_call 4; (with_reducible refine (HA.out _ KB.out).mono ?_); rintro e w1 ⟨rfl, hk⟩; have K1 := Lib.hid (Kp.trans KB.out hk); clear hk)
  go_ret
  exact ⟨rfl, K1.out⟩
set_option maxRecDepth 100000 in
set_option maxHeartbeats 4000000 in
theorem bytes_wb (ads : List Addr) (c : CX) (hc : c.wf) (a : Option Addr) (cap : Nat) (bs : List Int) (len : Nat) (hlen : bs.length = len) (hb : InB bs) (hlc : len ≤ cap) (w : World) (V : St ads w) (S : ScoC ads w) (B : BytC ads w) (hs : SlB (.slice a len cap) bs w) (hl : len ≤ 1000) (hr : rightX c = false) (h0 : (decX bs).1 ≠ 0) :
    Calls Tryz.prog 3 #[.agg c.cells, .slice a len cap] w fun e w' => e = .returned (.bool true) ∧ Kp w w' := by
  have HA := Lib.hid (fun w1 (hk : Kp w w1) => alive9_any ads w1 (ScoC.kp S hk))
  have HRF := fun w1 => refRight9_any c hc w1
  rw [hr] at HRF
  have HD := fun w1 (hk : Kp w w1) => B.dec w1 hk a cap bs len hlen hl hb hlc (hs.kp hk)
  have HF := fun w1 (hk : Kp w w1) => refDecode9_any a len cap bs hlen hlc hl hb w1 (hs.kp hk)
  have hrg := decX_rng bs
  have HN := fun w1 (hk : Kp w w1) => num_errN ads w1 (V.below hk) (decX bs).1 hrg.1 hrg.2
  have hwf := decX_wf (bs := bs)
  obtain ⟨q, hq4⟩ := errI_some9 ads (decX bs).1 h0
  rw [hq4] at HD HN
  obtain ⟨D, hD⟩ : ∃ x, (decX bs).1 = x := ⟨_, rfl⟩
  obtain ⟨M, hM⟩ : ∃ x, (decX bs).2 = x := ⟨_, rfl⟩
  rw [hD] at HF HN h0
  rw [hM] at HD HF hwf
  clear hD hM hq4 hrg
  have HE := fun w1 (hk : Kp w w1) => B.encBad w1 hk c hc hr
  have HN4 := fun w1 (hk : Kp w w1) => num_errN ads w1 (V.below hk) 4 (by decide) (by decide)
  obtain ⟨q4, h4⟩ := errI_some9 ads 4 (by decide)
  rw [h4] at HE HN4
  clear h4
  have HSF := fun w1 => refSame9_any M M hwf hwf w1
  rw [same_refl9] at HSF
  obtain ⟨n3, s3, o3, d3, x3⟩ := M
  obtain ⟨n, s, o, d, x⟩ := c
  dsimp only [CX.cells] at *
  have HRF := Lib.hid HRF
  have HD := Lib.hid HD
  have HF := Lib.hid HF
  have HN := Lib.hid HN
  have HE := Lib.hid HE
  have HSF := Lib.hid HSF
  have HN4 := Lib.hid HN4
  have HS := Lib.hid hs
  obtain ⟨ll, hll⟩ : ∃ ll : Int, (len : Int) = ll := ⟨_, rfl⟩
  have hng : ¬ ll > 1000 := by omega
  have kb := kp_alloc w (.cells #[.int .i64 n, .int .i64 s, .int .i64 o, .int .i64 d, .float .f64 x] 26)
  have KB := Lib.hid kb
  have HR := Lib.hid (MapKept.heap_alloc w (.cells #[.int .i64 n, .int .i64 s, .int .i64 o, .int .i64 d, .float .f64 x] 26)).1
  have hsf := store_fl
  clear V S B hs hb hlen hr kb hwf hc
  go_enter Tryz.func3, Tryz.ntmps3
  go_wp2_with (first
    | (go_at_call 4; (with_reducible refine (HA.out _ KB.out).mono ?_); rintro e w1 ⟨rfl, hk⟩; have K1 := Lib.hid (Kp.trans KB.out hk); have R1 := Lib.hid (kp_row hk HR.out); obtain ⟨g0, g1, g2, g3, g4⟩ := cells5 (R1.out); clear hk)
    | (go_at_call 5; (with_reducible refine (HE.out _ K1.out).mono ?_); rintro e w2 ⟨rfl, hk⟩; have K2 := Lib.hid (Kp.trans K1.out hk); have R2 := Lib.hid (kp_row hk R1.out); obtain ⟨h0, h1, h2, h3, h4⟩ := cells5 (R2.out); clear hk)
    | (go_at_call 6; (with_reducible refine (HRF.out _).mono ?_); rintro e w3 ⟨rfl, hk⟩; have K3 := Lib.hid (Kp.trans K2.out hk); clear hk)
    | (go_at_call 7; (with_reducible refine (HN4.out _ K3.out).mono ?_); rintro e w4 ⟨rfl, hk⟩; have KX := Lib.hid (Kp.trans K3.out hk); clear hk)
    | (go_at_call 8; (with_reducible refine (HD.out _ KX.out).mono ?_); rintro e w5 ⟨rfl, hk⟩; have K5 := Lib.hid (Kp.trans KX.out (Kp.trans hk (kp_alloc w5 (.cells #[.int .i64 n3, .int .i64 s3, .int .i64 o3, .int .i64 d3, .float .f64 x3] 26)))); have B5 := Lib.hid (MapKept.heap_alloc w5 (.cells #[.int .i64 n3, .int .i64 s3, .int .i64 o3, .int .i64 d3, .float .f64 x3] 26)).1; clear hk)
    | (go_at_call 11; (with_reducible refine (HF.out _ K5.out).mono ?_); rintro e w6 ⟨rfl, hk⟩; have K6 := Lib.hid (Kp.trans K5.out (Kp.trans hk (kp_alloc w6 (.cells #[.int .i64 n3, .int .i64 s3, .int .i64 o3, .int .i64 d3, .float .f64 x3] 26)))); have B6 := Lib.hid (kp_row (Kp.trans hk (kp_alloc w6 (.cells #[.int .i64 n3, .int .i64 s3, .int .i64 o3, .int .i64 d3, .float .f64 x3] 26))) B5.out); obtain ⟨b0, b1, b2, b3, b4⟩ := cells5 (B6.out); clear hk)
    | (go_at_call 12; (with_reducible refine (HSF.out _).mono ?_); rintro e w7 ⟨rfl, hk⟩; have K7 := Lib.hid (Kp.trans K6.out hk); have B7 := Lib.hid (kp_row hk B6.out); clear hk)
    | (go_at_call 7; (with_reducible refine (HN.out _ K7.out).mono ?_); rintro e w8 ⟨rfl, hk⟩; have K8 := Lib.hid (Kp.trans K7.out hk); have B8 := Lib.hid (kp_row hk B7.out); obtain ⟨d0, d1, d2, d3, d4⟩ := cells5 (B8.out); clear hk))
  go_ret
  exact ⟨by first | rfl | simp, K8.out⟩
set_option maxRecDepth 100000 in
set_option maxHeartbeats 4000000 in
theorem bytes_wo (ads : List Addr) (c : CX) (hc : c.wf) (a : Option Addr) (cap : Nat) (bs : List Int) (len : Nat) (hlen : bs.length = len) (hb : InB bs) (hlc : len ≤ cap) (w : World) (V : St ads w) (S : ScoC ads w) (B : BytC ads w) (hs : SlB (.slice a len cap) bs w) (hl : len ≤ 1000) (hr : rightX c = false) (h0 : (decX bs).1 = 0) :
    Calls Tryz.prog 3 #[.agg c.cells, .slice a len cap] w fun e w' => e = .returned (.bool true) ∧ Kp w w' := by
  have HA := Lib.hid (fun w1 (hk : Kp w w1) => alive9_any ads w1 (ScoC.kp S hk))
  have HRF := fun w1 => refRight9_any c hc w1
  rw [hr] at HRF
  have HD := fun w1 (hk : Kp w w1) => B.dec w1 hk a cap bs len hlen hl hb hlc (hs.kp hk)
  have HF := fun w1 (hk : Kp w w1) => refDecode9_any a len cap bs hlen hlc hl hb w1 (hs.kp hk)
  have hrg := decX_rng bs
  have HN := fun w1 (hk : Kp w w1) => num_errN ads w1 (V.below hk) (decX bs).1 hrg.1 hrg.2
  have hwf := decX_wf (bs := bs)
  obtain ⟨M, hM⟩ : ∃ M, decX bs = (0, M) := ⟨(decX bs).2, Prod.ext h0 rfl⟩
  obtain ⟨hrm, hem⟩ := enc_decX hb hM
  have HE2 := fun w1 (hk : Kp w w1) => B.encOk w1 hk M hrm
  simp only [hem, hlen] at HE2
  simp only [hM, errI_nil] at HD HF HN hwf
  obtain ⟨st, hst⟩ : ∃ ss, strOfNums bs = ss := ⟨_, rfl⟩
  have HST := Lib.hid hst
  clear hM hem hrm hst h0 hrg
  have HE := fun w1 (hk : Kp w w1) => B.encBad w1 hk c hc hr
  have HN4 := fun w1 (hk : Kp w w1) => num_errN ads w1 (V.below hk) 4 (by decide) (by decide)
  obtain ⟨q4, h4⟩ := errI_some9 ads 4 (by decide)
  rw [h4] at HE HN4
  clear h4
  have HSF := fun w1 => refSame9_any M M hwf hwf w1
  rw [same_refl9] at HSF
  obtain ⟨n3, s3, o3, d3, x3⟩ := M
  obtain ⟨n, s, o, d, x⟩ := c
  dsimp only [CX.cells] at *
  have HRF := Lib.hid HRF
  have HD := Lib.hid HD
  have HF := Lib.hid HF
  have HN := Lib.hid HN
  have HE := Lib.hid HE
  have HSF := Lib.hid HSF
  have HE2 := Lib.hid HE2
  have HN4 := Lib.hid HN4
  have HS := Lib.hid hs
  obtain ⟨ll, hll⟩ : ∃ ll : Int, (len : Int) = ll := ⟨_, rfl⟩
  have hng : ¬ ll > 1000 := by omega
  have kb := kp_alloc w (.cells #[.int .i64 n, .int .i64 s, .int .i64 o, .int .i64 d, .float .f64 x] 26)
  have KB := Lib.hid kb
  have HR := Lib.hid (MapKept.heap_alloc w (.cells #[.int .i64 n, .int .i64 s, .int .i64 o, .int .i64 d, .float .f64 x] 26)).1
  have hsf := store_fl
  clear V S B hs hb hlen hr kb hwf hc
  go_enter Tryz.func3, Tryz.ntmps3
  go_wp2_with (first
    | (go_at_call 4; (with_reducible refine (HA.out _ KB.out).mono ?_); rintro e w1 ⟨rfl, hk⟩; have K1 := Lib.hid (Kp.trans KB.out hk); have R1 := Lib.hid (kp_row hk HR.out); obtain ⟨g0, g1, g2, g3, g4⟩ := cells5 (R1.out); clear hk)
    | (go_at_call 5; (with_reducible refine (HE.out _ K1.out).mono ?_); rintro e w2 ⟨rfl, hk⟩; have K2 := Lib.hid (Kp.trans K1.out hk); have R2 := Lib.hid (kp_row hk R1.out); obtain ⟨h0, h1, h2, h3, h4⟩ := cells5 (R2.out); clear hk)
    | (go_at_call 6; (with_reducible refine (HRF.out _).mono ?_); rintro e w3 ⟨rfl, hk⟩; have K3 := Lib.hid (Kp.trans K2.out hk); clear hk)
    | (go_at_call 7; (with_reducible refine (HN4.out _ K3.out).mono ?_); rintro e w4 ⟨rfl, hk⟩; have KX := Lib.hid (Kp.trans K3.out hk); clear hk)
    | (go_at_call 8; (with_reducible refine (HD.out _ KX.out).mono ?_); rintro e w5 ⟨rfl, hk⟩; have K5 := Lib.hid (Kp.trans KX.out (Kp.trans hk (kp_alloc w5 (.cells #[.int .i64 n3, .int .i64 s3, .int .i64 o3, .int .i64 d3, .float .f64 x3] 26)))); have B5 := Lib.hid (MapKept.heap_alloc w5 (.cells #[.int .i64 n3, .int .i64 s3, .int .i64 o3, .int .i64 d3, .float .f64 x3] 26)).1; clear hk)
    | (go_at_call 11; (with_reducible refine (HF.out _ K5.out).mono ?_); rintro e w6 ⟨rfl, hk⟩; have K6 := Lib.hid (Kp.trans K5.out (Kp.trans hk (kp_alloc w6 (.cells #[.int .i64 n3, .int .i64 s3, .int .i64 o3, .int .i64 d3, .float .f64 x3] 26)))); have B6 := Lib.hid (kp_row (Kp.trans hk (kp_alloc w6 (.cells #[.int .i64 n3, .int .i64 s3, .int .i64 o3, .int .i64 d3, .float .f64 x3] 26))) B5.out); obtain ⟨b0, b1, b2, b3, b4⟩ := cells5 (B6.out); clear hk)
    | (go_at_call 12; (with_reducible refine (HSF.out _).mono ?_); rintro e w7 ⟨rfl, hk⟩; have K7 := Lib.hid (Kp.trans K6.out hk); have B7 := Lib.hid (kp_row hk B6.out); clear hk)
    | (go_at_call 7; (with_reducible refine (HN.out _ K7.out).mono ?_); rintro e w8 ⟨rfl, hk⟩; have K8 := Lib.hid (Kp.trans K7.out hk); have B8 := Lib.hid (kp_row hk B7.out); obtain ⟨d0, d1, d2, d3, d4⟩ := cells5 (B8.out); clear hk)
    | (go_at_call 5; (with_reducible refine (HE2.out _ K8.out).mono ?_); rintro e w9 ⟨a9, c9, rfl, -, hs9, hk⟩; have K9 := Lib.hid (Kp.trans K8.out hk); have cv9 := conv_slb hs9; rw [HST.out] at cv9; have cw9 := conv_slb (HS.out.kp K9.out); rw [HST.out] at cw9; clear hs9 hk))
  go_ret
  exact ⟨by first | rfl | simp, K9.out⟩
set_option maxRecDepth 100000 in
set_option maxHeartbeats 4000000 in
theorem bytes_rb (ads : List Addr) (c : CX) (hc : c.wf) (a : Option Addr) (cap : Nat) (bs : List Int) (len : Nat) (hlen : bs.length = len) (hb : InB bs) (hlc : len ≤ cap) (w : World) (V : St ads w) (S : ScoC ads w) (B : BytC ads w) (hs : SlB (.slice a len cap) bs w) (hl : len ≤ 1000) (hr : rightX c = true) (h0 : (decX bs).1 ≠ 0) :
    Calls Tryz.prog 3 #[.agg c.cells, .slice a len cap] w fun e w' => e = .returned (.bool true) ∧ Kp w w' := by
  have HA := Lib.hid (fun w1 (hk : Kp w w1) => alive9_any ads w1 (ScoC.kp S hk))
  have HRF := fun w1 => refRight9_any c hc w1
  rw [hr] at HRF
  have HD := fun w1 (hk : Kp w w1) => B.dec w1 hk a cap bs len hlen hl hb hlc (hs.kp hk)
  have HF := fun w1 (hk : Kp w w1) => refDecode9_any a len cap bs hlen hlc hl hb w1 (hs.kp hk)
  have hrg := decX_rng bs
  have HN := fun w1 (hk : Kp w w1) => num_errN ads w1 (V.below hk) (decX bs).1 hrg.1 hrg.2
  have hwf := decX_wf (bs := bs)
  obtain ⟨q, hq4⟩ := errI_some9 ads (decX bs).1 h0
  rw [hq4] at HD HN
  obtain ⟨D, hD⟩ : ∃ x, (decX bs).1 = x := ⟨_, rfl⟩
  obtain ⟨M, hM⟩ : ∃ x, (decX bs).2 = x := ⟨_, rfl⟩
  rw [hD] at HF HN h0
  rw [hM] at HD HF hwf
  clear hD hM hq4 hrg
  have hokn := rightX_okn hr
  have HE := fun w1 (hk : Kp w w1) => B.encOk w1 hk c hr
  have HD1 := fun w1 (hk : Kp w w1) (a : Option Addr) (p : Nat) (n : Nat) (hn : (encX c).length = n) (hp : n ≤ p) => B.dec w1 hk a p (encX c) n hn (by rw [← hn]; exact encX_len c) (encX_in c) hp
  have HRE := fun w1 => refEncode9_any c hc hokn w1
  rw [dec_encX hr] at HD1
  simp only [errI_nil] at HD1
  have HSM := fun w1 (hk : Kp w w1) => S.same w1 hk c c hc hc
  rw [same_refl9] at HSM
  obtain ⟨eb, heb⟩ : ∃ x, encX c = x := ⟨_, rfl⟩
  rw [heb] at HE HD1 HRE
  obtain ⟨n', hn'⟩ : ∃ x, eb.length = x := ⟨_, rfl⟩
  rw [hn'] at HE
  obtain ⟨ss, hss⟩ : ∃ x, strOfNums eb = x := ⟨_, rfl⟩
  have HSS := Lib.hid hss
  have HLN := Lib.hid hn'
  clear heb hss hn' hokn
  have HSF := fun w1 => refSame9_any M M hwf hwf w1
  rw [same_refl9] at HSF
  obtain ⟨n3, s3, o3, d3, x3⟩ := M
  obtain ⟨n, s, o, d, x⟩ := c
  dsimp only [CX.cells] at *
  have HRF := Lib.hid HRF
  have HD := Lib.hid HD
  have HF := Lib.hid HF
  have HN := Lib.hid HN
  have HE := Lib.hid HE
  have HSF := Lib.hid HSF
  have HD1 := Lib.hid HD1
  have HRE := Lib.hid HRE
  have HSM := Lib.hid HSM
  have HS := Lib.hid hs
  obtain ⟨ll, hll⟩ : ∃ ll : Int, (len : Int) = ll := ⟨_, rfl⟩
  have hng : ¬ ll > 1000 := by omega
  have kb := kp_alloc w (.cells #[.int .i64 n, .int .i64 s, .int .i64 o, .int .i64 d, .float .f64 x] 26)
  have KB := Lib.hid kb
  have HR := Lib.hid (MapKept.heap_alloc w (.cells #[.int .i64 n, .int .i64 s, .int .i64 o, .int .i64 d, .float .f64 x] 26)).1
  have hsf := store_fl
  clear V S B hs hb hlen hr kb hwf hc
  go_enter Tryz.func3, Tryz.ntmps3
  go_wp2_with (first
    | (go_at_call 4; (with_reducible refine (HA.out _ KB.out).mono ?_); rintro e w1 ⟨rfl, hk⟩; have K1 := Lib.hid (Kp.trans KB.out hk); have R1 := Lib.hid (kp_row hk HR.out); obtain ⟨g0, g1, g2, g3, g4⟩ := cells5 (R1.out); clear hk)
    | (go_at_call 5; (with_reducible refine (HE.out _ K1.out).mono ?_); rintro e w2 ⟨a2, c2, rfl, hc2, hs2, hk⟩; have K2 := Lib.hid (Kp.trans K1.out hk); have R2 := Lib.hid (kp_row hk R1.out); obtain ⟨h0, h1, h2, h3, h4⟩ := cells5 (R2.out); have S2 := Lib.hid hs2; have HC2 := Lib.hid hc2; clear hk hs2 hc2)
    | (go_at_call 6; (with_reducible refine (HRF.out _).mono ?_); rintro e w3 ⟨rfl, hk⟩; have K3 := Lib.hid (Kp.trans K2.out hk); have S3 := Lib.hid (S2.out.kp hk); have R3 := Lib.hid (kp_row hk R2.out); clear hk)
    | (go_at_call 8; (with_reducible refine (HD1.out _ K3.out _ _ _ HLN.out HC2.out S3.out).mono ?_); rintro e w4 ⟨rfl, hk⟩; have K4 := Lib.hid (Kp.trans K3.out (Kp.trans hk (kp_alloc w4 (.cells #[.int .i64 n, .int .i64 s, .int .i64 o, .int .i64 d, .float .f64 x] 26)))); have S4 := Lib.hid (S3.out.kp (Kp.trans hk (kp_alloc w4 (.cells #[.int .i64 n, .int .i64 s, .int .i64 o, .int .i64 d, .float .f64 x] 26)))); have R4 := Lib.hid (kp_row (Kp.trans hk (kp_alloc w4 (.cells #[.int .i64 n, .int .i64 s, .int .i64 o, .int .i64 d, .float .f64 x] 26))) R3.out); have B4 := Lib.hid (MapKept.heap_alloc w4 (.cells #[.int .i64 n, .int .i64 s, .int .i64 o, .int .i64 d, .float .f64 x] 26)).1; clear hk))
  obtain ⟨wX, hwX⟩ : ∃ y, w4.alloc (.cells #[.int .i64 n, .int .i64 s, .int .i64 o, .int .i64 d, .float .f64 x] 26) = y := ⟨_, rfl⟩
  obtain ⟨bX, hbX⟩ : ∃ y, w4.heap.size = y := ⟨_, rfl⟩
  rw [hwX] at K4 S4 R4 B4 ⊢
  rw [hbX] at B4 ⊢
  obtain ⟨j0, j1, j2, j3, j4⟩ := cells5 (R4.out)
  obtain ⟨b0, b1, b2, b3, b4⟩ := cells5 (B4.out)
  have CV : Hid (∀ w', Kp wX w' → (convert 27 9 (.slice a2 n' c2)).run Tryz.prog w' = .ok (.string ss) w') := Lib.hid (fun w' hk => by rw [← HSS.out]; exact conv_slb (S4.out.kp hk))
  clear hwX hbX g0 h0 g1 h1 g2 h2 g3 h3 g4 h4
  refine wp_region_held_drew (S := fun w' => Kp wX w') (by kernel_rfl) ?_ (fun hHeld => ?_)
  · exact (Kp.refl wX).drew
  refine wpAnyH_take (i := 0) (v := ?_) rfl (by kernel_rfl) (by kernel_rfl) (by kernel_rfl) (fun _ _ _ h => h) (Or.inl ⟨by rfl, ?_⟩) (by assumption) ?_
  rotate_left
  · intro w hSw; go_simp; try with_reducible rfl
  go_simp
  refine wpAnyH_take (i := 1) (v := ?_) rfl (by kernel_rfl) (by kernel_rfl) (by kernel_rfl) (fun _ _ _ h => h) (Or.inl ⟨by rfl, ?_⟩) (by assumption) ?_
  rotate_left
  · intro w hSw; go_simp; try with_reducible rfl
  go_simp
  refine wpAnyH_take (i := 2) (v := ?_) rfl (by kernel_rfl) (by kernel_rfl) (by kernel_rfl) (fun _ _ _ h => h) (Or.inl ⟨by rfl, ?_⟩) (by assumption) ?_
  rotate_left
  · intro w hSw; go_simp; try with_reducible rfl
  go_simp
  refine wpAnyH_take (i := 3) (v := ?_) rfl (by kernel_rfl) (by kernel_rfl) (by kernel_rfl) (fun _ _ _ h => h) (Or.inl ⟨by rfl, ?_⟩) (by assumption) ?_
  rotate_left
  · intro w hSw; go_simp; try with_reducible rfl
  go_simp
  refine wpAnyH_take (i := 4) (v := ?_) rfl (by kernel_rfl) (by kernel_rfl) (by kernel_rfl) (fun _ _ _ h => h) (Or.inl ⟨by rfl, ?_⟩) (by assumption) ?_
  rotate_left
  · intro w hSw; have q := CV.out _ hSw; go_simp; try with_reducible rfl
  go_simp
  refine wpAnyH_take (i := 5) (v := ?_) rfl (by kernel_rfl) (by kernel_rfl) (by kernel_rfl) (fun _ _ _ h => h) (Or.inl ⟨by rfl, ?_⟩) (by assumption) ?_
  rotate_left
  · intro w hSw; have qj0 := kp_cell hSw j0; have qj1 := kp_cell hSw j1; have qj2 := kp_cell hSw j2; have qj3 := kp_cell hSw j3; have qj4 := kp_cell hSw j4; go_simp; try with_reducible rfl
  go_simp
  refine wpAnyH_ready (rs := [6]) (by kernel_rfl) (by simp) ?_
  refine AllReadyH.cons rfl (fun K hK => ?_) AllReadyH.nil
  go_simp
  go_wp2_with (go_at_call 9; (with_reducible refine (HRE.out _).mono ?_); rintro e w8 ⟨v8, rfl, hs8, hk8⟩; obtain ⟨a8, c8, hv8⟩ := hs8.form; subst hv8; have cv8 := conv_slb hs8; rw [HSS.out] at cv8; have K8 := Lib.hid (Kp.trans hHeld hk8); clear hs8 hk8)
  refine hK.out _ _ ?_ (fun hHeld => ?_)
  · exact K8.out
  clear hK K
  refine wpAnyH_ready (rs := [7]) (by kernel_rfl) (by simp) ?_
  refine AllReadyH.cons rfl (fun K hK => ?_) AllReadyH.nil
  go_simp
  refine hK.out _ _ ?_ (fun hHeld => ?_)
  · exact hHeld
  clear hK K
  refine wpAnyH_take (i := 8) (v := ?_) rfl (by kernel_rfl) (by kernel_rfl) (by kernel_rfl) (fun _ _ _ h => h) (Or.inl ⟨by rfl, ?_⟩) (by assumption) ?_
  rotate_left
  · intro w hSw; go_simp; try with_reducible rfl
  go_simp
  refine wpAnyH_take (i := 9) (v := ?_) rfl (by kernel_rfl) (by kernel_rfl) (by kernel_rfl) (fun _ _ _ h => h) (Or.inl ⟨by rfl, ?_⟩) (by assumption) ?_
  rotate_left
  · intro w hSw; go_simp; try with_reducible rfl
  go_simp
  refine wpAnyH_take (i := 10) (v := ?_) rfl (by kernel_rfl) (by kernel_rfl) (by kernel_rfl) (fun _ _ _ h => h) (Or.inl ⟨by rfl, ?_⟩) (by assumption) ?_
  rotate_left
  · intro w hSw; go_simp; try with_reducible rfl
  go_simp
  refine wpAnyH_take (i := 11) (v := ?_) rfl (by kernel_rfl) (by kernel_rfl) (by kernel_rfl) (fun _ _ _ h => h) (Or.inl ⟨by rfl, ?_⟩) (by assumption) ?_
  rotate_left
  · intro w hSw; go_simp; try with_reducible rfl
  go_simp
  refine wpAnyH_take (i := 12) (v := ?_) rfl (by kernel_rfl) (by kernel_rfl) (by kernel_rfl) (fun _ _ _ h => h) (Or.inl ⟨by rfl, ?_⟩) (by assumption) ?_
  rotate_left
  · intro w hSw; go_simp; try with_reducible rfl
  go_simp
  refine wpAnyH_take (i := 13) (v := ?_) rfl (by kernel_rfl) (by kernel_rfl) (by kernel_rfl) (fun _ _ _ h => h) (Or.inl ⟨by rfl, ?_⟩) (by assumption) ?_
  rotate_left
  · intro w hSw; go_simp; try with_reducible rfl
  go_simp
  refine wpAnyH_take (i := 14) (v := ?_) rfl (by kernel_rfl) (by kernel_rfl) (by kernel_rfl) (fun _ _ _ h => h) (Or.inl ⟨by rfl, ?_⟩) (by assumption) ?_
  rotate_left
  · intro w hSw; go_simp; try with_reducible rfl
  go_simp
  refine wpAnyH_take (i := 15) (v := ?_) rfl (by kernel_rfl) (by kernel_rfl) (by kernel_rfl) (fun _ _ _ h => h) (Or.inl ⟨by rfl, ?_⟩) (by assumption) ?_
  rotate_left
  · intro w hSw; have qb0 := kp_cell hSw b0; have qb1 := kp_cell hSw b1; have qb2 := kp_cell hSw b2; have qb3 := kp_cell hSw b3; have qb4 := kp_cell hSw b4; go_simp; try with_reducible rfl
  go_simp
  refine wpAnyH_take (i := 16) (v := ?_) rfl (by kernel_rfl) (by kernel_rfl) (by kernel_rfl) (fun _ _ _ h => h) (Or.inl ⟨by rfl, ?_⟩) (by assumption) ?_
  rotate_left
  · intro w hSw; have qj0 := kp_cell hSw j0; have qj1 := kp_cell hSw j1; have qj2 := kp_cell hSw j2; have qj3 := kp_cell hSw j3; have qj4 := kp_cell hSw j4; go_simp; try with_reducible rfl
  go_simp
  refine wpAnyH_ready (rs := [17]) (by kernel_rfl) (by simp) ?_
  refine AllReadyH.cons rfl (fun K hK => ?_) AllReadyH.nil
  go_simp
  go_wp2_with (go_at_call 10; (with_reducible refine (HSM.out _ (Kp.trans K4.out hHeld)).mono ?_); rintro e w9 ⟨rfl, hk9⟩; have K9 := Lib.hid (Kp.trans hHeld hk9); clear hk9)
  refine hK.out _ _ ?_ (fun hHeld => ?_)
  · exact K9.out
  clear hK K
  refine wpAnyH_take (i := 18) (v := ?_) rfl (by kernel_rfl) (by kernel_rfl) (by kernel_rfl) (fun _ _ _ h => h) (Or.inl ⟨by rfl, ?_⟩) (by assumption) ?_
  rotate_left
  · intro w hSw; go_simp; try with_reducible rfl
  go_simp
  refine wpAnyH_take (i := 19) (v := ?_) rfl (by kernel_rfl) (by kernel_rfl) (by kernel_rfl) (fun _ _ _ h => h) (Or.inl ⟨by rfl, ?_⟩) (by assumption) ?_
  rotate_left
  · intro w hSw; go_simp; try with_reducible rfl
  go_simp
  refine wpAnyH_done (by kernel_rfl) ?_ _
  have KX := Lib.hid (Kp.trans K4.out K9.out)
  clear b0 j0 b1 j1 b2 j2 b3 j3 b4 j4
  go_wp2_with (first
    | (go_at_call 8; (with_reducible refine (HD.out _ KX.out).mono ?_); rintro e w5 ⟨rfl, hk⟩; have K5 := Lib.hid (Kp.trans KX.out (Kp.trans hk (kp_alloc w5 (.cells #[.int .i64 n3, .int .i64 s3, .int .i64 o3, .int .i64 d3, .float .f64 x3] 26)))); have B5 := Lib.hid (MapKept.heap_alloc w5 (.cells #[.int .i64 n3, .int .i64 s3, .int .i64 o3, .int .i64 d3, .float .f64 x3] 26)).1; clear hk)
    | (go_at_call 11; (with_reducible refine (HF.out _ K5.out).mono ?_); rintro e w6 ⟨rfl, hk⟩; have K6 := Lib.hid (Kp.trans K5.out (Kp.trans hk (kp_alloc w6 (.cells #[.int .i64 n3, .int .i64 s3, .int .i64 o3, .int .i64 d3, .float .f64 x3] 26)))); have B6 := Lib.hid (kp_row (Kp.trans hk (kp_alloc w6 (.cells #[.int .i64 n3, .int .i64 s3, .int .i64 o3, .int .i64 d3, .float .f64 x3] 26))) B5.out); obtain ⟨b0, b1, b2, b3, b4⟩ := cells5 (B6.out); clear hk)
    | (go_at_call 12; (with_reducible refine (HSF.out _).mono ?_); rintro e w7 ⟨rfl, hk⟩; have K7 := Lib.hid (Kp.trans K6.out hk); have B7 := Lib.hid (kp_row hk B6.out); clear hk)
    | (go_at_call 7; (with_reducible refine (HN.out _ K7.out).mono ?_); rintro e w8 ⟨rfl, hk⟩; have K8 := Lib.hid (Kp.trans K7.out hk); have B8 := Lib.hid (kp_row hk B7.out); obtain ⟨d0, d1, d2, d3, d4⟩ := cells5 (B8.out); clear hk))
  go_ret
  exact ⟨by first | rfl | simp, K8.out⟩
set_option maxRecDepth 100000 in
set_option maxHeartbeats 4000000 in
theorem bytes_ro (ads : List Addr) (c : CX) (hc : c.wf) (a : Option Addr) (cap : Nat) (bs : List Int) (len : Nat) (hlen : bs.length = len) (hb : InB bs) (hlc : len ≤ cap) (w : World) (V : St ads w) (S : ScoC ads w) (B : BytC ads w) (hs : SlB (.slice a len cap) bs w) (hl : len ≤ 1000) (hr : rightX c = true) (h0 : (decX bs).1 = 0) :
    Calls Tryz.prog 3 #[.agg c.cells, .slice a len cap] w fun e w' => e = .returned (.bool true) ∧ Kp w w' := by
  have HA := Lib.hid (fun w1 (hk : Kp w w1) => alive9_any ads w1 (ScoC.kp S hk))
  have HRF := fun w1 => refRight9_any c hc w1
  rw [hr] at HRF
  have HD := fun w1 (hk : Kp w w1) => B.dec w1 hk a cap bs len hlen hl hb hlc (hs.kp hk)
  have HF := fun w1 (hk : Kp w w1) => refDecode9_any a len cap bs hlen hlc hl hb w1 (hs.kp hk)
  have hrg := decX_rng bs
  have HN := fun w1 (hk : Kp w w1) => num_errN ads w1 (V.below hk) (decX bs).1 hrg.1 hrg.2
  have hwf := decX_wf (bs := bs)
  obtain ⟨M, hM⟩ : ∃ M, decX bs = (0, M) := ⟨(decX bs).2, Prod.ext h0 rfl⟩
  obtain ⟨hrm, hem⟩ := enc_decX hb hM
  have HE2 := fun w1 (hk : Kp w w1) => B.encOk w1 hk M hrm
  simp only [hem, hlen] at HE2
  simp only [hM, errI_nil] at HD HF HN hwf
  obtain ⟨st, hst⟩ : ∃ ss, strOfNums bs = ss := ⟨_, rfl⟩
  have HST := Lib.hid hst
  clear hM hem hrm hst h0 hrg
  have hokn := rightX_okn hr
  have HE := fun w1 (hk : Kp w w1) => B.encOk w1 hk c hr
  have HD1 := fun w1 (hk : Kp w w1) (a : Option Addr) (p : Nat) (n : Nat) (hn : (encX c).length = n) (hp : n ≤ p) => B.dec w1 hk a p (encX c) n hn (by rw [← hn]; exact encX_len c) (encX_in c) hp
  have HRE := fun w1 => refEncode9_any c hc hokn w1
  rw [dec_encX hr] at HD1
  simp only [errI_nil] at HD1
  have HSM := fun w1 (hk : Kp w w1) => S.same w1 hk c c hc hc
  rw [same_refl9] at HSM
  obtain ⟨eb, heb⟩ : ∃ x, encX c = x := ⟨_, rfl⟩
  rw [heb] at HE HD1 HRE
  obtain ⟨n', hn'⟩ : ∃ x, eb.length = x := ⟨_, rfl⟩
  rw [hn'] at HE
  obtain ⟨ss, hss⟩ : ∃ x, strOfNums eb = x := ⟨_, rfl⟩
  have HSS := Lib.hid hss
  have HLN := Lib.hid hn'
  clear heb hss hn' hokn
  have HSF := fun w1 => refSame9_any M M hwf hwf w1
  rw [same_refl9] at HSF
  obtain ⟨n3, s3, o3, d3, x3⟩ := M
  obtain ⟨n, s, o, d, x⟩ := c
  dsimp only [CX.cells] at *
  have HRF := Lib.hid HRF
  have HD := Lib.hid HD
  have HF := Lib.hid HF
  have HN := Lib.hid HN
  have HE := Lib.hid HE
  have HSF := Lib.hid HSF
  have HE2 := Lib.hid HE2
  have HD1 := Lib.hid HD1
  have HRE := Lib.hid HRE
  have HSM := Lib.hid HSM
  have HS := Lib.hid hs
  obtain ⟨ll, hll⟩ : ∃ ll : Int, (len : Int) = ll := ⟨_, rfl⟩
  have hng : ¬ ll > 1000 := by omega
  have kb := kp_alloc w (.cells #[.int .i64 n, .int .i64 s, .int .i64 o, .int .i64 d, .float .f64 x] 26)
  have KB := Lib.hid kb
  have HR := Lib.hid (MapKept.heap_alloc w (.cells #[.int .i64 n, .int .i64 s, .int .i64 o, .int .i64 d, .float .f64 x] 26)).1
  have hsf := store_fl
  clear V S B hs hb hlen hr kb hwf hc
  go_enter Tryz.func3, Tryz.ntmps3
  go_wp2_with (first
    | (go_at_call 4; (with_reducible refine (HA.out _ KB.out).mono ?_); rintro e w1 ⟨rfl, hk⟩; have K1 := Lib.hid (Kp.trans KB.out hk); have R1 := Lib.hid (kp_row hk HR.out); obtain ⟨g0, g1, g2, g3, g4⟩ := cells5 (R1.out); clear hk)
    | (go_at_call 5; (with_reducible refine (HE.out _ K1.out).mono ?_); rintro e w2 ⟨a2, c2, rfl, hc2, hs2, hk⟩; have K2 := Lib.hid (Kp.trans K1.out hk); have R2 := Lib.hid (kp_row hk R1.out); obtain ⟨h0, h1, h2, h3, h4⟩ := cells5 (R2.out); have S2 := Lib.hid hs2; have HC2 := Lib.hid hc2; clear hk hs2 hc2)
    | (go_at_call 6; (with_reducible refine (HRF.out _).mono ?_); rintro e w3 ⟨rfl, hk⟩; have K3 := Lib.hid (Kp.trans K2.out hk); have S3 := Lib.hid (S2.out.kp hk); have R3 := Lib.hid (kp_row hk R2.out); clear hk)
    | (go_at_call 8; (with_reducible refine (HD1.out _ K3.out _ _ _ HLN.out HC2.out S3.out).mono ?_); rintro e w4 ⟨rfl, hk⟩; have K4 := Lib.hid (Kp.trans K3.out (Kp.trans hk (kp_alloc w4 (.cells #[.int .i64 n, .int .i64 s, .int .i64 o, .int .i64 d, .float .f64 x] 26)))); have S4 := Lib.hid (S3.out.kp (Kp.trans hk (kp_alloc w4 (.cells #[.int .i64 n, .int .i64 s, .int .i64 o, .int .i64 d, .float .f64 x] 26)))); have R4 := Lib.hid (kp_row (Kp.trans hk (kp_alloc w4 (.cells #[.int .i64 n, .int .i64 s, .int .i64 o, .int .i64 d, .float .f64 x] 26))) R3.out); have B4 := Lib.hid (MapKept.heap_alloc w4 (.cells #[.int .i64 n, .int .i64 s, .int .i64 o, .int .i64 d, .float .f64 x] 26)).1; clear hk))
  obtain ⟨wX, hwX⟩ : ∃ y, w4.alloc (.cells #[.int .i64 n, .int .i64 s, .int .i64 o, .int .i64 d, .float .f64 x] 26) = y := ⟨_, rfl⟩
  obtain ⟨bX, hbX⟩ : ∃ y, w4.heap.size = y := ⟨_, rfl⟩
  rw [hwX] at K4 S4 R4 B4 ⊢
  rw [hbX] at B4 ⊢
  obtain ⟨j0, j1, j2, j3, j4⟩ := cells5 (R4.out)
  obtain ⟨b0, b1, b2, b3, b4⟩ := cells5 (B4.out)
  have CV : Hid (∀ w', Kp wX w' → (convert 27 9 (.slice a2 n' c2)).run Tryz.prog w' = .ok (.string ss) w') := Lib.hid (fun w' hk => by rw [← HSS.out]; exact conv_slb (S4.out.kp hk))
  clear hwX hbX g0 h0 g1 h1 g2 h2 g3 h3 g4 h4
  refine wp_region_held_drew (S := fun w' => Kp wX w') (by kernel_rfl) ?_ (fun hHeld => ?_)
  · exact (Kp.refl wX).drew
  refine wpAnyH_take (i := 0) (v := ?_) rfl (by kernel_rfl) (by kernel_rfl) (by kernel_rfl) (fun _ _ _ h => h) (Or.inl ⟨by rfl, ?_⟩) (by assumption) ?_
  rotate_left
  · intro w hSw; go_simp; try with_reducible rfl
  go_simp
  refine wpAnyH_take (i := 1) (v := ?_) rfl (by kernel_rfl) (by kernel_rfl) (by kernel_rfl) (fun _ _ _ h => h) (Or.inl ⟨by rfl, ?_⟩) (by assumption) ?_
  rotate_left
  · intro w hSw; go_simp; try with_reducible rfl
  go_simp
  refine wpAnyH_take (i := 2) (v := ?_) rfl (by kernel_rfl) (by kernel_rfl) (by kernel_rfl) (fun _ _ _ h => h) (Or.inl ⟨by rfl, ?_⟩) (by assumption) ?_
  rotate_left
  · intro w hSw; go_simp; try with_reducible rfl
  go_simp
  refine wpAnyH_take (i := 3) (v := ?_) rfl (by kernel_rfl) (by kernel_rfl) (by kernel_rfl) (fun _ _ _ h => h) (Or.inl ⟨by rfl, ?_⟩) (by assumption) ?_
  rotate_left
  · intro w hSw; go_simp; try with_reducible rfl
  go_simp
  refine wpAnyH_take (i := 4) (v := ?_) rfl (by kernel_rfl) (by kernel_rfl) (by kernel_rfl) (fun _ _ _ h => h) (Or.inl ⟨by rfl, ?_⟩) (by assumption) ?_
  rotate_left
  · intro w hSw; have q := CV.out _ hSw; go_simp; try with_reducible rfl
  go_simp
  refine wpAnyH_take (i := 5) (v := ?_) rfl (by kernel_rfl) (by kernel_rfl) (by kernel_rfl) (fun _ _ _ h => h) (Or.inl ⟨by rfl, ?_⟩) (by assumption) ?_
  rotate_left
  · intro w hSw; have qj0 := kp_cell hSw j0; have qj1 := kp_cell hSw j1; have qj2 := kp_cell hSw j2; have qj3 := kp_cell hSw j3; have qj4 := kp_cell hSw j4; go_simp; try with_reducible rfl
  go_simp
  refine wpAnyH_ready (rs := [6]) (by kernel_rfl) (by simp) ?_
  refine AllReadyH.cons rfl (fun K hK => ?_) AllReadyH.nil
  go_simp
  go_wp2_with (go_at_call 9; (with_reducible refine (HRE.out _).mono ?_); rintro e w8 ⟨v8, rfl, hs8, hk8⟩; obtain ⟨a8, c8, hv8⟩ := hs8.form; subst hv8; have cv8 := conv_slb hs8; rw [HSS.out] at cv8; have K8 := Lib.hid (Kp.trans hHeld hk8); clear hs8 hk8)
  refine hK.out _ _ ?_ (fun hHeld => ?_)
  · exact K8.out
  clear hK K
  refine wpAnyH_ready (rs := [7]) (by kernel_rfl) (by simp) ?_
  refine AllReadyH.cons rfl (fun K hK => ?_) AllReadyH.nil
  go_simp
  refine hK.out _ _ ?_ (fun hHeld => ?_)
  · exact hHeld
  clear hK K
  refine wpAnyH_take (i := 8) (v := ?_) rfl (by kernel_rfl) (by kernel_rfl) (by kernel_rfl) (fun _ _ _ h => h) (Or.inl ⟨by rfl, ?_⟩) (by assumption) ?_
  rotate_left
  · intro w hSw; go_simp; try with_reducible rfl
  go_simp
  refine wpAnyH_take (i := 9) (v := ?_) rfl (by kernel_rfl) (by kernel_rfl) (by kernel_rfl) (fun _ _ _ h => h) (Or.inl ⟨by rfl, ?_⟩) (by assumption) ?_
  rotate_left
  · intro w hSw; go_simp; try with_reducible rfl
  go_simp
  refine wpAnyH_take (i := 10) (v := ?_) rfl (by kernel_rfl) (by kernel_rfl) (by kernel_rfl) (fun _ _ _ h => h) (Or.inl ⟨by rfl, ?_⟩) (by assumption) ?_
  rotate_left
  · intro w hSw; go_simp; try with_reducible rfl
  go_simp
  refine wpAnyH_take (i := 11) (v := ?_) rfl (by kernel_rfl) (by kernel_rfl) (by kernel_rfl) (fun _ _ _ h => h) (Or.inl ⟨by rfl, ?_⟩) (by assumption) ?_
  rotate_left
  · intro w hSw; go_simp; try with_reducible rfl
  go_simp
  refine wpAnyH_take (i := 12) (v := ?_) rfl (by kernel_rfl) (by kernel_rfl) (by kernel_rfl) (fun _ _ _ h => h) (Or.inl ⟨by rfl, ?_⟩) (by assumption) ?_
  rotate_left
  · intro w hSw; go_simp; try with_reducible rfl
  go_simp
  refine wpAnyH_take (i := 13) (v := ?_) rfl (by kernel_rfl) (by kernel_rfl) (by kernel_rfl) (fun _ _ _ h => h) (Or.inl ⟨by rfl, ?_⟩) (by assumption) ?_
  rotate_left
  · intro w hSw; go_simp; try with_reducible rfl
  go_simp
  refine wpAnyH_take (i := 14) (v := ?_) rfl (by kernel_rfl) (by kernel_rfl) (by kernel_rfl) (fun _ _ _ h => h) (Or.inl ⟨by rfl, ?_⟩) (by assumption) ?_
  rotate_left
  · intro w hSw; go_simp; try with_reducible rfl
  go_simp
  refine wpAnyH_take (i := 15) (v := ?_) rfl (by kernel_rfl) (by kernel_rfl) (by kernel_rfl) (fun _ _ _ h => h) (Or.inl ⟨by rfl, ?_⟩) (by assumption) ?_
  rotate_left
  · intro w hSw; have qb0 := kp_cell hSw b0; have qb1 := kp_cell hSw b1; have qb2 := kp_cell hSw b2; have qb3 := kp_cell hSw b3; have qb4 := kp_cell hSw b4; go_simp; try with_reducible rfl
  go_simp
  refine wpAnyH_take (i := 16) (v := ?_) rfl (by kernel_rfl) (by kernel_rfl) (by kernel_rfl) (fun _ _ _ h => h) (Or.inl ⟨by rfl, ?_⟩) (by assumption) ?_
  rotate_left
  · intro w hSw; have qj0 := kp_cell hSw j0; have qj1 := kp_cell hSw j1; have qj2 := kp_cell hSw j2; have qj3 := kp_cell hSw j3; have qj4 := kp_cell hSw j4; go_simp; try with_reducible rfl
  go_simp
  refine wpAnyH_ready (rs := [17]) (by kernel_rfl) (by simp) ?_
  refine AllReadyH.cons rfl (fun K hK => ?_) AllReadyH.nil
  go_simp
  go_wp2_with (go_at_call 10; (with_reducible refine (HSM.out _ (Kp.trans K4.out hHeld)).mono ?_); rintro e w9 ⟨rfl, hk9⟩; have K9 := Lib.hid (Kp.trans hHeld hk9); clear hk9)
  refine hK.out _ _ ?_ (fun hHeld => ?_)
  · exact K9.out
  clear hK K
  refine wpAnyH_take (i := 18) (v := ?_) rfl (by kernel_rfl) (by kernel_rfl) (by kernel_rfl) (fun _ _ _ h => h) (Or.inl ⟨by rfl, ?_⟩) (by assumption) ?_
  rotate_left
  · intro w hSw; go_simp; try with_reducible rfl
  go_simp
  refine wpAnyH_take (i := 19) (v := ?_) rfl (by kernel_rfl) (by kernel_rfl) (by kernel_rfl) (fun _ _ _ h => h) (Or.inl ⟨by rfl, ?_⟩) (by assumption) ?_
  rotate_left
  · intro w hSw; go_simp; try with_reducible rfl
  go_simp
  refine wpAnyH_done (by kernel_rfl) ?_ _
  have KX := Lib.hid (Kp.trans K4.out K9.out)
  clear b0 j0 b1 j1 b2 j2 b3 j3 b4 j4
  go_wp2_with (first
    | (go_at_call 8; (with_reducible refine (HD.out _ KX.out).mono ?_); rintro e w5 ⟨rfl, hk⟩; have K5 := Lib.hid (Kp.trans KX.out (Kp.trans hk (kp_alloc w5 (.cells #[.int .i64 n3, .int .i64 s3, .int .i64 o3, .int .i64 d3, .float .f64 x3] 26)))); have B5 := Lib.hid (MapKept.heap_alloc w5 (.cells #[.int .i64 n3, .int .i64 s3, .int .i64 o3, .int .i64 d3, .float .f64 x3] 26)).1; clear hk)
    | (go_at_call 11; (with_reducible refine (HF.out _ K5.out).mono ?_); rintro e w6 ⟨rfl, hk⟩; have K6 := Lib.hid (Kp.trans K5.out (Kp.trans hk (kp_alloc w6 (.cells #[.int .i64 n3, .int .i64 s3, .int .i64 o3, .int .i64 d3, .float .f64 x3] 26)))); have B6 := Lib.hid (kp_row (Kp.trans hk (kp_alloc w6 (.cells #[.int .i64 n3, .int .i64 s3, .int .i64 o3, .int .i64 d3, .float .f64 x3] 26))) B5.out); obtain ⟨b0, b1, b2, b3, b4⟩ := cells5 (B6.out); clear hk)
    | (go_at_call 12; (with_reducible refine (HSF.out _).mono ?_); rintro e w7 ⟨rfl, hk⟩; have K7 := Lib.hid (Kp.trans K6.out hk); have B7 := Lib.hid (kp_row hk B6.out); clear hk)
    | (go_at_call 7; (with_reducible refine (HN.out _ K7.out).mono ?_); rintro e w8 ⟨rfl, hk⟩; have K8 := Lib.hid (Kp.trans K7.out hk); have B8 := Lib.hid (kp_row hk B7.out); obtain ⟨d0, d1, d2, d3, d4⟩ := cells5 (B8.out); clear hk)
    | (go_at_call 5; (with_reducible refine (HE2.out _ K8.out).mono ?_); rintro e w9 ⟨a9, c9, rfl, -, hs9, hk⟩; have K9 := Lib.hid (Kp.trans K8.out hk); have cv9 := conv_slb hs9; rw [HST.out] at cv9; have cw9 := conv_slb (HS.out.kp K9.out); rw [HST.out] at cw9; clear hs9 hk))
  go_ret
  exact ⟨by first | rfl | simp, K9.out⟩
theorem bytes_any (ads : List Addr) (c : CX) (hc : c.wf) (a : Option Addr) (cap : Nat) (bs : List Int) (len : Nat) (hlen : bs.length = len) (hb : InB bs) (hlc : len ≤ cap) (w : World) (V : St ads w) (S : ScoC ads w) (B : BytC ads w) (hs : SlB (.slice a len cap) bs w) :
    Calls Tryz.prog 3 #[.agg c.cells, .slice a len cap] w fun e w' => e = .returned (.bool true) ∧ Kp w w' := by
  by_cases hl : 1000 < len
  · exact bytes_long ads c a cap len hl w S
  cases hr : rightX c with
  | false =>
    by_cases h0 : (decX bs).1 = 0
    · exact bytes_wo ads c hc a cap bs len hlen hb hlc w V S B hs (by omega) hr h0
    · exact bytes_wb ads c hc a cap bs len hlen hb hlc w V S B hs (by omega) hr h0
  | true =>
    by_cases h0 : (decX bs).1 = 0
    · exact bytes_ro ads c hc a cap bs len hlen hb hlc w V S B hs (by omega) hr h0
    · exact bytes_rb ads c hc a cap bs len hlen hb hlc w V S B hs (by omega) hr h0
end Go.Proofs.YtldamfpoemgkpaaGreatDoor

namespace Go.Proofs.YtldamfpoemgkpaaGreatDoor
open Go.RowKit

theorem scopeBytes_walk (c : CX) (a : Option Addr) (cap : Nat) (bs : List Int) (W : World) (kc : c.wf) (k1 : SlB (.slice a bs.length cap) bs W) (k2 : InB bs) (_k3 : bs.length ≤ maxLen) (k4 : bs.length ≤ cap) (hL : laidMetH Tryz.prog Rows.scopeBytesRow.laid W) :
    Calls Tryz.prog 3 #[.agg c.cells, .slice a bs.length cap] W fun e w' => e = .returned (.bool true) ∧ Below W.heap.size W w' := by
  obtain ⟨⟨ads, V⟩, T⟩ := st_tab_of (l := Rows.scopeBytesRow.laid) (by kernel_rfl) (by kernel_rfl) (by kernel_rfl) hL
  have C := scoC_of ads W V T
  exact bytes_any ads c kc a cap bs bs.length rfl k2 k4 W V C (bytC_of ads W V T) k1

end Go.Proofs.YtldamfpoemgkpaaGreatDoor

namespace Go.Proofs.YtldamfpoemgkpaaGreatDoor
open Go.ChangeShapes Go.WideShapes Go.ChangeAt Go.WideMaps Go.WideElems Go.RowKit


set_option maxRecDepth 100000 in
theorem scopeBytes_lifted (os : Os) (started : os.Started) (H : Type) (enc : TypeId × Value → H) :
    ReturnsInHanded {} Tryz.checked os 3 .any (fun w args => (Rows.scopeBytesSpec.pre enc Tryz.prog Tryz.f3 [] false w args ∧ laidMetH Tryz.prog Rows.scopeBytesRow.laid w) ∧ sizedMet enc Tryz.prog Tryz.f3 (OpenSpec.ofChange Rows.scopeBytesSpec) false w args)
      (Rows.scopeBytesSpec.post enc Tryz.prog Tryz.f3 false true false false) := by
  refine returnsInHanded_of_change_and (C := Tryz.checked) (X := fun w _ => laidMetH Tryz.prog Rows.scopeBytesRow.laid w) (fun _ _ _ hh h => h.of_heap hh) own started (by kernel_rfl) Tryz.func3
    (ChangeSpec.witness_shaped (enc := enc) (C := Tryz.checked) (os := os) (X := fun w _ => laidMetH Tryz.prog Rows.scopeBytesRow.laid w) false (World.laidAll Tryz.prog os Rows.scopeBytesRow.laid) #[.agg #[.int .i64 0, .int .i64 0, .int .i64 0, .int .i64 0, .float .f64 0], .slice none 0 0] 8 (World.laidAll_os _ _ _) (World.shaped_of_ZipB (by kernel_rfl) (by kernel_rfl)) (by kernel_rfl) (by kernel_rfl) (by kernel_rfl) (by rw [MakeChecks.laidMetH_plain _ _ _ (by kernel_rfl)]; exact laidMet_laidAll _ (by kernel_rfl) (by kernel_rfl))) ?_
  intro W base args ds gs before hval0 hW _ hsz hL _
  have hval : ∀ (j : Nat) t v, Tryz.f3.params[j]? = some t → args[j]? = some v → Value.okWide Tryz.prog W .any base t v := hval0
  have hW' := hW
  obtain ⟨p, q, hA0, hV, rfl, hfz, hnd⟩ := hW
  have hA : DataW.TrodAll enc Tryz.prog W 0 (fun _ => true) true Tryz.f3.params.toList args.toList ds p := hA0
  rw [Tryz.params3] at hA hval
  obtain ⟨v0, vs0, d0, ds0, p0, q0, e0, rfl, rfl, h0, r0⟩ := trodAll_cons hA
  obtain ⟨v1, vs1, d1, ds1, p1, q1, e1, rfl, rfl, h1, r1⟩ := trodAll_cons r0
  obtain ⟨rfl, rfl, rfl⟩ := trodAll_nil r1
  obtain rfl : args = #[v0, v1] := by cases args; simp_all
  obtain ⟨rfl, rfl⟩ := trodVars_none hV
  obtain ⟨c, rfl, kc⟩ := open_ctx (hval 0 26 v0 rfl rfl) h0
  obtain ⟨r, ar, cr, rfl, kra, krb, krc, krd⟩ := open_bytes Tryz.underlying27 Tryz.underlying5 (by kernel_rfl) (hval 1 27 v1 rfl rfl) h1
  clear hA0 hval0
  refine (scopeBytes_walk c ar cr r W kc kra krb krc krd hL).mono fun e W' ⟨he, hw⟩ => ?_
  subst he
  exact ⟨_, rfl, law_post laidOut hW' rfl rfl rfl Tryz.underlying4 (par_ok (by kernel_rfl)) hw⟩

theorem scopeBytes_said : Rows.ScopeBytesSaid :=
  OpenClaim.holds_of_wide 3 Tryz.f3 rfl rfl rfl rfl rfl rfl rfl ⟨rfl, rfl, rfl, rfl, rfl⟩ rfl rfl rfl rfl rfl (by kernel_rfl) Tryz.func3 (by kernel_rfl)
    (of_decide_eq_true (by kernel_rfl)) (by unfold Func.isWrapper; first | (rw [if_pos (by decide +kernel)]; kernel_rfl) | (rw [if_neg (by decide +kernel)]; exact ⟨rfl, rfl⟩))
    (fun os started H enc _ => scopeBytes_lifted os started H enc)

theorem scopeBytes_holds : Rows.ScopeBytesCardSaid :=
  Claim7.holds_tied_plain_at .later [] _ _ _ _ scopeBytes_said (fun _ h => by cases h) (by kernel_rfl) (fun _ h => by cases h) scopeBytes_row_tie rfl ⟨rfl, rfl⟩ (by kernel_rfl) rfl
    (fun f fn hf hfn => by
      obtain rfl : f = 3 := Option.some.inj ((show Tryz.prog.funcNamed "liaison/liaisonlaw09.ScopeBytes" = some 3 by kernel_rfl).symm.trans hf) |>.symm
      obtain rfl : fn = Tryz.f3 := (Option.some.inj (Tryz.func3.symm.trans hfn)).symm
      exact ⟨by kernel_rfl, stand_ok (P := Tryz.prog) (by kernel_rfl)⟩)
    (by kernel_rfl)
end Go.Proofs.YtldamfpoemgkpaaGreatDoor

