/-
  AN OP ON BOTH TAPES (own work): liaisonlaw06.do.
-/
import Derived.Test.YtjgakdcjkddpiaaDoorRef6
import Derived.Test.YtjgakdcjkddpiaaDoorNumC
import Derived.Deep.RegionHeld3
namespace Go.Proofs.YtjgakdcjkddpiaaDoor
open Go.RowKit Go.ChangeShapes Go.WideShapes

/-- BOTH TAPES ARE AS m TELLS: the program's (g, its own blocks O), the document's (gm). -/
structure BothO (R : Nat → TM → (Nat → Prop) → World → Prop) (W : World) (g gm : Nat) (m m2 : TM) (O : Nat → Prop) (w : World) : Prop where
  r : R g m O w
  mo : MoC gm m2 w
  ng : ¬ O gm
  gW : W.heap.size ≤ gm
  kW : Kp W w
def Both (R : Nat → TM → (Nat → Prop) → World → Prop) (W : World) (g gm : Nat) (m : TM) (w : World) : Prop := ∃ O, BothO R W g gm m m O w
variable {ads : List Addr} {R : Nat → TM → (Nat → Prop) → World → Prop} {W : World} {g gm : Nat} {m m2 m' : TM} {O O' : Nat → Prop} {w w' : World}
theorem BothO.kp (C : TapC ads W R) (h : BothO R W g gm m m2 O w) (hk : Kp w w') : BothO R W g gm m m2 O w' :=
  ⟨C.stay h.r (Below.size hk) (fun b hb => Below.block hk b (C.mem h.r b hb).2), kp_row hk h.mo, h.ng, h.gW, Kp.trans h.kW hk⟩
theorem BothO.drew (h : BothO R W g gm m m2 O w) (C : TapC ads W R) : BothO R W g gm m m2 O w.drew := h.kp C (Kp.refl w).drew
/-- a call on the program's tape -/
theorem BothO.tape (C : TapC ads W R) (h : BothO R W g gm m m2 O w) (r : R g m' O' w') (ha : Asd O O' w w') : BothO R W g gm m' m2 O' w' :=
  ⟨r, ha.row h.mo h.ng, fun q => by
    rcases ha.own gm q with q | q
    · exact h.ng q
    · exact absurd (old_of_row h.mo) (by omega), h.gW, ha.kp h.kW (fun b hb => (C.mem h.r b hb).1)⟩
/-- a call on the document's -/
theorem BothO.doc (C : TapC ads W R) (h : BothO R W g gm m m2 O w) (mo : MoC gm m' w') (ha : On gm w w') : BothO R W g gm m m' O w' :=
  ⟨C.stay h.r ha.size (fun b hb => ha.block b (C.mem h.r b hb).2 (fun q => h.ng (by rw [← q]; exact hb))), mo, h.ng, h.gW, ha.kp h.kW (fun b hb => by rw [hb]; exact h.gW)⟩
/-- what an op makes of a tape -/
def opM (m : TM) (k n : Int) (bs : List Int) : TM :=
  if k = 1 then (appM m bs).2 else if k = 2 then (syncM m).2 else if k = 3 then (swapM m bs).2 else if k = 4 then (cutsM m n).2 else if k = 5 then (roomM m n).2 else if k = 6 then armM m n else if k = 7 then crashM m n else m
theorem opM_ok (h : Mok m) (k n : Int) (hn : n ≤ 9223372036854775807) (bs : List Int) (hb : InB bs) : Mok (opM m k n bs) := by
  unfold opM
  split
  · exact h.app hb
  split
  · exact h.sync
  split
  · exact h.swap hb
  split
  · exact h.cuts n
  split
  · exact h.room n
  split
  · exact h.arm n hn
  split
  · exact h.crash n
  · exact h
theorem app_num (m : TM) (bs : List Int) : 0 ≤ (appM m bs).1 ∧ (appM m bs).1 ≤ 14 := by
  have := stepM_two m
  unfold appM; split
  · dsimp only; omega
  · split
    · dsimp only; omega
    · omega
theorem sync_num (m : TM) : 0 ≤ (syncM m).1 ∧ (syncM m).1 ≤ 14 := by
  have := stepM_two m
  unfold syncM; split
  · dsimp only; omega
  · omega
theorem swap_num (m : TM) (bs : List Int) : 0 ≤ (swapM m bs).1 ∧ (swapM m bs).1 ≤ 14 := by
  have := stepM_two m
  unfold swapM; split
  · dsimp only; omega
  · split
    · dsimp only; omega
    · omega
theorem cuts_num (m : TM) (n : Int) : 0 ≤ (cutsM m n).1 ∧ (cutsM m n).1 ≤ 14 := by
  have := stepM_two m
  unfold cutsM; split
  · dsimp only; omega
  · split
    · dsimp only; omega
    · omega

set_option maxRecDepth 20000 in
set_option maxHeartbeats 2000000 in
theorem do_append (C : TapC ads W R) (V : St ads W) (h : BothO R W g gm m m O w) (hm : Mok m) (n : Int) (n0 : -9223372036854775808 ≤ n) (n1 : n ≤ 9223372036854775807) (a : Option Addr) (cap : Nat) (bs : List Int) (len : Nat) (hlen : bs.length = len) (hl : len ≤ 400) (hb : InB bs) (hs : SlB (.slice a len cap) bs W) :
    Calls Tryd.prog 12 #[.pointer (some ⟨g, 0, none⟩), .pointer (some ⟨gm, 0, none⟩), .agg #[.int .i64 1, .int .i64 n, .slice a len cap]] w fun e w' => e = .returned (.bool true) ∧ ∃ O', BothO R W g gm ((appM m bs).2) ((appM m bs).2) O' w' := by
  have _u := And.intro V (And.intro hm (And.intro n0 (And.intro n1 (And.intro hl (And.intro hb hs)))))
  clear _u
  subst hlen
  have k0 := kp_alloc w (.cells #[.int .i64 1, .int .i64 n, .slice a bs.length cap] 35)
  have hr := (MapKept.heap_alloc w (.cells #[.int .i64 1, .int .i64 n, .slice a bs.length cap] 35)).1
  have h0 := h.kp C k0
  have hgs : ∀ b, O b → b < w.heap.size := fun b hb => (C.mem h.r b hb).2
  have hgm : gm < w.heap.size := old_of_row h.mo
  have HD := Lib.hid (fun w1 (hk : Kp W w1) => numBytes_any a cap bs bs.length rfl (by omega) w1 (hs.kp hk))
  have HA := Lib.hid (fun w1 (hk : Kp W w1) O1 (r : R g m O1 w1) gg c (q : SlB (.slice (some ⟨gg, 0, none⟩) bs.length c) bs w1) (hc : bs.length ≤ c) (hno : ¬ O1 gg) => C.append w1 hk g m O1 r hm (some ⟨gg, 0, none⟩) bs.length c bs q rfl hc hb (by omega) (fun _ ad e => by injection e with e; subst e; exact hno))
  have HN := Lib.hid (fun w1 (hk : Kp W w1) => num_errN ads w1 (V.below hk) (appM m bs).1 (app_num m bs).1 (app_num m bs).2)
  have HF := Lib.hid (fun w1 (q : MoC gm m w1) => ref6_append gm m hm bs (by omega) w1 q)
  have HSL := Lib.hid hs
  have HGS := Lib.hid hgs
  have HGM := Lib.hid hgm
  have HC := Lib.hid C
  clear hgs hgm V h hm
  go_enter Tryd.func12, Tryd.ntmps12
  go_wp2
  obtain ⟨w0, hw0⟩ : ∃ x, w.alloc (.cells #[.int .i64 1, .int .i64 n, .slice a bs.length cap] 35) = x := ⟨_, rfl⟩
  obtain ⟨p0, hp0⟩ : ∃ x, w.heap.size = x := ⟨_, rfl⟩
  rw [hw0] at h0 hr ⊢
  rw [hp0] at hr ⊢
  have HGS := HGS.out
  rw [hp0] at HGS
  have HGS := Lib.hid HGS
  have HGM := HGM.out
  rw [hp0] at HGM
  have HGM := Lib.hid HGM
  have HR := Lib.hid hr
  have HH := Lib.hid h0
  clear hw0 hp0 hr h0 k0
  refine wp_region_held_drew (S := fun w' => Kp W w' ∧ w'.heap[p0]? = some (.cells #[.int .i64 1, .int .i64 n, .slice a bs.length cap] 35 (0, 0))) (by kernel_rfl) ?_ (fun hHeld => ?_)
  · exact ⟨HH.out.kW.drew, HR.out⟩
  refine wpAnyH_take (i := 0) (v := ?_) rfl (by kernel_rfl) (by kernel_rfl) (by kernel_rfl) (fun _ _ _ h => h) (Or.inl ⟨by rfl, ?_⟩) (by assumption) ?_
  rotate_left
  · intro w hSw; go_simp; try with_reducible rfl
  go_simp
  refine wpAnyH_take (i := 1) (v := ?_) rfl (by kernel_rfl) (by kernel_rfl) (by kernel_rfl) (fun _ _ _ h => h) (Or.inl ⟨by rfl, ?_⟩) (by assumption) ?_
  rotate_left
  · intro w hSw; go_simp; try with_reducible rfl
  go_simp
  refine wpAnyH_take (i := 2) (v := ?_) rfl (by kernel_rfl) (by kernel_rfl) (by kernel_rfl) (fun _ _ _ h => h) (Or.inl ⟨by rfl, ?_⟩) (by assumption) ?_
  rotate_left
  · intro w hSw; have q : w.cell? ⟨p0, 2, none⟩ = some (.slice a bs.length cap) := (by unfold World.cell?; dsimp only; rw [hSw.2]; rfl); go_simp; try with_reducible rfl
  go_simp
  refine wpAnyH_take (i := 6) (v := ?_) rfl (by kernel_rfl) (by kernel_rfl) (by kernel_rfl) (fun _ _ _ h => h) (Or.inl ⟨by rfl, ?_⟩) (by assumption) ?_
  rotate_left
  · intro w hSw; go_simp; try with_reducible rfl
  go_simp
  refine wpAnyH_take (i := 7) (v := ?_) rfl (by kernel_rfl) (by kernel_rfl) (by kernel_rfl) (fun _ _ _ h => h) (Or.inl ⟨by rfl, ?_⟩) (by assumption) ?_
  rotate_left
  · intro w hSw; go_simp; try with_reducible rfl
  go_simp
  refine wpAnyH_take (i := 8) (v := ?_) rfl (by kernel_rfl) (by kernel_rfl) (by kernel_rfl) (fun _ _ _ h => h) (Or.inl ⟨by rfl, ?_⟩) (by assumption) ?_
  rotate_left
  · intro w hSw; have q : w.cell? ⟨p0, 2, none⟩ = some (.slice a bs.length cap) := (by unfold World.cell?; dsimp only; rw [hSw.2]; rfl); go_simp; try with_reducible rfl
  go_simp
  refine wpAnyH_take (i := 9) (v := ?_) rfl (by kernel_rfl) (by kernel_rfl) (by kernel_rfl) (fun _ _ _ h => h) (Or.inl ⟨by rfl, ?_⟩) (by assumption) ?_
  rotate_left
  · intro w hSw; have cv := conv_slb (HSL.out.kp hSw.1); go_simp; try with_reducible rfl
  go_simp
  refine wpAnyH_ready (rs := [3]) (by kernel_rfl) (by simp) ?_
  refine AllReadyH.cons rfl (fun K hK => ?_) AllReadyH.nil
  go_simp
  go_wp2_with (go_at_call 25; (with_reducible refine (HD.out _ hHeld.1).mono ?_); rintro e w1 ⟨rfl, hmk, hk⟩; have B1 := Lib.hid ((HH.out.drew HC.out).kp HC.out hk); have R1 := Lib.hid (kp_row hk HR.out); have MK := Lib.hid (show SlB (.slice (some ⟨w0.heap.size, 0, none⟩) bs.length (bs.length + 6)) bs w1 from hmk.sl); have NG := Lib.hid (show ¬ O w0.heap.size from fun q => absurd (HGS.out _ q) (by have := old_of_row HR.out; omega)); clear hk hmk)
  refine hK.out _ _ ?_ (fun hHeld => ?_)
  · exact ⟨B1.out.kW, R1.out⟩
  clear hK K
  refine wpAnyH_ready (rs := [4]) (by kernel_rfl) (by simp) ?_
  refine AllReadyH.cons rfl (fun K hK => ?_) AllReadyH.nil
  go_simp
  go_wp2_with (go_at_call 17; (with_reducible refine (HA.out _ hHeld.1 _ B1.out.r _ _ MK.out (Nat.le_add_right _ _) NG.out).mono ?_); rintro e w2 ⟨rfl, O2, r2, ha⟩; have B2 := Lib.hid (B1.out.tape HC.out r2 ha); have R2 := Lib.hid (ha.row R1.out (fun q => Nat.lt_irrefl _ (HGS.out _ q))); clear ha r2)
  refine hK.out _ _ ?_ (fun hHeld => ?_)
  · exact ⟨B2.out.kW, R2.out⟩
  clear hK K
  refine wpAnyH_ready (rs := [5]) (by kernel_rfl) (by simp) ?_
  refine AllReadyH.cons rfl (fun K hK => ?_) AllReadyH.nil
  go_simp
  go_wp2_with (go_at_call 10; (with_reducible refine (HN.out _ hHeld.1).mono ?_); rintro e w3 ⟨rfl, hk⟩; have B3 := Lib.hid (B2.out.kp HC.out hk); have R3 := Lib.hid (kp_row hk R2.out); clear hk)
  refine hK.out _ _ ?_ (fun hHeld => ?_)
  · exact ⟨B3.out.kW, R3.out⟩
  clear hK K
  refine wpAnyH_ready (rs := [10]) (by kernel_rfl) (by simp) ?_
  refine AllReadyH.cons rfl (fun K hK => ?_) AllReadyH.nil
  go_simp
  go_wp2_with (go_at_call 26; (with_reducible refine (HF.out _ B3.out.mo).mono ?_); rintro e w4 ⟨rfl, hmo, hon⟩; have B4 := Lib.hid (B3.out.doc HC.out hmo hon); have R4 := Lib.hid (hon.row R3.out (fun q => Nat.lt_irrefl _ (q ▸ HGM.out))); clear hon hmo)
  refine hK.out _ _ ?_ (fun hHeld => ?_)
  · exact ⟨B4.out.kW, R4.out⟩
  clear hK K
  refine wpAnyH_take (i := 11) (v := ?_) rfl (by kernel_rfl) (by kernel_rfl) (by kernel_rfl) (fun _ _ _ h => h) (Or.inl ⟨by rfl, ?_⟩) (by assumption) ?_
  rotate_left
  · intro w hSw; go_simp; try with_reducible rfl
  go_simp
  refine wpAnyH_take (i := 12) (v := ?_) rfl (by kernel_rfl) (by kernel_rfl) (by kernel_rfl) (fun _ _ _ h => h) (Or.inl ⟨by rfl, ?_⟩) (by assumption) ?_
  rotate_left
  · intro w hSw; go_simp; try with_reducible rfl
  go_simp
  refine wpAnyH_done (by kernel_rfl) ?_ _
  go_wp2
  go_ret
  exact ⟨by first | rfl | simp, _, B4.out⟩

set_option maxRecDepth 20000 in
set_option maxHeartbeats 2000000 in
theorem do_swap (C : TapC ads W R) (V : St ads W) (h : BothO R W g gm m m O w) (hm : Mok m) (n : Int) (n0 : -9223372036854775808 ≤ n) (n1 : n ≤ 9223372036854775807) (a : Option Addr) (cap : Nat) (bs : List Int) (len : Nat) (hlen : bs.length = len) (hl : len ≤ 400) (hb : InB bs) (hs : SlB (.slice a len cap) bs W) :
    Calls Tryd.prog 12 #[.pointer (some ⟨g, 0, none⟩), .pointer (some ⟨gm, 0, none⟩), .agg #[.int .i64 3, .int .i64 n, .slice a len cap]] w fun e w' => e = .returned (.bool true) ∧ ∃ O', BothO R W g gm ((swapM m bs).2) ((swapM m bs).2) O' w' := by
  have _u := And.intro V (And.intro hm (And.intro n0 (And.intro n1 (And.intro hl (And.intro hb hs)))))
  clear _u
  subst hlen
  have k0 := kp_alloc w (.cells #[.int .i64 3, .int .i64 n, .slice a bs.length cap] 35)
  have hr := (MapKept.heap_alloc w (.cells #[.int .i64 3, .int .i64 n, .slice a bs.length cap] 35)).1
  have h0 := h.kp C k0
  have hgs : ∀ b, O b → b < w.heap.size := fun b hb => (C.mem h.r b hb).2
  have hgm : gm < w.heap.size := old_of_row h.mo
  have HD := Lib.hid (fun w1 (hk : Kp W w1) => numBytes_any a cap bs bs.length rfl (by omega) w1 (hs.kp hk))
  have HA := Lib.hid (fun w1 (hk : Kp W w1) O1 (r : R g m O1 w1) gg c (q : SlB (.slice (some ⟨gg, 0, none⟩) bs.length c) bs w1) (hc : bs.length ≤ c) (hno : ¬ O1 gg) => C.swap w1 hk g m O1 r hm (some ⟨gg, 0, none⟩) bs.length c bs q rfl hc hb (by omega) (fun _ ad e => by injection e with e; subst e; exact hno))
  have HN := Lib.hid (fun w1 (hk : Kp W w1) => num_errN ads w1 (V.below hk) (swapM m bs).1 (swap_num m bs).1 (swap_num m bs).2)
  have HF := Lib.hid (fun w1 (q : MoC gm m w1) => ref6_swap gm m hm bs (by omega) w1 q)
  have HSL := Lib.hid hs
  have HGS := Lib.hid hgs
  have HGM := Lib.hid hgm
  have HC := Lib.hid C
  clear hgs hgm V h hm
  go_enter Tryd.func12, Tryd.ntmps12
  go_wp2
  obtain ⟨w0, hw0⟩ : ∃ x, w.alloc (.cells #[.int .i64 3, .int .i64 n, .slice a bs.length cap] 35) = x := ⟨_, rfl⟩
  obtain ⟨p0, hp0⟩ : ∃ x, w.heap.size = x := ⟨_, rfl⟩
  rw [hw0] at h0 hr ⊢
  rw [hp0] at hr ⊢
  have HGS := HGS.out
  rw [hp0] at HGS
  have HGS := Lib.hid HGS
  have HGM := HGM.out
  rw [hp0] at HGM
  have HGM := Lib.hid HGM
  have HR := Lib.hid hr
  have HH := Lib.hid h0
  clear hw0 hp0 hr h0 k0
  refine wp_region_held_drew (S := fun w' => Kp W w' ∧ w'.heap[p0]? = some (.cells #[.int .i64 3, .int .i64 n, .slice a bs.length cap] 35 (0, 0))) (by kernel_rfl) ?_ (fun hHeld => ?_)
  · exact ⟨HH.out.kW.drew, HR.out⟩
  refine wpAnyH_take (i := 0) (v := ?_) rfl (by kernel_rfl) (by kernel_rfl) (by kernel_rfl) (fun _ _ _ h => h) (Or.inl ⟨by rfl, ?_⟩) (by assumption) ?_
  rotate_left
  · intro w hSw; go_simp; try with_reducible rfl
  go_simp
  refine wpAnyH_take (i := 1) (v := ?_) rfl (by kernel_rfl) (by kernel_rfl) (by kernel_rfl) (fun _ _ _ h => h) (Or.inl ⟨by rfl, ?_⟩) (by assumption) ?_
  rotate_left
  · intro w hSw; go_simp; try with_reducible rfl
  go_simp
  refine wpAnyH_take (i := 2) (v := ?_) rfl (by kernel_rfl) (by kernel_rfl) (by kernel_rfl) (fun _ _ _ h => h) (Or.inl ⟨by rfl, ?_⟩) (by assumption) ?_
  rotate_left
  · intro w hSw; have q : w.cell? ⟨p0, 2, none⟩ = some (.slice a bs.length cap) := (by unfold World.cell?; dsimp only; rw [hSw.2]; rfl); go_simp; try with_reducible rfl
  go_simp
  refine wpAnyH_take (i := 6) (v := ?_) rfl (by kernel_rfl) (by kernel_rfl) (by kernel_rfl) (fun _ _ _ h => h) (Or.inl ⟨by rfl, ?_⟩) (by assumption) ?_
  rotate_left
  · intro w hSw; go_simp; try with_reducible rfl
  go_simp
  refine wpAnyH_take (i := 7) (v := ?_) rfl (by kernel_rfl) (by kernel_rfl) (by kernel_rfl) (fun _ _ _ h => h) (Or.inl ⟨by rfl, ?_⟩) (by assumption) ?_
  rotate_left
  · intro w hSw; go_simp; try with_reducible rfl
  go_simp
  refine wpAnyH_take (i := 8) (v := ?_) rfl (by kernel_rfl) (by kernel_rfl) (by kernel_rfl) (fun _ _ _ h => h) (Or.inl ⟨by rfl, ?_⟩) (by assumption) ?_
  rotate_left
  · intro w hSw; have q : w.cell? ⟨p0, 2, none⟩ = some (.slice a bs.length cap) := (by unfold World.cell?; dsimp only; rw [hSw.2]; rfl); go_simp; try with_reducible rfl
  go_simp
  refine wpAnyH_take (i := 9) (v := ?_) rfl (by kernel_rfl) (by kernel_rfl) (by kernel_rfl) (fun _ _ _ h => h) (Or.inl ⟨by rfl, ?_⟩) (by assumption) ?_
  rotate_left
  · intro w hSw; have cv := conv_slb (HSL.out.kp hSw.1); go_simp; try with_reducible rfl
  go_simp
  refine wpAnyH_ready (rs := [3]) (by kernel_rfl) (by simp) ?_
  refine AllReadyH.cons rfl (fun K hK => ?_) AllReadyH.nil
  go_simp
  go_wp2_with (go_at_call 25; (with_reducible refine (HD.out _ hHeld.1).mono ?_); rintro e w1 ⟨rfl, hmk, hk⟩; have B1 := Lib.hid ((HH.out.drew HC.out).kp HC.out hk); have R1 := Lib.hid (kp_row hk HR.out); have MK := Lib.hid (show SlB (.slice (some ⟨w0.heap.size, 0, none⟩) bs.length (bs.length + 6)) bs w1 from hmk.sl); have NG := Lib.hid (show ¬ O w0.heap.size from fun q => absurd (HGS.out _ q) (by have := old_of_row HR.out; omega)); clear hk hmk)
  refine hK.out _ _ ?_ (fun hHeld => ?_)
  · exact ⟨B1.out.kW, R1.out⟩
  clear hK K
  refine wpAnyH_ready (rs := [4]) (by kernel_rfl) (by simp) ?_
  refine AllReadyH.cons rfl (fun K hK => ?_) AllReadyH.nil
  go_simp
  go_wp2_with (go_at_call 22; (with_reducible refine (HA.out _ hHeld.1 _ B1.out.r _ _ MK.out (Nat.le_add_right _ _) NG.out).mono ?_); rintro e w2 ⟨rfl, O2, r2, ha⟩; have B2 := Lib.hid (B1.out.tape HC.out r2 ha); have R2 := Lib.hid (ha.row R1.out (fun q => Nat.lt_irrefl _ (HGS.out _ q))); clear ha r2)
  refine hK.out _ _ ?_ (fun hHeld => ?_)
  · exact ⟨B2.out.kW, R2.out⟩
  clear hK K
  refine wpAnyH_ready (rs := [5]) (by kernel_rfl) (by simp) ?_
  refine AllReadyH.cons rfl (fun K hK => ?_) AllReadyH.nil
  go_simp
  go_wp2_with (go_at_call 10; (with_reducible refine (HN.out _ hHeld.1).mono ?_); rintro e w3 ⟨rfl, hk⟩; have B3 := Lib.hid (B2.out.kp HC.out hk); have R3 := Lib.hid (kp_row hk R2.out); clear hk)
  refine hK.out _ _ ?_ (fun hHeld => ?_)
  · exact ⟨B3.out.kW, R3.out⟩
  clear hK K
  refine wpAnyH_ready (rs := [10]) (by kernel_rfl) (by simp) ?_
  refine AllReadyH.cons rfl (fun K hK => ?_) AllReadyH.nil
  go_simp
  go_wp2_with (go_at_call 28; (with_reducible refine (HF.out _ B3.out.mo).mono ?_); rintro e w4 ⟨rfl, hmo, hon⟩; have B4 := Lib.hid (B3.out.doc HC.out hmo hon); have R4 := Lib.hid (hon.row R3.out (fun q => Nat.lt_irrefl _ (q ▸ HGM.out))); clear hon hmo)
  refine hK.out _ _ ?_ (fun hHeld => ?_)
  · exact ⟨B4.out.kW, R4.out⟩
  clear hK K
  refine wpAnyH_take (i := 11) (v := ?_) rfl (by kernel_rfl) (by kernel_rfl) (by kernel_rfl) (fun _ _ _ h => h) (Or.inl ⟨by rfl, ?_⟩) (by assumption) ?_
  rotate_left
  · intro w hSw; go_simp; try with_reducible rfl
  go_simp
  refine wpAnyH_take (i := 12) (v := ?_) rfl (by kernel_rfl) (by kernel_rfl) (by kernel_rfl) (fun _ _ _ h => h) (Or.inl ⟨by rfl, ?_⟩) (by assumption) ?_
  rotate_left
  · intro w hSw; go_simp; try with_reducible rfl
  go_simp
  refine wpAnyH_done (by kernel_rfl) ?_ _
  go_wp2
  go_ret
  exact ⟨by first | rfl | simp, _, B4.out⟩

set_option maxRecDepth 20000 in
set_option maxHeartbeats 2000000 in
theorem do_sync (C : TapC ads W R) (V : St ads W) (h : BothO R W g gm m m O w) (hm : Mok m) (n : Int) (n0 : -9223372036854775808 ≤ n) (n1 : n ≤ 9223372036854775807) (a : Option Addr) (cap : Nat) (bs : List Int) (len : Nat) (hlen : bs.length = len) (hl : len ≤ 400) (hb : InB bs) (hs : SlB (.slice a len cap) bs W) :
    Calls Tryd.prog 12 #[.pointer (some ⟨g, 0, none⟩), .pointer (some ⟨gm, 0, none⟩), .agg #[.int .i64 2, .int .i64 n, .slice a len cap]] w fun e w' => e = .returned (.bool true) ∧ ∃ O', BothO R W g gm ((syncM m).2) ((syncM m).2) O' w' := by
  have _u := And.intro V (And.intro hm (And.intro n0 (And.intro n1 (And.intro hl (And.intro hb hs)))))
  clear _u
  subst hlen
  have k0 := kp_alloc w (.cells #[.int .i64 2, .int .i64 n, .slice a bs.length cap] 35)
  have hr := (MapKept.heap_alloc w (.cells #[.int .i64 2, .int .i64 n, .slice a bs.length cap] 35)).1
  have h0 := h.kp C k0
  have hgs : ∀ b, O b → b < w.heap.size := fun b hb => (C.mem h.r b hb).2
  have hgm : gm < w.heap.size := old_of_row h.mo
  have HA := Lib.hid (fun w1 (hk : Kp W w1) O1 (r : R g m O1 w1) => C.sync w1 hk g m O1 r hm)
  have HN := Lib.hid (fun w1 (hk : Kp W w1) => num_errN ads w1 (V.below hk) (syncM m).1 (sync_num m).1 (sync_num m).2)
  have HF := Lib.hid (fun w1 (q : MoC gm m w1) => ref6_sync gm m hm w1 q)
  have B0 := Lib.hid h0
  clear h0 hr k0 hs
  have HGS := Lib.hid hgs
  have HGM := Lib.hid hgm
  have HC := Lib.hid C
  clear hgs hgm V h hm
  go_enter Tryd.func12, Tryd.ntmps12
  go_wp2_with (first | (go_at_call 18; (with_reducible refine (HA.out _ B0.out.kW _ B0.out.r).mono ?_); rintro e w2 ⟨rfl, O2, r2, ha⟩; have B2 := Lib.hid (B0.out.tape HC.out r2 ha); clear ha r2) | (go_at_call 10; (with_reducible refine (HN.out _ B2.out.kW).mono ?_); rintro e w3 ⟨rfl, hk⟩; have B3 := Lib.hid (B2.out.kp HC.out hk); clear hk) | (go_at_call 27; (with_reducible refine (HF.out _ B3.out.mo).mono ?_); rintro e w4 ⟨rfl, hmo, hon⟩; have B4 := Lib.hid (B3.out.doc HC.out hmo hon); clear hon hmo))
  go_ret
  exact ⟨by first | rfl | simp, _, B4.out⟩

set_option maxRecDepth 20000 in
set_option maxHeartbeats 2000000 in
theorem do_cut (C : TapC ads W R) (V : St ads W) (h : BothO R W g gm m m O w) (hm : Mok m) (n : Int) (n0 : -9223372036854775808 ≤ n) (n1 : n ≤ 9223372036854775807) (a : Option Addr) (cap : Nat) (bs : List Int) (len : Nat) (hlen : bs.length = len) (hl : len ≤ 400) (hb : InB bs) (hs : SlB (.slice a len cap) bs W) :
    Calls Tryd.prog 12 #[.pointer (some ⟨g, 0, none⟩), .pointer (some ⟨gm, 0, none⟩), .agg #[.int .i64 4, .int .i64 n, .slice a len cap]] w fun e w' => e = .returned (.bool true) ∧ ∃ O', BothO R W g gm ((cutsM m n).2) ((cutsM m n).2) O' w' := by
  have _u := And.intro V (And.intro hm (And.intro n0 (And.intro n1 (And.intro hl (And.intro hb hs)))))
  clear _u
  subst hlen
  have k0 := kp_alloc w (.cells #[.int .i64 4, .int .i64 n, .slice a bs.length cap] 35)
  have hr := (MapKept.heap_alloc w (.cells #[.int .i64 4, .int .i64 n, .slice a bs.length cap] 35)).1
  have h0 := h.kp C k0
  have hgs : ∀ b, O b → b < w.heap.size := fun b hb => (C.mem h.r b hb).2
  have hgm : gm < w.heap.size := old_of_row h.mo
  have HA := Lib.hid (fun w1 (hk : Kp W w1) O1 (r : R g m O1 w1) => C.cut w1 hk g m O1 r hm n n0 n1)
  have HN := Lib.hid (fun w1 (hk : Kp W w1) => num_errN ads w1 (V.below hk) (cutsM m n).1 (cuts_num m n).1 (cuts_num m n).2)
  have HF := Lib.hid (fun w1 (q : MoC gm m w1) => ref6_cut gm m hm n w1 q)
  have HGS := Lib.hid hgs
  have HGM := Lib.hid hgm
  have HC := Lib.hid C
  clear hgs hgm V h hm
  go_enter Tryd.func12, Tryd.ntmps12
  go_wp2
  obtain ⟨w0, hw0⟩ : ∃ x, w.alloc (.cells #[.int .i64 4, .int .i64 n, .slice a bs.length cap] 35) = x := ⟨_, rfl⟩
  obtain ⟨p0, hp0⟩ : ∃ x, w.heap.size = x := ⟨_, rfl⟩
  rw [hw0] at h0 hr ⊢
  rw [hp0] at hr ⊢
  have HGS := HGS.out
  rw [hp0] at HGS
  have HGS := Lib.hid HGS
  have HGM := HGM.out
  rw [hp0] at HGM
  have HGM := Lib.hid HGM
  have HR := Lib.hid hr
  have HH := Lib.hid h0
  clear hw0 hp0 hr h0 k0
  refine wp_region_held_drew (S := fun w' => Kp W w' ∧ w'.heap[p0]? = some (.cells #[.int .i64 4, .int .i64 n, .slice a bs.length cap] 35 (0, 0))) (by kernel_rfl) ?_ (fun hHeld => ?_)
  · exact ⟨HH.out.kW.drew, HR.out⟩
  refine wpAnyH_take (i := 0) (v := ?_) rfl (by kernel_rfl) (by kernel_rfl) (by kernel_rfl) (fun _ _ _ h => h) (Or.inl ⟨by rfl, ?_⟩) (by assumption) ?_
  rotate_left
  · intro w hSw; go_simp; try with_reducible rfl
  go_simp
  refine wpAnyH_take (i := 1) (v := ?_) rfl (by kernel_rfl) (by kernel_rfl) (by kernel_rfl) (fun _ _ _ h => h) (Or.inl ⟨by rfl, ?_⟩) (by assumption) ?_
  rotate_left
  · intro w hSw; go_simp; try with_reducible rfl
  go_simp
  refine wpAnyH_take (i := 2) (v := ?_) rfl (by kernel_rfl) (by kernel_rfl) (by kernel_rfl) (fun _ _ _ h => h) (Or.inl ⟨by rfl, ?_⟩) (by assumption) ?_
  rotate_left
  · intro w hSw; have q : w.cell? ⟨p0, 1, none⟩ = some (.int .i64 n) := (by unfold World.cell?; dsimp only; rw [hSw.2]; rfl); go_simp; try with_reducible rfl
  go_simp
  refine wpAnyH_take (i := 5) (v := ?_) rfl (by kernel_rfl) (by kernel_rfl) (by kernel_rfl) (fun _ _ _ h => h) (Or.inl ⟨by rfl, ?_⟩) (by assumption) ?_
  rotate_left
  · intro w hSw; go_simp; try with_reducible rfl
  go_simp
  refine wpAnyH_take (i := 6) (v := ?_) rfl (by kernel_rfl) (by kernel_rfl) (by kernel_rfl) (fun _ _ _ h => h) (Or.inl ⟨by rfl, ?_⟩) (by assumption) ?_
  rotate_left
  · intro w hSw; go_simp; try with_reducible rfl
  go_simp
  refine wpAnyH_take (i := 7) (v := ?_) rfl (by kernel_rfl) (by kernel_rfl) (by kernel_rfl) (fun _ _ _ h => h) (Or.inl ⟨by rfl, ?_⟩) (by assumption) ?_
  rotate_left
  · intro w hSw; have q : w.cell? ⟨p0, 1, none⟩ = some (.int .i64 n) := (by unfold World.cell?; dsimp only; rw [hSw.2]; rfl); go_simp; try with_reducible rfl
  go_simp
  refine wpAnyH_ready (rs := [3]) (by kernel_rfl) (by simp) ?_
  refine AllReadyH.cons rfl (fun K hK => ?_) AllReadyH.nil
  go_simp
  go_wp2_with (go_at_call 21; (with_reducible refine (HA.out _ hHeld.1 _ (HH.out.drew HC.out).r).mono ?_); rintro e w2 ⟨rfl, O2, r2, ha⟩; have B2 := Lib.hid ((HH.out.drew HC.out).tape HC.out r2 ha); have R2 := Lib.hid (ha.row (show w0.drew.heap[p0]? = _ from HR.out) (fun q => Nat.lt_irrefl _ (HGS.out _ q))); clear ha r2)
  refine hK.out _ _ ?_ (fun hHeld => ?_)
  · exact ⟨B2.out.kW, R2.out⟩
  clear hK K
  refine wpAnyH_ready (rs := [4]) (by kernel_rfl) (by simp) ?_
  refine AllReadyH.cons rfl (fun K hK => ?_) AllReadyH.nil
  go_simp
  go_wp2_with (go_at_call 10; (with_reducible refine (HN.out _ hHeld.1).mono ?_); rintro e w3 ⟨rfl, hk⟩; have B3 := Lib.hid (B2.out.kp HC.out hk); have R3 := Lib.hid (kp_row hk R2.out); clear hk)
  refine hK.out _ _ ?_ (fun hHeld => ?_)
  · exact ⟨B3.out.kW, R3.out⟩
  clear hK K
  refine wpAnyH_ready (rs := [8]) (by kernel_rfl) (by simp) ?_
  refine AllReadyH.cons rfl (fun K hK => ?_) AllReadyH.nil
  go_simp
  go_wp2_with (go_at_call 29; (with_reducible refine (HF.out _ B3.out.mo).mono ?_); rintro e w4 ⟨rfl, hmo, hon⟩; have B4 := Lib.hid (B3.out.doc HC.out hmo hon); have R4 := Lib.hid (hon.row R3.out (fun q => Nat.lt_irrefl _ (q ▸ HGM.out))); clear hon hmo)
  refine hK.out _ _ ?_ (fun hHeld => ?_)
  · exact ⟨B4.out.kW, R4.out⟩
  clear hK K
  refine wpAnyH_take (i := 9) (v := ?_) rfl (by kernel_rfl) (by kernel_rfl) (by kernel_rfl) (fun _ _ _ h => h) (Or.inl ⟨by rfl, ?_⟩) (by assumption) ?_
  rotate_left
  · intro w hSw; go_simp; try with_reducible rfl
  go_simp
  refine wpAnyH_take (i := 10) (v := ?_) rfl (by kernel_rfl) (by kernel_rfl) (by kernel_rfl) (fun _ _ _ h => h) (Or.inl ⟨by rfl, ?_⟩) (by assumption) ?_
  rotate_left
  · intro w hSw; go_simp; try with_reducible rfl
  go_simp
  refine wpAnyH_done (by kernel_rfl) ?_ _
  go_wp2
  go_ret
  exact ⟨by first | rfl | simp, _, B4.out⟩

set_option maxRecDepth 20000 in
set_option maxHeartbeats 2000000 in
theorem do_arm (C : TapC ads W R) (V : St ads W) (h : BothO R W g gm m m O w) (hm : Mok m) (n : Int) (n0 : -9223372036854775808 ≤ n) (n1 : n ≤ 9223372036854775807) (a : Option Addr) (cap : Nat) (bs : List Int) (len : Nat) (hlen : bs.length = len) (hl : len ≤ 400) (hb : InB bs) (hs : SlB (.slice a len cap) bs W) :
    Calls Tryd.prog 12 #[.pointer (some ⟨g, 0, none⟩), .pointer (some ⟨gm, 0, none⟩), .agg #[.int .i64 6, .int .i64 n, .slice a len cap]] w fun e w' => e = .returned (.bool true) ∧ ∃ O', BothO R W g gm (armM m n) (armM m n) O' w' := by
  have _u := And.intro V (And.intro hm (And.intro n0 (And.intro n1 (And.intro hl (And.intro hb hs)))))
  clear _u
  subst hlen
  have k0 := kp_alloc w (.cells #[.int .i64 6, .int .i64 n, .slice a bs.length cap] 35)
  have hr := (MapKept.heap_alloc w (.cells #[.int .i64 6, .int .i64 n, .slice a bs.length cap] 35)).1
  have h0 := h.kp C k0
  have hgs : ∀ b, O b → b < w.heap.size := fun b hb => (C.mem h.r b hb).2
  have hgm : gm < w.heap.size := old_of_row h.mo
  have HA := Lib.hid (fun w1 (hk : Kp W w1) O1 (r : R g m O1 w1) => C.arm w1 hk g m O1 r hm n n0 n1)
  have HF := Lib.hid (fun w1 (q : MoC gm m w1) => ref6_arm gm m n w1 q)
  have HGS := Lib.hid hgs
  have HGM := Lib.hid hgm
  have HC := Lib.hid C
  clear hgs hgm V h hm
  go_enter Tryd.func12, Tryd.ntmps12
  go_wp2_with fail
  obtain ⟨w0, hw0⟩ : ∃ x, w.alloc (.cells #[.int .i64 6, .int .i64 n, .slice a bs.length cap] 35) = x := ⟨_, rfl⟩
  obtain ⟨p0, hp0⟩ : ∃ x, w.heap.size = x := ⟨_, rfl⟩
  rw [hw0] at h0 hr ⊢
  rw [hp0] at hr ⊢
  have HGS := HGS.out
  rw [hp0] at HGS
  have HGS := Lib.hid HGS
  have HGM := HGM.out
  rw [hp0] at HGM
  have HGM := Lib.hid HGM
  have HR := Lib.hid hr
  have HH := Lib.hid h0
  clear hw0 hp0 hr h0 k0
  refine wp_region_held_drew (S := fun w' => Kp W w' ∧ w'.heap[p0]? = some (.cells #[.int .i64 6, .int .i64 n, .slice a bs.length cap] 35 (0, 0))) (by kernel_rfl) ?_ (fun hHeld => ?_)
  · exact ⟨HH.out.kW.drew, HR.out⟩
  refine wpAnyH_take (i := 0) (v := ?_) rfl (by kernel_rfl) (by kernel_rfl) (by kernel_rfl) (fun _ _ _ h => h) (Or.inl ⟨by rfl, ?_⟩) (by assumption) ?_
  rotate_left
  · intro w hSw; go_simp; try with_reducible rfl
  go_simp
  refine wpAnyH_take (i := 1) (v := ?_) rfl (by kernel_rfl) (by kernel_rfl) (by kernel_rfl) (fun _ _ _ h => h) (Or.inl ⟨by rfl, ?_⟩) (by assumption) ?_
  rotate_left
  · intro w hSw; go_simp; try with_reducible rfl
  go_simp
  refine wpAnyH_take (i := 2) (v := ?_) rfl (by kernel_rfl) (by kernel_rfl) (by kernel_rfl) (fun _ _ _ h => h) (Or.inl ⟨by rfl, ?_⟩) (by assumption) ?_
  rotate_left
  · intro w hSw; go_simp; try with_reducible rfl
  go_simp
  refine wpAnyH_take (i := 3) (v := ?_) rfl (by kernel_rfl) (by kernel_rfl) (by kernel_rfl) (fun _ _ _ h => h) (Or.inl ⟨by rfl, ?_⟩) (by assumption) ?_
  rotate_left
  · intro w hSw; go_simp; try with_reducible rfl
  go_simp
  refine wpAnyH_take (i := 4) (v := ?_) rfl (by kernel_rfl) (by kernel_rfl) (by kernel_rfl) (fun _ _ _ h => h) (Or.inl ⟨by rfl, ?_⟩) (by assumption) ?_
  rotate_left
  · intro w hSw; have q : w.cell? ⟨p0, 1, none⟩ = some (.int .i64 n) := (by unfold World.cell?; dsimp only; rw [hSw.2]; rfl); go_simp; try with_reducible rfl
  go_simp
  refine wpAnyH_ready (rs := [5]) (by kernel_rfl) (by simp) ?_
  refine AllReadyH.cons rfl (fun K hK => ?_) AllReadyH.nil
  go_simp
  go_wp2_with (go_at_call 20; (with_reducible refine (HA.out _ hHeld.1 _ (HH.out.drew HC.out).r).mono ?_); rintro e w2 ⟨rfl, O2, r2, ha⟩; have B2 := Lib.hid ((HH.out.drew HC.out).tape HC.out r2 ha); have R2 := Lib.hid (ha.row (show w0.drew.heap[p0]? = _ from HR.out) (fun q => Nat.lt_irrefl _ (HGS.out _ q))); clear ha r2)
  refine hK.out _ _ ?_ (fun hHeld => ?_)
  · exact ⟨B2.out.kW, R2.out⟩
  clear hK K
  refine wpAnyH_done (by kernel_rfl) ?_ _
  have x0 : w2.cell? ⟨p0, 0, none⟩ = some (.int .i64 6) := (by unfold World.cell?; dsimp only; rw [R2.out]; rfl)
  have x1 : w2.cell? ⟨p0, 1, none⟩ = some (.int .i64 n) := (by unfold World.cell?; dsimp only; rw [R2.out]; rfl)
  go_wp2_with (go_at_call 30; (with_reducible refine (HF.out _ B2.out.mo).mono ?_); rintro e w4 ⟨rfl, hmo, hon⟩; have B4 := Lib.hid (B2.out.doc HC.out hmo hon); clear hon hmo)
  go_ret
  exact ⟨by first | rfl | simp, _, B4.out⟩

set_option maxRecDepth 20000 in
set_option maxHeartbeats 2000000 in
theorem do_crash (C : TapC ads W R) (V : St ads W) (h : BothO R W g gm m m O w) (hm : Mok m) (n : Int) (n0 : -9223372036854775808 ≤ n) (n1 : n ≤ 9223372036854775807) (a : Option Addr) (cap : Nat) (bs : List Int) (len : Nat) (hlen : bs.length = len) (hl : len ≤ 400) (hb : InB bs) (hs : SlB (.slice a len cap) bs W) :
    Calls Tryd.prog 12 #[.pointer (some ⟨g, 0, none⟩), .pointer (some ⟨gm, 0, none⟩), .agg #[.int .i64 7, .int .i64 n, .slice a len cap]] w fun e w' => e = .returned (.bool true) ∧ ∃ O', BothO R W g gm (crashM m n) (crashM m n) O' w' := by
  have _u := And.intro V (And.intro hm (And.intro n0 (And.intro n1 (And.intro hl (And.intro hb hs)))))
  clear _u
  subst hlen
  have k0 := kp_alloc w (.cells #[.int .i64 7, .int .i64 n, .slice a bs.length cap] 35)
  have hr := (MapKept.heap_alloc w (.cells #[.int .i64 7, .int .i64 n, .slice a bs.length cap] 35)).1
  have h0 := h.kp C k0
  have hgs : ∀ b, O b → b < w.heap.size := fun b hb => (C.mem h.r b hb).2
  have hgm : gm < w.heap.size := old_of_row h.mo
  have HA := Lib.hid (fun w1 (hk : Kp W w1) O1 (r : R g m O1 w1) => C.crash w1 hk g m O1 r hm n n0 n1)
  have HF := Lib.hid (fun w1 (q : MoC gm m w1) => ref6_crash gm m hm n w1 q)
  have HGS := Lib.hid hgs
  have HGM := Lib.hid hgm
  have HC := Lib.hid C
  clear hgs hgm V h hm
  go_enter Tryd.func12, Tryd.ntmps12
  go_wp2_with fail
  obtain ⟨w0, hw0⟩ : ∃ x, w.alloc (.cells #[.int .i64 7, .int .i64 n, .slice a bs.length cap] 35) = x := ⟨_, rfl⟩
  obtain ⟨p0, hp0⟩ : ∃ x, w.heap.size = x := ⟨_, rfl⟩
  rw [hw0] at h0 hr ⊢
  rw [hp0] at hr ⊢
  have HGS := HGS.out
  rw [hp0] at HGS
  have HGS := Lib.hid HGS
  have HGM := HGM.out
  rw [hp0] at HGM
  have HGM := Lib.hid HGM
  have HR := Lib.hid hr
  have HH := Lib.hid h0
  clear hw0 hp0 hr h0 k0
  go_wp2_with (first | (go_at_call 19; (with_reducible refine (HA.out _ HH.out.kW _ HH.out.r).mono ?_); rintro e w2 ⟨rfl, O2, r2, ha⟩; have B2 := Lib.hid (HH.out.tape HC.out r2 ha); have R2 := Lib.hid (ha.row HR.out (fun q => Nat.lt_irrefl _ (HGS.out _ q))); have x0 : w2.cell? ⟨p0, 0, none⟩ = some (.int .i64 7) := (by unfold World.cell?; dsimp only; rw [R2.out]; rfl); have x1 : w2.cell? ⟨p0, 1, none⟩ = some (.int .i64 n) := (by unfold World.cell?; dsimp only; rw [R2.out]; rfl); clear ha r2) | (go_at_call 31; (with_reducible refine (HF.out _ B2.out.mo).mono ?_); rintro e w4 ⟨rfl, hmo, hon⟩; have B4 := Lib.hid (B2.out.doc HC.out hmo hon); clear hon hmo))
  go_ret
  exact ⟨by first | rfl | simp, _, B4.out⟩

set_option maxRecDepth 20000 in
set_option maxHeartbeats 2000000 in
theorem do_room_in (C : TapC ads W R) (V : St ads W) (h : BothO R W g gm m m O w) (hm : Mok m) (n : Int) (hr0 : 0 ≤ n) (hr1 : n ≤ 65536) (n0 : -9223372036854775808 ≤ n) (n1 : n ≤ 9223372036854775807) (a : Option Addr) (cap : Nat) (bs : List Int) (len : Nat) (hlen : bs.length = len) (hl : len ≤ 400) (hb : InB bs) (hs : SlB (.slice a len cap) bs W) :
    Calls Tryd.prog 12 #[.pointer (some ⟨g, 0, none⟩), .pointer (some ⟨gm, 0, none⟩), .agg #[.int .i64 5, .int .i64 n, .slice a len cap]] w fun e w' => e = .returned (.bool true) ∧ ∃ O', BothO R W g gm ((roomM m n).2) ((roomM m n).2) O' w' := by
  have _u := And.intro V (And.intro hm (And.intro n0 (And.intro n1 (And.intro hl (And.intro hb hs)))))
  clear _u
  subst hlen
  have k0 := kp_alloc w (.cells #[.int .i64 5, .int .i64 n, .slice a bs.length cap] 35)
  have hr := (MapKept.heap_alloc w (.cells #[.int .i64 5, .int .i64 n, .slice a bs.length cap] 35)).1
  have h0 := h.kp C k0
  have hgs : ∀ b, O b → b < w.heap.size := fun b hb => (C.mem h.r b hb).2
  have hgm : gm < w.heap.size := old_of_row h.mo
  have em : roomM m n = (0, { m with room := n }) := by unfold roomM; rw [if_pos ⟨hr0, hr1⟩]
  have HA := fun w1 (hk : Kp W w1) O1 (r : R g m O1 w1) => C.setRoom w1 hk g m O1 r hm n n0 n1
  simp only [em, errI_nil] at HA ⊢
  have HA := Lib.hid HA
  have g1 : ¬ n < 0 := by omega
  have g2 : ¬ n > 65536 := by omega
  have d1 : decide (n < 0) = false := decide_eq_false g1
  have HGS := Lib.hid hgs
  have HGM := Lib.hid hgm
  have HC := Lib.hid C
  clear hgs hgm V h hm
  go_enter Tryd.func12, Tryd.ntmps12
  go_wp2_with fail
  obtain ⟨w0, hw0⟩ : ∃ x, w.alloc (.cells #[.int .i64 5, .int .i64 n, .slice a bs.length cap] 35) = x := ⟨_, rfl⟩
  obtain ⟨p0, hp0⟩ : ∃ x, w.heap.size = x := ⟨_, rfl⟩
  rw [hw0] at h0 hr ⊢
  rw [hp0] at hr ⊢
  have HGS := HGS.out
  rw [hp0] at HGS
  have HGS := Lib.hid HGS
  have HGM := HGM.out
  rw [hp0] at HGM
  have HGM := Lib.hid HGM
  have HR := Lib.hid hr
  have HH := Lib.hid h0
  clear hw0 hp0 hr h0 k0
  go_wp2_with (go_at_call 23; (with_reducible refine (HA.out _ HH.out.kW _ HH.out.r).mono ?_); rintro e w2 ⟨rfl, O2, r2, ha⟩; have B2 := Lib.hid (HH.out.tape HC.out r2 ha); have R2 := Lib.hid (ha.row HR.out (fun q => Nat.lt_irrefl _ (HGS.out _ q))); have x0 : w2.cell? ⟨p0, 0, none⟩ = some (.int .i64 5) := (by unfold World.cell?; dsimp only; rw [R2.out]; rfl); have x1 : w2.cell? ⟨p0, 1, none⟩ = some (.int .i64 n) := (by unfold World.cell?; dsimp only; rw [R2.out]; rfl); have y2 := B2.out.mo.c2; have yz := B2.out.mo.z; clear ha r2)
  go_ret
  exact ⟨by first | rfl | simp, _, B2.out.doc HC.out (B2.out.mo.set2 n) ((On.refl _ _).set _ _)⟩

set_option maxRecDepth 20000 in
set_option maxHeartbeats 2000000 in
theorem do_room_out (C : TapC ads W R) (V : St ads W) (h : BothO R W g gm m m O w) (hm : Mok m) (n : Int) (hro : n < 0 ∨ 65536 < n) (n0 : -9223372036854775808 ≤ n) (n1 : n ≤ 9223372036854775807) (a : Option Addr) (cap : Nat) (bs : List Int) (len : Nat) (hlen : bs.length = len) (hl : len ≤ 400) (hb : InB bs) (hs : SlB (.slice a len cap) bs W) :
    Calls Tryd.prog 12 #[.pointer (some ⟨g, 0, none⟩), .pointer (some ⟨gm, 0, none⟩), .agg #[.int .i64 5, .int .i64 n, .slice a len cap]] w fun e w' => e = .returned (.bool true) ∧ ∃ O', BothO R W g gm ((roomM m n).2) ((roomM m n).2) O' w' := by
  have _u := And.intro V (And.intro hm (And.intro n0 (And.intro n1 (And.intro hl (And.intro hb hs)))))
  clear _u
  subst hlen
  have k0 := kp_alloc w (.cells #[.int .i64 5, .int .i64 n, .slice a bs.length cap] 35)
  have hr := (MapKept.heap_alloc w (.cells #[.int .i64 5, .int .i64 n, .slice a bs.length cap] 35)).1
  have h0 := h.kp C k0
  have hgs : ∀ b, O b → b < w.heap.size := fun b hb => (C.mem h.r b hb).2
  have hgm : gm < w.heap.size := old_of_row h.mo
  have em : roomM m n = (1, m) := by unfold roomM; rw [if_neg (by omega)]
  have HA := fun w1 (hk : Kp W w1) O1 (r : R g m O1 w1) => C.setRoom w1 hk g m O1 r hm n n0 n1
  simp only [em] at HA ⊢
  have HA := Lib.hid HA
  have HN := Lib.hid (fun w1 (hk : Kp W w1) => num_errN ads w1 (V.below hk) 1 (by decide) (by decide))
  have HGS := Lib.hid hgs
  have HGM := Lib.hid hgm
  have HC := Lib.hid C
  clear hgs hgm V h hm
  go_enter Tryd.func12, Tryd.ntmps12
  go_wp2_with fail
  obtain ⟨w0, hw0⟩ : ∃ x, w.alloc (.cells #[.int .i64 5, .int .i64 n, .slice a bs.length cap] 35) = x := ⟨_, rfl⟩
  obtain ⟨p0, hp0⟩ : ∃ x, w.heap.size = x := ⟨_, rfl⟩
  rw [hw0] at h0 hr ⊢
  rw [hp0] at hr ⊢
  have HGS := HGS.out
  rw [hp0] at HGS
  have HGS := Lib.hid HGS
  have HGM := HGM.out
  rw [hp0] at HGM
  have HGM := Lib.hid HGM
  have HR := Lib.hid hr
  have HH := Lib.hid h0
  clear hw0 hp0 hr h0 k0
  by_cases hneg : n < 0
  · have d1 : decide (n < 0) = true := decide_eq_true hneg
    go_wp2_with (first | (go_at_call 23; (with_reducible refine (HA.out _ HH.out.kW _ HH.out.r).mono ?_); rintro e w2 ⟨rfl, O2, r2, ha⟩; have B2 := Lib.hid (HH.out.tape HC.out r2 ha); have R2 := Lib.hid (ha.row HR.out (fun q => Nat.lt_irrefl _ (HGS.out _ q))); have x0 : w2.cell? ⟨p0, 0, none⟩ = some (.int .i64 5) := (by unfold World.cell?; dsimp only; rw [R2.out]; rfl); have x1 : w2.cell? ⟨p0, 1, none⟩ = some (.int .i64 n) := (by unfold World.cell?; dsimp only; rw [R2.out]; rfl); clear ha r2) | (go_at_call 10; (with_reducible refine (HN.out _ B2.out.kW).mono ?_); rintro e w3 ⟨rfl, hk⟩; have B3 := Lib.hid (B2.out.kp HC.out hk); clear hk))
    go_ret
    exact ⟨by first | rfl | simp, _, B3.out⟩
  · have d1 : decide (n < 0) = false := decide_eq_false hneg
    have d2 : n > 65536 := by omega
    go_wp2_with (first | (go_at_call 23; (with_reducible refine (HA.out _ HH.out.kW _ HH.out.r).mono ?_); rintro e w2 ⟨rfl, O2, r2, ha⟩; have B2 := Lib.hid (HH.out.tape HC.out r2 ha); have R2 := Lib.hid (ha.row HR.out (fun q => Nat.lt_irrefl _ (HGS.out _ q))); have x0 : w2.cell? ⟨p0, 0, none⟩ = some (.int .i64 5) := (by unfold World.cell?; dsimp only; rw [R2.out]; rfl); have x1 : w2.cell? ⟨p0, 1, none⟩ = some (.int .i64 n) := (by unfold World.cell?; dsimp only; rw [R2.out]; rfl); clear ha r2) | (go_at_call 10; (with_reducible refine (HN.out _ B2.out.kW).mono ?_); rintro e w3 ⟨rfl, hk⟩; have B3 := Lib.hid (B2.out.kp HC.out hk); clear hk))
    go_ret
    exact ⟨by first | rfl | simp, _, B3.out⟩

set_option maxRecDepth 20000 in
set_option maxHeartbeats 2000000 in
theorem do_none (C : TapC ads W R) (V : St ads W) (h : BothO R W g gm m m O w) (hm : Mok m) (kk : Int) (hk1 : kk ≠ 1) (hk2 : kk ≠ 2) (hk3 : kk ≠ 3) (hk4 : kk ≠ 4) (hk5 : kk ≠ 5) (hk6 : kk ≠ 6) (hk7 : kk ≠ 7) (n : Int) (n0 : -9223372036854775808 ≤ n) (n1 : n ≤ 9223372036854775807) (a : Option Addr) (cap : Nat) (bs : List Int) (len : Nat) (hlen : bs.length = len) (hl : len ≤ 400) (hb : InB bs) (hs : SlB (.slice a len cap) bs W) :
    Calls Tryd.prog 12 #[.pointer (some ⟨g, 0, none⟩), .pointer (some ⟨gm, 0, none⟩), .agg #[.int .i64 kk, .int .i64 n, .slice a len cap]] w fun e w' => e = .returned (.bool true) ∧ ∃ O', BothO R W g gm (m) (m) O' w' := by
  have _u := And.intro V (And.intro hm (And.intro n0 (And.intro n1 (And.intro hl (And.intro hb hs)))))
  clear _u
  subst hlen
  have k0 := kp_alloc w (.cells #[.int .i64 kk, .int .i64 n, .slice a bs.length cap] 35)
  have hr := (MapKept.heap_alloc w (.cells #[.int .i64 kk, .int .i64 n, .slice a bs.length cap] 35)).1
  have h0 := h.kp C k0
  have hgs : ∀ b, O b → b < w.heap.size := fun b hb => (C.mem h.r b hb).2
  have hgm : gm < w.heap.size := old_of_row h.mo
  have z1 : (kk == 1) = false := beq_eq_false_iff_ne.2 hk1
  have z2 : (kk == 2) = false := beq_eq_false_iff_ne.2 hk2
  have z3 : (kk == 3) = false := beq_eq_false_iff_ne.2 hk3
  have z4 : (kk == 4) = false := beq_eq_false_iff_ne.2 hk4
  have z5 : (kk == 5) = false := beq_eq_false_iff_ne.2 hk5
  have z6 : (kk == 6) = false := beq_eq_false_iff_ne.2 hk6
  have z7 : (kk == 7) = false := beq_eq_false_iff_ne.2 hk7
  have B0 := Lib.hid h0
  clear h0 hr k0 hs
  have HGS := Lib.hid hgs
  have HGM := Lib.hid hgm
  have HC := Lib.hid C
  clear hgs hgm V h hm
  go_enter Tryd.func12, Tryd.ntmps12
  go_wp2
  go_ret
  exact ⟨by first | rfl | simp, _, B0.out⟩

theorem do_any (C : TapC ads W R) (V : St ads W) (h : BothO R W g gm m m O w) (hm : Mok m) (k n : Int) (n0 : -9223372036854775808 ≤ n) (n1 : n ≤ 9223372036854775807) (a : Option Addr) (cap : Nat) (bs : List Int) (len : Nat) (hlen : bs.length = len) (hl : len ≤ 400) (hb : InB bs) (hs : SlB (.slice a len cap) bs W) :
    Calls Tryd.prog 12 #[.pointer (some ⟨g, 0, none⟩), .pointer (some ⟨gm, 0, none⟩), .agg #[.int .i64 k, .int .i64 n, .slice a len cap]] w fun e w' => e = .returned (.bool true) ∧ ∃ O', BothO R W g gm (opM m k n bs) (opM m k n bs) O' w' := by
  unfold opM
  by_cases h1 : k = 1
  · subst h1; simp only [if_true]
    exact do_append C V h hm n n0 n1 a cap bs len hlen hl hb hs
  by_cases h2 : k = 2
  · subst h2; simp only [show ¬ (2 : Int) = 1 by decide, if_true, if_false]
    exact do_sync C V h hm n n0 n1 a cap bs len hlen hl hb hs
  by_cases h3 : k = 3
  · subst h3; simp only [show ¬ (3 : Int) = 1 by decide, show ¬ (3 : Int) = 2 by decide, if_true, if_false]
    exact do_swap C V h hm n n0 n1 a cap bs len hlen hl hb hs
  by_cases h4 : k = 4
  · subst h4; simp only [show ¬ (4 : Int) = 1 by decide, show ¬ (4 : Int) = 2 by decide, show ¬ (4 : Int) = 3 by decide, if_true, if_false]
    exact do_cut C V h hm n n0 n1 a cap bs len hlen hl hb hs
  by_cases h5 : k = 5
  · subst h5; simp only [show ¬ (5 : Int) = 1 by decide, show ¬ (5 : Int) = 2 by decide, show ¬ (5 : Int) = 3 by decide, show ¬ (5 : Int) = 4 by decide, if_true, if_false]
    by_cases hr : 0 ≤ n ∧ n ≤ 65536
    · exact do_room_in C V h hm n hr.1 hr.2 n0 n1 a cap bs len hlen hl hb hs
    · exact do_room_out C V h hm n (by omega) n0 n1 a cap bs len hlen hl hb hs
  by_cases h6 : k = 6
  · subst h6; simp only [show ¬ (6 : Int) = 1 by decide, show ¬ (6 : Int) = 2 by decide, show ¬ (6 : Int) = 3 by decide, show ¬ (6 : Int) = 4 by decide, show ¬ (6 : Int) = 5 by decide, if_true, if_false]
    exact do_arm C V h hm n n0 n1 a cap bs len hlen hl hb hs
  by_cases h7 : k = 7
  · subst h7; simp only [show ¬ (7 : Int) = 1 by decide, show ¬ (7 : Int) = 2 by decide, show ¬ (7 : Int) = 3 by decide, show ¬ (7 : Int) = 4 by decide, show ¬ (7 : Int) = 5 by decide, show ¬ (7 : Int) = 6 by decide, if_true, if_false]
    exact do_crash C V h hm n n0 n1 a cap bs len hlen hl hb hs
  rw [if_neg h1, if_neg h2, if_neg h3, if_neg h4, if_neg h5, if_neg h6, if_neg h7]
  exact do_none C V h hm k h1 h2 h3 h4 h5 h6 h7 n n0 n1 a cap bs len hlen hl hb hs
end Go.Proofs.YtjgakdcjkddpiaaDoor
