/- Parts of this proof (own work). -/
import Derived.Test.YtncoofnhifcnhaaGreatDoorZt04
import Derived.Defers
set_option maxRecDepth 100000
set_option maxHeartbeats 40000000
namespace Go.Proofs.YtncoofnhifcnhaaGreatDoor
open Go.RowKit Go.ChangeShapes Go.WideShapes
def wrU (ps : List (Int × Int)) (ns : List Int) : Nat → List Int
 | 0 => []
 | k + 1 => wrU ps ns k ++ ([(ps.getD k (0, 0)).1] ++ dec (ns.getD k 0).toNat)
def okU (ps : List (Int × Int)) (ns : List Int) : Nat → Bool
 | 0 => true
 | k + 1 => okU ps ns k && decide (0 ≤ ns.getD k 0 ∧ ns.getD k 0 < (ps.getD k (0, 0)).2)
theorem wrU_len (ps : List (Int × Int)) (ns : List Int) : ∀ k, (wrU ps ns k).length ≤ 9 * k
 | 0 => Nat.le_refl _
 | k + 1 => by
  have := wrU_len ps ns k; have h := dec_len (ns.getD k 0).toNat; simp only [wrU, List.length_append, List.length_cons, List.length_nil]
  omega
theorem okU_no {ps : List (Int × Int)} {ns : List Int} : ∀ (k d : Nat), okU ps ns k = false → okU ps ns (k + d) = false
 | _, 0, h => h
 | k, d + 1, h => by
  rw [← Nat.add_assoc, okU, okU_no k d h]
  rfl
theorem write1_any (ads : List Addr) (h0 : 0 < ads.length) (ps : List (Int × Int)) (ns : List Int) (m : Nat) (hm : ps.length = m) (hm2 : ns.length = m) (hm3 : m ≤ 3) (hb : ∀ j, j < m → (ps.getD j (0, 0)).2 ≤ 1000000)
  (B0 B1 : Nat) (gp cp gn cn : Nat) (w : World) (V : St ads w) (T : Tab w) (c0 : w.cell? ⟨B0, 0, none⟩ = some (.slice (some ⟨gp, 0, none⟩) m cp)) (c1 : w.cell? ⟨B1, 0, none⟩ = some (.slice (some ⟨gn, 0, none⟩) m cn))
  (hp : ∀ j, j < m → w.cell? ⟨gp, 2 * j, none⟩ = some (.string (strOfNums [(ps.getD j (0, 0)).1])) ∧ w.cell? ⟨gp, 2 * j + 1, none⟩ = some (.int .i64 (ps.getD j (0, 0)).2))
  (hn : ∀ j, j < m → w.cell? ⟨gn, j, none⟩ = some (.int .i64 (ns.getD j 0))) :
  Calls Tryz.prog 172 #[.pointer (some ⟨B0, 0, none⟩), .pointer (some ⟨B1, 0, none⟩)] w fun e w' =>
   ((okU ps ns m = true ∧ e = .returned (.string (strOfNums (wrU ps ns m)))) ∨ (okU ps ns m = false ∧ e = .panicked [{ v := snt (ads[0]'h0), recovered := false }])) ∧ Kp w w' := by
 have CE := fun w1 (hk : Kp w w1) => kZ hk (V.cell 0 (by decide))
 obtain ⟨a0, ha0⟩ : ∃ a, ads[0]'h0 = a := ⟨_, rfl⟩
 rw [ha0] at CE ⊢
 replace CE : ∀ w1, Kp w w1 → w1.cell? ⟨2, 0, none⟩ = some (snt a0) := CE
 obtain ⟨CE, HT, HP, HN, HB, C0⟩ := hD6 CE T hp hn hb c0; have C1 := hD c1; obtain ⟨L, hL⟩ : ∃ L : Int, (m : Int) = L := ⟨_, rfl⟩
 obtain ⟨HL, HM⟩ := hD2 hL hm3; have l3 : L ≤ 3 := by omega
 clear V T hp hn hb ha0 hm hm2 c1 hm3; go_enter Tryz.func172, Tryz.ntmps172; go_wp2; go_loopw [3, 8] (fun u i wr => ∃ j : Nat, j ≤ m ∧ i = .int .i64 j ∧ u = .string (strOfNums (wrU ps ns j)) ∧ okU ps ns j = true ∧ Kp w wr) (fun _ i _ => m - (intOf i).toNat)
 case atStart => exact ⟨0, Nat.zero_le _, rfl, rfl, rfl, Kp.refl _⟩
 case round =>
  obtain ⟨j, hj, rfl, rfl, hok, hk⟩ := hrel; have KR := hD hk; have c0 := kZ hk C0.out; have c1 := kZ hk C1.out; obtain ⟨jj, hjj⟩ : ∃ jj : Int, (j : Int) = jj := ⟨_, rfl⟩
  rw [hjj]; have hLL := HL.out
  by_cases hlt : j < m
  ·have hjl : jj < L := by omega
   have hj0 : 0 ≤ jj := by omega
   obtain ⟨hp1, hp2⟩ := HP.out j hlt; obtain ⟨hp1, hp2⟩ := kZ2 hk hp1 hp2; have hn1 := kZ hk (HN.out j hlt); have hb1 := HB.out j hlt; have htn : jj.toNat = j := by omega
   obtain ⟨mk, hmk⟩ : ∃ s, strOfNums [(ps.getD j (0, 0)).1] = s := ⟨_, rfl⟩
   obtain ⟨bb, hbb⟩ : ∃ s, (ps.getD j (0, 0)).2 = s := ⟨_, rfl⟩
   obtain ⟨nv, hnv⟩ : ∃ s, ns.getD j 0 = s := ⟨_, rfl⟩
   obtain ⟨uu, huu⟩ : ∃ s, strOfNums (wrU ps ns j) = s := ⟨_, rfl⟩
   rw [hmk] at hp1; rw [hbb] at hp2 hb1; rw [hnv] at hn1; rw [huu]
   replace hp1 : wr.cell? ⟨gp, jj.toNat * 2, none⟩ = some (.string mk) := by rw [htn, Nat.mul_comm]; exact hp1
   replace hp2 : wr.cell? ⟨gp, jj.toNat * 2 + 1, none⟩ = some (.int .i64 bb) := by rw [htn, Nat.mul_comm]; exact hp2
   replace hn1 : wr.cell? ⟨gn, jj.toNat, none⟩ = some (.int .i64 nv) := by rw [htn]; exact hn1
   obtain ⟨HJ, HK, HBB, HNV, HUU, HOK, HLT, HTN⟩ := hD8 hjj hmk hbb hnv huu hok hlt htn; clear hjj hmk hbb hnv huu hok hlt hk hj hLL htn; go_wp2; have k2 := kA wr (.cells #[.string mk, bb] 227); have hr2 := (mH wr (.cells #[.string mk, bb] 227))
   obtain ⟨w2, hw2⟩ : ∃ w2, wr.alloc (.cells #[.string mk, bb] 227) = w2 := ⟨_, rfl⟩
   obtain ⟨p5, hp5⟩ : ∃ p, wr.heap.size = p := ⟨_, rfl⟩
   rw [hw2] at k2 hr2 ⊢; rw [hp5] at hr2 ⊢; obtain ⟨c12, n12⟩ := kZ2 k2 c1 hn1; have f0 : w2.cell? ⟨p5, 0, none⟩ = some (.string mk) := by unfold World.cell?; dsimp only; rw [hr2]; rfl
   have f1 : w2.cell? ⟨p5, 1, none⟩ = some (.int .i64 bb) := by unfold World.cell?; dsimp only; rw [hr2]; rfl
   have ce := CE.out _ (kT KR.out k2); have c12' : w2.drew.cell? ⟨B1, 0, none⟩ = some (.slice (some ⟨gn, 0, none⟩) m cn) := c12; have n12' : w2.drew.cell? ⟨gn, jj.toNat, none⟩ = some (.int .i64 nv) := n12; have f0' : w2.drew.cell? ⟨p5, 0, none⟩ = some (.string mk) := f0; have f1' : w2.drew.cell? ⟨p5, 1, none⟩ = some (.int .i64 bb) := f1; have ce' : w2.drew.cell? ⟨2, 0, none⟩ = some (snt a0) := ce; have K2 := hD (kT KR.out k2); clear hr2 hw2 hp5 k2 hp1 hp2 c0 c1 hn1
   by_cases hg : 0 ≤ nv ∧ nv < bb
   ·have d1 : decide (0 ≤ nv) = true := dT hg.1; have d2 : decide (nv < bb) = true := dT hg.2; have HG := hD hg; have g1 := hg.1; have g2 := hg.2; clear hg; go_still_tail 15, (by kernel_rfl)
    change wpList _ _ _ _ _ w2.drew
    go_wp2_with (go_at_call 173; (with_reducible refine (idemand_t _ _).mono ?_); rintro e w' ⟨rfl, rfl⟩)
    obtain ⟨w3, hw3⟩ : ∃ w3, w2.drew = w3 := ⟨_, rfl⟩
    have K3 := hD (K2.out.drew); rw [hw3] at K3 c12' n12' f0' f1' ⊢; clear c12 n12 f0 f1 ce ce' hw3 f1'; have hd8 := dec_len nv.toNat; have hmk1 : mk.size = 1 := by rw [← HK.out, strOfNums_size]; rfl
    have hu9 : uu.size ≤ 27 := by
     have h1 := wrU_len ps ns j; have h2 := HM.out; have h3 := HLT.out; rw [← HUU.out, strOfNums_size]; omega
    have HI := fun w1 (hk : Kp w3 w1) => itoa_any nv.toNat (by omega) nv (by omega) w1 (HT.out.kp (kT K3.out hk))
    obtain ⟨dd, hdd⟩ : ∃ s, strOfNums (dec nv.toNat) = s := ⟨_, rfl⟩
    rw [hdd] at HI; have HI := hD HI; have hds : dd.size ≤ 8 := by rw [← hdd, strOfNums_size]; exact hd8
    obtain ⟨t1, ht1⟩ : ∃ s, mk ++ dd = s := ⟨_, rfl⟩
    obtain ⟨t2, ht2⟩ : ∃ s, uu ++ t1 = s := ⟨_, rfl⟩
    have HT2 := hD (show strOfNums (wrU ps ns (j + 1)) = t2 by
     rw [← ht2, ← ht1, ← HUU.out, ← HK.out, ← hdd, str_append, str_append, wrU, HNV.out])
    have ht1s : t1.size = mk.size + dd.size := by rw [← ht1, ByteArray.size_append]
    have HS1 := hD (show ¬ 9223372036854775807 < mk.size + dd.size by omega); have HS2 := hD (show ¬ 9223372036854775807 < uu.size + t1.size by omega); obtain ⟨HC1, HC2⟩ := hD2 ht1 ht2; have HG9 := hD (show okU ps ns (j + 1) = true by rw [okU, HOK.out, HNV.out, HBB.out, dT HG.out]; rfl); clear hd8 hmk1 hu9 hdd hds ht1 ht2 ht1s; refine rgW (fun w' => Kp w3 w') ?_ fun hH => ?_
    ·exact (Kp.refl w3).drew
    refine tkP 0 ?_
    go_simp; refine tkP 1 ?_
    go_simp; refine tkP 2 ?_ (y := by intro w hZ; have q := kZ hZ f0'; go_simp; try rfl)
    go_simp; refine tkP 3 ?_ (y := by intro w hZ; have q := kZ hZ c12'; go_simp; try rfl)
    go_simp; refine tkP 4 ?_
    go_simp; refine tkP 5 ?_
    go_simp; refine tkP 6 ?_ (y := by intro w hZ; have q := kZ hZ n12'; go_simp; try rfl)
    go_simp; refine rdW 7 fun K hK => ?_
    go_simp; go_wp2_with (go_at_call 174; (with_reducible refine (HI.out _ hH).mono ?_); rintro e w4 ⟨rfl, hk4⟩; have K4 := hD (kT hH hk4); clear hk4)
    refine hK.out _ _ (K4.out) fun hH => ?_
    clear hK K; refine wpAnyH_take (i := 8) (v := ?_) rfl (by kernel_rfl) (by kernel_rfl) (by kernel_rfl) (fun _ _ _ h => h) (Or.inl ⟨by rfl, ?_⟩) (by assumption) ?_
    rotate_left
    ·intro w hZ; go_simp; rw [if_neg HS1.out, HC1.out]
    go_simp; refine wpAnyH_take (i := 9) (v := ?_) rfl (by kernel_rfl) (by kernel_rfl) (by kernel_rfl) (fun _ _ _ h => h) (Or.inl ⟨by rfl, ?_⟩) (by assumption) ?_
    rotate_left
    ·intro w hZ; go_simp; rw [if_neg HS2.out, HC2.out]
    go_simp; refine tkP 10 ?_
    go_simp; refine dnW ?_ _
    go_wp2; have hj1 : (j : Int) = jj := HJ.out; have hlt1 : j < m := HLT.out; refine ⟨⟨j + 1, hlt1, ?_, ?_, HG9.out, kT K3.out hH⟩, ?_⟩
    ·rw [← hj1]; rfl
    ·rw [HT2.out]
    ·simp [intOf]; omega
   ·have hno : okU ps ns m = false := by
     have e1 : okU ps ns (j + 1) = false := by
      rw [okU, HNV.out, HBB.out, dF hg, Bool.and_false]
     have hlt1 : j < m := HLT.out; have := okU_no (j + 1) (m - (j + 1)) e1; rwa [show j + 1 + (m - (j + 1)) = m by omega] at this
    have HNO := hD hno; clear hno
    by_cases g1 : 0 ≤ nv
    ·have g2 : ¬ nv < bb := fun q => hg ⟨g1, q⟩
     have d1 : decide (0 ≤ nv) = true := dT g1; have d2 : decide (nv < bb) = false := dF g2; clear hg; go_still_tail 15, (by kernel_rfl)
     change wpList _ _ _ _ _ w2.drew
     go_wp2_with (go_at_call 173; (with_reducible refine (idemand_f _ _).mono ?_); rintro e w' ⟨rfl, rfl⟩)
     exact ⟨rfl, .inr ⟨HNO.out, rfl⟩, K2.out.drew⟩
    ·have d1 : decide (0 ≤ nv) = false := dF g1; clear hg; refine rgW (fun w' => Kp w2 w') ?_ fun hH => ?_
     ·exact (Kp.refl w2).drew
     refine tkP 0 ?_ (y := by intro w hZ; have q := kZ hZ c12; go_simp; try rfl)
     go_simp; refine tkP 1 ?_
     go_simp; refine tkP 2 ?_
     go_simp; refine tkP 3 ?_ (y := by intro w hZ; have q := kZ hZ n12; go_simp; try rfl)
     go_simp; refine tkP 4 ?_
     go_simp; refine tkP 5 ?_
     go_simp; refine skW 6 ?_
     go_simp; refine skW 7 ?_
     go_simp; refine skW 8 ?_
     go_simp; refine skW 9 ?_
     go_simp; refine skW 10 ?_
     go_simp; refine skW 11 ?_
     go_simp; refine skW 12 ?_
     go_simp; refine tkP 13 ?_
     go_simp; refine tkP 14 ?_ (y := by intro w hZ; have q := CE.out _ (kT K2.out hZ); go_simp; try rfl)
     go_simp; refine rdW 15 fun K hK => ?_
     go_simp; go_wp2_with (go_at_call 173; (with_reducible refine (idemand_f _ _).mono ?_); rintro e w' ⟨rfl, rfl⟩)
     exact ⟨rfl, .inr ⟨HNO.out, rfl⟩, kT K2.out hH⟩
  ·have hjm : j = m := by omega
   have hjl : ¬ jj < L := by omega
   subst hjm; have HOK := hD hok; clear hjj hlt hk hj hok c0 c1 hLL; go_wp2; go_ret; exact ⟨.inl ⟨HOK.out, rfl⟩, KR.out⟩
open Go.RowKit Go.Extern.Stop Go.Stop Go.Extern
def Past (B : Nat) (w w' : World) : Prop := w.heap.size ≤ w'.heap.size ∧ ∀ b, B ≤ b → b < w.heap.size → w'.heap[b]? = w.heap[b]?
def Aside (B : Nat) (w w' : World) : Prop := w.heap.size ≤ w'.heap.size ∧ ∀ b, b ≠ B → b ≠ B + 1 → w'.heap[b]? = w.heap[b]?
theorem Aside.below {B : Nat} {w w' : World} (h : Below B w w') (hs : ∀ b, b ≠ B → b ≠ B + 1 → w'.heap[b]? = w.heap[b]?) : Aside B w w' := ⟨h.size, hs⟩
theorem past_of {w0 w w' : World} (h : Kp w w') : Past w0.heap.size w w' := ⟨Below.size h, fun b _ hb => Below.block h b hb⟩
def Mid (w : World) (G : World → World → Prop) (w' : World) : Prop := ∃ w1 w2, Below w.heap.size w w1 ∧ w1.heap.size = w.heap.size + 2 ∧ G w1 w2 ∧ Below w.heap.size w2 w'
theorem try_new0 (w : World) (o o' : Obj) : ((w.alloc o).alloc o').heap[w.heap.size]? = some o := by
 rw [Below.heap_alloc _ _ _ (by simp)]; exact (mH w o)
theorem try_new1 (w : World) (o o' : Obj) : ((w.alloc o).alloc o').heap[w.heap.size + 1]? = some o' := by
 have := (mH (w.alloc o) o')
 simpa using this
theorem hsO (w : World) (q : Addr) (v : Value) (b : Nat) (h : b ≠ q.block) : (w.setCell q v).heap[b]? = w.heap[b]? := bS w q v b h
theorem door_str_panic (ads : List Addr) (p q : Addr) (old : Value) (k : Nat) (hk : k < ads.length) (older : List PanicEntry) (w : World) (V : St ads w)
  (hp : w.cell? p = some (.bool true)) (hq : w.cell? q = some old) (hz : w.frozen? q = false) :
  CallsD Tryz.prog 186 #[.pointer (some p), .pointer (some q)] (.panicking ({ v := snt ads[k], recovered := false } :: older)) w fun e u' w' =>
   e = .returned (.tuple #[]) ∧ u' = .panicking ({ v := snt ads[k], recovered := true } :: older) ∧ ∃ w1, Kp w w1 ∧ w' = w1.setCell q (snt ads[k]) := by
 have hqb := old_of_cell hq; have hn := errorOf_any ads w V k hk; obtain ⟨a, ha⟩ : ∃ a, ads[k] = a := ⟨_, rfl⟩
 rw [ha] at hn ⊢; clear ha V; refine callsD_of_wpS Tryz.func186 rfl fun c₀ cs hu => ?_
 apply wpS_seq
 apply wpS_region
 simp [wpOpsS, go_sem, recoverD, hu, Tryz.ntmps186, Exit.thenS]
 refine wpS_of_wp ?_
 change Code.wp _ _ _ { tmps := #[.pointer (some p), .pointer (some q), snt a, snt a, undef, undef, undef], defers := [] } _
 obtain ⟨HN, HU⟩ := hD2 hn hu; clear hn hu; go_wp2_with (go_at_call 96; (with_reducible refine HN.out.mono ?_); rintro e w1 ⟨rfl, hw⟩; have hq1 : w1.cell? q = some old := (by rw [Below.cell hw hqb]; exact hq); have hz1 : w1.frozen? q = false := (by rw [Below.frozen hw hqb]; exact hz))
 exact ⟨rfl, _, rfl, _, results_none rfl _ _ _, rfl, rfl, w1, hw, rfl⟩
theorem door_str_idle (p q : Addr) (w : World) (hp : w.cell? p = some (.bool false)) :
  CallsD Tryz.prog 186 #[.pointer (some p), .pointer (some q)] .returning w fun e u' w' => e = .returned (.tuple #[]) ∧ u' = .returning ∧ w' = w := by
 refine callsD_of_wpS Tryz.func186 rfl fun c₀ cs hu => ?_
 apply wpS_seq
 apply wpS_region
 simp [wpOpsS, go_sem, recoverD, hu, Tryz.ntmps186, Exit.thenS]
 refine wpS_of_wp ?_
 change Code.wp _ _ _ { tmps := #[.pointer (some p), .pointer (some q), .nilIface, .nilIface, undef, undef, undef], defers := [] } _
 go_wp2
 cases c₀
 simp only at hu
 subst hu; exact ⟨rfl, _, rfl, _, results_none rfl _ _ _, rfl, rfl, rfl⟩
theorem try_str_ret (f : FuncId) (caps : Array Value) (w : World) (G : Value → World → World → Prop) (hf : ∀ w, (callFunc f caps).run Tryz.prog w = .ok (.enter f caps) w)
  (H : ∀ w1, Below w.heap.size w w1 → w1.heap.size = w.heap.size + 2 → Calls Tryz.prog f caps w1 fun e w2 => ∃ v, e = .returned v ∧ Past w.heap.size w1 w2 ∧ G v w1 w2) :
  Calls Tryz.prog 171 #[.func (.func f) #[] caps] w fun e w' => ∃ v, e = .returned (.tuple #[v, .nilIface]) ∧ ∃ w1 w2, Below w.heap.size w w1 ∧ w1.heap.size = w.heap.size + 2 ∧ G v w1 w2 ∧ Below w.heap.size w2 w' ∧ Aside w.heap.size w2 w' := by
 have hmf : ∀ (fn : Fn) (first cap : Array Value) (w : World), (Instr.makeFunc fn first cap).run Tryz.prog w = .ok (.func fn first cap) w := fun _ _ _ _ => rfl
 have hN : ((w.alloc (.cells #[.nilIface] 48)).alloc (.cells #[.bool true] 4)).heap[w.heap.size]? = some (.cells #[.nilIface] 48) := try_new0 _ _ _; have hM : ((w.alloc (.cells #[.nilIface] 48)).alloc (.cells #[.bool true] 4)).heap[w.heap.size + 1]? = some (.cells #[.bool true] 4) := try_new1 _ _ _; have hB : Below w.heap.size w ((w.alloc (.cells #[.nilIface] 48)).alloc (.cells #[.bool true] 4)) := ((Below.refl _ _).alloc (Nat.le_refl _) _).alloc (by simp) _; have hS : ((w.alloc (.cells #[.nilIface] 48)).alloc (.cells #[.bool true] 4)).heap.size = w.heap.size + 2 := by simp
 obtain ⟨HH, HN, HM, HB, HS⟩ := hD5 H hN hM hB hS; clear H hN hM hB hS; go_enter_defers Tryz.func171, Tryz.ntmps171
 go_wp2
 with_reducible refine (HH.out _ HB.out HS.out).mono ?_
 rintro e w2 ⟨v, rfl, hP, hG⟩; have e0 : w2.heap[w.heap.size]? = some (.cells #[.nilIface] 48) := (hP.2 _ (by omega) (by rw [HS.out]; omega)).trans HN.out; have e1 : w2.heap[w.heap.size + 1]? = some (.cells #[.bool true] 4) := (hP.2 _ (by omega) (by rw [HS.out]; omega)).trans HM.out; have c0 : w2.cell? ⟨w.heap.size, 0, none⟩ = some .nilIface := by simp [World.cell?, e0]
 have c1 : w2.cell? ⟨w.heap.size + 1, 0, none⟩ = some (.bool true) := by simp [World.cell?, e1]
 have z0 : w2.frozen? ⟨w.heap.size, 0, none⟩ = false := by simp [World.frozen?, e0]
 have z1 : w2.frozen? ⟨w.heap.size + 1, 0, none⟩ = false := by simp [World.frozen?, e1]
 clear e0 e1; go_wp2; refine leaves_cons (f := 186) (args := #[.pointer (some ⟨w.heap.size + 1, 0, none⟩), .pointer (some ⟨w.heap.size, 0, none⟩)]) (by simp) (by simp [go_sem]) ?_
 refine (door_str_idle _ _ _ (by simp [go_sem, c1])).mono ?_
 rintro e u' w3 ⟨rfl, rfl, rfl⟩
 simp [Leaves, settle, results, Tryz.results171, go_sem, c0]
 have hb := ((Below.refl w.heap.size w2).setCell (show w.heap.size ≤ w.heap.size + 1 by omega) (.bool false) (p := ⟨w.heap.size + 1, 0, none⟩)).setCell (show w.heap.size ≤ w.heap.size by omega) (.nilIface) (p := ⟨w.heap.size, 0, none⟩); exact ⟨_, HB.out, HS.out, _, hG, hb, Aside.below hb fun b h0 h1 => by rw [hsO _ _ _ _ h0, hsO _ _ _ _ h1]⟩
theorem try_str_panic (ads : List Addr) (k : Nat) (hk : k < ads.length) (f : FuncId) (caps : Array Value) (w : World) (G : World → World → Prop) (hf : ∀ w, (callFunc f caps).run Tryz.prog w = .ok (.enter f caps) w)
  (H : ∀ w1, Below w.heap.size w w1 → w1.heap.size = w.heap.size + 2 → Calls Tryz.prog f caps w1 fun e w2 => e = .panicked [{ v := snt ads[k], recovered := false }] ∧ St ads w2 ∧ Past w.heap.size w1 w2 ∧ G w1 w2) :
  Calls Tryz.prog 171 #[.func (.func f) #[] caps] w fun e w' => e = .returned (.tuple #[.string ⟨#[]⟩, snt ads[k]]) ∧ Mid w G w' := by
 have hmf : ∀ (fn : Fn) (first cap : Array Value) (w : World), (Instr.makeFunc fn first cap).run Tryz.prog w = .ok (.func fn first cap) w := fun _ _ _ _ => rfl
 have hN : ((w.alloc (.cells #[.nilIface] 48)).alloc (.cells #[.bool true] 4)).heap[w.heap.size]? = some (.cells #[.nilIface] 48) := try_new0 _ _ _; have hM : ((w.alloc (.cells #[.nilIface] 48)).alloc (.cells #[.bool true] 4)).heap[w.heap.size + 1]? = some (.cells #[.bool true] 4) := try_new1 _ _ _; have hB : Below w.heap.size w ((w.alloc (.cells #[.nilIface] 48)).alloc (.cells #[.bool true] 4)) := ((Below.refl _ _).alloc (Nat.le_refl _) _).alloc (by simp) _; have hS : ((w.alloc (.cells #[.nilIface] 48)).alloc (.cells #[.bool true] 4)).heap.size = w.heap.size + 2 := by simp
 obtain ⟨HH, HN, HM, HB, HS⟩ := hD5 H hN hM hB hS; clear H hN hM hB hS; go_enter_defers Tryz.func171, Tryz.ntmps171
 go_wp2
 with_reducible refine (HH.out _ HB.out HS.out).mono ?_
 rintro e w2 ⟨rfl, hV, hP, hG⟩; have e0 : w2.heap[w.heap.size]? = some (.cells #[.nilIface] 48) := (hP.2 _ (by omega) (by rw [HS.out]; omega)).trans HN.out; have e1 : w2.heap[w.heap.size + 1]? = some (.cells #[.bool true] 4) := (hP.2 _ (by omega) (by rw [HS.out]; omega)).trans HM.out; have c0 : w2.cell? ⟨w.heap.size, 0, none⟩ = some .nilIface := by simp [World.cell?, e0]
 have c1 : w2.cell? ⟨w.heap.size + 1, 0, none⟩ = some (.bool true) := by simp [World.cell?, e1]
 have z0 : w2.frozen? ⟨w.heap.size, 0, none⟩ = false := by simp [World.frozen?, e0]
 have hd := door_str_panic ads ⟨w.heap.size + 1, 0, none⟩ ⟨w.heap.size, 0, none⟩ .nilIface k hk [] w2 hV c1 c0 z0; have hlt : w.heap.size < w2.heap.size := old_of_cell c0; clear e0 e1; refine leaves_cons (f := 186) (args := #[.pointer (some ⟨w.heap.size + 1, 0, none⟩), .pointer (some ⟨w.heap.size, 0, none⟩)]) (by simp) (by simp [go_sem]) ?_
 refine hd.mono ?_
 rintro e u' w3 ⟨rfl, rfl, w4, hw4, rfl⟩; have c4 : w4.cell? ⟨w.heap.size, 0, none⟩ = some .nilIface := by rw [Below.cell hw4 hlt]; exact c0
 simp [Leaves, settle, results, Tryz.results171, go_sem, c4]
 exact ⟨_, _, HB.out, HS.out, hG, (Below.mono hw4 (by omega)).setCell (show w.heap.size ≤ w.heap.size by omega) _⟩
theorem try_str_val (f : FuncId) (caps : Array Value) (s : ByteArray) (w : World) (hf : ∀ w, (callFunc f caps).run Tryz.prog w = .ok (.enter f caps) w)
  (H : ∀ w1, Kp w w1 → Calls Tryz.prog f caps w1 fun e w2 => e = .returned (.string s) ∧ Kp w1 w2) :
  Calls Tryz.prog 171 #[.func (.func f) #[] caps] w fun e w' => e = .returned (.tuple #[.string s, .nilIface]) ∧ Kp w w' := by
 refine (try_str_ret f caps w (fun u w1 w2 => u = .string s ∧ Kp w1 w2) hf fun w1 hb _ => ?_).mono ?_
 ·refine (H w1 hb).mono ?_
  rintro e w2 ⟨rfl, hk⟩; exact ⟨_, rfl, past_of hk, rfl, hk⟩
 ·rintro e w' ⟨u, rfl, w1, w2, hb, _, ⟨rfl, hk⟩, hb2, _⟩; exact ⟨rfl, Below.trans (kT hb hk) hb2⟩
theorem try_str_err (ads : List Addr) (k : Nat) (hk : k < ads.length) (f : FuncId) (caps : Array Value) (w : World) (V : St ads w) (hf : ∀ w, (callFunc f caps).run Tryz.prog w = .ok (.enter f caps) w)
  (H : ∀ w1, Kp w w1 → Calls Tryz.prog f caps w1 fun e w2 => e = .panicked [{ v := snt ads[k], recovered := false }] ∧ Kp w1 w2) :
  Calls Tryz.prog 171 #[.func (.func f) #[] caps] w fun e w' => e = .returned (.tuple #[.string ⟨#[]⟩, snt ads[k]]) ∧ Kp w w' := by
 refine (try_str_panic ads k hk f caps w (fun w1 w2 => Kp w1 w2) hf fun w1 hb _ => ?_).mono ?_
 ·refine (H w1 hb).mono ?_
  rintro e w2 ⟨rfl, hk2⟩; exact ⟨rfl, V.below (kT hb hk2), past_of hk2, hk2⟩
 ·rintro e w' ⟨rfl, w1, w2, hb, _, hk2, hb2⟩; exact ⟨rfl, Below.trans (kT hb hk2) hb2⟩
def wrV (a : Addr) (ps : List (Int × Int)) (ns : List Int) (m : Nat) : Value :=
 if okU ps ns m = true then .tuple #[.string (strOfNums (wrU ps ns m)), .nilIface] else .tuple #[.string ⟨#[]⟩, snt a]
theorem write_any (ads : List Addr) (h0 : 0 < ads.length) (ps : List (Int × Int)) (ns : List Int) (m : Nat) (hm : ps.length = m) (hm2 : ns.length = m) (hm3 : m ≤ 3) (hb : ∀ j, j < m → (ps.getD j (0, 0)).2 ≤ 1000000)
  (v : Value) (gn cn : Nat) (w : World) (V : St ads w) (T : Tab w) (hp : PlC v ps w) (hn : ∀ j, j < m → w.cell? ⟨gn, j, none⟩ = some (.int .i64 (ns.getD j 0))) :
  Calls Tryz.prog 142 #[v, .slice (some ⟨gn, 0, none⟩) m cn] w fun e w' => e = .returned (wrV (ads[0]'h0) ps ns m) ∧ Kp w w' := by
 have hmf : ∀ (fn : Fn) (first cap : Array Value) (w : World), (Instr.makeFunc fn first cap).run Tryz.prog w = .ok (.func fn first cap) w := fun _ _ _ _ => rfl
 obtain ⟨gp, cp, rfl, hpc⟩ := hp; rw [hm] at hpc ⊢; have k1 := kA w (.cells #[.slice (some ⟨gp, 0, none⟩) m cp] 204); have k2 := kT k1 (kA (w.alloc (.cells #[.slice (some ⟨gp, 0, none⟩) m cp] 204)) (.cells #[.slice (some ⟨gn, 0, none⟩) m cn] 144)); have c0 := kZ (kA (w.alloc (.cells #[.slice (some ⟨gp, 0, none⟩) m cp] 204)) (.cells #[.slice (some ⟨gn, 0, none⟩) m cn] 144)) (box_cell w (.slice (some ⟨gp, 0, none⟩) m cp) 204); have c1 := box_cell (w.alloc (.cells #[.slice (some ⟨gp, 0, none⟩) m cp] 204)) (.slice (some ⟨gn, 0, none⟩) m cn) 144; rw [show (w.alloc (.cells #[.slice (some ⟨gp, 0, none⟩) m cp] 204)).heap.size = w.heap.size + 1 by simp] at c1; have HB := fun w1 (hk : Kp ((w.alloc (.cells #[.slice (some ⟨gp, 0, none⟩) m cp] 204)).alloc (.cells #[.slice (some ⟨gn, 0, none⟩) m cn] 144)) w1) =>
  write1_any ads h0 ps ns m hm hm2 hm3 hb w.heap.size (w.heap.size + 1) gp cp gn cn w1 (V.below (kT k2 hk)) (T.kp (kT k2 hk)) (kZ hk c0) (kZ hk c1)
   (fun j hj => ⟨kZ (kT k2 hk) (hpc j (by omega)).1, kZ (kT k2 hk) (hpc j (by omega)).2⟩) (fun j hj => kZ (kT k2 hk) (hn j hj))
 have K2 := hD k2
 by_cases hok : okU ps ns m = true
 ·have e1 : wrV (ads[0]'h0) ps ns m = .tuple #[.string (strOfNums (wrU ps ns m)), .nilIface] := if_pos hok; rw [e1]; have HT := hD (try_str_val 172 #[.pointer (some ⟨w.heap.size, 0, none⟩), .pointer (some ⟨w.heap.size + 1, 0, none⟩)] (strOfNums (wrU ps ns m)) ((w.alloc (.cells #[.slice (some ⟨gp, 0, none⟩) m cp] 204)).alloc (.cells #[.slice (some ⟨gn, 0, none⟩) m cn] 144)) (by intro w; simp [go_sem])
   (fun w1 hk => (HB w1 hk).mono (by
    rintro e w2 ⟨⟨_, rfl⟩ | ⟨h, _⟩, hk2⟩
    ·exact ⟨rfl, hk2⟩
    ·rw [hok] at h; cases h)))
  clear HB c0 c1 k1 k2 hpc hn V T hb e1 hok; go_enter Tryz.func142, Tryz.ntmps142; go_wp2_with (go_at_call 171; (with_reducible refine HT.out.mono ?_); rintro e w' ⟨rfl, hk⟩; have HK := hD (kT K2.out hk); clear hk)
  go_ret2
  exact ⟨rfl, HK.out⟩
 ·have e1 : wrV (ads[0]'h0) ps ns m = .tuple #[.string ⟨#[]⟩, snt (ads[0]'h0)] := if_neg hok; rw [e1]; have HT := hD (try_str_err ads 0 h0 172 #[.pointer (some ⟨w.heap.size, 0, none⟩), .pointer (some ⟨w.heap.size + 1, 0, none⟩)] ((w.alloc (.cells #[.slice (some ⟨gp, 0, none⟩) m cp] 204)).alloc (.cells #[.slice (some ⟨gn, 0, none⟩) m cn] 144)) (V.below k2) (by intro w; simp [go_sem])
   (fun w1 hk => (HB w1 hk).mono (by
    rintro e w2 ⟨⟨h, _⟩ | ⟨_, rfl⟩, hk2⟩
    ·exact absurd h hok
    ·exact ⟨rfl, hk2⟩)))
  clear HB c0 c1 k1 k2 hpc hn V T hb e1 hok; go_enter Tryz.func142, Tryz.ntmps142; go_wp2_with (go_at_call 171; (with_reducible refine HT.out.mono ?_); rintro e w' ⟨rfl, hk⟩; have HK := hD (kT K2.out hk); clear hk)
  go_ret2
  exact ⟨rfl, HK.out⟩
theorem errI_one (ads : List Addr) (h0 : 0 < ads.length) : errI ads 1 = snt (ads[0]'h0) := by
 unfold errI; rw [if_neg (by decide), show ((1 : Int) - 1).toNat = 0 from rfl, List.getElem?_eq_getElem h0]
theorem act_wr (ads : List Addr) (h0 : 0 < ads.length) (n s : Int) : wrV (ads[0]'h0) actL [n, s] 2 = textR ads (actO n s) := by
 unfold wrV actO; have e : okU actL [n, s] 2 = rightA n s := by simp [okU, actL, rightA, Bool.and_assoc]
 rw [e]
 split
 ·simp [textR, wrU, actL, actT]
 ·simp only [textR]; rw [errI_one ads h0]
theorem textR_form (ads : List Addr) (o : Option (List Int)) : ∃ s e, textR ads o = .tuple #[.string s, e] := by
 cases o <;> exact ⟨_, _, rfl⟩
theorem ints_cells (w : World) (ns : List Int) (j : Nat) (hj : j < ns.length) : (w.alloc (.cells (ns.map (Value.int .i64)).toArray 3)).cell? ⟨w.heap.size, j, none⟩ = some (.int .i64 (ns.getD j 0)) := by
 have hr := (mH w (.cells (ns.map (Value.int .i64)).toArray 3))
 unfold World.cell?; dsimp only; rw [hr]
 simp [List.getD, hj]
theorem act_any (ads : List Addr) (w : World) (V : St ads w) (T : Tab w) (n s : Int) :
  Calls Tryz.prog 105 #[.agg #[n, s]] w fun e w' => e = .returned (textR ads (actO n s)) ∧ Kp w w' := by
 have h0 : 0 < ads.length := by rw [V.len]; decide
 have HWR := fun v gn w1 (hk : Kp w w1) (hp : PlC v actL w1) (hn : ∀ j, j < 2 → w1.cell? ⟨gn, j, none⟩ = some (.int .i64 ([n, s].getD j 0))) => write_any ads h0 actL [n, s] 2 rfl rfl (by decide) (by decide) v gn 2 w1 (V.below hk) (T.kp hk) hp hn
 rw [act_wr ads h0] at HWR; obtain ⟨tx, er, htx⟩ := textR_form ads (actO n s); rw [htx] at HWR ⊢; have HWR := hD HWR; clear htx V T; have k0 := kA w (.cells #[n, s] 24); have hr := (mH w (.cells #[n, s] 24))
 go_enter Tryz.func105, Tryz.ntmps105; go_wp2; obtain ⟨w0, hw0⟩ : ∃ x, w.alloc (.cells #[n, s] 24) = x := ⟨_, rfl⟩
 obtain ⟨p0, hp0⟩ : ∃ x, w.heap.size = x := ⟨_, rfl⟩
 rw [hw0] at k0 hr ⊢; rw [hp0] at hr ⊢; have b0 : w0.cell? ⟨p0, 0, none⟩ = some (.int .i64 n) := by unfold World.cell?; dsimp only; rw [hr]; rfl
 have b1 : w0.cell? ⟨p0, 1, none⟩ = some (.int .i64 s) := by unfold World.cell?; dsimp only; rw [hr]; rfl
 have K0 := hD k0; clear hr hw0 k0 hp0; refine rgW (fun w' => Kp w0 w') ?_ fun hH => ?_
 ·exact (Kp.refl w0).drew
 refine tkP 1 ?_
 go_simp; refine tkP 2 ?_ (y := by intro w hZ; have q := kZ hZ b0; go_simp; try rfl)
 go_simp; refine tkP 3 ?_
 go_simp; refine tkP 4 ?_ (y := by intro w hZ; have q := kZ hZ b1; go_simp; try rfl)
 go_simp; refine wpAnyH_ready (rs := [0, 5]) (by kernel_rfl) (by simp) ?_
 refine aC (fun K hK => ?_) (aC (fun K hK => ?_) aN0)
 ·go_simp; go_wp2_with (go_at_call 143; (with_reducible refine (actPl_any _).mono ?_); rintro e w1 ⟨v, rfl, hp, hk⟩; have HP0 := hD hp; have K1 := hD (kT hH hk); clear hp hk)
  refine hK.out _ _ (K1.out) fun hH => ?_
  clear hK K; refine rdW 5 fun K hK => ?_
  go_simp; refine hK.out _ _ (kT K1.out (kA _ _)) fun hH => ?_
  clear hK K; have HP := hD (HP0.out.kp (kA w1 (.cells #[n, s] 3))); have KK := hD (kT K1.out (kA w1 (.cells #[n, s] 3))); have HN := hD (show ∀ j, j < 2 → (w1.alloc (.cells #[n, s] 3)).cell? ⟨w1.heap.size, j, none⟩ = some (.int .i64 ([n, s].getD j 0)) from ints_cells w1 [n, s]); refine rdW 6 fun K hK => ?_
  go_simp; go_wp2_with (go_at_call 142; (with_reducible refine (HWR.out _ _ _ (kT K0.out KK.out) HP.out HN.out).mono ?_); rintro e w3 ⟨rfl, hk⟩; have KK := hD (kT KK.out hk); clear hk)
  refine hK.out _ _ (KK.out) fun hH => ?_
  clear hK K; refine tkP 7 ?_
  go_simp; refine tkP 8 ?_
  go_simp; refine tkP 9 ?_
  go_simp; refine tkP 10 ?_
  go_simp; refine dnW ?_ _
  go_wp2; go_ret2
  exact ⟨rfl, kT K0.out hH⟩
 ·go_simp; refine hK.out _ _ (kT (Kp.refl w0).drew (kA _ _)) fun hH => ?_
  clear hK K; have HN0 := show ∀ j, j < 2 → (w0.drew.alloc (.cells #[n, s] 3)).cell? ⟨w0.heap.size, j, none⟩ = some (.int .i64 ([n, s].getD j 0)) from ints_cells w0.drew [n, s]
  refine rdW 0 fun K hK => ?_
  go_simp; go_wp2_with (go_at_call 143; (with_reducible refine (actPl_any _).mono ?_); rintro e w1 ⟨v, rfl, hp, hk⟩; have HP := hD hp; have KK := hD (kT hH hk); have HN := hD (fun j hj => kZ hk (HN0 j hj)); clear hp hk)
  refine hK.out _ _ (KK.out) fun hH => ?_
  clear hK K; refine rdW 6 fun K hK => ?_
  go_simp; go_wp2_with (go_at_call 142; (with_reducible refine (HWR.out _ _ _ (kT K0.out KK.out) HP.out HN.out).mono ?_); rintro e w3 ⟨rfl, hk⟩; have KK := hD (kT KK.out hk); clear hk)
  refine hK.out _ _ (KK.out) fun hH => ?_
  clear hK K; refine tkP 7 ?_
  go_simp; refine tkP 8 ?_
  go_simp; refine tkP 9 ?_
  go_simp; refine tkP 10 ?_
  go_simp; refine dnW ?_ _
  go_wp2; go_ret2
  exact ⟨rfl, kT K0.out hH⟩
theorem right_any (ads : List Addr) (w : World) (V : St ads w) (T : Tab w) (n s : Int) :
  Calls Tryz.prog 65 #[.agg #[n, s]] w fun e w' => e = .returned (.bool (rightA n s)) ∧ Kp w w' := by
 have h0 : 0 < ads.length := by rw [V.len]; decide
 have k0 := kA w (.cells #[n, s] 24); have HA := act_any ads _ (V.below k0) (T.kp k0) n s; have K0 := hD k0
 cases hr : rightA n s with
 | true =>
  have e1 : actO n s = some (actT n.toNat s.toNat) := by unfold actO; rw [if_pos hr]
  rw [e1] at HA; simp only [textR] at HA
  have HA := hD HA; clear V T k0 e1 hr; go_enter Tryz.func65, Tryz.ntmps65; go_wp2_with (go_at_call 105; (with_reducible refine HA.out.mono ?_); rintro e w1 ⟨rfl, hk⟩; have KK := hD (kT K0.out hk); clear hk)
  go_ret; exact ⟨rfl, KK.out⟩
 | false =>
  have e1 : actO n s = none := by unfold actO; rw [hr]; rfl
  rw [e1] at HA; simp only [textR] at HA
  rw [errI_one ads h0] at HA; obtain ⟨a0, ha0⟩ : ∃ a, ads[0]'h0 = a := ⟨_, rfl⟩
  rw [ha0] at HA; have HA := hD HA; clear V T k0 e1 hr ha0; go_enter Tryz.func65, Tryz.ntmps65; go_wp2_with (go_at_call 105; (with_reducible refine HA.out.mono ?_); rintro e w1 ⟨rfl, hk⟩; have KK := hD (kT K0.out hk); clear hk)
  go_ret; exact ⟨rfl, KK.out⟩
end Go.Proofs.YtncoofnhifcnhaaGreatDoor
