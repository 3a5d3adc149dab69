/- Parts of this proof (own work). -/
import Derived.Test.YtlmlmhmhgdjhnaaGreatDoorZa04
import Derived.Laws.StructEq
set_option maxRecDepth 100000
set_option maxHeartbeats 40000000
namespace Go.Proofs.YtlmlmhmhgdjhnaaGreatDoor
open Go.RowKit Go.Extern.Stop Go.Stop Go.Extern
theorem door_str_panic (ads : List Addr) (p q : Addr) (old : Value) (k : Nat) (hk : k < ads.length) (older : List PanicEntry) (w : World) (V : St ads w)
  (hp : w.cell? p = some (.bool true)) (hq : w.cell? q = some old) (hz : w.frozen? q = false) :
  CallsD Tryz.prog 213 #[.pointer (some p), .pointer (some q)] (.panicking ({ v := snt ads[k], recovered := false } :: older)) w fun e u' w' =>
   e = .returned (.tuple #[]) ∧ u' = .panicking ({ v := snt ads[k], recovered := true } :: older) ∧ ∃ w1, Kp w w1 ∧ w' = w1.setCell q (snt ads[k]) := by
 have hqb := old_of_cell hq; have hn := errorOf_any ads w V k hk; obtain ⟨a, ha⟩ : ∃ a, ads[k] = a := ⟨_, rfl⟩
 rw [ha] at hn ⊢; clear ha V; refine callsD_of_wpS Tryz.func213 rfl fun c₀ cs hu => ?_
 apply wpS_seq
 apply wpS_region
 simp [wpOpsS, go_sem, recoverD, hu, Tryz.ntmps213, Exit.thenS]
 refine wpS_of_wp ?_
 change Code.wp _ _ _ { tmps := #[.pointer (some p), .pointer (some q), snt a, snt a, undef, undef, undef], defers := [] } _
 obtain ⟨HN, HU⟩ := hD2 hn hu; clear hn hu; go_wp2_with (go_at_call 115; (with_reducible refine HN.out.mono ?_); rintro e w1 ⟨rfl, hw⟩; have hq1 : w1.cell? q = some old := (by rw [Below.cell hw hqb]; exact hq); have hz1 : w1.frozen? q = false := (by rw [Below.frozen hw hqb]; exact hz))
 exact ⟨rfl, _, rfl, _, results_none rfl _ _ _, rfl, rfl, w1, hw, rfl⟩
theorem door_str_idle (p q : Addr) (w : World) (hp : w.cell? p = some (.bool false)) :
  CallsD Tryz.prog 213 #[.pointer (some p), .pointer (some q)] .returning w fun e u' w' => e = .returned (.tuple #[]) ∧ u' = .returning ∧ w' = w := by
 refine callsD_of_wpS Tryz.func213 rfl fun c₀ cs hu => ?_
 apply wpS_seq
 apply wpS_region
 simp [wpOpsS, go_sem, recoverD, hu, Tryz.ntmps213, Exit.thenS]
 refine wpS_of_wp ?_
 change Code.wp _ _ _ { tmps := #[.pointer (some p), .pointer (some q), .nilIface, .nilIface, undef, undef, undef], defers := [] } _
 go_wp2
 cases c₀
 simp only at hu
 subst hu; exact ⟨rfl, _, rfl, _, results_none rfl _ _ _, rfl, rfl, rfl⟩
theorem try_str_ret (f : FuncId) (caps : Array Value) (w : World) (G : Value → World → World → Prop) (hf : ∀ w, (callFunc f caps).run Tryz.prog w = .ok (.enter f caps) w)
  (H : ∀ w1, Below w.heap.size w w1 → w1.heap.size = w.heap.size + 2 → Calls Tryz.prog f caps w1 fun e w2 => ∃ v, e = .returned v ∧ Past w.heap.size w1 w2 ∧ G v w1 w2) :
  Calls Tryz.prog 199 #[.func (.func f) #[] caps] w fun e w' => ∃ v, e = .returned (.tuple #[v, .nilIface]) ∧ ∃ w1 w2, Below w.heap.size w w1 ∧ w1.heap.size = w.heap.size + 2 ∧ G v w1 w2 ∧ Below w.heap.size w2 w' ∧ Aside w.heap.size w2 w' := by
 have hmf : ∀ (fn : Fn) (first cap : Array Value) (w : World), (Instr.makeFunc fn first cap).run Tryz.prog w = .ok (.func fn first cap) w := fun _ _ _ _ => rfl
 have hN : ((w.alloc (.cells #[.nilIface] 39)).alloc (.cells #[.bool true] 4)).heap[w.heap.size]? = some (.cells #[.nilIface] 39) := try_new0 _ _ _; have hM : ((w.alloc (.cells #[.nilIface] 39)).alloc (.cells #[.bool true] 4)).heap[w.heap.size + 1]? = some (.cells #[.bool true] 4) := try_new1 _ _ _; have hB : Below w.heap.size w ((w.alloc (.cells #[.nilIface] 39)).alloc (.cells #[.bool true] 4)) := ((Below.refl _ _).alloc (Nat.le_refl _) _).alloc (by simp) _; have hS : ((w.alloc (.cells #[.nilIface] 39)).alloc (.cells #[.bool true] 4)).heap.size = w.heap.size + 2 := by simp
 obtain ⟨HH, HN, HM, HB, HS⟩ := hD5 H hN hM hB hS; clear H hN hM hB hS; go_enter_defers Tryz.func199, Tryz.ntmps199
 go_wp2
 with_reducible refine (HH.out _ HB.out HS.out).mono ?_
 rintro e w2 ⟨v, rfl, hP, hG⟩; have e0 : w2.heap[w.heap.size]? = some (.cells #[.nilIface] 39) := (hP.2 _ (by omega) (by rw [HS.out]; omega)).trans HN.out; have e1 : w2.heap[w.heap.size + 1]? = some (.cells #[.bool true] 4) := (hP.2 _ (by omega) (by rw [HS.out]; omega)).trans HM.out; have c0 : w2.cell? ⟨w.heap.size, 0, none⟩ = some .nilIface := by simp [World.cell?, e0]
 have c1 : w2.cell? ⟨w.heap.size + 1, 0, none⟩ = some (.bool true) := by simp [World.cell?, e1]
 have z0 : w2.frozen? ⟨w.heap.size, 0, none⟩ = false := by simp [World.frozen?, e0]
 have z1 : w2.frozen? ⟨w.heap.size + 1, 0, none⟩ = false := by simp [World.frozen?, e1]
 clear e0 e1; go_wp2; refine leaves_cons (f := 213) (args := #[.pointer (some ⟨w.heap.size + 1, 0, none⟩), .pointer (some ⟨w.heap.size, 0, none⟩)]) (by simp) (by simp [go_sem]) ?_
 refine (door_str_idle _ _ _ (by simp [go_sem, c1])).mono ?_
 rintro e u' w3 ⟨rfl, rfl, rfl⟩
 simp [Leaves, settle, results, Tryz.results199, go_sem, c0]
 have hb := ((Below.refl w.heap.size w2).setCell (show w.heap.size ≤ w.heap.size + 1 by omega) (.bool false) (p := ⟨w.heap.size + 1, 0, none⟩)).setCell (show w.heap.size ≤ w.heap.size by omega) (.nilIface) (p := ⟨w.heap.size, 0, none⟩); exact ⟨_, HB.out, HS.out, _, hG, hb, Aside.below hb fun b h0 h1 => by rw [hsO _ _ _ _ h0, hsO _ _ _ _ h1]⟩
theorem try_str_panic (ads : List Addr) (k : Nat) (hk : k < ads.length) (f : FuncId) (caps : Array Value) (w : World) (G : World → World → Prop) (hf : ∀ w, (callFunc f caps).run Tryz.prog w = .ok (.enter f caps) w)
  (H : ∀ w1, Below w.heap.size w w1 → w1.heap.size = w.heap.size + 2 → Calls Tryz.prog f caps w1 fun e w2 => e = .panicked [{ v := snt ads[k], recovered := false }] ∧ St ads w2 ∧ Past w.heap.size w1 w2 ∧ G w1 w2) :
  Calls Tryz.prog 199 #[.func (.func f) #[] caps] w fun e w' => e = .returned (.tuple #[.string ⟨#[]⟩, snt ads[k]]) ∧ Mid w G w' := by
 have hmf : ∀ (fn : Fn) (first cap : Array Value) (w : World), (Instr.makeFunc fn first cap).run Tryz.prog w = .ok (.func fn first cap) w := fun _ _ _ _ => rfl
 have hN : ((w.alloc (.cells #[.nilIface] 39)).alloc (.cells #[.bool true] 4)).heap[w.heap.size]? = some (.cells #[.nilIface] 39) := try_new0 _ _ _; have hM : ((w.alloc (.cells #[.nilIface] 39)).alloc (.cells #[.bool true] 4)).heap[w.heap.size + 1]? = some (.cells #[.bool true] 4) := try_new1 _ _ _; have hB : Below w.heap.size w ((w.alloc (.cells #[.nilIface] 39)).alloc (.cells #[.bool true] 4)) := ((Below.refl _ _).alloc (Nat.le_refl _) _).alloc (by simp) _; have hS : ((w.alloc (.cells #[.nilIface] 39)).alloc (.cells #[.bool true] 4)).heap.size = w.heap.size + 2 := by simp
 obtain ⟨HH, HN, HM, HB, HS⟩ := hD5 H hN hM hB hS; clear H hN hM hB hS; go_enter_defers Tryz.func199, Tryz.ntmps199
 go_wp2
 with_reducible refine (HH.out _ HB.out HS.out).mono ?_
 rintro e w2 ⟨rfl, hV, hP, hG⟩; have e0 : w2.heap[w.heap.size]? = some (.cells #[.nilIface] 39) := (hP.2 _ (by omega) (by rw [HS.out]; omega)).trans HN.out; have e1 : w2.heap[w.heap.size + 1]? = some (.cells #[.bool true] 4) := (hP.2 _ (by omega) (by rw [HS.out]; omega)).trans HM.out; have c0 : w2.cell? ⟨w.heap.size, 0, none⟩ = some .nilIface := by simp [World.cell?, e0]
 have c1 : w2.cell? ⟨w.heap.size + 1, 0, none⟩ = some (.bool true) := by simp [World.cell?, e1]
 have z0 : w2.frozen? ⟨w.heap.size, 0, none⟩ = false := by simp [World.frozen?, e0]
 have hd := door_str_panic ads ⟨w.heap.size + 1, 0, none⟩ ⟨w.heap.size, 0, none⟩ .nilIface k hk [] w2 hV c1 c0 z0; have hlt : w.heap.size < w2.heap.size := old_of_cell c0; clear e0 e1; refine leaves_cons (f := 213) (args := #[.pointer (some ⟨w.heap.size + 1, 0, none⟩), .pointer (some ⟨w.heap.size, 0, none⟩)]) (by simp) (by simp [go_sem]) ?_
 refine hd.mono ?_
 rintro e u' w3 ⟨rfl, rfl, w4, hw4, rfl⟩; have c4 : w4.cell? ⟨w.heap.size, 0, none⟩ = some .nilIface := by rw [Below.cell hw4 hlt]; exact c0
 simp [Leaves, settle, results, Tryz.results199, go_sem, c4]
 exact ⟨_, _, HB.out, HS.out, hG, (Below.mono hw4 (by omega)).setCell (show w.heap.size ≤ w.heap.size by omega) _⟩
theorem try_str_val (f : FuncId) (caps : Array Value) (s : ByteArray) (w : World) (hf : ∀ w, (callFunc f caps).run Tryz.prog w = .ok (.enter f caps) w)
  (H : ∀ w1, Kp w w1 → Calls Tryz.prog f caps w1 fun e w2 => e = .returned (.string s) ∧ Kp w1 w2) :
  Calls Tryz.prog 199 #[.func (.func f) #[] caps] w fun e w' => e = .returned (.tuple #[.string s, .nilIface]) ∧ Kp w w' := by
 refine (try_str_ret f caps w (fun u w1 w2 => u = .string s ∧ Kp w1 w2) hf fun w1 hb _ => ?_).mono ?_
 ·refine (H w1 hb).mono ?_
  rintro e w2 ⟨rfl, hk⟩; exact ⟨_, rfl, past_of hk, rfl, hk⟩
 ·rintro e w' ⟨u, rfl, w1, w2, hb, _, ⟨rfl, hk⟩, hb2, _⟩; exact ⟨rfl, Below.trans (kT hb hk) hb2⟩
theorem try_str_err (ads : List Addr) (k : Nat) (hk : k < ads.length) (f : FuncId) (caps : Array Value) (w : World) (V : St ads w) (hf : ∀ w, (callFunc f caps).run Tryz.prog w = .ok (.enter f caps) w)
  (H : ∀ w1, Kp w w1 → Calls Tryz.prog f caps w1 fun e w2 => e = .panicked [{ v := snt ads[k], recovered := false }] ∧ Kp w1 w2) :
  Calls Tryz.prog 199 #[.func (.func f) #[] caps] w fun e w' => e = .returned (.tuple #[.string ⟨#[]⟩, snt ads[k]]) ∧ Kp w w' := by
 refine (try_str_panic ads k hk f caps w (fun w1 w2 => Kp w1 w2) hf fun w1 hb _ => ?_).mono ?_
 ·refine (H w1 hb).mono ?_
  rintro e w2 ⟨rfl, hk2⟩; exact ⟨rfl, V.below (kT hb hk2), past_of hk2, hk2⟩
 ·rintro e w' ⟨rfl, w1, w2, hb, _, hk2, hb2⟩; exact ⟨rfl, Below.trans (kT hb hk2) hb2⟩
open Go.RowKit Go.ChangeShapes Go.WideShapes
def wrV (a : Addr) (ps : List (Int × Int)) (ns : List Int) (m : Nat) : Value :=
 if okU ps ns m = true then .tuple #[.string (strOfNums (wrU ps ns m)), .nilIface] else .tuple #[.string ⟨#[]⟩, snt a]
theorem write_any (ads : List Addr) (h0 : 0 < ads.length) (ps : List (Int × Int)) (ns : List Int) (m : Nat) (hm : ps.length = m) (hm2 : ns.length = m) (hm3 : m ≤ 3) (hb : ∀ j, j < m → (ps.getD j (0, 0)).2 ≤ 1000000)
  (v : Value) (gn cn : Nat) (w : World) (V : St ads w) (T : Tab w) (hp : PlC v ps w) (hn : ∀ j, j < m → w.cell? ⟨gn, j, none⟩ = some (.int .i64 (ns.getD j 0))) :
  Calls Tryz.prog 174 #[v, .slice (some ⟨gn, 0, none⟩) m cn] w fun e w' => e = .returned (wrV (ads[0]'h0) ps ns m) ∧ Kp w w' := by
 have hmf : ∀ (fn : Fn) (first cap : Array Value) (w : World), (Instr.makeFunc fn first cap).run Tryz.prog w = .ok (.func fn first cap) w := fun _ _ _ _ => rfl
 obtain ⟨gp, cp, rfl, hpc⟩ := hp; rw [hm] at hpc ⊢; have k1 := kA w (.cells #[.slice (some ⟨gp, 0, none⟩) m cp] 242); have k2 := kT k1 (kA (w.alloc (.cells #[.slice (some ⟨gp, 0, none⟩) m cp] 242)) (.cells #[.slice (some ⟨gn, 0, none⟩) m cn] 184)); have c0 := kZ (kA (w.alloc (.cells #[.slice (some ⟨gp, 0, none⟩) m cp] 242)) (.cells #[.slice (some ⟨gn, 0, none⟩) m cn] 184)) (box_cell w (.slice (some ⟨gp, 0, none⟩) m cp) 242); have c1 := box_cell (w.alloc (.cells #[.slice (some ⟨gp, 0, none⟩) m cp] 242)) (.slice (some ⟨gn, 0, none⟩) m cn) 184; rw [show (w.alloc (.cells #[.slice (some ⟨gp, 0, none⟩) m cp] 242)).heap.size = w.heap.size + 1 by simp] at c1; have HB := fun w1 (hk : Kp ((w.alloc (.cells #[.slice (some ⟨gp, 0, none⟩) m cp] 242)).alloc (.cells #[.slice (some ⟨gn, 0, none⟩) m cn] 184)) w1) =>
  write1_any ads h0 ps ns m hm hm2 hm3 hb w.heap.size (w.heap.size + 1) gp cp gn cn w1 (V.below (kT k2 hk)) (T.kp (kT k2 hk)) (kZ hk c0) (kZ hk c1)
   (fun j hj => ⟨kZ (kT k2 hk) (hpc j (by omega)).1, kZ (kT k2 hk) (hpc j (by omega)).2⟩) (fun j hj => kZ (kT k2 hk) (hn j hj))
 have K2 := hD k2
 by_cases hok : okU ps ns m = true
 ·have e1 : wrV (ads[0]'h0) ps ns m = .tuple #[.string (strOfNums (wrU ps ns m)), .nilIface] := if_pos hok; rw [e1]; have HT := hD (try_str_val 200 #[.pointer (some ⟨w.heap.size, 0, none⟩), .pointer (some ⟨w.heap.size + 1, 0, none⟩)] (strOfNums (wrU ps ns m)) ((w.alloc (.cells #[.slice (some ⟨gp, 0, none⟩) m cp] 242)).alloc (.cells #[.slice (some ⟨gn, 0, none⟩) m cn] 184)) (by intro w; simp [go_sem])
   (fun w1 hk => (HB w1 hk).mono (by
    rintro e w2 ⟨⟨_, rfl⟩ | ⟨h, _⟩, hk2⟩
    ·exact ⟨rfl, hk2⟩
    ·rw [hok] at h; cases h)))
  clear HB c0 c1 k1 k2 hpc hn V T hb e1 hok; go_enter Tryz.func174, Tryz.ntmps174; go_wp2_with (go_at_call 199; (with_reducible refine HT.out.mono ?_); rintro e w' ⟨rfl, hk⟩; have HK := hD (kT K2.out hk); clear hk)
  go_ret2
  exact ⟨rfl, HK.out⟩
 ·have e1 : wrV (ads[0]'h0) ps ns m = .tuple #[.string ⟨#[]⟩, snt (ads[0]'h0)] := if_neg hok; rw [e1]; have HT := hD (try_str_err ads 0 h0 200 #[.pointer (some ⟨w.heap.size, 0, none⟩), .pointer (some ⟨w.heap.size + 1, 0, none⟩)] ((w.alloc (.cells #[.slice (some ⟨gp, 0, none⟩) m cp] 242)).alloc (.cells #[.slice (some ⟨gn, 0, none⟩) m cn] 184)) (V.below k2) (by intro w; simp [go_sem])
   (fun w1 hk => (HB w1 hk).mono (by
    rintro e w2 ⟨⟨h, _⟩ | ⟨_, rfl⟩, hk2⟩
    ·exact absurd h hok
    ·exact ⟨rfl, hk2⟩)))
  clear HB c0 c1 k1 k2 hpc hn V T hb e1 hok; go_enter Tryz.func174, Tryz.ntmps174; go_wp2_with (go_at_call 199; (with_reducible refine HT.out.mono ?_); rintro e w' ⟨rfl, hk⟩; have HK := hD (kT K2.out hk); clear hk)
  go_ret2
  exact ⟨rfl, HK.out⟩
theorem errI_one (ads : List Addr) (h0 : 0 < ads.length) : errI ads 1 = snt (ads[0]'h0) := by
 unfold errI; rw [if_neg (by decide), show ((1 : Int) - 1).toNat = 0 from rfl, List.getElem?_eq_getElem h0]
theorem act_wr (ads : List Addr) (h0 : 0 < ads.length) (n s : Int) : wrV (ads[0]'h0) actL [n, s] 2 = textR ads (actO n s) := by
 unfold wrV actO; have e : okU actL [n, s] 2 = rightA n s := by simp [okU, actL, rightA, Bool.and_assoc]
 rw [e]
 split
 ·simp [textR, wrU, actL, actT]
 ·simp only [textR]; rw [errI_one ads h0]
theorem textR_form (ads : List Addr) (o : Option (List Int)) : ∃ s e, textR ads o = .tuple #[.string s, e] := by
 cases o <;> exact ⟨_, _, rfl⟩
theorem ints_cells (w : World) (ns : List Int) (j : Nat) (hj : j < ns.length) : (w.alloc (.cells (ns.map (Value.int .i64)).toArray 3)).cell? ⟨w.heap.size, j, none⟩ = some (.int .i64 (ns.getD j 0)) := by
 have hr := (mH w (.cells (ns.map (Value.int .i64)).toArray 3))
 unfold World.cell?; dsimp only; rw [hr]
 simp [List.getD, hj]
theorem act_any (ads : List Addr) (w : World) (V : St ads w) (T : Tab w) (n s : Int) :
  Calls Tryz.prog 135 #[.agg #[n, s]] w fun e w' => e = .returned (textR ads (actO n s)) ∧ Kp w w' := by
 have h0 : 0 < ads.length := by rw [V.len]; decide
 have HWR := fun v gn w1 (hk : Kp w w1) (hp : PlC v actL w1) (hn : ∀ j, j < 2 → w1.cell? ⟨gn, j, none⟩ = some (.int .i64 ([n, s].getD j 0))) => write_any ads h0 actL [n, s] 2 rfl rfl (by decide) (by decide) v gn 2 w1 (V.below hk) (T.kp hk) hp hn
 rw [act_wr ads h0] at HWR; obtain ⟨tx, er, htx⟩ := textR_form ads (actO n s); rw [htx] at HWR ⊢; have HWR := hD HWR; clear htx V T; have k0 := kA w (.cells #[n, s] 25); have hr := (mH w (.cells #[n, s] 25))
 go_enter Tryz.func135, Tryz.ntmps135; go_wp2; obtain ⟨w0, hw0⟩ : ∃ x, w.alloc (.cells #[n, s] 25) = x := ⟨_, rfl⟩
 obtain ⟨p0, hp0⟩ : ∃ x, w.heap.size = x := ⟨_, rfl⟩
 rw [hw0] at k0 hr ⊢; rw [hp0] at hr ⊢; have b0 : w0.cell? ⟨p0, 0, none⟩ = some (.int .i64 n) := by unfold World.cell?; dsimp only; rw [hr]; rfl
 have b1 : w0.cell? ⟨p0, 1, none⟩ = some (.int .i64 s) := by unfold World.cell?; dsimp only; rw [hr]; rfl
 have K0 := hD k0; clear hr hw0 k0 hp0; refine rgW (fun w' => Kp w0 w') ?_ fun hH => ?_
 ·exact (Kp.refl w0).drew
 refine tkP 1 ?_
 go_simp; refine tkP 2 ?_ (y := by intro w hZ; have q := kZ hZ b0; go_simp; try rfl)
 go_simp; refine tkP 3 ?_
 go_simp; refine tkP 4 ?_ (y := by intro w hZ; have q := kZ hZ b1; go_simp; try rfl)
 go_simp; refine wpAnyH_ready (rs := [0, 5]) (by kernel_rfl) (by simp) ?_
 refine aC (fun K hK => ?_) (aC (fun K hK => ?_) aN0)
 ·go_simp; go_wp2_with (go_at_call 175; (with_reducible refine (actPl_any _).mono ?_); rintro e w1 ⟨v, rfl, hp, hk⟩; have HP0 := hD hp; have K1 := hD (kT hH hk); clear hp hk)
  refine hK.out _ _ (K1.out) fun hH => ?_
  clear hK K; refine rdW 5 fun K hK => ?_
  go_simp; refine hK.out _ _ (kT K1.out (kA _ _)) fun hH => ?_
  clear hK K; have HP := hD (HP0.out.kp (kA w1 (.cells #[n, s] 3))); have KK := hD (kT K1.out (kA w1 (.cells #[n, s] 3))); have HN := hD (show ∀ j, j < 2 → (w1.alloc (.cells #[n, s] 3)).cell? ⟨w1.heap.size, j, none⟩ = some (.int .i64 ([n, s].getD j 0)) from ints_cells w1 [n, s]); refine rdW 6 fun K hK => ?_
  go_simp; go_wp2_with (go_at_call 174; (with_reducible refine (HWR.out _ _ _ (kT K0.out KK.out) HP.out HN.out).mono ?_); rintro e w3 ⟨rfl, hk⟩; have KK := hD (kT KK.out hk); clear hk)
  refine hK.out _ _ (KK.out) fun hH => ?_
  clear hK K; refine tkP 7 ?_
  go_simp; refine tkP 8 ?_
  go_simp; refine tkP 9 ?_
  go_simp; refine tkP 10 ?_
  go_simp; refine dnW ?_ _
  go_wp2; go_ret2
  exact ⟨rfl, kT K0.out hH⟩
 ·go_simp; refine hK.out _ _ (kT (Kp.refl w0).drew (kA _ _)) fun hH => ?_
  clear hK K; have HN0 := show ∀ j, j < 2 → (w0.drew.alloc (.cells #[n, s] 3)).cell? ⟨w0.heap.size, j, none⟩ = some (.int .i64 ([n, s].getD j 0)) from ints_cells w0.drew [n, s]
  refine rdW 0 fun K hK => ?_
  go_simp; go_wp2_with (go_at_call 175; (with_reducible refine (actPl_any _).mono ?_); rintro e w1 ⟨v, rfl, hp, hk⟩; have HP := hD hp; have KK := hD (kT hH hk); have HN := hD (fun j hj => kZ hk (HN0 j hj)); clear hp hk)
  refine hK.out _ _ (KK.out) fun hH => ?_
  clear hK K; refine rdW 6 fun K hK => ?_
  go_simp; go_wp2_with (go_at_call 174; (with_reducible refine (HWR.out _ _ _ (kT K0.out KK.out) HP.out HN.out).mono ?_); rintro e w3 ⟨rfl, hk⟩; have KK := hD (kT KK.out hk); clear hk)
  refine hK.out _ _ (KK.out) fun hH => ?_
  clear hK K; refine tkP 7 ?_
  go_simp; refine tkP 8 ?_
  go_simp; refine tkP 9 ?_
  go_simp; refine tkP 10 ?_
  go_simp; refine dnW ?_ _
  go_wp2; go_ret2
  exact ⟨rfl, kT K0.out hH⟩
theorem right_any (ads : List Addr) (w : World) (V : St ads w) (T : Tab w) (n s : Int) :
  Calls Tryz.prog 78 #[.agg #[n, s]] w fun e w' => e = .returned (.bool (rightA n s)) ∧ Kp w w' := by
 have h0 : 0 < ads.length := by rw [V.len]; decide
 have k0 := kA w (.cells #[n, s] 25); have HA := act_any ads _ (V.below k0) (T.kp k0) n s; have K0 := hD k0
 cases hr : rightA n s with
 | true =>
  have e1 : actO n s = some (actT n.toNat s.toNat) := by unfold actO; rw [if_pos hr]
  rw [e1] at HA; simp only [textR] at HA
  have HA := hD HA; clear V T k0 e1 hr; go_enter Tryz.func78, Tryz.ntmps78; go_wp2_with (go_at_call 135; (with_reducible refine HA.out.mono ?_); rintro e w1 ⟨rfl, hk⟩; have KK := hD (kT K0.out hk); clear hk)
  go_ret; exact ⟨rfl, KK.out⟩
 | false =>
  have e1 : actO n s = none := by unfold actO; rw [hr]; rfl
  rw [e1] at HA; simp only [textR] at HA
  rw [errI_one ads h0] at HA; obtain ⟨a0, ha0⟩ : ∃ a, ads[0]'h0 = a := ⟨_, rfl⟩
  rw [ha0] at HA; have HA := hD HA; clear V T k0 e1 hr ha0; go_enter Tryz.func78, Tryz.ntmps78; go_wp2_with (go_at_call 135; (with_reducible refine HA.out.mono ?_); rintro e w1 ⟨rfl, hk⟩; have KK := hD (kT K0.out hk); clear hk)
  go_ret; exact ⟨rfl, KK.out⟩
theorem two_cells {b : Nat} {t : TypeId} {w : World} {x0 x1 : Value} (h : w.heap[b]? = some (.cells #[x0, x1] t (0, 0))) : w.cell? ⟨b, 0, none⟩ = some x0 ∧ w.cell? ⟨b, 1, none⟩ = some x1 := by
 refine ⟨?_, ?_⟩ <;> (unfold World.cell?; dsimp only; rw [h]; rfl)
theorem outcome_any (n : Int) (w : World) : Calls Tryz.prog 108 #[.int .i64 n] w fun e w' => e = .returned (.bool (outX n)) ∧ w = w' := by
 unfold outX
 by_cases h : n = 1
 ·subst h; rw [dT (.inl rfl)]; go_enter Tryz.func108, Tryz.ntmps108; go_wp2; go_ret; exact ⟨rfl, rfl⟩
 by_cases g : n = 2
 ·subst g; rw [dT (.inr rfl)]; go_enter Tryz.func108, Tryz.ntmps108; go_wp2; go_ret; exact ⟨rfl, rfl⟩
 ·rw [dF (by omega)]; have h1 : (n == 1) = false := by simpa using h
  have h2 : (n == 2) = false := by simpa using g
  go_enter Tryz.func108, Tryz.ntmps108; go_wp2; go_ret; exact ⟨rfl, rfl⟩
theorem plainTime_t (x : Nat) (w : World) (h : Fl.dl x = true) : Calls Tryz.prog 109 #[.float .f64 x] w fun e w' => e = .returned (.bool (tmX x)) ∧ w = w' := by
 have e1 := ext_bits; have HD := hD (fun w => delay_ok x w h); have et : tmX x = (((Fl.plain x : Nat) : Int) == (x : Int)) := by
  unfold tmX; rw [h, Bool.eq_iff_iff]
  simp
  omega
 rw [et]; clear h et; go_enter Tryz.func109, Tryz.ntmps109; go_wp2_with (go_at_call 158; (with_reducible refine (HD.out _).mono ?_); rintro e w' ⟨rfl, rfl⟩)
 go_ret; exact ⟨rfl, rfl⟩
theorem plainTime_f (ads : List Addr) (x : Nat) (hx : x < 18446744073709551616) (w : World) (V : St ads w) (h : Fl.dl x = false) : Calls Tryz.prog 109 #[.float .f64 x] w fun e w' => e = .returned (.bool (tmX x)) ∧ Kp w w' := by
 obtain ⟨a3, c3⟩ : ∃ a3, w.cell? ⟨3, 0, none⟩ = some (snt a3) := ⟨_, V.cell 3 (by decide)⟩
 have HD := hD (delay_err x _ w hx h c3); have et : tmX x = false := by
  unfold tmX; rw [h]
  rfl
 rw [et]; clear h et V c3; go_enter Tryz.func109, Tryz.ntmps109; go_wp2_with (go_at_call 158; (with_reducible refine HD.out.mono ?_); rintro e w1 ⟨rfl, hk⟩; have K1 := hD hk; clear hk)
 go_ret; exact ⟨rfl, K1.out⟩
theorem plainTime_any (ads : List Addr) (x : Nat) (hx : x < 18446744073709551616) (w : World) (V : St ads w) : Calls Tryz.prog 109 #[.float .f64 x] w fun e w' => e = .returned (.bool (tmX x)) ∧ Kp w w' := by
 cases h : Fl.dl x with
 | true => exact (plainTime_t x w h).mono (by rintro e w' ⟨rfl, rfl⟩; exact ⟨rfl, Kp.refl _⟩)
 | false => exact plainTime_f ads x hx w V h
theorem sright_a (ads : List Addr) (n s o d : Int) (x : Nat) (hx : x < 18446744073709551616) (w : World) (V : St ads w) (T : Tab w) (hr : rightA n s = false) :
  Calls Tryz.prog 50 #[.agg #[n, s, o, d, x]] w fun e w' => e = .returned (.bool false) ∧ Kp w w' := by
 have HA := fun w1 (hk : Kp w w1) => right_any ads w1 (V.below hk) (T.kp hk) n s
 have HO := fun w1 => outcome_any o w1
 have HP := fun w1 (hk : Kp w w1) => plainTime_any ads x hx w1 (V.below hk)
 simp only [hr] at HA
 obtain ⟨HA, HO, HP⟩ := hD3 HA HO HP; have K0 := hD (kA w (.cells #[n, s, o, d, x] 27)); have HR := hD (mH w (.cells #[n, s, o, d, x] 27)); have hr0 := HR.out; obtain ⟨e0, e1, e2, e3, e4⟩ := cells5 hr0; clear V T hx hr hr0; go_enter Tryz.func50, Tryz.ntmps50; go_wp2_with (first
  | (go_at_call 78; (with_reducible refine (HA.out _ K0.out).mono ?_); rintro e w1 ⟨rfl, hk⟩; have K1 := hD (kT K0.out hk); have R1 := hD (rZ hk HR.out); obtain ⟨b0, b1, b2, b3, b4⟩ := cells5 R1.out; clear hk))
 go_ret; exact ⟨by first | rfl | simp, K1.out⟩
theorem sright_o (ads : List Addr) (n s o d : Int) (x : Nat) (hx : x < 18446744073709551616) (w : World) (V : St ads w) (T : Tab w) (hr : rightA n s = true) (ho : outX o = false) :
  Calls Tryz.prog 50 #[.agg #[n, s, o, d, x]] w fun e w' => e = .returned (.bool false) ∧ Kp w w' := by
 have HA := fun w1 (hk : Kp w w1) => right_any ads w1 (V.below hk) (T.kp hk) n s
 have HO := fun w1 => outcome_any o w1
 have HP := fun w1 (hk : Kp w w1) => plainTime_any ads x hx w1 (V.below hk)
 simp only [hr] at HA
 simp only [ho] at HO
 obtain ⟨HA, HO, HP⟩ := hD3 HA HO HP; have K0 := hD (kA w (.cells #[n, s, o, d, x] 27)); have HR := hD (mH w (.cells #[n, s, o, d, x] 27)); have hr0 := HR.out; obtain ⟨e0, e1, e2, e3, e4⟩ := cells5 hr0; clear V T hx hr hr0 ho; go_enter Tryz.func50, Tryz.ntmps50; go_wp2_with (first
  | (go_at_call 78; (with_reducible refine (HA.out _ K0.out).mono ?_); rintro e w1 ⟨rfl, hk⟩; have K1 := hD (kT K0.out hk); have R1 := hD (rZ hk HR.out); obtain ⟨b0, b1, b2, b3, b4⟩ := cells5 R1.out; clear hk)
  | (go_at_call 108; (with_reducible refine (HO.out _).mono ?_); rintro e w' ⟨rfl, rfl⟩))
 go_ret; exact ⟨by first | rfl | simp, K1.out⟩
theorem sright_d (ads : List Addr) (n s o d : Int) (x : Nat) (hx : x < 18446744073709551616) (w : World) (V : St ads w) (T : Tab w) (hr : rightA n s = true) (ho : outX o = true) (hd : d < 0) :
  Calls Tryz.prog 50 #[.agg #[n, s, o, d, x]] w fun e w' => e = .returned (.bool false) ∧ Kp w w' := by
 have HA := fun w1 (hk : Kp w w1) => right_any ads w1 (V.below hk) (T.kp hk) n s
 have HO := fun w1 => outcome_any o w1
 have HP := fun w1 (hk : Kp w w1) => plainTime_any ads x hx w1 (V.below hk)
 simp only [hr] at HA
 simp only [ho] at HO
 have hd1 : decide (0 ≤ d) = false := dF (by omega); obtain ⟨HA, HO, HP⟩ := hD3 HA HO HP; have K0 := hD (kA w (.cells #[n, s, o, d, x] 27)); have HR := hD (mH w (.cells #[n, s, o, d, x] 27)); have hr0 := HR.out; obtain ⟨e0, e1, e2, e3, e4⟩ := cells5 hr0; clear V T hx hr hr0 ho; go_enter Tryz.func50, Tryz.ntmps50; go_wp2_with (first
  | (go_at_call 78; (with_reducible refine (HA.out _ K0.out).mono ?_); rintro e w1 ⟨rfl, hk⟩; have K1 := hD (kT K0.out hk); have R1 := hD (rZ hk HR.out); obtain ⟨b0, b1, b2, b3, b4⟩ := cells5 R1.out; clear hk)
  | (go_at_call 108; (with_reducible refine (HO.out _).mono ?_); rintro e w' ⟨rfl, rfl⟩))
 go_ret; exact ⟨by first | rfl | simp, K1.out⟩
theorem sright_e (ads : List Addr) (n s o d : Int) (x : Nat) (hx : x < 18446744073709551616) (w : World) (V : St ads w) (T : Tab w) (hr : rightA n s = true) (ho : outX o = true) (hd : 3 < d) :
  Calls Tryz.prog 50 #[.agg #[n, s, o, d, x]] w fun e w' => e = .returned (.bool false) ∧ Kp w w' := by
 have HA := fun w1 (hk : Kp w w1) => right_any ads w1 (V.below hk) (T.kp hk) n s
 have HO := fun w1 => outcome_any o w1
 have HP := fun w1 (hk : Kp w w1) => plainTime_any ads x hx w1 (V.below hk)
 simp only [hr] at HA
 simp only [ho] at HO
 have hd1 : decide (0 ≤ d) = true := dT (by omega); have hd2 : decide (d ≤ 3) = false := dF (by omega); obtain ⟨HA, HO, HP⟩ := hD3 HA HO HP; have K0 := hD (kA w (.cells #[n, s, o, d, x] 27)); have HR := hD (mH w (.cells #[n, s, o, d, x] 27)); have hr0 := HR.out; obtain ⟨e0, e1, e2, e3, e4⟩ := cells5 hr0; clear V T hx hr hr0 ho; go_enter Tryz.func50, Tryz.ntmps50; go_wp2_with (first
  | (go_at_call 78; (with_reducible refine (HA.out _ K0.out).mono ?_); rintro e w1 ⟨rfl, hk⟩; have K1 := hD (kT K0.out hk); have R1 := hD (rZ hk HR.out); obtain ⟨b0, b1, b2, b3, b4⟩ := cells5 R1.out; clear hk)
  | (go_at_call 108; (with_reducible refine (HO.out _).mono ?_); rintro e w' ⟨rfl, rfl⟩))
 go_ret; exact ⟨by first | rfl | simp, K1.out⟩
theorem sright_p (ads : List Addr) (n s o d : Int) (x : Nat) (hx : x < 18446744073709551616) (w : World) (V : St ads w) (T : Tab w) (hr : rightA n s = true) (ho : outX o = true) (hd : 0 ≤ d ∧ d ≤ 3) :
  Calls Tryz.prog 50 #[.agg #[n, s, o, d, x]] w fun e w' => e = .returned (.bool (tmX x)) ∧ Kp w w' := by
 have HA := fun w1 (hk : Kp w w1) => right_any ads w1 (V.below hk) (T.kp hk) n s
 have HO := fun w1 => outcome_any o w1
 have HP := fun w1 (hk : Kp w w1) => plainTime_any ads x hx w1 (V.below hk)
 simp only [hr] at HA
 simp only [ho] at HO
 have hd1 : decide (0 ≤ d) = true := dT (by omega); have hd2 : decide (d ≤ 3) = true := dT (by omega); obtain ⟨HA, HO, HP⟩ := hD3 HA HO HP; have K0 := hD (kA w (.cells #[n, s, o, d, x] 27)); have HR := hD (mH w (.cells #[n, s, o, d, x] 27)); have hr0 := HR.out; obtain ⟨e0, e1, e2, e3, e4⟩ := cells5 hr0; clear V T hx hr hr0 ho; go_enter Tryz.func50, Tryz.ntmps50; go_wp2_with (first
  | (go_at_call 78; (with_reducible refine (HA.out _ K0.out).mono ?_); rintro e w1 ⟨rfl, hk⟩; have K1 := hD (kT K0.out hk); have R1 := hD (rZ hk HR.out); obtain ⟨b0, b1, b2, b3, b4⟩ := cells5 R1.out; clear hk)
  | (go_at_call 108; (with_reducible refine (HO.out _).mono ?_); rintro e w' ⟨rfl, rfl⟩)
  | (go_at_call 109; (with_reducible refine (HP.out _ K1.out).mono ?_); rintro e w2 ⟨rfl, hk⟩; have K2 := hD (kT K1.out hk); clear hk))
 go_ret; exact ⟨by first | rfl | simp, K2.out⟩
theorem scoRight_any (ads : List Addr) (c : CX) (hc : c.wf) (w : World) (V : St ads w) (T : Tab w) : Calls Tryz.prog 50 #[.agg c.cells] w fun e w' => e = .returned (.bool (rightX c)) ∧ Kp w w' := by
 obtain ⟨n, s, o, d, x⟩ := c; unfold rightX; dsimp only [CX.cells]
 cases hr : rightA n s with
 | false => exact sright_a ads n s o d x hc w V T hr
 | true =>
  cases ho : outX o with
  | false => exact sright_o ads n s o d x hc w V T hr ho
  | true =>
   by_cases h0 : d < 0
   ·rw [dF (show ¬ (0 ≤ d ∧ d ≤ 3) by omega)]; exact sright_d ads n s o d x hc w V T hr ho h0
   by_cases h3 : 3 < d
   ·rw [dF (show ¬ (0 ≤ d ∧ d ≤ 3) by omega)]; exact sright_e ads n s o d x hc w V T hr ho h3
   ·rw [dT (show 0 ≤ d ∧ d ≤ 3 by omega)]; exact sright_p ads n s o d x hc w V T hr ho (by omega)
theorem sopen_d (ads : List Addr) (n s o d : Int) (x t : Nat) (hx : x < 18446744073709551616) (ht : t < 18446744073709551616) (w : World) (V : St ads w) (T : Tab w) (hd : Fl.dl t = false) :
  Calls Tryz.prog 124 #[.agg #[n, s, o, d, x], .float .f64 t] w fun e w' => e = .returned (.bool false) ∧ Kp w w' := by
 have HT := fun w1 (hk : Kp w w1) => scoRight_any ads ⟨n, s, o, d, x⟩ hx w1 (V.below hk) (T.kp hk)
 have kb := kA w (.cells #[n, s, o, d, x] 27); obtain ⟨a3, c3⟩ : ∃ a3, w.cell? ⟨3, 0, none⟩ = some (snt a3) := ⟨_, V.cell 3 (by decide)⟩
 have HD := hD (delay_err t _ _ ht hd (kZ kb c3)); clear c3; obtain ⟨HT, K0⟩ := hD2 HT kb; have HR := hD (mH w (.cells #[n, s, o, d, x] 27)); have hr0 := HR.out; obtain ⟨e0, e1, e2, e3, e4⟩ := cells5 hr0; clear V T kb hr0; dsimp only [CX.cells] at HT; go_enter Tryz.func124, Tryz.ntmps124; go_wp2_with (first
  | (go_at_call 158; (with_reducible refine HD.out.mono ?_); rintro e w1 ⟨rfl, hk⟩; have K1 := hD (kT K0.out hk); clear hk))
 go_ret; exact ⟨by first | rfl | simp [*], K1.out⟩
theorem sopen_r (ads : List Addr) (n s o d : Int) (x t : Nat) (hx : x < 18446744073709551616) (ht : t < 18446744073709551616) (w : World) (V : St ads w) (T : Tab w) (hd : Fl.dl t = true) (hr : rightX ⟨n, s, o, d, x⟩ = false) :
  Calls Tryz.prog 124 #[.agg #[n, s, o, d, x], .float .f64 t] w fun e w' => e = .returned (.bool false) ∧ Kp w w' := by
 have HT := fun w1 (hk : Kp w w1) => scoRight_any ads ⟨n, s, o, d, x⟩ hx w1 (V.below hk) (T.kp hk)
 have kb := kA w (.cells #[n, s, o, d, x] 27); have _u := ht; clear _u; have HD := hD (fun w => delay_ok t w hd); simp only [hr] at HT
 obtain ⟨HT, K0⟩ := hD2 HT kb; have HR := hD (mH w (.cells #[n, s, o, d, x] 27)); have hr0 := HR.out; obtain ⟨e0, e1, e2, e3, e4⟩ := cells5 hr0; clear V T kb hr0; dsimp only [CX.cells] at HT; go_enter Tryz.func124, Tryz.ntmps124; go_wp2_with (first
  | (go_at_call 158; (with_reducible refine (HD.out _).mono ?_); rintro e w' ⟨rfl, rfl⟩)
  | (go_at_call 50; (with_reducible refine (HT.out _ K0.out).mono ?_); rintro e w2 ⟨rfl, hk⟩; have K1 := hD (kT K0.out hk); have R2 := hD (rZ hk HR.out); obtain ⟨b0, b1, b2, b3, b4⟩ := cells5 R2.out; clear hk))
 go_ret; exact ⟨by first | rfl | simp [*], K1.out⟩
theorem sopen_t (ads : List Addr) (n s o d : Int) (x t : Nat) (hx : x < 18446744073709551616) (ht : t < 18446744073709551616) (w : World) (V : St ads w) (T : Tab w) (hd : Fl.dl t = true) (hr : rightX ⟨n, s, o, d, x⟩ = true) (b : Bool) (hb : (FloatKind.f64.format.order (Fl.plain t) x == some .lt) = b) :
  Calls Tryz.prog 124 #[.agg #[n, s, o, d, x], .float .f64 t] w fun e w' => e = .returned (.bool b) ∧ Kp w w' := by
 have HT := fun w1 (hk : Kp w w1) => scoRight_any ads ⟨n, s, o, d, x⟩ hx w1 (V.below hk) (T.kp hk)
 have kb := kA w (.cells #[n, s, o, d, x] 27); have _u := ht; clear _u; have HD := hD (fun w => delay_ok t w hd); simp only [hr] at HT
 obtain ⟨HT, K0⟩ := hD2 HT kb; have HR := hD (mH w (.cells #[n, s, o, d, x] 27)); have hr0 := HR.out; obtain ⟨e0, e1, e2, e3, e4⟩ := cells5 hr0; clear V T kb hr0; dsimp only [CX.cells] at HT; go_enter Tryz.func124, Tryz.ntmps124; go_wp2_with (first
  | (go_at_call 158; (with_reducible refine (HD.out _).mono ?_); rintro e w' ⟨rfl, rfl⟩)
  | (go_at_call 50; (with_reducible refine (HT.out _ K0.out).mono ?_); rintro e w2 ⟨rfl, hk⟩; have K1 := hD (kT K0.out hk); have R2 := hD (rZ hk HR.out); obtain ⟨b0, b1, b2, b3, b4⟩ := cells5 R2.out; clear hk))
 go_ret; exact ⟨by first | rfl | simp [*], K1.out⟩
theorem flt9 {a b : Nat} (ha : a < 18446744073709551616) (hb : b < 18446744073709551616) : (FloatKind.f64.format.order a b == some .lt) = Fl.isLt a b := Fl.test_lt ha hb
theorem scoOpen_any (ads : List Addr) (c : CX) (t : Nat) (hc : c.wf) (ht : t < 18446744073709551616) (w : World) (V : St ads w) (T : Tab w) : Calls Tryz.prog 124 #[.agg c.cells, .float .f64 t] w fun e w' => e = .returned (.bool (openX c t)) ∧ Kp w w' := by
 obtain ⟨n, s, o, d, x⟩ := c; unfold openX
 cases hd : Fl.dl t with
 | false =>
  rw [Bool.false_and, Bool.and_false]; exact sopen_d ads n s o d x t hc ht w V T hd
 | true =>
  cases hr : rightX ⟨n, s, o, d, x⟩ with
  | false => exact sopen_r ads n s o d x t hc ht w V T hd hr
  | true =>
   refine sopen_t ads n s o d x t hc ht w V T hd hr _ ?_
   have hp := Fl.dl_plain hd; have hx := tmX_le (rightX_tm hr); dsimp only at hx ⊢; rw [flt9 (by omega) (by omega), Fl.dl_isLt (Fl.dl_of_le hp.1).1 (Fl.dl_of_le hx).1, (Fl.dl_of_le hp.1).2.2, (Fl.dl_of_le hx).2.2]
   rfl
theorem act_fields9 : Tryz.prog.underlying 25 = some (.struct (Tryz.prog.fieldsOf 25)) := by
 unfold Program.fieldsOf; rw [Tryz.underlying25]
theorem act_eql9 (n s n2 s2 : Int) (w : World) : (binOp .eql 25 (.agg #[n, s]) (.agg #[n2, s2])).run Tryz.prog w = .ok (.bool (decide (n = n2 ∧ s = s2))) w := by
 have ha : Tryz.prog.stoodInHeld 25 = false := by kernel_rfl
 rw [run_eql_struct, show (10000 : Nat) = 9999 + 1 from rfl, run_equalIn_agg w 9999 25 _ _ act_fields9 ha]
 simp [Program.fieldsOf, Tryz.underlying25, Op.eqFields, part, go_sem]
 by_cases h0 : n = n2
 rotate_left
 ·simp [h0]
 subst h0
 by_cases h1 : s = s2
 rotate_left
 ·simp [h1]
 subst h1
 simp [*]
theorem act_guard9 (op : BinOp) (x y : Operand) (n s n2 s2 : Int) (w : World) : (eqGuard op 25 x y (.agg #[n, s]) (.agg #[n2, s2])).run Tryz.prog w = .ok () w := run_eqGuard_agg w op 25 x y _ _ (by kernel_rfl)
theorem rQ {P : Program} {fn : Func} {p u : Tmp} {ty : TypeId} (h : fn.results = #[.cell p ty, .tmp u]) (tmps : Array Value) (w : World) (g : Nat) (t : TypeId) (cs : Array Value) (fr : Nat × Nat) (d : TypeDesc)
  (hp : tmps.getD p undef = .pointer (some ⟨g, 0, none⟩)) (hg : w.heap[g]? = some (.cells cs t fr))
  (hu : P.underlying ty = some d) (hd : (match d with | .struct _ | .array _ _ => true | _ => false) = true) (hi : (P.info? ty).map (·.size) = some cs.size) :
  (results fn tmps).run P w = .ok (.tuple #[.agg cs, tmps.getD u undef]) w := by
 have hp' : tmps[p]?.getD undef = .pointer (some ⟨g, 0, none⟩) := by simpa using hp
 simp [results, h, hp', asAddr, run_loadVar_row w g t ty cs fr d hg hu hd hi]
theorem cZ {b : Nat} {t : TypeId} {w : World} {x0 x1 x2 x3 x4 x5 x6 x7 x8 x9 x10 x11 x12 x13 : Value} (h : w.heap[b]? = some (.cells #[x0, x1, x2, x3, x4, x5, x6, x7, x8, x9, x10, x11, x12, x13] t (0, 0))) : w.cell? ⟨b, 0, none⟩ = some x0 ∧ w.cell? ⟨b, 1, none⟩ = some x1 ∧ w.cell? ⟨b, 2, none⟩ = some x2 ∧ w.cell? ⟨b, 3, none⟩ = some x3 ∧ w.cell? ⟨b, 4, none⟩ = some x4 ∧ w.cell? ⟨b, 5, none⟩ = some x5 ∧ w.cell? ⟨b, 6, none⟩ = some x6 ∧ w.cell? ⟨b, 7, none⟩ = some x7 ∧ w.cell? ⟨b, 8, none⟩ = some x8 ∧ w.cell? ⟨b, 9, none⟩ = some x9 ∧ w.cell? ⟨b, 10, none⟩ = some x10 ∧ w.cell? ⟨b, 11, none⟩ = some x11 ∧ w.cell? ⟨b, 12, none⟩ = some x12 ∧ w.cell? ⟨b, 13, none⟩ = some x13 := by
 refine ⟨?_, ?_, ?_, ?_, ?_, ?_, ?_, ?_, ?_, ?_, ?_, ?_, ?_, ?_⟩ <;> (unfold World.cell?; dsimp only; rw [h]; rfl)
theorem froz14 {b : Nat} {t : TypeId} {w : World} {cs : Array Value} (h : w.heap[b]? = some (.cells cs t (0, 0))) (i : Nat) : w.frozen? ⟨b, i, none⟩ = false := by
 unfold World.frozen?; dsimp only; rw [h]
 simp
theorem nX0 (w : World) (o o' : Obj) : ((w.alloc o).alloc o').heap[w.heap.size]? = some o := by
 rw [Below.heap_alloc _ _ _ (by simp)]; exact (mH w o)
theorem nX1 (w : World) (o o' : Obj) : ((w.alloc o).alloc o').heap[w.heap.size + 1]? = some o' := by
 have := (mH (w.alloc o) o')
 simpa using this
def numsF (l : List Int) (x : Nat) : Array Value := (l.map (Value.int .i64) ++ [Value.float .f64 x]).toArray
theorem numsF_cell {w : World} {B x : Nat} {l : List Int} {t : TypeId} (h : w.heap[B]? = some (.cells (numsF l x) t (0, 0))) (j : Nat) (hj : j < l.length) : w.cell? ⟨B, j, none⟩ = some (.int .i64 l[j]) := by
 unfold World.cell?; dsimp only; rw [h]
 simp [numsF, List.getElem?_append_left, hj]
theorem numsF_set {w : World} {B x : Nat} {l : List Int} {t : TypeId} (h : w.heap[B]? = some (.cells (numsF l x) t (0, 0))) (i : Nat) (hi : i < l.length) (y : Int) : (w.setCell ⟨B, i, none⟩ (.int .i64 y)).heap[B]? = some (.cells (numsF (l.set i y) x) t (0, 0)) := by
 rw [Joins.block_setCell h]
 congr 2
 simp [numsF, List.set_append_left, hi, List.map_set]
open Go.RowKit
structure Asd (O O' : Nat → Prop) (w w' : World) : Prop where
 os : w'.os = w.os
 tape : w'.tape = w.tape
 output : w'.output = w.output
 size : w.heap.size ≤ w'.heap.size
 block : ∀ b, b < w.heap.size → ¬ O b → w'.heap[b]? = w.heap[b]?
 own : ∀ b, O' b → O b ∨ w.heap.size ≤ b
theorem Asd.kp {O O' : Nat → Prop} {W w w' : World} (h : Asd O O' w w') (hk : Kp W w) (hO : ∀ b, O b → W.heap.size ≤ b) : Kp W w' :=
 ⟨h.os.trans hk.os, h.tape.trans hk.tape, h.output.trans hk.output, Nat.le_trans (Below.size hk) h.size, fun b hb => by
  rw [h.block b (Nat.lt_of_lt_of_le hb (Below.size hk)) (fun q => absurd (hO b q) (by omega))]; exact Below.block hk b hb⟩
theorem Asd.trans {P P' P'' : Nat → Prop} {a b c : World} (h : Asd P P' a b) (k : Asd P' P'' b c) : Asd P P'' a c :=
 ⟨k.os.trans h.os, k.tape.trans h.tape, k.output.trans h.output, Nat.le_trans h.size k.size, fun i hi hn => by
  rw [k.block i (Nat.lt_of_lt_of_le hi h.size) (fun q => by rcases h.own i q with q | q; exact hn q; omega)]; exact h.block i hi hn, fun i q => by
  rcases k.own i q with q | q
  ·exact h.own i q
  ·exact .inr (Nat.le_trans h.size q)⟩
theorem Asd.of_kp (P : Nat → Prop) {w w' : World} (h : Kp w w') : Asd P P w w' := ⟨h.os, h.tape, h.output, Below.size h, fun b hb _ => Below.block h b hb, fun _ q => .inl q⟩
def i64M (x : Int) : Prop := -9223372036854775808 ≤ x ∧ x ≤ 9223372036854775807
instance (x : Int) : Decidable (i64M x) := by unfold i64M; infer_instance
def seatV (z : SeatM) : Array Value := #[.int .i64 z.p, .int .i64 z.e, .int .i64 z.s, .int .i64 z.h]
def effV (y : EffM) : Array Value := #[.int .i64 y.z.p, .int .i64 y.z.e, .int .i64 y.z.s, .int .i64 y.z.h, .int .i64 y.send, .int .i64 y.fault, .int .i64 y.work, .bool y.changed]
def SeatM.ok (z : SeatM) : Prop := i64M z.p ∧ i64M z.e ∧ i64M z.s ∧ i64M z.h
def newS (p e : Int) : SeatM := if rightT p e = true then ⟨p, e, 1, 0⟩ else ⟨0, 0, 0, 0⟩
end Go.Proofs.YtlmlmhmhgdjhnaaGreatDoor
