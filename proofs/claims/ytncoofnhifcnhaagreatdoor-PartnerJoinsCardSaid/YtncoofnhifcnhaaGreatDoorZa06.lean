/- Parts of this proof (own work). -/
import Derived.Test.YtncoofnhifcnhaaGreatDoorZa05
import Derived.Test.YtncoofnhifcnhaaGreatDoorZa04
import Derived.Laws.StructEq
set_option maxRecDepth 100000
set_option maxHeartbeats 40000000
namespace Go.Proofs.YtncoofnhifcnhaaGreatDoor
open Go.RowKit Go.ChangeShapes Go.WideShapes
def wrV (a : Addr) (ps : List (Int × Int)) (ns : List Int) (m : Nat) : Value :=
 if okU ps ns m = true then .tuple #[.string (strOfNums (wrU ps ns m)), .nilIface] else .tuple #[.string ⟨#[]⟩, snt a]
theorem write_any (ads : List Addr) (h0 : 0 < ads.length) (ps : List (Int × Int)) (ns : List Int) (m : Nat) (hm : ps.length = m) (hm2 : ns.length = m) (hm3 : m ≤ 3) (hb : ∀ j, j < m → (ps.getD j (0, 0)).2 ≤ 1000000)
  (v : Value) (gn cn : Nat) (w : World) (V : St ads w) (T : Tab w) (hp : PlC v ps w) (hn : ∀ j, j < m → w.cell? ⟨gn, j, none⟩ = some (.int .i64 (ns.getD j 0))) :
  Calls Tryz.prog 142 #[v, .slice (some ⟨gn, 0, none⟩) m cn] w fun e w' => e = .returned (wrV (ads[0]'h0) ps ns m) ∧ Kp w w' := by
 have hmf : ∀ (fn : Fn) (first cap : Array Value) (w : World), (Instr.makeFunc fn first cap).run Tryz.prog w = .ok (.func fn first cap) w := fun _ _ _ _ => rfl
 obtain ⟨gp, cp, rfl, hpc⟩ := hp; rw [hm] at hpc ⊢; have k1 := kA w (.cells #[.slice (some ⟨gp, 0, none⟩) m cp] 204); have k2 := kT k1 (kA (w.alloc (.cells #[.slice (some ⟨gp, 0, none⟩) m cp] 204)) (.cells #[.slice (some ⟨gn, 0, none⟩) m cn] 144)); have c0 := kZ (kA (w.alloc (.cells #[.slice (some ⟨gp, 0, none⟩) m cp] 204)) (.cells #[.slice (some ⟨gn, 0, none⟩) m cn] 144)) (box_cell w (.slice (some ⟨gp, 0, none⟩) m cp) 204); have c1 := box_cell (w.alloc (.cells #[.slice (some ⟨gp, 0, none⟩) m cp] 204)) (.slice (some ⟨gn, 0, none⟩) m cn) 144; rw [show (w.alloc (.cells #[.slice (some ⟨gp, 0, none⟩) m cp] 204)).heap.size = w.heap.size + 1 by simp] at c1; have HB := fun w1 (hk : Kp ((w.alloc (.cells #[.slice (some ⟨gp, 0, none⟩) m cp] 204)).alloc (.cells #[.slice (some ⟨gn, 0, none⟩) m cn] 144)) w1) =>
  write1_any ads h0 ps ns m hm hm2 hm3 hb w.heap.size (w.heap.size + 1) gp cp gn cn w1 (V.below (kT k2 hk)) (T.kp (kT k2 hk)) (kZ hk c0) (kZ hk c1)
   (fun j hj => ⟨kZ (kT k2 hk) (hpc j (by omega)).1, kZ (kT k2 hk) (hpc j (by omega)).2⟩) (fun j hj => kZ (kT k2 hk) (hn j hj))
 have K2 := hD k2
 by_cases hok : okU ps ns m = true
 ·have e1 : wrV (ads[0]'h0) ps ns m = .tuple #[.string (strOfNums (wrU ps ns m)), .nilIface] := if_pos hok; rw [e1]; have HT := hD (try_str_val 172 #[.pointer (some ⟨w.heap.size, 0, none⟩), .pointer (some ⟨w.heap.size + 1, 0, none⟩)] (strOfNums (wrU ps ns m)) ((w.alloc (.cells #[.slice (some ⟨gp, 0, none⟩) m cp] 204)).alloc (.cells #[.slice (some ⟨gn, 0, none⟩) m cn] 144)) (by intro w; simp [go_sem])
   (fun w1 hk => (HB w1 hk).mono (by
    rintro e w2 ⟨⟨_, rfl⟩ | ⟨h, _⟩, hk2⟩
    ·exact ⟨rfl, hk2⟩
    ·rw [hok] at h; cases h)))
  clear HB c0 c1 k1 k2 hpc hn V T hb e1 hok; go_enter Tryz.func142, Tryz.ntmps142; go_wp2_with (go_at_call 171; (with_reducible refine HT.out.mono ?_); rintro e w' ⟨rfl, hk⟩; have HK := hD (kT K2.out hk); clear hk)
  go_ret2
  exact ⟨rfl, HK.out⟩
 ·have e1 : wrV (ads[0]'h0) ps ns m = .tuple #[.string ⟨#[]⟩, snt (ads[0]'h0)] := if_neg hok; rw [e1]; have HT := hD (try_str_err ads 0 h0 172 #[.pointer (some ⟨w.heap.size, 0, none⟩), .pointer (some ⟨w.heap.size + 1, 0, none⟩)] ((w.alloc (.cells #[.slice (some ⟨gp, 0, none⟩) m cp] 204)).alloc (.cells #[.slice (some ⟨gn, 0, none⟩) m cn] 144)) (V.below k2) (by intro w; simp [go_sem])
   (fun w1 hk => (HB w1 hk).mono (by
    rintro e w2 ⟨⟨h, _⟩ | ⟨_, rfl⟩, hk2⟩
    ·exact absurd h hok
    ·exact ⟨rfl, hk2⟩)))
  clear HB c0 c1 k1 k2 hpc hn V T hb e1 hok; go_enter Tryz.func142, Tryz.ntmps142; go_wp2_with (go_at_call 171; (with_reducible refine HT.out.mono ?_); rintro e w' ⟨rfl, hk⟩; have HK := hD (kT K2.out hk); clear hk)
  go_ret2
  exact ⟨rfl, HK.out⟩
theorem errI_one (ads : List Addr) (h0 : 0 < ads.length) : errI ads 1 = snt (ads[0]'h0) := by
 unfold errI; rw [if_neg (by decide), show ((1 : Int) - 1).toNat = 0 from rfl, List.getElem?_eq_getElem h0]
theorem act_wr (ads : List Addr) (h0 : 0 < ads.length) (n s : Int) : wrV (ads[0]'h0) actL [n, s] 2 = textR ads (actO n s) := by
 unfold wrV actO; have e : okU actL [n, s] 2 = rightA n s := by simp [okU, actL, rightA, Bool.and_assoc]
 rw [e]
 split
 ·simp [textR, wrU, actL, actT]
 ·simp only [textR]; rw [errI_one ads h0]
theorem textR_form (ads : List Addr) (o : Option (List Int)) : ∃ s e, textR ads o = .tuple #[.string s, e] := by
 cases o <;> exact ⟨_, _, rfl⟩
theorem ints_cells (w : World) (ns : List Int) (j : Nat) (hj : j < ns.length) : (w.alloc (.cells (ns.map (Value.int .i64)).toArray 3)).cell? ⟨w.heap.size, j, none⟩ = some (.int .i64 (ns.getD j 0)) := by
 have hr := (mH w (.cells (ns.map (Value.int .i64)).toArray 3))
 unfold World.cell?; dsimp only; rw [hr]
 simp [List.getD, hj]
theorem act_any (ads : List Addr) (w : World) (V : St ads w) (T : Tab w) (n s : Int) :
  Calls Tryz.prog 105 #[.agg #[n, s]] w fun e w' => e = .returned (textR ads (actO n s)) ∧ Kp w w' := by
 have h0 : 0 < ads.length := by rw [V.len]; decide
 have HWR := fun v gn w1 (hk : Kp w w1) (hp : PlC v actL w1) (hn : ∀ j, j < 2 → w1.cell? ⟨gn, j, none⟩ = some (.int .i64 ([n, s].getD j 0))) => write_any ads h0 actL [n, s] 2 rfl rfl (by decide) (by decide) v gn 2 w1 (V.below hk) (T.kp hk) hp hn
 rw [act_wr ads h0] at HWR; obtain ⟨tx, er, htx⟩ := textR_form ads (actO n s); rw [htx] at HWR ⊢; have HWR := hD HWR; clear htx V T; have k0 := kA w (.cells #[n, s] 24); have hr := (mH w (.cells #[n, s] 24))
 go_enter Tryz.func105, Tryz.ntmps105; go_wp2; obtain ⟨w0, hw0⟩ : ∃ x, w.alloc (.cells #[n, s] 24) = x := ⟨_, rfl⟩
 obtain ⟨p0, hp0⟩ : ∃ x, w.heap.size = x := ⟨_, rfl⟩
 rw [hw0] at k0 hr ⊢; rw [hp0] at hr ⊢; have b0 : w0.cell? ⟨p0, 0, none⟩ = some (.int .i64 n) := by unfold World.cell?; dsimp only; rw [hr]; rfl
 have b1 : w0.cell? ⟨p0, 1, none⟩ = some (.int .i64 s) := by unfold World.cell?; dsimp only; rw [hr]; rfl
 have K0 := hD k0; clear hr hw0 k0 hp0; refine rgW (fun w' => Kp w0 w') ?_ fun hH => ?_
 ·exact (Kp.refl w0).drew
 refine tkP 1 ?_
 go_simp; refine tkP 2 ?_ (y := by intro w hZ; have q := kZ hZ b0; go_simp; try rfl)
 go_simp; refine tkP 3 ?_
 go_simp; refine tkP 4 ?_ (y := by intro w hZ; have q := kZ hZ b1; go_simp; try rfl)
 go_simp; refine wpAnyH_ready (rs := [0, 5]) (by kernel_rfl) (by simp) ?_
 refine aC (fun K hK => ?_) (aC (fun K hK => ?_) aN0)
 ·go_simp; go_wp2_with (go_at_call 143; (with_reducible refine (actPl_any _).mono ?_); rintro e w1 ⟨v, rfl, hp, hk⟩; have HP0 := hD hp; have K1 := hD (kT hH hk); clear hp hk)
  refine hK.out _ _ (K1.out) fun hH => ?_
  clear hK K; refine rdW 5 fun K hK => ?_
  go_simp; refine hK.out _ _ (kT K1.out (kA _ _)) fun hH => ?_
  clear hK K; have HP := hD (HP0.out.kp (kA w1 (.cells #[n, s] 3))); have KK := hD (kT K1.out (kA w1 (.cells #[n, s] 3))); have HN := hD (show ∀ j, j < 2 → (w1.alloc (.cells #[n, s] 3)).cell? ⟨w1.heap.size, j, none⟩ = some (.int .i64 ([n, s].getD j 0)) from ints_cells w1 [n, s]); refine rdW 6 fun K hK => ?_
  go_simp; go_wp2_with (go_at_call 142; (with_reducible refine (HWR.out _ _ _ (kT K0.out KK.out) HP.out HN.out).mono ?_); rintro e w3 ⟨rfl, hk⟩; have KK := hD (kT KK.out hk); clear hk)
  refine hK.out _ _ (KK.out) fun hH => ?_
  clear hK K; refine tkP 7 ?_
  go_simp; refine tkP 8 ?_
  go_simp; refine tkP 9 ?_
  go_simp; refine tkP 10 ?_
  go_simp; refine dnW ?_ _
  go_wp2; go_ret2
  exact ⟨rfl, kT K0.out hH⟩
 ·go_simp; refine hK.out _ _ (kT (Kp.refl w0).drew (kA _ _)) fun hH => ?_
  clear hK K; have HN0 := show ∀ j, j < 2 → (w0.drew.alloc (.cells #[n, s] 3)).cell? ⟨w0.heap.size, j, none⟩ = some (.int .i64 ([n, s].getD j 0)) from ints_cells w0.drew [n, s]
  refine rdW 0 fun K hK => ?_
  go_simp; go_wp2_with (go_at_call 143; (with_reducible refine (actPl_any _).mono ?_); rintro e w1 ⟨v, rfl, hp, hk⟩; have HP := hD hp; have KK := hD (kT hH hk); have HN := hD (fun j hj => kZ hk (HN0 j hj)); clear hp hk)
  refine hK.out _ _ (KK.out) fun hH => ?_
  clear hK K; refine rdW 6 fun K hK => ?_
  go_simp; go_wp2_with (go_at_call 142; (with_reducible refine (HWR.out _ _ _ (kT K0.out KK.out) HP.out HN.out).mono ?_); rintro e w3 ⟨rfl, hk⟩; have KK := hD (kT KK.out hk); clear hk)
  refine hK.out _ _ (KK.out) fun hH => ?_
  clear hK K; refine tkP 7 ?_
  go_simp; refine tkP 8 ?_
  go_simp; refine tkP 9 ?_
  go_simp; refine tkP 10 ?_
  go_simp; refine dnW ?_ _
  go_wp2; go_ret2
  exact ⟨rfl, kT K0.out hH⟩
theorem right_any (ads : List Addr) (w : World) (V : St ads w) (T : Tab w) (n s : Int) :
  Calls Tryz.prog 65 #[.agg #[n, s]] w fun e w' => e = .returned (.bool (rightA n s)) ∧ Kp w w' := by
 have h0 : 0 < ads.length := by rw [V.len]; decide
 have k0 := kA w (.cells #[n, s] 24); have HA := act_any ads _ (V.below k0) (T.kp k0) n s; have K0 := hD k0
 cases hr : rightA n s with
 | true =>
  have e1 : actO n s = some (actT n.toNat s.toNat) := by unfold actO; rw [if_pos hr]
  rw [e1] at HA; simp only [textR] at HA
  have HA := hD HA; clear V T k0 e1 hr; go_enter Tryz.func65, Tryz.ntmps65; go_wp2_with (go_at_call 105; (with_reducible refine HA.out.mono ?_); rintro e w1 ⟨rfl, hk⟩; have KK := hD (kT K0.out hk); clear hk)
  go_ret; exact ⟨rfl, KK.out⟩
 | false =>
  have e1 : actO n s = none := by unfold actO; rw [hr]; rfl
  rw [e1] at HA; simp only [textR] at HA
  rw [errI_one ads h0] at HA; obtain ⟨a0, ha0⟩ : ∃ a, ads[0]'h0 = a := ⟨_, rfl⟩
  rw [ha0] at HA; have HA := hD HA; clear V T k0 e1 hr ha0; go_enter Tryz.func65, Tryz.ntmps65; go_wp2_with (go_at_call 105; (with_reducible refine HA.out.mono ?_); rintro e w1 ⟨rfl, hk⟩; have KK := hD (kT K0.out hk); clear hk)
  go_ret; exact ⟨rfl, KK.out⟩
theorem two_cells {b : Nat} {t : TypeId} {w : World} {x0 x1 : Value} (h : w.heap[b]? = some (.cells #[x0, x1] t (0, 0))) : w.cell? ⟨b, 0, none⟩ = some x0 ∧ w.cell? ⟨b, 1, none⟩ = some x1 := by
 refine ⟨?_, ?_⟩ <;> (unfold World.cell?; dsimp only; rw [h]; rfl)
theorem outcome_any (n : Int) (w : World) : Calls Tryz.prog 97 #[.int .i64 n] w fun e w' => e = .returned (.bool (outX n)) ∧ w = w' := by
 unfold outX
 by_cases h : n = 1
 ·subst h; rw [dT (.inl rfl)]; go_enter Tryz.func97, Tryz.ntmps97; go_wp2; go_ret; exact ⟨rfl, rfl⟩
 by_cases g : n = 2
 ·subst g; rw [dT (.inr rfl)]; go_enter Tryz.func97, Tryz.ntmps97; go_wp2; go_ret; exact ⟨rfl, rfl⟩
 ·rw [dF (by omega)]; have h1 : (n == 1) = false := by simpa using h
  have h2 : (n == 2) = false := by simpa using g
  go_enter Tryz.func97, Tryz.ntmps97; go_wp2; go_ret; exact ⟨rfl, rfl⟩
theorem plainTime_t (x : Nat) (w : World) (h : Fl.dl x = true) : Calls Tryz.prog 98 #[.float .f64 x] w fun e w' => e = .returned (.bool (tmX x)) ∧ w = w' := by
 have e1 := ext_bits; have HD := hD (fun w => delay_ok x w h); have et : tmX x = (((Fl.plain x : Nat) : Int) == (x : Int)) := by
  unfold tmX; rw [h, Bool.eq_iff_iff]
  simp
  omega
 rw [et]; clear h et; go_enter Tryz.func98, Tryz.ntmps98; go_wp2_with (go_at_call 99; (with_reducible refine (HD.out _).mono ?_); rintro e w' ⟨rfl, rfl⟩)
 go_ret; exact ⟨rfl, rfl⟩
theorem plainTime_f (ads : List Addr) (x : Nat) (hx : x < 18446744073709551616) (w : World) (V : St ads w) (h : Fl.dl x = false) : Calls Tryz.prog 98 #[.float .f64 x] w fun e w' => e = .returned (.bool (tmX x)) ∧ Kp w w' := by
 obtain ⟨a3, c3⟩ : ∃ a3, w.cell? ⟨5, 0, none⟩ = some (snt a3) := ⟨_, V.cell 3 (by decide)⟩
 have HD := hD (delay_err x _ w hx h c3); have et : tmX x = false := by
  unfold tmX; rw [h]
  rfl
 rw [et]; clear h et V c3; go_enter Tryz.func98, Tryz.ntmps98; go_wp2_with (go_at_call 99; (with_reducible refine HD.out.mono ?_); rintro e w1 ⟨rfl, hk⟩; have K1 := hD hk; clear hk)
 go_ret; exact ⟨rfl, K1.out⟩
theorem plainTime_any (ads : List Addr) (x : Nat) (hx : x < 18446744073709551616) (w : World) (V : St ads w) : Calls Tryz.prog 98 #[.float .f64 x] w fun e w' => e = .returned (.bool (tmX x)) ∧ Kp w w' := by
 cases h : Fl.dl x with
 | true => exact (plainTime_t x w h).mono (by rintro e w' ⟨rfl, rfl⟩; exact ⟨rfl, Kp.refl _⟩)
 | false => exact plainTime_f ads x hx w V h
theorem sright_a (ads : List Addr) (n s o d : Int) (x : Nat) (hx : x < 18446744073709551616) (w : World) (V : St ads w) (T : Tab w) (hr : rightA n s = false) :
  Calls Tryz.prog 56 #[.agg #[n, s, o, d, x]] w fun e w' => e = .returned (.bool false) ∧ Kp w w' := by
 have HA := fun w1 (hk : Kp w w1) => right_any ads w1 (V.below hk) (T.kp hk) n s
 have HO := fun w1 => outcome_any o w1
 have HP := fun w1 (hk : Kp w w1) => plainTime_any ads x hx w1 (V.below hk)
 simp only [hr] at HA
 obtain ⟨HA, HO, HP⟩ := hD3 HA HO HP; have K0 := hD (kA w (.cells #[n, s, o, d, x] 60)); have HR := hD (mH w (.cells #[n, s, o, d, x] 60)); have hr0 := HR.out; obtain ⟨e0, e1, e2, e3, e4⟩ := cells5 hr0; clear V T hx hr hr0; go_enter Tryz.func56, Tryz.ntmps56; go_wp2_with (first
  | (go_at_call 65; (with_reducible refine (HA.out _ K0.out).mono ?_); rintro e w1 ⟨rfl, hk⟩; have K1 := hD (kT K0.out hk); have R1 := hD (rZ hk HR.out); obtain ⟨b0, b1, b2, b3, b4⟩ := cells5 R1.out; clear hk))
 go_ret; exact ⟨by first | rfl | simp, K1.out⟩
theorem sright_o (ads : List Addr) (n s o d : Int) (x : Nat) (hx : x < 18446744073709551616) (w : World) (V : St ads w) (T : Tab w) (hr : rightA n s = true) (ho : outX o = false) :
  Calls Tryz.prog 56 #[.agg #[n, s, o, d, x]] w fun e w' => e = .returned (.bool false) ∧ Kp w w' := by
 have HA := fun w1 (hk : Kp w w1) => right_any ads w1 (V.below hk) (T.kp hk) n s
 have HO := fun w1 => outcome_any o w1
 have HP := fun w1 (hk : Kp w w1) => plainTime_any ads x hx w1 (V.below hk)
 simp only [hr] at HA
 simp only [ho] at HO
 obtain ⟨HA, HO, HP⟩ := hD3 HA HO HP; have K0 := hD (kA w (.cells #[n, s, o, d, x] 60)); have HR := hD (mH w (.cells #[n, s, o, d, x] 60)); have hr0 := HR.out; obtain ⟨e0, e1, e2, e3, e4⟩ := cells5 hr0; clear V T hx hr hr0 ho; go_enter Tryz.func56, Tryz.ntmps56; go_wp2_with (first
  | (go_at_call 65; (with_reducible refine (HA.out _ K0.out).mono ?_); rintro e w1 ⟨rfl, hk⟩; have K1 := hD (kT K0.out hk); have R1 := hD (rZ hk HR.out); obtain ⟨b0, b1, b2, b3, b4⟩ := cells5 R1.out; clear hk)
  | (go_at_call 97; (with_reducible refine (HO.out _).mono ?_); rintro e w' ⟨rfl, rfl⟩))
 go_ret; exact ⟨by first | rfl | simp, K1.out⟩
theorem sright_d (ads : List Addr) (n s o d : Int) (x : Nat) (hx : x < 18446744073709551616) (w : World) (V : St ads w) (T : Tab w) (hr : rightA n s = true) (ho : outX o = true) (hd : d < 0) :
  Calls Tryz.prog 56 #[.agg #[n, s, o, d, x]] w fun e w' => e = .returned (.bool false) ∧ Kp w w' := by
 have HA := fun w1 (hk : Kp w w1) => right_any ads w1 (V.below hk) (T.kp hk) n s
 have HO := fun w1 => outcome_any o w1
 have HP := fun w1 (hk : Kp w w1) => plainTime_any ads x hx w1 (V.below hk)
 simp only [hr] at HA
 simp only [ho] at HO
 have hd1 : decide (0 ≤ d) = false := dF (by omega); obtain ⟨HA, HO, HP⟩ := hD3 HA HO HP; have K0 := hD (kA w (.cells #[n, s, o, d, x] 60)); have HR := hD (mH w (.cells #[n, s, o, d, x] 60)); have hr0 := HR.out; obtain ⟨e0, e1, e2, e3, e4⟩ := cells5 hr0; clear V T hx hr hr0 ho; go_enter Tryz.func56, Tryz.ntmps56; go_wp2_with (first
  | (go_at_call 65; (with_reducible refine (HA.out _ K0.out).mono ?_); rintro e w1 ⟨rfl, hk⟩; have K1 := hD (kT K0.out hk); have R1 := hD (rZ hk HR.out); obtain ⟨b0, b1, b2, b3, b4⟩ := cells5 R1.out; clear hk)
  | (go_at_call 97; (with_reducible refine (HO.out _).mono ?_); rintro e w' ⟨rfl, rfl⟩))
 go_ret; exact ⟨by first | rfl | simp, K1.out⟩
theorem sright_e (ads : List Addr) (n s o d : Int) (x : Nat) (hx : x < 18446744073709551616) (w : World) (V : St ads w) (T : Tab w) (hr : rightA n s = true) (ho : outX o = true) (hd : 3 < d) :
  Calls Tryz.prog 56 #[.agg #[n, s, o, d, x]] w fun e w' => e = .returned (.bool false) ∧ Kp w w' := by
 have HA := fun w1 (hk : Kp w w1) => right_any ads w1 (V.below hk) (T.kp hk) n s
 have HO := fun w1 => outcome_any o w1
 have HP := fun w1 (hk : Kp w w1) => plainTime_any ads x hx w1 (V.below hk)
 simp only [hr] at HA
 simp only [ho] at HO
 have hd1 : decide (0 ≤ d) = true := dT (by omega); have hd2 : decide (d ≤ 3) = false := dF (by omega); obtain ⟨HA, HO, HP⟩ := hD3 HA HO HP; have K0 := hD (kA w (.cells #[n, s, o, d, x] 60)); have HR := hD (mH w (.cells #[n, s, o, d, x] 60)); have hr0 := HR.out; obtain ⟨e0, e1, e2, e3, e4⟩ := cells5 hr0; clear V T hx hr hr0 ho; go_enter Tryz.func56, Tryz.ntmps56; go_wp2_with (first
  | (go_at_call 65; (with_reducible refine (HA.out _ K0.out).mono ?_); rintro e w1 ⟨rfl, hk⟩; have K1 := hD (kT K0.out hk); have R1 := hD (rZ hk HR.out); obtain ⟨b0, b1, b2, b3, b4⟩ := cells5 R1.out; clear hk)
  | (go_at_call 97; (with_reducible refine (HO.out _).mono ?_); rintro e w' ⟨rfl, rfl⟩))
 go_ret; exact ⟨by first | rfl | simp, K1.out⟩
theorem sright_p (ads : List Addr) (n s o d : Int) (x : Nat) (hx : x < 18446744073709551616) (w : World) (V : St ads w) (T : Tab w) (hr : rightA n s = true) (ho : outX o = true) (hd : 0 ≤ d ∧ d ≤ 3) :
  Calls Tryz.prog 56 #[.agg #[n, s, o, d, x]] w fun e w' => e = .returned (.bool (tmX x)) ∧ Kp w w' := by
 have HA := fun w1 (hk : Kp w w1) => right_any ads w1 (V.below hk) (T.kp hk) n s
 have HO := fun w1 => outcome_any o w1
 have HP := fun w1 (hk : Kp w w1) => plainTime_any ads x hx w1 (V.below hk)
 simp only [hr] at HA
 simp only [ho] at HO
 have hd1 : decide (0 ≤ d) = true := dT (by omega); have hd2 : decide (d ≤ 3) = true := dT (by omega); obtain ⟨HA, HO, HP⟩ := hD3 HA HO HP; have K0 := hD (kA w (.cells #[n, s, o, d, x] 60)); have HR := hD (mH w (.cells #[n, s, o, d, x] 60)); have hr0 := HR.out; obtain ⟨e0, e1, e2, e3, e4⟩ := cells5 hr0; clear V T hx hr hr0 ho; go_enter Tryz.func56, Tryz.ntmps56; go_wp2_with (first
  | (go_at_call 65; (with_reducible refine (HA.out _ K0.out).mono ?_); rintro e w1 ⟨rfl, hk⟩; have K1 := hD (kT K0.out hk); have R1 := hD (rZ hk HR.out); obtain ⟨b0, b1, b2, b3, b4⟩ := cells5 R1.out; clear hk)
  | (go_at_call 97; (with_reducible refine (HO.out _).mono ?_); rintro e w' ⟨rfl, rfl⟩)
  | (go_at_call 98; (with_reducible refine (HP.out _ K1.out).mono ?_); rintro e w2 ⟨rfl, hk⟩; have K2 := hD (kT K1.out hk); clear hk))
 go_ret; exact ⟨by first | rfl | simp, K2.out⟩
theorem scoRight_any (ads : List Addr) (c : CX) (hc : c.wf) (w : World) (V : St ads w) (T : Tab w) : Calls Tryz.prog 56 #[.agg c.cells] w fun e w' => e = .returned (.bool (rightX c)) ∧ Kp w w' := by
 obtain ⟨n, s, o, d, x⟩ := c; unfold rightX; dsimp only [CX.cells]
 cases hr : rightA n s with
 | false => exact sright_a ads n s o d x hc w V T hr
 | true =>
  cases ho : outX o with
  | false => exact sright_o ads n s o d x hc w V T hr ho
  | true =>
   by_cases h0 : d < 0
   ·rw [dF (show ¬ (0 ≤ d ∧ d ≤ 3) by omega)]; exact sright_d ads n s o d x hc w V T hr ho h0
   by_cases h3 : 3 < d
   ·rw [dF (show ¬ (0 ≤ d ∧ d ≤ 3) by omega)]; exact sright_e ads n s o d x hc w V T hr ho h3
   ·rw [dT (show 0 ≤ d ∧ d ≤ 3 by omega)]; exact sright_p ads n s o d x hc w V T hr ho (by omega)
theorem sopen_d (ads : List Addr) (n s o d : Int) (x t : Nat) (hx : x < 18446744073709551616) (ht : t < 18446744073709551616) (w : World) (V : St ads w) (T : Tab w) (hd : Fl.dl t = false) :
  Calls Tryz.prog 58 #[.agg #[n, s, o, d, x], .float .f64 t] w fun e w' => e = .returned (.bool false) ∧ Kp w w' := by
 have HT := fun w1 (hk : Kp w w1) => scoRight_any ads ⟨n, s, o, d, x⟩ hx w1 (V.below hk) (T.kp hk)
 have kb := kA w (.cells #[n, s, o, d, x] 60); obtain ⟨a3, c3⟩ : ∃ a3, w.cell? ⟨5, 0, none⟩ = some (snt a3) := ⟨_, V.cell 3 (by decide)⟩
 have HD := hD (delay_err t _ _ ht hd (kZ kb c3)); clear c3; obtain ⟨HT, K0⟩ := hD2 HT kb; have HR := hD (mH w (.cells #[n, s, o, d, x] 60)); have hr0 := HR.out; obtain ⟨e0, e1, e2, e3, e4⟩ := cells5 hr0; clear V T kb hr0; dsimp only [CX.cells] at HT; go_enter Tryz.func58, Tryz.ntmps58; go_wp2_with (first
  | (go_at_call 99; (with_reducible refine HD.out.mono ?_); rintro e w1 ⟨rfl, hk⟩; have K1 := hD (kT K0.out hk); clear hk))
 go_ret; exact ⟨by first | rfl | simp [*], K1.out⟩
theorem sopen_r (ads : List Addr) (n s o d : Int) (x t : Nat) (hx : x < 18446744073709551616) (ht : t < 18446744073709551616) (w : World) (V : St ads w) (T : Tab w) (hd : Fl.dl t = true) (hr : rightX ⟨n, s, o, d, x⟩ = false) :
  Calls Tryz.prog 58 #[.agg #[n, s, o, d, x], .float .f64 t] w fun e w' => e = .returned (.bool false) ∧ Kp w w' := by
 have HT := fun w1 (hk : Kp w w1) => scoRight_any ads ⟨n, s, o, d, x⟩ hx w1 (V.below hk) (T.kp hk)
 have kb := kA w (.cells #[n, s, o, d, x] 60); have _u := ht; clear _u; have HD := hD (fun w => delay_ok t w hd); simp only [hr] at HT
 obtain ⟨HT, K0⟩ := hD2 HT kb; have HR := hD (mH w (.cells #[n, s, o, d, x] 60)); have hr0 := HR.out; obtain ⟨e0, e1, e2, e3, e4⟩ := cells5 hr0; clear V T kb hr0; dsimp only [CX.cells] at HT; go_enter Tryz.func58, Tryz.ntmps58; go_wp2_with (first
  | (go_at_call 99; (with_reducible refine (HD.out _).mono ?_); rintro e w' ⟨rfl, rfl⟩)
  | (go_at_call 56; (with_reducible refine (HT.out _ K0.out).mono ?_); rintro e w2 ⟨rfl, hk⟩; have K1 := hD (kT K0.out hk); have R2 := hD (rZ hk HR.out); obtain ⟨b0, b1, b2, b3, b4⟩ := cells5 R2.out; clear hk))
 go_ret; exact ⟨by first | rfl | simp [*], K1.out⟩
theorem sopen_t (ads : List Addr) (n s o d : Int) (x t : Nat) (hx : x < 18446744073709551616) (ht : t < 18446744073709551616) (w : World) (V : St ads w) (T : Tab w) (hd : Fl.dl t = true) (hr : rightX ⟨n, s, o, d, x⟩ = true) (b : Bool) (hb : (FloatKind.f64.format.order (Fl.plain t) x == some .lt) = b) :
  Calls Tryz.prog 58 #[.agg #[n, s, o, d, x], .float .f64 t] w fun e w' => e = .returned (.bool b) ∧ Kp w w' := by
 have HT := fun w1 (hk : Kp w w1) => scoRight_any ads ⟨n, s, o, d, x⟩ hx w1 (V.below hk) (T.kp hk)
 have kb := kA w (.cells #[n, s, o, d, x] 60); have _u := ht; clear _u; have HD := hD (fun w => delay_ok t w hd); simp only [hr] at HT
 obtain ⟨HT, K0⟩ := hD2 HT kb; have HR := hD (mH w (.cells #[n, s, o, d, x] 60)); have hr0 := HR.out; obtain ⟨e0, e1, e2, e3, e4⟩ := cells5 hr0; clear V T kb hr0; dsimp only [CX.cells] at HT; go_enter Tryz.func58, Tryz.ntmps58; go_wp2_with (first
  | (go_at_call 99; (with_reducible refine (HD.out _).mono ?_); rintro e w' ⟨rfl, rfl⟩)
  | (go_at_call 56; (with_reducible refine (HT.out _ K0.out).mono ?_); rintro e w2 ⟨rfl, hk⟩; have K1 := hD (kT K0.out hk); have R2 := hD (rZ hk HR.out); obtain ⟨b0, b1, b2, b3, b4⟩ := cells5 R2.out; clear hk))
 go_ret; exact ⟨by first | rfl | simp [*], K1.out⟩
theorem flt9 {a b : Nat} (ha : a < 18446744073709551616) (hb : b < 18446744073709551616) : (FloatKind.f64.format.order a b == some .lt) = Fl.isLt a b := Fl.test_lt ha hb
theorem scoOpen_any (ads : List Addr) (c : CX) (t : Nat) (hc : c.wf) (ht : t < 18446744073709551616) (w : World) (V : St ads w) (T : Tab w) : Calls Tryz.prog 58 #[.agg c.cells, .float .f64 t] w fun e w' => e = .returned (.bool (openX c t)) ∧ Kp w w' := by
 obtain ⟨n, s, o, d, x⟩ := c; unfold openX
 cases hd : Fl.dl t with
 | false =>
  rw [Bool.false_and, Bool.and_false]; exact sopen_d ads n s o d x t hc ht w V T hd
 | true =>
  cases hr : rightX ⟨n, s, o, d, x⟩ with
  | false => exact sopen_r ads n s o d x t hc ht w V T hd hr
  | true =>
   refine sopen_t ads n s o d x t hc ht w V T hd hr _ ?_
   have hp := Fl.dl_plain hd; have hx := tmX_le (rightX_tm hr); dsimp only at hx ⊢; rw [flt9 (by omega) (by omega), Fl.dl_isLt (Fl.dl_of_le hp.1).1 (Fl.dl_of_le hx).1, (Fl.dl_of_le hp.1).2.2, (Fl.dl_of_le hx).2.2]
   rfl
theorem act_fields9 : Tryz.prog.underlying 24 = some (.struct (Tryz.prog.fieldsOf 24)) := by
 unfold Program.fieldsOf; rw [Tryz.underlying24]
theorem act_eql9 (n s n2 s2 : Int) (w : World) : (binOp .eql 24 (.agg #[n, s]) (.agg #[n2, s2])).run Tryz.prog w = .ok (.bool (decide (n = n2 ∧ s = s2))) w := by
 have ha : Tryz.prog.stoodInHeld 24 = false := by kernel_rfl
 rw [run_eql_struct, show (10000 : Nat) = 9999 + 1 from rfl, run_equalIn_agg w 9999 24 _ _ act_fields9 ha]
 simp [Program.fieldsOf, Tryz.underlying24, Op.eqFields, part, go_sem]
 by_cases h0 : n = n2
 rotate_left
 ·simp [h0]
 subst h0
 by_cases h1 : s = s2
 rotate_left
 ·simp [h1]
 subst h1
 simp [*]
theorem act_guard9 (op : BinOp) (x y : Operand) (n s n2 s2 : Int) (w : World) : (eqGuard op 24 x y (.agg #[n, s]) (.agg #[n2, s2])).run Tryz.prog w = .ok () w := run_eqGuard_agg w op 24 x y _ _ (by kernel_rfl)
theorem rQ {P : Program} {fn : Func} {p u : Tmp} {ty : TypeId} (h : fn.results = #[.cell p ty, .tmp u]) (tmps : Array Value) (w : World) (g : Nat) (t : TypeId) (cs : Array Value) (fr : Nat × Nat) (d : TypeDesc)
  (hp : tmps.getD p undef = .pointer (some ⟨g, 0, none⟩)) (hg : w.heap[g]? = some (.cells cs t fr))
  (hu : P.underlying ty = some d) (hd : (match d with | .struct _ | .array _ _ => true | _ => false) = true) (hi : (P.info? ty).map (·.size) = some cs.size) :
  (results fn tmps).run P w = .ok (.tuple #[.agg cs, tmps.getD u undef]) w := by
 have hp' : tmps[p]?.getD undef = .pointer (some ⟨g, 0, none⟩) := by simpa using hp
 simp [results, h, hp', asAddr, run_loadVar_row w g t ty cs fr d hg hu hd hi]
theorem cZ {b : Nat} {t : TypeId} {w : World} {x0 x1 x2 x3 x4 x5 x6 x7 x8 x9 x10 x11 x12 x13 : Value} (h : w.heap[b]? = some (.cells #[x0, x1, x2, x3, x4, x5, x6, x7, x8, x9, x10, x11, x12, x13] t (0, 0))) : w.cell? ⟨b, 0, none⟩ = some x0 ∧ w.cell? ⟨b, 1, none⟩ = some x1 ∧ w.cell? ⟨b, 2, none⟩ = some x2 ∧ w.cell? ⟨b, 3, none⟩ = some x3 ∧ w.cell? ⟨b, 4, none⟩ = some x4 ∧ w.cell? ⟨b, 5, none⟩ = some x5 ∧ w.cell? ⟨b, 6, none⟩ = some x6 ∧ w.cell? ⟨b, 7, none⟩ = some x7 ∧ w.cell? ⟨b, 8, none⟩ = some x8 ∧ w.cell? ⟨b, 9, none⟩ = some x9 ∧ w.cell? ⟨b, 10, none⟩ = some x10 ∧ w.cell? ⟨b, 11, none⟩ = some x11 ∧ w.cell? ⟨b, 12, none⟩ = some x12 ∧ w.cell? ⟨b, 13, none⟩ = some x13 := by
 refine ⟨?_, ?_, ?_, ?_, ?_, ?_, ?_, ?_, ?_, ?_, ?_, ?_, ?_, ?_⟩ <;> (unfold World.cell?; dsimp only; rw [h]; rfl)
theorem froz14 {b : Nat} {t : TypeId} {w : World} {cs : Array Value} (h : w.heap[b]? = some (.cells cs t (0, 0))) (i : Nat) : w.frozen? ⟨b, i, none⟩ = false := by
 unfold World.frozen?; dsimp only; rw [h]
 simp
theorem nX0 (w : World) (o o' : Obj) : ((w.alloc o).alloc o').heap[w.heap.size]? = some o := by
 rw [Below.heap_alloc _ _ _ (by simp)]; exact (mH w o)
theorem nX1 (w : World) (o o' : Obj) : ((w.alloc o).alloc o').heap[w.heap.size + 1]? = some o' := by
 have := (mH (w.alloc o) o')
 simpa using this
def numsF (l : List Int) (x : Nat) : Array Value := (l.map (Value.int .i64) ++ [Value.float .f64 x]).toArray
theorem numsF_cell {w : World} {B x : Nat} {l : List Int} {t : TypeId} (h : w.heap[B]? = some (.cells (numsF l x) t (0, 0))) (j : Nat) (hj : j < l.length) : w.cell? ⟨B, j, none⟩ = some (.int .i64 l[j]) := by
 unfold World.cell?; dsimp only; rw [h]
 simp [numsF, List.getElem?_append_left, hj]
theorem numsF_set {w : World} {B x : Nat} {l : List Int} {t : TypeId} (h : w.heap[B]? = some (.cells (numsF l x) t (0, 0))) (i : Nat) (hi : i < l.length) (y : Int) : (w.setCell ⟨B, i, none⟩ (.int .i64 y)).heap[B]? = some (.cells (numsF (l.set i y) x) t (0, 0)) := by
 rw [Joins.block_setCell h]
 congr 2
 simp [numsF, List.set_append_left, hi, List.map_set]
open Go.RowKit
structure Asd (O O' : Nat → Prop) (w w' : World) : Prop where
 os : w'.os = w.os
 tape : w'.tape = w.tape
 output : w'.output = w.output
 size : w.heap.size ≤ w'.heap.size
 block : ∀ b, b < w.heap.size → ¬ O b → w'.heap[b]? = w.heap[b]?
 own : ∀ b, O' b → O b ∨ w.heap.size ≤ b
theorem Asd.kp {O O' : Nat → Prop} {W w w' : World} (h : Asd O O' w w') (hk : Kp W w) (hO : ∀ b, O b → W.heap.size ≤ b) : Kp W w' :=
 ⟨h.os.trans hk.os, h.tape.trans hk.tape, h.output.trans hk.output, Nat.le_trans (Below.size hk) h.size, fun b hb => by
  rw [h.block b (Nat.lt_of_lt_of_le hb (Below.size hk)) (fun q => absurd (hO b q) (by omega))]; exact Below.block hk b hb⟩
theorem Asd.trans {P P' P'' : Nat → Prop} {a b c : World} (h : Asd P P' a b) (k : Asd P' P'' b c) : Asd P P'' a c :=
 ⟨k.os.trans h.os, k.tape.trans h.tape, k.output.trans h.output, Nat.le_trans h.size k.size, fun i hi hn => by
  rw [k.block i (Nat.lt_of_lt_of_le hi h.size) (fun q => by rcases h.own i q with q | q; exact hn q; omega)]; exact h.block i hi hn, fun i q => by
  rcases k.own i q with q | q
  ·exact h.own i q
  ·exact .inr (Nat.le_trans h.size q)⟩
theorem Asd.of_kp (P : Nat → Prop) {w w' : World} (h : Kp w w') : Asd P P w w' := ⟨h.os, h.tape, h.output, Below.size h, fun b hb _ => Below.block h b hb, fun _ q => .inl q⟩
def i64M (x : Int) : Prop := -9223372036854775808 ≤ x ∧ x ≤ 9223372036854775807
instance (x : Int) : Decidable (i64M x) := by unfold i64M; infer_instance
def seatV (z : SeatM) : Array Value := #[.int .i64 z.p, .int .i64 z.e, .int .i64 z.s, .int .i64 z.h]
def effV (y : EffM) : Array Value := #[.int .i64 y.z.p, .int .i64 y.z.e, .int .i64 y.z.s, .int .i64 y.z.h, .int .i64 y.send, .int .i64 y.fault, .int .i64 y.work, .bool y.changed]
def SeatM.ok (z : SeatM) : Prop := i64M z.p ∧ i64M z.e ∧ i64M z.s ∧ i64M z.h
def newS (p e : Int) : SeatM := if rightT p e = true then ⟨p, e, 1, 0⟩ else ⟨0, 0, 0, 0⟩
theorem refFailing_any (s : Int) (w : World) : Calls Tryz.prog 94 #[.int .i64 s] w fun e' w' => e' = .returned (.bool (failT s)) ∧ w = w' := by
 unfold failT
 by_cases h1 : 8 ≤ s
 ·by_cases h2 : s ≤ 11
  ·rw [dT (And.intro h1 h2)]
   (go_enter Tryz.func94, Tryz.ntmps94; go_wp2; go_ret; exact ⟨rfl, rfl⟩)
  ·rw [dF (fun q => h2 q.2)]
   (go_enter Tryz.func94, Tryz.ntmps94; go_wp2; go_ret; exact ⟨rfl, rfl⟩)
 ·rw [dF (fun q => h1 q.1)]
  (go_enter Tryz.func94, Tryz.ntmps94; go_wp2; go_ret; exact ⟨rfl, rfl⟩)
theorem refHas_any (p e s : Int) (w : World) : Calls Tryz.prog 122 #[.int .i64 p, .int .i64 e, .int .i64 s] w fun e' w' => e' = .returned (.bool (hasT p e s)) ∧ w = w' := by
 by_cases h4 : s = 4
 ·subst h4; rw [show hasT p e 4 = (p == 2) by simp [hasT]; rw [Bool.eq_iff_iff]; simp]
  (go_enter Tryz.func122, Tryz.ntmps122; go_wp2; go_ret; exact ⟨rfl, rfl⟩)
 by_cases h10 : s = 10
 ·subst h10; rw [show hasT p e 10 = (p == 2) by simp [hasT]; rw [Bool.eq_iff_iff]; simp]
  (go_enter Tryz.func122, Tryz.ntmps122; go_wp2; go_ret; exact ⟨rfl, rfl⟩)
 have b4 : (s == 4) = false := by simpa using h4
 have b10 : (s == 10) = false := by simpa using h10
 by_cases h3 : s = 3
 ·subst h3
  by_cases hp : p = 2
  ·subst hp; rw [show hasT 2 e 3 = (e == 1) by simp [hasT]; rw [Bool.eq_iff_iff]; simp]
   (go_enter Tryz.func122, Tryz.ntmps122; go_wp2; go_ret; exact ⟨rfl, rfl⟩)
  ·rw [show hasT p e 3 = false by simp [hasT, hp]]; have bp : (p == 2) = false := by simpa using hp
   (go_enter Tryz.func122, Tryz.ntmps122; go_wp2; go_ret; exact ⟨rfl, rfl⟩)
 have b3 : (s == 3) = false := by simpa using h3
 by_cases h1 : 1 ≤ s
 ·by_cases h2 : s ≤ 14
  ·rw [show hasT p e s = true by simp [hasT, h4, h10, h3, h1, h2]]
   (go_enter Tryz.func122, Tryz.ntmps122; go_wp2; go_ret; exact ⟨rfl, rfl⟩)
  ·rw [show hasT p e s = false by simp [hasT, h4, h10, h3, h2]]
   (go_enter Tryz.func122, Tryz.ntmps122; go_wp2; go_ret; exact ⟨rfl, rfl⟩)
 ·rw [show hasT p e s = false by simp [hasT, h4, h10, h3, h1]]
  (go_enter Tryz.func122, Tryz.ntmps122; go_wp2; go_ret; exact ⟨rfl, rfl⟩)
theorem refTakes_any (p e k : Int) (w : World) : Calls Tryz.prog 123 #[.int .i64 p, .int .i64 e, .int .i64 k] w fun e' w' => e' = .returned (.bool (takesT p e k)) ∧ w = w' := by
 by_cases he : e = 1
 ·subst he; rw [show takesT p 1 k = upT k from rfl]; unfold upT
  by_cases h1 : k = 1
  ·subst h1; rw [dT (Or.inl rfl)]
   (go_enter Tryz.func123, Tryz.ntmps123; go_wp2; go_ret; exact ⟨rfl, rfl⟩)
  have b1 : (k == 1) = false := by simpa using h1
  by_cases h2 : 3 ≤ k
  ·by_cases h3 : k ≤ 8
   ·rw [dT (Or.inr (And.intro h2 h3))]
    (go_enter Tryz.func123, Tryz.ntmps123; go_wp2; go_ret; exact ⟨rfl, rfl⟩)
   ·rw [dF (by omega)]
    (go_enter Tryz.func123, Tryz.ntmps123; go_wp2; go_ret; exact ⟨rfl, rfl⟩)
  ·rw [dF (by omega)]
   (go_enter Tryz.func123, Tryz.ntmps123; go_wp2; go_ret; exact ⟨rfl, rfl⟩)
 ·have be : (e == 1) = false := by simpa using he
  rw [show takesT p e k = downT p k from if_neg he]; unfold downT
  by_cases h2 : k = 2
  ·subst h2
   by_cases hp : p = 2
   ·subst hp; rw [dT (Or.inl ⟨rfl, rfl⟩)]
    (go_enter Tryz.func123, Tryz.ntmps123; go_wp2; go_ret; exact ⟨rfl, rfl⟩)
   ·have bp : (p == 2) = false := by simpa using hp
    rw [dF (by omega)]
    (go_enter Tryz.func123, Tryz.ntmps123; go_wp2; go_ret; exact ⟨rfl, rfl⟩)
  have b2 : (k == 2) = false := by simpa using h2
  by_cases h9 : 9 ≤ k
  ·by_cases h14 : k ≤ 14
   ·rw [dT (Or.inr (And.intro h9 h14))]
    (go_enter Tryz.func123, Tryz.ntmps123; go_wp2; go_ret; exact ⟨rfl, rfl⟩)
   ·rw [dF (by omega)]
    (go_enter Tryz.func123, Tryz.ntmps123; go_wp2; go_ret; exact ⟨rfl, rfl⟩)
  ·rw [dF (by omega)]
   (go_enter Tryz.func123, Tryz.ntmps123; go_wp2; go_ret; exact ⟨rfl, rfl⟩)
theorem refSends_any (p e k : Int) (w : World) : Calls Tryz.prog 134 #[.int .i64 p, .int .i64 e, .int .i64 k] w fun e' w' => e' = .returned (.bool (sendsT p e k)) ∧ w = w' := by
 by_cases he : e = 2
 ·subst he; rw [show sendsT p 2 k = upT k from rfl]; unfold upT
  by_cases h1 : k = 1
  ·subst h1; rw [dT (Or.inl rfl)]
   (go_enter Tryz.func134, Tryz.ntmps134; go_wp2; go_ret; exact ⟨rfl, rfl⟩)
  have b1 : (k == 1) = false := by simpa using h1
  by_cases h2 : 3 ≤ k
  ·by_cases h3 : k ≤ 8
   ·rw [dT (Or.inr (And.intro h2 h3))]
    (go_enter Tryz.func134, Tryz.ntmps134; go_wp2; go_ret; exact ⟨rfl, rfl⟩)
   ·rw [dF (by omega)]
    (go_enter Tryz.func134, Tryz.ntmps134; go_wp2; go_ret; exact ⟨rfl, rfl⟩)
  ·rw [dF (by omega)]
   (go_enter Tryz.func134, Tryz.ntmps134; go_wp2; go_ret; exact ⟨rfl, rfl⟩)
 ·have be : (e == 2) = false := by simpa using he
  rw [show sendsT p e k = downT p k from if_neg he]; unfold downT
  by_cases h2 : k = 2
  ·subst h2
   by_cases hp : p = 2
   ·subst hp; rw [dT (Or.inl ⟨rfl, rfl⟩)]
    (go_enter Tryz.func134, Tryz.ntmps134; go_wp2; go_ret; exact ⟨rfl, rfl⟩)
   ·have bp : (p == 2) = false := by simpa using hp
    rw [dF (by omega)]
    (go_enter Tryz.func134, Tryz.ntmps134; go_wp2; go_ret; exact ⟨rfl, rfl⟩)
  have b2 : (k == 2) = false := by simpa using h2
  by_cases h9 : 9 ≤ k
  ·by_cases h14 : k ≤ 14
   ·rw [dT (Or.inr (And.intro h9 h14))]
    (go_enter Tryz.func134, Tryz.ntmps134; go_wp2; go_ret; exact ⟨rfl, rfl⟩)
   ·rw [dF (by omega)]
    (go_enter Tryz.func134, Tryz.ntmps134; go_wp2; go_ret; exact ⟨rfl, rfl⟩)
  ·rw [dF (by omega)]
   (go_enter Tryz.func134, Tryz.ntmps134; go_wp2; go_ret; exact ⟨rfl, rfl⟩)
theorem refWaits_any (e s : Int) (w : World) : Calls Tryz.prog 52 #[.int .i64 e, .int .i64 s] w fun e' w' => e' = .returned (.int .i64 (waitT e s)) ∧ w = w' := by
 have HF := hD (fun s w => refFailing_any s w)
 by_cases he : e = 1
 ·subst he
  by_cases h : s = 2 ∨ s = 3 ∨ s = 4 ∨ s = 6 ∨ s = 7
  ·rcases h with rfl | rfl | rfl | rfl | rfl <;> (go_enter Tryz.func52, Tryz.ntmps52; go_wp2; go_ret; exact ⟨rfl, rfl⟩)
  ·have b2 : (s == 2) = false := by simp; omega
   have b3 : (s == 3) = false := by simp; omega
   have b4 : (s == 4) = false := by simp; omega
   have b6 : (s == 6) = false := by simp; omega
   have b7 : (s == 7) = false := by simp; omega
   rw [show waitT 1 s = 0 by unfold waitT; rw [if_pos rfl, if_neg (by omega), if_neg (by omega), if_neg (by omega), if_neg (by omega)]]
   (go_enter Tryz.func52, Tryz.ntmps52; go_wp2; go_ret; exact ⟨rfl, rfl⟩)
 ·have be : (e == 1) = false := by simpa using he
  by_cases h5 : s = 5
  ·subst h5; rw [show waitT e 5 = 3 by unfold waitT; rw [if_neg he]; rfl]
   (go_enter Tryz.func52, Tryz.ntmps52; go_wp2; go_ret; exact ⟨rfl, rfl⟩)
  have b5 : (s == 5) = false := by simpa using h5
  cases hf : failT s with
  | true =>
   have HF1 := hD (fun w => hf ▸ refFailing_any s w); rw [show waitT e s = 4 by unfold waitT; rw [if_neg he, if_neg h5, if_pos hf]]
   (go_enter Tryz.func52, Tryz.ntmps52; go_wp2_with (go_at_call 94; (with_reducible refine (HF1.out _).mono ?_); rintro e' w' ⟨rfl, rfl⟩); go_ret; exact ⟨rfl, rfl⟩)
  | false =>
   have HF1 := hD (fun w => hf ▸ refFailing_any s w)
   by_cases h12 : s = 12
   ·subst h12; rw [show waitT e 12 = 5 by unfold waitT; rw [if_neg he]; rfl]
    (go_enter Tryz.func52, Tryz.ntmps52; go_wp2_with (go_at_call 94; (with_reducible refine (HF1.out _).mono ?_); rintro e' w' ⟨rfl, rfl⟩); go_ret; exact ⟨rfl, rfl⟩)
   have b12 : (s == 12) = false := by simpa using h12
   by_cases h13 : s = 13
   ·subst h13; rw [show waitT e 13 = 1 by unfold waitT; rw [if_neg he]; rfl]
    (go_enter Tryz.func52, Tryz.ntmps52; go_wp2_with (go_at_call 94; (with_reducible refine (HF1.out _).mono ?_); rintro e' w' ⟨rfl, rfl⟩); go_ret; exact ⟨rfl, rfl⟩)
   have b13 : (s == 13) = false := by simpa using h13
   rw [show waitT e s = 0 by unfold waitT; rw [if_neg he, if_neg h5, if_neg (by rw [hf]; decide), if_neg h12, if_neg h13]]
   (go_enter Tryz.func52, Tryz.ntmps52; go_wp2_with (go_at_call 94; (with_reducible refine (HF1.out _).mono ?_); rintro e' w' ⟨rfl, rfl⟩); go_ret; exact ⟨rfl, rfl⟩)
theorem cells3 {b : Nat} {t : TypeId} {w : World} {x0 x1 x2 : Value} (h : w.heap[b]? = some (.cells #[x0, x1, x2] t (0, 0))) : w.cell? ⟨b, 0, none⟩ = some x0 ∧ w.cell? ⟨b, 1, none⟩ = some x1 ∧ w.cell? ⟨b, 2, none⟩ = some x2 := by
 refine ⟨?_, ?_, ?_⟩ <;> (unfold World.cell?; dsimp only; rw [h]; rfl)
theorem froz3 {b : Nat} {t : TypeId} {w : World} {cs : Array Value} (h : w.heap[b]? = some (.cells cs t (0, 0))) (i : Nat) : w.frozen? ⟨b, i, none⟩ = false := by
 unfold World.frozen?; dsimp only; rw [h]
 simp
theorem set3 {b : Nat} {t : TypeId} {w : World} {x0 x1 x2 : Value} (y0 y1 y2 : Value) (h : w.heap[b]? = some (.cells #[x0, x1, x2] t (0, 0))) : (((w.setCell ⟨b, 0, none⟩ y0).setCell ⟨b, 1, none⟩ y1).setCell ⟨b, 2, none⟩ y2).heap[b]? = some (.cells #[y0, y1, y2] t (0, 0)) := by
 have h1 : (w.setCell ⟨b, 0, none⟩ y0).heap[b]? = some (.cells #[y0, x1, x2] t (0, 0)) := (Joins.block_setCell h _).trans rfl; have h2 : ((w.setCell ⟨b, 0, none⟩ y0).setCell ⟨b, 1, none⟩ y1).heap[b]? = some (.cells #[y0, y1, x2] t (0, 0)) := (Joins.block_setCell h1 _).trans rfl; have h3 : (((w.setCell ⟨b, 0, none⟩ y0).setCell ⟨b, 1, none⟩ y1).setCell ⟨b, 2, none⟩ y2).heap[b]? = some (.cells #[y0, y1, y2] t (0, 0)) := (Joins.block_setCell h2 _).trans rfl; exact h3
theorem set3_kp {b : Nat} {w0 w : World} (hk : Kp w0 w) (hb : w0.heap.size ≤ b) (y0 y1 y2 : Value) : Kp w0 (((w.setCell ⟨b, 0, none⟩ y0).setCell ⟨b, 1, none⟩ y1).setCell ⟨b, 2, none⟩ y2) := by
 refine Below.setCell ?_ hb _
 refine Below.setCell ?_ hb _
 refine Below.setCell ?_ hb _
 exact hk
end Go.Proofs.YtncoofnhifcnhaaGreatDoor
