/-
  PARTS OF THIS PROOF (own work): IdsW, MusL, ScoR, ScoP, SetF.
-/
import Derived.Test.YtpemeenfhkgmpaaGreatDoorZs01
import Derived.Test.YtpemeenfhkgmpaaGreatDoorZs08
import Derived.Test.YtpemeenfhkgmpaaGreatDoorZs07
import Derived.Deep.RegionHeld3
import Derived.Laws.StructEq
import Derived.Test.YtpemeenfhkgmpaaGreatDoorZs02
import Derived.Lib.SmallJoins
namespace Go.Proofs.YtpemeenfhkgmpaaGreatDoor
open Go.RowKit Go.ChangeShapes Go.WideShapes

/-- a text, or ErrRange -/
def wrV (a : Addr) (ps : List (Int × Int)) (ns : List Int) (m : Nat) : Value :=
  if okU ps ns m = true then .tuple #[.string (strOfNums (wrU ps ns m)), .nilIface] else .tuple #[.string ⟨#[]⟩, snt a]

set_option maxRecDepth 20000 in
theorem write_any (ads : List Addr) (h0 : 0 < ads.length) (ps : List (Int × Int)) (ns : List Int) (m : Nat) (hm : ps.length = m) (hm2 : ns.length = m) (hm3 : m ≤ 3) (hb : ∀ j, j < m → (ps.getD j (0, 0)).2 ≤ 1000000)
    (v : Value) (gn cn : Nat) (w : World) (V : St ads w) (T : Tab w) (hp : PlC v ps w) (hn : ∀ j, j < m → w.cell? ⟨gn, j, none⟩ = some (.int .i64 (ns.getD j 0))) :
    Calls Tryz.prog 165 #[v, .slice (some ⟨gn, 0, none⟩) m cn] w fun e w' => e = .returned (wrV (ads[0]'h0) ps ns m) ∧ Kp w w' := by
  have hmf : ∀ (fn : Fn) (first cap : Array Value) (w : World), (Instr.makeFunc fn first cap).run Tryz.prog w = .ok (.func fn first cap) w := fun _ _ _ _ => rfl
  obtain ⟨gp, cp, rfl, hpc⟩ := hp
  rw [hm] at hpc ⊢
  have k1 := kp_alloc w (.cells #[.slice (some ⟨gp, 0, none⟩) m cp] 217)
  have k2 := Kp.trans k1 (kp_alloc (w.alloc (.cells #[.slice (some ⟨gp, 0, none⟩) m cp] 217)) (.cells #[.slice (some ⟨gn, 0, none⟩) m cn] 105))
  have c0 := kp_cell (kp_alloc (w.alloc (.cells #[.slice (some ⟨gp, 0, none⟩) m cp] 217)) (.cells #[.slice (some ⟨gn, 0, none⟩) m cn] 105)) (box_cell w (.slice (some ⟨gp, 0, none⟩) m cp) 217)
  have c1 := box_cell (w.alloc (.cells #[.slice (some ⟨gp, 0, none⟩) m cp] 217)) (.slice (some ⟨gn, 0, none⟩) m cn) 105
  rw [show (w.alloc (.cells #[.slice (some ⟨gp, 0, none⟩) m cp] 217)).heap.size = w.heap.size + 1 by simp] at c1
  have HB := fun w1 (hk : Kp ((w.alloc (.cells #[.slice (some ⟨gp, 0, none⟩) m cp] 217)).alloc (.cells #[.slice (some ⟨gn, 0, none⟩) m cn] 105)) w1) =>
    write1_any ads h0 ps ns m hm hm2 hm3 hb w.heap.size (w.heap.size + 1) gp cp gn cn w1 (V.below (Kp.trans k2 hk)) (T.kp (Kp.trans k2 hk)) (kp_cell hk c0) (kp_cell hk c1)
      (fun j hj => ⟨kp_cell (Kp.trans k2 hk) (hpc j (by omega)).1, kp_cell (Kp.trans k2 hk) (hpc j (by omega)).2⟩) (fun j hj => kp_cell (Kp.trans k2 hk) (hn j hj))
  have K2 := Lib.hid k2
  by_cases hok : okU ps ns m = true
  · have e1 : wrV (ads[0]'h0) ps ns m = .tuple #[.string (strOfNums (wrU ps ns m)), .nilIface] := if_pos hok
    rw [e1]
    have HT := Lib.hid (try_str_val 172 #[.pointer (some ⟨w.heap.size, 0, none⟩), .pointer (some ⟨w.heap.size + 1, 0, none⟩)] (strOfNums (wrU ps ns m)) ((w.alloc (.cells #[.slice (some ⟨gp, 0, none⟩) m cp] 217)).alloc (.cells #[.slice (some ⟨gn, 0, none⟩) m cn] 105)) (by intro w; simp [go_sem])
      (fun w1 hk => (HB w1 hk).mono (by
        rintro e w2 ⟨⟨_, rfl⟩ | ⟨h, _⟩, hk2⟩
        · exact ⟨rfl, hk2⟩
        · rw [hok] at h; cases h)))
    clear HB c0 c1 k1 k2 hpc hn V T hb e1 hok
    go_enter Tryz.func165, Tryz.ntmps165
    go_wp2_with (go_at_call 171; (with_reducible refine HT.out.mono ?_); rintro e w' ⟨rfl, hk⟩; have HK := Lib.hid (Kp.trans K2.out hk); clear hk)
    go_ret2
    exact ⟨rfl, HK.out⟩
  · have e1 : wrV (ads[0]'h0) ps ns m = .tuple #[.string ⟨#[]⟩, snt (ads[0]'h0)] := if_neg hok
    rw [e1]
    have HT := Lib.hid (try_str_err ads 0 h0 172 #[.pointer (some ⟨w.heap.size, 0, none⟩), .pointer (some ⟨w.heap.size + 1, 0, none⟩)] ((w.alloc (.cells #[.slice (some ⟨gp, 0, none⟩) m cp] 217)).alloc (.cells #[.slice (some ⟨gn, 0, none⟩) m cn] 105)) (V.below k2) (by intro w; simp [go_sem])
      (fun w1 hk => (HB w1 hk).mono (by
        rintro e w2 ⟨⟨h, _⟩ | ⟨_, rfl⟩, hk2⟩
        · exact absurd h hok
        · exact ⟨rfl, hk2⟩)))
    clear HB c0 c1 k1 k2 hpc hn V T hb e1 hok
    go_enter Tryz.func165, Tryz.ntmps165
    go_wp2_with (go_at_call 171; (with_reducible refine HT.out.mono ?_); rintro e w' ⟨rfl, hk⟩; have HK := Lib.hid (Kp.trans K2.out hk); clear hk)
    go_ret2
    exact ⟨rfl, HK.out⟩

theorem errI_one (ads : List Addr) (h0 : 0 < ads.length) : errI ads 1 = snt (ads[0]'h0) := by
  unfold errI
  rw [if_neg (by decide), show ((1 : Int) - 1).toNat = 0 from rfl, List.getElem?_eq_getElem h0]
theorem act_wr (ads : List Addr) (h0 : 0 < ads.length) (n s : Int) : wrV (ads[0]'h0) actL [n, s] 2 = textR ads (actO n s) := by
  unfold wrV actO
  have e : okU actL [n, s] 2 = rightA n s := by simp [okU, actL, rightA, Bool.and_assoc]
  rw [e]
  split
  · simp [textR, wrU, actL, actT]
  · simp only [textR]; rw [errI_one ads h0]
theorem textR_form (ads : List Addr) (o : Option (List Int)) : ∃ s e, textR ads o = .tuple #[.string s, e] := by
  cases o <;> exact ⟨_, _, rfl⟩
theorem ints_cells (w : World) (ns : List Int) (j : Nat) (hj : j < ns.length) : (w.alloc (.cells (ns.map (Value.int .i64)).toArray 3)).cell? ⟨w.heap.size, j, none⟩ = some (.int .i64 (ns.getD j 0)) := by
  have hr := (MapKept.heap_alloc w (.cells (ns.map (Value.int .i64)).toArray 3)).1
  unfold World.cell?
  dsimp only
  rw [hr]
  simp [List.getD, hj]

set_option maxRecDepth 20000 in
set_option maxHeartbeats 1000000 in
theorem act_any (ads : List Addr) (w : World) (V : St ads w) (T : Tab w) (n s : Int) :
    Calls Tryz.prog 159 #[.agg #[.int .i64 n, .int .i64 s]] w fun e w' => e = .returned (textR ads (actO n s)) ∧ Kp w w' := by
  have h0 : 0 < ads.length := by rw [V.len]; decide
  have HWR := fun v gn w1 (hk : Kp w w1) (hp : PlC v actL w1) (hn : ∀ j, j < 2 → w1.cell? ⟨gn, j, none⟩ = some (.int .i64 ([n, s].getD j 0))) => write_any ads h0 actL [n, s] 2 rfl rfl (by decide) (by decide) v gn 2 w1 (V.below hk) (T.kp hk) hp hn
  rw [act_wr ads h0] at HWR
  obtain ⟨tx, er, htx⟩ := textR_form ads (actO n s)
  rw [htx] at HWR ⊢
  have HWR := Lib.hid HWR
  clear htx V T
  have k0 := kp_alloc w (.cells #[.int .i64 n, .int .i64 s] 36)
  have hr := (MapKept.heap_alloc w (.cells #[.int .i64 n, .int .i64 s] 36)).1
  go_enter Tryz.func159, Tryz.ntmps159
  go_wp2
  obtain ⟨w0, hw0⟩ : ∃ x, w.alloc (.cells #[.int .i64 n, .int .i64 s] 36) = x := ⟨_, rfl⟩
  obtain ⟨p0, hp0⟩ : ∃ x, w.heap.size = x := ⟨_, rfl⟩
  rw [hw0] at k0 hr ⊢
  rw [hp0] at hr ⊢
  have b0 : w0.cell? ⟨p0, 0, none⟩ = some (.int .i64 n) := by unfold World.cell?; dsimp only; rw [hr]; rfl
  have b1 : w0.cell? ⟨p0, 1, none⟩ = some (.int .i64 s) := by unfold World.cell?; dsimp only; rw [hr]; rfl
  have K0 := Lib.hid k0
  clear hr hw0 k0 hp0
  refine wp_region_held_drew (S := fun w' => Kp w0 w') (by kernel_rfl) ?_ (fun hHeld => ?_)
  · exact (Kp.refl w0).drew
  refine tkW ?_ 1 ?_ ?_; rotate_left
  · intro w hSw; go_simp; try rfl
  go_simp
  refine tkW ?_ 2 ?_ ?_; rotate_left
  · intro w hSw; have q := kp_cell hSw b0; go_simp; try rfl
  go_simp
  refine tkW ?_ 3 ?_ ?_; rotate_left
  · intro w hSw; go_simp; try rfl
  go_simp
  refine tkW ?_ 4 ?_ ?_; rotate_left
  · intro w hSw; have q := kp_cell hSw b1; go_simp; try rfl
  go_simp
  refine wpAnyH_ready (rs := [0, 5]) (by kernel_rfl) (by simp) ?_
  refine AllReadyH.cons rfl (fun K hK => ?_) (AllReadyH.cons rfl (fun K hK => ?_) AllReadyH.nil)
  · go_simp
    go_wp2_with (go_at_call 166; (with_reducible refine (actPl_any _).mono ?_); rintro e w1 ⟨v, rfl, hp, hk⟩; have HP0 := Lib.hid hp; have K1 := Lib.hid (Kp.trans hHeld hk); clear hp hk)
    refine hK.out _ _ ?_ (fun hHeld => ?_)
    · exact K1.out
    clear hK K
    refine wpAnyH_ready (rs := [5]) (by kernel_rfl) (by simp) ?_
    refine AllReadyH.cons rfl (fun K hK => ?_) AllReadyH.nil
    go_simp
    refine hK.out _ _ ?_ (fun hHeld => ?_)
    · exact Kp.trans K1.out (kp_alloc _ _)
    clear hK K
    have HP := Lib.hid (HP0.out.kp (kp_alloc w1 (.cells #[.int .i64 n, .int .i64 s] 3)))
    have KK := Lib.hid (Kp.trans K1.out (kp_alloc w1 (.cells #[.int .i64 n, .int .i64 s] 3)))
    have HN := Lib.hid (show ∀ j, j < 2 → (w1.alloc (.cells #[.int .i64 n, .int .i64 s] 3)).cell? ⟨w1.heap.size, j, none⟩ = some (.int .i64 ([n, s].getD j 0)) from ints_cells w1 [n, s])
    refine wpAnyH_ready (rs := [6]) (by kernel_rfl) (by simp) ?_
    refine AllReadyH.cons rfl (fun K hK => ?_) AllReadyH.nil
    go_simp
    go_wp2_with (go_at_call 165; (with_reducible refine (HWR.out _ _ _ (Kp.trans K0.out KK.out) HP.out HN.out).mono ?_); rintro e w3 ⟨rfl, hk⟩; have KK := Lib.hid (Kp.trans KK.out hk); clear hk)
    refine hK.out _ _ ?_ (fun hHeld => ?_)
    · exact KK.out
    clear hK K
    refine tkW ?_ 7 ?_ ?_; rotate_left
    · intro w hSw; go_simp; try rfl
    go_simp
    refine tkW ?_ 8 ?_ ?_; rotate_left
    · intro w hSw; go_simp; try rfl
    go_simp
    refine tkW ?_ 9 ?_ ?_; rotate_left
    · intro w hSw; go_simp; try rfl
    go_simp
    refine tkW ?_ 10 ?_ ?_; rotate_left
    · intro w hSw; go_simp; try rfl
    go_simp
    refine wpAnyH_done (by kernel_rfl) ?_ _
    go_wp2
    go_ret2
    exact ⟨rfl, Kp.trans K0.out hHeld⟩
  · go_simp
    refine hK.out _ _ ?_ (fun hHeld => ?_)
    · exact Kp.trans (Kp.refl w0).drew (kp_alloc _ _)
    clear hK K
    have HN0 := show ∀ j, j < 2 → (w0.drew.alloc (.cells #[.int .i64 n, .int .i64 s] 3)).cell? ⟨w0.heap.size, j, none⟩ = some (.int .i64 ([n, s].getD j 0)) from ints_cells w0.drew [n, s]
    refine wpAnyH_ready (rs := [0]) (by kernel_rfl) (by simp) ?_
    refine AllReadyH.cons rfl (fun K hK => ?_) AllReadyH.nil
    go_simp
    go_wp2_with (go_at_call 166; (with_reducible refine (actPl_any _).mono ?_); rintro e w1 ⟨v, rfl, hp, hk⟩; have HP := Lib.hid hp; have KK := Lib.hid (Kp.trans hHeld hk); have HN := Lib.hid (fun j hj => kp_cell hk (HN0 j hj)); clear hp hk)
    refine hK.out _ _ ?_ (fun hHeld => ?_)
    · exact KK.out
    clear hK K
    refine wpAnyH_ready (rs := [6]) (by kernel_rfl) (by simp) ?_
    refine AllReadyH.cons rfl (fun K hK => ?_) AllReadyH.nil
    go_simp
    go_wp2_with (go_at_call 165; (with_reducible refine (HWR.out _ _ _ (Kp.trans K0.out KK.out) HP.out HN.out).mono ?_); rintro e w3 ⟨rfl, hk⟩; have KK := Lib.hid (Kp.trans KK.out hk); clear hk)
    refine hK.out _ _ ?_ (fun hHeld => ?_)
    · exact KK.out
    clear hK K
    refine tkW ?_ 7 ?_ ?_; rotate_left
    · intro w hSw; go_simp; try rfl
    go_simp
    refine tkW ?_ 8 ?_ ?_; rotate_left
    · intro w hSw; go_simp; try rfl
    go_simp
    refine tkW ?_ 9 ?_ ?_; rotate_left
    · intro w hSw; go_simp; try rfl
    go_simp
    refine tkW ?_ 10 ?_ ?_; rotate_left
    · intro w hSw; go_simp; try rfl
    go_simp
    refine wpAnyH_done (by kernel_rfl) ?_ _
    go_wp2
    go_ret2
    exact ⟨rfl, Kp.trans K0.out hHeld⟩

set_option maxRecDepth 20000 in
theorem right_any (ads : List Addr) (w : World) (V : St ads w) (T : Tab w) (n s : Int) :
    Calls Tryz.prog 144 #[.agg #[.int .i64 n, .int .i64 s]] w fun e w' => e = .returned (.bool (rightA n s)) ∧ Kp w w' := by
  have h0 : 0 < ads.length := by rw [V.len]; decide
  have k0 := kp_alloc w (.cells #[.int .i64 n, .int .i64 s] 36)
  have HA := act_any ads _ (V.below k0) (T.kp k0) n s
  have K0 := Lib.hid k0
  cases hr : rightA n s with
  | true =>
    have e1 : actO n s = some (actT n.toNat s.toNat) := by unfold actO; rw [if_pos hr]
    rw [e1] at HA
    simp only [textR] at HA
    have HA := Lib.hid HA
    clear V T k0 e1 hr
    go_enter Tryz.func144, Tryz.ntmps144
    go_wp2_with (go_at_call 159; (with_reducible refine HA.out.mono ?_); rintro e w1 ⟨rfl, hk⟩; have KK := Lib.hid (Kp.trans K0.out hk); clear hk)
    go_ret
    exact ⟨rfl, KK.out⟩
  | false =>
    have e1 : actO n s = none := by unfold actO; rw [hr]; rfl
    rw [e1] at HA
    simp only [textR] at HA
    rw [errI_one ads h0] at HA
    obtain ⟨a0, ha0⟩ : ∃ a, ads[0]'h0 = a := ⟨_, rfl⟩
    rw [ha0] at HA
    have HA := Lib.hid HA
    clear V T k0 e1 hr ha0
    go_enter Tryz.func144, Tryz.ntmps144
    go_wp2_with (go_at_call 159; (with_reducible refine HA.out.mono ?_); rintro e w1 ⟨rfl, hk⟩; have KK := Lib.hid (Kp.trans K0.out hk); clear hk)
    go_ret
    exact ⟨rfl, KK.out⟩
open Go.RowKit Go.ChangeShapes Go.WideShapes

theorem check_t (w : World) : Calls Tryz.prog 83 #[.nilIface] w fun e w' => e = .returned (.tuple #[]) ∧ w = w' := by
  go_enter Tryz.func83, Tryz.ntmps83
  go_wp2
  go_end0
  exact ⟨rfl, rfl⟩
theorem check_f (a : Addr) (w : World) : Calls Tryz.prog 83 #[snt a] w fun e w' => e = .panicked [{ v := snt a, recovered := false }] ∧ w = w' := by
  have hpn := panic_some (P := Tryz.prog) 240 (.pointer (some a)) w
  go_enter Tryz.func83, Tryz.ntmps83
  go_wp2
  exact ⟨rfl, rfl, rfl⟩
theorem must_bytes_t (v : Value) (w : World) : Calls Tryz.prog 47 #[v, .nilIface] w fun e w' => e = .returned v ∧ w = w' := by
  go_enter Tryz.func47, Tryz.ntmps47
  go_wp2_with (go_at_call 83; (with_reducible refine (check_t _).mono ?_); rintro e w' ⟨rfl, rfl⟩)
  go_ret
  exact ⟨rfl, rfl⟩
theorem must_bytes_f (v : Value) (a : Addr) (w : World) : Calls Tryz.prog 47 #[v, snt a] w fun e w' => e = .panicked [{ v := snt a, recovered := false }] ∧ w = w' := by
  go_enter Tryz.func47, Tryz.ntmps47
  go_wp2_with (go_at_call 83; (with_reducible refine (check_f _ _).mono ?_); rintro e w' ⟨rfl, rfl⟩)
  exact ⟨rfl, rfl, rfl⟩
theorem must_fields_t (v : Value) (w : World) : Calls Tryz.prog 93 #[v, .nilIface] w fun e w' => e = .returned v ∧ w = w' := by
  go_enter Tryz.func93, Tryz.ntmps93
  go_wp2_with (go_at_call 83; (with_reducible refine (check_t _).mono ?_); rintro e w' ⟨rfl, rfl⟩)
  go_ret
  exact ⟨rfl, rfl⟩
theorem must_fields_f (v : Value) (a : Addr) (w : World) : Calls Tryz.prog 93 #[v, snt a] w fun e w' => e = .panicked [{ v := snt a, recovered := false }] ∧ w = w' := by
  go_enter Tryz.func93, Tryz.ntmps93
  go_wp2_with (go_at_call 83; (with_reducible refine (check_f _ _).mono ?_); rintro e w' ⟨rfl, rfl⟩)
  exact ⟨rfl, rfl, rfl⟩
open Go.RowKit Go.ChangeShapes Go.WideShapes

theorem two_cells {b : Nat} {t : TypeId} {w : World} {x0 x1 : Value} (h : w.heap[b]? = some (.cells #[x0, x1] t (0, 0))) : w.cell? ⟨b, 0, none⟩ = some x0 ∧ w.cell? ⟨b, 1, none⟩ = some x1 := by
  refine ⟨?_, ?_⟩ <;> (unfold World.cell?; dsimp only; rw [h]; rfl)
theorem sbits_any (b : Nat) (w : World) (hb : b < 18446744073709551616) :
    Calls Tryz.prog 98 #[.float .f64 b] w fun e w' => e = .returned (.int .u64 (Fl.plain b)) ∧ w = w' := by
  have e1 := ext_bits
  go_enter Tryz.func98, Tryz.ntmps98
  go_wp2_with (go_at_call 141; (with_reducible refine (plain_any _ _ hb).mono ?_); rintro e w' ⟨rfl, rfl⟩)
  go_ret
  exact ⟨rfl, rfl⟩
theorem outcome_any (n : Int) (w : World) : Calls Tryz.prog 157 #[.int .i64 n] w fun e w' => e = .returned (.bool (outX n)) ∧ w = w' := by
  unfold outX
  by_cases h : n = 1
  · subst h
    rw [decide_eq_true (.inl rfl)]
    go_enter Tryz.func157, Tryz.ntmps157
    go_wp2
    go_ret
    exact ⟨rfl, rfl⟩
  by_cases g : n = 2
  · subst g
    rw [decide_eq_true (.inr rfl)]
    go_enter Tryz.func157, Tryz.ntmps157
    go_wp2
    go_ret
    exact ⟨rfl, rfl⟩
  · rw [decide_eq_false (by omega)]
    have h1 : (n == 1) = false := by simpa using h
    have h2 : (n == 2) = false := by simpa using g
    go_enter Tryz.func157, Tryz.ntmps157
    go_wp2
    go_ret
    exact ⟨rfl, rfl⟩
theorem plainTime_t (x : Nat) (w : World) (h : Fl.dl x = true) : Calls Tryz.prog 158 #[.float .f64 x] w fun e w' => e = .returned (.bool (tmX x)) ∧ w = w' := by
  have e1 := ext_bits
  have HD := Lib.hid (fun w => delay_ok x w h)
  have et : tmX x = (((Fl.plain x : Nat) : Int) == (x : Int)) := by
    unfold tmX
    rw [h, Bool.eq_iff_iff]
    simp
    omega
  rw [et]
  clear h et
  go_enter Tryz.func158, Tryz.ntmps158
  go_wp2_with (go_at_call 164; (with_reducible refine (HD.out _).mono ?_); rintro e w' ⟨rfl, rfl⟩)
  go_ret
  exact ⟨rfl, rfl⟩
theorem plainTime_f (ads : List Addr) (x : Nat) (hx : x < 18446744073709551616) (w : World) (V : St ads w) (h : Fl.dl x = false) : Calls Tryz.prog 158 #[.float .f64 x] w fun e w' => e = .returned (.bool (tmX x)) ∧ Kp w w' := by
  obtain ⟨a3, c3⟩ : ∃ a3, w.cell? ⟨3, 0, none⟩ = some (snt a3) := ⟨_, V.cell 3 (by decide)⟩
  have HD := Lib.hid (delay_err x _ w hx h c3)
  have et : tmX x = false := by
    unfold tmX
    rw [h]
    rfl
  rw [et]
  clear h et V c3
  go_enter Tryz.func158, Tryz.ntmps158
  go_wp2_with (go_at_call 164; (with_reducible refine HD.out.mono ?_); rintro e w1 ⟨rfl, hk⟩; have K1 := Lib.hid hk; clear hk)
  go_ret
  exact ⟨rfl, K1.out⟩
theorem plainTime_any (ads : List Addr) (x : Nat) (hx : x < 18446744073709551616) (w : World) (V : St ads w) : Calls Tryz.prog 158 #[.float .f64 x] w fun e w' => e = .returned (.bool (tmX x)) ∧ Kp w w' := by
  cases h : Fl.dl x with
  | true => exact (plainTime_t x w h).mono (by rintro e w' ⟨rfl, rfl⟩; exact ⟨rfl, Kp.refl _⟩)
  | false => exact plainTime_f ads x hx w V h
set_option maxRecDepth 100000 in
set_option maxHeartbeats 2000000 in
theorem sright_a (ads : List Addr) (n s o d : Int) (x : Nat) (hx : x < 18446744073709551616) (w : World) (V : St ads w) (T : Tab w) (hr : rightA n s = false) :
    Calls Tryz.prog 143 #[.agg #[.int .i64 n, .int .i64 s, .int .i64 o, .int .i64 d, .float .f64 x]] w fun e w' => e = .returned (.bool false) ∧ Kp w w' := by
  have HA := fun w1 (hk : Kp w w1) => right_any ads w1 (V.below hk) (T.kp hk) n s
  have HO := fun w1 => outcome_any o w1
  have HP := fun w1 (hk : Kp w w1) => plainTime_any ads x hx w1 (V.below hk)
  simp only [hr] at HA
  have HA := Lib.hid HA
  have HO := Lib.hid HO
  have HP := Lib.hid HP
  have K0 := Lib.hid (kp_alloc w (.cells #[.int .i64 n, .int .i64 s, .int .i64 o, .int .i64 d, .float .f64 x] 62))
  have HR := Lib.hid (MapKept.heap_alloc w (.cells #[.int .i64 n, .int .i64 s, .int .i64 o, .int .i64 d, .float .f64 x] 62)).1
  have hr0 := HR.out
  obtain ⟨e0, e1, e2, e3, e4⟩ := cells5 hr0
  clear V T hx hr hr0
  go_enter Tryz.func143, Tryz.ntmps143
  go_wp2_with (first
    | (go_at_call 144; (with_reducible refine (HA.out _ K0.out).mono ?_); rintro e w1 ⟨rfl, hk⟩; have K1 := Lib.hid (Kp.trans K0.out hk); have R1 := Lib.hid (kp_row hk HR.out); obtain ⟨b0, b1, b2, b3, b4⟩ := cells5 R1.out; clear hk))
  go_ret
  exact ⟨by first | rfl | simp, K1.out⟩
set_option maxRecDepth 100000 in
set_option maxHeartbeats 2000000 in
theorem sright_o (ads : List Addr) (n s o d : Int) (x : Nat) (hx : x < 18446744073709551616) (w : World) (V : St ads w) (T : Tab w) (hr : rightA n s = true) (ho : outX o = false) :
    Calls Tryz.prog 143 #[.agg #[.int .i64 n, .int .i64 s, .int .i64 o, .int .i64 d, .float .f64 x]] w fun e w' => e = .returned (.bool false) ∧ Kp w w' := by
  have HA := fun w1 (hk : Kp w w1) => right_any ads w1 (V.below hk) (T.kp hk) n s
  have HO := fun w1 => outcome_any o w1
  have HP := fun w1 (hk : Kp w w1) => plainTime_any ads x hx w1 (V.below hk)
  simp only [hr] at HA
  simp only [ho] at HO
  have HA := Lib.hid HA
  have HO := Lib.hid HO
  have HP := Lib.hid HP
  have K0 := Lib.hid (kp_alloc w (.cells #[.int .i64 n, .int .i64 s, .int .i64 o, .int .i64 d, .float .f64 x] 62))
  have HR := Lib.hid (MapKept.heap_alloc w (.cells #[.int .i64 n, .int .i64 s, .int .i64 o, .int .i64 d, .float .f64 x] 62)).1
  have hr0 := HR.out
  obtain ⟨e0, e1, e2, e3, e4⟩ := cells5 hr0
  clear V T hx hr hr0 ho
  go_enter Tryz.func143, Tryz.ntmps143
  go_wp2_with (first
    | (go_at_call 144; (with_reducible refine (HA.out _ K0.out).mono ?_); rintro e w1 ⟨rfl, hk⟩; have K1 := Lib.hid (Kp.trans K0.out hk); have R1 := Lib.hid (kp_row hk HR.out); obtain ⟨b0, b1, b2, b3, b4⟩ := cells5 R1.out; clear hk)
    | (go_at_call 157; (with_reducible refine (HO.out _).mono ?_); rintro e w' ⟨rfl, rfl⟩))
  go_ret
  exact ⟨by first | rfl | simp, K1.out⟩
set_option maxRecDepth 100000 in
set_option maxHeartbeats 2000000 in
theorem sright_d (ads : List Addr) (n s o d : Int) (x : Nat) (hx : x < 18446744073709551616) (w : World) (V : St ads w) (T : Tab w) (hr : rightA n s = true) (ho : outX o = true) (hd : d < 0) :
    Calls Tryz.prog 143 #[.agg #[.int .i64 n, .int .i64 s, .int .i64 o, .int .i64 d, .float .f64 x]] w fun e w' => e = .returned (.bool false) ∧ Kp w w' := by
  have HA := fun w1 (hk : Kp w w1) => right_any ads w1 (V.below hk) (T.kp hk) n s
  have HO := fun w1 => outcome_any o w1
  have HP := fun w1 (hk : Kp w w1) => plainTime_any ads x hx w1 (V.below hk)
  simp only [hr] at HA
  simp only [ho] at HO
  have hd1 : decide (0 ≤ d) = false := decide_eq_false (by omega)
  have HA := Lib.hid HA
  have HO := Lib.hid HO
  have HP := Lib.hid HP
  have K0 := Lib.hid (kp_alloc w (.cells #[.int .i64 n, .int .i64 s, .int .i64 o, .int .i64 d, .float .f64 x] 62))
  have HR := Lib.hid (MapKept.heap_alloc w (.cells #[.int .i64 n, .int .i64 s, .int .i64 o, .int .i64 d, .float .f64 x] 62)).1
  have hr0 := HR.out
  obtain ⟨e0, e1, e2, e3, e4⟩ := cells5 hr0
  clear V T hx hr hr0 ho
  go_enter Tryz.func143, Tryz.ntmps143
  go_wp2_with (first
    | (go_at_call 144; (with_reducible refine (HA.out _ K0.out).mono ?_); rintro e w1 ⟨rfl, hk⟩; have K1 := Lib.hid (Kp.trans K0.out hk); have R1 := Lib.hid (kp_row hk HR.out); obtain ⟨b0, b1, b2, b3, b4⟩ := cells5 R1.out; clear hk)
    | (go_at_call 157; (with_reducible refine (HO.out _).mono ?_); rintro e w' ⟨rfl, rfl⟩))
  go_ret
  exact ⟨by first | rfl | simp, K1.out⟩
set_option maxRecDepth 100000 in
set_option maxHeartbeats 2000000 in
theorem sright_e (ads : List Addr) (n s o d : Int) (x : Nat) (hx : x < 18446744073709551616) (w : World) (V : St ads w) (T : Tab w) (hr : rightA n s = true) (ho : outX o = true) (hd : 3 < d) :
    Calls Tryz.prog 143 #[.agg #[.int .i64 n, .int .i64 s, .int .i64 o, .int .i64 d, .float .f64 x]] w fun e w' => e = .returned (.bool false) ∧ Kp w w' := by
  have HA := fun w1 (hk : Kp w w1) => right_any ads w1 (V.below hk) (T.kp hk) n s
  have HO := fun w1 => outcome_any o w1
  have HP := fun w1 (hk : Kp w w1) => plainTime_any ads x hx w1 (V.below hk)
  simp only [hr] at HA
  simp only [ho] at HO
  have hd1 : decide (0 ≤ d) = true := decide_eq_true (by omega)
  have hd2 : decide (d ≤ 3) = false := decide_eq_false (by omega)
  have HA := Lib.hid HA
  have HO := Lib.hid HO
  have HP := Lib.hid HP
  have K0 := Lib.hid (kp_alloc w (.cells #[.int .i64 n, .int .i64 s, .int .i64 o, .int .i64 d, .float .f64 x] 62))
  have HR := Lib.hid (MapKept.heap_alloc w (.cells #[.int .i64 n, .int .i64 s, .int .i64 o, .int .i64 d, .float .f64 x] 62)).1
  have hr0 := HR.out
  obtain ⟨e0, e1, e2, e3, e4⟩ := cells5 hr0
  clear V T hx hr hr0 ho
  go_enter Tryz.func143, Tryz.ntmps143
  go_wp2_with (first
    | (go_at_call 144; (with_reducible refine (HA.out _ K0.out).mono ?_); rintro e w1 ⟨rfl, hk⟩; have K1 := Lib.hid (Kp.trans K0.out hk); have R1 := Lib.hid (kp_row hk HR.out); obtain ⟨b0, b1, b2, b3, b4⟩ := cells5 R1.out; clear hk)
    | (go_at_call 157; (with_reducible refine (HO.out _).mono ?_); rintro e w' ⟨rfl, rfl⟩))
  go_ret
  exact ⟨by first | rfl | simp, K1.out⟩
set_option maxRecDepth 100000 in
set_option maxHeartbeats 2000000 in
theorem sright_p (ads : List Addr) (n s o d : Int) (x : Nat) (hx : x < 18446744073709551616) (w : World) (V : St ads w) (T : Tab w) (hr : rightA n s = true) (ho : outX o = true) (hd : 0 ≤ d ∧ d ≤ 3) :
    Calls Tryz.prog 143 #[.agg #[.int .i64 n, .int .i64 s, .int .i64 o, .int .i64 d, .float .f64 x]] w fun e w' => e = .returned (.bool (tmX x)) ∧ Kp w w' := by
  have HA := fun w1 (hk : Kp w w1) => right_any ads w1 (V.below hk) (T.kp hk) n s
  have HO := fun w1 => outcome_any o w1
  have HP := fun w1 (hk : Kp w w1) => plainTime_any ads x hx w1 (V.below hk)
  simp only [hr] at HA
  simp only [ho] at HO
  have hd1 : decide (0 ≤ d) = true := decide_eq_true (by omega)
  have hd2 : decide (d ≤ 3) = true := decide_eq_true (by omega)
  have HA := Lib.hid HA
  have HO := Lib.hid HO
  have HP := Lib.hid HP
  have K0 := Lib.hid (kp_alloc w (.cells #[.int .i64 n, .int .i64 s, .int .i64 o, .int .i64 d, .float .f64 x] 62))
  have HR := Lib.hid (MapKept.heap_alloc w (.cells #[.int .i64 n, .int .i64 s, .int .i64 o, .int .i64 d, .float .f64 x] 62)).1
  have hr0 := HR.out
  obtain ⟨e0, e1, e2, e3, e4⟩ := cells5 hr0
  clear V T hx hr hr0 ho
  go_enter Tryz.func143, Tryz.ntmps143
  go_wp2_with (first
    | (go_at_call 144; (with_reducible refine (HA.out _ K0.out).mono ?_); rintro e w1 ⟨rfl, hk⟩; have K1 := Lib.hid (Kp.trans K0.out hk); have R1 := Lib.hid (kp_row hk HR.out); obtain ⟨b0, b1, b2, b3, b4⟩ := cells5 R1.out; clear hk)
    | (go_at_call 157; (with_reducible refine (HO.out _).mono ?_); rintro e w' ⟨rfl, rfl⟩)
    | (go_at_call 158; (with_reducible refine (HP.out _ K1.out).mono ?_); rintro e w2 ⟨rfl, hk⟩; have K2 := Lib.hid (Kp.trans K1.out hk); clear hk))
  go_ret
  exact ⟨by first | rfl | simp, K2.out⟩
/-- WHICH CONTEXTS ARE RIGHT. -/
theorem scoRight_any (ads : List Addr) (c : CX) (hc : c.wf) (w : World) (V : St ads w) (T : Tab w) : Calls Tryz.prog 143 #[.agg c.cells] w fun e w' => e = .returned (.bool (rightX c)) ∧ Kp w w' := by
  obtain ⟨n, s, o, d, x⟩ := c
  unfold rightX
  dsimp only [CX.cells]
  cases hr : rightA n s with
  | false => exact sright_a ads n s o d x hc w V T hr
  | true =>
    cases ho : outX o with
    | false => exact sright_o ads n s o d x hc w V T hr ho
    | true =>
      by_cases h0 : d < 0
      · rw [decide_eq_false (show ¬ (0 ≤ d ∧ d ≤ 3) by omega)]
        exact sright_d ads n s o d x hc w V T hr ho h0
      by_cases h3 : 3 < d
      · rw [decide_eq_false (show ¬ (0 ≤ d ∧ d ≤ 3) by omega)]
        exact sright_e ads n s o d x hc w V T hr ho h3
      · rw [decide_eq_true (show 0 ≤ d ∧ d ≤ 3 by omega)]
        exact sright_p ads n s o d x hc w V T hr ho (by omega)
theorem act_fields9 : Tryz.prog.underlying 36 = some (.struct (Tryz.prog.fieldsOf 36)) := by
  unfold Program.fieldsOf
  rw [Tryz.underlying36]
theorem act_eql9 (n s n2 s2 : Int) (w : World) : (binOp .eql 36 (.agg #[.int .i64 n, .int .i64 s]) (.agg #[.int .i64 n2, .int .i64 s2])).run Tryz.prog w = .ok (.bool (decide (n = n2 ∧ s = s2))) w := by
  have ha : Tryz.prog.stoodInHeld 36 = false := by kernel_rfl
  rw [run_eql_struct, show (10000 : Nat) = 9999 + 1 from rfl, run_equalIn_agg w 9999 36 _ _ act_fields9 ha]
  simp [Program.fieldsOf, Tryz.underlying36, Op.eqFields, part, go_sem]
  by_cases h0 : n = n2
  rotate_left
  · simp [h0]
  subst h0
  by_cases h1 : s = s2
  rotate_left
  · simp [h1]
  subst h1
  simp [*]
theorem act_guard9 (op : BinOp) (x y : Operand) (n s n2 s2 : Int) (w : World) : (eqGuard op 36 x y (.agg #[.int .i64 n, .int .i64 s]) (.agg #[.int .i64 n2, .int .i64 s2])).run Tryz.prog w = .ok () w := run_eqGuard_agg w op 36 x y _ _ (by kernel_rfl)
open Go.RowKit Go.ChangeShapes Go.WideShapes

theorem errN_nil (ads : List Addr) : errN ads 0 = .nilIface := rfl
theorem errN_1 (ads : List Addr) (h0 : 0 < ads.length) : errN ads 1 = snt (ads[0]'h0) := by unfold errN; simp [List.getElem?_eq_getElem h0]
theorem errN_4 (ads : List Addr) (h3 : 3 < ads.length) : errN ads 4 = snt (ads[3]'h3) := by unfold errN; simp [List.getElem?_eq_getElem h3]
theorem toNum_err (bs : List Int) : (toNum bs).2 = 0 ∨ (toNum bs).2 = 1 ∨ (toNum bs).2 = 4 := by
  unfold toNum
  split
  · exact .inr (.inr rfl)
  split
  · exact .inr (.inl rfl)
  split
  · exact .inr (.inl rfl)
  · exact .inl rfl
open Go.RowKit Go.ChangeShapes Go.WideShapes

theorem cells14 {b : Nat} {t : TypeId} {w : World} {x0 x1 x2 x3 x4 x5 x6 x7 x8 x9 x10 x11 x12 x13 : Value} (h : w.heap[b]? = some (.cells #[x0, x1, x2, x3, x4, x5, x6, x7, x8, x9, x10, x11, x12, x13] t (0, 0))) : w.cell? ⟨b, 0, none⟩ = some x0 ∧ w.cell? ⟨b, 1, none⟩ = some x1 ∧ w.cell? ⟨b, 2, none⟩ = some x2 ∧ w.cell? ⟨b, 3, none⟩ = some x3 ∧ w.cell? ⟨b, 4, none⟩ = some x4 ∧ w.cell? ⟨b, 5, none⟩ = some x5 ∧ w.cell? ⟨b, 6, none⟩ = some x6 ∧ w.cell? ⟨b, 7, none⟩ = some x7 ∧ w.cell? ⟨b, 8, none⟩ = some x8 ∧ w.cell? ⟨b, 9, none⟩ = some x9 ∧ w.cell? ⟨b, 10, none⟩ = some x10 ∧ w.cell? ⟨b, 11, none⟩ = some x11 ∧ w.cell? ⟨b, 12, none⟩ = some x12 ∧ w.cell? ⟨b, 13, none⟩ = some x13 := by
  refine ⟨?_, ?_, ?_, ?_, ?_, ?_, ?_, ?_, ?_, ?_, ?_, ?_, ?_, ?_⟩ <;> (unfold World.cell?; dsimp only; rw [h]; rfl)
theorem froz14 {b : Nat} {t : TypeId} {w : World} {cs : Array Value} (h : w.heap[b]? = some (.cells cs t (0, 0))) (i : Nat) : w.frozen? ⟨b, i, none⟩ = false := by
  unfold World.frozen?
  dsimp only
  rw [h]
  simp
theorem set14 {b : Nat} {t : TypeId} {w : World} {x0 x1 x2 x3 x4 x5 x6 x7 x8 x9 x10 x11 x12 x13 : Value} (y0 y1 y2 y3 y4 y5 y6 y7 y8 y9 y10 y11 y12 y13 : Value) (h : w.heap[b]? = some (.cells #[x0, x1, x2, x3, x4, x5, x6, x7, x8, x9, x10, x11, x12, x13] t (0, 0))) : ((((((((((((((w.setCell ⟨b, 0, none⟩ y0).setCell ⟨b, 1, none⟩ y1).setCell ⟨b, 2, none⟩ y2).setCell ⟨b, 3, none⟩ y3).setCell ⟨b, 4, none⟩ y4).setCell ⟨b, 5, none⟩ y5).setCell ⟨b, 6, none⟩ y6).setCell ⟨b, 7, none⟩ y7).setCell ⟨b, 8, none⟩ y8).setCell ⟨b, 9, none⟩ y9).setCell ⟨b, 10, none⟩ y10).setCell ⟨b, 11, none⟩ y11).setCell ⟨b, 12, none⟩ y12).setCell ⟨b, 13, none⟩ y13).heap[b]? = some (.cells #[y0, y1, y2, y3, y4, y5, y6, y7, y8, y9, y10, y11, y12, y13] t (0, 0)) := by
  have h1 : (w.setCell ⟨b, 0, none⟩ y0).heap[b]? = some (.cells #[y0, x1, x2, x3, x4, x5, x6, x7, x8, x9, x10, x11, x12, x13] t (0, 0)) := (Joins.block_setCell h _).trans rfl
  have h2 : ((w.setCell ⟨b, 0, none⟩ y0).setCell ⟨b, 1, none⟩ y1).heap[b]? = some (.cells #[y0, y1, x2, x3, x4, x5, x6, x7, x8, x9, x10, x11, x12, x13] t (0, 0)) := (Joins.block_setCell h1 _).trans rfl
  have h3 : (((w.setCell ⟨b, 0, none⟩ y0).setCell ⟨b, 1, none⟩ y1).setCell ⟨b, 2, none⟩ y2).heap[b]? = some (.cells #[y0, y1, y2, x3, x4, x5, x6, x7, x8, x9, x10, x11, x12, x13] t (0, 0)) := (Joins.block_setCell h2 _).trans rfl
  have h4 : ((((w.setCell ⟨b, 0, none⟩ y0).setCell ⟨b, 1, none⟩ y1).setCell ⟨b, 2, none⟩ y2).setCell ⟨b, 3, none⟩ y3).heap[b]? = some (.cells #[y0, y1, y2, y3, x4, x5, x6, x7, x8, x9, x10, x11, x12, x13] t (0, 0)) := (Joins.block_setCell h3 _).trans rfl
  have h5 : (((((w.setCell ⟨b, 0, none⟩ y0).setCell ⟨b, 1, none⟩ y1).setCell ⟨b, 2, none⟩ y2).setCell ⟨b, 3, none⟩ y3).setCell ⟨b, 4, none⟩ y4).heap[b]? = some (.cells #[y0, y1, y2, y3, y4, x5, x6, x7, x8, x9, x10, x11, x12, x13] t (0, 0)) := (Joins.block_setCell h4 _).trans rfl
  have h6 : ((((((w.setCell ⟨b, 0, none⟩ y0).setCell ⟨b, 1, none⟩ y1).setCell ⟨b, 2, none⟩ y2).setCell ⟨b, 3, none⟩ y3).setCell ⟨b, 4, none⟩ y4).setCell ⟨b, 5, none⟩ y5).heap[b]? = some (.cells #[y0, y1, y2, y3, y4, y5, x6, x7, x8, x9, x10, x11, x12, x13] t (0, 0)) := (Joins.block_setCell h5 _).trans rfl
  have h7 : (((((((w.setCell ⟨b, 0, none⟩ y0).setCell ⟨b, 1, none⟩ y1).setCell ⟨b, 2, none⟩ y2).setCell ⟨b, 3, none⟩ y3).setCell ⟨b, 4, none⟩ y4).setCell ⟨b, 5, none⟩ y5).setCell ⟨b, 6, none⟩ y6).heap[b]? = some (.cells #[y0, y1, y2, y3, y4, y5, y6, x7, x8, x9, x10, x11, x12, x13] t (0, 0)) := (Joins.block_setCell h6 _).trans rfl
  have h8 : ((((((((w.setCell ⟨b, 0, none⟩ y0).setCell ⟨b, 1, none⟩ y1).setCell ⟨b, 2, none⟩ y2).setCell ⟨b, 3, none⟩ y3).setCell ⟨b, 4, none⟩ y4).setCell ⟨b, 5, none⟩ y5).setCell ⟨b, 6, none⟩ y6).setCell ⟨b, 7, none⟩ y7).heap[b]? = some (.cells #[y0, y1, y2, y3, y4, y5, y6, y7, x8, x9, x10, x11, x12, x13] t (0, 0)) := (Joins.block_setCell h7 _).trans rfl
  have h9 : (((((((((w.setCell ⟨b, 0, none⟩ y0).setCell ⟨b, 1, none⟩ y1).setCell ⟨b, 2, none⟩ y2).setCell ⟨b, 3, none⟩ y3).setCell ⟨b, 4, none⟩ y4).setCell ⟨b, 5, none⟩ y5).setCell ⟨b, 6, none⟩ y6).setCell ⟨b, 7, none⟩ y7).setCell ⟨b, 8, none⟩ y8).heap[b]? = some (.cells #[y0, y1, y2, y3, y4, y5, y6, y7, y8, x9, x10, x11, x12, x13] t (0, 0)) := (Joins.block_setCell h8 _).trans rfl
  have h10 : ((((((((((w.setCell ⟨b, 0, none⟩ y0).setCell ⟨b, 1, none⟩ y1).setCell ⟨b, 2, none⟩ y2).setCell ⟨b, 3, none⟩ y3).setCell ⟨b, 4, none⟩ y4).setCell ⟨b, 5, none⟩ y5).setCell ⟨b, 6, none⟩ y6).setCell ⟨b, 7, none⟩ y7).setCell ⟨b, 8, none⟩ y8).setCell ⟨b, 9, none⟩ y9).heap[b]? = some (.cells #[y0, y1, y2, y3, y4, y5, y6, y7, y8, y9, x10, x11, x12, x13] t (0, 0)) := (Joins.block_setCell h9 _).trans rfl
  have h11 : (((((((((((w.setCell ⟨b, 0, none⟩ y0).setCell ⟨b, 1, none⟩ y1).setCell ⟨b, 2, none⟩ y2).setCell ⟨b, 3, none⟩ y3).setCell ⟨b, 4, none⟩ y4).setCell ⟨b, 5, none⟩ y5).setCell ⟨b, 6, none⟩ y6).setCell ⟨b, 7, none⟩ y7).setCell ⟨b, 8, none⟩ y8).setCell ⟨b, 9, none⟩ y9).setCell ⟨b, 10, none⟩ y10).heap[b]? = some (.cells #[y0, y1, y2, y3, y4, y5, y6, y7, y8, y9, y10, x11, x12, x13] t (0, 0)) := (Joins.block_setCell h10 _).trans rfl
  have h12 : ((((((((((((w.setCell ⟨b, 0, none⟩ y0).setCell ⟨b, 1, none⟩ y1).setCell ⟨b, 2, none⟩ y2).setCell ⟨b, 3, none⟩ y3).setCell ⟨b, 4, none⟩ y4).setCell ⟨b, 5, none⟩ y5).setCell ⟨b, 6, none⟩ y6).setCell ⟨b, 7, none⟩ y7).setCell ⟨b, 8, none⟩ y8).setCell ⟨b, 9, none⟩ y9).setCell ⟨b, 10, none⟩ y10).setCell ⟨b, 11, none⟩ y11).heap[b]? = some (.cells #[y0, y1, y2, y3, y4, y5, y6, y7, y8, y9, y10, y11, x12, x13] t (0, 0)) := (Joins.block_setCell h11 _).trans rfl
  have h13 : (((((((((((((w.setCell ⟨b, 0, none⟩ y0).setCell ⟨b, 1, none⟩ y1).setCell ⟨b, 2, none⟩ y2).setCell ⟨b, 3, none⟩ y3).setCell ⟨b, 4, none⟩ y4).setCell ⟨b, 5, none⟩ y5).setCell ⟨b, 6, none⟩ y6).setCell ⟨b, 7, none⟩ y7).setCell ⟨b, 8, none⟩ y8).setCell ⟨b, 9, none⟩ y9).setCell ⟨b, 10, none⟩ y10).setCell ⟨b, 11, none⟩ y11).setCell ⟨b, 12, none⟩ y12).heap[b]? = some (.cells #[y0, y1, y2, y3, y4, y5, y6, y7, y8, y9, y10, y11, y12, x13] t (0, 0)) := (Joins.block_setCell h12 _).trans rfl
  have h14 : ((((((((((((((w.setCell ⟨b, 0, none⟩ y0).setCell ⟨b, 1, none⟩ y1).setCell ⟨b, 2, none⟩ y2).setCell ⟨b, 3, none⟩ y3).setCell ⟨b, 4, none⟩ y4).setCell ⟨b, 5, none⟩ y5).setCell ⟨b, 6, none⟩ y6).setCell ⟨b, 7, none⟩ y7).setCell ⟨b, 8, none⟩ y8).setCell ⟨b, 9, none⟩ y9).setCell ⟨b, 10, none⟩ y10).setCell ⟨b, 11, none⟩ y11).setCell ⟨b, 12, none⟩ y12).setCell ⟨b, 13, none⟩ y13).heap[b]? = some (.cells #[y0, y1, y2, y3, y4, y5, y6, y7, y8, y9, y10, y11, y12, y13] t (0, 0)) := (Joins.block_setCell h13 _).trans rfl
  exact h14
theorem set14_kp {b : Nat} {w0 w : World} (hk : Kp w0 w) (hb : w0.heap.size ≤ b) (y0 y1 y2 y3 y4 y5 y6 y7 y8 y9 y10 y11 y12 y13 : Value) : Kp w0 ((((((((((((((w.setCell ⟨b, 0, none⟩ y0).setCell ⟨b, 1, none⟩ y1).setCell ⟨b, 2, none⟩ y2).setCell ⟨b, 3, none⟩ y3).setCell ⟨b, 4, none⟩ y4).setCell ⟨b, 5, none⟩ y5).setCell ⟨b, 6, none⟩ y6).setCell ⟨b, 7, none⟩ y7).setCell ⟨b, 8, none⟩ y8).setCell ⟨b, 9, none⟩ y9).setCell ⟨b, 10, none⟩ y10).setCell ⟨b, 11, none⟩ y11).setCell ⟨b, 12, none⟩ y12).setCell ⟨b, 13, none⟩ y13) := by
  refine Below.setCell ?_ hb _
  refine Below.setCell ?_ hb _
  refine Below.setCell ?_ hb _
  refine Below.setCell ?_ hb _
  refine Below.setCell ?_ hb _
  refine Below.setCell ?_ hb _
  refine Below.setCell ?_ hb _
  refine Below.setCell ?_ hb _
  refine Below.setCell ?_ hb _
  refine Below.setCell ?_ hb _
  refine Below.setCell ?_ hb _
  refine Below.setCell ?_ hb _
  refine Below.setCell ?_ hb _
  refine Below.setCell ?_ hb _
  exact hk
theorem new14_0 (w : World) (o o' : Obj) : ((w.alloc o).alloc o').heap[w.heap.size]? = some o := by
  rw [Below.heap_alloc _ _ _ (by simp)]
  exact (MapKept.heap_alloc w o).1
theorem new14_1 (w : World) (o o' : Obj) : ((w.alloc o).alloc o').heap[w.heap.size + 1]? = some o' := by
  have := (MapKept.heap_alloc (w.alloc o) o').1
  simpa using this
/-- a fact's cells, of a list of numbers and a time -/
def numsF (l : List Int) (x : Nat) : Array Value := (l.map (Value.int .i64) ++ [Value.float .f64 x]).toArray
theorem numsF_cell {w : World} {B x : Nat} {l : List Int} {t : TypeId} (h : w.heap[B]? = some (.cells (numsF l x) t (0, 0))) (j : Nat) (hj : j < l.length) : w.cell? ⟨B, j, none⟩ = some (.int .i64 l[j]) := by
  unfold World.cell?
  dsimp only
  rw [h]
  simp [numsF, List.getElem?_append_left, hj]
theorem numsF_last {w : World} {B x : Nat} {l : List Int} {t : TypeId} (h : w.heap[B]? = some (.cells (numsF l x) t (0, 0))) (hl : l.length = 13) : w.cell? ⟨B, 13, none⟩ = some (.float .f64 x) := by
  unfold World.cell?
  dsimp only
  rw [h]
  obtain ⟨k, n, s, r, e, p, q, o, d, a, t, hh, c, rfl⟩ := thirteen hl
  rfl
theorem numsF_set {w : World} {B x : Nat} {l : List Int} {t : TypeId} (h : w.heap[B]? = some (.cells (numsF l x) t (0, 0))) (i : Nat) (hi : i < l.length) (y : Int) : (w.setCell ⟨B, i, none⟩ (.int .i64 y)).heap[B]? = some (.cells (numsF (l.set i y) x) t (0, 0)) := by
  rw [Joins.block_setCell h]
  congr 2
  simp [numsF, List.set_append_left, hi, List.map_set]
theorem numsF_setX {w : World} {B x : Nat} {l : List Int} {t : TypeId} (h : w.heap[B]? = some (.cells (numsF l x) t (0, 0))) (hl : l.length = 13) (y : Nat) : (w.setCell ⟨B, 13, none⟩ (.float .f64 y)).heap[B]? = some (.cells (numsF l y) t (0, 0)) := by
  rw [Joins.block_setCell h]
  congr 2
  obtain ⟨k, n, s, r, e, p, q, o, d, a, t, hh, c, rfl⟩ := thirteen hl
  rfl
end Go.Proofs.YtpemeenfhkgmpaaGreatDoor
