/-
  PACKAGE ids' TEXTS (own work): write, Node, Act, Reg, Part, Right.
-/
import Derived.Test.YtldamfpoemgkpaaDoorWriI
import Derived.Test.YtldamfpoemgkpaaDoorTryS
namespace Go.Proofs.YtldamfpoemgkpaaDoor
open Go.RowKit Go.ChangeShapes Go.WideShapes

/-- a text, or ErrRange -/
def wrV (a : Addr) (ps : List (Int × Int)) (ns : List Int) (m : Nat) : Value :=
  if okU ps ns m = true then .tuple #[.string (strOfNums (wrU ps ns m)), .nilIface] else .tuple #[.string ⟨#[]⟩, snt a]

set_option maxRecDepth 20000 in
theorem write_any (ads : List Addr) (h0 : 0 < ads.length) (ps : List (Int × Int)) (ns : List Int) (m : Nat) (hm : ps.length = m) (hm2 : ns.length = m) (hm3 : m ≤ 3) (hb : ∀ j, j < m → (ps.getD j (0, 0)).2 ≤ 1000000)
    (v : Value) (gn cn : Nat) (w : World) (V : St ads w) (T : Tab w) (hp : PlC v ps w) (hn : ∀ j, j < m → w.cell? ⟨gn, j, none⟩ = some (.int .i64 (ns.getD j 0))) :
    Calls Tryd.prog 57 #[v, .slice (some ⟨gn, 0, none⟩) m cn] w fun e w' => e = .returned (wrV (ads[0]'h0) ps ns m) ∧ Kp w w' := by
  have hmf : ∀ (fn : Fn) (first cap : Array Value) (w : World), (Instr.makeFunc fn first cap).run Tryd.prog w = .ok (.func fn first cap) w := fun _ _ _ _ => rfl
  obtain ⟨gp, cp, rfl, hpc⟩ := hp
  rw [hm] at hpc ⊢
  have k1 := kp_alloc w (.cells #[.slice (some ⟨gp, 0, none⟩) m cp] 90)
  have k2 := Kp.trans k1 (kp_alloc (w.alloc (.cells #[.slice (some ⟨gp, 0, none⟩) m cp] 90)) (.cells #[.slice (some ⟨gn, 0, none⟩) m cn] 92))
  have c0 := kp_cell (kp_alloc (w.alloc (.cells #[.slice (some ⟨gp, 0, none⟩) m cp] 90)) (.cells #[.slice (some ⟨gn, 0, none⟩) m cn] 92)) (box_cell w (.slice (some ⟨gp, 0, none⟩) m cp) 90)
  have c1 := box_cell (w.alloc (.cells #[.slice (some ⟨gp, 0, none⟩) m cp] 90)) (.slice (some ⟨gn, 0, none⟩) m cn) 92
  rw [show (w.alloc (.cells #[.slice (some ⟨gp, 0, none⟩) m cp] 90)).heap.size = w.heap.size + 1 by simp] at c1
  have HB := fun w1 (hk : Kp ((w.alloc (.cells #[.slice (some ⟨gp, 0, none⟩) m cp] 90)).alloc (.cells #[.slice (some ⟨gn, 0, none⟩) m cn] 92)) w1) =>
    write1_any ads h0 ps ns m hm hm2 hm3 hb w.heap.size (w.heap.size + 1) gp cp gn cn w1 (V.below (Kp.trans k2 hk)) (T.kp (Kp.trans k2 hk)) (kp_cell hk c0) (kp_cell hk c1)
      (fun j hj => ⟨kp_cell (Kp.trans k2 hk) (hpc j (by omega)).1, kp_cell (Kp.trans k2 hk) (hpc j (by omega)).2⟩) (fun j hj => kp_cell (Kp.trans k2 hk) (hn j hj))
  have K2 := Lib.hid k2
  by_cases hok : okU ps ns m = true
  · have e1 : wrV (ads[0]'h0) ps ns m = .tuple #[.string (strOfNums (wrU ps ns m)), .nilIface] := if_pos hok
    rw [e1]
    have HT := Lib.hid (try_str_val 61 #[.pointer (some ⟨w.heap.size, 0, none⟩), .pointer (some ⟨w.heap.size + 1, 0, none⟩)] (strOfNums (wrU ps ns m)) ((w.alloc (.cells #[.slice (some ⟨gp, 0, none⟩) m cp] 90)).alloc (.cells #[.slice (some ⟨gn, 0, none⟩) m cn] 92)) (by intro w; simp [go_sem])
      (fun w1 hk => (HB w1 hk).mono (by
        rintro e w2 ⟨⟨_, rfl⟩ | ⟨h, _⟩, hk2⟩
        · exact ⟨rfl, hk2⟩
        · rw [hok] at h; cases h)))
    clear HB c0 c1 k1 k2 hpc hn V T hb e1 hok
    go_enter Tryd.func57, Tryd.ntmps57
    go_wp2_with (go_at_call 60; (with_reducible refine HT.out.mono ?_); rintro e w' ⟨rfl, hk⟩; have HK := Lib.hid (Kp.trans K2.out hk); clear hk)
    go_ret2
    exact ⟨rfl, HK.out⟩
  · have e1 : wrV (ads[0]'h0) ps ns m = .tuple #[.string ⟨#[]⟩, snt (ads[0]'h0)] := if_neg hok
    rw [e1]
    have HT := Lib.hid (try_str_err ads 0 h0 61 #[.pointer (some ⟨w.heap.size, 0, none⟩), .pointer (some ⟨w.heap.size + 1, 0, none⟩)] ((w.alloc (.cells #[.slice (some ⟨gp, 0, none⟩) m cp] 90)).alloc (.cells #[.slice (some ⟨gn, 0, none⟩) m cn] 92)) (V.below k2) (by intro w; simp [go_sem])
      (fun w1 hk => (HB w1 hk).mono (by
        rintro e w2 ⟨⟨h, _⟩ | ⟨_, rfl⟩, hk2⟩
        · exact absurd h hok
        · exact ⟨rfl, hk2⟩)))
    clear HB c0 c1 k1 k2 hpc hn V T hb e1 hok
    go_enter Tryd.func57, Tryd.ntmps57
    go_wp2_with (go_at_call 60; (with_reducible refine HT.out.mono ?_); rintro e w' ⟨rfl, hk⟩; have HK := Lib.hid (Kp.trans K2.out hk); clear hk)
    go_ret2
    exact ⟨rfl, HK.out⟩

theorem errI_one (ads : List Addr) (h0 : 0 < ads.length) : errI ads 1 = snt (ads[0]'h0) := by
  unfold errI
  rw [if_neg (by decide), show ((1 : Int) - 1).toNat = 0 from rfl, List.getElem?_eq_getElem h0]
theorem errI_four (ads : List Addr) (h3 : 3 < ads.length) : errI ads 4 = snt (ads[3]'h3) := by
  unfold errI
  rw [if_neg (by decide), show ((4 : Int) - 1).toNat = 3 from rfl, List.getElem?_eq_getElem h3]
theorem node_wr (ads : List Addr) (h0 : 0 < ads.length) (n : Int) : wrV (ads[0]'h0) nodeL [n] 1 = textR ads (nodeO n) := by
  unfold wrV nodeO
  have e : okU nodeL [n] 1 = nodeR n := by simp [okU, nodeL, nodeR]
  rw [e]
  split
  · simp [textR, wrU, nodeL, nodeT]
  · simp only [textR]; rw [errI_one ads h0]
theorem act_wr (ads : List Addr) (h0 : 0 < ads.length) (n s : Int) : wrV (ads[0]'h0) actL [n, s] 2 = textR ads (actO n s) := by
  unfold wrV actO
  have e : okU actL [n, s] 2 = rightA n s := by simp [okU, actL, rightA, Bool.and_assoc]
  rw [e]
  split
  · simp [textR, wrU, actL, actT]
  · simp only [textR]; rw [errI_one ads h0]
theorem reg_wr (ads : List Addr) (h0 : 0 < ads.length) (n s r : Int) : wrV (ads[0]'h0) regL [n, s, r] 3 = textR ads (regO n s r) := by
  unfold wrV regO
  have e : okU regL [n, s, r] 3 = (rightA n s && regR r) := by simp [okU, regL, rightA, regR, Bool.and_assoc]
  rw [e]
  split
  · simp [textR, wrU, regL, regT, actT]
  · simp only [textR]; rw [errI_one ads h0]
theorem part_wr (ads : List Addr) (h0 : 0 < ads.length) (n p : Int) : wrV (ads[0]'h0) partL [n, p] 2 = textR ads (partO n p) := by
  unfold wrV partO
  have e : okU partL [n, p] 2 = (nodeR n && partR p) := by simp [okU, partL, nodeR, partR, Bool.and_assoc]
  rw [e]
  split
  · simp [textR, wrU, partL, partT]
  · simp only [textR]; rw [errI_one ads h0]
theorem textR_form (ads : List Addr) (o : Option (List Int)) : ∃ s e, textR ads o = .tuple #[.string s, e] := by
  cases o <;> exact ⟨_, _, rfl⟩
theorem ints_cells (w : World) (ns : List Int) (j : Nat) (hj : j < ns.length) : (w.alloc (.cells (ns.map (Value.int .i64)).toArray 3)).cell? ⟨w.heap.size, j, none⟩ = some (.int .i64 (ns.getD j 0)) := by
  have hr := (MapKept.heap_alloc w (.cells (ns.map (Value.int .i64)).toArray 3)).1
  unfold World.cell?
  dsimp only
  rw [hr]
  simp [List.getD, hj]

set_option maxRecDepth 20000 in
set_option maxHeartbeats 1000000 in
theorem act_any (ads : List Addr) (w : World) (V : St ads w) (T : Tab w) (n s : Int) :
    Calls Tryd.prog 52 #[.agg #[.int .i64 n, .int .i64 s]] w fun e w' => e = .returned (textR ads (actO n s)) ∧ Kp w w' := by
  have h0 : 0 < ads.length := by rw [V.len]; decide
  have HWR := fun v gn w1 (hk : Kp w w1) (hp : PlC v actL w1) (hn : ∀ j, j < 2 → w1.cell? ⟨gn, j, none⟩ = some (.int .i64 ([n, s].getD j 0))) => write_any ads h0 actL [n, s] 2 rfl rfl (by decide) (by decide) v gn 2 w1 (V.below hk) (T.kp hk) hp hn
  rw [act_wr ads h0] at HWR
  obtain ⟨tx, er, htx⟩ := textR_form ads (actO n s)
  rw [htx] at HWR ⊢
  have HWR := Lib.hid HWR
  clear htx V T
  have k0 := kp_alloc w (.cells #[.int .i64 n, .int .i64 s] 23)
  have hr := (MapKept.heap_alloc w (.cells #[.int .i64 n, .int .i64 s] 23)).1
  go_enter Tryd.func52, Tryd.ntmps52
  go_wp2
  obtain ⟨w0, hw0⟩ : ∃ x, w.alloc (.cells #[.int .i64 n, .int .i64 s] 23) = x := ⟨_, rfl⟩
  obtain ⟨p0, hp0⟩ : ∃ x, w.heap.size = x := ⟨_, rfl⟩
  rw [hw0] at k0 hr ⊢
  rw [hp0] at hr ⊢
  have b0 : w0.cell? ⟨p0, 0, none⟩ = some (.int .i64 n) := by unfold World.cell?; dsimp only; rw [hr]; rfl
  have b1 : w0.cell? ⟨p0, 1, none⟩ = some (.int .i64 s) := by unfold World.cell?; dsimp only; rw [hr]; rfl
  have K0 := Lib.hid k0
  clear hr hw0 k0 hp0
  refine wp_region_held_drew (S := fun w' => Kp w0 w') (by kernel_rfl) ?_ (fun hHeld => ?_)
  · exact (Kp.refl w0).drew
  refine wpAnyH_take (i := 1) (v := ?_) rfl (by kernel_rfl) (by kernel_rfl) (by kernel_rfl) (fun _ _ _ h => h) (Or.inl ⟨by rfl, ?_⟩) (by assumption) ?_
  rotate_left
  · intro w hSw; go_simp; try with_reducible rfl
  go_simp
  refine wpAnyH_take (i := 2) (v := ?_) rfl (by kernel_rfl) (by kernel_rfl) (by kernel_rfl) (fun _ _ _ h => h) (Or.inl ⟨by rfl, ?_⟩) (by assumption) ?_
  rotate_left
  · intro w hSw; have q := kp_cell hSw b0; go_simp; try with_reducible rfl
  go_simp
  refine wpAnyH_take (i := 3) (v := ?_) rfl (by kernel_rfl) (by kernel_rfl) (by kernel_rfl) (fun _ _ _ h => h) (Or.inl ⟨by rfl, ?_⟩) (by assumption) ?_
  rotate_left
  · intro w hSw; go_simp; try with_reducible rfl
  go_simp
  refine wpAnyH_take (i := 4) (v := ?_) rfl (by kernel_rfl) (by kernel_rfl) (by kernel_rfl) (fun _ _ _ h => h) (Or.inl ⟨by rfl, ?_⟩) (by assumption) ?_
  rotate_left
  · intro w hSw; have q := kp_cell hSw b1; go_simp; try with_reducible rfl
  go_simp
  refine wpAnyH_ready (rs := [0, 5]) (by kernel_rfl) (by simp) ?_
  refine AllReadyH.cons rfl (fun K hK => ?_) (AllReadyH.cons rfl (fun K hK => ?_) AllReadyH.nil)
  · go_simp
    go_wp2_with (go_at_call 58; (with_reducible refine (actPl_any _).mono ?_); rintro e w1 ⟨v, rfl, hp, hk⟩; have HP0 := Lib.hid hp; have K1 := Lib.hid (Kp.trans hHeld hk); clear hp hk)
    refine hK.out _ _ ?_ (fun hHeld => ?_)
    · exact K1.out
    clear hK K
    refine wpAnyH_ready (rs := [5]) (by kernel_rfl) (by simp) ?_
    refine AllReadyH.cons rfl (fun K hK => ?_) AllReadyH.nil
    go_simp
    refine hK.out _ _ ?_ (fun hHeld => ?_)
    · exact Kp.trans K1.out (kp_alloc _ _)
    clear hK K
    have HP := Lib.hid (HP0.out.kp (kp_alloc w1 (.cells #[.int .i64 n, .int .i64 s] 3)))
    have KK := Lib.hid (Kp.trans K1.out (kp_alloc w1 (.cells #[.int .i64 n, .int .i64 s] 3)))
    have HN := Lib.hid (show ∀ j, j < 2 → (w1.alloc (.cells #[.int .i64 n, .int .i64 s] 3)).cell? ⟨w1.heap.size, j, none⟩ = some (.int .i64 ([n, s].getD j 0)) from ints_cells w1 [n, s])
    refine wpAnyH_ready (rs := [6]) (by kernel_rfl) (by simp) ?_
    refine AllReadyH.cons rfl (fun K hK => ?_) AllReadyH.nil
    go_simp
    go_wp2_with (go_at_call 57; (with_reducible refine (HWR.out _ _ _ (Kp.trans K0.out KK.out) HP.out HN.out).mono ?_); rintro e w3 ⟨rfl, hk⟩; have KK := Lib.hid (Kp.trans KK.out hk); clear hk)
    refine hK.out _ _ ?_ (fun hHeld => ?_)
    · exact KK.out
    clear hK K
    refine wpAnyH_take (i := 7) (v := ?_) rfl (by kernel_rfl) (by kernel_rfl) (by kernel_rfl) (fun _ _ _ h => h) (Or.inl ⟨by rfl, ?_⟩) (by assumption) ?_
    rotate_left
    · intro w hSw; go_simp; try with_reducible rfl
    go_simp
    refine wpAnyH_take (i := 8) (v := ?_) rfl (by kernel_rfl) (by kernel_rfl) (by kernel_rfl) (fun _ _ _ h => h) (Or.inl ⟨by rfl, ?_⟩) (by assumption) ?_
    rotate_left
    · intro w hSw; go_simp; try with_reducible rfl
    go_simp
    refine wpAnyH_take (i := 9) (v := ?_) rfl (by kernel_rfl) (by kernel_rfl) (by kernel_rfl) (fun _ _ _ h => h) (Or.inl ⟨by rfl, ?_⟩) (by assumption) ?_
    rotate_left
    · intro w hSw; go_simp; try with_reducible rfl
    go_simp
    refine wpAnyH_take (i := 10) (v := ?_) rfl (by kernel_rfl) (by kernel_rfl) (by kernel_rfl) (fun _ _ _ h => h) (Or.inl ⟨by rfl, ?_⟩) (by assumption) ?_
    rotate_left
    · intro w hSw; go_simp; try with_reducible rfl
    go_simp
    refine wpAnyH_done (by kernel_rfl) ?_ _
    go_wp2
    go_ret2
    exact ⟨rfl, Kp.trans K0.out hHeld⟩
  · go_simp
    refine hK.out _ _ ?_ (fun hHeld => ?_)
    · exact Kp.trans (Kp.refl w0).drew (kp_alloc _ _)
    clear hK K
    have HN0 := show ∀ j, j < 2 → (w0.drew.alloc (.cells #[.int .i64 n, .int .i64 s] 3)).cell? ⟨w0.heap.size, j, none⟩ = some (.int .i64 ([n, s].getD j 0)) from ints_cells w0.drew [n, s]
    refine wpAnyH_ready (rs := [0]) (by kernel_rfl) (by simp) ?_
    refine AllReadyH.cons rfl (fun K hK => ?_) AllReadyH.nil
    go_simp
    go_wp2_with (go_at_call 58; (with_reducible refine (actPl_any _).mono ?_); rintro e w1 ⟨v, rfl, hp, hk⟩; have HP := Lib.hid hp; have KK := Lib.hid (Kp.trans hHeld hk); have HN := Lib.hid (fun j hj => kp_cell hk (HN0 j hj)); clear hp hk)
    refine hK.out _ _ ?_ (fun hHeld => ?_)
    · exact KK.out
    clear hK K
    refine wpAnyH_ready (rs := [6]) (by kernel_rfl) (by simp) ?_
    refine AllReadyH.cons rfl (fun K hK => ?_) AllReadyH.nil
    go_simp
    go_wp2_with (go_at_call 57; (with_reducible refine (HWR.out _ _ _ (Kp.trans K0.out KK.out) HP.out HN.out).mono ?_); rintro e w3 ⟨rfl, hk⟩; have KK := Lib.hid (Kp.trans KK.out hk); clear hk)
    refine hK.out _ _ ?_ (fun hHeld => ?_)
    · exact KK.out
    clear hK K
    refine wpAnyH_take (i := 7) (v := ?_) rfl (by kernel_rfl) (by kernel_rfl) (by kernel_rfl) (fun _ _ _ h => h) (Or.inl ⟨by rfl, ?_⟩) (by assumption) ?_
    rotate_left
    · intro w hSw; go_simp; try with_reducible rfl
    go_simp
    refine wpAnyH_take (i := 8) (v := ?_) rfl (by kernel_rfl) (by kernel_rfl) (by kernel_rfl) (fun _ _ _ h => h) (Or.inl ⟨by rfl, ?_⟩) (by assumption) ?_
    rotate_left
    · intro w hSw; go_simp; try with_reducible rfl
    go_simp
    refine wpAnyH_take (i := 9) (v := ?_) rfl (by kernel_rfl) (by kernel_rfl) (by kernel_rfl) (fun _ _ _ h => h) (Or.inl ⟨by rfl, ?_⟩) (by assumption) ?_
    rotate_left
    · intro w hSw; go_simp; try with_reducible rfl
    go_simp
    refine wpAnyH_take (i := 10) (v := ?_) rfl (by kernel_rfl) (by kernel_rfl) (by kernel_rfl) (fun _ _ _ h => h) (Or.inl ⟨by rfl, ?_⟩) (by assumption) ?_
    rotate_left
    · intro w hSw; go_simp; try with_reducible rfl
    go_simp
    refine wpAnyH_done (by kernel_rfl) ?_ _
    go_wp2
    go_ret2
    exact ⟨rfl, Kp.trans K0.out hHeld⟩

set_option maxRecDepth 20000 in
theorem right_any (ads : List Addr) (w : World) (V : St ads w) (T : Tab w) (n s : Int) :
    Calls Tryd.prog 32 #[.agg #[.int .i64 n, .int .i64 s]] w fun e w' => e = .returned (.bool (rightA n s)) ∧ Kp w w' := by
  have h0 : 0 < ads.length := by rw [V.len]; decide
  have k0 := kp_alloc w (.cells #[.int .i64 n, .int .i64 s] 23)
  have HA := act_any ads _ (V.below k0) (T.kp k0) n s
  have K0 := Lib.hid k0
  cases hr : rightA n s with
  | true =>
    have e1 : actO n s = some (actT n.toNat s.toNat) := by unfold actO; rw [if_pos hr]
    rw [e1] at HA
    simp only [textR] at HA
    have HA := Lib.hid HA
    clear V T k0 e1 hr
    go_enter Tryd.func32, Tryd.ntmps32
    go_wp2_with (go_at_call 52; (with_reducible refine HA.out.mono ?_); rintro e w1 ⟨rfl, hk⟩; have KK := Lib.hid (Kp.trans K0.out hk); clear hk)
    go_ret
    exact ⟨rfl, KK.out⟩
  | false =>
    have e1 : actO n s = none := by unfold actO; rw [hr]; rfl
    rw [e1] at HA
    simp only [textR] at HA
    rw [errI_one ads h0] at HA
    obtain ⟨a0, ha0⟩ : ∃ a, ads[0]'h0 = a := ⟨_, rfl⟩
    rw [ha0] at HA
    have HA := Lib.hid HA
    clear V T k0 e1 hr ha0
    go_enter Tryd.func32, Tryd.ntmps32
    go_wp2_with (go_at_call 52; (with_reducible refine HA.out.mono ?_); rintro e w1 ⟨rfl, hk⟩; have KK := Lib.hid (Kp.trans K0.out hk); clear hk)
    go_ret
    exact ⟨rfl, KK.out⟩
end Go.Proofs.YtldamfpoemgkpaaDoor
