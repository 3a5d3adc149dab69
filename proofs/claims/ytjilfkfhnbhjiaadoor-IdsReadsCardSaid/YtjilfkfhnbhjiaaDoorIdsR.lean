/-
  PACKAGE ids' READINGS (own work): read, ToNode, ToAct, ToReg, ToPart; the package's contracts together.
-/
import Derived.Test.YtjilfkfhnbhjiaaDoorRedI
import Derived.Test.YtjilfkfhnbhjiaaDoorIdsW
import Derived.Laws.ResultCell
namespace Go.Proofs.YtjilfkfhnbhjiaaDoor
open Go.RowKit Go.ChangeShapes Go.WideShapes

theorem results_row_tmp {P : Program} {fn : Func} {p u : Tmp} {ty : TypeId} (h : fn.results = #[.cell p ty, .tmp u]) (tmps : Array Value) (w : World) (g : Nat) (t : TypeId) (cs : Array Value) (fr : Nat × Nat) (d : TypeDesc)
    (hp : tmps.getD p undef = .pointer (some ⟨g, 0, none⟩)) (hg : w.heap[g]? = some (.cells cs t fr))
    (hu : P.underlying ty = some d) (hd : (match d with | .struct _ | .array _ _ => true | _ => false) = true) (hi : (P.info? ty).map (·.size) = some cs.size) :
    (results fn tmps).run P w = .ok (.tuple #[.agg cs, tmps.getD u undef]) w := by
  have hp' : tmps[p]?.getD undef = .pointer (some ⟨g, 0, none⟩) := by simpa using hp
  simp [results, h, hp', asAddr, run_loadVar_row w g t ty cs fr d hg hu hd hi]
theorem results_row_tmp2 {P : Program} {fn : Func} {p u v : Tmp} {ty : TypeId} (h : fn.results = #[.cell p ty, .tmp u, .tmp v]) (tmps : Array Value) (w : World) (g : Nat) (t : TypeId) (cs : Array Value) (fr : Nat × Nat) (d : TypeDesc)
    (hp : tmps.getD p undef = .pointer (some ⟨g, 0, none⟩)) (hg : w.heap[g]? = some (.cells cs t fr))
    (hu : P.underlying ty = some d) (hd : (match d with | .struct _ | .array _ _ => true | _ => false) = true) (hi : (P.info? ty).map (·.size) = some cs.size) :
    (results fn tmps).run P w = .ok (.tuple #[.agg cs, tmps.getD u undef, tmps.getD v undef]) w := by
  have hp' : tmps[p]?.getD undef = .pointer (some ⟨g, 0, none⟩) := by simpa using hp
  simp [results, h, hp', asAddr, run_loadVar_row w g t ty cs fr d hg hu hd hi]
theorem numR_bad (R : Option (List Int × List Int)) (lims : List Int) : (numR R lims).2 ≠ 0 → (numR R lims).1 = [] := by
  unfold numR
  split
  · intro _; rfl
  · split
    · split
      · intro h; exact absurd rfl h
      · intro _; rfl
    · intro _; rfl
theorem numR_three (R : Option (List Int × List Int)) (lims : List Int) : (numR R lims).2 = 0 ∨ (numR R lims).2 = 1 ∨ (numR R lims).2 = 4 := by
  unfold numR
  split
  · exact .inr (.inr rfl)
  · split
    · split
      · exact .inl rfl
      · exact .inr (.inl rfl)
    · exact .inr (.inr rfl)

set_option maxRecDepth 20000 in
set_option maxHeartbeats 2000000 in
theorem iread_any (ads : List Addr) (ps : List (Int × Int)) (m : Nat) (hm : ps.length = m) (hm3 : m ≤ 3) (hps : ∀ j, j < m → 0 ≤ (ps.getD j (0, 0)).1 ∧ (ps.getD j (0, 0)).1 < 256)
    (S : List Int) (hS : InB S) (hSl : S.length ≤ 1000) (v : Value) (w : World) (V : St ads w) (hp : PlC v ps w) (N : List Int × Int) (hN : numR (rdM (ps.map (·.1)) S) (ps.map (·.2)) = N) :
    Calls Tryd.prog 30 #[v, .string (strOfNums S)] w fun e w' => e = .returned (.tuple #[padV N.1, errI ads N.2]) ∧ Kp w w' := by
  have h0 : 0 < ads.length := by rw [V.len]; decide
  have h3 : 3 < ads.length := by rw [V.len]; decide
  have hmf : ∀ (fn : Fn) (first cap : Array Value) (w : World), (Instr.makeFunc fn first cap).run Tryd.prog w = .ok (.func fn first cap) w := fun _ _ _ _ => rfl
  obtain ⟨gp, cp, rfl, hpc⟩ := hp
  rw [hm] at hpc ⊢
  obtain ⟨o0, ho0⟩ : ∃ o, Obj.cells #[.slice (some ⟨gp, 0, none⟩) m cp] 55 = o := ⟨_, rfl⟩
  obtain ⟨o1, ho1⟩ : ∃ o, Obj.cells #[.string (strOfNums S)] 9 = o := ⟨_, rfl⟩
  obtain ⟨o2, ho2⟩ : ∃ o, Obj.cells #[.int .i64 0, .int .i64 0, .int .i64 0] 58 = o := ⟨_, rfl⟩
  have k1 := kp_alloc w o0
  have k2 := kp_alloc (w.alloc o0) o1
  have k3 := kp_alloc ((w.alloc o0).alloc o1) o2
  have z1 : (w.alloc o0).heap.size = w.heap.size + 1 := by simp
  have z2 : ((w.alloc o0).alloc o1).heap.size = w.heap.size + 1 + 1 := by simp
  have z3 : (((w.alloc o0).alloc o1).alloc o2).heap.size = w.heap.size + 1 + 1 + 1 := by simp
  have r0 := kp_row (Kp.trans k2 k3) (MapKept.heap_alloc w o0).1
  have r1 := kp_row k3 (MapKept.heap_alloc (w.alloc o0) o1).1
  have r2 := (MapKept.heap_alloc ((w.alloc o0).alloc o1) o2).1
  rw [z1] at r1
  rw [z2] at r2
  obtain ⟨W3, hW3⟩ : ∃ x, ((w.alloc o0).alloc o1).alloc o2 = x := ⟨_, rfl⟩
  have k3' := Kp.trans k1 (Kp.trans k2 k3)
  rw [hW3] at r0 r1 r2 z3 k3'
  have c0 : W3.cell? ⟨w.heap.size, 0, none⟩ = some (.slice (some ⟨gp, 0, none⟩) m cp) := by unfold World.cell?; dsimp only; rw [r0, ← ho0]; rfl
  have HB := fun w1 (hb : Below W3.heap.size W3 w1) (hs : w1.heap.size = W3.heap.size + 3) =>
    read1_any ads h0 h3 ps m hm hm3 hps gp cp S hS hSl w V hpc w1 (Kp.trans k3' hb) w.heap.size (w.heap.size + 1) (by omega) (by omega) (by omega) (kp_cell hb c0) (by rw [Below.block hb _ (by omega), r1, ← ho1]; rfl)
  rw [hN] at HB
  have hbad := numR_bad (rdM (ps.map (·.1)) S) (ps.map (·.2))
  have hthree := numR_three (rdM (ps.map (·.1)) S) (ps.map (·.2))
  rw [hN] at hbad hthree
  have HROW := Lib.hid (show ∀ w1 w2 w' : World, Below W3.heap.size W3 w1 → w1.heap.size = W3.heap.size + 3 → Kc (w.heap.size + 1) w1 w2 → Below W3.heap.size w2 w' → w'.heap[w.heap.size + 1 + 1]? = some o2 from fun w1 w2 w' h1 h2 h3 h4 => by
    rw [Below.block h4 _ (by omega), h3.2 _ (by omega) (by omega), Below.block h1 _ (by omega), r2])
  have HF : ∀ w, (callFunc 38 #[.pointer (some ⟨w.heap.size, 0, none⟩), .pointer (some ⟨w.heap.size + 1, 0, none⟩)]).run Tryd.prog w = .ok (.enter 38 #[.pointer (some ⟨w.heap.size, 0, none⟩), .pointer (some ⟨w.heap.size + 1, 0, none⟩)]) w := by intro w; simp [go_sem]
  have HT : Calls Tryd.prog 37 #[.func (.func 38) #[] #[.pointer (some ⟨w.heap.size, 0, none⟩), .pointer (some ⟨w.heap.size + 1, 0, none⟩)]] W3 fun e w' => e = .returned (.tuple #[padV N.1, errI ads N.2]) ∧ Kp w w' ∧ w'.heap[w.heap.size + 1 + 1]? = some o2 := by
    rcases hthree with h | h | h
    · refine (try_arr_ret 38 _ (N.1.getD 0 0) (N.1.getD 1 0) (N.1.getD 2 0) W3 (fun w1 w2 => Kp w w2 ∧ Kc (w.heap.size + 1) w1 w2) (by intro w; simp [go_sem]) fun w1 hb1 hs1 => ?_).mono ?_
      · refine (HB w1 hb1 hs1).mono ?_
        rintro e w2 ⟨⟨_, rfl⟩ | ⟨h1, _⟩ | ⟨h1, _⟩, hk, hkc⟩
        · exact ⟨rfl, hkc.past (by omega), hk, hkc⟩
        · rw [h] at h1; cases h1
        · rw [h] at h1; cases h1
      · rintro e w' ⟨rfl, w1, w2, hb1, hs1, ⟨hk, hkc⟩, hb2⟩
        refine ⟨by rw [h]; rfl, Below.trans hk (Below.mono hb2 (by omega)), HROW.out _ _ _ hb1 hs1 hkc hb2⟩
    · refine (try_arr_panic ads 0 h0 38 _ W3 (fun w1 w2 => Kp w w2 ∧ Kc (w.heap.size + 1) w1 w2) (by intro w; simp [go_sem]) fun w1 hb1 hs1 => ?_).mono ?_
      · refine (HB w1 hb1 hs1).mono ?_
        rintro e w2 ⟨⟨h1, _⟩ | ⟨_, rfl⟩ | ⟨h1, _⟩, hk, hkc⟩
        · rw [h] at h1; cases h1
        · exact ⟨rfl, V.below hk, hkc.past (by omega), hk, hkc⟩
        · rw [h] at h1; cases h1
      · rintro e w' ⟨rfl, w1, w2, hb1, hs1, ⟨hk, hkc⟩, hb2⟩
        refine ⟨by rw [h, hbad (by rw [h]; decide), errI_one ads h0]; rfl, Below.trans hk (Below.mono hb2 (by omega)), HROW.out _ _ _ hb1 hs1 hkc hb2⟩
    · refine (try_arr_panic ads 3 h3 38 _ W3 (fun w1 w2 => Kp w w2 ∧ Kc (w.heap.size + 1) w1 w2) (by intro w; simp [go_sem]) fun w1 hb1 hs1 => ?_).mono ?_
      · refine (HB w1 hb1 hs1).mono ?_
        rintro e w2 ⟨⟨h1, _⟩ | ⟨h1, _⟩ | ⟨_, rfl⟩, hk, hkc⟩
        · rw [h] at h1; cases h1
        · rw [h] at h1; cases h1
        · exact ⟨rfl, V.below hk, hkc.past (by omega), hk, hkc⟩
      · rintro e w' ⟨rfl, w1, w2, hb1, hs1, ⟨hk, hkc⟩, hb2⟩
        refine ⟨by rw [h, hbad (by rw [h]; decide), errI_four ads h3]; rfl, Below.trans hk (Below.mono hb2 (by omega)), HROW.out _ _ _ hb1 hs1 hkc hb2⟩
  obtain ⟨er, her⟩ : ∃ e, errI ads N.2 = e := ⟨_, rfl⟩
  obtain ⟨v0, hv0⟩ : ∃ e, N.1.getD 0 0 = e := ⟨_, rfl⟩
  obtain ⟨v1, hv1⟩ : ∃ e, N.1.getD 1 0 = e := ⟨_, rfl⟩
  obtain ⟨v2, hv2⟩ : ∃ e, N.1.getD 2 0 = e := ⟨_, rfl⟩
  have hpad : padV N.1 = .agg #[.int .i64 v0, .int .i64 v1, .int .i64 v2] := by unfold padV; rw [hv0, hv1, hv2]
  rw [her, hpad] at HT ⊢
  have HT := Lib.hid HT
  have HW3 := Lib.hid hW3
  have HO2 := Lib.hid ho2
  clear HB HROW HF hbad hthree her hv0 hv1 hv2 hpad r0 r1 r2 c0 k1 k2 k3 k3' z1 z2 z3 V hpc hps hS hSl hN hm hm3
  go_enter Tryd.func30, Tryd.ntmps30
  go_wp2_with (go_at_call 37; (with_reducible refine HT.out.mono ?_); rintro e w' ⟨rfl, hk, hr⟩; have HK := Lib.hid hk; have HR := Lib.hid hr; have y0 : w'.cell? ⟨w.heap.size + 1 + 1, 0, none⟩ = some (.int .i64 0) := (by unfold World.cell?; dsimp only; rw [hr, ← HO2.out]; rfl); have y1 : w'.cell? ⟨w.heap.size + 1 + 1, 1, none⟩ = some (.int .i64 0) := (by unfold World.cell?; dsimp only; rw [hr, ← HO2.out]; rfl); have y2 : w'.cell? ⟨w.heap.size + 1 + 1, 2, none⟩ = some (.int .i64 0) := (by unfold World.cell?; dsimp only; rw [hr, ← HO2.out]; rfl); have yz : ∀ i, w'.frozen? ⟨w.heap.size + 1 + 1, i, none⟩ = false := (fun i => by unfold World.frozen?; dsimp only; rw [hr, ← HO2.out]; simp); clear hk hr)
  have hz : (((w'.setCell ⟨w.heap.size + 1 + 1, 0, none⟩ (.int .i64 v0)).setCell ⟨w.heap.size + 1 + 1, 1, none⟩ (.int .i64 v1)).setCell ⟨w.heap.size + 1 + 1, 2, none⟩ (.int .i64 v2)).heap[w.heap.size + 1 + 1]? = some (.cells #[.int .i64 v0, .int .i64 v1, .int .i64 v2] 58 (0, 0)) :=
    (Joins.block_setCell (Joins.block_setCell (Joins.block_setCell (HR.out.trans (congrArg some HO2.out.symm)) _) _) _).trans rfl
  refine bodyPost_ret (results_row_tmp (p := 4) (u := 5) rfl _ _ (w.heap.size + 1 + 1) 58 _ (0, 0) _ rfl hz Tryd.underlying58 rfl (by kernel_rfl)) rfl ?_
  exact ⟨rfl, Below.setCell (Below.setCell (Below.setCell HK.out (show w.heap.size ≤ w.heap.size + 1 + 1 by omega) _) (show w.heap.size ≤ w.heap.size + 1 + 1 by omega) _) (show w.heap.size ≤ w.heap.size + 1 + 1 by omega) _⟩
theorem node_num (S : List Int) : numR (rdM (nodeL.map (·.1)) S) (nodeL.map (·.2)) = nodeN S := (numM_rd S [110] [4] (by decide)).symm
theorem act_num (S : List Int) : numR (rdM (actL.map (·.1)) S) (actL.map (·.2)) = actN S := (numM_rd S [97, 46] [4, 1000000] (by decide)).symm
theorem reg_num (S : List Int) : numR (rdM (regL.map (·.1)) S) (regL.map (·.2)) = regN S := (numM_rd S [97, 46, 47] [4, 1000000, 6] (by decide)).symm
theorem part_num (S : List Int) : numR (rdM (partL.map (·.1)) S) (partL.map (·.2)) = partN S := (numM_rd S [112, 46] [4, 8] (by decide)).symm

set_option maxRecDepth 20000 in
set_option maxHeartbeats 1000000 in
theorem toNode_any (ads : List Addr) (w : World) (V : St ads w) (s : ByteArray) (hs : s.size ≤ 200) :
    Calls Tryd.prog 19 #[.string s] w fun e w' => e = .returned (.tuple #[.int .i64 ((nodeN (strB s)).1.getD 0 0), errI ads (nodeN (strB s)).2]) ∧ Kp w w' := by
  have HRD := fun v w1 (hk : Kp w w1) (hp : PlC v nodeL w1) => iread_any ads nodeL 1 rfl (by decide) (by decide) (strB s) (strB_in s) (by rw [strB_len]; omega) v w1 (V.below hk) hp (nodeN (strB s)) (node_num _)
  rw [str_back] at HRD
  obtain ⟨er, her⟩ : ∃ e, errI ads (nodeN (strB s)).2 = e := ⟨_, rfl⟩
  obtain ⟨v0, hv0⟩ : ∃ e, (nodeN (strB s)).1.getD 0 0 = e := ⟨_, rfl⟩
  obtain ⟨v1, hv1⟩ : ∃ e, (nodeN (strB s)).1.getD 1 0 = e := ⟨_, rfl⟩
  obtain ⟨v2, hv2⟩ : ∃ e, (nodeN (strB s)).1.getD 2 0 = e := ⟨_, rfl⟩
  simp only [padV, hv0, hv1, hv2, her] at HRD ⊢
  have HRD := Lib.hid HRD
  clear her hv0 hv1 hv2 V hs
  go_enter Tryd.func19, Tryd.ntmps19
  go_wp2_with (first | (go_at_call 26; (with_reducible refine (nodePl_any _).mono ?_); rintro e w1 ⟨v, rfl, hp, hk⟩; have HP := Lib.hid hp; have KK := Lib.hid (hk); have KL := Lib.hid hk; clear hp hk) | (go_at_call 30; (with_reducible refine (HRD.out _ _ KK.out HP.out).mono ?_); rintro e w2 ⟨rfl, hk⟩; have KK := Lib.hid (Kp.trans KK.out hk); have KL := Lib.hid (Kp.trans KL.out hk); clear hk))
  go_ret2
  exact ⟨rfl, Kp.trans KK.out (kp_alloc _ _)⟩

set_option maxRecDepth 20000 in
set_option maxHeartbeats 1000000 in
theorem toPart_any (ads : List Addr) (w : World) (V : St ads w) (s : ByteArray) (hs : s.size ≤ 200) :
    Calls Tryd.prog 22 #[.string s] w fun e w' => e = .returned (.tuple #[.int .i64 ((partN (strB s)).1.getD 0 0), .int .i64 ((partN (strB s)).1.getD 1 0), errI ads (partN (strB s)).2]) ∧ Kp w w' := by
  have HRD := fun v w1 (hk : Kp w w1) (hp : PlC v partL w1) => iread_any ads partL 2 rfl (by decide) (by decide) (strB s) (strB_in s) (by rw [strB_len]; omega) v w1 (V.below hk) hp (partN (strB s)) (part_num _)
  rw [str_back] at HRD
  obtain ⟨er, her⟩ : ∃ e, errI ads (partN (strB s)).2 = e := ⟨_, rfl⟩
  obtain ⟨v0, hv0⟩ : ∃ e, (partN (strB s)).1.getD 0 0 = e := ⟨_, rfl⟩
  obtain ⟨v1, hv1⟩ : ∃ e, (partN (strB s)).1.getD 1 0 = e := ⟨_, rfl⟩
  obtain ⟨v2, hv2⟩ : ∃ e, (partN (strB s)).1.getD 2 0 = e := ⟨_, rfl⟩
  simp only [padV, hv0, hv1, hv2, her] at HRD ⊢
  have HRD := Lib.hid HRD
  clear her hv0 hv1 hv2 V hs
  go_enter Tryd.func22, Tryd.ntmps22
  go_wp2_with (first | (go_at_call 29; (with_reducible refine (partPl_any _).mono ?_); rintro e w1 ⟨v, rfl, hp, hk⟩; have HP := Lib.hid hp; have KK := Lib.hid (hk); have KL := Lib.hid hk; clear hp hk) | (go_at_call 30; (with_reducible refine (HRD.out _ _ KK.out HP.out).mono ?_); rintro e w2 ⟨rfl, hk⟩; have KK := Lib.hid (Kp.trans KK.out hk); have KL := Lib.hid (Kp.trans KL.out hk); clear hk))
  have k3 := kp_alloc w2 (.cells #[.int .i64 v0, .int .i64 v1, .int .i64 v2] 58)
  have hr := (MapKept.heap_alloc w2 (.cells #[.int .i64 v0, .int .i64 v1, .int .i64 v2] 58)).1
  obtain ⟨w3, hw3⟩ : ∃ x, w2.alloc (.cells #[.int .i64 v0, .int .i64 v1, .int .i64 v2] 58) = x := ⟨_, rfl⟩
  obtain ⟨p3, hp3⟩ : ∃ x, w2.heap.size = x := ⟨_, rfl⟩
  rw [hw3] at k3 hr ⊢
  rw [hp3] at hr ⊢
  have b0 : w3.cell? ⟨p3, 0, none⟩ = some (.int .i64 v0) := by unfold World.cell?; dsimp only; rw [hr]; rfl
  have b1 : w3.cell? ⟨p3, 1, none⟩ = some (.int .i64 v1) := by unfold World.cell?; dsimp only; rw [hr]; rfl
  have K3 := Lib.hid (Kp.trans KK.out k3)
  clear hr hw3 k3 hp3
  refine wp_region_held_drew (S := fun w' => Kp w3 w') (by kernel_rfl) ?_ (fun hHeld => ?_)
  · exact (Kp.refl w3).drew
  refine wpAnyH_take (i := 0) (v := ?_) rfl (by kernel_rfl) (by kernel_rfl) (by kernel_rfl) (fun _ _ _ h => h) (Or.inl ⟨by rfl, ?_⟩) (by assumption) ?_
  rotate_left
  · intro w hSw; go_simp; try with_reducible rfl
  go_simp
  refine wpAnyH_take (i := 1) (v := ?_) rfl (by kernel_rfl) (by kernel_rfl) (by kernel_rfl) (fun _ _ _ h => h) (Or.inl ⟨by rfl, ?_⟩) (by assumption) ?_
  rotate_left
  · intro w hSw; have q := kp_cell hSw b0; go_simp; try with_reducible rfl
  go_simp
  refine wpAnyH_take (i := 2) (v := ?_) rfl (by kernel_rfl) (by kernel_rfl) (by kernel_rfl) (fun _ _ _ h => h) (Or.inl ⟨by rfl, ?_⟩) (by assumption) ?_
  rotate_left
  · intro w hSw; go_simp; try with_reducible rfl
  go_simp
  refine wpAnyH_take (i := 3) (v := ?_) rfl (by kernel_rfl) (by kernel_rfl) (by kernel_rfl) (fun _ _ _ h => h) (Or.inl ⟨by rfl, ?_⟩) (by assumption) ?_
  rotate_left
  · intro w hSw; have q := kp_cell hSw b1; go_simp; try with_reducible rfl
  go_simp
  refine wpAnyH_take (i := 4) (v := ?_) rfl (by kernel_rfl) (by kernel_rfl) (by kernel_rfl) (fun _ _ _ h => h) (Or.inl ⟨by rfl, ?_⟩) (by assumption) ?_
  rotate_left
  · intro w hSw; go_simp; try with_reducible rfl
  go_simp
  refine wpAnyH_take (i := 5) (v := ?_) rfl (by kernel_rfl) (by kernel_rfl) (by kernel_rfl) (fun _ _ _ h => h) (Or.inl ⟨by rfl, ?_⟩) (by assumption) ?_
  rotate_left
  · intro w hSw; go_simp; try with_reducible rfl
  go_simp
  refine wpAnyH_take (i := 6) (v := ?_) rfl (by kernel_rfl) (by kernel_rfl) (by kernel_rfl) (fun _ _ _ h => h) (Or.inl ⟨by rfl, ?_⟩) (by assumption) ?_
  rotate_left
  · intro w hSw; go_simp; try with_reducible rfl
  go_simp
  refine wpAnyH_take (i := 7) (v := ?_) rfl (by kernel_rfl) (by kernel_rfl) (by kernel_rfl) (fun _ _ _ h => h) (Or.inl ⟨by rfl, ?_⟩) (by assumption) ?_
  rotate_left
  · intro w hSw; go_simp; try with_reducible rfl
  go_simp
  refine wpAnyH_done (by kernel_rfl) ?_ _
  go_wp2
  go_ret3
  exact ⟨rfl, Kp.trans K3.out hHeld⟩

set_option maxRecDepth 20000 in
set_option maxHeartbeats 1000000 in
theorem toAct_any (ads : List Addr) (w : World) (V : St ads w) (s : ByteArray) (hs : s.size ≤ 200) :
    Calls Tryd.prog 20 #[.string s] w fun e w' => e = .returned (.tuple #[.agg #[.int .i64 ((actN (strB s)).1.getD 0 0), .int .i64 ((actN (strB s)).1.getD 1 0)], errI ads (actN (strB s)).2]) ∧ Kp w w' := by
  have HRD := fun v w1 (hk : Kp w w1) (hp : PlC v actL w1) => iread_any ads actL 2 rfl (by decide) (by decide) (strB s) (strB_in s) (by rw [strB_len]; omega) v w1 (V.below hk) hp (actN (strB s)) (act_num _)
  rw [str_back] at HRD
  obtain ⟨er, her⟩ : ∃ e, errI ads (actN (strB s)).2 = e := ⟨_, rfl⟩
  obtain ⟨v0, hv0⟩ : ∃ e, (actN (strB s)).1.getD 0 0 = e := ⟨_, rfl⟩
  obtain ⟨v1, hv1⟩ : ∃ e, (actN (strB s)).1.getD 1 0 = e := ⟨_, rfl⟩
  obtain ⟨v2, hv2⟩ : ∃ e, (actN (strB s)).1.getD 2 0 = e := ⟨_, rfl⟩
  simp only [padV, hv0, hv1, hv2, her] at HRD ⊢
  have HRD := Lib.hid HRD
  clear her hv0 hv1 hv2 V hs
  have kz := kp_alloc w (.cells #[.int .i64 0, .int .i64 0] 23)
  have hrz := (MapKept.heap_alloc w (.cells #[.int .i64 0, .int .i64 0] 23)).1
  have KZ := Lib.hid kz
  have HRZ := Lib.hid hrz
  clear kz hrz
  go_enter Tryd.func20, Tryd.ntmps20
  go_wp2_with (first | (go_at_call 27; (with_reducible refine (actPl_any _).mono ?_); rintro e w1 ⟨v, rfl, hp, hk⟩; have HP := Lib.hid hp; have KK := Lib.hid (Kp.trans KZ.out hk); have KL := Lib.hid hk; clear hp hk) | (go_at_call 30; (with_reducible refine (HRD.out _ _ KK.out HP.out).mono ?_); rintro e w2 ⟨rfl, hk⟩; have KK := Lib.hid (Kp.trans KK.out hk); have KL := Lib.hid (Kp.trans KL.out hk); have RZ := Lib.hid (kp_row (Kp.trans KL.out (kp_alloc w2 (.cells #[.int .i64 v0, .int .i64 v1, .int .i64 v2] 58))) HRZ.out); have yz : ∀ i, (w2.alloc (.cells #[.int .i64 v0, .int .i64 v1, .int .i64 v2] 58)).frozen? ⟨w.heap.size, i, none⟩ = false := (fun i => by unfold World.frozen?; dsimp only; rw [RZ.out]; simp); have y0 : (w2.alloc (.cells #[.int .i64 v0, .int .i64 v1, .int .i64 v2] 58)).cell? ⟨w.heap.size, 0, none⟩ = some (.int .i64 0) := (by unfold World.cell?; dsimp only; rw [RZ.out]; rfl); have y1 : (w2.alloc (.cells #[.int .i64 v0, .int .i64 v1, .int .i64 v2] 58)).cell? ⟨w.heap.size, 1, none⟩ = some (.int .i64 0) := (by unfold World.cell?; dsimp only; rw [RZ.out]; rfl); clear hk))
  have hz : (((w2.alloc (.cells #[.int .i64 v0, .int .i64 v1, .int .i64 v2] 58)).setCell ⟨w.heap.size, 0, none⟩ (.int .i64 v0)).setCell ⟨w.heap.size, 1, none⟩ (.int .i64 v1)).heap[w.heap.size]? = some (.cells #[.int .i64 v0, .int .i64 v1] 23 (0, 0)) :=
    (Joins.block_setCell (Joins.block_setCell RZ.out _) _).trans rfl
  refine bodyPost_ret (results_row_tmp (p := 2) (u := 3) rfl _ _ w.heap.size 23 _ (0, 0) _ rfl hz Tryd.underlying23 rfl (by kernel_rfl)) rfl ?_
  exact ⟨rfl, Below.setCell (Below.setCell (Kp.trans KK.out (kp_alloc _ _)) (Nat.le_refl _) _) (Nat.le_refl _) _⟩

set_option maxRecDepth 20000 in
set_option maxHeartbeats 1000000 in
theorem toReg_any (ads : List Addr) (w : World) (V : St ads w) (s : ByteArray) (hs : s.size ≤ 200) :
    Calls Tryd.prog 21 #[.string s] w fun e w' => e = .returned (.tuple #[.agg #[.int .i64 ((regN (strB s)).1.getD 0 0), .int .i64 ((regN (strB s)).1.getD 1 0)], .int .i64 ((regN (strB s)).1.getD 2 0), errI ads (regN (strB s)).2]) ∧ Kp w w' := by
  have HRD := fun v w1 (hk : Kp w w1) (hp : PlC v regL w1) => iread_any ads regL 3 rfl (by decide) (by decide) (strB s) (strB_in s) (by rw [strB_len]; omega) v w1 (V.below hk) hp (regN (strB s)) (reg_num _)
  rw [str_back] at HRD
  obtain ⟨er, her⟩ : ∃ e, errI ads (regN (strB s)).2 = e := ⟨_, rfl⟩
  obtain ⟨v0, hv0⟩ : ∃ e, (regN (strB s)).1.getD 0 0 = e := ⟨_, rfl⟩
  obtain ⟨v1, hv1⟩ : ∃ e, (regN (strB s)).1.getD 1 0 = e := ⟨_, rfl⟩
  obtain ⟨v2, hv2⟩ : ∃ e, (regN (strB s)).1.getD 2 0 = e := ⟨_, rfl⟩
  simp only [padV, hv0, hv1, hv2, her] at HRD ⊢
  have HRD := Lib.hid HRD
  clear her hv0 hv1 hv2 V hs
  have kz := kp_alloc w (.cells #[.int .i64 0, .int .i64 0] 23)
  have hrz := (MapKept.heap_alloc w (.cells #[.int .i64 0, .int .i64 0] 23)).1
  have hlz : w.heap.size < (w.alloc (.cells #[.int .i64 0, .int .i64 0] 23)).heap.size := by simp
  have KZ := Lib.hid kz
  have HRZ := Lib.hid hrz
  have HLZ := Lib.hid hlz
  clear kz hrz hlz
  go_enter Tryd.func21, Tryd.ntmps21
  go_wp2_with (first | (go_at_call 28; (with_reducible refine (regPl_any _).mono ?_); rintro e w1 ⟨v, rfl, hp, hk⟩; have HP := Lib.hid hp; have KK := Lib.hid (Kp.trans KZ.out hk); have KL := Lib.hid hk; clear hp hk) | (go_at_call 30; (with_reducible refine (HRD.out _ _ KK.out HP.out).mono ?_); rintro e w2 ⟨rfl, hk⟩; have KK := Lib.hid (Kp.trans KK.out hk); have KL := Lib.hid (Kp.trans KL.out hk); clear hk))
  obtain ⟨B, hB⟩ : ∃ B, w.heap.size = B := ⟨_, rfl⟩
  have k3 := kp_alloc w2 (.cells #[.int .i64 v0, .int .i64 v1, .int .i64 v2] 58)
  have hr := (MapKept.heap_alloc w2 (.cells #[.int .i64 v0, .int .i64 v1, .int .i64 v2] 58)).1
  have rz := kp_row (Kp.trans KL.out k3) HRZ.out
  have hne : w2.heap.size ≠ B := by have h1 := Below.size KL.out; have h2 := HLZ.out; omega
  obtain ⟨w3, hw3⟩ : ∃ x, w2.alloc (.cells #[.int .i64 v0, .int .i64 v1, .int .i64 v2] 58) = x := ⟨_, rfl⟩
  obtain ⟨p3, hp3⟩ : ∃ x, w2.heap.size = x := ⟨_, rfl⟩
  rw [hw3] at k3 hr rz ⊢
  rw [hp3] at hr hne ⊢
  rw [hB] at rz ⊢
  have yz : ∀ i, w3.frozen? ⟨B, i, none⟩ = false := fun i => by unfold World.frozen?; dsimp only; rw [rz]; simp
  have y0 : w3.cell? ⟨B, 0, none⟩ = some (.int .i64 0) := by unfold World.cell?; dsimp only; rw [rz]; rfl
  have y1 : w3.cell? ⟨B, 1, none⟩ = some (.int .i64 0) := by unfold World.cell?; dsimp only; rw [rz]; rfl
  have PN := Lib.hid hne
  have K3 := Lib.hid (Kp.trans KK.out k3)
  have RZ := Lib.hid rz
  have HB := Lib.hid hB
  clear hw3 k3 hp3 rz hne hB
  refine wp_region_held_drew (S := fun w' => w'.heap[p3]? = some (.cells #[.int .i64 v0, .int .i64 v1, .int .i64 v2] 58 (0, 0))) (by kernel_rfl) ?_ (fun hHeld => ?_)
  · exact hr
  refine wpAnyH_take (i := 0) (v := ?_) rfl (by kernel_rfl) (by kernel_rfl) (by kernel_rfl) (fun _ _ _ h => h) (Or.inl ⟨by rfl, ?_⟩) (by assumption) ?_
  rotate_left
  · intro w hSw; go_simp; try with_reducible rfl
  go_simp
  refine wpAnyH_take (i := 1) (v := ?_) rfl (by kernel_rfl) (by kernel_rfl) (by kernel_rfl) (fun _ _ _ h => h) (Or.inl ⟨by rfl, ?_⟩) (by assumption) ?_
  rotate_left
  · intro w hSw; have q : w.cell? ⟨p3, 0, none⟩ = some (.int .i64 v0) := (by unfold World.cell?; dsimp only; rw [hSw]; rfl); go_simp; try with_reducible rfl
  go_simp
  refine wpAnyH_take (i := 2) (v := ?_) rfl (by kernel_rfl) (by kernel_rfl) (by kernel_rfl) (fun _ _ _ h => h) (Or.inl ⟨by rfl, ?_⟩) (by assumption) ?_
  rotate_left
  · intro w hSw; go_simp; try with_reducible rfl
  go_simp
  refine wpAnyH_take (i := 3) (v := ?_) rfl (by kernel_rfl) (by kernel_rfl) (by kernel_rfl) (fun _ _ _ h => h) (Or.inl ⟨by rfl, ?_⟩) (by assumption) ?_
  rotate_left
  · intro w hSw; have q : w.cell? ⟨p3, 1, none⟩ = some (.int .i64 v1) := (by unfold World.cell?; dsimp only; rw [hSw]; rfl); go_simp; try with_reducible rfl
  go_simp
  refine wpAnyH_take (i := 4) (v := ?_) rfl (by kernel_rfl) (by kernel_rfl) (by kernel_rfl) (fun _ _ _ h => h) (Or.inl ⟨by rfl, ?_⟩) (by assumption) ?_
  rotate_left
  · intro w hSw; go_simp; try with_reducible rfl
  go_simp
  refine wpAnyH_take (i := 5) (v := ?_) rfl (by kernel_rfl) (by kernel_rfl) (by kernel_rfl) (fun _ _ _ h => h) (Or.inl ⟨by rfl, ?_⟩) (by assumption) ?_
  rotate_left
  · intro w hSw; go_simp; try with_reducible rfl
  go_simp
  refine wpAnyH_take (i := 6) (v := ?_) rfl (by kernel_rfl) (by kernel_rfl) (by kernel_rfl) (fun _ _ _ h => h) (Or.inl ⟨by rfl, ?_⟩) (by assumption) ?_
  rotate_left
  · intro w hSw; have q : w.cell? ⟨p3, 2, none⟩ = some (.int .i64 v2) := (by unfold World.cell?; dsimp only; rw [hSw]; rfl); go_simp; try with_reducible rfl
  go_simp
  refine wpAnyH_take (i := 7) (v := ?_) rfl (by kernel_rfl) (by kernel_rfl) (by kernel_rfl) (fun _ _ _ h => h) (Or.inl ⟨by rfl, ?_⟩) (by assumption) ?_
  rotate_left
  · intro w hSw; go_simp; try with_reducible rfl
  go_simp
  refine wpAnyH_ready (rs := [8]) (by kernel_rfl) (by simp) ?_
  refine AllReadyH.cons rfl (fun K hK => ?_) AllReadyH.nil
  go_simp
  refine hK.out _ _ ?_ (fun hHeld => ?_)
  · exact ((Below.heap_setCell _ _ _ _ PN.out).trans (Below.heap_setCell _ _ _ _ PN.out)).trans hr
  clear hK K
  refine wpAnyH_take (i := 9) (v := ?_) rfl (by kernel_rfl) (by kernel_rfl) (by kernel_rfl) (fun _ _ _ h => h) (Or.inl ⟨by rfl, ?_⟩) (by assumption) ?_
  rotate_left
  · intro w hSw; go_simp; try with_reducible rfl
  go_simp
  refine wpAnyH_take (i := 10) (v := ?_) rfl (by kernel_rfl) (by kernel_rfl) (by kernel_rfl) (fun _ _ _ h => h) (Or.inl ⟨by rfl, ?_⟩) (by assumption) ?_
  rotate_left
  · intro w hSw; go_simp; try with_reducible rfl
  go_simp
  refine wpAnyH_done (by kernel_rfl) ?_ _
  go_wp2
  have hz : ((w3.drew.setCell ⟨B, 0, none⟩ (.int .i64 v0)).setCell ⟨B, 1, none⟩ (.int .i64 v1)).heap[B]? = some (.cells #[.int .i64 v0, .int .i64 v1] 23 (0, 0)) :=
    (Joins.block_setCell (Joins.block_setCell (show w3.drew.heap[B]? = _ from RZ.out) _) _).trans rfl
  refine bodyPost_ret (results_row_tmp2 (p := 2) (u := 3) (v := 4) rfl _ _ B 23 _ (0, 0) _ rfl hz Tryd.underlying23 rfl (by kernel_rfl)) rfl ?_
  exact ⟨rfl, Below.setCell (Below.setCell K3.out.drew (Nat.le_of_eq HB.out) _) (Nat.le_of_eq HB.out) _⟩

/-- PACKAGE ids' CONTRACTS, where package api's errors and strconv's table lie as they do. -/
theorem idsC_of (ads : List Addr) (w : World) (V : St ads w) (T : Tab w) : IdsC ads w where
  node := fun w1 hk n _ => node_any ads w1 (V.below hk) (T.kp hk) n
  act := fun w1 hk n s _ _ => act_any ads w1 (V.below hk) (T.kp hk) n s
  reg := fun w1 hk n s r _ _ _ => reg_any ads w1 (V.below hk) (T.kp hk) n s r
  part := fun w1 hk n p _ _ => part_any ads w1 (V.below hk) (T.kp hk) n p
  right := fun w1 hk n s _ _ => right_any ads w1 (V.below hk) (T.kp hk) n s
  toNode := fun w1 hk s hs => toNode_any ads w1 (V.below hk) s hs
  toAct := fun w1 hk s hs => toAct_any ads w1 (V.below hk) s hs
  toReg := fun w1 hk s hs => toReg_any ads w1 (V.below hk) s hs
  toPart := fun w1 hk s hs => toPart_any ads w1 (V.below hk) s hs
end Go.Proofs.YtjilfkfhnbhjiaaDoor
