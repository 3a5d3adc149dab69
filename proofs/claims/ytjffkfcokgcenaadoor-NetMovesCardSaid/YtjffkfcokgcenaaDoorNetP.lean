/-
  NetMoves' WALK (own work).
-/
import Derived.Test.YtjffkfcokgcenaaDoorNetO
import Derived.Test.YtjffkfcokgcenaaDoorSlBB
namespace Go.Proofs.YtjffkfcokgcenaaDoor
open Go.RowKit Go.Shelf Go.ChangeShapes Go.WideShapes

attribute [local go_sem] Oper.semAt_some
variable {ads : List Addr} {J : Nat → NetM → (Nat → Prop) → World → Prop} {w0 B w1 w2 : World} {g : Nat} {m : NetM}
theorem wpAnyH_mono {P : Program} {md : Region.Mode} {ops : Array Oper} {Q : Exit → Act → World → Prop} {S S' : World → Prop} (hs : ∀ w, S' w → S w) : ∀ (fuel : Nat) (listed : Array Bool) (a : Act) (w : World), wpAnyH P md ops Q S' fuel listed a w → wpAnyH P md ops Q S fuel listed a w
  | 0, _, _, _, h => h
  | fuel + 1, _, _, _, h => ⟨h.1, fun i hi => wpOp_mono (fun a' w' h' => ⟨hs _ h'.1, wpAnyH_mono hs fuel _ a' w' h'.2⟩) (h.2 i hi)⟩
set_option maxRecDepth 100000 in
theorem moves_out (x y : Int) (a : Option Addr) (n cap : Nat) (w : World) (hn : n < 1 ∨ 50 < n) (C : NetC ads w J) : Calls Tryd.prog 6 #[.slice a n cap, .int .i64 x, .int .i64 y] w fun r w' => r = .returned (.bool true) ∧ Kp w w' := by
  have HAL := Lib.hid (alive12_any C w (Kp.refl w))
  obtain ⟨nn, hnn⟩ : ∃ x : Int, (n : Int) = x := ⟨_, rfl⟩
  clear C
  by_cases h1 : nn < 1
  · clear hn
    go_enter Tryd.func6, Tryd.ntmps6
    go_wp2_with (go_at_call 7; (with_reducible refine HAL.out.mono ?_); rintro e' w1 ⟨rfl, hk⟩; have K1 := Lib.hid hk; clear hk)
    go_ret
    exact ⟨rfl, K1.out⟩
  · have h2 : nn > 50 := by omega
    clear hn
    go_enter Tryd.func6, Tryd.ntmps6
    go_wp2_with (go_at_call 7; (with_reducible refine HAL.out.mono ?_); rintro e' w1 ⟨rfl, hk⟩; have K1 := Lib.hid hk; clear hk)
    go_ret
    exact ⟨rfl, K1.out⟩
set_option maxRecDepth 100000 in
set_option maxHeartbeats 4000000 in
theorem moves_in (x y : Int) (rs : List (List Int)) (n cap : Nat) (b off : Nat) (hln : rs.length = n) (w : World) (h1 : 1 ≤ n) (h50 : n ≤ 50) (hel : ∀ (j : Nat) (h : j < rs.length), ∃ a' c, w.cell? ⟨b, off + j, none⟩ = some (.slice a' rs[j].length c) ∧ SlB (.slice a' rs[j].length c) rs[j] w ∧ InB rs[j]) (C : NetC ads w J) : Calls Tryd.prog 6 #[.slice (some ⟨b, off, none⟩) n cap, .int .i64 x, .int .i64 y] w fun r w' => r = .returned (.bool true) ∧ Kp w w' := by
  have HCC := Lib.hid C
  have HAL := Lib.hid (alive12_any C w (Kp.refl w))
  have HNW := Lib.hid (fun w1 (hk : Kp w w1) => (show Calls Tryd.prog 9 #[.int .i64 2] w1 fun r w' => ∃ g, r = .returned (.tuple #[.pointer (some ⟨g, 0, none⟩), .nilIface]) ∧ AtN J w w (fun _ => False) g (gN [] false 0) w' ∧ Kp w1 w' from atN_new C (Kp.refl w) hk 2 (by decide) (by decide)))
  have HEL := Lib.hid hel
  have HLN := Lib.hid (And.intro hln (And.intro h1 h50))
  obtain ⟨nn, hnn⟩ : ∃ x : Int, (n : Int) = x := ⟨_, rfl⟩
  have HNN := Lib.hid hnn
  have g1 : ¬ nn < 1 := by omega
  have g2 : ¬ nn > 50 := by omega
  clear C hel hln h1 h50
  go_enter Tryd.func6, Tryd.ntmps6
  go_wp2_with (first | (go_at_call 7; (with_reducible refine HAL.out.mono ?_); rintro e' w1 ⟨rfl, hk⟩; have K1 := Lib.hid hk; clear hk) | (go_at_call 9; (with_reducible refine (HNW.out _ K1.out).mono ?_); rintro e' w2 ⟨g, rfl, ha, hk⟩; have A2 := Lib.hid ha; clear ha hk))
  go_loopw [33] (fun i wr => ∃ j : Nat, j ≤ n ∧ i = .int .i64 j ∧ AtN J w w (fun _ => False) g (gN (rs.take j) false 0) wr) (fun i _ => n - (intOf i).toNat)
  case atStart => exact ⟨0, Nat.zero_le _, rfl, A2.out⟩
  case round =>
    obtain ⟨j, hj, rfl, ha⟩ := hrel
    obtain ⟨jj, hjj⟩ : ∃ jj : Int, (j : Int) = jj := ⟨_, rfl⟩
    have HJ := Lib.hid hjj
    rw [hjj]
    have A3 := Lib.hid ha
    by_cases hlt : j < n
    · have hjl : jj < nn := by omega
      have hj0 : 0 ≤ jj := by omega
      have htn : jj.toNat = j := by omega
      have hjr : j < rs.length := by rw [HLN.out.1]; exact hlt
      obtain ⟨a', c', hc0, hs0, hib⟩ := HEL.out j hjr
      obtain ⟨dl, hdl⟩ : ∃ k, rs[j].length = k := ⟨_, rfl⟩
      obtain ⟨dd, hdd⟩ : ∃ x : Int, (dl : Int) = x := ⟨_, rfl⟩
      have hc : wr.cell? ⟨b, off + jj.toNat, none⟩ = some (.slice a' dl c') := by rw [htn, ← hdl]; exact kp_cell ha.base hc0
      rw [hdl] at hs0
      have HPU := Lib.hid (fun (hle : dl ≤ 1000) => (show Calls Tryd.prog 19 #[.pointer (some ⟨g, 0, none⟩), .agg #[.int .i64 0, .int .i64 1, .slice a' dl c']] wr fun r w' => r = .returned (.tuple #[.bool true, .nilIface]) ∧ AtN J w w (fun _ => False) g (gN (rs.take (j + 1)) false 0) w' from (atN_put HCC.out ha 0 1 a' dl c' rs[j] hdl (hs0.kp ha.base) hib).mono (fun r w' q => by
        have e := gN_put (rs.take j) 0 rs[j] (by rw [List.length_take]; have := HLN.out; omega) (by omega)
        rw [List.take_append_getElem] at e
        unfold lt01 at e
        rw [e] at q
        exact ⟨by rw [q.1]; rw [errI_nil], q.2.1⟩)))
      have HLT := Lib.hid (And.intro hlt hdd)
      clear ha hlt hj hjj htn hjr hc0 hs0 hib hdl
      by_cases hbig : dd > 1000
      · go_wp2
        go_ret
        exact ⟨rfl, A3.out.base⟩
      · have HBG := Lib.hid hbig
        go_wp2_with (go_at_call 19; (with_reducible refine (HPU.out (by have := HLT.out.2; have := HBG.out; omega)).mono ?_); rintro e' w4 ⟨rfl, ha⟩; have A4 := Lib.hid ha; clear ha)
        have hj1 : (j : Int) = jj := HJ.out
        have hlt1 : j < n := HLT.out.1
        go_roundw
        case rel => exact ⟨j + 1, hlt1, by rw [← hj1]; rfl, A4.out⟩
        case measure => simp [intOf]; omega
    · have hjl : ¬ jj < nn := by omega
      obtain rfl : n = j := by omega
      obtain ⟨h1, h2⟩ := umod2_in x nn (by omega) (by omega)
      obtain ⟨h3, h4⟩ := umod2_in y nn (by omega) (by omega)
      have hu := u64_same nn (by omega) (by omega)
      have hn0 : nn ≠ 0 := by omega
      obtain ⟨i1, hi1⟩ : ∃ i1, wrap64 ((IntKind.u64.wrap x).tmod nn) = i1 := ⟨_, rfl⟩
      obtain ⟨t1, ht1⟩ : ∃ t1, wrap64 ((IntKind.u64.wrap y).tmod nn) = t1 := ⟨_, rfl⟩
      rw [hi1] at h1 h2
      rw [ht1] at h3 h4
      have hi2 : IntKind.i64.wrap ((IntKind.u64.wrap x).tmod nn) = i1 := by rw [← hi1]; exact wrap_i64N _
      have ht2 : IntKind.i64.wrap ((IntKind.u64.wrap y).tmod nn) = t1 := by rw [← ht1]; exact wrap_i64N _
      have hA := ha
      rw [List.take_of_length_le (by have := HLN.out.1; omega)] at hA
      have hi3 : i1.toNat < rs.length := by have := HLN.out.1; omega
      have ht3 : t1.toNat < rs.length := by have := HLN.out.1; omega
      obtain ⟨ai, ci, hci, hsi, -⟩ := HEL.out _ hi3
      obtain ⟨xi, hxi⟩ : ∃ x, rs[i1.toNat] = x := ⟨_, rfl⟩
      obtain ⟨il, hil⟩ : ∃ k, xi.length = k := ⟨_, rfl⟩
      obtain ⟨si, hss⟩ : ∃ s, strOfNums xi = s := ⟨_, rfl⟩
      rw [hxi, hil] at hci hsi
      have HLI := Lib.hid (fun w1 (hk : Kp w w1) => (show w1.cell? ⟨b, off + i1.toNat, none⟩ = some (.slice ai il ci) ∧ (convert 33 9 (.slice ai il ci)).run Tryd.prog w1 = .ok (.string si) w1 from ⟨kp_cell hk hci, by rw [← hss]; exact conv_slb (hsi.kp hk)⟩))
      have hm1 := gN_move rs false 0 i1 t1 h1 hi3 h3 ht3
      have hmb := mvd_back hi3 ht3
      have hat := mvd_at rs[i1.toNat] hi3 ht3
      rw [hxi] at hm1 hmb hat
      obtain ⟨ms, hms⟩ : ∃ ms, mvd rs i1.toNat t1.toNat xi = ms := ⟨_, rfl⟩
      have hml : ms.length = rs.length := by rw [← hms]; exact mvd_len _ hi3 ht3
      rw [hms] at hm1 hmb hat
      have htm : t1.toNat < ms.length := by omega
      have hmx : ms[t1.toNat] = xi := by rw [List.getElem?_eq_getElem htm] at hat; exact Option.some.inj hat
      have hm2 := gN_move ms false 0 t1 i1 h3 htm h1 (by omega)
      rw [hmx, hmb] at hm2
      have HM1 := Lib.hid (fun w1 (h : AtN J w w (fun _ => False) g (gN rs false 0) w1) => (show Calls Tryd.prog 22 #[.pointer (some ⟨g, 0, none⟩), .int .i64 i1, .int .i64 t1] w1 fun r w' => r = .returned .nilIface ∧ AtN J w w (fun _ => False) g (gN ms false 0) w' from (atN_move HCC.out h i1 t1).mono (fun r w' q => by rw [hm1] at q; exact ⟨by rw [q.1, errI_nil], q.2.1⟩)))
      have HM2 := Lib.hid (fun F w1 (h : AtN J w w F g (gN ms false 0) w1) => (show Calls Tryd.prog 22 #[.pointer (some ⟨g, 0, none⟩), .int .i64 t1, .int .i64 i1] w1 fun r w' => r = .returned .nilIface ∧ AtN J w w F g (gN rs false 0) w' ∧ (∀ b, F b → w'.heap[b]? = w1.heap[b]?) from (atN_move HCC.out h t1 i1).mono (fun r w' q => by rw [hm2] at q; exact ⟨by rw [q.1, errI_nil], q.2⟩)))
      have hcp := gN_copy rs false 0 i1 h1 hi3 (by have := HLN.out; omega)
      rw [hxi] at hcp
      have HC1 := Lib.hid (fun w1 (h : AtN J w w (fun _ => False) g (gN rs false 0) w1) => (show Calls Tryd.prog 21 #[.pointer (some ⟨g, 0, none⟩), .int .i64 i1] w1 fun r w' => r = .returned .nilIface ∧ AtN J w w (fun _ => False) g (gN (rs ++ [xi]) false 0) w' from (atN_copy HCC.out h i1).mono (fun r w' q => by rw [hcp] at q; exact ⟨by rw [q.1, errI_nil], q.2.1⟩)))
      have HLE := Lib.hid (fun w1 (h : AtN J w w (fun _ => False) g (gN (rs ++ [xi]) false 0) w1) => (show Calls Tryd.prog 13 #[.pointer (some ⟨g, 0, none⟩)] w1 fun r w' => r = .returned (.int .i64 (nn + 1)) ∧ w1 = w' from (atN_len HCC.out h).mono (fun r w' q => ⟨by rw [q.1]; show Ending.returned (.int .i64 (((rs ++ [xi]).map lt01).length : Nat)) = _; rw [List.length_map, List.length_append, HLN.out.1, ← HNN.out]; rfl, q.2⟩)))
      have HLT := Lib.hid (fun F m2 w1 (h : AtN J w w F g m2 w1) => atN_letters HCC.out h)
      have HMT := Lib.hid (And.intro htm (And.intro hmx (And.intro hml (And.intro hil hss))))
      have A4 := Lib.hid hA
      have hn50 : nn ≤ 50 := by have := HLN.out; omega
      clear ha hlt hj hjj hA hi3 ht3 hci hsi hxi hil hss hm1 hmb hat hms hml hmx hm2 hcp
      go_wp2_with fail
      refine wp_region_held_drew (S := fun _ => True) (by kernel_rfl) ?_ (fun hHeld => ?_)
      · exact trivial
      refine wpAnyH_take (i := 0) (v := ?_) rfl (by kernel_rfl) (by kernel_rfl) (by kernel_rfl) (fun _ _ _ h => h) (Or.inl ⟨by rfl, ?_⟩) (by assumption) ?_
      rotate_left
      · intro w hSw; go_simp; try with_reducible rfl
      go_simp
      refine wpAnyH_take (i := 1) (v := ?_) rfl (by kernel_rfl) (by kernel_rfl) (by kernel_rfl) (fun _ _ _ h => h) (Or.inl ⟨by rfl, ?_⟩) (by assumption) ?_
      rotate_left
      · intro w hSw; go_simp; try with_reducible rfl
      go_simp
      refine wpAnyH_take (i := 2) (v := ?_) rfl (by kernel_rfl) (by kernel_rfl) (by kernel_rfl) (fun _ _ _ h => h) (Or.inl ⟨by rfl, ?_⟩) (by assumption) ?_
      rotate_left
      · intro w hSw; go_simp; try with_reducible rfl
      go_simp
      refine wpAnyH_take (i := 3) (v := ?_) rfl (by kernel_rfl) (by kernel_rfl) (by kernel_rfl) (fun _ _ _ h => h) (Or.inl ⟨by rfl, ?_⟩) (by assumption) ?_
      rotate_left
      · intro w hSw; go_simp; try with_reducible rfl
      go_simp
      refine wpAnyH_take (i := 4) (v := ?_) rfl (by kernel_rfl) (by kernel_rfl) (by kernel_rfl) (fun _ _ _ h => h) (Or.inl ⟨by rfl, ?_⟩) (by assumption) ?_
      rotate_left
      · intro w hSw; go_simp; try with_reducible rfl
      go_simp
      refine wpAnyH_take (i := 5) (v := ?_) rfl (by kernel_rfl) (by kernel_rfl) (by kernel_rfl) (fun _ _ _ h => h) (Or.inl ⟨by rfl, ?_⟩) (by assumption) ?_
      rotate_left
      · intro w hSw; go_simp; try with_reducible rfl
      go_simp
      refine wpAnyH_take (i := 6) (v := ?_) rfl (by kernel_rfl) (by kernel_rfl) (by kernel_rfl) (fun _ _ _ h => h) (Or.inl ⟨by rfl, ?_⟩) (by assumption) ?_
      rotate_left
      · intro w hSw; go_simp; try with_reducible rfl
      go_simp
      refine wpAnyH_take (i := 7) (v := ?_) rfl (by kernel_rfl) (by kernel_rfl) (by kernel_rfl) (fun _ _ _ h => h) (Or.inl ⟨by rfl, ?_⟩) (by assumption) ?_
      rotate_left
      · intro w hSw; go_simp; try with_reducible rfl
      go_simp
      refine wpAnyH_take (i := 8) (v := ?_) rfl (by kernel_rfl) (by kernel_rfl) (by kernel_rfl) (fun _ _ _ h => h) (Or.inl ⟨by rfl, ?_⟩) (by assumption) ?_
      rotate_left
      · intro w hSw; go_simp; try with_reducible rfl
      go_simp
      refine wpAnyH_take (i := 9) (v := ?_) rfl (by kernel_rfl) (by kernel_rfl) (by kernel_rfl) (fun _ _ _ h => h) (Or.inl ⟨by rfl, ?_⟩) (by assumption) ?_
      rotate_left
      · intro w hSw; go_simp; try with_reducible rfl
      go_simp
      refine wpAnyH_take (i := 10) (v := ?_) rfl (by kernel_rfl) (by kernel_rfl) (by kernel_rfl) (fun _ _ _ h => h) (Or.inl ⟨by rfl, ?_⟩) (by assumption) ?_
      rotate_left
      · intro w hSw; go_simp; try with_reducible rfl
      go_simp
      refine wpAnyH_take (i := 11) (v := ?_) rfl (by kernel_rfl) (by kernel_rfl) (by kernel_rfl) (fun _ _ _ h => h) (Or.inl ⟨by rfl, ?_⟩) (by assumption) ?_
      rotate_left
      · intro w hSw; go_simp; try with_reducible rfl
      go_simp
      refine wpAnyH_take (i := 12) (v := ?_) rfl (by kernel_rfl) (by kernel_rfl) (by kernel_rfl) (fun _ _ _ h => h) (Or.inl ⟨by rfl, ?_⟩) (by assumption) ?_
      rotate_left
      · intro w hSw; go_simp; try with_reducible rfl
      go_simp
      refine wpAnyH_take (i := 13) (v := ?_) rfl (by kernel_rfl) (by kernel_rfl) (by kernel_rfl) (fun _ _ _ h => h) (Or.inl ⟨by rfl, ?_⟩) (by assumption) ?_
      rotate_left
      · intro w hSw; go_simp; try with_reducible rfl
      go_simp
      refine wpAnyH_take (i := 14) (v := ?_) rfl (by kernel_rfl) (by kernel_rfl) (by kernel_rfl) (fun _ _ _ h => h) (Or.inl ⟨by rfl, ?_⟩) (by assumption) ?_
      rotate_left
      · intro w hSw; go_simp; try with_reducible rfl
      go_simp
      refine wpAnyH_take (i := 15) (v := ?_) rfl (by kernel_rfl) (by kernel_rfl) (by kernel_rfl) (fun _ _ _ h => h) (Or.inl ⟨by rfl, ?_⟩) (by assumption) ?_
      rotate_left
      · intro w hSw; go_simp; try with_reducible rfl
      go_simp
      refine wpAnyH_done (by kernel_rfl) ?_ _
      try simp only [hi2, ht2]
      clear hi1 ht1 hi2 ht2
      go_wp2_with fail
      have A4d := Lib.hid (A4.out.kp HCC.out (kp_drewR (kp_drewR (Kp.refl _))))
      refine wp_region_held_drew (S := fun w' => Kp w w') (by kernel_rfl) ?_ (fun hHeld => ?_)
      · exact A4d.out.base
      have A4e := Lib.hid A4d.out
      refine wpAnyH_take (i := 0) (v := ?_) rfl (by kernel_rfl) (by kernel_rfl) (by kernel_rfl) (fun _ _ _ h => h) (Or.inl ⟨by rfl, ?_⟩) (by assumption) ?_
      rotate_left
      · intro w hSw; go_simp; try with_reducible rfl
      go_simp
      refine wpAnyH_take (i := 1) (v := ?_) rfl (by kernel_rfl) (by kernel_rfl) (by kernel_rfl) (fun _ _ _ h => h) (Or.inl ⟨by rfl, ?_⟩) (by assumption) ?_
      rotate_left
      · intro w hSw; go_simp; try with_reducible rfl
      go_simp
      refine wpAnyH_take (i := 2) (v := ?_) rfl (by kernel_rfl) (by kernel_rfl) (by kernel_rfl) (fun _ _ _ h => h) (Or.inl ⟨by rfl, ?_⟩) (by assumption) ?_
      rotate_left
      · intro w hSw; go_simp; try with_reducible rfl
      go_simp
      refine wpAnyH_ready (rs := [3]) (by kernel_rfl) (by simp) ?_
      refine AllReadyH.cons rfl (fun K hK => ?_) AllReadyH.nil
      go_simp
      go_wp2_with (go_at_call 22; (with_reducible refine (HM1.out _ A4d.out).mono ?_); rintro e' w5 ⟨rfl, ha⟩; have A5 := Lib.hid ha; clear ha)
      refine hK.out _ _ ?_ (fun hHeld => ?_)
      · exact A5.out.base
      clear hK K
      refine wpAnyH_take (i := 4) (v := ?_) rfl (by kernel_rfl) (by kernel_rfl) (by kernel_rfl) (fun _ _ _ h => h) (Or.inl ⟨by rfl, ?_⟩) (by assumption) ?_
      rotate_left
      · intro w hSw; go_simp; try with_reducible rfl
      go_simp
      refine wpAnyH_take (i := 5) (v := ?_) rfl (by kernel_rfl) (by kernel_rfl) (by kernel_rfl) (fun _ _ _ h => h) (Or.inl ⟨by rfl, ?_⟩) (by assumption) ?_
      rotate_left
      · intro w hSw; go_simp; try with_reducible rfl
      go_simp
      refine wpAnyH_take (i := 6) (v := ?_) rfl (by kernel_rfl) (by kernel_rfl) (by kernel_rfl) (fun _ _ _ h => h) (Or.inl ⟨by rfl, ?_⟩) (by assumption) ?_
      rotate_left
      · intro w hSw; go_simp; try with_reducible rfl
      go_simp
      refine wpAnyH_take (i := 8) (v := ?_) rfl (by kernel_rfl) (by kernel_rfl) (by kernel_rfl) (fun _ _ _ h => h) (Or.inl ⟨by rfl, ?_⟩) (by assumption) ?_
      rotate_left
      · intro w hSw; go_simp; try with_reducible rfl
      go_simp
      refine wpAnyH_take (i := 13) (v := ?_) rfl (by kernel_rfl) (by kernel_rfl) (by kernel_rfl) (fun _ _ _ h => h) (Or.inl ⟨by rfl, ?_⟩) (by assumption) ?_
      rotate_left
      · intro w hSw; go_simp; try with_reducible rfl
      go_simp
      refine wpAnyH_take (i := 14) (v := ?_) rfl (by kernel_rfl) (by kernel_rfl) (by kernel_rfl) (fun _ _ _ h => h) (Or.inl ⟨by rfl, ?_⟩) (by assumption) ?_
      rotate_left
      · intro w hSw; go_simp; try with_reducible rfl
      go_simp
      refine wpAnyH_take (i := 15) (v := ?_) rfl (by kernel_rfl) (by kernel_rfl) (by kernel_rfl) (fun _ _ _ h => h) (Or.inl ⟨by rfl, ?_⟩) (by assumption) ?_
      rotate_left
      · intro w hSw; go_simp; try with_reducible rfl
      go_simp
      refine wpAnyH_take (i := 16) (v := ?_) rfl (by kernel_rfl) (by kernel_rfl) (by kernel_rfl) (fun _ _ _ h => h) (Or.inl ⟨by rfl, ?_⟩) (by assumption) ?_
      rotate_left
      · intro w hSw; obtain ⟨le, lc⟩ := HLI.out _ hSw; go_simp; try with_reducible rfl
      go_simp
      refine wpAnyH_take (i := 17) (v := ?_) rfl (by kernel_rfl) (by kernel_rfl) (by kernel_rfl) (fun _ _ _ h => h) (Or.inl ⟨by rfl, ?_⟩) (by assumption) ?_
      rotate_left
      · intro w hSw; obtain ⟨le, lc⟩ := HLI.out _ hSw; go_simp; try with_reducible rfl
      go_simp
      refine wpAnyH_ready (rs := [7]) (by kernel_rfl) (by simp) ?_
      refine AllReadyH.cons rfl (fun K hK => ?_) AllReadyH.nil
      go_simp
      go_wp2_with (go_at_call 15; (with_reducible refine (HLT.out _ _ _ A5.out).mono ?_); rintro e' w6 ⟨v6, ps6, rfl, hh, hk⟩; have A6 := Lib.hid (A5.out.upto HCC.out hk); obtain ⟨la, lq, hv, hcell⟩ := hh.at (HMT.out.2.2.1.trans HLN.out.1); have HH6 := Lib.hid hh; have HV6 := Lib.hid hv; obtain ⟨lb, o6, c6, hla, hat6⟩ := hcell _ HMT.out.1; rw [HMT.out.2.1, HMT.out.2.2.2.1] at hat6; have HAT := Lib.hid hat6; subst hla; subst hv; clear hh hk hcell hat6)
      refine hK.out _ _ ?_ (fun hHeld => ?_)
      · exact A6.out.base
      clear hK K
      refine wpAnyH_mono (S' := fun w' => Kp w w' ∧ Hand w5.heap.size (gN ms false 0).f (.slice (some ⟨lb, 0, none⟩) n lq) ps6 w') (fun _ h => h.1) _ _ _ _ ?_
      have hHeld2 : (fun w' => Kp w w' ∧ Hand w5.heap.size (gN ms false 0).f (.slice (some ⟨lb, 0, none⟩) n lq) ps6 w') w6 := ⟨A6.out.base, HH6.out⟩
      refine wpAnyH_take (i := 9) (v := ?_) rfl (by kernel_rfl) (by kernel_rfl) (by kernel_rfl) (fun _ _ _ h => h) (Or.inl ⟨by rfl, ?_⟩) (by assumption) ?_
      rotate_left
      · intro w hSw; go_simp; try with_reducible rfl
      go_simp
      refine wpAnyH_take (i := 10) (v := ?_) rfl (by kernel_rfl) (by kernel_rfl) (by kernel_rfl) (fun _ _ _ h => h) (Or.inl ⟨by rfl, ?_⟩) (by assumption) ?_
      rotate_left
      · intro w hSw; go_simp; try with_reducible rfl
      go_simp
      refine wpAnyH_take (i := 11) (v := ?_) rfl (by kernel_rfl) (by kernel_rfl) (by kernel_rfl) (fun _ _ _ h => h) (Or.inl ⟨by rfl, ?_⟩) (by assumption) ?_
      rotate_left
      · intro w hSw; obtain ⟨le, lc⟩ := HLI.out _ hSw.1; obtain ⟨-, -, lf, ls⟩ := HAT.out _ hSw.2; have cvl := conv_slb ls; rw [HMT.out.2.2.2.2] at cvl; go_simp; try with_reducible rfl
      go_simp
      refine wpAnyH_take (i := 12) (v := ?_) rfl (by kernel_rfl) (by kernel_rfl) (by kernel_rfl) (fun _ _ _ h => h) (Or.inl ⟨by rfl, ?_⟩) (by assumption) ?_
      rotate_left
      · intro w hSw; obtain ⟨le, lc⟩ := HLI.out _ hSw.1; obtain ⟨-, -, lf, ls⟩ := HAT.out _ hSw.2; have cvl := conv_slb ls; rw [HMT.out.2.2.2.2] at cvl; go_simp; try with_reducible rfl
      go_simp
      refine wpAnyH_take (i := 18) (v := ?_) rfl (by kernel_rfl) (by kernel_rfl) (by kernel_rfl) (fun _ _ _ h => h) (Or.inl ⟨by rfl, ?_⟩) (by assumption) ?_
      rotate_left
      · intro w hSw; go_simp; try with_reducible rfl
      go_simp
      refine wpAnyH_take (i := 19) (v := ?_) rfl (by kernel_rfl) (by kernel_rfl) (by kernel_rfl) (fun _ _ _ h => h) (Or.inl ⟨by rfl, ?_⟩) (by assumption) ?_
      rotate_left
      · intro w hSw; go_simp; try with_reducible rfl
      go_simp
      refine wpAnyH_take (i := 20) (v := ?_) rfl (by kernel_rfl) (by kernel_rfl) (by kernel_rfl) (fun _ _ _ h => h) (Or.inl ⟨by rfl, ?_⟩) (by assumption) ?_
      rotate_left
      · intro w hSw; go_simp; try with_reducible rfl
      go_simp
      refine wpAnyH_take (i := 21) (v := ?_) rfl (by kernel_rfl) (by kernel_rfl) (by kernel_rfl) (fun _ _ _ h => h) (Or.inl ⟨by rfl, ?_⟩) (by assumption) ?_
      rotate_left
      · intro w hSw; go_simp; try with_reducible rfl
      go_simp
      refine wpAnyH_take (i := 22) (v := ?_) rfl (by kernel_rfl) (by kernel_rfl) (by kernel_rfl) (fun _ _ _ h => h) (Or.inl ⟨by rfl, ?_⟩) (by assumption) ?_
      rotate_left
      · intro w hSw; go_simp; try with_reducible rfl
      go_simp
      refine wpAnyH_take (i := 23) (v := ?_) rfl (by kernel_rfl) (by kernel_rfl) (by kernel_rfl) (fun _ _ _ h => h) (Or.inl ⟨by rfl, ?_⟩) (by assumption) ?_
      rotate_left
      · intro w hSw; go_simp; try with_reducible rfl
      go_simp
      refine wpAnyH_ready (rs := [24]) (by kernel_rfl) (by simp) ?_
      refine AllReadyH.cons rfl (fun K hK => ?_) AllReadyH.nil
      go_simp
      go_wp2_with (go_at_call 22; (with_reducible refine (HM2.out _ _ A6.out).mono ?_); rintro e' w7 ⟨rfl, ha, hf⟩; have A7 := Lib.hid (ha.less (fun b hb => hb.elim) : AtN J w w (fun _ => False) g (gN rs false 0) w7); have H7 := Lib.hid (HH6.out.stay (fun b hb => hf b (.inr (HH6.out.mem b hb)))); clear ha hf)
      refine hK.out _ _ ?_ (fun hHeld => ?_)
      · exact ⟨A7.out.base, H7.out⟩
      clear hK K
      refine wpAnyH_take (i := 25) (v := ?_) rfl (by kernel_rfl) (by kernel_rfl) (by kernel_rfl) (fun _ _ _ h => h) (Or.inl ⟨by rfl, ?_⟩) (by assumption) ?_
      rotate_left
      · intro w hSw; go_simp; try with_reducible rfl
      go_simp
      refine wpAnyH_take (i := 26) (v := ?_) rfl (by kernel_rfl) (by kernel_rfl) (by kernel_rfl) (fun _ _ _ h => h) (Or.inl ⟨by rfl, ?_⟩) (by assumption) ?_
      rotate_left
      · intro w hSw; go_simp; try with_reducible rfl
      go_simp
      refine wpAnyH_done (by kernel_rfl) ?_ _
      go_wp2_with (go_at_call 15; (with_reducible refine (HLT.out _ _ _ A7.out).mono ?_); rintro e' w8 ⟨v8, ps8, rfl, hh, hk⟩; have A8 := Lib.hid (A7.out.kp HCC.out hk); obtain ⟨la8, lq8, hv8, hcell8⟩ := hh.at HLN.out.1; have HH8 := Lib.hid hh; have HC8 := Lib.hid hcell8; subst hv8; clear hh hk hcell8)
      go_loopw [98] (fun i wr => ∃ k : Nat, k ≤ n ∧ i = .int .i64 k ∧ Kp w8 wr) (fun i _ => n - (intOf i).toNat)
      case atStart => exact ⟨0, Nat.zero_le _, rfl, Kp.refl _⟩
      case round =>
        obtain ⟨k, hk, rfl, hkp⟩ := hrel
        have K9 := Lib.hid hkp
        have A9 := Lib.hid (A8.out.kp HCC.out hkp)
        obtain ⟨kk, hkk⟩ : ∃ kk : Int, (k : Int) = kk := ⟨_, rfl⟩
        have HKK := Lib.hid hkk
        have hnn2 := HNN.out
        rw [hkk]
        by_cases hlt : k < n
        · have hkl : kk < nn := by omega
          have hk0 : 0 ≤ kk := by omega
          have htn : kk.toNat = k := by omega
          have hkr : k < rs.length := by rw [HLN.out.1]; exact hlt
          obtain ⟨b8, o8, c8, hla8, hat8⟩ := HC8.out k hkr
          obtain ⟨e0, e1, e2, s2⟩ := hat8 wr (HH8.out.kp hkp)
          obtain ⟨ak, ck, hck, hsk, -⟩ := HEL.out k hkr
          obtain ⟨xk, hxk⟩ : ∃ x, rs[k] = x := ⟨_, rfl⟩
          obtain ⟨kl, hkl2⟩ : ∃ k, xk.length = k := ⟨_, rfl⟩
          obtain ⟨sk, hsk2⟩ : ∃ s, strOfNums xk = s := ⟨_, rfl⟩
          rw [hxk, hkl2] at hck hsk e2 s2
          rw [← htn] at e0 e1 e2 hck
          have HLK := Lib.hid (fun w1 (hk : Kp w w1) => (show w1.cell? ⟨b, off + kk.toNat, none⟩ = some (.slice ak kl ck) ∧ (convert 33 9 (.slice ak kl ck)).run Tryd.prog w1 = .ok (.string sk) w1 from ⟨kp_cell hk hck, by rw [← hsk2]; exact conv_slb (hsk.kp hk)⟩))
          have HSK := Lib.hid (And.intro s2 hsk2)
          have HLT9 := Lib.hid hlt
          subst hla8
          clear hat8 hck hsk hxk hkl2 hsk2 hlt hkk hk htn hkr hkp s2
          go_wp2_with fail
          refine wp_region_held_drew (S := fun w' => Kp wr w' ∧ w'.heap[wr.heap.size]? = some (.cells #[.int .i64 0, .int .i64 1, .slice o8 kl c8] 45)) (by kernel_rfl) ?_ (fun hHeld => ?_)
          · exact ⟨kp_drewR (kp_alloc _ _), kp_row (kp_drewR (Kp.refl _)) (MapKept.heap_alloc _ _).1⟩
          refine wpAnyH_take (i := 0) (v := ?_) rfl (by kernel_rfl) (by kernel_rfl) (by kernel_rfl) (fun _ _ _ h => h) (Or.inl ⟨by rfl, ?_⟩) (by assumption) ?_
          rotate_left
          · intro w hSw; go_simp; try with_reducible rfl
          go_simp
          refine wpAnyH_take (i := 1) (v := ?_) rfl (by kernel_rfl) (by kernel_rfl) (by kernel_rfl) (fun _ _ _ h => h) (Or.inl ⟨by rfl, ?_⟩) (by assumption) ?_
          rotate_left
          · intro w hSw; have t2 := cell_row (i := 2) hSw.2 rfl; go_simp; try with_reducible rfl
          go_simp
          refine wpAnyH_take (i := 2) (v := ?_) rfl (by kernel_rfl) (by kernel_rfl) (by kernel_rfl) (fun _ _ _ h => h) (Or.inl ⟨by rfl, ?_⟩) (by assumption) ?_
          rotate_left
          · intro w hSw; have cvk := conv_slb (HSK.out.1.kp hSw.1); rw [HSK.out.2] at cvk; go_simp; try with_reducible rfl
          go_simp
          refine wpAnyH_take (i := 3) (v := ?_) rfl (by kernel_rfl) (by kernel_rfl) (by kernel_rfl) (fun _ _ _ h => h) (Or.inl ⟨by rfl, ?_⟩) (by assumption) ?_
          rotate_left
          · intro w hSw; go_simp; try with_reducible rfl
          go_simp
          refine wpAnyH_take (i := 4) (v := ?_) rfl (by kernel_rfl) (by kernel_rfl) (by kernel_rfl) (fun _ _ _ h => h) (Or.inl ⟨by rfl, ?_⟩) (by assumption) ?_
          rotate_left
          · intro w hSw; go_simp; try with_reducible rfl
          go_simp
          refine wpAnyH_take (i := 5) (v := ?_) rfl (by kernel_rfl) (by kernel_rfl) (by kernel_rfl) (fun _ _ _ h => h) (Or.inl ⟨by rfl, ?_⟩) (by assumption) ?_
          rotate_left
          · intro w hSw; go_simp; try with_reducible rfl
          go_simp
          refine wpAnyH_take (i := 6) (v := ?_) rfl (by kernel_rfl) (by kernel_rfl) (by kernel_rfl) (fun _ _ _ h => h) (Or.inl ⟨by rfl, ?_⟩) (by assumption) ?_
          rotate_left
          · intro w hSw; obtain ⟨le, lc⟩ := HLK.out _ (Kp.trans A9.out.base hSw.1); go_simp; try with_reducible rfl
          go_simp
          refine wpAnyH_take (i := 7) (v := ?_) rfl (by kernel_rfl) (by kernel_rfl) (by kernel_rfl) (fun _ _ _ h => h) (Or.inl ⟨by rfl, ?_⟩) (by assumption) ?_
          rotate_left
          · intro w hSw; obtain ⟨le, lc⟩ := HLK.out _ (Kp.trans A9.out.base hSw.1); go_simp; try with_reducible rfl
          go_simp
          refine wpAnyH_take (i := 8) (v := ?_) rfl (by kernel_rfl) (by kernel_rfl) (by kernel_rfl) (fun _ _ _ h => h) (Or.inl ⟨by rfl, ?_⟩) (by assumption) ?_
          rotate_left
          · intro w hSw; go_simp; try with_reducible rfl
          go_simp
          refine wpAnyH_done (by kernel_rfl) ?_ _
          go_wp2
          have hk1 : (k : Int) = kk := HKK.out
          have hlt1 : k < n := HLT9.out
          go_roundw
          case rel => exact ⟨k + 1, hlt1, by rw [← hk1]; rfl, Kp.trans K9.out hHeld.1⟩
          case measure => simp [intOf]; omega
        · have hkl : ¬ kk < nn := by omega
          have hw1 : wrap64 (nn + 1) = nn + 1 := by unfold wrap64; omega
          have hw2 : IntKind.i64.wrap (nn + 1) = nn + 1 := (wrap_i64N _).trans hw1
          obtain ⟨n1, hn1⟩ : ∃ k, n + 1 = k := ⟨_, rfl⟩
          have hn1' : (n1 : Int) = nn + 1 := by omega
          have HN1 := Lib.hid (show (rs ++ [xi]).length = n1 by rw [List.length_append, HLN.out.1]; exact hn1)
          have htn : nn.toNat = n := by omega
          have HTN := Lib.hid htn
          have hnn0 : 0 ≤ nn := by omega
          have hnlt : nn < nn + 1 := by omega
          clear hlt hkk hk hkp hn1 htn
          go_wp2_with fail
          have A9d := Lib.hid (A9.out.kp HCC.out (kp_drewR (Kp.refl _)))
          refine wp_region_held_drew (S := fun w' => Kp w w') (by kernel_rfl) ?_ (fun hHeld => ?_)
          · exact A9d.out.base
          refine wpAnyH_take (i := 0) (v := ?_) rfl (by kernel_rfl) (by kernel_rfl) (by kernel_rfl) (fun _ _ _ h => h) (Or.inl ⟨by rfl, ?_⟩) (by assumption) ?_
          rotate_left
          · intro w hSw; go_simp; try with_reducible rfl
          go_simp
          refine wpAnyH_take (i := 1) (v := ?_) rfl (by kernel_rfl) (by kernel_rfl) (by kernel_rfl) (fun _ _ _ h => h) (Or.inl ⟨by rfl, ?_⟩) (by assumption) ?_
          rotate_left
          · intro w hSw; go_simp; try with_reducible rfl
          go_simp
          refine wpAnyH_ready (rs := [2]) (by kernel_rfl) (by simp) ?_
          refine AllReadyH.cons rfl (fun K hK => ?_) AllReadyH.nil
          go_simp
          go_wp2_with (go_at_call 21; (with_reducible refine (HC1.out _ A9d.out).mono ?_); rintro e' w10 ⟨rfl, ha⟩; have A10 := Lib.hid ha; clear ha)
          refine hK.out _ _ ?_ (fun hHeld => ?_)
          · exact A10.out.base
          clear hK K
          refine wpAnyH_take (i := 3) (v := ?_) rfl (by kernel_rfl) (by kernel_rfl) (by kernel_rfl) (fun _ _ _ h => h) (Or.inl ⟨by rfl, ?_⟩) (by assumption) ?_
          rotate_left
          · intro w hSw; go_simp; try with_reducible rfl
          go_simp
          refine wpAnyH_take (i := 4) (v := ?_) rfl (by kernel_rfl) (by kernel_rfl) (by kernel_rfl) (fun _ _ _ h => h) (Or.inl ⟨by rfl, ?_⟩) (by assumption) ?_
          rotate_left
          · intro w hSw; go_simp; try with_reducible rfl
          go_simp
          refine wpAnyH_take (i := 5) (v := ?_) rfl (by kernel_rfl) (by kernel_rfl) (by kernel_rfl) (fun _ _ _ h => h) (Or.inl ⟨by rfl, ?_⟩) (by assumption) ?_
          rotate_left
          · intro w hSw; go_simp; try with_reducible rfl
          go_simp
          refine wpAnyH_take (i := 7) (v := ?_) rfl (by kernel_rfl) (by kernel_rfl) (by kernel_rfl) (fun _ _ _ h => h) (Or.inl ⟨by rfl, ?_⟩) (by assumption) ?_
          rotate_left
          · intro w hSw; go_simp; try with_reducible rfl
          go_simp
          refine wpAnyH_take (i := 8) (v := ?_) rfl (by kernel_rfl) (by kernel_rfl) (by kernel_rfl) (fun _ _ _ h => h) (Or.inl ⟨by rfl, ?_⟩) (by assumption) ?_
          rotate_left
          · intro w hSw; go_simp; try with_reducible rfl
          go_simp
          refine wpAnyH_take (i := 9) (v := ?_) rfl (by kernel_rfl) (by kernel_rfl) (by kernel_rfl) (fun _ _ _ h => h) (Or.inl ⟨by rfl, ?_⟩) (by assumption) ?_
          rotate_left
          · intro w hSw; go_simp; try with_reducible rfl
          go_simp
          refine wpAnyH_ready (rs := [6]) (by kernel_rfl) (by simp) ?_
          refine AllReadyH.cons rfl (fun K hK => ?_) AllReadyH.nil
          go_simp
          go_wp2_with (go_at_call 13; (with_reducible refine (HLE.out _ A10.out).mono ?_); rintro e' w11 ⟨rfl, rfl⟩)
          refine hK.out _ _ ?_ (fun hHeld => ?_)
          · exact A10.out.base
          clear hK K
          refine wpAnyH_take (i := 10) (v := ?_) rfl (by kernel_rfl) (by kernel_rfl) (by kernel_rfl) (fun _ _ _ h => h) (Or.inl ⟨by rfl, ?_⟩) (by assumption) ?_
          rotate_left
          · intro w hSw; go_simp; try with_reducible rfl
          go_simp
          refine wpAnyH_take (i := 11) (v := ?_) rfl (by kernel_rfl) (by kernel_rfl) (by kernel_rfl) (fun _ _ _ h => h) (Or.inl ⟨by rfl, ?_⟩) (by assumption) ?_
          rotate_left
          · intro w hSw; go_simp; try with_reducible rfl
          go_simp
          refine wpAnyH_take (i := 12) (v := ?_) rfl (by kernel_rfl) (by kernel_rfl) (by kernel_rfl) (fun _ _ _ h => h) (Or.inl ⟨by rfl, ?_⟩) (by assumption) ?_
          rotate_left
          · intro w hSw; go_simp; try with_reducible rfl
          go_simp
          refine wpAnyH_take (i := 13) (v := ?_) rfl (by kernel_rfl) (by kernel_rfl) (by kernel_rfl) (fun _ _ _ h => h) (Or.inl ⟨by rfl, ?_⟩) (by assumption) ?_
          rotate_left
          · intro w hSw; go_simp; try with_reducible rfl
          go_simp
          refine wpAnyH_take (i := 15) (v := ?_) rfl (by kernel_rfl) (by kernel_rfl) (by kernel_rfl) (fun _ _ _ h => h) (Or.inl ⟨by rfl, ?_⟩) (by assumption) ?_
          rotate_left
          · intro w hSw; go_simp; try with_reducible rfl
          go_simp
          refine wpAnyH_take (i := 16) (v := ?_) rfl (by kernel_rfl) (by kernel_rfl) (by kernel_rfl) (fun _ _ _ h => h) (Or.inl ⟨by rfl, ?_⟩) (by assumption) ?_
          rotate_left
          · intro w hSw; go_simp; try with_reducible rfl
          go_simp
          refine wpAnyH_take (i := 21) (v := ?_) rfl (by kernel_rfl) (by kernel_rfl) (by kernel_rfl) (fun _ _ _ h => h) (Or.inl ⟨by rfl, ?_⟩) (by assumption) ?_
          rotate_left
          · intro w hSw; go_simp; try with_reducible rfl
          go_simp
          refine wpAnyH_take (i := 22) (v := ?_) rfl (by kernel_rfl) (by kernel_rfl) (by kernel_rfl) (fun _ _ _ h => h) (Or.inl ⟨by rfl, ?_⟩) (by assumption) ?_
          rotate_left
          · intro w hSw; go_simp; try with_reducible rfl
          go_simp
          refine wpAnyH_take (i := 23) (v := ?_) rfl (by kernel_rfl) (by kernel_rfl) (by kernel_rfl) (fun _ _ _ h => h) (Or.inl ⟨by rfl, ?_⟩) (by assumption) ?_
          rotate_left
          · intro w hSw; go_simp; try with_reducible rfl
          go_simp
          refine wpAnyH_take (i := 24) (v := ?_) rfl (by kernel_rfl) (by kernel_rfl) (by kernel_rfl) (fun _ _ _ h => h) (Or.inl ⟨by rfl, ?_⟩) (by assumption) ?_
          rotate_left
          · intro w hSw; obtain ⟨le, lc⟩ := HLI.out _ hSw; go_simp; try with_reducible rfl
          go_simp
          refine wpAnyH_take (i := 25) (v := ?_) rfl (by kernel_rfl) (by kernel_rfl) (by kernel_rfl) (fun _ _ _ h => h) (Or.inl ⟨by rfl, ?_⟩) (by assumption) ?_
          rotate_left
          · intro w hSw; obtain ⟨le, lc⟩ := HLI.out _ hSw; go_simp; try with_reducible rfl
          go_simp
          refine wpAnyH_ready (rs := [14]) (by kernel_rfl) (by simp) ?_
          refine AllReadyH.cons rfl (fun K hK => ?_) AllReadyH.nil
          go_simp
          go_wp2_with (go_at_call 15; (with_reducible refine (HLT.out _ _ _ A10.out).mono ?_); rintro e' w12 ⟨v12, ps12, rfl, hh, hk⟩; have A12 := Lib.hid (A10.out.kp HCC.out hk); obtain ⟨lc12, lq12, hv12, hcell⟩ := hh.at HN1.out; have HH12 := Lib.hid hh; obtain ⟨b12, o12, c12, hla12, hat12⟩ := hcell n (by rw [List.length_append, HLN.out.1]; exact Nat.lt_succ_self _); rw [show (rs ++ [xi])[n]'(by rw [List.length_append, HLN.out.1]; exact Nat.lt_succ_self _) = xi from by (have e := HLN.out.1; subst e; simp), HMT.out.2.2.2.1, ← HTN.out] at hat12; have HAT12 := Lib.hid hat12; subst hla12; subst hv12; clear hh hk hcell hat12)
          refine hK.out _ _ ?_ (fun hHeld => ?_)
          · exact A12.out.base
          clear hK K
          refine wpAnyH_mono (S' := fun w' => Kp w w' ∧ Hand w10.heap.size (gN (rs ++ [xi]) false 0).f (.slice (some ⟨b12, 0, none⟩) n1 lq12) ps12 w') (fun _ h => h.1) _ _ _ _ ?_
          have hHeld3 : (fun w' => Kp w w' ∧ Hand w10.heap.size (gN (rs ++ [xi]) false 0).f (.slice (some ⟨b12, 0, none⟩) n1 lq12) ps12 w') w12 := ⟨A12.out.base, HH12.out⟩
          refine wpAnyH_take (i := 17) (v := ?_) rfl (by kernel_rfl) (by kernel_rfl) (by kernel_rfl) (fun _ _ _ h => h) (Or.inl ⟨by rfl, ?_⟩) (by assumption) ?_
          rotate_left
          · intro w hSw; go_simp; try with_reducible rfl
          go_simp
          refine wpAnyH_take (i := 18) (v := ?_) rfl (by kernel_rfl) (by kernel_rfl) (by kernel_rfl) (fun _ _ _ h => h) (Or.inl ⟨by rfl, ?_⟩) (by assumption) ?_
          rotate_left
          · intro w hSw; go_simp; try with_reducible rfl
          go_simp
          refine wpAnyH_take (i := 19) (v := ?_) rfl (by kernel_rfl) (by kernel_rfl) (by kernel_rfl) (fun _ _ _ h => h) (Or.inl ⟨by rfl, ?_⟩) (by assumption) ?_
          rotate_left
          · intro w hSw; obtain ⟨-, -, lf, ls⟩ := HAT12.out _ hSw.2; have cvl := conv_slb ls; rw [HMT.out.2.2.2.2] at cvl; go_simp; try with_reducible rfl
          go_simp
          refine wpAnyH_take (i := 20) (v := ?_) rfl (by kernel_rfl) (by kernel_rfl) (by kernel_rfl) (fun _ _ _ h => h) (Or.inl ⟨by rfl, ?_⟩) (by assumption) ?_
          rotate_left
          · intro w hSw; obtain ⟨-, -, lf, ls⟩ := HAT12.out _ hSw.2; have cvl := conv_slb ls; rw [HMT.out.2.2.2.2] at cvl; go_simp; try with_reducible rfl
          go_simp
          refine wpAnyH_take (i := 26) (v := ?_) rfl (by kernel_rfl) (by kernel_rfl) (by kernel_rfl) (fun _ _ _ h => h) (Or.inl ⟨by rfl, ?_⟩) (by assumption) ?_
          rotate_left
          · intro w hSw; go_simp; try with_reducible rfl
          go_simp
          refine wpAnyH_take (i := 27) (v := ?_) rfl (by kernel_rfl) (by kernel_rfl) (by kernel_rfl) (fun _ _ _ h => h) (Or.inl ⟨by rfl, ?_⟩) (by assumption) ?_
          rotate_left
          · intro w hSw; go_simp; try with_reducible rfl
          go_simp
          refine wpAnyH_take (i := 28) (v := ?_) rfl (by kernel_rfl) (by kernel_rfl) (by kernel_rfl) (fun _ _ _ h => h) (Or.inl ⟨by rfl, ?_⟩) (by assumption) ?_
          rotate_left
          · intro w hSw; go_simp; try with_reducible rfl
          go_simp
          refine wpAnyH_done (by kernel_rfl) ?_ _
          go_wp2
          go_ret
          exact ⟨by first | rfl | simp, hHeld3.1⟩
theorem moves_any (x y : Int) (v : Value) (rs : List (List Int)) (w : World) (hs : SlBB v rs w) (C : NetC ads w J) : Calls Tryd.prog 6 #[v, .int .i64 x, .int .i64 y] w fun r w' => r = .returned (.bool true) ∧ Kp w w' := by
  by_cases h : rs.length < 1 ∨ 50 < rs.length
  · obtain ⟨a, cap, rfl⟩ := hs.form
    exact moves_out x y a _ cap w h C
  · rcases hs with ⟨rfl, -⟩ | ⟨b, off, cap, h0, rfl, hc⟩
    · exact absurd (.inl (by decide)) h
    · exact moves_in x y rs _ cap b off rfl w (by omega) (by omega) hc C
end Go.Proofs.YtjffkfcokgcenaaDoor
