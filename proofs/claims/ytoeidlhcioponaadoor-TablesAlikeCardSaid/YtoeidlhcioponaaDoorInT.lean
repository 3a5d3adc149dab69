/-
  liaisonnum.In, liaisonnum.SameInts (own work): is a number in a list; two lists.
-/
import Derived.Test.YtoeidlhcioponaaDoorSlN
import Derived.BigQuiet
import Derived.Deep.RegionHeld3
namespace Go.Proofs.YtoeidlhcioponaaDoor
open Go.RowKit Go.ChangeShapes Go.WideShapes

set_option maxRecDepth 20000 in
theorem in_any (a : Option Addr) (cap n : Nat) (bs : List Int) (hn : bs.length = n) (hl : n ≤ 1000000) (x : Int) (w : World) (hs : SlI (.slice a n cap) bs w) :
    Calls Tryd.prog 27 #[.slice a n cap, .int .i64 x] w fun e w' => e = .returned (.bool (decide (x ∈ bs))) ∧ Kp w w' := by
  obtain ⟨B, hB⟩ : ∃ B, decide (x ∈ bs) = B := ⟨_, rfl⟩
  rw [hB]
  have HB := Lib.hid hB
  have HS := Lib.hid (fun w1 (hk : Kp w w1) (j : Nat) (hj : j < bs.length) => (hs.kp hk).at j hj)
  have HN := Lib.hid hn
  clear hB hs hn
  go_enter Tryd.func27, Tryd.ntmps27
  go_wp2
  go_loopw [9] (fun i wr => ∃ j : Nat, j ≤ n ∧ i = .int .i64 j ∧ Kp w wr ∧ x ∉ bs.take j) (fun i _ => n - (intOf i).toNat)
  case atStart => exact ⟨0, Nat.zero_le _, rfl, Kp.refl _, by simp⟩
  case round =>
    obtain ⟨j, hj, rfl, hk, hx⟩ := hrel
    obtain ⟨jj, hjj⟩ : ∃ jj : Int, (j : Int) = jj := ⟨_, rfl⟩
    have K := Lib.hid hk
    have HX := Lib.hid hx
    rw [hjj]
    have hnl := HN.out
    by_cases hlt : j < n
    · have hjb : j < bs.length := by omega
      obtain ⟨b, off, rfl, ct⟩ := HS.out wr hk j hjb
      have hg : bs.getD j 0 = bs[j] := by simp [List.getD, hjb]
      rw [hg] at ct
      have ht : bs.take (j + 1) = bs.take j ++ [bs[j]] := by rw [List.take_add_one, List.getElem?_eq_getElem hjb]; rfl
      have hm : bs[j] ∈ bs := List.getElem_mem hjb
      obtain ⟨y, hy⟩ : ∃ y, bs[j] = y := ⟨_, rfl⟩
      rw [hy] at ct ht hm
      have ej : jj.toNat = j := by omega
      rw [← ej] at ct
      have j0 : 0 ≤ jj := by omega
      have hltj : jj < n := by omega
      have HJ := Lib.hid hjj
      by_cases hxy : y = x
      · subst hxy
        have hBt : B = true := by rw [← HB.out]; exact decide_eq_true hm
        subst hBt
        clear hg ht hm hy hjb hnl hlt ej hjj hk hx
        go_wp2
        go_ret
        exact ⟨rfl, K.out⟩
      · have hb : (y == x) = false := by simpa using hxy
        have HT := Lib.hid (show x ∉ bs.take (j + 1) by
          rw [ht, List.mem_append, List.mem_singleton]
          rintro (q | q)
          · exact hx q
          · exact hxy q.symm)
        clear hg ht hm hy hjb hnl hlt ej hjj hk hx
        go_wp2
        have hjj := HJ.out
        go_roundw
        case rel => exact ⟨j + 1, by omega, by congr 1; omega, K.out, HT.out⟩
        case measure => simp [intOf]; omega
    · obtain rfl : j = n := by omega
      rw [List.take_of_length_le (by omega)] at hx
      have hBf : B = false := by rw [← HB.out]; exact decide_eq_false hx
      subst hBf
      have hex : ¬ jj < j := by omega
      clear hk hx hnl hlt
      go_wp2
      go_ret
      exact ⟨rfl, K.out⟩

set_option maxRecDepth 20000 in
theorem sameInts_any (u v : Value) (xs ys : List Int) (hl : xs.length ≤ 1000000) (w : World) (hx : SlI u xs w) (hy : SlI v ys w) :
    Calls Tryd.prog 25 #[u, v] w fun e w' => e = .returned (.bool (decide (xs = ys))) ∧ Kp w w' := by
  obtain ⟨a, ca, rfl⟩ := hx.form
  obtain ⟨b, cb, rfl⟩ := hy.form
  obtain ⟨n, hn⟩ : ∃ n, xs.length = n := ⟨_, rfl⟩
  obtain ⟨n2, hn2⟩ : ∃ n, ys.length = n := ⟨_, rfl⟩
  rw [hn] at hx hl ⊢
  rw [hn2] at hy ⊢
  by_cases hlen : n = n2
  · subst hlen
    have HX := Lib.hid (fun w1 (hk : Kp w w1) (j : Nat) (hj : j < xs.length) => (hx.kp hk).at j hj)
    have HY := Lib.hid (fun w1 (hk : Kp w w1) (j : Nat) (hj : j < ys.length) => (hy.kp hk).at j hj)
    have HN := Lib.hid hn
    have HN2 := Lib.hid hn2
    obtain ⟨B, hB⟩ : ∃ B, decide (xs = ys) = B := ⟨_, rfl⟩
    rw [hB]
    have HB := Lib.hid hB
    clear hx hy hn hn2 hB
    go_enter Tryd.func25, Tryd.ntmps25
    go_wp2
    go_loopw [13] (fun i wr => ∃ j : Nat, j ≤ n ∧ i = .int .i64 j ∧ Kp w wr ∧ xs.take j = ys.take j) (fun i _ => n - (intOf i).toNat)
    case atStart => exact ⟨0, Nat.zero_le _, rfl, Kp.refl _, by simp⟩
    case round =>
      obtain ⟨j, hj, rfl, hk, heq⟩ := hrel
      obtain ⟨jj, hjj⟩ : ∃ jj : Int, (j : Int) = jj := ⟨_, rfl⟩
      have K := Lib.hid hk
      have EQ := Lib.hid heq
      rw [hjj]
      have hnl := HN.out
      have hnl2 := HN2.out
      by_cases hlt : j < n
      · have hjx : j < xs.length := by omega
        have hjy : j < ys.length := by omega
        obtain ⟨b1, o1, rfl, c1⟩ := HX.out wr hk j hjx
        obtain ⟨b2, o2, rfl, c2⟩ := HY.out wr hk j hjy
        have g1 : xs.getD j 0 = xs[j] := by simp [List.getD, hjx]
        have g2 : ys.getD j 0 = ys[j] := by simp [List.getD, hjy]
        rw [g1] at c1
        rw [g2] at c2
        have t1 : xs.take (j + 1) = xs.take j ++ [xs[j]] := by rw [List.take_add_one, List.getElem?_eq_getElem hjx]; rfl
        have t2 : ys.take (j + 1) = ys.take j ++ [ys[j]] := by rw [List.take_add_one, List.getElem?_eq_getElem hjy]; rfl
        have hne : xs = ys → xs[j] = ys[j] := fun q => by subst q; rfl
        obtain ⟨x, hxx⟩ : ∃ y, xs[j] = y := ⟨_, rfl⟩
        obtain ⟨y, hyy⟩ : ∃ y, ys[j] = y := ⟨_, rfl⟩
        rw [hxx] at c1 t1 hne
        rw [hyy] at c2 t2 hne
        have ej : jj.toNat = j := by omega
        rw [← ej] at c1 c2
        have j0 : 0 ≤ jj := by omega
        have hltj : jj < n := by omega
        have HJ := Lib.hid hjj
        by_cases hxy : x = y
        · subst hxy
          have HT := Lib.hid (show xs.take (j + 1) = ys.take (j + 1) by rw [t1, t2, heq])
          clear g1 g2 t1 t2 hne hxx hyy hjx hjy hnl hnl2 hlt ej hjj hk heq
          go_wp2
          refine wp_region_held_drew (S := fun w' => Kp wr w') (by kernel_rfl) ?_ (fun hHeld => ?_)
          · exact (Kp.refl wr).drew
          refine wpAnyH_take (i := 0) (v := ?_) rfl (by kernel_rfl) (by kernel_rfl) (by kernel_rfl) (fun _ _ _ h => h) (Or.inl ⟨by rfl, ?_⟩) (by assumption) ?_
          rotate_left
          · intro w hSw; go_simp; try with_reducible rfl
          go_simp
          refine wpAnyH_take (i := 1) (v := ?_) rfl (by kernel_rfl) (by kernel_rfl) (by kernel_rfl) (fun _ _ _ h => h) (Or.inl ⟨by rfl, ?_⟩) (by assumption) ?_
          rotate_left
          · intro w hSw; go_simp; try with_reducible rfl
          go_simp
          refine wpAnyH_take (i := 2) (v := ?_) rfl (by kernel_rfl) (by kernel_rfl) (by kernel_rfl) (fun _ _ _ h => h) (Or.inl ⟨by rfl, ?_⟩) (by assumption) ?_
          rotate_left
          · intro w hSw; go_simp; try with_reducible rfl
          go_simp
          refine wpAnyH_take (i := 3) (v := ?_) rfl (by kernel_rfl) (by kernel_rfl) (by kernel_rfl) (fun _ _ _ h => h) (Or.inl ⟨by rfl, ?_⟩) (by assumption) ?_
          rotate_left
          · intro w hSw; have q := kp_cell hSw c1; go_simp; try with_reducible rfl
          go_simp
          refine wpAnyH_take (i := 4) (v := ?_) rfl (by kernel_rfl) (by kernel_rfl) (by kernel_rfl) (fun _ _ _ h => h) (Or.inl ⟨by rfl, ?_⟩) (by assumption) ?_
          rotate_left
          · intro w hSw; go_simp; try with_reducible rfl
          go_simp
          refine wpAnyH_take (i := 5) (v := ?_) rfl (by kernel_rfl) (by kernel_rfl) (by kernel_rfl) (fun _ _ _ h => h) (Or.inl ⟨by rfl, ?_⟩) (by assumption) ?_
          rotate_left
          · intro w hSw; go_simp; try with_reducible rfl
          go_simp
          refine wpAnyH_take (i := 6) (v := ?_) rfl (by kernel_rfl) (by kernel_rfl) (by kernel_rfl) (fun _ _ _ h => h) (Or.inl ⟨by rfl, ?_⟩) (by assumption) ?_
          rotate_left
          · intro w hSw; go_simp; try with_reducible rfl
          go_simp
          refine wpAnyH_take (i := 7) (v := ?_) rfl (by kernel_rfl) (by kernel_rfl) (by kernel_rfl) (fun _ _ _ h => h) (Or.inl ⟨by rfl, ?_⟩) (by assumption) ?_
          rotate_left
          · intro w hSw; have q := kp_cell hSw c2; go_simp; try with_reducible rfl
          go_simp
          refine wpAnyH_take (i := 8) (v := ?_) rfl (by kernel_rfl) (by kernel_rfl) (by kernel_rfl) (fun _ _ _ h => h) (Or.inl ⟨by rfl, ?_⟩) (by assumption) ?_
          rotate_left
          · intro w hSw; go_simp; try with_reducible rfl
          go_simp
          refine wpAnyH_done (by kernel_rfl) ?_ _
          go_wp2
          have hjj := HJ.out
          go_roundw
          case rel => exact ⟨j + 1, by omega, by congr 1; omega, K.out.drew, HT.out⟩
          case measure => simp [intOf]; omega
        · have hb : (x != y) = true := by simpa using hxy
          have hBf : B = false := by rw [← HB.out]; exact decide_eq_false fun q => hxy (hne q)
          subst hBf
          clear g1 g2 t1 t2 hne hxx hyy hjx hjy hnl hnl2 hlt ej hjj hk heq
          go_wp2
          refine wp_region_held_drew (S := fun w' => Kp wr w') (by kernel_rfl) ?_ (fun hHeld => ?_)
          · exact (Kp.refl wr).drew
          refine wpAnyH_take (i := 0) (v := ?_) rfl (by kernel_rfl) (by kernel_rfl) (by kernel_rfl) (fun _ _ _ h => h) (Or.inl ⟨by rfl, ?_⟩) (by assumption) ?_
          rotate_left
          · intro w hSw; go_simp; try with_reducible rfl
          go_simp
          refine wpAnyH_take (i := 1) (v := ?_) rfl (by kernel_rfl) (by kernel_rfl) (by kernel_rfl) (fun _ _ _ h => h) (Or.inl ⟨by rfl, ?_⟩) (by assumption) ?_
          rotate_left
          · intro w hSw; go_simp; try with_reducible rfl
          go_simp
          refine wpAnyH_take (i := 2) (v := ?_) rfl (by kernel_rfl) (by kernel_rfl) (by kernel_rfl) (fun _ _ _ h => h) (Or.inl ⟨by rfl, ?_⟩) (by assumption) ?_
          rotate_left
          · intro w hSw; go_simp; try with_reducible rfl
          go_simp
          refine wpAnyH_take (i := 3) (v := ?_) rfl (by kernel_rfl) (by kernel_rfl) (by kernel_rfl) (fun _ _ _ h => h) (Or.inl ⟨by rfl, ?_⟩) (by assumption) ?_
          rotate_left
          · intro w hSw; have q := kp_cell hSw c1; go_simp; try with_reducible rfl
          go_simp
          refine wpAnyH_take (i := 4) (v := ?_) rfl (by kernel_rfl) (by kernel_rfl) (by kernel_rfl) (fun _ _ _ h => h) (Or.inl ⟨by rfl, ?_⟩) (by assumption) ?_
          rotate_left
          · intro w hSw; go_simp; try with_reducible rfl
          go_simp
          refine wpAnyH_take (i := 5) (v := ?_) rfl (by kernel_rfl) (by kernel_rfl) (by kernel_rfl) (fun _ _ _ h => h) (Or.inl ⟨by rfl, ?_⟩) (by assumption) ?_
          rotate_left
          · intro w hSw; go_simp; try with_reducible rfl
          go_simp
          refine wpAnyH_take (i := 6) (v := ?_) rfl (by kernel_rfl) (by kernel_rfl) (by kernel_rfl) (fun _ _ _ h => h) (Or.inl ⟨by rfl, ?_⟩) (by assumption) ?_
          rotate_left
          · intro w hSw; go_simp; try with_reducible rfl
          go_simp
          refine wpAnyH_take (i := 7) (v := ?_) rfl (by kernel_rfl) (by kernel_rfl) (by kernel_rfl) (fun _ _ _ h => h) (Or.inl ⟨by rfl, ?_⟩) (by assumption) ?_
          rotate_left
          · intro w hSw; have q := kp_cell hSw c2; go_simp; try with_reducible rfl
          go_simp
          refine wpAnyH_take (i := 8) (v := ?_) rfl (by kernel_rfl) (by kernel_rfl) (by kernel_rfl) (fun _ _ _ h => h) (Or.inl ⟨by rfl, ?_⟩) (by assumption) ?_
          rotate_left
          · intro w hSw; go_simp; try with_reducible rfl
          go_simp
          refine wpAnyH_done (by kernel_rfl) ?_ _
          go_wp2
          go_ret
          exact ⟨rfl, K.out.drew⟩
      · obtain rfl : j = n := by omega
        rw [List.take_of_length_le (by omega), List.take_of_length_le (by omega)] at heq
        have hBt : B = true := by rw [← HB.out]; exact decide_eq_true heq
        subst hBt
        have hex : ¬ jj < j := by omega
        clear hk heq hnl hnl2 hlt
        go_wp2
        go_ret
        exact ⟨rfl, K.out⟩
  · have hne : xs ≠ ys := fun q => hlen (by rw [← hn, ← hn2, q])
    rw [decide_eq_false hne]
    obtain ⟨nn, hnn⟩ : ∃ nn : Int, (n : Int) = nn := ⟨_, rfl⟩
    obtain ⟨mm, hmm⟩ : ∃ mm : Int, (n2 : Int) = mm := ⟨_, rfl⟩
    have hb : (nn != mm) = true := by simp; omega
    clear hne hx hy hn hn2 hlen
    go_enter Tryd.func25, Tryd.ntmps25
    go_wp2
    go_ret
    exact ⟨rfl, Kp.refl _⟩
end Go.Proofs.YtoeidlhcioponaaDoor
