/-
  check.Seal, check.Open (own work).
-/
import Derived.Test.YtdcbmajmhfhaaaaDoorConcC
import Derived.Test.YtdcbmajmhfhaaaaDoorDigC
import Derived.Test.YtdcbmajmhfhaaaaDoorStE
import Derived.Lib.SlBytesRow
import Derived.BigQuiet
import Derived.WalkSmall
namespace Go.Proofs.YtdcbmajmhfhaaaaDoor
open Go.RowKit Go.ChangeShapes Go.WideShapes

theorem byte_sz : ∀ w, (Go.sizeOf 5).run Tryd.prog w = .ok 1 w := by
  obtain ⟨i0, hi, -, hz1, -⟩ := info_parts info_byte
  intro w
  simp [sizeOf, typeInfo, hi, hz1]
theorem byte_elem : Tryd.prog.elem 24 = 5 := by simp [Program.elem, Tryd.underlying24]
theorem byte_sl : Tryd.prog.underlying 24 = some (.slice (Tryd.prog.elem 24)) := by simp [Program.elem, Tryd.underlying24]

theorem SlB.pos {a : Option Addr} {n c : Nat} {bs : List Int} {w : World} (h : SlB (.slice a n c) bs w) (hn : 0 < n) : ∃ b off, a = some ⟨b, off, none⟩ := by
  rcases h with ⟨rfl, a', cap, hv, _⟩ | ⟨b, off, cap, _, hv, _⟩
  · injection hv with _ h2 _; omega
  · injection hv with h1 _ _; exact ⟨b, off, h1⟩
theorem slb_take {b off n c m : Nat} {bs : List Int} {w : World} (h : SlB (.slice (some ⟨b, off, none⟩) n c) bs w) (hm : m ≤ n) : SlB (.slice (some ⟨b, off, none⟩) m c) (bs.take m) w := by
  have hl := h.len
  rcases Nat.eq_zero_or_pos m with rfl | hp
  · exact .inl ⟨by simp, _, c, rfl, fun h => by cases h⟩
  · rcases h with ⟨rfl, _⟩ | ⟨b', off', c', h0, hv, hc⟩
    · simp at hl; omega
    · injection hv with h1 h2 h3
      injection h1 with h1
      injection h1 with h4 h5
      subst h4 h5
      have hml : (bs.take m).length = m := by simp; omega
      refine .inr ⟨b, off, c, by omega, by rw [hml], fun j hj => ?_⟩
      rw [hc j (by omega)]
      simp [List.getD, show j < m by omega]
theorem slb_drop {b off n c m : Nat} {bs : List Int} {w : World} (h : SlB (.slice (some ⟨b, off, none⟩) n c) bs w) (hm : m ≤ n) (hnc : n ≤ c) : SlB (.slice (some ⟨b, if c = m then off else off + m, none⟩) (n - m) (c - m)) (bs.drop m) w := by
  have hl := h.len
  rcases Nat.eq_zero_or_pos (n - m) with hz | hp
  · rw [hz]
    exact .inl ⟨by rw [List.drop_of_length_le]; omega, _, _, rfl, fun h => by cases h⟩
  · have hcm : ¬ c = m := by omega
    rw [if_neg hcm]
    rcases h with ⟨rfl, _⟩ | ⟨b', off', c', h0, hv, hc⟩
    · simp at hl; omega
    · injection hv with h1 h2 h3
      injection h1 with h1
      injection h1 with h4 h5
      subst h4 h5
      have hml : (bs.drop m).length = n - m := by simp; omega
      refine .inr ⟨b, off + m, c - m, by omega, by rw [hml], fun j hj => ?_⟩
      rw [Nat.add_assoc, hc (m + j) (by omega)]
      simp [List.getD, List.getElem?_drop]
theorem run_head {b off n c m : Nat} {mm : Int} (hmm : (m : Int) = mm) (hm : m ≤ n) (hnc : n ≤ c) (w : World) :
    (Instr.slice 24 (.slice (some ⟨b, off, none⟩) n c) none (some (.int .i64 mm)) none).run Tryd.prog w = .ok (.slice (some ⟨b, off, none⟩) m c) w := by
  rw [run_slice_h w 24 _ _ _ byte_sl .i64 _ (by omega) (by omega), byte_elem, byte_sz]
  have e : mm.toNat = m := by omega
  simp [Result.andThen, sliced, Addr.add, e]
theorem run_tail {b off n c m : Nat} {mm : Int} (hmm : (m : Int) = mm) (hm : m ≤ n) (w : World) :
    (Instr.slice 24 (.slice (some ⟨b, off, none⟩) n c) (some (.int .i64 mm)) none none).run Tryd.prog w = .ok (.slice (some ⟨b, if c = m then off else off + m, none⟩) (n - m) (c - m)) w := by
  rw [run_slice_l w 24 _ _ _ byte_sl .i64 _ (by omega) (by omega), byte_elem, byte_sz]
  have e : mm.toNat = m := by omega
  simp [Result.andThen, sliced, Addr.add, e]
  split <;> simp
/-- A beginning of a slice, whatever slice. -/
theorem slb_head {a : Option Addr} {n c m : Nat} {bs : List Int} {w : World} (h : SlB (.slice a n c) bs w) (hm : m ≤ n) (hnc : n ≤ c) {mm : Int} (hmm : (m : Int) = mm) :
    ∃ A C, (∀ w, (Instr.slice 24 (.slice a n c) none (some (.int .i64 mm)) none).run Tryd.prog w = .ok (.slice A m C) w) ∧ SlB (.slice A m C) (bs.take m) w := by
  by_cases hn : 0 < n
  · obtain ⟨b, off, rfl⟩ := h.pos hn
    exact ⟨_, _, fun w => run_head hmm hm hnc w, slb_take h hm⟩
  · obtain rfl : n = 0 := by omega
    obtain rfl : m = 0 := by omega
    have e : mm.toNat = 0 := by omega
    cases a with
    | none =>
      obtain ⟨_, rfl⟩ := h.app.1 rfl
      refine ⟨none, 0, fun w => ?_, .inl ⟨by simp, none, 0, rfl, fun _ => rfl⟩⟩
      rw [run_slice_h w 24 _ _ _ byte_sl .i64 _ (by omega) (by omega), byte_elem, byte_sz]
      simp [Result.andThen, sliced, e]
    | some ad =>
      obtain ⟨b, off, sp⟩ := ad
      refine ⟨some ⟨b, off, sp⟩, c, fun w => ?_, .inl ⟨by simp, _, c, rfl, fun h => by cases h⟩⟩
      rw [run_slice_h w 24 _ _ _ byte_sl .i64 _ (by omega) (by omega), byte_elem, byte_sz]
      simp [Result.andThen, sliced, Addr.add, e]

theorem own_len {w : World} {base n : Nat} {e : TypeId} {v : Value} {xs : List Value} (h : w.ownsRow base e 1 v n xs) : ∃ a c, v = .slice a n c ∧ n ≤ c := by
  rcases h.2 with ⟨rfl, rfl⟩ | ⟨g, cap, cur, rfl, _, _, hc, _⟩
  · exact ⟨none, 0, rfl, Nat.le_refl _⟩
  · exact ⟨_, cap, rfl, hc⟩
theorem crc_four_len (bs : List Int) : (four (crc bs)).length = 4 := rfl

set_option maxRecDepth 100000 in
theorem seal_any (a : Option Addr) (n c : Nat) (bs : List Int) (hn : bs.length = n) (hl : n ≤ 900) (hb : InB bs) (w : World) (ht : Tb w) (hs : SlB (.slice a n c) bs w) :
    Calls Tryd.prog 13 #[.slice a n c] w fun e w' => ∃ v, e = .returned v ∧ w'.ownsRow w.heap.size 5 1 v (n + 4) ((bs ++ four (crc bs)).map (Value.int .u8)) ∧ Kp w w' := by
  have K1 := Lib.hid (kp_alloc w (.cells #[.slice a n c] 24))
  have HS := Lib.hid (sum_one a n c bs hn (by omega) hb w ht hs 24 _ (Kp.refl _))
  have HD := fun w1 => digits_g (crc bs) (crc_lt hb) w1
  obtain ⟨cc, hcc⟩ : ∃ cc : Int, ((crc bs : Nat) : Int) = cc := ⟨_, rfl⟩
  simp only [hcc] at HD
  rw [hcc] at HS
  have HDD := Lib.hid HD
  obtain ⟨F, hF⟩ : ∃ F, four (crc bs) = F := ⟨_, rfl⟩
  have hF4 : F.length = 4 := by rw [← hF]; rfl
  have hFb : InB F := by rw [← hF]; exact four_in _
  rw [hF] at HDD ⊢
  have HFF := Lib.hid (And.intro hF4 hFb)
  have HSB := Lib.hid hs
  have HB := Lib.hid hb
  have HN := Lib.hid hn
  clear hs hb hn ht HD hcc hF hF4 hFb
  go_enter Tryd.func13, Tryd.ntmps13
  go_wp2_with (first | (go_at_call 9; go_loud ((with_reducible refine HS.out.mono ?_); rintro e w1 ⟨rfl, rfl⟩)) | (go_at_call 20; (with_reducible refine (HDD.out _).mono ?_); rintro e w2 ⟨g2, rfl, ho2, hk2⟩; go_loud (have K2 := Lib.hid (Kp.trans K1.out hk2); have S2 := Lib.hid (own_slb ho2); have HC := Lib.hid (concat_any _ _ (by simp) (fun l hl' => by rcases List.mem_cons.1 hl' with h | h; (rw [h, HN.out]; omega); (rw [List.mem_singleton.1 h, HFF.out.1]; omega)) _ (bb_two (t := 24) (HSB.out.kp K2.out) HN.out HB.out S2.out HFF.out.1 HFF.out.2)); clear ho2 hk2)) | (go_at_call 19; go_loud (with_reducible refine HC.out.mono ?_); rintro e w3 ⟨v3, rfl, ho3, hk3⟩; have K3 := Lib.hid (Kp.trans K2.out (Kp.trans (kp_alloc _ _) hk3)); have O3 := Lib.hid ho3; clear ho3 hk3))
  go_ret
  refine ⟨_, rfl, ?_, K3.out⟩
  have h := own_mono O3.out (show w.heap.size ≤ _ from Nat.le_trans (Below.size K2.out) (Below.size (kp_alloc _ _)))
  have e1 : [bs, F].flatten = bs ++ F := by simp
  rw [e1, List.length_append, HN.out, HFF.out.1] at h
  exact h

set_option maxRecDepth 100000 in
theorem open_short (ads : List Addr) (h1 : 1 < ads.length) (a : Option Addr) (n c : Nat) (hl : n < 4) (w : World) (V : St ads w) :
    Calls Tryd.prog 14 #[.slice a n c] w fun e w' => e = .returned (.tuple #[.slice none 0 0, snt (ads[1]'h1)]) ∧ Kp w w' := by
  have c1 : w.cell? ⟨1, 0, none⟩ = some (snt (ads[1]'h1)) := V.cell 1 (by decide)
  obtain ⟨e1, he1⟩ : ∃ a, ads[1]'h1 = a := ⟨_, rfl⟩
  rw [he1] at c1 ⊢
  obtain ⟨nn, hnn⟩ : ∃ nn : Int, (n : Int) = nn := ⟨_, rfl⟩
  have hlt : nn < 4 := by omega
  clear V he1
  go_enter Tryd.func14, Tryd.ntmps14
  go_wp2
  go_quiet (fail)
  go_wp2
  go_ret2
  exact ⟨rfl, below_drewN (Kp.refl _) _⟩

set_option maxRecDepth 100000 in
set_option maxHeartbeats 1000000 in
theorem open_bad (ads : List Addr) (h4 : 4 < ads.length) (a : Option Addr) (n c k : Nat) (bs : List Int) (hn : bs.length = n) (hk : n = k + 4) (hl : n ≤ 1000) (hnc : n ≤ c) (hb : InB bs) (w : World) (V : St ads w) (ht : Tb w) (hs : SlB (.slice a n c) bs w) (hc : bs.drop k ≠ four (crc (bs.take k))) :
    Calls Tryd.prog 14 #[.slice a n c] w fun e w' => e = .returned (.tuple #[.slice none 0 0, snt (ads[4]'h4)]) ∧ Kp w w' := by
  obtain ⟨b, off, rfl⟩ := hs.pos (by omega)
  have c4 : w.cell? ⟨2, 0, none⟩ = some (snt (ads[4]'h4)) := V.cell 4 (by decide)
  obtain ⟨e4, he4⟩ : ∃ a, ads[4]'h4 = a := ⟨_, rfl⟩
  simp only [he4] at c4 ⊢
  obtain ⟨kk, hkk⟩ : ∃ kk : Int, (k : Int) = kk := ⟨_, rfl⟩
  obtain ⟨nn, hnn⟩ : ∃ nn : Int, (n : Int) = nn := ⟨_, rfl⟩
  have s1 := fun w1 => run_head (b := b) (off := off) (c := c) (n := n) (m := k) hkk (by omega) hnc w1
  have s2 := fun w1 => run_tail (b := b) (off := off) (c := c) (n := n) (m := k) hkk (by omega) w1
  have t1 := slb_take (m := k) hs (by omega)
  have t2 := slb_drop (m := k) hs (by omega) hnc
  have hd : nn - 4 = kk := by omega
  have e0 : n - k = 4 := by omega
  rw [e0] at s2 t2
  obtain ⟨o2, ho2⟩ : ∃ o2, (if c = k then off else off + k) = o2 := ⟨_, rfl⟩
  obtain ⟨c2, hc2⟩ : ∃ c2, c - k = c2 := ⟨_, rfl⟩
  rw [ho2, hc2] at s2 t2
  have ho3 : (if c = k then some (⟨b, off, none⟩ : Addr) else some ⟨b, off + k, none⟩) = some ⟨b, o2, none⟩ := by rw [← ho2]; split <;> rfl
  have e1 : kk.toNat = k := by omega
  have hle : kk ≤ nn := by omega
  have hup : kk ≤ 1000 := by omega
  have hlk : (bs.take k).length = k := by rw [List.length_take]; omega
  obtain ⟨B1, hB1⟩ : ∃ B, bs.take k = B := ⟨_, rfl⟩
  have hb1 : InB B1 := by rw [← hB1]; exact in_take hb k
  obtain ⟨B2, hB2⟩ : ∃ B, bs.drop k = B := ⟨_, rfl⟩
  have hb2 : InB B2 := by rw [← hB2]; exact in_drop hb k
  rw [hB1] at t1 hlk
  rw [hB2] at t2
  rw [hB1, hB2] at hc
  have cw : (w.drew).cell? ⟨2, 0, none⟩ = some (snt e4) := kp_cell (Kp.refl w).drew c4
  have K1 := Lib.hid (kp_alloc w (.cells #[.slice (some ⟨b, off, none⟩) k c] 24)).drew
  have HS := Lib.hid (sum_one (some ⟨b, off, none⟩) k c B1 hlk (by omega) hb1 w ht t1 24 _ (Kp.refl _).drew)
  have HD := fun w1 => digits_g (crc B1) (crc_lt hb1) w1
  obtain ⟨cc, hcc⟩ : ∃ cc : Int, ((crc B1 : Nat) : Int) = cc := ⟨_, rfl⟩
  simp only [hcc] at HD
  rw [hcc] at HS
  have HDD := Lib.hid HD
  obtain ⟨F, hF⟩ : ∃ F, four (crc B1) = F := ⟨_, rfl⟩
  have hFb : InB F := by rw [← hF]; exact four_in _
  rw [hF] at HDD hc
  have HT := Lib.hid t2
  have HT1 := Lib.hid t1
  have EQ := fun a a2 n2 c2 c3 w1 h1 h2 => equal_f a a2 4 c2 n2 c3 B2 F hb2 hFb hc w1 h1 h2
  have hge : ¬ nn < 4 := by omega
  have k0 : 0 ≤ kk := by omega
  have HC4 := Lib.hid c4
  clear V he4 t1 t2 ho2 hB1 hB2 hkk hk hlk hcc hF HD hn hb hb1 hb2 hs hl hnc ht cw c4 hFb
  go_enter Tryd.func14, Tryd.ntmps14
  go_wp2
  refine wp_region_any (by kernel_rfl) ?_
  change wpAny _ _ _ _ _ _ _ (World.drew _)
  refine wpAny_take (i := 0) (v := ?_) rfl (by kernel_rfl) (by kernel_rfl) (by kernel_rfl) (fun _ _ _ h => h) (Or.inl ⟨by rfl, ?_⟩) ?_
  rotate_left
  · intro w; go_simp; try with_reducible rfl
  go_simp
  refine wpAny_take (i := 1) (v := ?_) rfl (by kernel_rfl) (by kernel_rfl) (by kernel_rfl) (fun _ _ _ h => h) (Or.inl ⟨by rfl, ?_⟩) ?_
  rotate_left
  · intro w; go_simp; try with_reducible rfl
  go_simp
  refine wpAny_take (i := 3) (v := ?_) rfl (by kernel_rfl) (by kernel_rfl) (by kernel_rfl) (fun _ _ _ h => h) (Or.inl ⟨by rfl, ?_⟩) ?_
  rotate_left
  · intro w; go_simp; try with_reducible rfl
  go_simp
  refine wpAny_take (i := 4) (v := ?_) rfl (by kernel_rfl) (by kernel_rfl) (by kernel_rfl) (fun _ _ _ h => h) (Or.inl ⟨by rfl, ?_⟩) ?_
  rotate_left
  · intro w; go_simp; try with_reducible rfl
  go_simp
  refine wpAny_take (i := 2) (v := ?_) rfl (by kernel_rfl) (by kernel_rfl) (by kernel_rfl) (fun _ _ _ h => h) (Or.inl ⟨by rfl, ?_⟩) ?_
  rotate_left
  · intro w; go_simp; try with_reducible rfl
  go_simp
  refine wpAny_take (i := 5) (v := ?_) rfl (by kernel_rfl) (by kernel_rfl) (by kernel_rfl) (fun _ _ _ h => h) (Or.inl ⟨by rfl, ?_⟩) ?_
  rotate_left
  · intro w; go_simp; try with_reducible rfl
  go_simp
  refine wpAny_ready (rs := [6]) (by kernel_rfl) (by simp) ?_
  refine AllReady.cons rfl (fun K hK => ?_) AllReady.nil
  go_simp
  refine hK _ _ ?_
  clear hK K
  refine wpAny_ready (rs := [7]) (by kernel_rfl) (by simp) ?_
  refine AllReady.cons rfl (fun K hK => ?_) AllReady.nil
  go_simp
  go_wp2_with (go_at_call 9; (with_reducible refine HS.out.mono ?_); rintro e w1 ⟨rfl, rfl⟩)
  refine wpAny_ready (rs := [8]) (by kernel_rfl) (by simp) ?_
  refine AllReady.cons rfl (fun K hK => ?_) AllReady.nil
  go_simp
  go_wp2_with (go_at_call 20; (with_reducible refine (HDD.out _).mono ?_); rintro e w2 ⟨g2, rfl, ho2, hk2⟩; have K2 := Lib.hid (Kp.trans K1.out hk2); have S2 := Lib.hid (own_slb ho2); have HQ := Lib.hid (EQ _ _ _ _ _ _ (HT.out.kp K2.out) S2.out); clear ho2 hk2)
  refine wpAny_ready (rs := [9]) (by kernel_rfl) (by simp) ?_
  refine AllReady.cons rfl (fun K hK => ?_) AllReady.nil
  go_simp
  go_wp2_with (go_at_call 21; (with_reducible refine HQ.out.mono ?_); rintro e w3 ⟨rfl, hk3⟩; have K3 := Lib.hid (Kp.trans K2.out hk3); clear hk3)
  refine wpAny_take (i := 10) (v := ?_) rfl (by kernel_rfl) (by kernel_rfl) (by kernel_rfl) (fun _ _ _ h => h) (Or.inl ⟨by rfl, ?_⟩) ?_
  rotate_left
  · intro w; go_simp; try with_reducible rfl
  go_simp
  refine wpAny_done (by kernel_rfl) ?_ _
  have c5 := kp_cell K3.out HC4.out
  go_wp2
  go_quiet (fail)
  go_wp2
  go_ret2
  exact ⟨rfl, below_drewN K3.out _⟩

set_option maxRecDepth 100000 in
set_option maxHeartbeats 1000000 in
theorem open_ok (ads : List Addr) (h4 : 4 < ads.length) (a : Option Addr) (n c k : Nat) (bs : List Int) (hn : bs.length = n) (hk : n = k + 4) (hl : n ≤ 1000) (hnc : n ≤ c) (hb : InB bs) (w : World) (V : St ads w) (ht : Tb w) (hs : SlB (.slice a n c) bs w) (hc : bs.drop k = four (crc (bs.take k))) :
    Calls Tryd.prog 14 #[.slice a n c] w fun e w' => ∃ v, e = .returned (.tuple #[v, .nilIface]) ∧ w'.ownsRow w.heap.size 5 1 v k ((bs.take k).map (Value.int .u8)) ∧ Kp w w' := by
  obtain ⟨b, off, rfl⟩ := hs.pos (by omega)
  have c4 : w.cell? ⟨2, 0, none⟩ = some (snt (ads[4]'h4)) := V.cell 4 (by decide)
  obtain ⟨e4, he4⟩ : ∃ a, ads[4]'h4 = a := ⟨_, rfl⟩
  simp only [he4] at c4 ⊢
  obtain ⟨kk, hkk⟩ : ∃ kk : Int, (k : Int) = kk := ⟨_, rfl⟩
  obtain ⟨nn, hnn⟩ : ∃ nn : Int, (n : Int) = nn := ⟨_, rfl⟩
  have s1 := fun w1 => run_head (b := b) (off := off) (c := c) (n := n) (m := k) hkk (by omega) hnc w1
  have s2 := fun w1 => run_tail (b := b) (off := off) (c := c) (n := n) (m := k) hkk (by omega) w1
  have t1 := slb_take (m := k) hs (by omega)
  have t2 := slb_drop (m := k) hs (by omega) hnc
  have hd : nn - 4 = kk := by omega
  have e0 : n - k = 4 := by omega
  rw [e0] at s2 t2
  obtain ⟨o2, ho2⟩ : ∃ o2, (if c = k then off else off + k) = o2 := ⟨_, rfl⟩
  obtain ⟨c2, hc2⟩ : ∃ c2, c - k = c2 := ⟨_, rfl⟩
  rw [ho2, hc2] at s2 t2
  have ho3 : (if c = k then some (⟨b, off, none⟩ : Addr) else some ⟨b, off + k, none⟩) = some ⟨b, o2, none⟩ := by rw [← ho2]; split <;> rfl
  have e1 : kk.toNat = k := by omega
  have hle : kk ≤ nn := by omega
  have hup : kk ≤ 1000 := by omega
  have hlk : (bs.take k).length = k := by rw [List.length_take]; omega
  obtain ⟨B1, hB1⟩ : ∃ B, bs.take k = B := ⟨_, rfl⟩
  have hb1 : InB B1 := by rw [← hB1]; exact in_take hb k
  obtain ⟨B2, hB2⟩ : ∃ B, bs.drop k = B := ⟨_, rfl⟩
  have hb2 : InB B2 := by rw [← hB2]; exact in_drop hb k
  rw [hB1] at t1 hlk
  rw [hB2] at t2
  rw [hB1, hB2] at hc
  have cw : (w.drew).cell? ⟨2, 0, none⟩ = some (snt e4) := kp_cell (Kp.refl w).drew c4
  have K1 := Lib.hid (kp_alloc w (.cells #[.slice (some ⟨b, off, none⟩) k c] 24)).drew
  have HS := Lib.hid (sum_one (some ⟨b, off, none⟩) k c B1 hlk (by omega) hb1 w ht t1 24 _ (Kp.refl _).drew)
  have HD := fun w1 => digits_g (crc B1) (crc_lt hb1) w1
  obtain ⟨cc, hcc⟩ : ∃ cc : Int, ((crc B1 : Nat) : Int) = cc := ⟨_, rfl⟩
  simp only [hcc] at HD
  rw [hcc] at HS
  have HDD := Lib.hid HD
  obtain ⟨F, hF⟩ : ∃ F, four (crc B1) = F := ⟨_, rfl⟩
  have hFb : InB F := by rw [← hF]; exact four_in _
  rw [hF] at HDD hc
  have HT := Lib.hid t2
  have HT1 := Lib.hid t1
  rw [hB1]
  subst hc
  have EQ := fun a a2 n2 c2 c3 w1 h1 h2 => equal_t a a2 4 c2 n2 c3 B2 w1 h1 h2
  have HCL := Lib.hid (fun w1 (hk1 : Kp w w1) => clone_any (.slice (some ⟨b, off, none⟩) k c) B1 (by omega) w1 (t1.kp hk1))
  rw [hlk] at HCL
  have hge : ¬ nn < 4 := by omega
  have k0 : 0 ≤ kk := by omega
  have HC4 := Lib.hid c4
  clear V he4 t1 t2 ho2 hB1 hB2 hkk hk hlk hcc hF HD hn hb hb1 hb2 hs hl hnc ht cw c4 hFb
  go_enter Tryd.func14, Tryd.ntmps14
  go_wp2
  refine wp_region_any (by kernel_rfl) ?_
  change wpAny _ _ _ _ _ _ _ (World.drew _)
  refine wpAny_take (i := 0) (v := ?_) rfl (by kernel_rfl) (by kernel_rfl) (by kernel_rfl) (fun _ _ _ h => h) (Or.inl ⟨by rfl, ?_⟩) ?_
  rotate_left
  · intro w; go_simp; try with_reducible rfl
  go_simp
  refine wpAny_take (i := 1) (v := ?_) rfl (by kernel_rfl) (by kernel_rfl) (by kernel_rfl) (fun _ _ _ h => h) (Or.inl ⟨by rfl, ?_⟩) ?_
  rotate_left
  · intro w; go_simp; try with_reducible rfl
  go_simp
  refine wpAny_take (i := 3) (v := ?_) rfl (by kernel_rfl) (by kernel_rfl) (by kernel_rfl) (fun _ _ _ h => h) (Or.inl ⟨by rfl, ?_⟩) ?_
  rotate_left
  · intro w; go_simp; try with_reducible rfl
  go_simp
  refine wpAny_take (i := 4) (v := ?_) rfl (by kernel_rfl) (by kernel_rfl) (by kernel_rfl) (fun _ _ _ h => h) (Or.inl ⟨by rfl, ?_⟩) ?_
  rotate_left
  · intro w; go_simp; try with_reducible rfl
  go_simp
  refine wpAny_take (i := 2) (v := ?_) rfl (by kernel_rfl) (by kernel_rfl) (by kernel_rfl) (fun _ _ _ h => h) (Or.inl ⟨by rfl, ?_⟩) ?_
  rotate_left
  · intro w; go_simp; try with_reducible rfl
  go_simp
  refine wpAny_take (i := 5) (v := ?_) rfl (by kernel_rfl) (by kernel_rfl) (by kernel_rfl) (fun _ _ _ h => h) (Or.inl ⟨by rfl, ?_⟩) ?_
  rotate_left
  · intro w; go_simp; try with_reducible rfl
  go_simp
  refine wpAny_ready (rs := [6]) (by kernel_rfl) (by simp) ?_
  refine AllReady.cons rfl (fun K hK => ?_) AllReady.nil
  go_simp
  refine hK _ _ ?_
  clear hK K
  refine wpAny_ready (rs := [7]) (by kernel_rfl) (by simp) ?_
  refine AllReady.cons rfl (fun K hK => ?_) AllReady.nil
  go_simp
  go_wp2_with (go_at_call 9; (with_reducible refine HS.out.mono ?_); rintro e w1 ⟨rfl, rfl⟩)
  refine wpAny_ready (rs := [8]) (by kernel_rfl) (by simp) ?_
  refine AllReady.cons rfl (fun K hK => ?_) AllReady.nil
  go_simp
  go_wp2_with (go_at_call 20; (with_reducible refine (HDD.out _).mono ?_); rintro e w2 ⟨g2, rfl, ho2, hk2⟩; have K2 := Lib.hid (Kp.trans K1.out hk2); have S2 := Lib.hid (own_slb ho2); have HQ := Lib.hid (EQ _ _ _ _ _ _ (HT.out.kp K2.out) S2.out); clear ho2 hk2)
  refine wpAny_ready (rs := [9]) (by kernel_rfl) (by simp) ?_
  refine AllReady.cons rfl (fun K hK => ?_) AllReady.nil
  go_simp
  go_wp2_with (go_at_call 21; (with_reducible refine HQ.out.mono ?_); rintro e w3 ⟨rfl, hk3⟩; have K3 := Lib.hid (Kp.trans K2.out hk3); clear hk3)
  refine wpAny_take (i := 10) (v := ?_) rfl (by kernel_rfl) (by kernel_rfl) (by kernel_rfl) (fun _ _ _ h => h) (Or.inl ⟨by rfl, ?_⟩) ?_
  rotate_left
  · intro w; go_simp; try with_reducible rfl
  go_simp
  refine wpAny_done (by kernel_rfl) ?_ _
  go_wp2_with (go_at_call 22; (with_reducible refine (HCL.out _ K3.out).mono ?_); rintro e w4 ⟨v4, rfl, ho4, hk4⟩; have K4 := Lib.hid (Kp.trans K3.out hk4); have O4 := Lib.hid (own_mono ho4 (Below.size K3.out)); clear ho4 hk4)
  go_ret2
  exact ⟨_, rfl, O4.out, K4.out⟩
end Go.Proofs.YtdcbmajmhfhaaaaDoor
