/-
  check.Seal, check.Open (own work).
-/
import Derived.Test.YtpehmkglkjlmfaaDoorConcC
import Derived.Test.YtpehmkglkjlmfaaDoorDigC
import Derived.Test.YtpehmkglkjlmfaaDoorStE
import Derived.Test.YtpehmkglkjlmfaaDoorSlH
import Derived.Lib.SlBytesRow
import Derived.BigQuiet
import Derived.WalkSmall
namespace Go.Proofs.YtpehmkglkjlmfaaDoor
open Go.RowKit Go.ChangeShapes Go.WideShapes

theorem own_len {w : World} {base n : Nat} {e : TypeId} {v : Value} {xs : List Value} (h : w.ownsRow base e 1 v n xs) : ∃ a c, v = .slice a n c ∧ n ≤ c := by
  rcases h.2 with ⟨rfl, rfl⟩ | ⟨g, cap, cur, rfl, _, _, hc, _⟩
  · exact ⟨none, 0, rfl, Nat.le_refl _⟩
  · exact ⟨_, cap, rfl, hc⟩
theorem crc_four_len (bs : List Int) : (four (crc bs)).length = 4 := rfl

set_option maxRecDepth 100000 in
theorem seal_any (a : Option Addr) (n c : Nat) (bs : List Int) (hn : bs.length = n) (hl : n ≤ 900) (hb : InB bs) (w : World) (ht : Tb w) (hs : SlB (.slice a n c) bs w) :
    Calls Tryd.prog 49 #[.slice a n c] w fun e w' => ∃ v, e = .returned v ∧ w'.ownsRow w.heap.size 5 1 v (n + 4) ((bs ++ four (crc bs)).map (Value.int .u8)) ∧ Kp w w' := by
  have K1 := Lib.hid (kp_alloc w (.cells #[.slice a n c] 46))
  have HS := Lib.hid (sum_one a n c bs hn (by omega) hb w ht hs 46 _ (Kp.refl _))
  have HD := fun w1 => digits_g (crc bs) (crc_lt hb) w1
  obtain ⟨cc, hcc⟩ : ∃ cc : Int, ((crc bs : Nat) : Int) = cc := ⟨_, rfl⟩
  simp only [hcc] at HD
  rw [hcc] at HS
  have HDD := Lib.hid HD
  obtain ⟨F, hF⟩ : ∃ F, four (crc bs) = F := ⟨_, rfl⟩
  have hF4 : F.length = 4 := by rw [← hF]; rfl
  have hFb : InB F := by rw [← hF]; exact four_in _
  rw [hF] at HDD ⊢
  have HFF := Lib.hid (And.intro hF4 hFb)
  have HSB := Lib.hid hs
  have HB := Lib.hid hb
  have HN := Lib.hid hn
  clear hs hb hn ht HD hcc hF hF4 hFb
  go_enter Tryd.func49, Tryd.ntmps49
  go_wp2_with (first | (go_at_call 68; go_loud ((with_reducible refine HS.out.mono ?_); rintro e w1 ⟨rfl, rfl⟩)) | (go_at_call 67; (with_reducible refine (HDD.out _).mono ?_); rintro e w2 ⟨g2, rfl, ho2, hk2⟩; go_loud (have K2 := Lib.hid (Kp.trans K1.out hk2); have S2 := Lib.hid (own_slb ho2); have HC := Lib.hid (concat_any _ _ (by simp) (fun l hl' => by rcases List.mem_cons.1 hl' with h | h; (rw [h, HN.out]; omega); (rw [List.mem_singleton.1 h, HFF.out.1]; omega)) _ (bb_two (t := 46) (HSB.out.kp K2.out) HN.out HB.out S2.out HFF.out.1 HFF.out.2)); clear ho2 hk2)) | (go_at_call 48; go_loud (with_reducible refine HC.out.mono ?_); rintro e w3 ⟨v3, rfl, ho3, hk3⟩; have K3 := Lib.hid (Kp.trans K2.out (Kp.trans (kp_alloc _ _) hk3)); have O3 := Lib.hid ho3; clear ho3 hk3))
  go_ret
  refine ⟨_, rfl, ?_, K3.out⟩
  have h := own_mono O3.out (show w.heap.size ≤ _ from Nat.le_trans (Below.size K2.out) (Below.size (kp_alloc _ _)))
  have e1 : [bs, F].flatten = bs ++ F := by simp
  rw [e1, List.length_append, HN.out, HFF.out.1] at h
  exact h

set_option maxRecDepth 100000 in
theorem open_short_c (e1 : Addr) (a : Option Addr) (n c : Nat) (hl : n < 4) (w : World) (c1 : w.cell? ⟨2, 0, none⟩ = some (snt e1)) :
    Calls Tryd.prog 74 #[.slice a n c] w fun e w' => e = .returned (.tuple #[.slice none 0 0, snt e1]) ∧ Kp w w' := by
  obtain ⟨nn, hnn⟩ : ∃ nn : Int, (n : Int) = nn := ⟨_, rfl⟩
  have hlt : nn < 4 := by omega
  go_enter Tryd.func74, Tryd.ntmps74
  go_wp2
  go_quiet (fail)
  go_wp2
  go_ret2
  exact ⟨rfl, below_drewN (Kp.refl _) _⟩
theorem open_short (ads : List Addr) (h1 : 1 < ads.length) (a : Option Addr) (n c : Nat) (hl : n < 4) (w : World) (V : St ads w) :
    Calls Tryd.prog 74 #[.slice a n c] w fun e w' => e = .returned (.tuple #[.slice none 0 0, snt (ads[1]'h1)]) ∧ Kp w w' :=
  open_short_c (ads[1]'h1) a n c hl w (V.cell 1 (by decide))

set_option maxRecDepth 100000 in
set_option maxHeartbeats 1000000 in
theorem open_bad_c (e4 : Addr) (a : Option Addr) (n c k : Nat) (bs : List Int) (hn : bs.length = n) (hk : n = k + 4) (hl : n ≤ 1000) (hnc : n ≤ c) (hb : InB bs) (w : World) (c4 : w.cell? ⟨4, 0, none⟩ = some (snt e4)) (ht : Tb w) (hs : SlB (.slice a n c) bs w) (hc : bs.drop k ≠ four (crc (bs.take k))) :
    Calls Tryd.prog 74 #[.slice a n c] w fun e w' => e = .returned (.tuple #[.slice none 0 0, snt e4]) ∧ Kp w w' := by
  obtain ⟨b, off, rfl⟩ := hs.pos (by omega)
  obtain ⟨kk, hkk⟩ : ∃ kk : Int, (k : Int) = kk := ⟨_, rfl⟩
  obtain ⟨nn, hnn⟩ : ∃ nn : Int, (n : Int) = nn := ⟨_, rfl⟩
  have s1 := fun w1 => run_head (b := b) (off := off) (c := c) (n := n) (m := k) hkk (by omega) hnc w1
  have s2 := fun w1 => run_tail (b := b) (off := off) (c := c) (n := n) (m := k) hkk (by omega) w1
  have t1 := slb_take (m := k) hs (by omega)
  have t2 := slb_drop (m := k) hs (by omega) hnc
  have hd : nn - 4 = kk := by omega
  have e0 : n - k = 4 := by omega
  rw [e0] at s2 t2
  obtain ⟨o2, ho2⟩ : ∃ o2, (if c = k then off else off + k) = o2 := ⟨_, rfl⟩
  obtain ⟨c2, hc2⟩ : ∃ c2, c - k = c2 := ⟨_, rfl⟩
  rw [ho2, hc2] at s2 t2
  have ho3 : (if c = k then some (⟨b, off, none⟩ : Addr) else some ⟨b, off + k, none⟩) = some ⟨b, o2, none⟩ := by rw [← ho2]; split <;> rfl
  have e1 : kk.toNat = k := by omega
  have hle : kk ≤ nn := by omega
  have hup : kk ≤ 1000 := by omega
  have hlk : (bs.take k).length = k := by rw [List.length_take]; omega
  obtain ⟨B1, hB1⟩ : ∃ B, bs.take k = B := ⟨_, rfl⟩
  have hb1 : InB B1 := by rw [← hB1]; exact in_take hb k
  obtain ⟨B2, hB2⟩ : ∃ B, bs.drop k = B := ⟨_, rfl⟩
  have hb2 : InB B2 := by rw [← hB2]; exact in_drop hb k
  rw [hB1] at t1 hlk
  rw [hB2] at t2
  rw [hB1, hB2] at hc
  have cw : (w.drew).cell? ⟨4, 0, none⟩ = some (snt e4) := kp_cell (Kp.refl w).drew c4
  have K1 := Lib.hid (kp_alloc w (.cells #[.slice (some ⟨b, off, none⟩) k c] 46)).drew
  have HS := Lib.hid (sum_one (some ⟨b, off, none⟩) k c B1 hlk (by omega) hb1 w ht t1 46 _ (Kp.refl _).drew)
  have HD := fun w1 => digits_g (crc B1) (crc_lt hb1) w1
  obtain ⟨cc, hcc⟩ : ∃ cc : Int, ((crc B1 : Nat) : Int) = cc := ⟨_, rfl⟩
  simp only [hcc] at HD
  rw [hcc] at HS
  have HDD := Lib.hid HD
  obtain ⟨F, hF⟩ : ∃ F, four (crc B1) = F := ⟨_, rfl⟩
  have hFb : InB F := by rw [← hF]; exact four_in _
  rw [hF] at HDD hc
  have HT := Lib.hid t2
  have HT1 := Lib.hid t1
  have EQ := fun a a2 n2 c2 c3 w1 h1 h2 => equal_f a a2 4 c2 n2 c3 B2 F hb2 hFb hc w1 h1 h2
  have hge : ¬ nn < 4 := by omega
  have k0 : 0 ≤ kk := by omega
  have HC4 := Lib.hid c4
  clear t1 t2 ho2 hB1 hB2 hkk hk hlk hcc hF HD hn hb hb1 hb2 hs hl hnc ht cw c4 hFb
  go_enter Tryd.func74, Tryd.ntmps74
  go_wp2
  refine wp_region_any (by kernel_rfl) ?_
  change wpAny _ _ _ _ _ _ _ (World.drew _)
  refine wpAny_take (i := 0) (v := ?_) rfl (by kernel_rfl) (by kernel_rfl) (by kernel_rfl) (fun _ _ _ h => h) (Or.inl ⟨by rfl, ?_⟩) ?_
  rotate_left
  · intro w; go_simp; try with_reducible rfl
  go_simp
  refine wpAny_take (i := 1) (v := ?_) rfl (by kernel_rfl) (by kernel_rfl) (by kernel_rfl) (fun _ _ _ h => h) (Or.inl ⟨by rfl, ?_⟩) ?_
  rotate_left
  · intro w; go_simp; try with_reducible rfl
  go_simp
  refine wpAny_take (i := 3) (v := ?_) rfl (by kernel_rfl) (by kernel_rfl) (by kernel_rfl) (fun _ _ _ h => h) (Or.inl ⟨by rfl, ?_⟩) ?_
  rotate_left
  · intro w; go_simp; try with_reducible rfl
  go_simp
  refine wpAny_take (i := 4) (v := ?_) rfl (by kernel_rfl) (by kernel_rfl) (by kernel_rfl) (fun _ _ _ h => h) (Or.inl ⟨by rfl, ?_⟩) ?_
  rotate_left
  · intro w; go_simp; try with_reducible rfl
  go_simp
  refine wpAny_take (i := 2) (v := ?_) rfl (by kernel_rfl) (by kernel_rfl) (by kernel_rfl) (fun _ _ _ h => h) (Or.inl ⟨by rfl, ?_⟩) ?_
  rotate_left
  · intro w; go_simp; try with_reducible rfl
  go_simp
  refine wpAny_take (i := 5) (v := ?_) rfl (by kernel_rfl) (by kernel_rfl) (by kernel_rfl) (fun _ _ _ h => h) (Or.inl ⟨by rfl, ?_⟩) ?_
  rotate_left
  · intro w; go_simp; try with_reducible rfl
  go_simp
  refine wpAny_ready (rs := [6]) (by kernel_rfl) (by simp) ?_
  refine AllReady.cons rfl (fun K hK => ?_) AllReady.nil
  go_simp
  refine hK _ _ ?_
  clear hK K
  refine wpAny_ready (rs := [7]) (by kernel_rfl) (by simp) ?_
  refine AllReady.cons rfl (fun K hK => ?_) AllReady.nil
  go_simp
  go_wp2_with (go_at_call 68; (with_reducible refine HS.out.mono ?_); rintro e w1 ⟨rfl, rfl⟩)
  refine wpAny_ready (rs := [8]) (by kernel_rfl) (by simp) ?_
  refine AllReady.cons rfl (fun K hK => ?_) AllReady.nil
  go_simp
  go_wp2_with (go_at_call 67; (with_reducible refine (HDD.out _).mono ?_); rintro e w2 ⟨g2, rfl, ho2, hk2⟩; have K2 := Lib.hid (Kp.trans K1.out hk2); have S2 := Lib.hid (own_slb ho2); have HQ := Lib.hid (EQ _ _ _ _ _ _ (HT.out.kp K2.out) S2.out); clear ho2 hk2)
  refine wpAny_ready (rs := [9]) (by kernel_rfl) (by simp) ?_
  refine AllReady.cons rfl (fun K hK => ?_) AllReady.nil
  go_simp
  go_wp2_with (go_at_call 77; (with_reducible refine HQ.out.mono ?_); rintro e w3 ⟨rfl, hk3⟩; have K3 := Lib.hid (Kp.trans K2.out hk3); clear hk3)
  refine wpAny_take (i := 10) (v := ?_) rfl (by kernel_rfl) (by kernel_rfl) (by kernel_rfl) (fun _ _ _ h => h) (Or.inl ⟨by rfl, ?_⟩) ?_
  rotate_left
  · intro w; go_simp; try with_reducible rfl
  go_simp
  refine wpAny_done (by kernel_rfl) ?_ _
  have c5 := kp_cell K3.out HC4.out
  go_wp2
  go_quiet (fail)
  go_wp2
  go_ret2
  exact ⟨rfl, below_drewN K3.out _⟩
theorem open_bad (ads : List Addr) (h4 : 4 < ads.length) (a : Option Addr) (n c k : Nat) (bs : List Int) (hn : bs.length = n) (hk : n = k + 4) (hl : n ≤ 1000) (hnc : n ≤ c) (hb : InB bs) (w : World) (V : St ads w) (ht : Tb w) (hs : SlB (.slice a n c) bs w) (hc : bs.drop k ≠ four (crc (bs.take k))) :
    Calls Tryd.prog 74 #[.slice a n c] w fun e w' => e = .returned (.tuple #[.slice none 0 0, snt (ads[4]'h4)]) ∧ Kp w w' :=
  open_bad_c (ads[4]'h4) a n c k bs hn hk hl hnc hb w (V.cell 4 (by decide)) ht hs hc

set_option maxRecDepth 100000 in
set_option maxHeartbeats 1000000 in
theorem open_ok_c (e4 : Addr) (a : Option Addr) (n c k : Nat) (bs : List Int) (hn : bs.length = n) (hk : n = k + 4) (hl : n ≤ 1000) (hnc : n ≤ c) (hb : InB bs) (w : World) (c4 : w.cell? ⟨4, 0, none⟩ = some (snt e4)) (ht : Tb w) (hs : SlB (.slice a n c) bs w) (hc : bs.drop k = four (crc (bs.take k))) :
    Calls Tryd.prog 74 #[.slice a n c] w fun e w' => ∃ v, e = .returned (.tuple #[v, .nilIface]) ∧ w'.ownsRow w.heap.size 5 1 v k ((bs.take k).map (Value.int .u8)) ∧ Kp w w' := by
  obtain ⟨b, off, rfl⟩ := hs.pos (by omega)
  obtain ⟨kk, hkk⟩ : ∃ kk : Int, (k : Int) = kk := ⟨_, rfl⟩
  obtain ⟨nn, hnn⟩ : ∃ nn : Int, (n : Int) = nn := ⟨_, rfl⟩
  have s1 := fun w1 => run_head (b := b) (off := off) (c := c) (n := n) (m := k) hkk (by omega) hnc w1
  have s2 := fun w1 => run_tail (b := b) (off := off) (c := c) (n := n) (m := k) hkk (by omega) w1
  have t1 := slb_take (m := k) hs (by omega)
  have t2 := slb_drop (m := k) hs (by omega) hnc
  have hd : nn - 4 = kk := by omega
  have e0 : n - k = 4 := by omega
  rw [e0] at s2 t2
  obtain ⟨o2, ho2⟩ : ∃ o2, (if c = k then off else off + k) = o2 := ⟨_, rfl⟩
  obtain ⟨c2, hc2⟩ : ∃ c2, c - k = c2 := ⟨_, rfl⟩
  rw [ho2, hc2] at s2 t2
  have ho3 : (if c = k then some (⟨b, off, none⟩ : Addr) else some ⟨b, off + k, none⟩) = some ⟨b, o2, none⟩ := by rw [← ho2]; split <;> rfl
  have e1 : kk.toNat = k := by omega
  have hle : kk ≤ nn := by omega
  have hup : kk ≤ 1000 := by omega
  have hlk : (bs.take k).length = k := by rw [List.length_take]; omega
  obtain ⟨B1, hB1⟩ : ∃ B, bs.take k = B := ⟨_, rfl⟩
  have hb1 : InB B1 := by rw [← hB1]; exact in_take hb k
  obtain ⟨B2, hB2⟩ : ∃ B, bs.drop k = B := ⟨_, rfl⟩
  have hb2 : InB B2 := by rw [← hB2]; exact in_drop hb k
  rw [hB1] at t1 hlk
  rw [hB2] at t2
  rw [hB1, hB2] at hc
  have cw : (w.drew).cell? ⟨4, 0, none⟩ = some (snt e4) := kp_cell (Kp.refl w).drew c4
  have K1 := Lib.hid (kp_alloc w (.cells #[.slice (some ⟨b, off, none⟩) k c] 46)).drew
  have HS := Lib.hid (sum_one (some ⟨b, off, none⟩) k c B1 hlk (by omega) hb1 w ht t1 46 _ (Kp.refl _).drew)
  have HD := fun w1 => digits_g (crc B1) (crc_lt hb1) w1
  obtain ⟨cc, hcc⟩ : ∃ cc : Int, ((crc B1 : Nat) : Int) = cc := ⟨_, rfl⟩
  simp only [hcc] at HD
  rw [hcc] at HS
  have HDD := Lib.hid HD
  obtain ⟨F, hF⟩ : ∃ F, four (crc B1) = F := ⟨_, rfl⟩
  have hFb : InB F := by rw [← hF]; exact four_in _
  rw [hF] at HDD hc
  have HT := Lib.hid t2
  have HT1 := Lib.hid t1
  rw [hB1]
  subst hc
  have EQ := fun a a2 n2 c2 c3 w1 h1 h2 => equal_t a a2 4 c2 n2 c3 B2 w1 h1 h2
  have HCL := Lib.hid (fun w1 (hk1 : Kp w w1) => clone_any (.slice (some ⟨b, off, none⟩) k c) B1 (by omega) w1 (t1.kp hk1))
  rw [hlk] at HCL
  have hge : ¬ nn < 4 := by omega
  have k0 : 0 ≤ kk := by omega
  have HC4 := Lib.hid c4
  clear t1 t2 ho2 hB1 hB2 hkk hk hlk hcc hF HD hn hb hb1 hb2 hs hl hnc ht cw c4 hFb
  go_enter Tryd.func74, Tryd.ntmps74
  go_wp2
  refine wp_region_any (by kernel_rfl) ?_
  change wpAny _ _ _ _ _ _ _ (World.drew _)
  refine wpAny_take (i := 0) (v := ?_) rfl (by kernel_rfl) (by kernel_rfl) (by kernel_rfl) (fun _ _ _ h => h) (Or.inl ⟨by rfl, ?_⟩) ?_
  rotate_left
  · intro w; go_simp; try with_reducible rfl
  go_simp
  refine wpAny_take (i := 1) (v := ?_) rfl (by kernel_rfl) (by kernel_rfl) (by kernel_rfl) (fun _ _ _ h => h) (Or.inl ⟨by rfl, ?_⟩) ?_
  rotate_left
  · intro w; go_simp; try with_reducible rfl
  go_simp
  refine wpAny_take (i := 3) (v := ?_) rfl (by kernel_rfl) (by kernel_rfl) (by kernel_rfl) (fun _ _ _ h => h) (Or.inl ⟨by rfl, ?_⟩) ?_
  rotate_left
  · intro w; go_simp; try with_reducible rfl
  go_simp
  refine wpAny_take (i := 4) (v := ?_) rfl (by kernel_rfl) (by kernel_rfl) (by kernel_rfl) (fun _ _ _ h => h) (Or.inl ⟨by rfl, ?_⟩) ?_
  rotate_left
  · intro w; go_simp; try with_reducible rfl
  go_simp
  refine wpAny_take (i := 2) (v := ?_) rfl (by kernel_rfl) (by kernel_rfl) (by kernel_rfl) (fun _ _ _ h => h) (Or.inl ⟨by rfl, ?_⟩) ?_
  rotate_left
  · intro w; go_simp; try with_reducible rfl
  go_simp
  refine wpAny_take (i := 5) (v := ?_) rfl (by kernel_rfl) (by kernel_rfl) (by kernel_rfl) (fun _ _ _ h => h) (Or.inl ⟨by rfl, ?_⟩) ?_
  rotate_left
  · intro w; go_simp; try with_reducible rfl
  go_simp
  refine wpAny_ready (rs := [6]) (by kernel_rfl) (by simp) ?_
  refine AllReady.cons rfl (fun K hK => ?_) AllReady.nil
  go_simp
  refine hK _ _ ?_
  clear hK K
  refine wpAny_ready (rs := [7]) (by kernel_rfl) (by simp) ?_
  refine AllReady.cons rfl (fun K hK => ?_) AllReady.nil
  go_simp
  go_wp2_with (go_at_call 68; (with_reducible refine HS.out.mono ?_); rintro e w1 ⟨rfl, rfl⟩)
  refine wpAny_ready (rs := [8]) (by kernel_rfl) (by simp) ?_
  refine AllReady.cons rfl (fun K hK => ?_) AllReady.nil
  go_simp
  go_wp2_with (go_at_call 67; (with_reducible refine (HDD.out _).mono ?_); rintro e w2 ⟨g2, rfl, ho2, hk2⟩; have K2 := Lib.hid (Kp.trans K1.out hk2); have S2 := Lib.hid (own_slb ho2); have HQ := Lib.hid (EQ _ _ _ _ _ _ (HT.out.kp K2.out) S2.out); clear ho2 hk2)
  refine wpAny_ready (rs := [9]) (by kernel_rfl) (by simp) ?_
  refine AllReady.cons rfl (fun K hK => ?_) AllReady.nil
  go_simp
  go_wp2_with (go_at_call 77; (with_reducible refine HQ.out.mono ?_); rintro e w3 ⟨rfl, hk3⟩; have K3 := Lib.hid (Kp.trans K2.out hk3); clear hk3)
  refine wpAny_take (i := 10) (v := ?_) rfl (by kernel_rfl) (by kernel_rfl) (by kernel_rfl) (fun _ _ _ h => h) (Or.inl ⟨by rfl, ?_⟩) ?_
  rotate_left
  · intro w; go_simp; try with_reducible rfl
  go_simp
  refine wpAny_done (by kernel_rfl) ?_ _
  go_wp2_with (go_at_call 46; (with_reducible refine (HCL.out _ K3.out).mono ?_); rintro e w4 ⟨v4, rfl, ho4, hk4⟩; have K4 := Lib.hid (Kp.trans K3.out hk4); have O4 := Lib.hid (own_mono ho4 (Below.size K3.out)); clear ho4 hk4)
  go_ret2
  exact ⟨_, rfl, O4.out, K4.out⟩
theorem open_ok (ads : List Addr) (h4 : 4 < ads.length) (a : Option Addr) (n c k : Nat) (bs : List Int) (hn : bs.length = n) (hk : n = k + 4) (hl : n ≤ 1000) (hnc : n ≤ c) (hb : InB bs) (w : World) (V : St ads w) (ht : Tb w) (hs : SlB (.slice a n c) bs w) (hc : bs.drop k = four (crc (bs.take k))) :
    Calls Tryd.prog 74 #[.slice a n c] w fun e w' => ∃ v, e = .returned (.tuple #[v, .nilIface]) ∧ w'.ownsRow w.heap.size 5 1 v k ((bs.take k).map (Value.int .u8)) ∧ Kp w w' :=
  open_ok_c (ads[4]'h4) a n c k bs hn hk hl hnc hb w (V.cell 4 (by decide)) ht hs hc
end Go.Proofs.YtpehmkglkjlmfaaDoor
