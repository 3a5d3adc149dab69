/-
  ScopeOnce's WALK (own work).
-/
import Derived.Test.YtldamfpoemgkpaaDoorSalV
namespace Go.Proofs.YtldamfpoemgkpaaDoor
open Go.RowKit Go.ChangeShapes Go.WideShapes

theorem ord_plain9 {a b : Nat} (ha : Fl.dl a = true) (hb : Fl.dl b = true) (h : Fl.ord a b ≤ 0) : Fl.plain a ≤ Fl.plain b := by
  have hp : Fl.place a ≤ Fl.place b := by
    unfold Fl.ord at h
    rcases Fl.cmpN_spec (Fl.place a) (Fl.place b) with ⟨_, g⟩ | ⟨e, g⟩ | ⟨_, g⟩ <;> omega
  unfold Fl.dl at ha hb
  simp only [Bool.and_eq_true, Bool.not_eq_true', decide_eq_true_eq] at ha hb
  unfold Fl.place at hp
  unfold Fl.plain
  rw [ha.1, hb.1] at hp ⊢
  simp only [Bool.false_eq_true, if_false] at hp ⊢
  split at hp <;> split at hp <;> split <;> split <;> omega
theorem open_ahead9 {c : CX} {a b : Nat} (h : openX c b = true) (ha : Fl.dl a = true) (ho : Fl.ord a b ≤ 0) : openX c a = true := by
  unfold openX at h ⊢
  simp only [Bool.and_eq_true, decide_eq_true_eq] at h ⊢
  have := ord_plain9 ha h.2.1 ho
  exact ⟨h.1, ha, by omega⟩
theorem open_lt9 {c : CX} {a : Nat} (h : openX c a = true) : rightX c = true ∧ Fl.isLt a c.x = true := by
  unfold openX at h
  simp only [Bool.and_eq_true, decide_eq_true_eq] at h
  refine ⟨h.1, ?_⟩
  have ht := rightX_tm h.1
  obtain ⟨q1, _, q3⟩ := Fl.dl_of_le (tmX_le ht)
  rw [Fl.dl_isLt h.2.1 q1, q3]
  exact decide_eq_true h.2.2
theorem ge9 {b : Nat} (hb : b < 18446744073709551616) : (FloatKind.f64.format.order b 0 == some .gt || FloatKind.f64.format.order b 0 == some .eq) = Fl.dl b := ge0 hb
theorem lt9 {a b : Nat} (ha : a < 18446744073709551616) (hb : b < 18446744073709551616) : (FloatKind.f64.format.order a b == some .lt) = Fl.isLt a b := Fl.test_lt ha hb
set_option maxRecDepth 100000 in
set_option maxHeartbeats 8000000 in
theorem once_plain (ads : List Addr) (c : CX) (a b : Nat) (hc : c.wf) (ha : a < 18446744073709551616) (hb : b < 18446744073709551616) (w : World) (S : ScoC ads w) (ho : ¬ 0 < Fl.ord a b) :
    Calls Tryd.prog 6 #[.agg c.cells, .float .f64 a, .float .f64 b] w fun e w' => e = .returned (.bool true) ∧ Kp w w' := by
  have HA := Lib.hid (fun w1 (hk : Kp w w1) => alive9_any ads w1 (ScoC.kp S hk))
  have HOR := fun w1 => order_any a b w1 ha hb
  have H1 := fun w1 (hk : Kp w w1) => S.opn w1 hk c a hc ha
  have H2 := fun w1 (hk : Kp w w1) => S.opn w1 hk c b hc hb
  have HR := fun w1 (hk : Kp w w1) => S.right w1 hk c hc
  have hle : Fl.ord a b ≤ 0 := by omega
  have hah := fun (h2 : openX c b = true) (hd : Fl.dl a = true) => open_ahead9 h2 hd hle
  have hlt := fun (h1 : openX c a = true) => open_lt9 h1
  have hge := ge9 ha
  have hls := lt9 ha hc
  obtain ⟨oo, hoo⟩ : ∃ y, Fl.ord a b = y := ⟨_, rfl⟩
  rw [hoo] at HOR ho
  have hgt : decide (0 < oo) = false := decide_eq_false ho
  obtain ⟨o1, h1⟩ : ∃ y, openX c a = y := ⟨_, rfl⟩
  obtain ⟨o2, h2⟩ : ∃ y, openX c b = y := ⟨_, rfl⟩
  obtain ⟨rx, hrx⟩ : ∃ y, rightX c = y := ⟨_, rfl⟩
  obtain ⟨da, hda⟩ : ∃ y, Fl.dl a = y := ⟨_, rfl⟩
  obtain ⟨lt, hlt2⟩ : ∃ y, Fl.isLt a c.x = y := ⟨_, rfl⟩
  rw [h1] at H1 hah hlt
  rw [h2] at H2 hah
  rw [hrx] at HR hlt
  rw [hda] at hge hah
  rw [hlt2] at hls hlt
  have hB : (o2 = true → da = true → o1 = true) ∧ (o1 = true → rx = true ∧ lt = true) := ⟨hah, hlt⟩
  obtain ⟨n, s, o, d, x⟩ := c
  dsimp only [CX.cells] at H1 H2 HR hls ⊢
  have HOR := Lib.hid HOR
  have H1 := Lib.hid H1
  have H2 := Lib.hid H2
  have HR := Lib.hid HR
  have KK := Lib.hid (kp_alloc w (.cells #[.int .i64 n, .int .i64 s, .int .i64 o, .int .i64 d, .float .f64 x] 29))
  have RC := Lib.hid (MapKept.heap_alloc w (.cells #[.int .i64 n, .int .i64 s, .int .i64 o, .int .i64 d, .float .f64 x] 29)).1
  obtain ⟨b0, b1, b2, b3, b4⟩ := cells5 (RC.out)
  clear hah hlt h1 h2 hrx hda hlt2 hoo hle S hc ha hb
  cases o1
  · have hn : ¬ (o2 = true ∧ da = true) := fun q => absurd (hB.1 q.1 q.2) (by decide)
    clear hB
    cases o2
    · go_enter Tryd.func6, Tryd.ntmps6
      go_wp2_with (first
        | (go_at_call 7; (with_reducible refine (HA.out _ KK.out).mono ?_); rintro e w2 ⟨rfl, hk⟩; clear b0 b1 b2 b3 b4; have KK := Lib.hid (Kp.trans KK.out hk); have RC := Lib.hid (kp_row hk RC.out); obtain ⟨b0, b1, b2, b3, b4⟩ := cells5 (RC.out); clear hk)
        | (go_at_call 19; (with_reducible refine (HOR.out _).mono ?_); rintro e w' ⟨rfl, rfl⟩)
        | (go_at_call 16; (with_reducible refine (H2.out _ KK.out).mono ?_); rintro e w2 ⟨rfl, hk⟩; clear b0 b1 b2 b3 b4; have KK := Lib.hid (Kp.trans KK.out hk); have RC := Lib.hid (kp_row hk RC.out); obtain ⟨b0, b1, b2, b3, b4⟩ := cells5 (RC.out); clear hk)
        | (go_at_call 16; (with_reducible refine (H1.out _ KK.out).mono ?_); rintro e w2 ⟨rfl, hk⟩; clear b0 b1 b2 b3 b4; have KK := Lib.hid (Kp.trans KK.out hk); have RC := Lib.hid (kp_row hk RC.out); obtain ⟨b0, b1, b2, b3, b4⟩ := cells5 (RC.out); clear hk)
        | (go_at_call 12; (with_reducible refine (HR.out _ KK.out).mono ?_); rintro e w2 ⟨rfl, hk⟩; clear b0 b1 b2 b3 b4; have KK := Lib.hid (Kp.trans KK.out hk); have RC := Lib.hid (kp_row hk RC.out); obtain ⟨b0, b1, b2, b3, b4⟩ := cells5 (RC.out); clear hk))
      go_ret
      exact ⟨by first | rfl | simp, KK.out⟩
    · cases da
      · go_enter Tryd.func6, Tryd.ntmps6
        go_wp2_with (first
        | (go_at_call 7; (with_reducible refine (HA.out _ KK.out).mono ?_); rintro e w2 ⟨rfl, hk⟩; clear b0 b1 b2 b3 b4; have KK := Lib.hid (Kp.trans KK.out hk); have RC := Lib.hid (kp_row hk RC.out); obtain ⟨b0, b1, b2, b3, b4⟩ := cells5 (RC.out); clear hk)
        | (go_at_call 19; (with_reducible refine (HOR.out _).mono ?_); rintro e w' ⟨rfl, rfl⟩)
        | (go_at_call 16; (with_reducible refine (H2.out _ KK.out).mono ?_); rintro e w2 ⟨rfl, hk⟩; clear b0 b1 b2 b3 b4; have KK := Lib.hid (Kp.trans KK.out hk); have RC := Lib.hid (kp_row hk RC.out); obtain ⟨b0, b1, b2, b3, b4⟩ := cells5 (RC.out); clear hk)
        | (go_at_call 16; (with_reducible refine (H1.out _ KK.out).mono ?_); rintro e w2 ⟨rfl, hk⟩; clear b0 b1 b2 b3 b4; have KK := Lib.hid (Kp.trans KK.out hk); have RC := Lib.hid (kp_row hk RC.out); obtain ⟨b0, b1, b2, b3, b4⟩ := cells5 (RC.out); clear hk)
        | (go_at_call 12; (with_reducible refine (HR.out _ KK.out).mono ?_); rintro e w2 ⟨rfl, hk⟩; clear b0 b1 b2 b3 b4; have KK := Lib.hid (Kp.trans KK.out hk); have RC := Lib.hid (kp_row hk RC.out); obtain ⟨b0, b1, b2, b3, b4⟩ := cells5 (RC.out); clear hk))
        go_ret
        exact ⟨by first | rfl | simp, KK.out⟩
      · exact absurd ⟨rfl, rfl⟩ hn
  · obtain ⟨rfl, rfl⟩ := hB.2 rfl
    clear hB
    cases o2
    · go_enter Tryd.func6, Tryd.ntmps6
      go_wp2_with (first
        | (go_at_call 7; (with_reducible refine (HA.out _ KK.out).mono ?_); rintro e w2 ⟨rfl, hk⟩; clear b0 b1 b2 b3 b4; have KK := Lib.hid (Kp.trans KK.out hk); have RC := Lib.hid (kp_row hk RC.out); obtain ⟨b0, b1, b2, b3, b4⟩ := cells5 (RC.out); clear hk)
        | (go_at_call 19; (with_reducible refine (HOR.out _).mono ?_); rintro e w' ⟨rfl, rfl⟩)
        | (go_at_call 16; (with_reducible refine (H2.out _ KK.out).mono ?_); rintro e w2 ⟨rfl, hk⟩; clear b0 b1 b2 b3 b4; have KK := Lib.hid (Kp.trans KK.out hk); have RC := Lib.hid (kp_row hk RC.out); obtain ⟨b0, b1, b2, b3, b4⟩ := cells5 (RC.out); clear hk)
        | (go_at_call 16; (with_reducible refine (H1.out _ KK.out).mono ?_); rintro e w2 ⟨rfl, hk⟩; clear b0 b1 b2 b3 b4; have KK := Lib.hid (Kp.trans KK.out hk); have RC := Lib.hid (kp_row hk RC.out); obtain ⟨b0, b1, b2, b3, b4⟩ := cells5 (RC.out); clear hk)
        | (go_at_call 12; (with_reducible refine (HR.out _ KK.out).mono ?_); rintro e w2 ⟨rfl, hk⟩; clear b0 b1 b2 b3 b4; have KK := Lib.hid (Kp.trans KK.out hk); have RC := Lib.hid (kp_row hk RC.out); obtain ⟨b0, b1, b2, b3, b4⟩ := cells5 (RC.out); clear hk))
      go_ret
      exact ⟨by first | rfl | simp, KK.out⟩
    · cases da
      · go_enter Tryd.func6, Tryd.ntmps6
        go_wp2_with (first
        | (go_at_call 7; (with_reducible refine (HA.out _ KK.out).mono ?_); rintro e w2 ⟨rfl, hk⟩; clear b0 b1 b2 b3 b4; have KK := Lib.hid (Kp.trans KK.out hk); have RC := Lib.hid (kp_row hk RC.out); obtain ⟨b0, b1, b2, b3, b4⟩ := cells5 (RC.out); clear hk)
        | (go_at_call 19; (with_reducible refine (HOR.out _).mono ?_); rintro e w' ⟨rfl, rfl⟩)
        | (go_at_call 16; (with_reducible refine (H2.out _ KK.out).mono ?_); rintro e w2 ⟨rfl, hk⟩; clear b0 b1 b2 b3 b4; have KK := Lib.hid (Kp.trans KK.out hk); have RC := Lib.hid (kp_row hk RC.out); obtain ⟨b0, b1, b2, b3, b4⟩ := cells5 (RC.out); clear hk)
        | (go_at_call 16; (with_reducible refine (H1.out _ KK.out).mono ?_); rintro e w2 ⟨rfl, hk⟩; clear b0 b1 b2 b3 b4; have KK := Lib.hid (Kp.trans KK.out hk); have RC := Lib.hid (kp_row hk RC.out); obtain ⟨b0, b1, b2, b3, b4⟩ := cells5 (RC.out); clear hk)
        | (go_at_call 12; (with_reducible refine (HR.out _ KK.out).mono ?_); rintro e w2 ⟨rfl, hk⟩; clear b0 b1 b2 b3 b4; have KK := Lib.hid (Kp.trans KK.out hk); have RC := Lib.hid (kp_row hk RC.out); obtain ⟨b0, b1, b2, b3, b4⟩ := cells5 (RC.out); clear hk))
        go_ret
        exact ⟨by first | rfl | simp, KK.out⟩
      · go_enter Tryd.func6, Tryd.ntmps6
        go_wp2_with (first
        | (go_at_call 7; (with_reducible refine (HA.out _ KK.out).mono ?_); rintro e w2 ⟨rfl, hk⟩; clear b0 b1 b2 b3 b4; have KK := Lib.hid (Kp.trans KK.out hk); have RC := Lib.hid (kp_row hk RC.out); obtain ⟨b0, b1, b2, b3, b4⟩ := cells5 (RC.out); clear hk)
        | (go_at_call 19; (with_reducible refine (HOR.out _).mono ?_); rintro e w' ⟨rfl, rfl⟩)
        | (go_at_call 16; (with_reducible refine (H2.out _ KK.out).mono ?_); rintro e w2 ⟨rfl, hk⟩; clear b0 b1 b2 b3 b4; have KK := Lib.hid (Kp.trans KK.out hk); have RC := Lib.hid (kp_row hk RC.out); obtain ⟨b0, b1, b2, b3, b4⟩ := cells5 (RC.out); clear hk)
        | (go_at_call 16; (with_reducible refine (H1.out _ KK.out).mono ?_); rintro e w2 ⟨rfl, hk⟩; clear b0 b1 b2 b3 b4; have KK := Lib.hid (Kp.trans KK.out hk); have RC := Lib.hid (kp_row hk RC.out); obtain ⟨b0, b1, b2, b3, b4⟩ := cells5 (RC.out); clear hk)
        | (go_at_call 12; (with_reducible refine (HR.out _ KK.out).mono ?_); rintro e w2 ⟨rfl, hk⟩; clear b0 b1 b2 b3 b4; have KK := Lib.hid (Kp.trans KK.out hk); have RC := Lib.hid (kp_row hk RC.out); obtain ⟨b0, b1, b2, b3, b4⟩ := cells5 (RC.out); clear hk))
        go_ret
        exact ⟨by first | rfl | simp, KK.out⟩
set_option maxRecDepth 100000 in
set_option maxHeartbeats 8000000 in
theorem once_swap (ads : List Addr) (c : CX) (a b : Nat) (hc : c.wf) (ha : a < 18446744073709551616) (hb : b < 18446744073709551616) (w : World) (S : ScoC ads w) (ho : 0 < Fl.ord a b) :
    Calls Tryd.prog 6 #[.agg c.cells, .float .f64 a, .float .f64 b] w fun e w' => e = .returned (.bool true) ∧ Kp w w' := by
  have HA := Lib.hid (fun w1 (hk : Kp w w1) => alive9_any ads w1 (ScoC.kp S hk))
  have HOR := fun w1 => order_any a b w1 ha hb
  have H1 := fun w1 (hk : Kp w w1) => S.opn w1 hk c b hc hb
  have H2 := fun w1 (hk : Kp w w1) => S.opn w1 hk c a hc ha
  have HR := fun w1 (hk : Kp w w1) => S.right w1 hk c hc
  have hle : Fl.ord b a ≤ 0 := by rw [Fl.ord_swap]; omega
  have hah := fun (h2 : openX c a = true) (hd : Fl.dl b = true) => open_ahead9 h2 hd hle
  have hlt := fun (h1 : openX c b = true) => open_lt9 h1
  have hge := ge9 hb
  have hls := lt9 hb hc
  obtain ⟨oo, hoo⟩ : ∃ y, Fl.ord a b = y := ⟨_, rfl⟩
  rw [hoo] at HOR ho
  have hgt : decide (0 < oo) = true := decide_eq_true ho
  obtain ⟨o1, h1⟩ : ∃ y, openX c b = y := ⟨_, rfl⟩
  obtain ⟨o2, h2⟩ : ∃ y, openX c a = y := ⟨_, rfl⟩
  obtain ⟨rx, hrx⟩ : ∃ y, rightX c = y := ⟨_, rfl⟩
  obtain ⟨da, hda⟩ : ∃ y, Fl.dl b = y := ⟨_, rfl⟩
  obtain ⟨lt, hlt2⟩ : ∃ y, Fl.isLt b c.x = y := ⟨_, rfl⟩
  rw [h1] at H1 hah hlt
  rw [h2] at H2 hah
  rw [hrx] at HR hlt
  rw [hda] at hge hah
  rw [hlt2] at hls hlt
  have hB : (o2 = true → da = true → o1 = true) ∧ (o1 = true → rx = true ∧ lt = true) := ⟨hah, hlt⟩
  obtain ⟨n, s, o, d, x⟩ := c
  dsimp only [CX.cells] at H1 H2 HR hls ⊢
  have HOR := Lib.hid HOR
  have H1 := Lib.hid H1
  have H2 := Lib.hid H2
  have HR := Lib.hid HR
  have KK := Lib.hid (kp_alloc w (.cells #[.int .i64 n, .int .i64 s, .int .i64 o, .int .i64 d, .float .f64 x] 29))
  have RC := Lib.hid (MapKept.heap_alloc w (.cells #[.int .i64 n, .int .i64 s, .int .i64 o, .int .i64 d, .float .f64 x] 29)).1
  obtain ⟨b0, b1, b2, b3, b4⟩ := cells5 (RC.out)
  clear hah hlt h1 h2 hrx hda hlt2 hoo hle S hc ha hb
  cases o1
  · have hn : ¬ (o2 = true ∧ da = true) := fun q => absurd (hB.1 q.1 q.2) (by decide)
    clear hB
    cases o2
    · go_enter Tryd.func6, Tryd.ntmps6
      go_wp2_with (first
        | (go_at_call 7; (with_reducible refine (HA.out _ KK.out).mono ?_); rintro e w2 ⟨rfl, hk⟩; clear b0 b1 b2 b3 b4; have KK := Lib.hid (Kp.trans KK.out hk); have RC := Lib.hid (kp_row hk RC.out); obtain ⟨b0, b1, b2, b3, b4⟩ := cells5 (RC.out); clear hk)
        | (go_at_call 19; (with_reducible refine (HOR.out _).mono ?_); rintro e w' ⟨rfl, rfl⟩)
        | (go_at_call 16; (with_reducible refine (H2.out _ KK.out).mono ?_); rintro e w2 ⟨rfl, hk⟩; clear b0 b1 b2 b3 b4; have KK := Lib.hid (Kp.trans KK.out hk); have RC := Lib.hid (kp_row hk RC.out); obtain ⟨b0, b1, b2, b3, b4⟩ := cells5 (RC.out); clear hk)
        | (go_at_call 16; (with_reducible refine (H1.out _ KK.out).mono ?_); rintro e w2 ⟨rfl, hk⟩; clear b0 b1 b2 b3 b4; have KK := Lib.hid (Kp.trans KK.out hk); have RC := Lib.hid (kp_row hk RC.out); obtain ⟨b0, b1, b2, b3, b4⟩ := cells5 (RC.out); clear hk)
        | (go_at_call 12; (with_reducible refine (HR.out _ KK.out).mono ?_); rintro e w2 ⟨rfl, hk⟩; clear b0 b1 b2 b3 b4; have KK := Lib.hid (Kp.trans KK.out hk); have RC := Lib.hid (kp_row hk RC.out); obtain ⟨b0, b1, b2, b3, b4⟩ := cells5 (RC.out); clear hk))
      go_ret
      exact ⟨by first | rfl | simp, KK.out⟩
    · cases da
      · go_enter Tryd.func6, Tryd.ntmps6
        go_wp2_with (first
        | (go_at_call 7; (with_reducible refine (HA.out _ KK.out).mono ?_); rintro e w2 ⟨rfl, hk⟩; clear b0 b1 b2 b3 b4; have KK := Lib.hid (Kp.trans KK.out hk); have RC := Lib.hid (kp_row hk RC.out); obtain ⟨b0, b1, b2, b3, b4⟩ := cells5 (RC.out); clear hk)
        | (go_at_call 19; (with_reducible refine (HOR.out _).mono ?_); rintro e w' ⟨rfl, rfl⟩)
        | (go_at_call 16; (with_reducible refine (H2.out _ KK.out).mono ?_); rintro e w2 ⟨rfl, hk⟩; clear b0 b1 b2 b3 b4; have KK := Lib.hid (Kp.trans KK.out hk); have RC := Lib.hid (kp_row hk RC.out); obtain ⟨b0, b1, b2, b3, b4⟩ := cells5 (RC.out); clear hk)
        | (go_at_call 16; (with_reducible refine (H1.out _ KK.out).mono ?_); rintro e w2 ⟨rfl, hk⟩; clear b0 b1 b2 b3 b4; have KK := Lib.hid (Kp.trans KK.out hk); have RC := Lib.hid (kp_row hk RC.out); obtain ⟨b0, b1, b2, b3, b4⟩ := cells5 (RC.out); clear hk)
        | (go_at_call 12; (with_reducible refine (HR.out _ KK.out).mono ?_); rintro e w2 ⟨rfl, hk⟩; clear b0 b1 b2 b3 b4; have KK := Lib.hid (Kp.trans KK.out hk); have RC := Lib.hid (kp_row hk RC.out); obtain ⟨b0, b1, b2, b3, b4⟩ := cells5 (RC.out); clear hk))
        go_ret
        exact ⟨by first | rfl | simp, KK.out⟩
      · exact absurd ⟨rfl, rfl⟩ hn
  · obtain ⟨rfl, rfl⟩ := hB.2 rfl
    clear hB
    cases o2
    · go_enter Tryd.func6, Tryd.ntmps6
      go_wp2_with (first
        | (go_at_call 7; (with_reducible refine (HA.out _ KK.out).mono ?_); rintro e w2 ⟨rfl, hk⟩; clear b0 b1 b2 b3 b4; have KK := Lib.hid (Kp.trans KK.out hk); have RC := Lib.hid (kp_row hk RC.out); obtain ⟨b0, b1, b2, b3, b4⟩ := cells5 (RC.out); clear hk)
        | (go_at_call 19; (with_reducible refine (HOR.out _).mono ?_); rintro e w' ⟨rfl, rfl⟩)
        | (go_at_call 16; (with_reducible refine (H2.out _ KK.out).mono ?_); rintro e w2 ⟨rfl, hk⟩; clear b0 b1 b2 b3 b4; have KK := Lib.hid (Kp.trans KK.out hk); have RC := Lib.hid (kp_row hk RC.out); obtain ⟨b0, b1, b2, b3, b4⟩ := cells5 (RC.out); clear hk)
        | (go_at_call 16; (with_reducible refine (H1.out _ KK.out).mono ?_); rintro e w2 ⟨rfl, hk⟩; clear b0 b1 b2 b3 b4; have KK := Lib.hid (Kp.trans KK.out hk); have RC := Lib.hid (kp_row hk RC.out); obtain ⟨b0, b1, b2, b3, b4⟩ := cells5 (RC.out); clear hk)
        | (go_at_call 12; (with_reducible refine (HR.out _ KK.out).mono ?_); rintro e w2 ⟨rfl, hk⟩; clear b0 b1 b2 b3 b4; have KK := Lib.hid (Kp.trans KK.out hk); have RC := Lib.hid (kp_row hk RC.out); obtain ⟨b0, b1, b2, b3, b4⟩ := cells5 (RC.out); clear hk))
      go_ret
      exact ⟨by first | rfl | simp, KK.out⟩
    · cases da
      · go_enter Tryd.func6, Tryd.ntmps6
        go_wp2_with (first
        | (go_at_call 7; (with_reducible refine (HA.out _ KK.out).mono ?_); rintro e w2 ⟨rfl, hk⟩; clear b0 b1 b2 b3 b4; have KK := Lib.hid (Kp.trans KK.out hk); have RC := Lib.hid (kp_row hk RC.out); obtain ⟨b0, b1, b2, b3, b4⟩ := cells5 (RC.out); clear hk)
        | (go_at_call 19; (with_reducible refine (HOR.out _).mono ?_); rintro e w' ⟨rfl, rfl⟩)
        | (go_at_call 16; (with_reducible refine (H2.out _ KK.out).mono ?_); rintro e w2 ⟨rfl, hk⟩; clear b0 b1 b2 b3 b4; have KK := Lib.hid (Kp.trans KK.out hk); have RC := Lib.hid (kp_row hk RC.out); obtain ⟨b0, b1, b2, b3, b4⟩ := cells5 (RC.out); clear hk)
        | (go_at_call 16; (with_reducible refine (H1.out _ KK.out).mono ?_); rintro e w2 ⟨rfl, hk⟩; clear b0 b1 b2 b3 b4; have KK := Lib.hid (Kp.trans KK.out hk); have RC := Lib.hid (kp_row hk RC.out); obtain ⟨b0, b1, b2, b3, b4⟩ := cells5 (RC.out); clear hk)
        | (go_at_call 12; (with_reducible refine (HR.out _ KK.out).mono ?_); rintro e w2 ⟨rfl, hk⟩; clear b0 b1 b2 b3 b4; have KK := Lib.hid (Kp.trans KK.out hk); have RC := Lib.hid (kp_row hk RC.out); obtain ⟨b0, b1, b2, b3, b4⟩ := cells5 (RC.out); clear hk))
        go_ret
        exact ⟨by first | rfl | simp, KK.out⟩
      · go_enter Tryd.func6, Tryd.ntmps6
        go_wp2_with (first
        | (go_at_call 7; (with_reducible refine (HA.out _ KK.out).mono ?_); rintro e w2 ⟨rfl, hk⟩; clear b0 b1 b2 b3 b4; have KK := Lib.hid (Kp.trans KK.out hk); have RC := Lib.hid (kp_row hk RC.out); obtain ⟨b0, b1, b2, b3, b4⟩ := cells5 (RC.out); clear hk)
        | (go_at_call 19; (with_reducible refine (HOR.out _).mono ?_); rintro e w' ⟨rfl, rfl⟩)
        | (go_at_call 16; (with_reducible refine (H2.out _ KK.out).mono ?_); rintro e w2 ⟨rfl, hk⟩; clear b0 b1 b2 b3 b4; have KK := Lib.hid (Kp.trans KK.out hk); have RC := Lib.hid (kp_row hk RC.out); obtain ⟨b0, b1, b2, b3, b4⟩ := cells5 (RC.out); clear hk)
        | (go_at_call 16; (with_reducible refine (H1.out _ KK.out).mono ?_); rintro e w2 ⟨rfl, hk⟩; clear b0 b1 b2 b3 b4; have KK := Lib.hid (Kp.trans KK.out hk); have RC := Lib.hid (kp_row hk RC.out); obtain ⟨b0, b1, b2, b3, b4⟩ := cells5 (RC.out); clear hk)
        | (go_at_call 12; (with_reducible refine (HR.out _ KK.out).mono ?_); rintro e w2 ⟨rfl, hk⟩; clear b0 b1 b2 b3 b4; have KK := Lib.hid (Kp.trans KK.out hk); have RC := Lib.hid (kp_row hk RC.out); obtain ⟨b0, b1, b2, b3, b4⟩ := cells5 (RC.out); clear hk))
        go_ret
        exact ⟨by first | rfl | simp, KK.out⟩
theorem once_any (ads : List Addr) (c : CX) (a b : Nat) (hc : c.wf) (ha : a < 18446744073709551616) (hb : b < 18446744073709551616) (w : World) (S : ScoC ads w) :
    Calls Tryd.prog 6 #[.agg c.cells, .float .f64 a, .float .f64 b] w fun e w' => e = .returned (.bool true) ∧ Kp w w' := by
  by_cases ho : 0 < Fl.ord a b
  · exact once_swap ads c a b hc ha hb w S ho
  · exact once_plain ads c a b hc ha hb w S ho
end Go.Proofs.YtldamfpoemgkpaaDoor
