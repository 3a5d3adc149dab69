/-
  THE LAWS OF CLOCKS (own work): TimersComes.
-/
import Derived.Test.YtanbeaebdingeaaDoorTmL
import Derived.Test.YtanbeaebdingeaaDoorSl
namespace Go.Proofs.YtanbeaebdingeaaDoor
open Go.RowKit Go.ChangeShapes Go.WideShapes
variable {w w1 w2 : World} {q mb : Nat} {c : CkM} {ads : List Addr}
theorem fl_lt_no {a b : Nat} (ha : a ≤ 9218868437227405312) (hb : b ≤ 9218868437227405312) (h : b ≤ a) : (FloatKind.f64.format.order a b == some .lt) = false := by
  have e := Fl.test_lt (a := a) (b := b) (by omega) (by omega)
  rw [Fl.dl_isLt (Fl.dl_of_le ha).1 (Fl.dl_of_le hb).1, (Fl.dl_of_le ha).2.2, (Fl.dl_of_le hb).2.2, decide_eq_false (by omega)] at e
  exact e
theorem fl_le {a b : Nat} (ha : a ≤ 9218868437227405312) (hb : b ≤ 9218868437227405312) : (FloatKind.f64.format.order a b == some .lt || FloatKind.f64.format.order a b == some .eq) = decide (a ≤ b) := by
  have e := Fl.test_lt (a := a) (b := b) (by omega) (by omega)
  have f := Fl.test_eq (a := a) (b := b) (by omega) (by omega)
  rw [Fl.dl_isLt (Fl.dl_of_le ha).1 (Fl.dl_of_le hb).1, (Fl.dl_of_le ha).2.2, (Fl.dl_of_le hb).2.2] at e
  rw [Fl.dl_isEq (Fl.dl_of_le ha).1 (Fl.dl_of_le hb).1, (Fl.dl_of_le ha).2.2, (Fl.dl_of_le hb).2.2] at f
  have : (decide (a < b) || decide (a = b)) = decide (a ≤ b) := by
    rw [Bool.eq_iff_iff]; simp; omega
  rw [← this, ← e, ← f]
  rfl
theorem slf_form {v : Value} {bs : List Nat} (h : SlF v bs w) : ∃ a cap, v = .slice a bs.length cap ∧ ∀ j, j < bs.length → ∃ b off, a = some ⟨b, off, none⟩ ∧ w.cell? ⟨b, off + j, none⟩ = some (.float .f64 (bs.getD j 0)) := by
  rcases h with ⟨rfl, a, cap, rfl⟩ | ⟨b, off, cap, h0, rfl, h1⟩
  · exact ⟨a, cap, rfl, fun j hj => by cases hj⟩
  · exact ⟨_, cap, rfl, fun j hj => ⟨b, off, rfl, h1 j hj⟩⟩
/-- the key k -/
def coK : List UInt8 := [107]
def CoI (c : CkM) : Prop := ∃ t : Tm, c.ts = [t] ∧ t.k = coK
theorem co_look {t : Tm} (h : c.ts = [t]) (hk : t.k = coK) : c.look coK = some t := by
  unfold CkM.look
  rw [h, List.find?_cons_of_pos (by rw [hk]; exact beq_self_eq_true _)]
theorem co_get {t : Tm} (h : c.ts = [t]) (hk : t.k = coK) : c.getT coK = t := getT_some (co_look h hk)
theorem co_has {t : Tm} (h : c.ts = [t]) (hk : t.k = coK) : c.has coK = true := by
  unfold CkM.has
  rw [co_look h hk]
  rfl
theorem co_idx {t : Tm} (h : c.ts = [t]) (hk : t.k = coK) : c.idx coK = 0 := by
  unfold CkM.idx
  rw [h, List.findIdx_cons, show (t.k == coK) = true by rw [hk]; exact beq_self_eq_true _]
  rfl
theorem co_next {t : Tm} (h : c.ts = [t]) {m : Nat} (hm : NextIs c m) : m = t.a := by
  obtain ⟨⟨u, h1, h2⟩, _⟩ := hm
  rw [h, List.mem_singleton] at h1
  rw [← h2, h1]
theorem co_due {t : Tm} (h : c.ts = [t]) (l : List (List UInt8)) (hl : DueIs c l) : l.length = if t.a ≤ c.now then 1 else 0 := by
  rw [hl.1.length_eq, List.length_map]
  unfold CkM.dueT
  rw [h]
  by_cases g : t.a ≤ c.now
  · rw [if_pos g, List.filter_cons_of_pos (by simpa using g)]; rfl
  · rw [if_neg g, List.filter_cons_of_neg (by simpa using g)]; rfl
theorem co_again_eq {t : Tm} (h : c.ts = [t]) (hk : t.k = coK) : c.again coK = (0, ⟨c.now, [c.againT t]⟩) := by
  unfold CkM.again
  rw [co_look h hk]
  show (0, c.put (c.againT t)) = _
  unfold CkM.put
  rw [show (c.againT t).k = coK from hk, co_idx h hk, h]
  rfl
theorem co_again (h : CoI c) : CoI (c.again coK).2 := by
  obtain ⟨t, h1, h2⟩ := h
  rw [co_again_eq h1 h2]
  exact ⟨_, rfl, h2⟩
theorem co_again_ok (h : CoI c) : (c.again coK).1 = 0 := by
  obtain ⟨t, h1, h2⟩ := h
  rw [co_again_eq h1 h2]
theorem co_again_now (h : CoI c) : (c.again coK).2.now = c.now := by
  obtain ⟨t, h1, h2⟩ := h
  rw [co_again_eq h1 h2]
theorem co_tick (h : CoI c) (x : Nat) : CoI (c.tick x).2 := by
  unfold CkM.tick
  split
  · exact h
  · exact h
theorem co_tick_now (h : CkOk c) (x : Nat) : c.now ≤ (c.tick x).2.now := by
  unfold CkM.tick
  split
  · rename_i g
    exact (add_le h.now (Fl.dl_plain g).1).2.2.1
  · exact Nat.le_refl _
theorem co_drop (h : CoI c) : (c.drop coK).ts = [] := by
  obtain ⟨t, h1, h2⟩ := h
  unfold CkM.drop
  rw [co_idx h1 h2, h1]
  rfl
theorem co_set {b m : Nat} (hb : Fl.dl b = true) (hm : Fl.dl m = true) : (ckNew.set coK b m).1 = 0 ∧ CoI (ckNew.set coK b m).2 := by
  unfold CkM.set
  rw [hb, hm, if_pos (by decide), if_neg (by decide)]
  exact ⟨rfl, _, rfl, rfl⟩
theorem co_setno {b m : Nat} (h : (Fl.dl b && Fl.dl m) = false) : ckNew.set coK b m = (4, ckNew) := by
  unfold CkM.set
  rw [h, if_neg (by decide)]
theorem due_nil (h : c.ts = []) (l : List (List UInt8)) (hl : DueIs c l) : l.length = 0 := by
  rw [hl.1.length_eq, List.length_map]
  unfold CkM.dueT
  rw [h]
  rfl
set_option maxRecDepth 100000 in
set_option maxHeartbeats 8000000 in
theorem comes13_any (b m : Nat) (v2 : Value) (f : List Nat) (hb : b < 18446744073709551616) (hm : m < 18446744073709551616) (hs : SlF v2 f w) (hf : ∀ x ∈ f, x < 18446744073709551616) (E0 : EP [0, 3, 5, 7] ads w) : Calls Tryd.prog 5 #[.float .f64 b, .float .f64 m, v2] w fun r w' => r = .returned (.bool true) ∧ Kp w w' := by
  obtain ⟨a, cap, rfl, hat⟩ := slf_form hs
  obtain ⟨n, hn⟩ : ∃ n, f.length = n := ⟨_, rfl⟩
  rw [hn] at hat ⊢
  obtain ⟨N, hN⟩ : ∃ N : Int, (n : Int) = N := ⟨_, rfl⟩
  have E := Lib.hid E0
  have HN := Lib.hid (fun w1 (h : Kp w w1) => atL_new h)
  have HAL := Lib.hid (alive13_any E0)
  have HNN := Lib.hid hN
  have HFN := Lib.hid hn
  have HF := Lib.hid hf
  have HAT := Lib.hid hat
  clear E0 hs hf hat
  by_cases h60 : N > 60
  · clear hn
    go_enter Tryd.func5, Tryd.ntmps5
    go_wp2_with (first | (go_at_call 7; (with_reducible refine HAL.out.mono ?_); rintro e' w1 ⟨rfl, h1⟩; have K1 := Lib.hid h1; clear h1) | (go_at_call 9; (with_reducible refine (HN.out _ K1.out).mono ?_); rintro e' w2 ⟨q, mb, rfl, h2, -⟩; have Q2 := Lib.hid h2; clear h2))
    go_ret
    exact ⟨rfl, K1.out⟩
  have hn60 : ¬ 60 < N := h60
  cases hd : (Fl.dl b && Fl.dl m) with
  | false =>
    have hse := co_setno hd
    obtain ⟨o4, he4⟩ := errI_some ads 4 (by decide)
    have HS := Lib.hid (fun q mb w1 (h : AtL w q mb ckNew w1) => (show Calls Tryd.prog 21 #[.pointer (some ⟨q, 0, none⟩), .string { data := #[107] }, .float .f64 b, .float .f64 m] w1 fun r w' => r = .returned (.iface 131 (.pointer o4)) ∧ AtL w q mb ckNew w' from (atL_set E.out h (k := coK) (by decide) hb hm).mono (fun _ _ ⟨h1, h2, _⟩ => ⟨by rw [h1, hse, he4], by rw [hse] at h2; exact h2⟩)))
    have HLE := Lib.hid (fun q mb w1 (h : AtL w q mb ckNew w1) => (show Calls Tryd.prog 13 #[.pointer (some ⟨q, 0, none⟩)] w1 fun r w' => r = .returned (.int .i64 0) ∧ w1 = w' from atL_len h))
    clear hse he4 hd hn hb hm
    go_enter Tryd.func5, Tryd.ntmps5
    go_wp2_with (first | (go_at_call 13; (with_reducible refine (HLE.out _ _ _ Q3.out).mono ?_); rintro e' w4 ⟨rfl, rfl⟩) | (go_at_call 21; (with_reducible refine (HS.out _ _ _ Q2.out).mono ?_); rintro e' w3 ⟨rfl, h3⟩; have Q3 := Lib.hid h3; clear h3) | (go_at_call 7; (with_reducible refine HAL.out.mono ?_); rintro e' w1 ⟨rfl, h1⟩; have K1 := Lib.hid h1; clear h1) | (go_at_call 9; (with_reducible refine (HN.out _ K1.out).mono ?_); rintro e' w2 ⟨q, mb, rfl, h2, -⟩; have Q2 := Lib.hid h2; clear h2))
    go_ret
    exact ⟨rfl, Q3.out.2⟩
  | true =>
    rw [Bool.and_eq_true] at hd
    obtain ⟨s1, s2⟩ := co_set hd.1 hd.2
    have HS := Lib.hid (fun q mb w1 (h : AtL w q mb ckNew w1) => (show Calls Tryd.prog 21 #[.pointer (some ⟨q, 0, none⟩), .string { data := #[107] }, .float .f64 b, .float .f64 m] w1 fun r w' => r = .returned .nilIface ∧ AtL w q mb (ckNew.set coK b m).2 w' from (atL_set E.out h (k := coK) (by decide) hb hm).mono (fun _ _ ⟨h1, h2, _⟩ => ⟨by rw [h1, s1, errI_nil], h2⟩)))
    have HCS := Lib.hid s2
    clear hd s1 s2 hn hb hm
    go_enter Tryd.func5, Tryd.ntmps5
    go_wp2_with (first | (go_at_call 21; (with_reducible refine (HS.out _ _ _ Q2.out).mono ?_); rintro e' w3 ⟨rfl, h3⟩; have Q3 := Lib.hid h3; clear h3) | (go_at_call 7; (with_reducible refine HAL.out.mono ?_); rintro e' w1 ⟨rfl, h1⟩; have K1 := Lib.hid h1; clear h1) | (go_at_call 9; (with_reducible refine (HN.out _ K1.out).mono ?_); rintro e' w2 ⟨q, mb, rfl, h2, -⟩; have Q2 := Lib.hid h2; clear h2))
    go_loopw [33] (fun i wr => ∃ (j : Nat) (c : CkM), j ≤ n ∧ i = .int .i64 j ∧ AtL w q mb c wr ∧ CoI c) (fun i _ => n - (intOf i).toNat)
    case atStart => exact ⟨0, _, Nat.zero_le _, rfl, Q3.out, HCS.out⟩
    case round =>
      obtain ⟨j, c, hj, rfl, ha, hco⟩ := hrel
      obtain ⟨jj, hjj⟩ : ∃ jj : Int, (j : Int) = jj := ⟨_, rfl⟩
      have HJ := Lib.hid hjj
      rw [hjj]
      have HC := Lib.hid hco
      have OK := Lib.hid ha.1.ok
      by_cases hlt : j < n
      · have hjn : jj < N := by omega
        have hj0 : 0 ≤ jj := by omega
        have HLT := Lib.hid hlt
        have hw1 : wrap64 (jj + 1) = jj + 1 := IntWalk.wrap64_in _ (by omega)
        obtain ⟨bb, off, rfl, hcell⟩ := HAT.out j hlt
        have hcl : wr.cell? ⟨bb, off + jj.toNat, none⟩ = some (.float .f64 (f.getD j 0)) := by
          rw [show jj.toNat = j by omega]
          exact kp_cell ha.2 hcell
        have hx : f.getD j 0 < 18446744073709551616 := by
          have hjf : j < f.length := by rw [HFN.out]; exact hlt
          rw [List.getD_eq_getElem?_getD, List.getElem?_eq_getElem hjf]
          exact HF.out _ (List.getElem_mem hjf)
        obtain ⟨x, hxx⟩ : ∃ x, f.getD j 0 = x := ⟨_, rfl⟩
        rw [hxx] at hcl hx
        obtain ⟨t, hc, htk⟩ := hco
        have hta : t.a ≤ 9218868437227405312 := (OK.out.each t (by rw [hc]; exact List.mem_singleton_self t)).a
        have hdl := co_due hc
        clear hxx hcell hjj hlt hj
        by_cases hdu : t.a ≤ c.now
        · cases hdl2 : Fl.dl x with
          | true =>
            have hdn : (if t.a ≤ c.now then 1 else 0) = 1 := if_pos hdu
            rw [hdn] at hdl
            have hC1 : CoI (c.again coK).2 := co_again HC.out
            have ok1 : CkOk (c.again coK).2 := again_ok OK.out coK
            have hnw1 : ((c.again coK).2).now = c.now := co_again_now HC.out
            have hTE : ((c.again coK).2.tick x).1 = 0 := by unfold CkM.tick; rw [if_pos hdl2]
            have hC2 : CoI ((c.again coK).2.tick x).2 := co_tick hC1 x
            have hnw2 := co_tick_now ok1 x
            have ok2 : CkOk ((c.again coK).2.tick x).2 := tick_ok ok1 x
            rw [hnw1] at hnw2
            have e_l1 := fl_lt_no ok2.now OK.out.now hnw2
            have e_le : (FloatKind.f64.format.order t.a c.now == some .lt || FloatKind.f64.format.order t.a c.now == some .eq) = true := by rw [fl_le hta OK.out.now]; exact decide_eq_true hdu
            have e_ge := ge0 hx
            rw [hdl2] at e_ge
            have e_ne := fl_ne hta
            have e_l0 := fl_lt_no hta (Nat.zero_le _) (Nat.zero_le _)
            have HA := Lib.hid (fun w1 (h : AtL w q mb c w1) => (show Calls Tryd.prog 19 #[.pointer (some ⟨q, 0, none⟩), .string { data := #[107] }] w1 fun r w' => r = .returned (.tuple #[.float .f64 t.a, .int .i64 t.n, .bool true]) ∧ AtL w q mb c w' from (atL_at h (k := coK) (by decide)).mono (fun _ _ ⟨h1, h2, _⟩ => ⟨by rw [h1, co_get hc htk, co_has hc htk], h2⟩)))
            have HX := Lib.hid (fun w1 (h : AtL w q mb c w1) => (show Calls Tryd.prog 17 #[.pointer (some ⟨q, 0, none⟩)] w1 fun r w' => r = .returned (.tuple #[.float .f64 t.a, .bool true]) ∧ AtL w q mb c w' from (atL_next h).mono (fun _ _ ⟨h1, h2, _⟩ => ⟨by rcases h1 with ⟨h0, _⟩ | ⟨m, h0, h3⟩; (rw [hc] at h0; cases h0); rw [h3, co_next hc h0], h2⟩)))
            have HD := Lib.hid (fun w1 (h : AtL w q mb c w1) => (show Calls Tryd.prog 15 #[.pointer (some ⟨q, 0, none⟩)] w1 fun r w' => ∃ o cp, r = .returned (.slice o 1 cp) ∧ AtL w q mb c w' from (atL_due h).mono (fun _ _ ⟨o, cp, l, h1, h2, _, h4, _⟩ => ⟨o, cp, by rw [h1, hdl l h2], h4⟩)))
            have HN3 := Lib.hid (fun w1 (h : AtL w q mb c w1) => atL_now h)
            have HG4 := Lib.hid (fun w1 (h : AtL w q mb c w1) => (show Calls Tryd.prog 24 #[.pointer (some ⟨q, 0, none⟩), .string { data := #[107] }] w1 fun r w' => r = .returned .nilIface ∧ AtL w q mb (c.again coK).2 w' from (atL_again E.out h (k := coK) (by decide)).mono (fun _ _ ⟨h1, h2, _⟩ => ⟨by rw [h1, co_again_ok HC.out, errI_nil], h2⟩)))
            have HN5 := Lib.hid (fun w1 (h : AtL w q mb (c.again coK).2 w1) => (show Calls Tryd.prog 12 #[.pointer (some ⟨q, 0, none⟩)] w1 fun r w' => r = .returned (.float .f64 c.now) ∧ w1 = w' from by rw [← hnw1]; exact atL_now h))
            obtain ⟨o4, he4⟩ := errI_some ads 4 (by decide)
            have HT5 := Lib.hid (fun w1 (h : AtL w q mb (c.again coK).2 w1) => (show Calls Tryd.prog 25 #[.pointer (some ⟨q, 0, none⟩), .float .f64 x] w1 fun r w' => r = .returned .nilIface ∧ AtL w q mb ((c.again coK).2.tick x).2 w' from (atL_tick E.out h hx).mono (fun _ _ ⟨h1, h2, _⟩ => ⟨by rw [h1, hTE, errI_nil], h2⟩)))
            have HN6 := Lib.hid (fun w1 (h : AtL w q mb ((c.again coK).2.tick x).2 w1) => atL_now h)
            have HC2 := Lib.hid hC2
            have A0 := Lib.hid ha
            obtain ⟨c2, hc2⟩ : ∃ c2, ((c.again coK).2.tick x).2 = c2 := ⟨_, rfl⟩
            rw [hc2] at HN6 HT5 HC2 e_l1
            obtain ⟨c1, hc1⟩ : ∃ c1, (c.again coK).2 = c1 := ⟨_, rfl⟩
            rw [hc1] at HN5 HT5 HG4
            obtain ⟨xm, hxm⟩ : ∃ z, c2.now = z := ⟨_, rfl⟩
            rw [hxm] at HN6 e_l1
            obtain ⟨xn, hxn⟩ : ∃ z, c.now = z := ⟨_, rfl⟩
            rw [hxn] at HN3 HN5 e_l1 e_le
            obtain ⟨xa, hxa⟩ : ∃ z, t.a = z := ⟨_, rfl⟩
            rw [hxa] at HA HX e_le e_ne e_l0
            obtain ⟨xc, hxc⟩ : ∃ z, t.n = z := ⟨_, rfl⟩
            rw [hxc] at HA
            clear hdn hdl hC1 ok1 hnw1 hTE hC2 hnw2 ok2 he4 ha hdu hdl2 hxm hxn hxa hxc hc htk hta hc2 hx hc1
            go_wp2_with (first
          | (go_at_call 12; (with_reducible refine (HN6.out _ A6.out).mono ?_); rintro e' w9 ⟨rfl, rfl⟩)
          | (go_at_call 25; (with_reducible refine (HT5.out _ A5.out).mono ?_); rintro e' w8 ⟨rfl, h8⟩; have A6 := Lib.hid h8; clear h8)
          | (go_at_call 12; (with_reducible refine (HN5.out _ A5.out).mono ?_); rintro e' w7 ⟨rfl, rfl⟩)
          | (go_at_call 24; (with_reducible refine (HG4.out _ A4.out).mono ?_); rintro e' w6 ⟨rfl, h6⟩; have A5 := Lib.hid h6; clear h6)
          | (go_at_call 15; (with_reducible refine (HD.out _ A3.out).mono ?_); rintro e' w5 ⟨o5, cp5, rfl, h5⟩; have A4 := Lib.hid h5; clear h5)
          | (go_at_call 12; (with_reducible refine (HN3.out _ A3.out).mono ?_); rintro e' w4 ⟨rfl, rfl⟩)
          | (go_at_call 15; (with_reducible refine (HD.out _ A2.out).mono ?_); rintro e' w3 ⟨o3, cp3, rfl, h3⟩; have A3 := Lib.hid h3; clear h3)
          | (go_at_call 17; (with_reducible refine (HX.out _ A1.out).mono ?_); rintro e' w2 ⟨rfl, h2⟩; have A2 := Lib.hid h2; clear h2)
          | (go_at_call 19; (with_reducible refine (HA.out _ A0.out).mono ?_); rintro e' w1 ⟨rfl, h1⟩; have A1 := Lib.hid h1; clear h1))
            go_roundw
            case rel => exact ⟨j + 1, c2, by have := HLT.out; omega, by have := HJ.out; rw [show ((j + 1 : Nat) : Int) = jj + 1 by omega], A6.out, HC2.out⟩
            case measure => have := HJ.out; have := HLT.out; simp [intOf]; omega
          | false =>
            have hdn : (if t.a ≤ c.now then 1 else 0) = 1 := if_pos hdu
            rw [hdn] at hdl
            have hC1 : CoI (c.again coK).2 := co_again HC.out
            have ok1 : CkOk (c.again coK).2 := again_ok OK.out coK
            have hnw1 : ((c.again coK).2).now = c.now := co_again_now HC.out
            have hTE : ((c.again coK).2.tick x).1 = 4 := by unfold CkM.tick; rw [if_neg (by rw [hdl2]; decide)]
            have hC2 : CoI ((c.again coK).2.tick x).2 := co_tick hC1 x
            have hnw2 := co_tick_now ok1 x
            have ok2 : CkOk ((c.again coK).2.tick x).2 := tick_ok ok1 x
            rw [hnw1] at hnw2
            have e_l1 := fl_lt_no ok2.now OK.out.now hnw2
            have e_le : (FloatKind.f64.format.order t.a c.now == some .lt || FloatKind.f64.format.order t.a c.now == some .eq) = true := by rw [fl_le hta OK.out.now]; exact decide_eq_true hdu
            have e_ge := ge0 hx
            rw [hdl2] at e_ge
            have e_ne := fl_ne hta
            have e_l0 := fl_lt_no hta (Nat.zero_le _) (Nat.zero_le _)
            have HA := Lib.hid (fun w1 (h : AtL w q mb c w1) => (show Calls Tryd.prog 19 #[.pointer (some ⟨q, 0, none⟩), .string { data := #[107] }] w1 fun r w' => r = .returned (.tuple #[.float .f64 t.a, .int .i64 t.n, .bool true]) ∧ AtL w q mb c w' from (atL_at h (k := coK) (by decide)).mono (fun _ _ ⟨h1, h2, _⟩ => ⟨by rw [h1, co_get hc htk, co_has hc htk], h2⟩)))
            have HX := Lib.hid (fun w1 (h : AtL w q mb c w1) => (show Calls Tryd.prog 17 #[.pointer (some ⟨q, 0, none⟩)] w1 fun r w' => r = .returned (.tuple #[.float .f64 t.a, .bool true]) ∧ AtL w q mb c w' from (atL_next h).mono (fun _ _ ⟨h1, h2, _⟩ => ⟨by rcases h1 with ⟨h0, _⟩ | ⟨m, h0, h3⟩; (rw [hc] at h0; cases h0); rw [h3, co_next hc h0], h2⟩)))
            have HD := Lib.hid (fun w1 (h : AtL w q mb c w1) => (show Calls Tryd.prog 15 #[.pointer (some ⟨q, 0, none⟩)] w1 fun r w' => ∃ o cp, r = .returned (.slice o 1 cp) ∧ AtL w q mb c w' from (atL_due h).mono (fun _ _ ⟨o, cp, l, h1, h2, _, h4, _⟩ => ⟨o, cp, by rw [h1, hdl l h2], h4⟩)))
            have HN3 := Lib.hid (fun w1 (h : AtL w q mb c w1) => atL_now h)
            have HG4 := Lib.hid (fun w1 (h : AtL w q mb c w1) => (show Calls Tryd.prog 24 #[.pointer (some ⟨q, 0, none⟩), .string { data := #[107] }] w1 fun r w' => r = .returned .nilIface ∧ AtL w q mb (c.again coK).2 w' from (atL_again E.out h (k := coK) (by decide)).mono (fun _ _ ⟨h1, h2, _⟩ => ⟨by rw [h1, co_again_ok HC.out, errI_nil], h2⟩)))
            have HN5 := Lib.hid (fun w1 (h : AtL w q mb (c.again coK).2 w1) => (show Calls Tryd.prog 12 #[.pointer (some ⟨q, 0, none⟩)] w1 fun r w' => r = .returned (.float .f64 c.now) ∧ w1 = w' from by rw [← hnw1]; exact atL_now h))
            obtain ⟨o4, he4⟩ := errI_some ads 4 (by decide)
            have HT5 := Lib.hid (fun w1 (h : AtL w q mb (c.again coK).2 w1) => (show Calls Tryd.prog 25 #[.pointer (some ⟨q, 0, none⟩), .float .f64 x] w1 fun r w' => r = .returned (.iface 131 (.pointer o4)) ∧ AtL w q mb ((c.again coK).2.tick x).2 w' from (atL_tick E.out h hx).mono (fun _ _ ⟨h1, h2, _⟩ => ⟨by rw [h1, hTE, he4], h2⟩)))
            have HN6 := Lib.hid (fun w1 (h : AtL w q mb ((c.again coK).2.tick x).2 w1) => atL_now h)
            have HC2 := Lib.hid hC2
            have A0 := Lib.hid ha
            obtain ⟨c2, hc2⟩ : ∃ c2, ((c.again coK).2.tick x).2 = c2 := ⟨_, rfl⟩
            rw [hc2] at HN6 HT5 HC2 e_l1
            obtain ⟨c1, hc1⟩ : ∃ c1, (c.again coK).2 = c1 := ⟨_, rfl⟩
            rw [hc1] at HN5 HT5 HG4
            obtain ⟨xm, hxm⟩ : ∃ z, c2.now = z := ⟨_, rfl⟩
            rw [hxm] at HN6 e_l1
            obtain ⟨xn, hxn⟩ : ∃ z, c.now = z := ⟨_, rfl⟩
            rw [hxn] at HN3 HN5 e_l1 e_le
            obtain ⟨xa, hxa⟩ : ∃ z, t.a = z := ⟨_, rfl⟩
            rw [hxa] at HA HX e_le e_ne e_l0
            obtain ⟨xc, hxc⟩ : ∃ z, t.n = z := ⟨_, rfl⟩
            rw [hxc] at HA
            clear hdn hdl hC1 ok1 hnw1 hTE hC2 hnw2 ok2 he4 ha hdu hdl2 hxm hxn hxa hxc hc htk hta hc2 hx hc1
            go_wp2_with (first
          | (go_at_call 12; (with_reducible refine (HN6.out _ A6.out).mono ?_); rintro e' w9 ⟨rfl, rfl⟩)
          | (go_at_call 25; (with_reducible refine (HT5.out _ A5.out).mono ?_); rintro e' w8 ⟨rfl, h8⟩; have A6 := Lib.hid h8; clear h8)
          | (go_at_call 12; (with_reducible refine (HN5.out _ A5.out).mono ?_); rintro e' w7 ⟨rfl, rfl⟩)
          | (go_at_call 24; (with_reducible refine (HG4.out _ A4.out).mono ?_); rintro e' w6 ⟨rfl, h6⟩; have A5 := Lib.hid h6; clear h6)
          | (go_at_call 15; (with_reducible refine (HD.out _ A3.out).mono ?_); rintro e' w5 ⟨o5, cp5, rfl, h5⟩; have A4 := Lib.hid h5; clear h5)
          | (go_at_call 12; (with_reducible refine (HN3.out _ A3.out).mono ?_); rintro e' w4 ⟨rfl, rfl⟩)
          | (go_at_call 15; (with_reducible refine (HD.out _ A2.out).mono ?_); rintro e' w3 ⟨o3, cp3, rfl, h3⟩; have A3 := Lib.hid h3; clear h3)
          | (go_at_call 17; (with_reducible refine (HX.out _ A1.out).mono ?_); rintro e' w2 ⟨rfl, h2⟩; have A2 := Lib.hid h2; clear h2)
          | (go_at_call 19; (with_reducible refine (HA.out _ A0.out).mono ?_); rintro e' w1 ⟨rfl, h1⟩; have A1 := Lib.hid h1; clear h1))
            go_roundw
            case rel => exact ⟨j + 1, c2, by have := HLT.out; omega, by have := HJ.out; rw [show ((j + 1 : Nat) : Int) = jj + 1 by omega], A6.out, HC2.out⟩
            case measure => have := HJ.out; have := HLT.out; simp [intOf]; omega
        · cases hdl2 : Fl.dl x with
          | true =>
            have hdn : (if t.a ≤ c.now then 1 else 0) = 0 := if_neg hdu
            rw [hdn] at hdl
            have hC1 : CoI c := HC.out
            have ok1 : CkOk c := OK.out
            have hnw1 : (c).now = c.now := rfl
            have hTE : (c.tick x).1 = 0 := by unfold CkM.tick; rw [if_pos hdl2]
            have hC2 : CoI (c.tick x).2 := co_tick hC1 x
            have hnw2 := co_tick_now ok1 x
            have ok2 : CkOk (c.tick x).2 := tick_ok ok1 x
            rw [hnw1] at hnw2
            have e_l1 := fl_lt_no ok2.now OK.out.now hnw2
            have e_le : (FloatKind.f64.format.order t.a c.now == some .lt || FloatKind.f64.format.order t.a c.now == some .eq) = false := by rw [fl_le hta OK.out.now]; exact decide_eq_false hdu
            have e_ge := ge0 hx
            rw [hdl2] at e_ge
            have e_ne := fl_ne hta
            have e_l0 := fl_lt_no hta (Nat.zero_le _) (Nat.zero_le _)
            have HA := Lib.hid (fun w1 (h : AtL w q mb c w1) => (show Calls Tryd.prog 19 #[.pointer (some ⟨q, 0, none⟩), .string { data := #[107] }] w1 fun r w' => r = .returned (.tuple #[.float .f64 t.a, .int .i64 t.n, .bool true]) ∧ AtL w q mb c w' from (atL_at h (k := coK) (by decide)).mono (fun _ _ ⟨h1, h2, _⟩ => ⟨by rw [h1, co_get hc htk, co_has hc htk], h2⟩)))
            have HX := Lib.hid (fun w1 (h : AtL w q mb c w1) => (show Calls Tryd.prog 17 #[.pointer (some ⟨q, 0, none⟩)] w1 fun r w' => r = .returned (.tuple #[.float .f64 t.a, .bool true]) ∧ AtL w q mb c w' from (atL_next h).mono (fun _ _ ⟨h1, h2, _⟩ => ⟨by rcases h1 with ⟨h0, _⟩ | ⟨m, h0, h3⟩; (rw [hc] at h0; cases h0); rw [h3, co_next hc h0], h2⟩)))
            have HD := Lib.hid (fun w1 (h : AtL w q mb c w1) => (show Calls Tryd.prog 15 #[.pointer (some ⟨q, 0, none⟩)] w1 fun r w' => ∃ o cp, r = .returned (.slice o 0 cp) ∧ AtL w q mb c w' from (atL_due h).mono (fun _ _ ⟨o, cp, l, h1, h2, _, h4, _⟩ => ⟨o, cp, by rw [h1, hdl l h2], h4⟩)))
            have HN3 := Lib.hid (fun w1 (h : AtL w q mb c w1) => atL_now h)
            have HN5 := Lib.hid (fun w1 (h : AtL w q mb c w1) => (show Calls Tryd.prog 12 #[.pointer (some ⟨q, 0, none⟩)] w1 fun r w' => r = .returned (.float .f64 c.now) ∧ w1 = w' from by rw [← hnw1]; exact atL_now h))
            obtain ⟨o4, he4⟩ := errI_some ads 4 (by decide)
            have HT5 := Lib.hid (fun w1 (h : AtL w q mb c w1) => (show Calls Tryd.prog 25 #[.pointer (some ⟨q, 0, none⟩), .float .f64 x] w1 fun r w' => r = .returned .nilIface ∧ AtL w q mb (c.tick x).2 w' from (atL_tick E.out h hx).mono (fun _ _ ⟨h1, h2, _⟩ => ⟨by rw [h1, hTE, errI_nil], h2⟩)))
            have HN6 := Lib.hid (fun w1 (h : AtL w q mb (c.tick x).2 w1) => atL_now h)
            have HC2 := Lib.hid hC2
            have A0 := Lib.hid ha
            obtain ⟨c2, hc2⟩ : ∃ c2, (c.tick x).2 = c2 := ⟨_, rfl⟩
            rw [hc2] at HN6 HT5 HC2 e_l1
            obtain ⟨xm, hxm⟩ : ∃ z, c2.now = z := ⟨_, rfl⟩
            rw [hxm] at HN6 e_l1
            obtain ⟨xn, hxn⟩ : ∃ z, c.now = z := ⟨_, rfl⟩
            rw [hxn] at HN3 HN5 e_l1 e_le
            obtain ⟨xa, hxa⟩ : ∃ z, t.a = z := ⟨_, rfl⟩
            rw [hxa] at HA HX e_le e_ne e_l0
            obtain ⟨xc, hxc⟩ : ∃ z, t.n = z := ⟨_, rfl⟩
            rw [hxc] at HA
            clear hdn hdl hC1 ok1 hnw1 hTE hC2 hnw2 ok2 he4 ha hdu hdl2 hxm hxn hxa hxc hc htk hta hc2 hx
            go_wp2_with (first
          | (go_at_call 12; (with_reducible refine (HN6.out _ A6.out).mono ?_); rintro e' w9 ⟨rfl, rfl⟩)
          | (go_at_call 25; (with_reducible refine (HT5.out _ A5.out).mono ?_); rintro e' w8 ⟨rfl, h8⟩; have A6 := Lib.hid h8; clear h8)
          | (go_at_call 12; (with_reducible refine (HN5.out _ A5.out).mono ?_); rintro e' w7 ⟨rfl, rfl⟩)
          | (go_at_call 15; (with_reducible refine (HD.out _ A3.out).mono ?_); rintro e' w5 ⟨o5, cp5, rfl, h5⟩; have A4 := Lib.hid h5; have A5 := Lib.hid h5; clear h5)
          | (go_at_call 12; (with_reducible refine (HN3.out _ A3.out).mono ?_); rintro e' w4 ⟨rfl, rfl⟩)
          | (go_at_call 15; (with_reducible refine (HD.out _ A2.out).mono ?_); rintro e' w3 ⟨o3, cp3, rfl, h3⟩; have A3 := Lib.hid h3; clear h3)
          | (go_at_call 17; (with_reducible refine (HX.out _ A1.out).mono ?_); rintro e' w2 ⟨rfl, h2⟩; have A2 := Lib.hid h2; clear h2)
          | (go_at_call 19; (with_reducible refine (HA.out _ A0.out).mono ?_); rintro e' w1 ⟨rfl, h1⟩; have A1 := Lib.hid h1; clear h1))
            go_roundw
            case rel => exact ⟨j + 1, c2, by have := HLT.out; omega, by have := HJ.out; rw [show ((j + 1 : Nat) : Int) = jj + 1 by omega], A6.out, HC2.out⟩
            case measure => have := HJ.out; have := HLT.out; simp [intOf]; omega
          | false =>
            have hdn : (if t.a ≤ c.now then 1 else 0) = 0 := if_neg hdu
            rw [hdn] at hdl
            have hC1 : CoI c := HC.out
            have ok1 : CkOk c := OK.out
            have hnw1 : (c).now = c.now := rfl
            have hTE : (c.tick x).1 = 4 := by unfold CkM.tick; rw [if_neg (by rw [hdl2]; decide)]
            have hC2 : CoI (c.tick x).2 := co_tick hC1 x
            have hnw2 := co_tick_now ok1 x
            have ok2 : CkOk (c.tick x).2 := tick_ok ok1 x
            rw [hnw1] at hnw2
            have e_l1 := fl_lt_no ok2.now OK.out.now hnw2
            have e_le : (FloatKind.f64.format.order t.a c.now == some .lt || FloatKind.f64.format.order t.a c.now == some .eq) = false := by rw [fl_le hta OK.out.now]; exact decide_eq_false hdu
            have e_ge := ge0 hx
            rw [hdl2] at e_ge
            have e_ne := fl_ne hta
            have e_l0 := fl_lt_no hta (Nat.zero_le _) (Nat.zero_le _)
            have HA := Lib.hid (fun w1 (h : AtL w q mb c w1) => (show Calls Tryd.prog 19 #[.pointer (some ⟨q, 0, none⟩), .string { data := #[107] }] w1 fun r w' => r = .returned (.tuple #[.float .f64 t.a, .int .i64 t.n, .bool true]) ∧ AtL w q mb c w' from (atL_at h (k := coK) (by decide)).mono (fun _ _ ⟨h1, h2, _⟩ => ⟨by rw [h1, co_get hc htk, co_has hc htk], h2⟩)))
            have HX := Lib.hid (fun w1 (h : AtL w q mb c w1) => (show Calls Tryd.prog 17 #[.pointer (some ⟨q, 0, none⟩)] w1 fun r w' => r = .returned (.tuple #[.float .f64 t.a, .bool true]) ∧ AtL w q mb c w' from (atL_next h).mono (fun _ _ ⟨h1, h2, _⟩ => ⟨by rcases h1 with ⟨h0, _⟩ | ⟨m, h0, h3⟩; (rw [hc] at h0; cases h0); rw [h3, co_next hc h0], h2⟩)))
            have HD := Lib.hid (fun w1 (h : AtL w q mb c w1) => (show Calls Tryd.prog 15 #[.pointer (some ⟨q, 0, none⟩)] w1 fun r w' => ∃ o cp, r = .returned (.slice o 0 cp) ∧ AtL w q mb c w' from (atL_due h).mono (fun _ _ ⟨o, cp, l, h1, h2, _, h4, _⟩ => ⟨o, cp, by rw [h1, hdl l h2], h4⟩)))
            have HN3 := Lib.hid (fun w1 (h : AtL w q mb c w1) => atL_now h)
            have HN5 := Lib.hid (fun w1 (h : AtL w q mb c w1) => (show Calls Tryd.prog 12 #[.pointer (some ⟨q, 0, none⟩)] w1 fun r w' => r = .returned (.float .f64 c.now) ∧ w1 = w' from by rw [← hnw1]; exact atL_now h))
            obtain ⟨o4, he4⟩ := errI_some ads 4 (by decide)
            have HT5 := Lib.hid (fun w1 (h : AtL w q mb c w1) => (show Calls Tryd.prog 25 #[.pointer (some ⟨q, 0, none⟩), .float .f64 x] w1 fun r w' => r = .returned (.iface 131 (.pointer o4)) ∧ AtL w q mb (c.tick x).2 w' from (atL_tick E.out h hx).mono (fun _ _ ⟨h1, h2, _⟩ => ⟨by rw [h1, hTE, he4], h2⟩)))
            have HN6 := Lib.hid (fun w1 (h : AtL w q mb (c.tick x).2 w1) => atL_now h)
            have HC2 := Lib.hid hC2
            have A0 := Lib.hid ha
            obtain ⟨c2, hc2⟩ : ∃ c2, (c.tick x).2 = c2 := ⟨_, rfl⟩
            rw [hc2] at HN6 HT5 HC2 e_l1
            obtain ⟨xm, hxm⟩ : ∃ z, c2.now = z := ⟨_, rfl⟩
            rw [hxm] at HN6 e_l1
            obtain ⟨xn, hxn⟩ : ∃ z, c.now = z := ⟨_, rfl⟩
            rw [hxn] at HN3 HN5 e_l1 e_le
            obtain ⟨xa, hxa⟩ : ∃ z, t.a = z := ⟨_, rfl⟩
            rw [hxa] at HA HX e_le e_ne e_l0
            obtain ⟨xc, hxc⟩ : ∃ z, t.n = z := ⟨_, rfl⟩
            rw [hxc] at HA
            clear hdn hdl hC1 ok1 hnw1 hTE hC2 hnw2 ok2 he4 ha hdu hdl2 hxm hxn hxa hxc hc htk hta hc2 hx
            go_wp2_with (first
          | (go_at_call 12; (with_reducible refine (HN6.out _ A6.out).mono ?_); rintro e' w9 ⟨rfl, rfl⟩)
          | (go_at_call 25; (with_reducible refine (HT5.out _ A5.out).mono ?_); rintro e' w8 ⟨rfl, h8⟩; have A6 := Lib.hid h8; clear h8)
          | (go_at_call 12; (with_reducible refine (HN5.out _ A5.out).mono ?_); rintro e' w7 ⟨rfl, rfl⟩)
          | (go_at_call 15; (with_reducible refine (HD.out _ A3.out).mono ?_); rintro e' w5 ⟨o5, cp5, rfl, h5⟩; have A4 := Lib.hid h5; have A5 := Lib.hid h5; clear h5)
          | (go_at_call 12; (with_reducible refine (HN3.out _ A3.out).mono ?_); rintro e' w4 ⟨rfl, rfl⟩)
          | (go_at_call 15; (with_reducible refine (HD.out _ A2.out).mono ?_); rintro e' w3 ⟨o3, cp3, rfl, h3⟩; have A3 := Lib.hid h3; clear h3)
          | (go_at_call 17; (with_reducible refine (HX.out _ A1.out).mono ?_); rintro e' w2 ⟨rfl, h2⟩; have A2 := Lib.hid h2; clear h2)
          | (go_at_call 19; (with_reducible refine (HA.out _ A0.out).mono ?_); rintro e' w1 ⟨rfl, h1⟩; have A1 := Lib.hid h1; clear h1))
            go_roundw
            case rel => exact ⟨j + 1, c2, by have := HLT.out; omega, by have := HJ.out; rw [show ((j + 1 : Nat) : Int) = jj + 1 by omega], A6.out, HC2.out⟩
            case measure => have := HJ.out; have := HLT.out; simp [intOf]; omega
      · have hjn : ¬ jj < N := by omega
        obtain ⟨t, hc, htk⟩ := hco
        have HDR := Lib.hid (fun w1 (h : AtL w q mb c w1) => (show Calls Tryd.prog 23 #[.pointer (some ⟨q, 0, none⟩), .string { data := #[107] }] w1 fun r w' => r = .returned (.bool true) ∧ AtL w q mb (c.drop coK) w' from (atL_drop h (k := coK) (by decide)).mono (fun _ _ ⟨h1, h2, _⟩ => ⟨by rw [h1, co_has hc htk], h2⟩)))
        have HDU := Lib.hid (fun w1 (h : AtL w q mb (c.drop coK) w1) => (show Calls Tryd.prog 15 #[.pointer (some ⟨q, 0, none⟩)] w1 fun r w' => ∃ o cp, r = .returned (.slice o 0 cp) ∧ AtL w q mb (c.drop coK) w' from (atL_due h).mono (fun _ _ ⟨o, cp, l, h1, h2, _, h4, _⟩ => ⟨o, cp, by rw [h1, due_nil (co_drop HC.out) l h2], h4⟩)))
        have HLE := Lib.hid (fun w1 (h : AtL w q mb (c.drop coK) w1) => (show Calls Tryd.prog 13 #[.pointer (some ⟨q, 0, none⟩)] w1 fun r w' => r = .returned (.int .i64 0) ∧ w1 = w' from (atL_len h).mono (fun _ _ ⟨h1, h2⟩ => ⟨by rw [h1, co_drop HC.out]; rfl, h2⟩)))
        have A0 := Lib.hid ha
        clear ha hjj hlt hj hc htk
        go_wp2_with (first | (go_at_call 13; (with_reducible refine (HLE.out _ A2.out).mono ?_); rintro e' w9 ⟨rfl, rfl⟩) | (go_at_call 15; (with_reducible refine (HDU.out _ A1.out).mono ?_); rintro e' w8 ⟨o8, c8, rfl, h8⟩; have A2 := Lib.hid h8; clear h8) | (go_at_call 23; (with_reducible refine (HDR.out _ A0.out).mono ?_); rintro e' w7 ⟨rfl, h7⟩; have A1 := Lib.hid h7; clear h7))
        go_ret
        exact ⟨rfl, A2.out.2⟩
end Go.Proofs.YtanbeaebdingeaaDoor
