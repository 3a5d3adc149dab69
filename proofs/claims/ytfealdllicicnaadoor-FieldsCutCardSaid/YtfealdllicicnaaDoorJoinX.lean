/-
  FieldsJoin's WALK at a right row (own work).
-/
import Derived.Test.YtfealdllicicnaaDoorJoinV
namespace Go.Proofs.YtfealdllicicnaaDoor
open Go.RowKit Go.ChangeShapes Go.WideShapes

theorem own_le {w : World} {base : Nat} {e : TypeId} {n : Nat} {v : Value} {xs : List Value} (h : w.ownsRow base e 1 v n xs) : ∃ a c, v = .slice a n c ∧ n ≤ c := by
  obtain ⟨h1, h2⟩ := h
  rcases h2 with ⟨rfl, hx⟩ | ⟨g, cap, cur, rfl, _, _, hc, _⟩
  · subst hx
    exact ⟨none, 0, by simp, by simp⟩
  · exact ⟨_, cap, rfl, hc⟩

theorem run_small : ∀ (fs : List (Int × List Int)) (k : Nat) (last : Int), 0 ≤ last → runQ k last fs = true → Small fs
  | [], _, _, _, _ => fun f hf => by cases hf
  | g :: t, k, last, hl, hr => by
    rw [runQ, Bool.and_eq_true, decide_eq_true_eq] at hr
    obtain ⟨⟨h1, h2, h3, h4⟩, hr⟩ := hr
    intro f hf
    rcases List.mem_cons.1 hf with rfl | hf
    · exact ⟨by omega, h3, h4⟩
    · exact run_small t (k + 1) g.1 (by omega) hr f hf

theorem slq_in {a : Option Addr} {n c : Nat} {fs : List (Int × List Int)} {w : World} (h : SlQ (.slice a n c) fs w) : ∀ g ∈ fs, InB g.2 := by
  intro g hg
  obtain ⟨i, hi, rfl⟩ := List.getElem_of_mem hg
  obtain ⟨b, off, -, -, a', c', -, -, hb⟩ := h.at i hi
  exact hb

theorem joinB_in {fs : List (Int × List Int)} (hs : Small fs) (hb : ∀ g ∈ fs, InB g.2) : InB (joinB fs) := by
  intro x hx
  obtain ⟨g, hg, hx⟩ := List.mem_flatMap.1 hx
  obtain ⟨h1, h2, h3⟩ := hs g hg
  unfold fieldB at hx
  simp only [List.mem_append, List.mem_cons, List.not_mem_nil, or_false] at hx
  rcases hx with (rfl | rfl | rfl) | hx
  · omega
  · omega
  · omega
  · exact hb g hg x hx

/-- A RIGHT ROW, told once: its bytes are bytes, and are split to itself. -/
theorem row_facts {a : Option Addr} {n c : Nat} {fs : List (Int × List Int)} {w : World} (hs : SlQ (.slice a n c) fs w) (hr : runQ 0 0 fs = true) :
    fs.length ≤ 16 ∧ rightQ 0 fs = true ∧ Small fs ∧ InB (joinB fs) ∧ (joinB fs).length ≤ 3248 ∧ splitQ 17 (joinB fs) 0 0 = (0, fs) := by
  have h := hr
  rw [runQ_right _ 0 0 (by omega) (by omega), Bool.and_eq_true, decide_eq_true_eq] at h
  have h16 : fs.length ≤ 16 := by omega
  have hsm := run_small fs 0 0 (by omega) hr
  have hin := slq_in hs
  have hjl := joinB_len hsm fs.length (Nat.le_refl _)
  rw [List.take_length] at hjl
  exact ⟨h16, h.2, hsm, joinB_in hsm hin, by omega, split_join fs 0 16 0 hr (fun _ _ => by omega) h16 hin⟩

set_option maxRecDepth 20000 in
set_option maxHeartbeats 4000000 in
theorem joinl_ok (ads : List Addr) (a : Option Addr) (cap : Nat) (fs : List (Int × List Int)) (len : Nat) (hlen : fs.length = len) (tag : Int) (w : World) (V : St ads w) (hs : SlQ (.slice a len cap) fs w) (hr : runQ 0 0 fs = true) :
    Calls Tryd.prog 3 #[.slice a len cap, .int .i64 tag] w fun e w' => e = .returned (.bool true) ∧ Kp w w' := by
  have h14 : ads.length = 14 := V.len
  obtain ⟨h16, hrq, hsm, hjin, hjl, hsp⟩ := row_facts hs hr
  have hw4 : ∀ f ∈ fs, f.2.length ≤ 400 := fun f hf => by have := (hsm f hf).2.2; omega
  have hwide : wideQ fs = false := by
    unfold wideQ
    rw [List.any_eq_false]
    intro f hf
    have := hw4 f hf
    simp; omega
  obtain ⟨ds, ok, hfv⟩ := findV fs tag
  have HA := Lib.hid (alive_any ads w V)
  have hbig := fun w1 (hk : Kp w w1) => big_any a cap fs len hlen (by omega) w1 (hs.kp hk)
  simp only [hwide] at hbig
  have HB := Lib.hid hbig
  have HF1 := Lib.hid (fun w1 (hk : Kp w w1) => (find_any a cap fs len hlen (by omega) tag w1 hw4 (hs.kp hk)).mono fun e w' ⟨h1, h2⟩ => And.intro (hfv e w' h1) h2)
  have HF2 := Lib.hid (fun w1 (hk : Kp w w1) => (refFind_any a cap fs len hlen (by omega) tag w1 (hs.kp hk)).mono fun e w' ⟨h1, h2⟩ => And.intro (hfv e w' h1) h2)
  have hj := fun w1 (hk : Kp w w1) => join_ok ads a cap fs len hlen (by omega) w1 (V.below hk) (hs.kp hk) hr
  have hright := fun w1 (hk : Kp w w1) => refRight_any a cap fs len hlen (by omega) w1 (hs.kp hk)
  simp only [hrq] at hright
  have HR := Lib.hid hright
  have hrj := fun w1 (hk : Kp w w1) => refJoin_any a cap fs len hlen (by omega) hsm w1 (hs.kp hk)
  have HSm := Lib.hid (fun w1 (hk : Kp w w1) (a1 : Option Addr) (c1 : Nat) (q1 : SlQ (.slice a1 len c1) fs w1) => refSame_true a1 a c1 cap fs len hlen (by omega) w1 q1 (hs.kp hk))
  obtain ⟨jb, hjb⟩ : ∃ jb, joinB fs = jb := ⟨_, rfl⟩
  rw [hjb] at hjin hjl hsp
  simp only [hjb] at hj hrj
  obtain ⟨jl, hjle⟩ : ∃ jl, jb.length = jl := ⟨_, rfl⟩
  simp only [hjle] at hj
  have hspl := fun w1 (hk : Kp w w1) (a1 : Option Addr) (c1 : Nat) (hle : jl ≤ c1) (q1 : SlB (.slice a1 jl c1) jb w1) => split_any ads (by omega) (by omega) a1 c1 jb jl hjle (by omega) hle hjin w1 (V.below hk) q1
  simp only [hsp] at hspl
  have HSP : Hid (∀ w1, Kp w w1 → ∀ (a1 : Option Addr) (c1 : Nat), jl ≤ c1 → SlB (.slice a1 jl c1) jb w1 → Calls Tryd.prog 16 #[.slice a1 jl c1] w1 fun e w' => ∃ a2 c2, e = .returned (.tuple #[.slice a2 len c2, .nilIface]) ∧ SlQ (.slice a2 len c2) fs w' ∧ Kp w1 w') := Lib.hid fun w1 hk a1 c1 hle q1 => (hspl w1 hk a1 c1 hle q1).mono fun e w' ⟨h, hk2⟩ => by
    rcases h with ⟨_, v, rfl, hq⟩ | ⟨h, _⟩ | ⟨h, _⟩
    · obtain ⟨a2, c2, rfl⟩ := hq.form
      rw [hlen] at hq ⊢
      exact ⟨a2, c2, rfl, hq, hk2⟩
    · cases h
    · cases h
  have HJ := Lib.hid hj
  have HRJ := Lib.hid hrj
  obtain ⟨dl, hdl⟩ : ∃ dl, ds.length = dl := ⟨_, rfl⟩
  simp only [hdl] at HF1 HF2
  obtain ⟨D, hD⟩ : ∃ D, strOfNums ds = D := ⟨_, rfl⟩
  have HD := Lib.hid hD
  obtain ⟨ss, hss⟩ : ∃ ss, strOfNums jb = ss := ⟨_, rfl⟩
  have HSS := Lib.hid hss
  have q1 : (D.toList == D.toList) = true := by simp
  have q2 : (ok != ok) = false := by simp
  have q3 : (ss.toList == ss.toList) = true := by simp
  clear V hs h14 hlen hw4 hr hwide hfv hbig hj hright hrj hspl hdl hD hss hjb hjle hjin hjl hsp hsm hrq
  go_enter Tryd.func3, Tryd.ntmps3
  go_wp2_with (first | (go_at_call 9; (with_reducible refine HA.out.mono ?_); rintro e w1 ⟨rfl, hw1⟩; have K1 := Lib.hid hw1; clear hw1) | (go_at_call 10; (with_reducible refine (HB.out _ K1.out).mono ?_); rintro e w2 ⟨rfl, hw2⟩; have K2 := Lib.hid (Kp.trans K1.out hw2); clear hw2) | (go_at_call 11; (with_reducible refine (HF1.out _ K2.out).mono ?_); rintro e w3 ⟨⟨a3, c3, rfl, s3⟩, hw3⟩; have K3 := Lib.hid (Kp.trans K2.out hw3); have S3 := Lib.hid s3; clear hw3 s3) | (go_at_call 12; (with_reducible refine (HF2.out _ K3.out).mono ?_); rintro e w4 ⟨⟨a4, c4, rfl, s4⟩, hw4⟩; have K4 := Lib.hid (Kp.trans K3.out hw4); have cx4 := conv_slb (S3.out.kp hw4); rw [HD.out] at cx4; have cy4 := conv_slb s4; rw [HD.out] at cy4; clear hw4 s4) | (go_at_call 13; (with_reducible refine (HJ.out _ K4.out).mono ?_); rintro e w5 ⟨v5, rfl, ho5, hw5⟩; have hfm := own_le ho5; obtain ⟨a5, c5, rfl, hle5⟩ := hfm; have K5 := Lib.hid (Kp.trans K4.out hw5); have S5 := Lib.hid (own_slb ho5); have L5 := Lib.hid hle5; clear ho5 hw5 hle5) | (go_at_call 14; (with_reducible refine (HR.out _ K5.out).mono ?_); rintro e w6 ⟨rfl, hw6⟩; have K6 := Lib.hid (Kp.trans K5.out hw6); have S6 := Lib.hid (S5.out.kp hw6); clear hw6) | (go_at_call 16; (with_reducible refine (HSP.out _ K6.out _ _ L5.out S6.out).mono ?_); rintro e w7 ⟨a7, c7, rfl, q7, hw7⟩; have K7 := Lib.hid (Kp.trans K6.out hw7); have R7 := Lib.hid (S6.out.kp hw7); have Q7 := Lib.hid q7; have cv7 := conv_slb (R7.out.kp (Kp.refl w7).drew); rw [HSS.out] at cv7; clear hw7 q7))
  have KD := Lib.hid (Kp.trans K7.out (Kp.refl w7).drew)
  refine wp_region_any (by kernel_rfl) ?_
  change wpAny _ _ _ _ _ _ _ (World.drew _)
  refine wpAny_take (i := 0) (v := ?_) rfl (by kernel_rfl) (by kernel_rfl) (by kernel_rfl) (fun _ _ _ h => h) (Or.inl ⟨by rfl, ?_⟩) ?_
  rotate_left
  · intro w; go_simp; try with_reducible rfl
  go_simp
  refine wpAny_take (i := 1) (v := ?_) rfl (by kernel_rfl) (by kernel_rfl) (by kernel_rfl) (fun _ _ _ h => h) (Or.inl ⟨by rfl, ?_⟩) ?_
  rotate_left
  · intro w; go_simp; try with_reducible rfl
  go_simp
  refine wpAny_take (i := 2) (v := ?_) rfl (by kernel_rfl) (by kernel_rfl) (by kernel_rfl) (fun _ _ _ h => h) (Or.inl ⟨by rfl, ?_⟩) ?_
  rotate_left
  · intro w; go_simp; try with_reducible rfl
  go_simp
  refine wpAny_take (i := 3) (v := ?_) rfl (by kernel_rfl) (by kernel_rfl) (by kernel_rfl) (fun _ _ _ h => h) (Or.inl ⟨by rfl, ?_⟩) ?_
  rotate_left
  · intro w; go_simp; try with_reducible rfl
  go_simp
  refine wpAny_take (i := 5) (v := ?_) rfl (by kernel_rfl) (by kernel_rfl) (by kernel_rfl) (fun _ _ _ h => h) (Or.inl ⟨by rfl, ?_⟩) ?_
  rotate_left
  · intro w; go_simp; try with_reducible rfl
  go_simp
  refine wpAny_ready (rs := [4, 6]) (by kernel_rfl) (by simp) ?_
  refine AllReady.cons rfl (fun K hK => ?_) (AllReady.cons rfl (fun K hK => ?_) AllReady.nil)
  · go_simp
    refine hK _ _ ?_
    clear hK K
    refine wpAny_ready (rs := [6]) (by kernel_rfl) (by simp) ?_
    refine AllReady.cons rfl (fun K hK => ?_) AllReady.nil
    go_simp
    go_wp2_with (go_at_call 17; (with_reducible refine (HRJ.out _ KD.out).mono ?_); rintro e w8 ⟨v8, rfl, s8, hk8⟩; have cv8 := conv_slb s8; rw [HSS.out] at cv8; have cw8 := conv_slb (R7.out.kp (Kp.trans (Kp.refl w7).drew hk8)); rw [HSS.out] at cw8; have K8 := Lib.hid (Kp.trans KD.out hk8); have Q8 := Lib.hid (Q7.out.kp (Kp.trans (Kp.refl w7).drew hk8)); clear s8 hk8)
    refine wpAny_ready (rs := [7]) (by kernel_rfl) (by simp) ?_
    refine AllReady.cons rfl (fun K hK => ?_) AllReady.nil
    go_simp
    refine hK _ _ ?_
    clear hK K
    refine wpAny_take (i := 8) (v := ?_) rfl (by kernel_rfl) (by kernel_rfl) (by kernel_rfl) (fun _ _ _ h => h) (Or.inl ⟨by rfl, ?_⟩) ?_
    rotate_left
    · intro w; go_simp; try with_reducible rfl
    go_simp
    refine wpAny_take (i := 9) (v := ?_) rfl (by kernel_rfl) (by kernel_rfl) (by kernel_rfl) (fun _ _ _ h => h) (Or.inl ⟨by rfl, ?_⟩) ?_
    rotate_left
    · intro w; go_simp; try with_reducible rfl
    go_simp
    refine wpAny_take (i := 10) (v := ?_) rfl (by kernel_rfl) (by kernel_rfl) (by kernel_rfl) (fun _ _ _ h => h) (Or.inl ⟨by rfl, ?_⟩) ?_
    rotate_left
    · intro w; go_simp; try with_reducible rfl
    go_simp
    refine wpAny_take (i := 11) (v := ?_) rfl (by kernel_rfl) (by kernel_rfl) (by kernel_rfl) (fun _ _ _ h => h) (Or.inl ⟨by rfl, ?_⟩) ?_
    rotate_left
    · intro w; go_simp; try with_reducible rfl
    go_simp
    refine wpAny_take (i := 12) (v := ?_) rfl (by kernel_rfl) (by kernel_rfl) (by kernel_rfl) (fun _ _ _ h => h) (Or.inl ⟨by rfl, ?_⟩) ?_
    rotate_left
    · intro w; go_simp; try with_reducible rfl
    go_simp
    refine wpAny_take (i := 13) (v := ?_) rfl (by kernel_rfl) (by kernel_rfl) (by kernel_rfl) (fun _ _ _ h => h) (Or.inl ⟨by rfl, ?_⟩) ?_
    rotate_left
    · intro w; go_simp; try with_reducible rfl
    go_simp
    refine wpAny_take (i := 14) (v := ?_) rfl (by kernel_rfl) (by kernel_rfl) (by kernel_rfl) (fun _ _ _ h => h) (Or.inl ⟨by rfl, ?_⟩) ?_
    rotate_left
    · intro w; go_simp; try with_reducible rfl
    go_simp
    refine wpAny_take (i := 15) (v := ?_) rfl (by kernel_rfl) (by kernel_rfl) (by kernel_rfl) (fun _ _ _ h => h) (Or.inl ⟨by rfl, ?_⟩) ?_
    rotate_left
    · intro w; go_simp; try with_reducible rfl
    go_simp
    refine wpAny_take (i := 16) (v := ?_) rfl (by kernel_rfl) (by kernel_rfl) (by kernel_rfl) (fun _ _ _ h => h) (Or.inl ⟨by rfl, ?_⟩) ?_
    rotate_left
    · intro w; go_simp; try with_reducible rfl
    go_simp
    refine wpAny_ready (rs := [17]) (by kernel_rfl) (by simp) ?_
    refine AllReady.cons rfl (fun K hK => ?_) AllReady.nil
    go_simp
    go_wp2_with (go_at_call 18; (with_reducible refine (HSm.out _ K8.out _ _ Q8.out).mono ?_); rintro e w9 ⟨rfl, hk9⟩; have K9 := Lib.hid (Kp.trans K8.out hk9); clear hk9)
    refine wpAny_take (i := 18) (v := ?_) rfl (by kernel_rfl) (by kernel_rfl) (by kernel_rfl) (fun _ _ _ h => h) (Or.inl ⟨by rfl, ?_⟩) ?_
    rotate_left
    · intro w; go_simp; try with_reducible rfl
    go_simp
    refine wpAny_take (i := 19) (v := ?_) rfl (by kernel_rfl) (by kernel_rfl) (by kernel_rfl) (fun _ _ _ h => h) (Or.inl ⟨by rfl, ?_⟩) ?_
    rotate_left
    · intro w; go_simp; try with_reducible rfl
    go_simp
    refine wpAny_done (by kernel_rfl) ?_ _
    go_wp2
    go_ret
    exact ⟨by simp, K9.out⟩
  · go_simp
    go_wp2_with (go_at_call 17; (with_reducible refine (HRJ.out _ KD.out).mono ?_); rintro e w8 ⟨v8, rfl, s8, hk8⟩; have cv8 := conv_slb s8; rw [HSS.out] at cv8; have cw8 := conv_slb (R7.out.kp (Kp.trans (Kp.refl w7).drew hk8)); rw [HSS.out] at cw8; have K8 := Lib.hid (Kp.trans KD.out hk8); have Q8 := Lib.hid (Q7.out.kp (Kp.trans (Kp.refl w7).drew hk8)); clear s8 hk8)
    refine wpAny_ready (rs := [4, 7]) (by kernel_rfl) (by simp) ?_
    refine AllReady.cons rfl (fun K hK => ?_) (AllReady.cons rfl (fun K hK => ?_) AllReady.nil)
    · go_simp
      refine hK _ _ ?_
      clear hK K
      refine wpAny_ready (rs := [7]) (by kernel_rfl) (by simp) ?_
      refine AllReady.cons rfl (fun K hK => ?_) AllReady.nil
      go_simp
      refine hK _ _ ?_
      clear hK K
      refine wpAny_take (i := 8) (v := ?_) rfl (by kernel_rfl) (by kernel_rfl) (by kernel_rfl) (fun _ _ _ h => h) (Or.inl ⟨by rfl, ?_⟩) ?_
      rotate_left
      · intro w; go_simp; try with_reducible rfl
      go_simp
      refine wpAny_take (i := 9) (v := ?_) rfl (by kernel_rfl) (by kernel_rfl) (by kernel_rfl) (fun _ _ _ h => h) (Or.inl ⟨by rfl, ?_⟩) ?_
      rotate_left
      · intro w; go_simp; try with_reducible rfl
      go_simp
      refine wpAny_take (i := 10) (v := ?_) rfl (by kernel_rfl) (by kernel_rfl) (by kernel_rfl) (fun _ _ _ h => h) (Or.inl ⟨by rfl, ?_⟩) ?_
      rotate_left
      · intro w; go_simp; try with_reducible rfl
      go_simp
      refine wpAny_take (i := 11) (v := ?_) rfl (by kernel_rfl) (by kernel_rfl) (by kernel_rfl) (fun _ _ _ h => h) (Or.inl ⟨by rfl, ?_⟩) ?_
      rotate_left
      · intro w; go_simp; try with_reducible rfl
      go_simp
      refine wpAny_take (i := 12) (v := ?_) rfl (by kernel_rfl) (by kernel_rfl) (by kernel_rfl) (fun _ _ _ h => h) (Or.inl ⟨by rfl, ?_⟩) ?_
      rotate_left
      · intro w; go_simp; try with_reducible rfl
      go_simp
      refine wpAny_take (i := 13) (v := ?_) rfl (by kernel_rfl) (by kernel_rfl) (by kernel_rfl) (fun _ _ _ h => h) (Or.inl ⟨by rfl, ?_⟩) ?_
      rotate_left
      · intro w; go_simp; try with_reducible rfl
      go_simp
      refine wpAny_take (i := 14) (v := ?_) rfl (by kernel_rfl) (by kernel_rfl) (by kernel_rfl) (fun _ _ _ h => h) (Or.inl ⟨by rfl, ?_⟩) ?_
      rotate_left
      · intro w; go_simp; try with_reducible rfl
      go_simp
      refine wpAny_take (i := 15) (v := ?_) rfl (by kernel_rfl) (by kernel_rfl) (by kernel_rfl) (fun _ _ _ h => h) (Or.inl ⟨by rfl, ?_⟩) ?_
      rotate_left
      · intro w; go_simp; try with_reducible rfl
      go_simp
      refine wpAny_take (i := 16) (v := ?_) rfl (by kernel_rfl) (by kernel_rfl) (by kernel_rfl) (fun _ _ _ h => h) (Or.inl ⟨by rfl, ?_⟩) ?_
      rotate_left
      · intro w; go_simp; try with_reducible rfl
      go_simp
      refine wpAny_ready (rs := [17]) (by kernel_rfl) (by simp) ?_
      refine AllReady.cons rfl (fun K hK => ?_) AllReady.nil
      go_simp
      go_wp2_with (go_at_call 18; (with_reducible refine (HSm.out _ K8.out _ _ Q8.out).mono ?_); rintro e w9 ⟨rfl, hk9⟩; have K9 := Lib.hid (Kp.trans K8.out hk9); clear hk9)
      refine wpAny_take (i := 18) (v := ?_) rfl (by kernel_rfl) (by kernel_rfl) (by kernel_rfl) (fun _ _ _ h => h) (Or.inl ⟨by rfl, ?_⟩) ?_
      rotate_left
      · intro w; go_simp; try with_reducible rfl
      go_simp
      refine wpAny_take (i := 19) (v := ?_) rfl (by kernel_rfl) (by kernel_rfl) (by kernel_rfl) (fun _ _ _ h => h) (Or.inl ⟨by rfl, ?_⟩) ?_
      rotate_left
      · intro w; go_simp; try with_reducible rfl
      go_simp
      refine wpAny_done (by kernel_rfl) ?_ _
      go_wp2
      go_ret
      exact ⟨by simp, K9.out⟩
    · go_simp
      refine hK _ _ ?_
      clear hK K
      refine wpAny_ready (rs := [4]) (by kernel_rfl) (by simp) ?_
      refine AllReady.cons rfl (fun K hK => ?_) AllReady.nil
      go_simp
      refine hK _ _ ?_
      clear hK K
      refine wpAny_take (i := 8) (v := ?_) rfl (by kernel_rfl) (by kernel_rfl) (by kernel_rfl) (fun _ _ _ h => h) (Or.inl ⟨by rfl, ?_⟩) ?_
      rotate_left
      · intro w; go_simp; try with_reducible rfl
      go_simp
      refine wpAny_take (i := 9) (v := ?_) rfl (by kernel_rfl) (by kernel_rfl) (by kernel_rfl) (fun _ _ _ h => h) (Or.inl ⟨by rfl, ?_⟩) ?_
      rotate_left
      · intro w; go_simp; try with_reducible rfl
      go_simp
      refine wpAny_take (i := 10) (v := ?_) rfl (by kernel_rfl) (by kernel_rfl) (by kernel_rfl) (fun _ _ _ h => h) (Or.inl ⟨by rfl, ?_⟩) ?_
      rotate_left
      · intro w; go_simp; try with_reducible rfl
      go_simp
      refine wpAny_take (i := 11) (v := ?_) rfl (by kernel_rfl) (by kernel_rfl) (by kernel_rfl) (fun _ _ _ h => h) (Or.inl ⟨by rfl, ?_⟩) ?_
      rotate_left
      · intro w; go_simp; try with_reducible rfl
      go_simp
      refine wpAny_take (i := 12) (v := ?_) rfl (by kernel_rfl) (by kernel_rfl) (by kernel_rfl) (fun _ _ _ h => h) (Or.inl ⟨by rfl, ?_⟩) ?_
      rotate_left
      · intro w; go_simp; try with_reducible rfl
      go_simp
      refine wpAny_take (i := 13) (v := ?_) rfl (by kernel_rfl) (by kernel_rfl) (by kernel_rfl) (fun _ _ _ h => h) (Or.inl ⟨by rfl, ?_⟩) ?_
      rotate_left
      · intro w; go_simp; try with_reducible rfl
      go_simp
      refine wpAny_take (i := 14) (v := ?_) rfl (by kernel_rfl) (by kernel_rfl) (by kernel_rfl) (fun _ _ _ h => h) (Or.inl ⟨by rfl, ?_⟩) ?_
      rotate_left
      · intro w; go_simp; try with_reducible rfl
      go_simp
      refine wpAny_take (i := 15) (v := ?_) rfl (by kernel_rfl) (by kernel_rfl) (by kernel_rfl) (fun _ _ _ h => h) (Or.inl ⟨by rfl, ?_⟩) ?_
      rotate_left
      · intro w; go_simp; try with_reducible rfl
      go_simp
      refine wpAny_take (i := 16) (v := ?_) rfl (by kernel_rfl) (by kernel_rfl) (by kernel_rfl) (fun _ _ _ h => h) (Or.inl ⟨by rfl, ?_⟩) ?_
      rotate_left
      · intro w; go_simp; try with_reducible rfl
      go_simp
      refine wpAny_ready (rs := [17]) (by kernel_rfl) (by simp) ?_
      refine AllReady.cons rfl (fun K hK => ?_) AllReady.nil
      go_simp
      go_wp2_with (go_at_call 18; (with_reducible refine (HSm.out _ K8.out _ _ Q8.out).mono ?_); rintro e w9 ⟨rfl, hk9⟩; have K9 := Lib.hid (Kp.trans K8.out hk9); clear hk9)
      refine wpAny_take (i := 18) (v := ?_) rfl (by kernel_rfl) (by kernel_rfl) (by kernel_rfl) (fun _ _ _ h => h) (Or.inl ⟨by rfl, ?_⟩) ?_
      rotate_left
      · intro w; go_simp; try with_reducible rfl
      go_simp
      refine wpAny_take (i := 19) (v := ?_) rfl (by kernel_rfl) (by kernel_rfl) (by kernel_rfl) (fun _ _ _ h => h) (Or.inl ⟨by rfl, ?_⟩) ?_
      rotate_left
      · intro w; go_simp; try with_reducible rfl
      go_simp
      refine wpAny_done (by kernel_rfl) ?_ _
      go_wp2
      go_ret
      exact ⟨by simp, K9.out⟩
end Go.Proofs.YtfealdllicicnaaDoor
