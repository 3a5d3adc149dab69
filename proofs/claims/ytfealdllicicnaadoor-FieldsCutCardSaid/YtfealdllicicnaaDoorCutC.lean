/-
  FieldsCut's WALKS (own work) at two right rows.
-/
import Derived.Test.YtfealdllicicnaaDoorCutA
namespace Go.Proofs.YtfealdllicicnaaDoor
open Go.RowKit Go.ChangeShapes Go.WideShapes

set_option maxRecDepth 20000 in
set_option maxHeartbeats 4000000 in
theorem cut_3a (ads : List Addr) (aa : Option Addr) (ca : Nat) (fa : List (Int × List Int)) (la : Nat) (hla : fa.length = la) (ab : Option Addr) (cb : Nat) (fb : List (Int × List Int)) (lb : Nat) (hlb : fb.length = lb) (cut : Int) (w : World) (V : St ads w) (qa : SlQ (.slice aa la ca) fa w) (qb : SlQ (.slice ab lb cb) fb w) (hra : runQ 0 0 fa = true) (hrb : runQ 0 0 fb = true) (hla0 : 0 < fa.length) (hlb0 : 0 < fb.length) (hg : (fa[fa.length - 1]).1 < (fb[0]).1) (hsum : fa.length + fb.length ≤ 16) (M : Nat) (hM : M < (joinB fa).length) (hcut : wrap64 ((IntKind.u64.wrap cut).tmod ((joinB fa).length : Nat)) = (M : Int)) (hT : (splitQ 17 ((joinB fa).take M) 0 0).1 = 0) : Calls Tryd.prog 7 #[.slice aa la ca, .slice ab lb cb, .int .i64 cut] w fun e w' => e = .returned (.bool true) ∧ Kp w w' := by
  have h14 : ads.length = 14 := V.len
  obtain ⟨a16, -, sma, ina, jla, -⟩ := row_facts qa hra
  obtain ⟨b16, -, smb, inb, jlb, -⟩ := row_facts qb hrb
  have smab : Small (fa ++ fb) := fun f hf => (List.mem_append.1 hf).elim (sma f) (smb f)
  have gin : ∀ g ∈ fa ++ fb, InB g.2 := fun g hg => (List.mem_append.1 hg).elim (slq_in qa g) (slq_in qb g)
  have inab : InB (joinB (fa ++ fb)) := joinB_in smab gin
  have hrt := run_two hra hrb
  have hd0 : (fb.map Prod.fst).headD 0 = (fb[0]).1 := by
    cases fb with
    | nil => simp at hlb0
    | cons g t => rfl
  have hR : runQ 0 0 (fa ++ fb) = true := by
    rw [hrt]
    exact decide_eq_true ⟨.inr (.inr (by rw [lastT_at fa 0 hla0, hd0]; exact hg)), hsum⟩
  have h16 : (fa ++ fb).length ≤ 16 := by rw [List.length_append]; exact hsum
  have hsp := split_join (fa ++ fb) 0 16 0 hR (fun _ _ => by omega) h16 gin
  have hjz : (joinB (fa ++ fb)).length = (joinB fa).length + (joinB fb).length := by rw [joinB_append, List.length_append]
  have bga : bigV fa = false := small_big sma a16
  have bgb : bigV fb = false := small_big smb b16
  have HA := Lib.hid (alive_any ads w V)
  have h1 := fun w1 (hk : Kp w w1) => big_of aa ca fa la hla w1 (qa.kp hk)
  have h2 := fun w1 (hk : Kp w w1) => big_of ab cb fb lb hlb w1 (qb.kp hk)
  simp only [bga] at h1
  simp only [bgb] at h2
  have HB1 := Lib.hid h1
  have HB2 := Lib.hid h2
  have jo := fun w1 (hk : Kp w w1) => join_ok ads aa ca fa la hla (by omega) w1 (V.below hk) (qa.kp hk) hra
  have ko := fun w1 (hk : Kp w w1) => join_ok ads ab cb fb lb hlb (by omega) w1 (V.below hk) (qb.kp hk) hrb
  have hspl := fun w1 (hk : Kp w w1) (a1 : Option Addr) (c1 : Nat) (hle : (joinB fa).length + (joinB fb).length ≤ c1) (q1 : SlB (.slice a1 ((joinB fa).length + (joinB fb).length) c1) (joinB (fa ++ fb)) w1) => split_any ads (by omega) (by omega) a1 c1 (joinB (fa ++ fb)) _ hjz (by omega) hle inab w1 (V.below hk) q1
  have hq : ∀ w1, Kp w w1 → SlQ (.slice aa la ca) fa w1 ∧ SlQ (.slice ab lb cb) fb w1 := fun w1 hk => ⟨qa.kp hk, qb.kp hk⟩
  simp only [hsp] at hspl
  have HSP : Hid (∀ w1, Kp w w1 → ∀ (a1 : Option Addr) (c1 : Nat), (joinB fa).length + (joinB fb).length ≤ c1 → SlB (.slice a1 ((joinB fa).length + (joinB fb).length) c1) (joinB (fa ++ fb)) w1 → Calls Tryd.prog 16 #[.slice a1 ((joinB fa).length + (joinB fb).length) c1] w1 fun e w' => ∃ a2 c2, e = .returned (.tuple #[.slice a2 (la + lb) c2, .nilIface]) ∧ SlQ (.slice a2 (la + lb) c2) (fa ++ fb) w' ∧ Kp w1 w') := Lib.hid fun w1 hk a1 c1 hle q1 => (hspl w1 hk a1 c1 hle q1).mono fun e w' ⟨h, hk2⟩ => by
    rcases h with ⟨_, v, rfl, hqq⟩ | ⟨h, _⟩ | ⟨h, _⟩
    · obtain ⟨a2, c2, rfl⟩ := hqq.form
      rw [List.length_append, hla, hlb] at hqq ⊢
      exact ⟨a2, c2, rfl, hqq, hk2⟩
    · cases h
    · cases h
  have hcs := cut_short ina M hM
  have hsw := fun w1 (hk : Kp w w1) (g c : Nat) (hle : M ≤ c) (q1 : SlB (.slice (some ⟨g, 0, none⟩) M c) ((joinB fa).take M) w1) => split_any ads (by omega) (by omega) (some ⟨g, 0, none⟩) c ((joinB fa).take M) M (by rw [List.length_take]; omega) (by omega) hle (fun x hx => ina x (List.mem_of_mem_take hx)) w1 (V.below hk) q1
  have hkl := hcs hT
  obtain ⟨kl, hkle⟩ : ∃ kl, (splitQ 17 ((joinB fa).take M) 0 0).2.length = kl := ⟨_, rfl⟩
  rw [hkle, hla] at hkl
  have HSW : Hid (∀ w1, Kp w w1 → ∀ (g c : Nat), M ≤ c → SlB (.slice (some ⟨g, 0, none⟩) M c) ((joinB fa).take M) w1 → Calls Tryd.prog 16 #[.slice (some ⟨g, 0, none⟩) M c] w1 fun e w' => ∃ a2 c2, e = .returned (.tuple #[.slice a2 kl c2, .nilIface]) ∧ Kp w1 w') := Lib.hid fun w1 hk g c hle q1 => (hsw w1 hk g c hle q1).mono fun e w' ⟨h, hk2⟩ => by
    rcases h with ⟨_, v, rfl, hqq⟩ | ⟨h, _⟩ | ⟨h, _⟩
    · obtain ⟨a2, c2, rfl⟩ := hqq.form
      rw [hkle]
      exact ⟨a2, c2, rfl, hk2⟩
    · omega
    · omega
  obtain ⟨kli, hkli⟩ : ∃ kli : Int, (kl : Int) = kli := ⟨_, rfl⟩
  have HSM := Lib.hid (fun w1 (a1 a2 : Option Addr) (c1 c2 : Nat) (q1 : SlQ (.slice a1 (la + lb) c1) (fa ++ fb) w1) (q2 : SlQ (.slice a2 (la + lb) c2) (fa ++ fb) w1) => refSame_true a1 a2 c1 c2 (fa ++ fb) (la + lb) (by rw [List.length_append, hla, hlb]) (by omega) w1 q1 q2)
  obtain ⟨ba, oa, rfl, ca0, -⟩ := qa.at (fa.length - 1) (by omega)
  obtain ⟨bb, ob, rfl, cb0, -⟩ := qb.at 0 hlb0
  rw [Nat.zero_mul, Nat.add_zero] at cb0
  obtain ⟨ta, hta⟩ : ∃ ta, (fa[fa.length - 1]).1 = ta := ⟨_, rfl⟩
  obtain ⟨tb, htb⟩ : ∃ tb, (fb[0]).1 = tb := ⟨_, rfl⟩
  rw [hta] at ca0 hg
  rw [htb] at cb0 hg
  have gb : decide (ta < tb) = true := decide_eq_true hg
  rw [hla] at ca0
  obtain ⟨ga, ga1, ga2, ga3, ga4⟩ := slq_cells qa
  obtain ⟨gb', gb1, gb2, gb3, gb4⟩ := slq_cells qb
  have gla : ga.length = la := by have := congrArg List.length ga1; rw [List.length_map, hla] at this; exact this
  have glb : gb'.length = lb := by have := congrArg List.length gb1; rw [List.length_map, hlb] at this; exact this
  have gda : ∀ g ∈ ga, ∃ a' n' c', g.2.2 = .slice a' n' c' := fun g hg => by obtain ⟨a', c', h, _⟩ := ga2 g hg; exact ⟨a', _, c', h⟩
  have gdb : ∀ g ∈ gb', ∃ a' n' c', g.2.2 = .slice a' n' c' := fun g hg => by obtain ⟨a', c', h, _⟩ := gb2 g hg; exact ⟨a', _, c', h⟩
  obtain ⟨ja, hja⟩ : ∃ ja, joinB fa = ja := ⟨_, rfl⟩
  obtain ⟨jb, hjb⟩ : ∃ jb, joinB fb = jb := ⟨_, rfl⟩
  obtain ⟨jz, hjze⟩ : ∃ jz, joinB (fa ++ fb) = jz := ⟨_, rfl⟩
  have hz : jz = ja ++ jb := by rw [← hjze, ← hja, ← hjb, joinB_append]
  rw [hja] at jla
  rw [hjb] at jlb
  simp only [hja, hjb, hjze] at jo ko HSP HSW
  have hx0 : 0 < ja.length := by rw [← hja]; have := (joinB_zero (fs := fa)); omega
  rw [hja] at hM hcut
  obtain ⟨xl, hxl⟩ : ∃ xl, ja.length = xl := ⟨_, rfl⟩
  obtain ⟨yl, hyl⟩ : ∃ yl, jb.length = yl := ⟨_, rfl⟩
  simp only [hxl] at jo HSP hx0 jla hM hcut
  simp only [hyl] at ko HSP jlb
  have HJ := Lib.hid jo
  have HKo := Lib.hid ko
  have HZ := Lib.hid hz
  have HQ := Lib.hid hq
  have HLA := Lib.hid hla
  have HLB := Lib.hid hlb
  have hl40 : la ≤ 16 ∧ lb ≤ 16 := by omega
  obtain ⟨lai, hlai⟩ : ∃ lai : Int, (la : Int) = lai := ⟨_, rfl⟩
  obtain ⟨lbi, hlbi⟩ : ∃ lbi : Int, (lb : Int) = lbi := ⟨_, rfl⟩
  have ha0 : (lai == 0) = false := by simp; omega
  have hb0 : (lbi == 0) = false := by simp; omega
  have hlb1 : 0 < lbi := by omega
  obtain ⟨pj, hpj⟩ : ∃ pj, lai - 1 = pj := ⟨_, rfl⟩
  have hp0 : 0 ≤ pj := by omega
  have hp1 : pj < lai := by omega
  have hpe : la - 1 = pj.toNat := by omega
  rw [hpe] at ca0
  have CA := Lib.hid ca0
  have CB := Lib.hid cb0
  have hS : decide (lai + lbi ≤ 16) = true := decide_eq_true (by omega)
  have hbd : 0 ≤ lai ∧ lai ≤ 16 ∧ 0 ≤ lbi ∧ lbi ≤ 16 := by omega
  obtain ⟨xi, hxi⟩ : ∃ xi : Int, (xl : Int) = xi := ⟨_, rfl⟩
  have hx1 : (xi == 0) = false := by simp; omega
  have hxb : 0 < xi ∧ xi ≤ 3248 := by omega
  rw [hxi] at hcut
  obtain ⟨mm, hmm⟩ : ∃ mm : Int, (M : Int) = mm := ⟨_, rfl⟩
  rw [hmm] at hcut
  have hxn : xi ≠ 0 := by omega
  have HMX := Lib.hid hM
  have hkl2 : kli < lai := by omega
  have HX0 := Lib.hid hx0
  have HBX : Hid (xl ≤ 3248 ∧ yl ≤ 3248) := Lib.hid (by omega)
  have HL40 := Lib.hid hl40
  clear V qa qb h14 a16 b16 sma smb ina inb smab gin inab hrt hR hsp hjz bga bgb h1 h2 jo ko hspl hq hja hjb hjze hz hxl hyl hra hrb hla hlb jla jlb hla0 hlb0 hta htb hg hd0 ca0 cb0 hpe hx0 hsum h16 hcs hsw hT hM hkl hkle hl40
  have GL := Lib.hid gla
  have GM := Lib.hid glb
  have GA1 := Lib.hid ga1
  have GA2 := Lib.hid ga2
  have GA3 := Lib.hid ga3
  have GA4 := Lib.hid ga4
  have GB1 := Lib.hid gb1
  have GB2 := Lib.hid gb2
  have GB3 := Lib.hid gb3
  have GB4 := Lib.hid gb4
  have GDA := Lib.hid gda
  have GDB := Lib.hid gdb
  clear gla glb ga1 ga2 ga3 ga4 gb1 gb2 gb3 gb4 gda gdb
  go_enter Tryd.func7, Tryd.ntmps7
  go_wp2_with (first | (go_at_call 9; (with_reducible refine HA.out.mono ?_); rintro e w1 ⟨rfl, hw1⟩; have K1 := Lib.hid hw1; clear hw1) | (go_at_call 10; (with_reducible refine (HB1.out _ K1.out).mono ?_); rintro e w2 ⟨rfl, hw2⟩; have K2 := Lib.hid (Kp.trans K1.out hw2); clear hw2) | (go_at_call 10; (with_reducible refine (HB2.out _ K2.out).mono ?_); rintro e w3 ⟨rfl, hw3⟩; have K3 := Lib.hid (Kp.trans K2.out hw3); clear hw3) | (go_at_call 13; (with_reducible refine (HJ.out _ K3.out).mono ?_); rintro e w4 ⟨v4, rfl, ho4, hw4⟩; have K4 := Lib.hid (Kp.trans K3.out hw4); have hfm := own_pos ho4 HX0.out; obtain ⟨g4, c4, rfl, hle4⟩ := hfm; have rh := fun w => run_head (b := g4) (off := 0) (c := c4) hmm (Nat.le_of_lt HMX.out) hle4 w; have S4 := Lib.hid (own_slb ho4); have L4 := Lib.hid hle4; clear ho4 hw4 hle4) | (go_at_call 13; (with_reducible refine (HKo.out _ K4.out).mono ?_); rintro e w5 ⟨v5, rfl, ho5, hw5⟩; have hfm := own_le ho5; obtain ⟨a5, c5, rfl, -⟩ := hfm; have S5 := Lib.hid (own_slb ho5); have X5 := Lib.hid (S4.out.kp hw5); have K5 := Lib.hid (Kp.trans K4.out hw5); have OWE := Lib.hid (own_empty w5 5); have KE := Lib.hid (kp_alloc w5 (.cells #[] 5)); have XE := Lib.hid (X5.out.kp KE.out); clear ho5 hw5) | (at_builtin; refine wpList_append_slb _ rfl (.tmp 40) (.tmp 41) rfl w5.heap.size _ _ _ rfl OWE.out (some ⟨g4, 0, none⟩) xl c4 ja rfl XE.out ?d1 ?d2 ?_))
  case d1 => have := HBX.out; omega
  case d2 => exact Below.size KE.out
  rintro v6 w6 ho6 hg6 -
  have o6 : w6.ownsRow w5.heap.size 5 1 v6 xl (ja.map (Value.int .u8)) := by simpa using ho6
  have k6 : Kp w5 w6 := row_kp OWE.out hg6 KE.out
  have OW6 := Lib.hid o6
  have K6 := Lib.hid (Kp.trans K5.out k6)
  have B6 := Lib.hid (Below.size k6)
  have X6 := Lib.hid (X5.out.kp k6)
  have Y6 := Lib.hid (S5.out.kp k6)
  have KL6 := Lib.hid k6
  clear ho6 hg6 o6 k6
  go_wp2_with (at_builtin; refine wpList_append_slb _ rfl (.tmp 42) (.tmp 43) rfl w5.heap.size _ _ _ rfl OW6.out a5 yl c5 jb rfl Y6.out ?d1 ?d2 ?_)
  case d1 => have := HBX.out; omega
  case d2 => exact B6.out
  rintro v7 w7 ho7 hg7 -
  have o7 : w7.ownsRow w5.heap.size 5 1 v7 (xl + yl) (jz.map (Value.int .u8)) := by rw [HZ.out, List.map_append]; first | exact ho7 | simpa using ho7
  have k7 : Kp w5 w7 := row_kp OW6.out hg7 KL6.out
  obtain ⟨a7, c7, rfl, hle7⟩ := own_le o7
  have S7 := Lib.hid (own_slb o7)
  have L7 := Lib.hid hle7
  have K7 := Lib.hid (Kp.trans K5.out k7)
  have X7 := Lib.hid (X5.out.kp k7)
  clear ho7 hg7 o7 k7 hle7
  go_wp2_with ((go_at_call 16; (with_reducible refine (HSP.out _ K7.out _ _ L7.out S7.out).mono ?_); rintro e w8 ⟨a8, c8, rfl, q8, hw8⟩; have K8 := Lib.hid (Kp.trans K7.out hw8); have Q8 := Lib.hid q8; have X8 := Lib.hid (X7.out.kp hw8); have cA := kp_cell K8.out CA.out; have cB := kp_cell K8.out CB.out; clear q8 hw8))
  go_quiet (fail)
  obtain ⟨wd, hwd⟩ : ∃ wd, w8.drewN nq = wd := ⟨_, rfl⟩
  rw [hwd]
  have kd : Kp w8 wd := by rw [← hwd]; exact drewN_kp _ _
  have KD := Lib.hid (Kp.trans K8.out kd)
  have XD := Lib.hid (X8.out.kp kd)
  clear cA cB
  have HMC := Lib.hid (Nat.le_trans (Nat.le_of_lt HMX.out) L4.out)
  have QD := Lib.hid (Q8.out.kp kd)
  have OWF := Lib.hid (own_empty2 wd 63 2)
  have KF := Lib.hid (kp_alloc wd (.cells #[] 63))
  have ca4 := fun ad had j u hj => kp_cell (Kp.trans KD.out KF.out) (GA4.out ad had j u hj)
  have CA4 := Lib.hid ca4
  clear hwd kd ca4
  go_wp2_with (at_builtin; refine wpList_append_slq _ (by kernel_rfl) (.tmp 87) (.tmp 88) rfl wd.heap.size _ _ _ rfl OWF.out (some ⟨ba, oa, none⟩) la ca ga rfl GL.out GDA.out (fun h => by cases h) CA4.out ?e1 ?e2 ?_)

  case e1 => have := HL40.out; omega
  case e2 => exact Below.size KF.out
  rintro v10 w10 ho10 hg10
  have o10 : w10.ownsRow wd.heap.size 63 2 v10 la (ga.flatMap cellQ) := by simpa using ho10
  have k10 : Kp wd w10 := rows_kp OWF.out hg10 KF.out
  have OW10 := Lib.hid o10
  have KD10 := Lib.hid k10
  have cb4 := fun ad had j u hj => kp_cell (Kp.trans KD.out k10) (GB4.out ad had j u hj)
  have CB4 := Lib.hid cb4
  clear ho10 hg10 o10 k10 cb4
  go_wp2_with (at_builtin; refine wpList_append_slq _ (by kernel_rfl) (.tmp 89) (.tmp 90) rfl wd.heap.size _ _ _ rfl OW10.out (some ⟨bb, ob, none⟩) lb cb gb' rfl GM.out GDB.out (fun h => by cases h) CB4.out ?e1 ?e2 ?_)

  case e1 => have := HL40.out; omega
  case e2 => exact Below.size KD10.out
  rintro v11 w11 ho11 hg11
  have k11 : Kp wd w11 := rows_kp OW10.out hg11 KD10.out
  have o11 : w11.ownsRow wd.heap.size 63 2 v11 (la + lb) ((ga ++ gb').flatMap cellQ) := by rw [List.flatMap_append]; first | exact ho11 | simpa using ho11
  have q11 := own_slqD (by have h1 := GL.out; have h2 := GM.out; rw [List.length_append]; omega) o11 (fun g hg => (List.mem_append.1 hg).elim (fun h => (GA2.out g h).kp (Kp.trans KD.out k11)) (fun h => (GB2.out g h).kp (Kp.trans KD.out k11)))
  rw [List.map_append, GA1.out, GB1.out] at q11
  obtain ⟨a11, c11, hv11⟩ := q11.form
  rw [List.length_append, HLA.out, HLB.out] at hv11
  subst hv11
  have K11 := Lib.hid (Kp.trans KD.out k11)
  have X11 := Lib.hid (XD.out.kp k11)
  have Q11 := Lib.hid (QD.out.kp k11)
  have P11 := Lib.hid q11
  clear ho11 hg11 o11 k11 q11
  go_wp2_with (first | (go_at_call 18; (with_reducible refine (HSM.out _ _ _ _ _ Q11.out P11.out).mono ?_); rintro e w12 ⟨rfl, hw12⟩; have K12 := Lib.hid (Kp.trans K11.out hw12); have X12 := Lib.hid (X11.out.kp hw12); clear hw12) | (go_at_call 16; (with_reducible refine (HSW.out _ K12.out g4 c4 HMC.out (slb_take X12.out (Nat.le_of_lt HMX.out))).mono ?_); rintro e w13 ⟨a13, c13, rfl, hw13⟩; have K13 := Lib.hid (Kp.trans K12.out hw13); clear hw13))
  go_ret
  exact ⟨by simp, K13.out⟩

set_option maxRecDepth 20000 in
set_option maxHeartbeats 4000000 in
theorem cut_3b (ads : List Addr) (aa : Option Addr) (ca : Nat) (fa : List (Int × List Int)) (la : Nat) (hla : fa.length = la) (ab : Option Addr) (cb : Nat) (fb : List (Int × List Int)) (lb : Nat) (hlb : fb.length = lb) (cut : Int) (w : World) (V : St ads w) (qa : SlQ (.slice aa la ca) fa w) (qb : SlQ (.slice ab lb cb) fb w) (hra : runQ 0 0 fa = true) (hrb : runQ 0 0 fb = true) (hla0 : 0 < fa.length) (hlb0 : 0 < fb.length) (hg : (fa[fa.length - 1]).1 < (fb[0]).1) (hsum : fa.length + fb.length ≤ 16) (M : Nat) (hM : M < (joinB fa).length) (hcut : wrap64 ((IntKind.u64.wrap cut).tmod ((joinB fa).length : Nat)) = (M : Int)) (hT : (splitQ 17 ((joinB fa).take M) 0 0).1 ≠ 0) : Calls Tryd.prog 7 #[.slice aa la ca, .slice ab lb cb, .int .i64 cut] w fun e w' => e = .returned (.bool true) ∧ Kp w w' := by
  have h14 : ads.length = 14 := V.len
  obtain ⟨a16, -, sma, ina, jla, -⟩ := row_facts qa hra
  obtain ⟨b16, -, smb, inb, jlb, -⟩ := row_facts qb hrb
  have smab : Small (fa ++ fb) := fun f hf => (List.mem_append.1 hf).elim (sma f) (smb f)
  have gin : ∀ g ∈ fa ++ fb, InB g.2 := fun g hg => (List.mem_append.1 hg).elim (slq_in qa g) (slq_in qb g)
  have inab : InB (joinB (fa ++ fb)) := joinB_in smab gin
  have hrt := run_two hra hrb
  have hd0 : (fb.map Prod.fst).headD 0 = (fb[0]).1 := by
    cases fb with
    | nil => simp at hlb0
    | cons g t => rfl
  have hR : runQ 0 0 (fa ++ fb) = true := by
    rw [hrt]
    exact decide_eq_true ⟨.inr (.inr (by rw [lastT_at fa 0 hla0, hd0]; exact hg)), hsum⟩
  have h16 : (fa ++ fb).length ≤ 16 := by rw [List.length_append]; exact hsum
  have hsp := split_join (fa ++ fb) 0 16 0 hR (fun _ _ => by omega) h16 gin
  have hjz : (joinB (fa ++ fb)).length = (joinB fa).length + (joinB fb).length := by rw [joinB_append, List.length_append]
  have bga : bigV fa = false := small_big sma a16
  have bgb : bigV fb = false := small_big smb b16
  have HA := Lib.hid (alive_any ads w V)
  have h1 := fun w1 (hk : Kp w w1) => big_of aa ca fa la hla w1 (qa.kp hk)
  have h2 := fun w1 (hk : Kp w w1) => big_of ab cb fb lb hlb w1 (qb.kp hk)
  simp only [bga] at h1
  simp only [bgb] at h2
  have HB1 := Lib.hid h1
  have HB2 := Lib.hid h2
  have jo := fun w1 (hk : Kp w w1) => join_ok ads aa ca fa la hla (by omega) w1 (V.below hk) (qa.kp hk) hra
  have ko := fun w1 (hk : Kp w w1) => join_ok ads ab cb fb lb hlb (by omega) w1 (V.below hk) (qb.kp hk) hrb
  have hspl := fun w1 (hk : Kp w w1) (a1 : Option Addr) (c1 : Nat) (hle : (joinB fa).length + (joinB fb).length ≤ c1) (q1 : SlB (.slice a1 ((joinB fa).length + (joinB fb).length) c1) (joinB (fa ++ fb)) w1) => split_any ads (by omega) (by omega) a1 c1 (joinB (fa ++ fb)) _ hjz (by omega) hle inab w1 (V.below hk) q1
  have hq : ∀ w1, Kp w w1 → SlQ (.slice aa la ca) fa w1 ∧ SlQ (.slice ab lb cb) fb w1 := fun w1 hk => ⟨qa.kp hk, qb.kp hk⟩
  simp only [hsp] at hspl
  have HSP : Hid (∀ w1, Kp w w1 → ∀ (a1 : Option Addr) (c1 : Nat), (joinB fa).length + (joinB fb).length ≤ c1 → SlB (.slice a1 ((joinB fa).length + (joinB fb).length) c1) (joinB (fa ++ fb)) w1 → Calls Tryd.prog 16 #[.slice a1 ((joinB fa).length + (joinB fb).length) c1] w1 fun e w' => ∃ a2 c2, e = .returned (.tuple #[.slice a2 (la + lb) c2, .nilIface]) ∧ SlQ (.slice a2 (la + lb) c2) (fa ++ fb) w' ∧ Kp w1 w') := Lib.hid fun w1 hk a1 c1 hle q1 => (hspl w1 hk a1 c1 hle q1).mono fun e w' ⟨h, hk2⟩ => by
    rcases h with ⟨_, v, rfl, hqq⟩ | ⟨h, _⟩ | ⟨h, _⟩
    · obtain ⟨a2, c2, rfl⟩ := hqq.form
      rw [List.length_append, hla, hlb] at hqq ⊢
      exact ⟨a2, c2, rfl, hqq, hk2⟩
    · cases h
    · cases h
  have hcs := cut_short ina M hM
  have hsw := fun w1 (hk : Kp w w1) (g c : Nat) (hle : M ≤ c) (q1 : SlB (.slice (some ⟨g, 0, none⟩) M c) ((joinB fa).take M) w1) => split_any ads (by omega) (by omega) (some ⟨g, 0, none⟩) c ((joinB fa).take M) M (by rw [List.length_take]; omega) (by omega) hle (fun x hx => ina x (List.mem_of_mem_take hx)) w1 (V.below hk) q1
  have HSW : Hid (∀ w1, Kp w w1 → ∀ (g c : Nat), M ≤ c → SlB (.slice (some ⟨g, 0, none⟩) M c) ((joinB fa).take M) w1 → Calls Tryd.prog 16 #[.slice (some ⟨g, 0, none⟩) M c] w1 fun e w' => ∃ ea, e = .returned (.tuple #[.slice none 0 0, snt ea]) ∧ Kp w1 w') := Lib.hid fun w1 hk g c hle q1 => (hsw w1 hk g c hle q1).mono fun e w' ⟨h, hk2⟩ => by
    rcases h with ⟨h, _⟩ | ⟨_, he⟩ | ⟨_, he⟩
    · exact absurd h hT
    · exact ⟨_, he, hk2⟩
    · exact ⟨_, he, hk2⟩
  have HSM := Lib.hid (fun w1 (a1 a2 : Option Addr) (c1 c2 : Nat) (q1 : SlQ (.slice a1 (la + lb) c1) (fa ++ fb) w1) (q2 : SlQ (.slice a2 (la + lb) c2) (fa ++ fb) w1) => refSame_true a1 a2 c1 c2 (fa ++ fb) (la + lb) (by rw [List.length_append, hla, hlb]) (by omega) w1 q1 q2)
  obtain ⟨ba, oa, rfl, ca0, -⟩ := qa.at (fa.length - 1) (by omega)
  obtain ⟨bb, ob, rfl, cb0, -⟩ := qb.at 0 hlb0
  rw [Nat.zero_mul, Nat.add_zero] at cb0
  obtain ⟨ta, hta⟩ : ∃ ta, (fa[fa.length - 1]).1 = ta := ⟨_, rfl⟩
  obtain ⟨tb, htb⟩ : ∃ tb, (fb[0]).1 = tb := ⟨_, rfl⟩
  rw [hta] at ca0 hg
  rw [htb] at cb0 hg
  have gb : decide (ta < tb) = true := decide_eq_true hg
  rw [hla] at ca0
  obtain ⟨ga, ga1, ga2, ga3, ga4⟩ := slq_cells qa
  obtain ⟨gb', gb1, gb2, gb3, gb4⟩ := slq_cells qb
  have gla : ga.length = la := by have := congrArg List.length ga1; rw [List.length_map, hla] at this; exact this
  have glb : gb'.length = lb := by have := congrArg List.length gb1; rw [List.length_map, hlb] at this; exact this
  have gda : ∀ g ∈ ga, ∃ a' n' c', g.2.2 = .slice a' n' c' := fun g hg => by obtain ⟨a', c', h, _⟩ := ga2 g hg; exact ⟨a', _, c', h⟩
  have gdb : ∀ g ∈ gb', ∃ a' n' c', g.2.2 = .slice a' n' c' := fun g hg => by obtain ⟨a', c', h, _⟩ := gb2 g hg; exact ⟨a', _, c', h⟩
  obtain ⟨ja, hja⟩ : ∃ ja, joinB fa = ja := ⟨_, rfl⟩
  obtain ⟨jb, hjb⟩ : ∃ jb, joinB fb = jb := ⟨_, rfl⟩
  obtain ⟨jz, hjze⟩ : ∃ jz, joinB (fa ++ fb) = jz := ⟨_, rfl⟩
  have hz : jz = ja ++ jb := by rw [← hjze, ← hja, ← hjb, joinB_append]
  rw [hja] at jla
  rw [hjb] at jlb
  simp only [hja, hjb, hjze] at jo ko HSP HSW
  have hx0 : 0 < ja.length := by rw [← hja]; have := (joinB_zero (fs := fa)); omega
  rw [hja] at hM hcut
  obtain ⟨xl, hxl⟩ : ∃ xl, ja.length = xl := ⟨_, rfl⟩
  obtain ⟨yl, hyl⟩ : ∃ yl, jb.length = yl := ⟨_, rfl⟩
  simp only [hxl] at jo HSP hx0 jla hM hcut
  simp only [hyl] at ko HSP jlb
  have HJ := Lib.hid jo
  have HKo := Lib.hid ko
  have HZ := Lib.hid hz
  have HQ := Lib.hid hq
  have HLA := Lib.hid hla
  have HLB := Lib.hid hlb
  have hl40 : la ≤ 16 ∧ lb ≤ 16 := by omega
  obtain ⟨lai, hlai⟩ : ∃ lai : Int, (la : Int) = lai := ⟨_, rfl⟩
  obtain ⟨lbi, hlbi⟩ : ∃ lbi : Int, (lb : Int) = lbi := ⟨_, rfl⟩
  have ha0 : (lai == 0) = false := by simp; omega
  have hb0 : (lbi == 0) = false := by simp; omega
  have hlb1 : 0 < lbi := by omega
  obtain ⟨pj, hpj⟩ : ∃ pj, lai - 1 = pj := ⟨_, rfl⟩
  have hp0 : 0 ≤ pj := by omega
  have hp1 : pj < lai := by omega
  have hpe : la - 1 = pj.toNat := by omega
  rw [hpe] at ca0
  have CA := Lib.hid ca0
  have CB := Lib.hid cb0
  have hS : decide (lai + lbi ≤ 16) = true := decide_eq_true (by omega)
  have hbd : 0 ≤ lai ∧ lai ≤ 16 ∧ 0 ≤ lbi ∧ lbi ≤ 16 := by omega
  obtain ⟨xi, hxi⟩ : ∃ xi : Int, (xl : Int) = xi := ⟨_, rfl⟩
  have hx1 : (xi == 0) = false := by simp; omega
  have hxb : 0 < xi ∧ xi ≤ 3248 := by omega
  rw [hxi] at hcut
  obtain ⟨mm, hmm⟩ : ∃ mm : Int, (M : Int) = mm := ⟨_, rfl⟩
  rw [hmm] at hcut
  have hxn : xi ≠ 0 := by omega
  have HMX := Lib.hid hM
  have HX0 := Lib.hid hx0
  have HBX : Hid (xl ≤ 3248 ∧ yl ≤ 3248) := Lib.hid (by omega)
  have HL40 := Lib.hid hl40
  clear V qa qb h14 a16 b16 sma smb ina inb smab gin inab hrt hR hsp hjz bga bgb h1 h2 jo ko hspl hq hja hjb hjze hz hxl hyl hra hrb hla hlb jla jlb hla0 hlb0 hta htb hg hd0 ca0 cb0 hpe hx0 hsum h16 hcs hsw hT hM hl40
  have GL := Lib.hid gla
  have GM := Lib.hid glb
  have GA1 := Lib.hid ga1
  have GA2 := Lib.hid ga2
  have GA3 := Lib.hid ga3
  have GA4 := Lib.hid ga4
  have GB1 := Lib.hid gb1
  have GB2 := Lib.hid gb2
  have GB3 := Lib.hid gb3
  have GB4 := Lib.hid gb4
  have GDA := Lib.hid gda
  have GDB := Lib.hid gdb
  clear gla glb ga1 ga2 ga3 ga4 gb1 gb2 gb3 gb4 gda gdb
  go_enter Tryd.func7, Tryd.ntmps7
  go_wp2_with (first | (go_at_call 9; (with_reducible refine HA.out.mono ?_); rintro e w1 ⟨rfl, hw1⟩; have K1 := Lib.hid hw1; clear hw1) | (go_at_call 10; (with_reducible refine (HB1.out _ K1.out).mono ?_); rintro e w2 ⟨rfl, hw2⟩; have K2 := Lib.hid (Kp.trans K1.out hw2); clear hw2) | (go_at_call 10; (with_reducible refine (HB2.out _ K2.out).mono ?_); rintro e w3 ⟨rfl, hw3⟩; have K3 := Lib.hid (Kp.trans K2.out hw3); clear hw3) | (go_at_call 13; (with_reducible refine (HJ.out _ K3.out).mono ?_); rintro e w4 ⟨v4, rfl, ho4, hw4⟩; have K4 := Lib.hid (Kp.trans K3.out hw4); have hfm := own_pos ho4 HX0.out; obtain ⟨g4, c4, rfl, hle4⟩ := hfm; have rh := fun w => run_head (b := g4) (off := 0) (c := c4) hmm (Nat.le_of_lt HMX.out) hle4 w; have S4 := Lib.hid (own_slb ho4); have L4 := Lib.hid hle4; clear ho4 hw4 hle4) | (go_at_call 13; (with_reducible refine (HKo.out _ K4.out).mono ?_); rintro e w5 ⟨v5, rfl, ho5, hw5⟩; have hfm := own_le ho5; obtain ⟨a5, c5, rfl, -⟩ := hfm; have S5 := Lib.hid (own_slb ho5); have X5 := Lib.hid (S4.out.kp hw5); have K5 := Lib.hid (Kp.trans K4.out hw5); have OWE := Lib.hid (own_empty w5 5); have KE := Lib.hid (kp_alloc w5 (.cells #[] 5)); have XE := Lib.hid (X5.out.kp KE.out); clear ho5 hw5) | (at_builtin; refine wpList_append_slb _ rfl (.tmp 40) (.tmp 41) rfl w5.heap.size _ _ _ rfl OWE.out (some ⟨g4, 0, none⟩) xl c4 ja rfl XE.out ?d1 ?d2 ?_))
  case d1 => have := HBX.out; omega
  case d2 => exact Below.size KE.out
  rintro v6 w6 ho6 hg6 -
  have o6 : w6.ownsRow w5.heap.size 5 1 v6 xl (ja.map (Value.int .u8)) := by simpa using ho6
  have k6 : Kp w5 w6 := row_kp OWE.out hg6 KE.out
  have OW6 := Lib.hid o6
  have K6 := Lib.hid (Kp.trans K5.out k6)
  have B6 := Lib.hid (Below.size k6)
  have X6 := Lib.hid (X5.out.kp k6)
  have Y6 := Lib.hid (S5.out.kp k6)
  have KL6 := Lib.hid k6
  clear ho6 hg6 o6 k6
  go_wp2_with (at_builtin; refine wpList_append_slb _ rfl (.tmp 42) (.tmp 43) rfl w5.heap.size _ _ _ rfl OW6.out a5 yl c5 jb rfl Y6.out ?d1 ?d2 ?_)
  case d1 => have := HBX.out; omega
  case d2 => exact B6.out
  rintro v7 w7 ho7 hg7 -
  have o7 : w7.ownsRow w5.heap.size 5 1 v7 (xl + yl) (jz.map (Value.int .u8)) := by rw [HZ.out, List.map_append]; first | exact ho7 | simpa using ho7
  have k7 : Kp w5 w7 := row_kp OW6.out hg7 KL6.out
  obtain ⟨a7, c7, rfl, hle7⟩ := own_le o7
  have S7 := Lib.hid (own_slb o7)
  have L7 := Lib.hid hle7
  have K7 := Lib.hid (Kp.trans K5.out k7)
  have X7 := Lib.hid (X5.out.kp k7)
  clear ho7 hg7 o7 k7 hle7
  go_wp2_with ((go_at_call 16; (with_reducible refine (HSP.out _ K7.out _ _ L7.out S7.out).mono ?_); rintro e w8 ⟨a8, c8, rfl, q8, hw8⟩; have K8 := Lib.hid (Kp.trans K7.out hw8); have Q8 := Lib.hid q8; have X8 := Lib.hid (X7.out.kp hw8); have cA := kp_cell K8.out CA.out; have cB := kp_cell K8.out CB.out; clear q8 hw8))
  go_quiet (fail)
  obtain ⟨wd, hwd⟩ : ∃ wd, w8.drewN nq = wd := ⟨_, rfl⟩
  rw [hwd]
  have kd : Kp w8 wd := by rw [← hwd]; exact drewN_kp _ _
  have KD := Lib.hid (Kp.trans K8.out kd)
  have XD := Lib.hid (X8.out.kp kd)
  clear cA cB
  have HMC := Lib.hid (Nat.le_trans (Nat.le_of_lt HMX.out) L4.out)
  have QD := Lib.hid (Q8.out.kp kd)
  have OWF := Lib.hid (own_empty2 wd 63 2)
  have KF := Lib.hid (kp_alloc wd (.cells #[] 63))
  have ca4 := fun ad had j u hj => kp_cell (Kp.trans KD.out KF.out) (GA4.out ad had j u hj)
  have CA4 := Lib.hid ca4
  clear hwd kd ca4
  go_wp2_with (at_builtin; refine wpList_append_slq _ (by kernel_rfl) (.tmp 87) (.tmp 88) rfl wd.heap.size _ _ _ rfl OWF.out (some ⟨ba, oa, none⟩) la ca ga rfl GL.out GDA.out (fun h => by cases h) CA4.out ?e1 ?e2 ?_)

  case e1 => have := HL40.out; omega
  case e2 => exact Below.size KF.out
  rintro v10 w10 ho10 hg10
  have o10 : w10.ownsRow wd.heap.size 63 2 v10 la (ga.flatMap cellQ) := by simpa using ho10
  have k10 : Kp wd w10 := rows_kp OWF.out hg10 KF.out
  have OW10 := Lib.hid o10
  have KD10 := Lib.hid k10
  have cb4 := fun ad had j u hj => kp_cell (Kp.trans KD.out k10) (GB4.out ad had j u hj)
  have CB4 := Lib.hid cb4
  clear ho10 hg10 o10 k10 cb4
  go_wp2_with (at_builtin; refine wpList_append_slq _ (by kernel_rfl) (.tmp 89) (.tmp 90) rfl wd.heap.size _ _ _ rfl OW10.out (some ⟨bb, ob, none⟩) lb cb gb' rfl GM.out GDB.out (fun h => by cases h) CB4.out ?e1 ?e2 ?_)

  case e1 => have := HL40.out; omega
  case e2 => exact Below.size KD10.out
  rintro v11 w11 ho11 hg11
  have k11 : Kp wd w11 := rows_kp OW10.out hg11 KD10.out
  have o11 : w11.ownsRow wd.heap.size 63 2 v11 (la + lb) ((ga ++ gb').flatMap cellQ) := by rw [List.flatMap_append]; first | exact ho11 | simpa using ho11
  have q11 := own_slqD (by have h1 := GL.out; have h2 := GM.out; rw [List.length_append]; omega) o11 (fun g hg => (List.mem_append.1 hg).elim (fun h => (GA2.out g h).kp (Kp.trans KD.out k11)) (fun h => (GB2.out g h).kp (Kp.trans KD.out k11)))
  rw [List.map_append, GA1.out, GB1.out] at q11
  obtain ⟨a11, c11, hv11⟩ := q11.form
  rw [List.length_append, HLA.out, HLB.out] at hv11
  subst hv11
  have K11 := Lib.hid (Kp.trans KD.out k11)
  have X11 := Lib.hid (XD.out.kp k11)
  have Q11 := Lib.hid (QD.out.kp k11)
  have P11 := Lib.hid q11
  clear ho11 hg11 o11 k11 q11
  go_wp2_with (first | (go_at_call 18; (with_reducible refine (HSM.out _ _ _ _ _ Q11.out P11.out).mono ?_); rintro e w12 ⟨rfl, hw12⟩; have K12 := Lib.hid (Kp.trans K11.out hw12); have X12 := Lib.hid (X11.out.kp hw12); clear hw12) | (go_at_call 16; (with_reducible refine (HSW.out _ K12.out g4 c4 HMC.out (slb_take X12.out (Nat.le_of_lt HMX.out))).mono ?_); rintro e w13 ⟨e13, rfl, hw13⟩; have K13 := Lib.hid (Kp.trans K12.out hw13); clear hw13))
  go_ret
  exact ⟨by simp, K13.out⟩
end Go.Proofs.YtfealdllicicnaaDoor
