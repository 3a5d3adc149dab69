/-
  JournalPlays (own work): journals answer as told.
-/
import Derived.Test.YtpehmkglkjlmfaaDoorDo7
import Derived.Test.YtpehmkglkjlmfaaDoorJal7
import Derived.Test.YtpehmkglkjlmfaaDoorSamL
namespace Go.Proofs.YtpehmkglkjlmfaaDoor
open Go.RowKit Go.ChangeShapes Go.WideShapes

variable {ads : List Addr} {R : Nat → TM → (Nat → Prop) → World → Prop} {J : Nat → Nat → JM → (Nat → Prop) → World → Prop} {W w w' : World} {q g gq gm gp : Nat} {j : JM} {m : TM} {OJ O OM : Nat → Prop}

theorem rem_two (x : Int) : 0 ≤ wrap64 ((IntKind.u64.wrap x).tmod 2000) ∧ wrap64 ((IntKind.u64.wrap x).tmod 2000) < 2000 := by
  have h0 : 0 ≤ IntKind.u64.wrap x := by
    unfold IntKind.wrap
    simp [IntKind.signed, IntKind.bits]
    omega
  rw [Int.tmod_eq_emod_of_nonneg h0]
  have h1 := Int.emod_nonneg (IntKind.u64.wrap x) (show (2000 : Int) ≠ 0 by omega)
  have h2 := Int.emod_lt_of_pos (IntKind.u64.wrap x) (show (0 : Int) < 2000 by omega)
  unfold wrap64
  omega
/-- both are there: the play's own block is made -/
theorem bo7_new (T : TapC ads W R) (C : JouC ads W R J) (jt : JT R J W q g j m OJ O w) (dj : DJ W gq gm j m OM w) (d : ∀ b, Un OJ O b → ¬ OM b) :
    Bo7 R J W q g gq gm w.heap.size j m j m OJ O OM (w.alloc (.cells #[.pointer (some ⟨g, 0, none⟩), .pointer (some ⟨q, 0, none⟩), .pointer (some ⟨gq, 0, none⟩)] 41 (0, 0))) :=
  ⟨jt.kp T C (kp_alloc _ _), dj.kp (kp_alloc _ _), d, (MapKept.heap_alloc w _).1, ⟨fun h => Nat.lt_irrefl _ (jt.mem T C _ h).2, fun h => Nat.lt_irrefl _ (dj.mem _ h).2⟩, Below.size jt.kW⟩

set_option maxRecDepth 100000 in
set_option maxHeartbeats 8000000 in
theorem plays_long (T : TapC ads W R) (C : JouC ads W R J) (V : St ads W) (room : Int) (v : Value) (os : List OpJ) (hs : SlJ v os W) (hL : ¬ Lg7 os) :
    Calls Tryd.prog 3 #[.int .i64 room, v] W fun e w' => e = .returned (.bool true) ∧ Kp W w' := by
  have HAL := Lib.hid (alive7 T C)
  have HLO := Lib.hid (fun w1 (hk : Kp W w1) => long7_any v os w1 (hs.kp hk))
  have HL := Lib.hid hL
  have _v := V
  clear T C V _v hs hL
  go_enter Tryd.func3, Tryd.ntmps3
  go_wp2_with (first
    | (go_at_call 8; (with_reducible refine HAL.out.mono ?_); rintro e w1 ⟨rfl, hk⟩; have K1 := Lib.hid hk; clear hk)
    | (go_at_call 9; (with_reducible refine (HLO.out _ K1.out).mono ?_); rintro e w2 ⟨hcase, hk⟩; have K2 := Lib.hid (Kp.trans K1.out hk); have E := hcase.resolve_right (fun q => HL.out q.1); obtain ⟨-, rfl⟩ := E; clear hk hcase))
  go_ret
  exact ⟨rfl, K2.out⟩

set_option maxRecDepth 100000 in
set_option maxHeartbeats 8000000 in
theorem plays_ok (T : TapC ads W R) (C : JouC ads W R J) (V : St ads W) (room : Int) (v : Value) (os : List OpJ) (hs : SlJ v os W) (hL : Lg7 os) :
    Calls Tryd.prog 3 #[.int .i64 room, v] W fun e w' => e = .returned (.bool true) ∧ Kp W w' := by
  have HAL := Lib.hid (alive7 T C)
  have HLO := Lib.hid (fun w1 (hk : Kp W w1) => long7_any v os w1 (hs.kp hk))
  have HL := Lib.hid hL
  obtain ⟨a, cap, rfl, hel⟩ := hs
  obtain ⟨n, hn⟩ : ∃ n, os.length = n := ⟨_, rfl⟩
  have hn60 : n ≤ 60 := by rw [← hn]; exact hL.1
  have hv : Value.slice a os.length cap = .slice a n cap := by rw [hn]
  rw [hv] at HLO ⊢
  have HC := Lib.hid C
  have HT := Lib.hid T
  have HV := Lib.hid V
  have HE := Lib.hid hel
  have HNN := Lib.hid hn
  obtain ⟨A0, A1⟩ := rem_two room
  obtain ⟨A, hA⟩ : ∃ x, wrap64 ((IntKind.u64.wrap room).tmod 2000) = x := ⟨_, rfl⟩
  rw [hA] at A0 A1
  have HN := Lib.hid (fun w1 (hk : Kp W w1) => JL.new (room := A) T hk A0 (by omega))
  have hk0 : Mok (liv [] A) := livs_ok InB.nil (by decide) A0 (by omega)
  have eop := open_liv (rs := []) (room := A) (by decide)
  have HO := fun w1 (hk : Kp W w1) g O (r : R g (liv (allF []) A) O w1) => JT.openC T C hk r hk0 rfl (by rw [eop.1])
  simp only [eop.1, eop.2] at HO
  have HO := Lib.hid HO
  have HRN := Lib.hid (fun w1 => ref6_new A w1)
  have HRO7 := fun w1 gm (hk : Kp W w1) (d : MoC gm (liv (allF []) A) w1) (hg : W.heap.size ≤ gm) => open7_any (m := liv (allF []) A) hk0 (by rw [eop.1]) hk d hg
  simp only [eop.1, eop.2] at HRO7
  have HRO7 := Lib.hid HRO7
  clear T C V hel hL hn hv hk0 eop A0 A1
  go_enter Tryd.func3, Tryd.ntmps3
  go_wp2_with (first
    | (go_at_call 8; (with_reducible refine HAL.out.mono ?_); rintro e w1 ⟨rfl, hk⟩; have K1 := Lib.hid hk; clear hk)
    | (go_at_call 9; (with_reducible refine (HLO.out _ K1.out).mono ?_); rintro e w2 ⟨hcase, hk⟩; have K2 := Lib.hid (Kp.trans K1.out hk); have E := hcase.resolve_left (fun q => q.1 HL.out); obtain ⟨-, rfl⟩ := E; clear hk hcase)
    | (go_at_call 10; (with_reducible refine (HN.out _ K2.out).mono ?_); rintro e w3 ⟨g, O1, rfl, r, hnn, hk⟩; have K3 := Lib.hid (Kp.trans K2.out hk); have R1 := Lib.hid r; clear r hnn hk)
    | (go_at_call 11; (with_reducible refine (HO.out _ K3.out _ _ R1.out).mono ?_); rintro e w4 ⟨q0, OJ0, O0, rfl, jt, -, -⟩; have JT4 := Lib.hid jt; have MN := Lib.hid (HRN.out w4); clear jt)
    | (go_at_call 13; (with_reducible refine MN.out.mono ?_); rintro e w4b ⟨rfl, hmo, hw4⟩; have MO4 := Lib.hid (show MoC w4.heap.size (liv (allF []) A) w4b from hmo); have K4b := Lib.hid (show Kp w4 w4b by rw [hw4]; exact kp_alloc _ _); have J4b := Lib.hid (JT4.out.kp HT.out HC.out K4b.out); have G4 := Lib.hid (Below.size JT4.out.kW); clear hmo hw4)
    | (go_at_call 12; (with_reducible refine (HRO7.out _ _ J4b.out.kW MO4.out G4.out).mono ?_); rintro e w4c ⟨gq0, OM0, rfl, dj, hf, hb⟩; have DJ4 := Lib.hid dj; have FAR := Lib.hid hf; have AB := Lib.hid hb; clear dj hf hb))
  have hfar : ∀ b, Un OJ0 O0 b → b ≠ w4.heap.size := fun b hb => by have := (JT4.out.mem HT.out HC.out b hb).2; omega
  have j4c := J4b.out.apart HT.out HC.out AB.out (fun b hb => by have e : b = w4.heap.size := hb; rw [e]; exact G4.out) hfar
  have B0 := Lib.hid (bo7_new HT.out HC.out j4c DJ4.out (fun b h1 h2 => by
    rcases FAR.out b h2 with e | e
    · exact hfar b h1 e
    · have := (JT4.out.mem HT.out HC.out b h1).2; have := Below.size K4b.out; omega))
  clear hfar j4c
  obtain ⟨gp, hgp⟩ : ∃ x, w4c.heap.size = x := ⟨_, rfl⟩
  obtain ⟨gm, hgm⟩ : ∃ x, w4.heap.size = x := ⟨_, rfl⟩
  rw [hgp, hgm] at B0
  rw [hgp]
  clear hgp hgm
  go_loopw [50] (fun i wr => ∃ k : Nat, k ≤ n ∧ i = .int .i64 k ∧ ∃ q gq j m OJ O OM, Bo7 R J W q g gq gm gp j m j m OJ O OM wr) (fun i _ => n - (intOf i).toNat)
  case atStart => exact ⟨0, Nat.zero_le _, rfl, _, _, _, _, _, _, _, B0.out⟩
  case round =>
    obtain ⟨k, hk, rfl, q, gq, j, m, OJ, O, OM, hB⟩ := hrel
    have BB := Lib.hid hB
    obtain ⟨kk, hkk⟩ : ∃ x : Int, (k : Int) = x := ⟨_, rfl⟩
    rw [hkk]
    have HK := Lib.hid hkk
    by_cases hlt : k < n
    · have hko : k < os.length := by rw [HNN.out]; exact hlt
      have hk0 : 0 ≤ kk := by omega
      have hkl : kk < n := by omega
      have htk : kk.toNat = k := by omega
      obtain ⟨b, off, rfl, hc0⟩ := HE.out k hko
      have hc := hc0.kp hB.jt.kW
      obtain ⟨a2', c2', hd0, hs0⟩ := hc0.d
      have hdd := kp_cell hB.jt.kW hd0
      have hck := hc.k
      have hcn := hc.n
      obtain ⟨hl10, hl300⟩ := HL.out.2 k hko
      have hin := slbb_in hs0
      obtain ⟨k1, hk1⟩ : ∃ x, os[k].1 = x := ⟨_, rfl⟩
      obtain ⟨n1, hn1⟩ : ∃ x, os[k].2.1 = x := ⟨_, rfl⟩
      have hnb := hc.n0
      have hnt := hc.n1
      obtain ⟨rs, hrs⟩ : ∃ x, os[k].2.2 = x := ⟨_, rfl⟩
      rw [hk1] at hck
      rw [hn1] at hcn hnb hnt
      simp only [hrs] at hdd hs0 hin hl10 hl300
      obtain ⟨l1, hl1⟩ : ∃ x, rs.length = x := ⟨_, rfl⟩
      rw [hl1] at hdd hs0 hl10
      have hin2 : ∀ r ∈ rs, InB r ∧ r.length ≤ 300 := fun r hr => ⟨hin r hr, by obtain ⟨i, hi, rfl⟩ := List.getElem_of_mem hr; exact hl300 i hi⟩
      replace hck : wr.cell? ⟨b, off + kk.toNat * 3, none⟩ = some (.int .i64 k1) := by rw [htk]; exact hck
      replace hcn : wr.cell? ⟨b, off + kk.toNat * 3 + 1, none⟩ = some (.int .i64 n1) := by rw [htk]; exact hcn
      replace hdd : wr.cell? ⟨b, off + kk.toNat * 3 + 2, none⟩ = some (.slice a2' l1 c2') := by rw [htk]; exact hdd
      have HDO := Lib.hid (do7_any HT.out HC.out HV.out n1 hnb hnt a2' l1 c2' hs0 hl1 hl10 hin2 (hB.kp HT.out HC.out (kp_alloc wr (.cells #[.int .i64 k1, .int .i64 n1, .slice a2' l1 c2'] 44 (0, 0)))) k1)
      have HLT := Lib.hid hlt
      have PQ := PL.c hB.p
      clear hc hc0 hd0 hB hs0 hin hin2 hl10 hl300 hk1 hn1 hrs hl1 hkk hk htk hlt hko hnb hnt PQ
      go_wp2_with (go_at_call 14; (with_reducible refine HDO.out.mono ?_); rintro e w3 ⟨rfl, q3, gq3, j3, m3, OJ3, O3, OM3, hb3⟩; have B3 := Lib.hid hb3; obtain ⟨p30, p31, p32⟩ := PL.c hb3.p; have DC := hb3.dj.cells; obtain ⟨v3, us3, hr3, ho3, hv3⟩ := DC; have FV : ∃ a3 c3, v3 = .slice a3 j3.rows.length c3 := (by rcases ho3.2 with ⟨rfl, q⟩ | ⟨gb, cap, cur, rfl, _⟩; exact ⟨none, 0, by rw [q]⟩; exact ⟨_, _, rfl⟩); obtain ⟨a3, c3, rfl⟩ := FV; have G30 := (show w3.cell? ⟨gq3, 0, none⟩ = some (.pointer (some ⟨gm, 0, none⟩)) from (by unfold World.cell?; dsimp only; rw [hr3]; rfl)); have G31 := (show w3.cell? ⟨gq3, 1, none⟩ = some (.slice a3 j3.rows.length c3) from (by unfold World.cell?; dsimp only; rw [hr3]; rfl)); have G32 := (show w3.cell? ⟨gq3, 2, none⟩ = some (.bool j3.dead) from (by unfold World.cell?; dsimp only; rw [hr3]; rfl)); have S3 := Lib.hid (own_slbb ho3 hv3); clear hb3 hr3 ho3 hv3)
      obtain ⟨nr, hnr⟩ : ∃ x, j3.rows.length = x := ⟨_, rfl⟩
      have inv3 := B3.out.jt.inv
      have ok3 := B3.out.jt.ok
      have hlen3 := inv3.len ok3
      have hnum3 := inv3.num ok3
      have h7 : ∀ i, okRs (j3.rows.take i) → (allF (j3.rows.take i)).length ≤ 200000 := fun i _ => by
        have e := congrArg List.length (allF_app (j3.rows.take i) (j3.rows.drop i))
        rw [List.take_append_drop, List.length_append] at e
        omega
      rw [hnr] at hnum3 S3 G31 ⊢
      have OK3 := Lib.hid inv3.ok
      have HALL := Lib.hid (all7_any a3 nr c3 j3.rows hnr (by omega) (fun r hr => ⟨inv3.inb r hr, by have := (inv3.ok r hr).2; omega⟩) h7 w3 S3.out)
      obtain ⟨al, hal⟩ : ∃ x, (allF j3.rows).length = x := ⟨_, rfl⟩
      rw [hal] at HALL hlen3
      have hln3 := ok3.len
      obtain ⟨sv, hsv⟩ : ∃ x, strOfNums m3.sure = x := ⟨_, rfl⟩
      obtain ⟨tv, htv⟩ : ∃ x, strOfNums m3.tail = x := ⟨_, rfl⟩
      obtain ⟨av, hav⟩ : ∃ x, strOfNums m3.all = x := ⟨_, rfl⟩
      have HCT := Lib.hid (show sv ++ tv = av by rw [← hsv, ← htv, ← hav, TM.all, s6_append])
      have HSZ := Lib.hid (show ¬ 9223372036854775807 < sv.size + tv.size by rw [← hsv, ← htv, strOfNums_size, strOfNums_size]; omega)
      have HAV := Lib.hid hav
      have m30 := B3.out.dj.mo.c0
      have m31 := B3.out.dj.mo.c1
      rw [hsv] at m30
      rw [htv] at m31
      have HRO := fun w1 (b : Bo7 R J W q3 g gq3 gm gp j3 m3 j3 m3 OJ3 O3 OM3 w1) => b.jt.rowsC HC.out
      have HLE := fun w1 (b : Bo7 R J W q3 g gq3 gm gp j3 m3 j3 m3 OJ3 O3 OM3 w1) => b.jt.len HC.out
      have HSI := fun w1 (b : Bo7 R J W q3 g gq3 gm gp j3 m3 j3 m3 OJ3 O3 OM3 w1) => b.jt.size HC.out
      have HDE := fun w1 (b : Bo7 R J W q3 g gq3 gm gp j3 m3 j3 m3 OJ3 O3 OM3 w1) => b.jt.dead HC.out
      have HBY := Lib.hid (fun w1 (b : Bo7 R J W q3 g gq3 gm gp j3 m3 j3 m3 OJ3 O3 OM3 w1) => b.jt.bytes HT.out)
      rw [hnr] at HRO HLE
      rw [hal] at HSI
      obtain ⟨dd, hdd⟩ : ∃ x, j3.dead = x := ⟨_, rfl⟩
      rw [hdd] at HDE G32
      have HRO := Lib.hid HRO
      have HLE := Lib.hid HLE
      have HSI := Lib.hid HSI
      have HDE := Lib.hid HDE
      have HSMM := fun w1 w2 u (hu : SlBB u j3.rows w2) (hk1 : Kp w3 w1) (hk : Kp w1 w2) => same_any u (.slice a3 nr c3) j3.rows j3.rows (by omega) w2 hu (S3.out.kp (Kp.trans hk1 hk))
      simp only at HSMM
      have HSMM := Lib.hid HSMM
      clear inv3 ok3 hlen3 h7 hnr hal hln3 hsv htv hav hdd
      go_wp2_with (go_at_call 15; (with_reducible refine HALL.out.mono ?_); rintro e w5 ⟨hcase, hk⟩; have B5 := Lib.hid (B3.out.kp HT.out HC.out hk); obtain ⟨-, v5, rfl, hown⟩ := hcase.resolve_right (fun q => q.1 OK3.out); have FV : ∃ a5 c5, v5 = .slice a5 al c5 := (by rcases hown.2 with ⟨rfl, q⟩ | ⟨gb, cap, cur, rfl, _⟩; exact ⟨none, 0, by rw [q]⟩; exact ⟨_, _, rfl⟩); obtain ⟨a5, c5, rfl⟩ := FV; have pc1 := kp_cell hk p31; have pc2 := kp_cell hk p32; have gc0 := kp_cell hk G30; have gc1 := kp_cell hk G31; have gc2 := kp_cell hk G32; have mc0 := kp_cell hk m30; have mc1 := kp_cell hk m31; have HSM := Lib.hid (fun w2 u hu h2 => HSMM.out w5 w2 u hu hk h2); clear hown hcase hk)
      clear p30 p31 p32 G30 G31 G32 m30 m31
      refine wp_region_held_drew (S := fun w' => Kp w5 w') (by kernel_rfl) ?_ (fun hHeld => ?_)
      · exact (Kp.refl w5).drew
      refine wpAnyH_take (i := 0) (v := ?_) rfl (by kernel_rfl) (by kernel_rfl) (by kernel_rfl) (fun _ _ _ h => h) (Or.inl ⟨by rfl, ?_⟩) (by assumption) ?_
      rotate_left
      · intro w hSw; go_simp; try with_reducible rfl
      go_simp
      refine wpAnyH_take (i := 1) (v := ?_) rfl (by kernel_rfl) (by kernel_rfl) (by kernel_rfl) (fun _ _ _ h => h) (Or.inl ⟨by rfl, ?_⟩) (by assumption) ?_
      rotate_left
      · intro w hSw; go_simp; try with_reducible rfl
      go_simp
      refine wpAnyH_take (i := 2) (v := ?_) rfl (by kernel_rfl) (by kernel_rfl) (by kernel_rfl) (fun _ _ _ h => h) (Or.inl ⟨by rfl, ?_⟩) (by assumption) ?_
      rotate_left
      · intro w hSw; go_simp; try with_reducible rfl
      go_simp
      refine wpAnyH_take (i := 3) (v := ?_) rfl (by kernel_rfl) (by kernel_rfl) (by kernel_rfl) (fun _ _ _ h => h) (Or.inl ⟨by rfl, ?_⟩) (by assumption) ?_
      rotate_left
      · intro w hSw; have q := kp_cell hSw pc1; go_simp; try with_reducible rfl
      go_simp
      refine wpAnyH_take (i := 5) (v := ?_) rfl (by kernel_rfl) (by kernel_rfl) (by kernel_rfl) (fun _ _ _ h => h) (Or.inl ⟨by rfl, ?_⟩) (by assumption) ?_
      rotate_left
      · intro w hSw; go_simp; try with_reducible rfl
      go_simp
      refine wpAnyH_take (i := 6) (v := ?_) rfl (by kernel_rfl) (by kernel_rfl) (by kernel_rfl) (fun _ _ _ h => h) (Or.inl ⟨by rfl, ?_⟩) (by assumption) ?_
      rotate_left
      · intro w hSw; go_simp; try with_reducible rfl
      go_simp
      refine wpAnyH_take (i := 7) (v := ?_) rfl (by kernel_rfl) (by kernel_rfl) (by kernel_rfl) (fun _ _ _ h => h) (Or.inl ⟨by rfl, ?_⟩) (by assumption) ?_
      rotate_left
      · intro w hSw; go_simp; try with_reducible rfl
      go_simp
      refine wpAnyH_take (i := 8) (v := ?_) rfl (by kernel_rfl) (by kernel_rfl) (by kernel_rfl) (fun _ _ _ h => h) (Or.inl ⟨by rfl, ?_⟩) (by assumption) ?_
      rotate_left
      · intro w hSw; have q := kp_cell hSw pc2; go_simp; try with_reducible rfl
      go_simp
      refine wpAnyH_take (i := 9) (v := ?_) rfl (by kernel_rfl) (by kernel_rfl) (by kernel_rfl) (fun _ _ _ h => h) (Or.inl ⟨by rfl, ?_⟩) (by assumption) ?_
      rotate_left
      · intro w hSw; go_simp; try with_reducible rfl
      go_simp
      refine wpAnyH_take (i := 10) (v := ?_) rfl (by kernel_rfl) (by kernel_rfl) (by kernel_rfl) (fun _ _ _ h => h) (Or.inl ⟨by rfl, ?_⟩) (by assumption) ?_
      rotate_left
      · intro w hSw; go_simp; try with_reducible rfl
      go_simp
      refine wpAnyH_take (i := 11) (v := ?_) rfl (by kernel_rfl) (by kernel_rfl) (by kernel_rfl) (fun _ _ _ h => h) (Or.inl ⟨by rfl, ?_⟩) (by assumption) ?_
      rotate_left
      · intro w hSw; have q := kp_cell hSw gc1; go_simp; try with_reducible rfl
      go_simp
      refine wpAnyH_ready (rs := [4]) (by kernel_rfl) (by simp) ?_
      refine AllReadyH.cons rfl (fun K hK => ?_) AllReadyH.nil
      go_simp
      go_wp2_with (go_at_call 17; (with_reducible refine (HRO.out _ (B5.out.kp HT.out HC.out hHeld)).mono ?_); rintro e w6 ⟨a6, c6, rfl, hs6, -, hk⟩; have K6 := Lib.hid (Kp.trans hHeld hk); have S6 := Lib.hid hs6; clear hs6 hk)
      refine hK.out _ _ ?_ (fun hHeld => ?_)
      · exact K6.out
      clear hK K
      refine wpAnyH_ready (rs := [12]) (by kernel_rfl) (by simp) ?_
      refine AllReadyH.cons rfl (fun K hK => ?_) AllReadyH.nil
      go_simp
      go_wp2_with (go_at_call 16; (with_reducible refine (HSM.out _ _ S6.out K6.out).mono ?_); rintro e w7 ⟨rfl, hk⟩; have K7 := Lib.hid (Kp.trans K6.out hk); clear hk)
      refine hK.out _ _ ?_ (fun hHeld => ?_)
      · exact K7.out
      clear hK K
      refine wpAnyH_take (i := 13) (v := ?_) rfl (by kernel_rfl) (by kernel_rfl) (by kernel_rfl) (fun _ _ _ h => h) (Or.inl ⟨by rfl, ?_⟩) (by assumption) ?_
      rotate_left
      · intro w hSw; go_simp; try with_reducible rfl
      go_simp
      refine wpAnyH_take (i := 14) (v := ?_) rfl (by kernel_rfl) (by kernel_rfl) (by kernel_rfl) (fun _ _ _ h => h) (Or.inl ⟨by rfl, ?_⟩) (by assumption) ?_
      rotate_left
      · intro w hSw; go_simp; try with_reducible rfl
      go_simp
      refine wpAnyH_take (i := 15) (v := ?_) rfl (by kernel_rfl) (by kernel_rfl) (by kernel_rfl) (fun _ _ _ h => h) (Or.inl ⟨by rfl, ?_⟩) (by assumption) ?_
      rotate_left
      · intro w hSw; go_simp; try with_reducible rfl
      go_simp
      refine wpAnyH_take (i := 16) (v := ?_) rfl (by kernel_rfl) (by kernel_rfl) (by kernel_rfl) (fun _ _ _ h => h) (Or.inl ⟨by rfl, ?_⟩) (by assumption) ?_
      rotate_left
      · intro w hSw; go_simp; try with_reducible rfl
      go_simp
      refine wpAnyH_take (i := 17) (v := ?_) rfl (by kernel_rfl) (by kernel_rfl) (by kernel_rfl) (fun _ _ _ h => h) (Or.inl ⟨by rfl, ?_⟩) (by assumption) ?_
      rotate_left
      · intro w hSw; go_simp; try with_reducible rfl
      go_simp
      refine wpAnyH_take (i := 18) (v := ?_) rfl (by kernel_rfl) (by kernel_rfl) (by kernel_rfl) (fun _ _ _ h => h) (Or.inl ⟨by rfl, ?_⟩) (by assumption) ?_
      rotate_left
      · intro w hSw; have q := kp_cell hSw pc1; go_simp; try with_reducible rfl
      go_simp
      refine wpAnyH_take (i := 20) (v := ?_) rfl (by kernel_rfl) (by kernel_rfl) (by kernel_rfl) (fun _ _ _ h => h) (Or.inl ⟨by rfl, ?_⟩) (by assumption) ?_
      rotate_left
      · intro w hSw; go_simp; try with_reducible rfl
      go_simp
      refine wpAnyH_take (i := 21) (v := ?_) rfl (by kernel_rfl) (by kernel_rfl) (by kernel_rfl) (fun _ _ _ h => h) (Or.inl ⟨by rfl, ?_⟩) (by assumption) ?_
      rotate_left
      · intro w hSw; go_simp; try with_reducible rfl
      go_simp
      refine wpAnyH_take (i := 22) (v := ?_) rfl (by kernel_rfl) (by kernel_rfl) (by kernel_rfl) (fun _ _ _ h => h) (Or.inl ⟨by rfl, ?_⟩) (by assumption) ?_
      rotate_left
      · intro w hSw; go_simp; try with_reducible rfl
      go_simp
      refine wpAnyH_take (i := 23) (v := ?_) rfl (by kernel_rfl) (by kernel_rfl) (by kernel_rfl) (fun _ _ _ h => h) (Or.inl ⟨by rfl, ?_⟩) (by assumption) ?_
      rotate_left
      · intro w hSw; have q := kp_cell hSw pc2; go_simp; try with_reducible rfl
      go_simp
      refine wpAnyH_take (i := 24) (v := ?_) rfl (by kernel_rfl) (by kernel_rfl) (by kernel_rfl) (fun _ _ _ h => h) (Or.inl ⟨by rfl, ?_⟩) (by assumption) ?_
      rotate_left
      · intro w hSw; go_simp; try with_reducible rfl
      go_simp
      refine wpAnyH_take (i := 25) (v := ?_) rfl (by kernel_rfl) (by kernel_rfl) (by kernel_rfl) (fun _ _ _ h => h) (Or.inl ⟨by rfl, ?_⟩) (by assumption) ?_
      rotate_left
      · intro w hSw; go_simp; try with_reducible rfl
      go_simp
      refine wpAnyH_take (i := 26) (v := ?_) rfl (by kernel_rfl) (by kernel_rfl) (by kernel_rfl) (fun _ _ _ h => h) (Or.inl ⟨by rfl, ?_⟩) (by assumption) ?_
      rotate_left
      · intro w hSw; have q := kp_cell hSw gc1; go_simp; try with_reducible rfl
      go_simp
      refine wpAnyH_take (i := 27) (v := ?_) rfl (by kernel_rfl) (by kernel_rfl) (by kernel_rfl) (fun _ _ _ h => h) (Or.inl ⟨by rfl, ?_⟩) (by assumption) ?_
      rotate_left
      · intro w hSw; go_simp; try with_reducible rfl
      go_simp
      refine wpAnyH_ready (rs := [19]) (by kernel_rfl) (by simp) ?_
      refine AllReadyH.cons rfl (fun K hK => ?_) AllReadyH.nil
      go_simp
      go_wp2_with (go_at_call 18; (with_reducible refine (HLE.out _ (B5.out.kp HT.out HC.out hHeld)).mono ?_); rintro e w8 ⟨rfl, hk⟩; have K8 := Lib.hid (Kp.trans hHeld hk); clear hk)
      refine hK.out _ _ ?_ (fun hHeld => ?_)
      · exact K8.out
      clear hK K
      refine wpAnyH_take (i := 28) (v := ?_) rfl (by kernel_rfl) (by kernel_rfl) (by kernel_rfl) (fun _ _ _ h => h) (Or.inl ⟨by rfl, ?_⟩) (by assumption) ?_
      rotate_left
      · intro w hSw; go_simp; try with_reducible rfl
      go_simp
      refine wpAnyH_take (i := 29) (v := ?_) rfl (by kernel_rfl) (by kernel_rfl) (by kernel_rfl) (fun _ _ _ h => h) (Or.inl ⟨by rfl, ?_⟩) (by assumption) ?_
      rotate_left
      · intro w hSw; go_simp; try with_reducible rfl
      go_simp
      refine wpAnyH_take (i := 30) (v := ?_) rfl (by kernel_rfl) (by kernel_rfl) (by kernel_rfl) (fun _ _ _ h => h) (Or.inl ⟨by rfl, ?_⟩) (by assumption) ?_
      rotate_left
      · intro w hSw; go_simp; try with_reducible rfl
      go_simp
      refine wpAnyH_take (i := 31) (v := ?_) rfl (by kernel_rfl) (by kernel_rfl) (by kernel_rfl) (fun _ _ _ h => h) (Or.inl ⟨by rfl, ?_⟩) (by assumption) ?_
      rotate_left
      · intro w hSw; go_simp; try with_reducible rfl
      go_simp
      refine wpAnyH_take (i := 32) (v := ?_) rfl (by kernel_rfl) (by kernel_rfl) (by kernel_rfl) (fun _ _ _ h => h) (Or.inl ⟨by rfl, ?_⟩) (by assumption) ?_
      rotate_left
      · intro w hSw; go_simp; try with_reducible rfl
      go_simp
      refine wpAnyH_take (i := 33) (v := ?_) rfl (by kernel_rfl) (by kernel_rfl) (by kernel_rfl) (fun _ _ _ h => h) (Or.inl ⟨by rfl, ?_⟩) (by assumption) ?_
      rotate_left
      · intro w hSw; go_simp; try with_reducible rfl
      go_simp
      refine wpAnyH_take (i := 34) (v := ?_) rfl (by kernel_rfl) (by kernel_rfl) (by kernel_rfl) (fun _ _ _ h => h) (Or.inl ⟨by rfl, ?_⟩) (by assumption) ?_
      rotate_left
      · intro w hSw; have q := kp_cell hSw pc1; go_simp; try with_reducible rfl
      go_simp
      refine wpAnyH_take (i := 36) (v := ?_) rfl (by kernel_rfl) (by kernel_rfl) (by kernel_rfl) (fun _ _ _ h => h) (Or.inl ⟨by rfl, ?_⟩) (by assumption) ?_
      rotate_left
      · intro w hSw; go_simp; try with_reducible rfl
      go_simp
      refine wpAnyH_take (i := 37) (v := ?_) rfl (by kernel_rfl) (by kernel_rfl) (by kernel_rfl) (fun _ _ _ h => h) (Or.inl ⟨by rfl, ?_⟩) (by assumption) ?_
      rotate_left
      · intro w hSw; go_simp; try with_reducible rfl
      go_simp
      refine wpAnyH_ready (rs := [35]) (by kernel_rfl) (by simp) ?_
      refine AllReadyH.cons rfl (fun K hK => ?_) AllReadyH.nil
      go_simp
      go_wp2_with (go_at_call 19; (with_reducible refine (HSI.out _ (B5.out.kp HT.out HC.out hHeld)).mono ?_); rintro e w9 ⟨rfl, hk⟩; have K9 := Lib.hid (Kp.trans hHeld hk); clear hk)
      refine hK.out _ _ ?_ (fun hHeld => ?_)
      · exact K9.out
      clear hK K
      refine wpAnyH_take (i := 38) (v := ?_) rfl (by kernel_rfl) (by kernel_rfl) (by kernel_rfl) (fun _ _ _ h => h) (Or.inl ⟨by rfl, ?_⟩) (by assumption) ?_
      rotate_left
      · intro w hSw; go_simp; try with_reducible rfl
      go_simp
      refine wpAnyH_take (i := 39) (v := ?_) rfl (by kernel_rfl) (by kernel_rfl) (by kernel_rfl) (fun _ _ _ h => h) (Or.inl ⟨by rfl, ?_⟩) (by assumption) ?_
      rotate_left
      · intro w hSw; go_simp; try with_reducible rfl
      go_simp
      refine wpAnyH_take (i := 40) (v := ?_) rfl (by kernel_rfl) (by kernel_rfl) (by kernel_rfl) (fun _ _ _ h => h) (Or.inl ⟨by rfl, ?_⟩) (by assumption) ?_
      rotate_left
      · intro w hSw; go_simp; try with_reducible rfl
      go_simp
      refine wpAnyH_take (i := 41) (v := ?_) rfl (by kernel_rfl) (by kernel_rfl) (by kernel_rfl) (fun _ _ _ h => h) (Or.inl ⟨by rfl, ?_⟩) (by assumption) ?_
      rotate_left
      · intro w hSw; go_simp; try with_reducible rfl
      go_simp
      refine wpAnyH_take (i := 42) (v := ?_) rfl (by kernel_rfl) (by kernel_rfl) (by kernel_rfl) (fun _ _ _ h => h) (Or.inl ⟨by rfl, ?_⟩) (by assumption) ?_
      rotate_left
      · intro w hSw; go_simp; try with_reducible rfl
      go_simp
      refine wpAnyH_take (i := 43) (v := ?_) rfl (by kernel_rfl) (by kernel_rfl) (by kernel_rfl) (fun _ _ _ h => h) (Or.inl ⟨by rfl, ?_⟩) (by assumption) ?_
      rotate_left
      · intro w hSw; go_simp; try with_reducible rfl
      go_simp
      refine wpAnyH_take (i := 44) (v := ?_) rfl (by kernel_rfl) (by kernel_rfl) (by kernel_rfl) (fun _ _ _ h => h) (Or.inl ⟨by rfl, ?_⟩) (by assumption) ?_
      rotate_left
      · intro w hSw; have q := kp_cell hSw pc1; go_simp; try with_reducible rfl
      go_simp
      refine wpAnyH_take (i := 46) (v := ?_) rfl (by kernel_rfl) (by kernel_rfl) (by kernel_rfl) (fun _ _ _ h => h) (Or.inl ⟨by rfl, ?_⟩) (by assumption) ?_
      rotate_left
      · intro w hSw; go_simp; try with_reducible rfl
      go_simp
      refine wpAnyH_take (i := 47) (v := ?_) rfl (by kernel_rfl) (by kernel_rfl) (by kernel_rfl) (fun _ _ _ h => h) (Or.inl ⟨by rfl, ?_⟩) (by assumption) ?_
      rotate_left
      · intro w hSw; go_simp; try with_reducible rfl
      go_simp
      refine wpAnyH_take (i := 48) (v := ?_) rfl (by kernel_rfl) (by kernel_rfl) (by kernel_rfl) (fun _ _ _ h => h) (Or.inl ⟨by rfl, ?_⟩) (by assumption) ?_
      rotate_left
      · intro w hSw; go_simp; try with_reducible rfl
      go_simp
      refine wpAnyH_take (i := 49) (v := ?_) rfl (by kernel_rfl) (by kernel_rfl) (by kernel_rfl) (fun _ _ _ h => h) (Or.inl ⟨by rfl, ?_⟩) (by assumption) ?_
      rotate_left
      · intro w hSw; have q := kp_cell hSw pc2; go_simp; try with_reducible rfl
      go_simp
      refine wpAnyH_take (i := 50) (v := ?_) rfl (by kernel_rfl) (by kernel_rfl) (by kernel_rfl) (fun _ _ _ h => h) (Or.inl ⟨by rfl, ?_⟩) (by assumption) ?_
      rotate_left
      · intro w hSw; go_simp; try with_reducible rfl
      go_simp
      refine wpAnyH_take (i := 51) (v := ?_) rfl (by kernel_rfl) (by kernel_rfl) (by kernel_rfl) (fun _ _ _ h => h) (Or.inl ⟨by rfl, ?_⟩) (by assumption) ?_
      rotate_left
      · intro w hSw; go_simp; try with_reducible rfl
      go_simp
      refine wpAnyH_take (i := 52) (v := ?_) rfl (by kernel_rfl) (by kernel_rfl) (by kernel_rfl) (fun _ _ _ h => h) (Or.inl ⟨by rfl, ?_⟩) (by assumption) ?_
      rotate_left
      · intro w hSw; have q := kp_cell hSw gc2; go_simp; try with_reducible rfl
      go_simp
      refine wpAnyH_ready (rs := [45]) (by kernel_rfl) (by simp) ?_
      refine AllReadyH.cons rfl (fun K hK => ?_) AllReadyH.nil
      go_simp
      go_wp2_with (go_at_call 20; (with_reducible refine (HDE.out _ (B5.out.kp HT.out HC.out hHeld)).mono ?_); rintro e w10 ⟨rfl, hk⟩; have K10 := Lib.hid (Kp.trans hHeld hk); clear hk)
      refine hK.out _ _ ?_ (fun hHeld => ?_)
      · exact K10.out
      clear hK K
      refine wpAnyH_take (i := 53) (v := ?_) rfl (by kernel_rfl) (by kernel_rfl) (by kernel_rfl) (fun _ _ _ h => h) (Or.inl ⟨by rfl, ?_⟩) (by assumption) ?_
      rotate_left
      · intro w hSw; go_simp; try with_reducible rfl
      go_simp
      refine wpAnyH_take (i := 54) (v := ?_) rfl (by kernel_rfl) (by kernel_rfl) (by kernel_rfl) (fun _ _ _ h => h) (Or.inl ⟨by rfl, ?_⟩) (by assumption) ?_
      rotate_left
      · intro w hSw; go_simp; try with_reducible rfl
      go_simp
      refine wpAnyH_take (i := 55) (v := ?_) rfl (by kernel_rfl) (by kernel_rfl) (by kernel_rfl) (fun _ _ _ h => h) (Or.inl ⟨by rfl, ?_⟩) (by assumption) ?_
      rotate_left
      · intro w hSw; go_simp; try with_reducible rfl
      go_simp
      refine wpAnyH_take (i := 56) (v := ?_) rfl (by kernel_rfl) (by kernel_rfl) (by kernel_rfl) (fun _ _ _ h => h) (Or.inl ⟨by rfl, ?_⟩) (by assumption) ?_
      rotate_left
      · intro w hSw; go_simp; try with_reducible rfl
      go_simp
      refine wpAnyH_take (i := 59) (v := ?_) rfl (by kernel_rfl) (by kernel_rfl) (by kernel_rfl) (fun _ _ _ h => h) (Or.inl ⟨by rfl, ?_⟩) (by assumption) ?_
      rotate_left
      · intro w hSw; go_simp; try with_reducible rfl
      go_simp
      refine wpAnyH_take (i := 60) (v := ?_) rfl (by kernel_rfl) (by kernel_rfl) (by kernel_rfl) (fun _ _ _ h => h) (Or.inl ⟨by rfl, ?_⟩) (by assumption) ?_
      rotate_left
      · intro w hSw; go_simp; try with_reducible rfl
      go_simp
      refine wpAnyH_take (i := 61) (v := ?_) rfl (by kernel_rfl) (by kernel_rfl) (by kernel_rfl) (fun _ _ _ h => h) (Or.inl ⟨by rfl, ?_⟩) (by assumption) ?_
      rotate_left
      · intro w hSw; go_simp; try with_reducible rfl
      go_simp
      refine wpAnyH_take (i := 62) (v := ?_) rfl (by kernel_rfl) (by kernel_rfl) (by kernel_rfl) (fun _ _ _ h => h) (Or.inl ⟨by rfl, ?_⟩) (by assumption) ?_
      rotate_left
      · intro w hSw; have q := kp_cell hSw pc2; go_simp; try with_reducible rfl
      go_simp
      refine wpAnyH_take (i := 63) (v := ?_) rfl (by kernel_rfl) (by kernel_rfl) (by kernel_rfl) (fun _ _ _ h => h) (Or.inl ⟨by rfl, ?_⟩) (by assumption) ?_
      rotate_left
      · intro w hSw; go_simp; try with_reducible rfl
      go_simp
      refine wpAnyH_take (i := 64) (v := ?_) rfl (by kernel_rfl) (by kernel_rfl) (by kernel_rfl) (fun _ _ _ h => h) (Or.inl ⟨by rfl, ?_⟩) (by assumption) ?_
      rotate_left
      · intro w hSw; go_simp; try with_reducible rfl
      go_simp
      refine wpAnyH_take (i := 65) (v := ?_) rfl (by kernel_rfl) (by kernel_rfl) (by kernel_rfl) (fun _ _ _ h => h) (Or.inl ⟨by rfl, ?_⟩) (by assumption) ?_
      rotate_left
      · intro w hSw; have q := kp_cell hSw gc0; go_simp; try with_reducible rfl
      go_simp
      refine wpAnyH_take (i := 66) (v := ?_) rfl (by kernel_rfl) (by kernel_rfl) (by kernel_rfl) (fun _ _ _ h => h) (Or.inl ⟨by rfl, ?_⟩) (by assumption) ?_
      rotate_left
      · intro w hSw; go_simp; try with_reducible rfl
      go_simp
      refine wpAnyH_take (i := 67) (v := ?_) rfl (by kernel_rfl) (by kernel_rfl) (by kernel_rfl) (fun _ _ _ h => h) (Or.inl ⟨by rfl, ?_⟩) (by assumption) ?_
      rotate_left
      · intro w hSw; go_simp; try with_reducible rfl
      go_simp
      refine wpAnyH_take (i := 68) (v := ?_) rfl (by kernel_rfl) (by kernel_rfl) (by kernel_rfl) (fun _ _ _ h => h) (Or.inl ⟨by rfl, ?_⟩) (by assumption) ?_
      rotate_left
      · intro w hSw; have q := kp_cell hSw mc0; go_simp; try with_reducible rfl
      go_simp
      refine wpAnyH_take (i := 69) (v := ?_) rfl (by kernel_rfl) (by kernel_rfl) (by kernel_rfl) (fun _ _ _ h => h) (Or.inl ⟨by rfl, ?_⟩) (by assumption) ?_
      rotate_left
      · intro w hSw; go_simp; try with_reducible rfl
      go_simp
      refine wpAnyH_take (i := 70) (v := ?_) rfl (by kernel_rfl) (by kernel_rfl) (by kernel_rfl) (fun _ _ _ h => h) (Or.inl ⟨by rfl, ?_⟩) (by assumption) ?_
      rotate_left
      · intro w hSw; go_simp; try with_reducible rfl
      go_simp
      refine wpAnyH_take (i := 71) (v := ?_) rfl (by kernel_rfl) (by kernel_rfl) (by kernel_rfl) (fun _ _ _ h => h) (Or.inl ⟨by rfl, ?_⟩) (by assumption) ?_
      rotate_left
      · intro w hSw; go_simp; try with_reducible rfl
      go_simp
      refine wpAnyH_take (i := 72) (v := ?_) rfl (by kernel_rfl) (by kernel_rfl) (by kernel_rfl) (fun _ _ _ h => h) (Or.inl ⟨by rfl, ?_⟩) (by assumption) ?_
      rotate_left
      · intro w hSw; have q := kp_cell hSw pc2; go_simp; try with_reducible rfl
      go_simp
      refine wpAnyH_take (i := 73) (v := ?_) rfl (by kernel_rfl) (by kernel_rfl) (by kernel_rfl) (fun _ _ _ h => h) (Or.inl ⟨by rfl, ?_⟩) (by assumption) ?_
      rotate_left
      · intro w hSw; go_simp; try with_reducible rfl
      go_simp
      refine wpAnyH_take (i := 74) (v := ?_) rfl (by kernel_rfl) (by kernel_rfl) (by kernel_rfl) (fun _ _ _ h => h) (Or.inl ⟨by rfl, ?_⟩) (by assumption) ?_
      rotate_left
      · intro w hSw; go_simp; try with_reducible rfl
      go_simp
      refine wpAnyH_take (i := 75) (v := ?_) rfl (by kernel_rfl) (by kernel_rfl) (by kernel_rfl) (fun _ _ _ h => h) (Or.inl ⟨by rfl, ?_⟩) (by assumption) ?_
      rotate_left
      · intro w hSw; have q := kp_cell hSw gc0; go_simp; try with_reducible rfl
      go_simp
      refine wpAnyH_take (i := 76) (v := ?_) rfl (by kernel_rfl) (by kernel_rfl) (by kernel_rfl) (fun _ _ _ h => h) (Or.inl ⟨by rfl, ?_⟩) (by assumption) ?_
      rotate_left
      · intro w hSw; go_simp; try with_reducible rfl
      go_simp
      refine wpAnyH_take (i := 77) (v := ?_) rfl (by kernel_rfl) (by kernel_rfl) (by kernel_rfl) (fun _ _ _ h => h) (Or.inl ⟨by rfl, ?_⟩) (by assumption) ?_
      rotate_left
      · intro w hSw; go_simp; try with_reducible rfl
      go_simp
      refine wpAnyH_take (i := 78) (v := ?_) rfl (by kernel_rfl) (by kernel_rfl) (by kernel_rfl) (fun _ _ _ h => h) (Or.inl ⟨by rfl, ?_⟩) (by assumption) ?_
      rotate_left
      · intro w hSw; have q := kp_cell hSw mc1; go_simp; try with_reducible rfl
      go_simp
      refine wpAnyH_take (i := 79) (v := ?_) rfl (by kernel_rfl) (by kernel_rfl) (by kernel_rfl) (fun _ _ _ h => h) (Or.inl ⟨by rfl, ?_⟩) (by assumption) ?_
      rotate_left
      · intro w hSw; go_simp; rw [if_neg HSZ.out, HCT.out]; try with_reducible rfl
      go_simp
      refine wpAnyH_ready (rs := [57]) (by kernel_rfl) (by simp) ?_
      refine AllReadyH.cons rfl (fun K hK => ?_) AllReadyH.nil
      go_simp
      go_wp2_with (go_at_call 21; (with_reducible refine (HBY.out _ (B5.out.kp HT.out HC.out hHeld)).mono ?_); rintro e w11 ⟨a11, c11, rfl, hs11, hk⟩; have K11 := Lib.hid (Kp.trans hHeld hk); have cv := conv_slb hs11; rw [HAV.out] at cv; clear hs11 hk)
      refine hK.out _ _ ?_ (fun hHeld => ?_)
      · exact K11.out
      clear hK K
      refine wpAnyH_ready (rs := [58]) (by kernel_rfl) (by simp) ?_
      refine AllReadyH.cons rfl (fun K hK => ?_) AllReadyH.nil
      go_simp
      refine hK.out _ _ ?_ (fun hHeld => ?_)
      · exact hHeld
      clear hK K
      refine wpAnyH_take (i := 80) (v := ?_) rfl (by kernel_rfl) (by kernel_rfl) (by kernel_rfl) (fun _ _ _ h => h) (Or.inl ⟨by rfl, ?_⟩) (by assumption) ?_
      rotate_left
      · intro w hSw; go_simp; try with_reducible rfl
      go_simp
      refine wpAnyH_take (i := 81) (v := ?_) rfl (by kernel_rfl) (by kernel_rfl) (by kernel_rfl) (fun _ _ _ h => h) (Or.inl ⟨by rfl, ?_⟩) (by assumption) ?_
      rotate_left
      · intro w hSw; go_simp; try with_reducible rfl
      go_simp
      refine wpAnyH_done (by kernel_rfl) ?_ _
      go_wp2
      have hk1 := HK.out
      have hlt1 := HLT.out
      go_round
      case rel => exact ⟨k + 1, by omega, by congr 1; omega, q3, gq3, j3, m3, OJ3, O3, OM3, B5.out.kp HT.out HC.out K11.out⟩
      case measure => simp [intOf]; omega
    · obtain rfl : k = n := by omega
      have hkl : ¬ kk < k := by omega
      clear hB hkk hk hlt
      go_wp2
      go_ret
      exact ⟨rfl, BB.out.jt.kW⟩

theorem plays_any (T : TapC ads W R) (C : JouC ads W R J) (V : St ads W) (room : Int) (v : Value) (os : List OpJ) (hs : SlJ v os W) :
    Calls Tryd.prog 3 #[.int .i64 room, v] W fun e w' => e = .returned (.bool true) ∧ Kp W w' := by
  by_cases hL : Lg7 os
  · exact plays_ok T C V room v os hs hL
  · exact plays_long T C V room v os hs hL
end Go.Proofs.YtpehmkglkjlmfaaDoor
