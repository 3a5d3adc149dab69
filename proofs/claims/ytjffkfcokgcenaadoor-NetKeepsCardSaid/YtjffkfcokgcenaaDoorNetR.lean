/-
  NetKeeps' WALK (own work).
-/
import Derived.Test.YtjffkfcokgcenaaDoorNetQ
import Derived.Test.YtjffkfcokgcenaaDoorSlBB
namespace Go.Proofs.YtjffkfcokgcenaaDoor
open Go.RowKit Go.Shelf Go.ChangeShapes Go.WideShapes

attribute [local go_sem] Oper.semAt_some
variable {ads : List Addr} {J : Nat → NetM → (Nat → Prop) → World → Prop} {w0 B w1 w2 : World} {g : Nat} {m : NetM}
set_option maxRecDepth 100000 in
theorem keeps_out (la : Option Addr) (n lc : Nat) (ca : Option Addr) (cm cc : Nat) (xa : Option Addr) (na xc : Nat) (w : World) (hn : 60 < n ∨ 60 < na) (C : NetC ads w J) : Calls Tryd.prog 4 #[.slice la n lc, .slice ca cm cc, .slice xa na xc] w fun r w' => r = .returned (.bool true) ∧ Kp w w' := by
  have HAL := Lib.hid (alive12_any C w (Kp.refl w))
  obtain ⟨nn, hnn⟩ : ∃ x : Int, (n : Int) = x := ⟨_, rfl⟩
  obtain ⟨an, han⟩ : ∃ x : Int, (na : Int) = x := ⟨_, rfl⟩
  clear C
  by_cases h1 : nn > 60
  · clear hn
    go_enter Tryd.func4, Tryd.ntmps4
    go_wp2_with (go_at_call 7; (with_reducible refine HAL.out.mono ?_); rintro e' w1 ⟨rfl, hk⟩; have K1 := Lib.hid hk; clear hk)
    go_ret
    exact ⟨rfl, K1.out⟩
  · have h2 : an > 60 := by omega
    clear hn
    go_enter Tryd.func4, Tryd.ntmps4
    go_wp2_with (go_at_call 7; (with_reducible refine HAL.out.mono ?_); rintro e' w1 ⟨rfl, hk⟩; have K1 := Lib.hid hk; clear hk)
    go_ret
    exact ⟨rfl, K1.out⟩
set_option maxRecDepth 100000 in
set_option maxHeartbeats 4000000 in
theorem keeps_in (rs : List (List Int)) (la : Option Addr) (n lc : Nat) (hln : rs.length = n) (cs : List Bool) (ca : Option Addr) (cm cc : Nat) (hcm : cs.length = cm) (xs : List Int) (xa : Option Addr) (na xc : Nat) (hna : xs.length = na) (w : World) (h60 : n ≤ 60) (h61 : na ≤ 60)
    (hel : ∀ (j : Nat) (h : j < rs.length), ∃ b off, la = some ⟨b, off, none⟩ ∧ ∃ a' c, w.cell? ⟨b, off + j, none⟩ = some (.slice a' rs[j].length c) ∧ SlB (.slice a' rs[j].length c) rs[j] w ∧ InB rs[j])
    (hcl : ∀ (j : Nat) (h : j < cs.length), ∃ b off, ca = some ⟨b, off, none⟩ ∧ w.cell? ⟨b, off + j, none⟩ = some (.bool cs[j]))
    (hxl : ∀ (j : Nat) (h : j < xs.length), ∃ b off, xa = some ⟨b, off, none⟩ ∧ w.cell? ⟨b, off + j, none⟩ = some (.int .i64 xs[j])) (C : NetC ads w J) : Calls Tryd.prog 4 #[.slice la n lc, .slice ca cm cc, .slice xa na xc] w fun r w' => r = .returned (.bool true) ∧ Kp w w' := by
  have HCC := Lib.hid C
  have HAL := Lib.hid (alive12_any C w (Kp.refl w))
  have HNW := Lib.hid (fun w1 (hk : Kp w w1) => (show Calls Tryd.prog 9 #[.int .i64 2] w1 fun r w' => ∃ g, r = .returned (.tuple #[.pointer (some ⟨g, 0, none⟩), .nilIface]) ∧ AtN J w w (fun _ => False) g (gN [] false 0) w' ∧ Kp w1 w' from atN_new C (Kp.refl w) hk 2 (by decide) (by decide)))
  have HEL := Lib.hid hel
  have HCL := Lib.hid hcl
  have HXL := Lib.hid hxl
  have HLN := Lib.hid (And.intro hln (And.intro hcm (And.intro hna (And.intro h60 h61))))
  obtain ⟨nn, hnn⟩ : ∃ x : Int, (n : Int) = x := ⟨_, rfl⟩
  obtain ⟨mn, hmn⟩ : ∃ x : Int, (cm : Int) = x := ⟨_, rfl⟩
  obtain ⟨an, han⟩ : ∃ x : Int, (na : Int) = x := ⟨_, rfl⟩
  have HNN := Lib.hid (And.intro hnn (And.intro hmn han))
  have g1 : ¬ nn > 60 := by omega
  have g2 : ¬ an > 60 := by omega
  clear C hel hcl hxl hln hcm hna h60 h61
  go_enter Tryd.func4, Tryd.ntmps4
  go_wp2_with (first | (go_at_call 7; (with_reducible refine HAL.out.mono ?_); rintro e' w1 ⟨rfl, hk⟩; have K1 := Lib.hid hk; clear hk) | (go_at_call 9; (with_reducible refine (HNW.out _ K1.out).mono ?_); rintro e' w2 ⟨g, rfl, ha, hk⟩; have hk2 := kp_alloc w2 (.cells #[] 9); have A2 := Lib.hid ((ha.more HCC.out (.cells #[] 9)).less (F2 := (fun b => (Value.slice (some ⟨w2.heap.size, 0, none⟩) 0 0).ownBlock = some b)) (fun b hb => .inr (Option.some.inj hb).symm)); have O2 := Lib.hid (show (w2.alloc (.cells #[] 9)).ownsRow w.heap.size 9 1 (.slice (some ⟨w2.heap.size, 0, none⟩) 0 0) 0 (sE.row []) from ⟨rfl, .inr ⟨w2.heap.size, 0, #[], rfl, Below.size (Kp.trans K1.out hk), (MapKept.heap_alloc w2 _).1, Nat.le_refl _, by omega, by simp, by simp [EncG.row]⟩⟩); clear ha hk hk2))
  go_loopw [39, 9] (fun i tv wr => ∃ j : Nat, j ≤ n ∧ i = .int .i64 j ∧ ∃ (ds : List (List Int)) (c : Bool) (lost : Int) (dn : Nat), ds.length = dn ∧ AtN J w w (fun b => tv.ownBlock = some b) g (gN ds c lost) wr ∧ wr.ownsRow w.heap.size 9 1 tv dn (sE.row ds) ∧ dn ≤ j) (fun i _ _ => n - (intOf i).toNat)
  case atStart => exact ⟨0, Nat.zero_le _, rfl, [], false, 0, 0, rfl, A2.out, O2.out, Nat.le_refl _⟩
  case round =>
    obtain ⟨j, hj, rfl, ds, c, lost, dn, hdn, ha, ho, hle⟩ := hrel
    obtain ⟨ta, tc, rfl⟩ := own_formG ho
    obtain ⟨jj, hjj⟩ : ∃ jj : Int, (j : Int) = jj := ⟨_, rfl⟩
    have HJ := Lib.hid hjj
    rw [hjj]
    have A3 := Lib.hid ha
    have O3 := Lib.hid ho
    have DN := Lib.hid (And.intro hdn hle)
    by_cases hlt : j < n
    · have hjl : jj < nn := by omega
      have hj0 : 0 ≤ jj := by omega
      have htn : jj.toNat = j := by omega
      have hjr : j < rs.length := by rw [HLN.out.1]; exact hlt
      obtain ⟨b, off, rfl, a', c', hc0, hs0, hib⟩ := HEL.out j hjr
      obtain ⟨dl, hdl⟩ : ∃ k, rs[j].length = k := ⟨_, rfl⟩
      obtain ⟨dd, hdd⟩ : ∃ x : Int, (dl : Int) = x := ⟨_, rfl⟩
      have hc : wr.cell? ⟨b, off + jj.toNat, none⟩ = some (.slice a' dl c') := by rw [htn, ← hdl]; exact kp_cell ha.base hc0
      rw [hdl] at hs0
      obtain ⟨sd, hsd⟩ : ∃ s, strOfNums rs[j] = s := ⟨_, rfl⟩
      have HSD := Lib.hid hsd
      have HCV := Lib.hid (fun w1 (hk : Kp w w1) => (show (convert 33 9 (.slice a' dl c')).run Tryd.prog w1 = .ok (.string sd) w1 by rw [← hsd]; exact conv_slb (hs0.kp hk)))
      have HCU := Lib.hid (fun (bb : Bool) F w1 (h : AtN J w w F g (gN ds c lost) w1) => (show Calls Tryd.prog 18 #[.pointer (some ⟨g, 0, none⟩), .int .i64 0, .int .i64 1, .bool bb] w1 fun r w' => r = .returned .nilIface ∧ AtN J w w F g (gN ds bb lost) w' ∧ (∀ b, F b → w'.heap[b]? = w1.heap[b]?) from (atN_cutW HCC.out h 0 1 bb).mono (fun r w' q => by rw [gN_cut] at q; exact ⟨by rw [q.1, errI_nil], q.2⟩)))
      have HLT := Lib.hid hlt
      by_cases hbig : dd > 1000
      · clear ha ho hdn hle hlt hj hjj htn hc0 hs0 hib hdl hsd
        go_wp2
        go_ret
        exact ⟨rfl, A3.out.base⟩
      · have hd1000 : rs[j].length ≤ 1000 := by omega
        have HPU := Lib.hid (fun F w1 (h : AtN J w w F g (gN ds false lost) w1) => (show Calls Tryd.prog 19 #[.pointer (some ⟨g, 0, none⟩), .agg #[.int .i64 0, .int .i64 1, .slice a' dl c']] w1 fun r w' => r = .returned (.tuple #[.bool true, .nilIface]) ∧ AtN J w w F g (gN (ds ++ [rs[j]]) false lost) w' ∧ (∀ b, F b → w'.heap[b]? = w1.heap[b]?) from (atN_put HCC.out h 0 1 a' dl c' rs[j] hdl (hs0.kp h.base) hib).mono (fun r w' q => by
          have e := gN_put ds lost rs[j] (by have := HLN.out; have := DN.out; have := HLT.out; omega) hd1000
          unfold lt01 at e
          rw [e] at q
          exact ⟨by rw [q.1]; rw [errI_nil], q.2⟩)))
        have HPL := Lib.hid (fun F w1 (h : AtN J w w F g (gN ds true lost) w1) => (show Calls Tryd.prog 19 #[.pointer (some ⟨g, 0, none⟩), .agg #[.int .i64 0, .int .i64 1, .slice a' dl c']] w1 fun r w' => r = .returned (.tuple #[.bool false, .nilIface]) ∧ AtN J w w F g (gN ds true (wrap64 (lost + 1))) w' ∧ (∀ b, F b → w'.heap[b]? = w1.heap[b]?) from (atN_put HCC.out h 0 1 a' dl c' rs[j] hdl (hs0.kp h.base) hib).mono (fun r w' q => by
          have e := gN_lose ds lost rs[j] hd1000
          unfold lt01 at e
          rw [e] at q
          exact ⟨by rw [q.1]; rw [errI_nil], q.2⟩)))
        have hcb := ha.base
        clear ha ho hdn hle hj hjj hc0 hs0 hib hdl hsd hd1000
        by_cases hjc : jj < mn
        · have hcr : j < cs.length := by have := HLN.out; have := HNN.out; omega
          obtain ⟨b2, off2, rfl, hcc⟩ := HCL.out j hcr
          have hcc2 := kp_cell hcb hcc
          cases hbv : cs[j] with
          | true =>
            rw [hbv] at hcc2
            have hcc3 : wr.cell? ⟨b2, off2 + jj.toNat, none⟩ = some (.bool true) := by rw [htn]; exact hcc2
            clear hcc hcc2 hcb htn hbv hcr hlt
            go_wp2_with (first | (go_at_call 18; (with_reducible refine (HCU.out true _ _ A3.out).mono ?_); rintro e' w4 ⟨rfl, ha, hf⟩; have A4 := Lib.hid ha; have O4 := Lib.hid (own_stayG O3.out hf); clear ha hf) | (go_at_call 19; (with_reducible refine (HPL.out _ _ A4.out).mono ?_); rintro e' w5 ⟨rfl, ha, hf⟩; have A5 := Lib.hid ha; have O5 := Lib.hid (own_stayG O4.out hf); clear ha hf))
            have hj1 : (j : Int) = jj := HJ.out
            have hlt1 : j < n := HLT.out
            go_roundw
            case rel => exact ⟨j + 1, hlt1, by rw [← hj1]; rfl, ds, true, _, dn, DN.out.1, A5.out, O5.out, by have := DN.out.2; omega⟩
            case measure => simp [intOf]; omega
          | false =>
            rw [hbv] at hcc2
            have hcc3 : wr.cell? ⟨b2, off2 + jj.toNat, none⟩ = some (.bool false) := by rw [htn]; exact hcc2
            clear hcc hcc2 hcb htn hbv hcr hlt
            go_wp2_with (first | (go_at_call 18; (with_reducible refine (HCU.out false _ _ A3.out).mono ?_); rintro e' w4 ⟨rfl, ha, hf⟩; have A4 := Lib.hid ha; have O4 := Lib.hid (own_stayG O3.out hf); clear ha hf) | (go_at_call 19; (with_reducible refine (HPU.out _ _ A4.out).mono ?_); rintro e' w5 ⟨rfl, ha, hf⟩; have hk5 := kp_alloc w5 (.cells #[.string sd] 9); have cv5 := HCV.out _ ha.base; have A5 := Lib.hid (ha.kp HCC.out hk5); have O5 := Lib.hid (own_kp3 (own_stayG O4.out hf) hk5); have P5 := Lib.hid (part_oneS HSD.out (MapKept.heap_alloc w5 (.cells #[.string sd] 9)).1); clear ha hf hk5) | (at_builtin; refine wpList_append_rwG (E := sE) ty_st (by decide) _ rfl _ _ rfl w.heap.size _ dn ds rfl O5.out _ [rs[j]] rfl P5.out ?d1 ?d2 ?_))
            case d1 => have := DN.out; have := HLN.out; have := HLT.out; simp; omega
            case d2 => exact Below.size A5.out.base
            rintro v6 w6 ho hg hv
            obtain ⟨ta6, tc6, rfl⟩ := own_formG ho
            have A6 := Lib.hid (A5.out.asd HCC.out (asd_grownV hg (fun b e => (hv b e).imp id (fun q => by simpa using q))) (fun b hb => (O5.out.lt b hb).1) (fun b hb => (ho.lt b hb).2))
            have O6 := Lib.hid ho
            clear ho hg hv
            go_wp2
            have hj1 : (j : Int) = jj := HJ.out
            have hlt1 : j < n := HLT.out
            go_roundw
            case rel => exact ⟨j + 1, hlt1, by rw [← hj1]; rfl, ds ++ [rs[j]], false, _, dn + 1, by rw [List.length_append, DN.out.1]; rfl, A6.out, O6.out, by have := DN.out.2; omega⟩
            case measure => simp [intOf]; omega
        · clear hcb htn hlt
          go_wp2_with (first | (go_at_call 18; (with_reducible refine (HCU.out false _ _ A3.out).mono ?_); rintro e' w4 ⟨rfl, ha, hf⟩; have A4 := Lib.hid ha; have O4 := Lib.hid (own_stayG O3.out hf); clear ha hf) | (go_at_call 19; (with_reducible refine (HPU.out _ _ A4.out).mono ?_); rintro e' w5 ⟨rfl, ha, hf⟩; have hk5 := kp_alloc w5 (.cells #[.string sd] 9); have cv5 := HCV.out _ ha.base; have A5 := Lib.hid (ha.kp HCC.out hk5); have O5 := Lib.hid (own_kp3 (own_stayG O4.out hf) hk5); have P5 := Lib.hid (part_oneS HSD.out (MapKept.heap_alloc w5 (.cells #[.string sd] 9)).1); clear ha hf hk5) | (at_builtin; refine wpList_append_rwG (E := sE) ty_st (by decide) _ rfl _ _ rfl w.heap.size _ dn ds rfl O5.out _ [rs[j]] rfl P5.out ?d1 ?d2 ?_))
          case d1 => have := DN.out; have := HLN.out; have := HLT.out; simp; omega
          case d2 => exact Below.size A5.out.base
          rintro v6 w6 ho hg hv
          obtain ⟨ta6, tc6, rfl⟩ := own_formG ho
          have A6 := Lib.hid (A5.out.asd HCC.out (asd_grownV hg (fun b e => (hv b e).imp id (fun q => by simpa using q))) (fun b hb => (O5.out.lt b hb).1) (fun b hb => (ho.lt b hb).2))
          have O6 := Lib.hid ho
          clear ho hg hv
          go_wp2
          have hj1 : (j : Int) = jj := HJ.out
          have hlt1 : j < n := HLT.out
          go_roundw
          case rel => exact ⟨j + 1, hlt1, by rw [← hj1]; rfl, ds ++ [rs[j]], false, _, dn + 1, by rw [List.length_append, DN.out.1]; rfl, A6.out, O6.out, by have := DN.out.2; omega⟩
          case measure => simp [intOf]; omega
    · have hjl : ¬ jj < nn := by omega
      have hd60 : dn ≤ 60 := by have := HLN.out; omega
      have D60 := Lib.hid hd60
      clear ha ho hdn hle hlt hj hjj hd60
      go_wp2
      go_loopw [84, 9] (fun i tv wr => ∃ j : Nat, j ≤ na ∧ i = .int .i64 j ∧ ∃ (ds : List (List Int)) (c : Bool) (lost : Int) (dn : Nat), ds.length = dn ∧ AtN J w w (fun b => tv.ownBlock = some b) g (gN ds c lost) wr ∧ wr.ownsRow w.heap.size 9 1 tv dn (sE.row ds) ∧ dn ≤ 60) (fun i _ _ => na - (intOf i).toNat)
      case atStart => exact ⟨0, Nat.zero_le _, rfl, ds, c, lost, dn, DN.out.1, A3.out, O3.out, D60.out⟩
      case round =>
        clear DN D60 A3 O3
        obtain ⟨j, hj, rfl, ds, c, lost, dn, hdn, ha, ho, hle⟩ := hrel
        obtain ⟨ta, tc, rfl⟩ := own_formG ho
        obtain ⟨jj, hjj⟩ : ∃ jj : Int, (j : Int) = jj := ⟨_, rfl⟩
        have HJ := Lib.hid hjj
        rw [hjj]
        obtain ⟨di, hdi⟩ : ∃ x : Int, (dn : Int) = x := ⟨_, rfl⟩
        have A8 := Lib.hid ha
        have O8 := Lib.hid ho
        have DN := Lib.hid (And.intro hdn hle)
        have HDI := Lib.hid hdi
        have HLE := Lib.hid (fun w1 (h : AtN J w w (fun b => (Value.slice ta dn tc).ownBlock = some b) g (gN ds c lost) w1) => (show Calls Tryd.prog 13 #[.pointer (some ⟨g, 0, none⟩)] w1 fun r w' => r = .returned (.int .i64 di) ∧ w1 = w' from (atN_len HCC.out h).mono (fun r w' q => ⟨by rw [q.1]; show Ending.returned (.int .i64 ((ds.map lt01).length : Nat)) = _; rw [List.length_map, hdn, hdi], q.2⟩)))
        by_cases hlt : j < na
        · have hjl2 : jj < an := by omega
          have hj0 : 0 ≤ jj := by omega
          have htn : jj.toNat = j := by omega
          have hjr : j < xs.length := by have := HLN.out; omega
          obtain ⟨b, off, rfl, hc0⟩ := HXL.out j hjr
          obtain ⟨x, hx⟩ : ∃ x, xs[j] = x := ⟨_, rfl⟩
          have hc : wr.cell? ⟨b, off + jj.toNat, none⟩ = some (.int .i64 x) := by rw [htn, ← hx]; exact kp_cell ha.base hc0
          have HLT := Lib.hid hlt
          by_cases hz : di = 0
          · clear ha ho hdn hle hlt hj hjj htn hc0 hx hjr
            go_wp2_with (go_at_call 13; (with_reducible refine (HLE.out _ A8.out).mono ?_); rintro e' w9 ⟨rfl, rfl⟩)
            go_ret
            exact ⟨by first | rfl | (simp; done), A8.out.base⟩
          · obtain ⟨h1, h2⟩ := umod2_in x di (by omega) (by omega)
            have hu := u64_same di (by omega) (by omega)
            obtain ⟨ii, hii⟩ : ∃ i1, wrap64 ((IntKind.u64.wrap x).tmod di) = i1 := ⟨_, rfl⟩
            rw [hii] at h1 h2
            have hii2 : IntKind.i64.wrap ((IntKind.u64.wrap x).tmod di) = ii := by rw [← hii]; exact wrap_i64N _
            obtain ⟨i, hi⟩ : ∃ k, ii.toNat = k := ⟨_, rfl⟩
            have hi3 : i < ds.length := by omega
            have HI := Lib.hid (show i < dn by omega)
            have htk := gN_take ds c lost ii h1 (by omega)
            rw [show ds[ii.toNat]'(by omega) = ds[i] from by (congr 1), hi] at htk
            obtain ⟨dl, hdl⟩ : ∃ k, ds[i].length = k := ⟨_, rfl⟩
            have HTK := Lib.hid (fun F w1 (h : AtN J w w F g (gN ds c lost) w1) => (show Calls Tryd.prog 20 #[.pointer (some ⟨g, 0, none⟩), .int .i64 ii] w1 fun r w' => ∃ so sc, r = .returned (.tuple #[.agg #[.int .i64 0, .int .i64 1, .slice so dl sc], .nilIface]) ∧ w'.ownsRow w1.heap.size 5 1 (.slice so dl sc) dl (ds[i].map (Value.int .u8)) ∧ AtN J w w F g (gN (ds.take i ++ ds.drop (i + 1)) c lost) w' ∧ (∀ b, F b → w'.heap[b]? = w1.heap[b]?) from (atN_take HCC.out h ii).mono (fun r w' q => by
              rw [htk] at q
              obtain ⟨so, sc, q1, q2, q3, q4⟩ := q
              unfold lt01 at q1 q2
              dsimp only at q1 q2
              rw [hdl] at q1 q2
              exact ⟨so, sc, by rw [q1, errI_nil], q2, q3.less fun b hb => .inl hb, q4⟩)))
            obtain ⟨ss, hss⟩ : ∃ s, strOfNums ds[i] = s := ⟨_, rfl⟩
            have HSS := Lib.hid hss
            have HI3 := Lib.hid hi3
            rcases ho.2 with ⟨e, hz2⟩ | ⟨gt, cp, cur, e, hgt, hhh, hncp, -⟩
            · omega
            injection e with e1 e2 e3
            subst e1 e3
            have hiI : (i : Int) = ii := by omega
            have hw1 : wrap64 (ii + 1) = ii + 1 := by unfold wrap64; omega
            have hw2 : IntKind.i64.wrap (ii + 1) = ii + 1 := (wrap_i64N _).trans hw1
            have sh := fun w => sl_headG (P := Tryd.prog) (b := gt) (cp := tc) (n := dn) Tryd.underlying56 (info_st.imp fun _ h => ⟨h.1, h.2.2.1⟩) hiI (by omega : i ≤ dn) (by omega) w
            have st := fun w => sl_tailG (P := Tryd.prog) (b := gt) (cp := tc) (i := i + 1) (ii := ii + 1) (n := dn) Tryd.underlying56 (info_st.imp fun _ h => ⟨h.1, h.2.2.1⟩) (by omega) (by omega) w
            obtain ⟨o2, ho2⟩ : ∃ o2, (if tc = i + 1 then 0 else (i + 1) * 1) = o2 := ⟨_, rfl⟩
            obtain ⟨dt, hdt⟩ : ∃ k, dn - (i + 1) = k := ⟨_, rfl⟩
            have HPT := Lib.hid (fun (w1 : World) (h : w1.ownsRow w.heap.size 9 1 (.slice (some ⟨gt, 0, none⟩) dn tc) dn (sE.row ds)) => (show PartG sE (.slice (some ⟨gt, o2, none⟩) dt (tc - (i + 1))) (ds.drop (i + 1)) w1 by
              rw [← hdt]
              refine own_dropG (E := sE) (by decide) h (by omega) _ (fun q => ?_) _
              rw [← ho2, if_neg (by omega)]
              rfl))
            have HOP := Lib.hid (fun (w1 : World) (h : w1.ownsRow w.heap.size 9 1 (.slice (some ⟨gt, 0, none⟩) dn tc) dn (sE.row ds)) => own_prefix (E := sE) (i := i) (by decide) h (by omega))
            rw [ho2, hdt] at st
            have HTN := Lib.hid hi
            clear ha ho hdn hle hlt hj hjj htn hc0 hx hjr htk hdl hss hiI hhh hncp hgt ho2 hdt hi
            go_wp2_with (go_at_call 20; (with_reducible refine (HTK.out _ _ A8.out).mono ?_); rintro e' w9 ⟨so, sc, rfl, hs, ha, hf⟩; have hk9 := kp_alloc w9 (.cells #[.int .i64 0, .int .i64 1, .slice so dl sc] 45); have A9 := Lib.hid (ha.kp HCC.out hk9); have O9 := Lib.hid (own_kp3 (own_stayG O8.out hf) hk9); have S9 := Lib.hid ((own_slb hs).kp hk9); have L9 := Lib.hid (MapKept.heap_alloc w9 (.cells #[.int .i64 0, .int .i64 1, .slice so dl sc] 45)).1; clear hs ha hf hk9)
            refine wp_region_held_drew (S := fun w' => Kp (w9.alloc (.cells #[.int .i64 0, .int .i64 1, .slice so dl sc] 45)) w') (by kernel_rfl) ?_ (fun hHeld => ?_)
            · exact kp_drewR (Kp.refl _)
            refine wpAnyH_take (i := 0) (v := ?_) rfl (by kernel_rfl) (by kernel_rfl) (by kernel_rfl) (fun _ _ _ h => h) (Or.inl ⟨by rfl, ?_⟩) (by assumption) ?_
            rotate_left
            · intro w hSw; go_simp; try with_reducible rfl
            go_simp
            refine wpAnyH_take (i := 1) (v := ?_) rfl (by kernel_rfl) (by kernel_rfl) (by kernel_rfl) (fun _ _ _ h => h) (Or.inl ⟨by rfl, ?_⟩) (by assumption) ?_
            rotate_left
            · intro w hSw; go_simp; try with_reducible rfl
            go_simp
            refine wpAnyH_take (i := 2) (v := ?_) rfl (by kernel_rfl) (by kernel_rfl) (by kernel_rfl) (fun _ _ _ h => h) (Or.inl ⟨by rfl, ?_⟩) (by assumption) ?_
            rotate_left
            · intro w hSw; go_simp; try with_reducible rfl
            go_simp
            refine wpAnyH_take (i := 3) (v := ?_) rfl (by kernel_rfl) (by kernel_rfl) (by kernel_rfl) (fun _ _ _ h => h) (Or.inl ⟨by rfl, ?_⟩) (by assumption) ?_
            rotate_left
            · intro w hSw; go_simp; try with_reducible rfl
            go_simp
            refine wpAnyH_take (i := 4) (v := ?_) rfl (by kernel_rfl) (by kernel_rfl) (by kernel_rfl) (fun _ _ _ h => h) (Or.inl ⟨by rfl, ?_⟩) (by assumption) ?_
            rotate_left
            · intro w hSw; have q2 := kp_cell hSw (cell_row (i := 2) L9.out rfl); go_simp; try with_reducible rfl
            go_simp
            refine wpAnyH_take (i := 5) (v := ?_) rfl (by kernel_rfl) (by kernel_rfl) (by kernel_rfl) (fun _ _ _ h => h) (Or.inl ⟨by rfl, ?_⟩) (by assumption) ?_
            rotate_left
            · intro w hSw; have cv9 := conv_slb (S9.out.kp hSw); rw [HSS.out] at cv9; go_simp; try with_reducible rfl
            go_simp
            refine wpAnyH_take (i := 6) (v := ?_) rfl (by kernel_rfl) (by kernel_rfl) (by kernel_rfl) (fun _ _ _ h => h) (Or.inl ⟨by rfl, ?_⟩) (by assumption) ?_
            rotate_left
            · intro w hSw; go_simp; try with_reducible rfl
            go_simp
            refine wpAnyH_take (i := 7) (v := ?_) rfl (by kernel_rfl) (by kernel_rfl) (by kernel_rfl) (fun _ _ _ h => h) (Or.inl ⟨by rfl, ?_⟩) (by assumption) ?_
            rotate_left
            · intro w hSw; go_simp; try with_reducible rfl
            go_simp
            refine wpAnyH_take (i := 8) (v := ?_) rfl (by kernel_rfl) (by kernel_rfl) (by kernel_rfl) (fun _ _ _ h => h) (Or.inl ⟨by rfl, ?_⟩) (by assumption) ?_
            rotate_left
            · intro w hSw; go_simp; try with_reducible rfl
            go_simp
            refine wpAnyH_take (i := 9) (v := ?_) rfl (by kernel_rfl) (by kernel_rfl) (by kernel_rfl) (fun _ _ _ h => h) (Or.inl ⟨by rfl, ?_⟩) (by assumption) ?_
            rotate_left
            · intro w hSw; have q4 := kp_cell hSw (own_strS O9.out HI3.out); rw [HSS.out, ← HTN.out] at q4; go_simp; try with_reducible rfl
            go_simp
            refine wpAnyH_take (i := 10) (v := ?_) rfl (by kernel_rfl) (by kernel_rfl) (by kernel_rfl) (fun _ _ _ h => h) (Or.inl ⟨by rfl, ?_⟩) (by assumption) ?_
            rotate_left
            · intro w hSw; go_simp; try with_reducible rfl
            go_simp
            refine wpAnyH_take (i := 11) (v := ?_) rfl (by kernel_rfl) (by kernel_rfl) (by kernel_rfl) (fun _ _ _ h => h) (Or.inl ⟨by rfl, ?_⟩) (by assumption) ?_
            rotate_left
            · intro w hSw; go_simp; try with_reducible rfl
            go_simp
            refine wpAnyH_take (i := 12) (v := ?_) rfl (by kernel_rfl) (by kernel_rfl) (by kernel_rfl) (fun _ _ _ h => h) (Or.inl ⟨by rfl, ?_⟩) (by assumption) ?_
            rotate_left
            · intro w hSw; go_simp; try with_reducible rfl
            go_simp
            refine wpAnyH_take (i := 13) (v := ?_) rfl (by kernel_rfl) (by kernel_rfl) (by kernel_rfl) (fun _ _ _ h => h) (Or.inl ⟨by rfl, ?_⟩) (by assumption) ?_
            rotate_left
            · intro w hSw; go_simp; try with_reducible rfl
            go_simp
            refine wpAnyH_take (i := 14) (v := ?_) rfl (by kernel_rfl) (by kernel_rfl) (by kernel_rfl) (fun _ _ _ h => h) (Or.inl ⟨by rfl, ?_⟩) (by assumption) ?_
            rotate_left
            · intro w hSw; have q1 := kp_cell hSw (cell_row (i := 1) L9.out rfl); go_simp; try with_reducible rfl
            go_simp
            refine wpAnyH_take (i := 15) (v := ?_) rfl (by kernel_rfl) (by kernel_rfl) (by kernel_rfl) (fun _ _ _ h => h) (Or.inl ⟨by rfl, ?_⟩) (by assumption) ?_
            rotate_left
            · intro w hSw; go_simp; try with_reducible rfl
            go_simp
            refine wpAnyH_take (i := 16) (v := ?_) rfl (by kernel_rfl) (by kernel_rfl) (by kernel_rfl) (fun _ _ _ h => h) (Or.inl ⟨by rfl, ?_⟩) (by assumption) ?_
            rotate_left
            · intro w hSw; go_simp; try with_reducible rfl
            go_simp
            refine wpAnyH_done (by kernel_rfl) ?_ _
            go_wp2_with fail
            have A9d := Lib.hid (A9.out.kp HCC.out (kp_drewR (kp_drewR (Kp.refl _))))
            have OP := Lib.hid (HOP.out _ (own_kp3 O9.out (kp_drewR (kp_drewR (Kp.refl _)))))
            have PT := Lib.hid (HPT.out _ (own_kp3 O9.out (kp_drewR (kp_drewR (Kp.refl _)))))
            refine wp_region_held_drew (S := fun _ => True) (by kernel_rfl) ?_ (fun hHeld => ?_)
            · exact trivial
            refine wpAnyH_take (i := 0) (v := ?_) rfl (by kernel_rfl) (by kernel_rfl) (by kernel_rfl) (fun _ _ _ h => h) (Or.inl ⟨by rfl, ?_⟩) (by assumption) ?_
            rotate_left
            · intro w hSw; go_simp; try with_reducible rfl
            go_simp
            refine wpAnyH_take (i := 1) (v := ?_) rfl (by kernel_rfl) (by kernel_rfl) (by kernel_rfl) (fun _ _ _ h => h) (Or.inl ⟨by rfl, ?_⟩) (by assumption) ?_
            rotate_left
            · intro w hSw; go_simp; try with_reducible rfl
            go_simp
            refine wpAnyH_take (i := 2) (v := ?_) rfl (by kernel_rfl) (by kernel_rfl) (by kernel_rfl) (fun _ _ _ h => h) (Or.inl ⟨by rfl, ?_⟩) (by assumption) ?_
            rotate_left
            · intro w hSw; go_simp; try with_reducible rfl
            go_simp
            refine wpAnyH_take (i := 3) (v := ?_) rfl (by kernel_rfl) (by kernel_rfl) (by kernel_rfl) (fun _ _ _ h => h) (Or.inl ⟨by rfl, ?_⟩) (by assumption) ?_
            rotate_left
            · intro w hSw; go_simp; try with_reducible rfl
            go_simp
            refine wpAnyH_take (i := 4) (v := ?_) rfl (by kernel_rfl) (by kernel_rfl) (by kernel_rfl) (fun _ _ _ h => h) (Or.inl ⟨by rfl, ?_⟩) (by assumption) ?_
            rotate_left
            · intro w hSw; go_simp; try with_reducible rfl
            go_simp
            refine wpAnyH_take (i := 5) (v := ?_) rfl (by kernel_rfl) (by kernel_rfl) (by kernel_rfl) (fun _ _ _ h => h) (Or.inl ⟨by rfl, ?_⟩) (by assumption) ?_
            rotate_left
            · intro w hSw; go_simp; try with_reducible rfl
            go_simp
            refine wpAnyH_take (i := 6) (v := ?_) rfl (by kernel_rfl) (by kernel_rfl) (by kernel_rfl) (fun _ _ _ h => h) (Or.inl ⟨by rfl, ?_⟩) (by assumption) ?_
            rotate_left
            · intro w hSw; go_simp; try with_reducible rfl
            go_simp
            refine wpAnyH_ready (rs := [7]) (by kernel_rfl) (by simp) ?_
            refine AllReadyH.consLG rfl (fun K hK => ?_) AllReadyH.nil
            go_simp
            refine wpList_append_rwG (E := sE) ty_st (by decide) _ rfl _ _ rfl w.heap.size _ i (ds.take i) rfl OP.out _ (ds.drop (i + 1)) rfl PT.out ?e1 ?e2 ?_
            case e1 => have := DN.out; have := HLN.out; simp; omega
            case e2 => exact Nat.le_trans (Below.size A9.out.base) (Nat.le_refl _)
            rintro v10 w10 ho hg hv
            have hl10 : i + (ds.drop (i + 1)).length = dn - 1 := by have := DN.out; have := HI.out; rw [List.length_drop]; omega
            rw [hl10] at ho
            obtain ⟨ta10, tc10, rfl⟩ := own_formG ho
            have A10 := Lib.hid (A9d.out.asd HCC.out (asd_grownV hg (fun b e => (hv b e).imp id (fun q => by simpa using q))) (fun b hb => (OP.out.lt b hb).1) (fun b hb => (ho.lt b hb).2))
            have O10 := Lib.hid ho
            refine hK.out _ _ trivial (fun hHeld => ?_)
            clear hK K ho hg hv
            refine wpAnyH_take (i := 8) (v := ?_) rfl (by kernel_rfl) (by kernel_rfl) (by kernel_rfl) (fun _ _ _ h => h) (Or.inl ⟨by rfl, ?_⟩) (by assumption) ?_
            rotate_left
            · intro w hSw; go_simp; try with_reducible rfl
            go_simp
            refine wpAnyH_done (by kernel_rfl) ?_ _
            go_wp2
            have hj1 : (j : Int) = jj := HJ.out
            have hlt1 : j < na := HLT.out
            go_roundw
            case rel => exact ⟨j + 1, hlt1, by rw [← hj1]; rfl, ds.take i ++ ds.drop (i + 1), c, lost, dn - 1, by have := DN.out; have := HI.out; rw [List.length_append, List.length_take, List.length_drop]; omega, A10.out, O10.out, by have := DN.out; omega⟩
            case measure => simp [intOf]; omega
        · have hjl2 : ¬ jj < an := by omega
          clear ha ho hdn hle hlt hj hjj
          go_wp2_with (go_at_call 13; (with_reducible refine (HLE.out _ A8.out).mono ?_); rintro e' w9 ⟨rfl, rfl⟩)
          go_ret
          exact ⟨by first | rfl | (simp; done), A8.out.base⟩
theorem keeps_any (v0 v1 v2 : Value) (rs : List (List Int)) (cs : List Bool) (xs : List Int) (w : World) (h0 : SlBB v0 rs w) (h1 : SlV Value.bool v1 cs w) (h2 : SlV (Value.int .i64) v2 xs w) (C : NetC ads w J) : Calls Tryd.prog 4 #[v0, v1, v2] w fun r w' => r = .returned (.bool true) ∧ Kp w w' := by
  obtain ⟨la, lc, rfl⟩ := h0.form
  obtain ⟨ca, cc, rfl, hc⟩ := h1
  obtain ⟨xa, xc, rfl, hx⟩ := h2
  by_cases h : 60 < rs.length ∨ 60 < xs.length
  · exact keeps_out la _ lc ca _ cc xa _ xc w h C
  · exact keeps_in rs la _ lc rfl cs ca _ cc rfl xs xa _ xc rfl w (by omega) (by omega) (fun j hj => h0.at j hj) hc hx C
end Go.Proofs.YtjffkfcokgcenaaDoor
