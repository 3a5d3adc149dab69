/-
  THE LAWS OF NETS (own work): told, alive, long.
-/
import Derived.Test.YtjffkfcokgcenaaDoorNetC
import Derived.Test.YtjffkfcokgcenaaDoorSlP
import Derived.Lib.ConvBytes
import Derived.LoopTactic
import Derived.LoopN
namespace Go.Proofs.YtjffkfcokgcenaaDoor
open Go.RowKit Go.Shelf Go.ChangeShapes Go.WideShapes

attribute [local go_sem] Oper.semAt_some
variable {ads : List Addr} {J : Nat → NetM → (Nat → Prop) → World → Prop} {w0 B w1 w2 : World} {F F2 : Nat → Prop} {g : Nat} {m : NetM}
set_option maxRecDepth 100000 in
theorem told_any (a b : Int) (o : Option Addr) (k c : Nat) (d : List Int) (w : World) (hs : SlB (.slice o k c) d w) : Calls Tryd.prog 16 #[.agg #[.int .i64 a, .int .i64 b, .slice o k c]] w fun r w' => r = .returned (.agg #[.int .i64 a, .int .i64 b, .string (strOfNums d)]) ∧ Kp w w' := by
  have k1 := kp_alloc w (.cells #[.int .i64 a, .int .i64 b, .slice o k c] 45)
  have k2 := kp_alloc (w.alloc (.cells #[.int .i64 a, .int .i64 b, .slice o k c] 45)) (.cells #[.int .i64 0, .int .i64 0, .string { data := #[] }] 47)
  have t1 := kp_row k2 (MapKept.heap_alloc w (.cells #[.int .i64 a, .int .i64 b, .slice o k c] 45)).1
  have cv := conv_slb (hs.kp (Kp.trans k1 k2))
  have x0 := cell_row (i := 0) t1 rfl
  have x1 := cell_row (i := 1) t1 rfl
  have x2 := cell_row (i := 2) t1 rfl
  clear k1 k2 t1 hs
  go_enter Tryd.func16, Tryd.ntmps16
  go_wp2
  have e2 := (MapKept.heap_alloc (w.alloc (.cells #[.int .i64 a, .int .i64 b, .slice o k c] 45)) (.cells #[.int .i64 a, .int .i64 b, .string (strOfNums d)] 47)).1
  rw [show (w.alloc (.cells #[.int .i64 a, .int .i64 b, .slice o k c] 45)).heap.size = w.heap.size + 1 by simp] at e2
  refine bodyPost_ret (results_rowN1 (p := 2) rfl _ _ (w.heap.size + 1) 47 _ (0, 0) _ rfl e2 Tryd.underlying47 rfl (by kernel_rfl)) rfl ?_
  exact ⟨rfl, Kp.trans (kp_alloc w (.cells #[.int .i64 a, .int .i64 b, .slice o k c] 45)) (kp_alloc (w.alloc (.cells #[.int .i64 a, .int .i64 b, .slice o k c] 45)) (.cells #[.int .i64 a, .int .i64 b, .string (strOfNums d)] 47))⟩
/-- alive's letters -/
def aNd : Nat → NetM
  | 0 => NetM.new 2
  | j + 1 => ((aNd j).put ⟨0, 1, [97 + (j : Int)]⟩).2
theorem aNd_put (j : Nat) (h : j < 3) : ((aNd j).put ⟨0, 1, [97 + (j : Int)]⟩).1 = (true, 0) := by
  match j, h with
  | 0, _ => decide +kernel
  | 1, _ => decide +kernel
  | 2, _ => decide +kernel
theorem aNd_in (j : Nat) (h : j < 3) : InB [97 + (j : Int)] := by
  intro x hx
  rw [List.mem_singleton] at hx
  omega
def aN4 : NetM := ((aNd 3).move 2 0).2
theorem aN_move : ((aNd 3).move 2 0).1 = 0 := by decide +kernel
theorem aN_take : (aN4.take 1).1.2 = 0 := by decide +kernel
theorem aN_data : (aN4.take 1).1.1.d = [97] := by decide +kernel
theorem aN_len : (aN4.take 1).2.f.length = 2 := by decide +kernel
theorem conv_str1 (s : ByteArray) (w : World) : (convert 9 33 (.string s)).run Tryd.prog w = .ok (.slice (some ⟨w.heap.size, 0, none⟩) s.size (grownCap w s.size 0 5)) (Lib.bytesWorld w 5 s) :=
  Lib.run_convert_string_bytes w 9 33 5 s Tryd.underlying9 Tryd.underlying33 Tryd.underlying5
theorem bytesW_slb (bs : List Int) (hb : InB bs) (w : World) (n cp : Nat) (hn : bs.length = n) : SlB (.slice (some ⟨w.heap.size, 0, none⟩) n cp) bs (Lib.bytesWorld w 5 (strOfNums bs)) := by
  by_cases h0 : bs = []
  · subst h0
    exact .inl ⟨rfl, _, _, by rw [← hn]; rfl, fun e => by cases e⟩
  · have hp : 0 < bs.length := by rcases bs with _ | _ <;> simp at h0 ⊢
    refine .inr ⟨w.heap.size, 0, _, hp, by rw [hn], fun j hj => ?_⟩
    rw [Nat.zero_add, Lib.bytesWorld_cell w _ _ j (by rw [strOfNums_size]; exact hj), strOfNums_data]
    have hx := hb bs[j] (List.getElem_mem hj)
    simp [List.getD, hj]
    omega
theorem bytesW_kp (bs : List Int) (w : World) : Kp w (Lib.bytesWorld w 5 (strOfNums bs)) := ⟨rfl, rfl, rfl, by rw [Lib.bytesWorld_size]; omega, fun b hb => Lib.bytesWorld_at_old w _ _ b hb⟩
set_option maxRecDepth 100000 in
set_option maxHeartbeats 2000000 in
theorem alive12_any (C : NetC ads w0 J) (w : World) (hb : Kp w0 w) : Calls Tryd.prog 7 #[] w fun r w' => r = .returned (.bool true) ∧ Kp w w' := by
  have HCC := Lib.hid C
  have HNW := Lib.hid (show Calls Tryd.prog 9 #[.int .i64 2] w fun r w' => ∃ g, r = .returned (.tuple #[.pointer (some ⟨g, 0, none⟩), .nilIface]) ∧ AtN J w0 w (fun _ => False) g (aNd 0) w' ∧ Kp w w' from atN_new C hb (Kp.refl w) 2 (by decide) (by decide))
  have HPU := Lib.hid (fun g w1 (k sc : Nat) (F : Nat → Prop) (j : Nat) (hj : j < 3) (h : AtN J w0 w F g (aNd j) w1) (so : Option Addr) (hs : SlB (.slice so k sc) [97 + (j : Int)] w1) (hk : 1 = k) => (show Calls Tryd.prog 19 #[.pointer (some ⟨g, 0, none⟩), .agg #[.int .i64 0, .int .i64 1, .slice so k sc]] w1 fun r w' => r = .returned (.tuple #[.bool true, .nilIface]) ∧ AtN J w0 w F g (aNd (j + 1)) w' ∧ (∀ b, F b → w'.heap[b]? = w1.heap[b]?) from (atN_put C h 0 1 so k sc [97 + (j : Int)] hk hs (aNd_in j hj)).mono (fun r w' q => ⟨by rw [q.1, aNd_put j hj]; rw [errI_nil], q.2⟩)))
  have HMO := Lib.hid (fun g w1 (F : Nat → Prop) (h : AtN J w0 w F g (aNd 3) w1) => (show Calls Tryd.prog 22 #[.pointer (some ⟨g, 0, none⟩), .int .i64 2, .int .i64 0] w1 fun r w' => r = .returned .nilIface ∧ AtN J w0 w F g aN4 w' from (atN_move C h 2 0).mono (fun r w' q => ⟨by rw [q.1, aN_move, errI_nil], q.2.1⟩)))
  obtain ⟨tx, htx⟩ : ∃ x, (aN4.take 1).1.1.a = x := ⟨_, rfl⟩
  obtain ⟨ty, hty⟩ : ∃ x, (aN4.take 1).1.1.b = x := ⟨_, rfl⟩
  have HTK := Lib.hid (fun g w1 (F : Nat → Prop) (h : AtN J w0 w F g aN4 w1) => (show Calls Tryd.prog 20 #[.pointer (some ⟨g, 0, none⟩), .int .i64 1] w1 fun r w' => ∃ so sc, r = .returned (.tuple #[.agg #[.int .i64 tx, .int .i64 ty, .slice so 1 sc], .nilIface]) ∧ SlB (.slice so 1 sc) [97] w' ∧ AtN J w0 w F g (aN4.take 1).2 w' from (atN_take C h 1).mono (fun r w' q => by
    obtain ⟨so, sc, q1, q2, q3, -⟩ := q
    rw [aN_data] at q1 q2
    exact ⟨so, sc, by rw [q1, aN_take, errI_nil, htx, hty]; rfl, own_slb q2, q3.less fun b hb => .inl hb⟩)))
  have HLE := Lib.hid (fun g w1 (F : Nat → Prop) (h : AtN J w0 w F g (aN4.take 1).2 w1) => (show Calls Tryd.prog 13 #[.pointer (some ⟨g, 0, none⟩)] w1 fun r w' => r = .returned (.int .i64 2) ∧ w1 = w' from (atN_len C h).mono (fun r w' q => ⟨by rw [q.1, aN_len]; rfl, q.2⟩)))
  have hcv := conv_str1
  have HS1 := Lib.hid (show strOfNums [97] = { data := #[97] } by decide)
  clear C hb htx hty
  go_enter Tryd.func7, Tryd.ntmps7
  go_wp2_with (go_at_call 9; (with_reducible refine HNW.out.mono ?_); rintro e' w1 ⟨g, rfl, ha, hk⟩; have A1 := Lib.hid (ha.more HCC.out (.cells #[.string { data := #[97] }, .string { data := #[98] }, .string { data := #[99] }] 9)); have R1 := Lib.hid (MapKept.heap_alloc w1 (.cells #[.string { data := #[97] }, .string { data := #[98] }, .string { data := #[99] }] 9)).1; clear ha hk)
  go_loopw [20] (fun i wr => ∃ j : Nat, j ≤ 3 ∧ i = .int .i64 j ∧ AtN J w0 w (fun b => False ∨ b = w1.heap.size) g (aNd j) wr ∧ wr.heap[w1.heap.size]? = some (.cells #[.string { data := #[97] }, .string { data := #[98] }, .string { data := #[99] }] 9)) (fun i _ => 3 - (intOf i).toNat)
  case atStart => exact ⟨0, Nat.zero_le _, rfl, A1.out, R1.out⟩
  case round =>
    obtain ⟨j, hj, rfl, ha, hr⟩ := hrel
    obtain ⟨jj, hjj⟩ : ∃ jj : Int, (j : Int) = jj := ⟨_, rfl⟩
    have HJ := Lib.hid hjj
    rw [hjj]
    by_cases hlt : j < 3
    · obtain ⟨ss, hss⟩ : ∃ ss, strOfNums [97 + (j : Int)] = ss := ⟨_, rfl⟩
      have hsz : ss.size = 1 := by rw [← hss]; exact strOfNums_size _
      have hx : wr.cell? ⟨w1.heap.size, jj.toNat, none⟩ = some (.string ss) := by
        refine cell_row hr ?_
        rw [show jj.toNat = j by omega, ← hss]
        match j, hlt with
        | 0, _ => exact congrArg some (congrArg Value.string (by decide))
        | 1, _ => exact congrArg some (congrArg Value.string (by decide))
        | 2, _ => exact congrArg some (congrArg Value.string (by decide))
      have hkb : Kp wr (Lib.bytesWorld wr 5 ss) := by rw [← hss]; exact bytesW_kp _ _
      have A2 := Lib.hid (ha.kp HCC.out hkb)
      have R2 := Lib.hid (kp_row hkb hr)
      have S2 := Lib.hid (show ∀ cp, SlB (.slice (some ⟨wr.heap.size, 0, none⟩) 1 cp) [97 + (j : Int)] (Lib.bytesWorld wr 5 ss) from fun cp => by rw [← hss]; exact bytesW_slb _ (aNd_in j hlt) wr 1 cp rfl)
      have hj3 : jj < 3 := by omega
      have hj0 : 0 ≤ jj := by omega
      have HLT := Lib.hid hlt
      clear ha hr hss hkb hlt hj hjj
      go_wp2_with (go_at_call 19; (with_reducible refine (HPU.out _ _ _ _ _ _ HLT.out A2.out _ (S2.out _) rfl).mono ?_); rintro e' w4 ⟨rfl, ha, hf⟩; have A4 := Lib.hid ha; have R4 := Lib.hid ((hf _ (.inr rfl)).trans R2.out); clear ha hf)
      have hj1 : (j : Int) = jj := HJ.out
      have hlt1 : j < 3 := HLT.out
      go_roundw
      case rel => exact ⟨j + 1, hlt1, by rw [← hj1]; rfl, A4.out, R4.out⟩
      case measure => simp [intOf]; omega
    · obtain rfl : j = 3 := by omega
      have hj3 : ¬ jj < 3 := by omega
      have A2 := Lib.hid ha
      clear ha hr hlt hj hjj
      go_wp2_with (first | (go_at_call 22; (with_reducible refine (HMO.out _ _ _ A2.out).mono ?_); rintro e' w4 ⟨rfl, ha⟩; have A4 := Lib.hid ha; clear ha) | (go_at_call 20; (with_reducible refine (HTK.out _ _ _ A4.out).mono ?_); rintro e' w5 ⟨so, sc, rfl, hs, ha⟩; have hk5 := kp_alloc w5 (.cells #[.int .i64 tx, .int .i64 ty, .slice so 1 sc] 45); have A5 := Lib.hid (ha.kp HCC.out hk5); have cv := conv_slb (hs.kp hk5); rw [HS1.out] at cv; have r5 := (MapKept.heap_alloc w5 (.cells #[.int .i64 tx, .int .i64 ty, .slice so 1 sc] 45)).1; have x2 := cell_row (i := 2) r5 rfl; clear ha hs hk5 r5) | (go_at_call 13; (with_reducible refine (HLE.out _ _ _ A5.out).mono ?_); rintro e' w6 ⟨rfl, rfl⟩))
      go_ret
      exact ⟨by first | rfl | (simp; done), A5.out.base⟩
/-- a script that is asked for -/
def LgP (os : List OpP) : Prop := os.length ≤ 120 ∧ ∀ (j : Nat) (h : j < os.length), os[j].d.length ≤ 1200
set_option maxRecDepth 20000 in
set_option maxHeartbeats 1000000 in
theorem long12_any (v : Value) (os : List OpP) (w : World) (hs : SlP v os w) :
    Calls Tryd.prog 8 #[v] w fun e w' => ((¬ LgP os ∧ e = .returned (.bool true)) ∨ (LgP os ∧ e = .returned (.bool false))) ∧ Kp w w' := by
  obtain ⟨a, cap, rfl, hel⟩ := hs
  obtain ⟨L, hL⟩ : ∃ L : Int, (os.length : Int) = L := ⟨_, rfl⟩
  obtain ⟨m, hm⟩ : ∃ m, os.length = m := ⟨_, rfl⟩
  have hmL : (m : Int) = L := by omega
  have HM := Lib.hid hm
  have HE := Lib.hid hel
  have hv : Value.slice a os.length cap = .slice a m cap := by rw [hm]
  rw [hv]
  by_cases h100 : L > 120
  · clear hm hL hel hv
    go_enter Tryd.func8, Tryd.ntmps8
    go_wp2
    go_ret
    exact ⟨.inl ⟨fun q => by have h1 := q.1; have h2 := HM.out; omega, rfl⟩, Kp.refl _⟩
  · have HML := Lib.hid hmL
    clear hm hL hel hv
    go_enter Tryd.func8, Tryd.ntmps8
    go_wp2
    go_loopw [10] (fun i wr => ∃ j : Nat, j ≤ m ∧ i = .int .i64 j ∧ (∀ (q : Nat) (h : q < os.length), q < j → os[q].d.length ≤ 1200) ∧ Kp w wr) (fun i _ => m - (intOf i).toNat)
    case atStart => exact ⟨0, Nat.zero_le _, rfl, fun q _ h => by omega, Kp.refl _⟩
    case round =>
      obtain ⟨j, hj, rfl, hq, hk⟩ := hrel
      have KR := Lib.hid hk
      have HQ := Lib.hid hq
      obtain ⟨jj, hjj⟩ : ∃ jj : Int, (j : Int) = jj := ⟨_, rfl⟩
      rw [hjj]
      have HJ := Lib.hid hjj
      have hLL := HML.out
      by_cases hlt : j < m
      · have hjl : jj < L := by omega
        have hj0 : 0 ≤ jj := by omega
        have htn : jj.toNat = j := by omega
        have hjo : j < os.length := by rw [HM.out]; exact hlt
        obtain ⟨b, off, rfl, hc0⟩ := HE.out j hjo
        have hc := hc0.kp hk
        obtain ⟨a', c', hd, -⟩ := hc.fd
        obtain ⟨ok, oi, oa, ob, oc, -⟩ := hc
        obtain ⟨k1, hk1⟩ : ∃ x, os[j].k = x := ⟨_, rfl⟩
        obtain ⟨i1, hi1⟩ : ∃ x, os[j].i = x := ⟨_, rfl⟩
        obtain ⟨a1, ha1⟩ : ∃ x, os[j].a = x := ⟨_, rfl⟩
        obtain ⟨b1, hb1⟩ : ∃ x, os[j].b = x := ⟨_, rfl⟩
        obtain ⟨c1, hc1⟩ : ∃ x, os[j].c = x := ⟨_, rfl⟩
        obtain ⟨l1, hl1⟩ : ∃ x, os[j].d.length = x := ⟨_, rfl⟩
        obtain ⟨ll, hll⟩ : ∃ x : Int, (l1 : Int) = x := ⟨_, rfl⟩
        rw [hk1] at ok
        rw [hi1] at oi
        rw [ha1] at oa
        rw [hb1] at ob
        rw [hc1] at oc
        rw [hl1] at hd
        rw [← htn] at ok oi oa ob oc hd
        have HL1 := Lib.hid hl1
        have HLL := Lib.hid hll
        have HLT := Lib.hid hlt
        clear hc0 hk hq hk1 hi1 ha1 hb1 hc1 hl1 hjj hj hlt htn hLL
        by_cases hbig : ll > 1200
        · go_wp2
          go_ret
          exact ⟨.inl ⟨fun q => by have h1 := q.2 j hjo; rw [HL1.out] at h1; have h2 := HLL.out; omega, rfl⟩, Kp.trans KR.out (kp_alloc _ _)⟩
        · have HBG := Lib.hid hbig
          go_wp2
          have hj1 : (j : Int) = jj := HJ.out
          have hlt1 : j < m := HLT.out
          refine ⟨⟨j + 1, hlt1, ?_, fun q hq1 hq2 => ?_, Kp.trans KR.out (kp_alloc _ _)⟩, ?_⟩
          · rw [← hj1]; rfl
          · by_cases hqj : q = j
            · subst hqj
              rw [HL1.out]
              have h1 := HBG.out
              have h2 := HLL.out
              omega
            · exact HQ.out q hq1 (by omega)
          · simp [intOf]; omega
      · have hjl : ¬ jj < L := by omega
        have hjm : j = m := by omega
        have HJM := Lib.hid hjm
        clear hk hq hjj hj hlt hLL hjm
        go_wp2
        go_ret
        exact ⟨.inr ⟨⟨by have h1 := HM.out; have h2 := HML.out; omega, fun q hq1 => HQ.out q hq1 (by rw [HJM.out, ← HM.out]; exact hq1)⟩, rfl⟩, KR.out⟩
end Go.Proofs.YtjffkfcokgcenaaDoor
