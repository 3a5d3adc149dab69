/-
  PARTS OF THIS PROOF (own work): FacW, FacY, LwB.
-/
import Derived.Test.YtpemeenfhkgmpaaGreatDoorZs08
import Derived.Test.YtpemeenfhkgmpaaGreatDoorZs14
import Derived.Test.YtpemeenfhkgmpaaGreatDoorZs01
import Derived.Test.YtpemeenfhkgmpaaGreatDoorZs35
import Derived.Test.YtpemeenfhkgmpaaGreatDoorZs34
import Derived.Laws.StructEq
namespace Go.Proofs.YtpemeenfhkgmpaaGreatDoor
open Go.RowKit Go.ChangeShapes Go.WideShapes

theorem info_rowW : (Tryz.prog.info? 55).map (fun i => (i.zero, i.size, i.bytes)) = some (some (.slice none 0 0), 1, 24) := by kernel_rfl
/-- rows of bytes, each in a block of its own -/
def OwB (base : Nat) (gs : List (List Int × Value)) (w : World) : Prop := ∀ g ∈ gs, w.ownsRow base 5 1 g.2 g.1.length (g.1.map (Value.int .u8)) ∧ InB g.1
theorem OwB.kp {base : Nat} {gs : List (List Int × Value)} {w w' : World} (h : OwB base gs w) (hk : Kp w w') : OwB base gs w' := fun g hg => ⟨own_kp (h g hg).1 hk, (h g hg).2⟩
theorem OwB.grows {base b' n : Nat} {gs : List (List Int × Value)} {w w' : World} {v : Value} {xs : List Value} (h : OwB base gs w) (hown : w.ownsRow b' 55 1 v n xs) (hgr : w.grownBy w' v.ownBlock) : OwB base gs w' :=
  fun g hg => ⟨own_grows hown hgr (h g hg).1 (by decide), (h g hg).2⟩
set_option maxRecDepth 100000 in
set_option maxHeartbeats 4000000 in
theorem rows1_any (ads : List Addr) (h3' : 3 < ads.length) (P : Addr) (a : Option Addr) (cap n : Nat) (fs : List FX) (hn : fs.length = n) (hl : n ≤ 1000) (w : World) (C : FacC ads w) (hp : w.cell? P = some (.slice a n cap)) (hs : SlFc (.slice a n cap) fs w) :
    Calls Tryz.prog 46 #[.pointer (some P)] w fun e w' => ((fs.all rightF = true ∧ ∃ (v : Value) (gs : List (List Int × Value)), e = .returned v ∧ gs.map (·.1) = fs.map encF ∧ w'.ownsRow w.heap.size 55 1 v gs.length (gs.map (·.2)) ∧ OwB w.heap.size gs w') ∨ (fs.all rightF = false ∧ e = .panicked [{ v := snt (ads[3]'h3'), recovered := false }])) ∧ Kp w w' := by
  have HEO := Lib.hid (fun w1 (hk : Kp w w1) (f : FX) (hr : rightF f = true) => C.encOk w1 hk f hr)
  have HEB := Lib.hid (fun w1 (hk : Kp w w1) (f : FX) (hf : f.wf) (hr : rightF f = false) => C.encBad w1 hk f hf hr)
  have h4 : errI ads 4 = snt (ads[3]'h3') := errI_at ads 3 h3'
  rw [h4] at HEB
  obtain ⟨a3, ha3⟩ : ∃ x, ads[3]'h3' = x := ⟨_, rfl⟩
  rw [ha3] at HEB ⊢
  have HSF := Lib.hid (fun w1 (hk : Kp w w1) => hs.kp hk)
  have HN := Lib.hid hn
  have HIF := Lib.hid (info_parts info_rowW)
  have hsf := store_fl
  clear C hs hn h4 ha3
  go_enter Tryz.func46, Tryz.ntmps46
  go_wp2
  go_loopw [2, 7] (fun v i wr => ∃ (j : Nat) (gs : List (List Int × Value)), j ≤ n ∧ i = .int .i64 j ∧ gs.map (·.1) = (fs.take j).map encF ∧ (∀ f ∈ fs.take j, rightF f = true) ∧ wr.ownsRow w.heap.size 55 1 v gs.length (gs.map (·.2)) ∧ OwB w.heap.size gs wr ∧ Kp w wr) (fun _ i _ => n - (intOf i).toNat)
  case atStart => exact ⟨0, [], Nat.zero_le _, rfl, rfl, (fun f hf => by cases hf), own_nilF _ _ _ _, (fun g hg => by cases hg), Kp.refl w⟩
  case round =>
    obtain ⟨j, gs, hj, rfl, hgs, hrt, hown, hod, hk⟩ := hrel
    obtain ⟨jj, hjj⟩ : ∃ jj : Int, (j : Int) = jj := ⟨_, rfl⟩
    rw [hjj]
    have HK := Lib.hid hk
    have HOW := Lib.hid hown
    have HOD := Lib.hid hod
    have HGS := Lib.hid hgs
    have HRT := Lib.hid hrt
    by_cases hlt : j < n
    · have hjl : j < fs.length := by rw [HN.out]; exact hlt
      obtain ⟨b, off, rfl, hwf, hc⟩ := (HSF.out wr hk).at j hjl
      have hsn : fs.take (j + 1) = fs.take j ++ [fs[j]] := by rw [← List.take_succ_eq_append_getElem hjl]
      have hmem : fs[j] ∈ fs := List.getElem_mem hjl
      obtain ⟨y, hy⟩ : ∃ y, fs[j] = y := ⟨_, rfl⟩
      rw [hy] at hwf hc hsn hmem
      have ej : j = jj.toNat := by omega
      have j0 : 0 ≤ jj := by omega
      have hltj : jj < n := by omega
      have HJ := Lib.hid hjj
      have HSN := Lib.hid hsn
      obtain ⟨kl, hkl⟩ : ∃ x, gs.length = x := ⟨_, rfl⟩
      have hk9 : kl ≤ 1000 := by
        have h1 := congrArg List.length hgs
        rw [List.length_map, List.length_map, List.length_take] at h1
        omega
      cases hr : rightF y with
      | false =>
        have HB := Lib.hid (fun w1 (hk : Kp w w1) => HEB.out w1 hk y hwf hr)
        have HAF := Lib.hid (show fs.all rightF = false from by
          refine Bool.eq_false_iff.2 fun q => ?_
          have := List.all_eq_true.1 q y hmem
          rw [hr] at this
          cases this)
        obtain ⟨k0, n0, s0, r0, u0, p0, q0, o0, d0, e0, t0, hh0, c0, x0⟩ := y
        rw [ej] at hc
        have g0 : wr.cell? ⟨b, off + jj.toNat * 14, none⟩ = some (.int .i64 k0) := hc 0 _ rfl
        have g1 : wr.cell? ⟨b, off + jj.toNat * 14 + 1, none⟩ = some (.int .i64 n0) := hc 1 _ rfl
        have g2 : wr.cell? ⟨b, off + jj.toNat * 14 + 2, none⟩ = some (.int .i64 s0) := hc 2 _ rfl
        have g3 : wr.cell? ⟨b, off + jj.toNat * 14 + 3, none⟩ = some (.int .i64 r0) := hc 3 _ rfl
        have g4 : wr.cell? ⟨b, off + jj.toNat * 14 + 4, none⟩ = some (.int .i64 u0) := hc 4 _ rfl
        have g5 : wr.cell? ⟨b, off + jj.toNat * 14 + 5, none⟩ = some (.int .i64 p0) := hc 5 _ rfl
        have g6 : wr.cell? ⟨b, off + jj.toNat * 14 + 6, none⟩ = some (.int .i64 q0) := hc 6 _ rfl
        have g7 : wr.cell? ⟨b, off + jj.toNat * 14 + 7, none⟩ = some (.int .i64 o0) := hc 7 _ rfl
        have g8 : wr.cell? ⟨b, off + jj.toNat * 14 + 8, none⟩ = some (.int .i64 d0) := hc 8 _ rfl
        have g9 : wr.cell? ⟨b, off + jj.toNat * 14 + 9, none⟩ = some (.int .i64 e0) := hc 9 _ rfl
        have g10 : wr.cell? ⟨b, off + jj.toNat * 14 + 10, none⟩ = some (.int .i64 t0) := hc 10 _ rfl
        have g11 : wr.cell? ⟨b, off + jj.toNat * 14 + 11, none⟩ = some (.int .i64 hh0) := hc 11 _ rfl
        have g12 : wr.cell? ⟨b, off + jj.toNat * 14 + 12, none⟩ = some (.int .i64 c0) := hc 12 _ rfl
        have g13 : wr.cell? ⟨b, off + jj.toNat * 14 + 13, none⟩ = some (.float .f64 x0) := hc 13 _ rfl
        dsimp only [FX.cells] at HB
        have KX := Lib.hid (Kp.trans hk (kp_alloc wr (.cells #[.int .i64 k0, .int .i64 n0, .int .i64 s0, .int .i64 r0, .int .i64 u0, .int .i64 p0, .int .i64 q0, .int .i64 o0, .int .i64 d0, .int .i64 e0, .int .i64 t0, .int .i64 hh0, .int .i64 c0, .float .f64 x0] 39)))
        obtain ⟨b0, b1, b2, b3, b4, b5, b6, b7, b8, b9, b10, b11, b12, b13⟩ := cells14 (MapKept.heap_alloc wr (.cells #[.int .i64 k0, .int .i64 n0, .int .i64 s0, .int .i64 r0, .int .i64 u0, .int .i64 p0, .int .i64 q0, .int .i64 o0, .int .i64 d0, .int .i64 e0, .int .i64 t0, .int .i64 hh0, .int .i64 c0, .float .f64 x0] 39)).1
        clear hc hwf hsn hmem hy hjl hlt ej hjj hown hod hgs hrt hr hk hkl hk9
        go_wp2_with (first
          | (go_at_call 48; (with_reducible refine (HB.out _ KX.out).mono ?_); rintro e w5 ⟨rfl, hk5⟩; have K5 := Lib.hid (Kp.trans KX.out hk5); clear hk5)
          | (go_at_call 47; (with_reducible refine (must_bytes_f _ _ _).mono ?_); rintro e w' ⟨rfl, rfl⟩))
        exact ⟨rfl, .inr ⟨HAF.out, rfl⟩, K5.out⟩
      | true =>
        have HB := HEO.out (wr.alloc (.cells y.cells 39)) (Kp.trans hk (kp_alloc _ _)) y hr
        have hin : InB (encF y) := encF_in y
        have hgs2 : ∀ u : Value, (gs ++ [(encF y, u)]).map (·.1) = (fs.take (j + 1)).map encF := fun u => by
          rw [List.map_append, hgs, hsn, List.map_append]
          rfl
        have hrt2 : ∀ f ∈ fs.take (j + 1), rightF f = true := fun f hf => by
          rw [hsn] at hf
          rcases List.mem_append.1 hf with hf | hf
          · exact hrt f hf
          · obtain rfl := List.mem_singleton.1 hf
            exact hr
        obtain ⟨ey, hey⟩ : ∃ z, encF y = z := ⟨_, rfl⟩
        rw [hey] at HB hin hgs2
        obtain ⟨nn, hnn⟩ : ∃ z, ey.length = z := ⟨_, rfl⟩
        rw [hnn] at HB
        have HNN := Lib.hid hnn
        have HIN := Lib.hid hin
        have HGS2 := Lib.hid hgs2
        have HRT2 := Lib.hid hrt2
        obtain ⟨k0, n0, s0, r0, u0, p0, q0, o0, d0, e0, t0, hh0, c0, x0⟩ := y
        rw [ej] at hc
        have g0 : wr.cell? ⟨b, off + jj.toNat * 14, none⟩ = some (.int .i64 k0) := hc 0 _ rfl
        have g1 : wr.cell? ⟨b, off + jj.toNat * 14 + 1, none⟩ = some (.int .i64 n0) := hc 1 _ rfl
        have g2 : wr.cell? ⟨b, off + jj.toNat * 14 + 2, none⟩ = some (.int .i64 s0) := hc 2 _ rfl
        have g3 : wr.cell? ⟨b, off + jj.toNat * 14 + 3, none⟩ = some (.int .i64 r0) := hc 3 _ rfl
        have g4 : wr.cell? ⟨b, off + jj.toNat * 14 + 4, none⟩ = some (.int .i64 u0) := hc 4 _ rfl
        have g5 : wr.cell? ⟨b, off + jj.toNat * 14 + 5, none⟩ = some (.int .i64 p0) := hc 5 _ rfl
        have g6 : wr.cell? ⟨b, off + jj.toNat * 14 + 6, none⟩ = some (.int .i64 q0) := hc 6 _ rfl
        have g7 : wr.cell? ⟨b, off + jj.toNat * 14 + 7, none⟩ = some (.int .i64 o0) := hc 7 _ rfl
        have g8 : wr.cell? ⟨b, off + jj.toNat * 14 + 8, none⟩ = some (.int .i64 d0) := hc 8 _ rfl
        have g9 : wr.cell? ⟨b, off + jj.toNat * 14 + 9, none⟩ = some (.int .i64 e0) := hc 9 _ rfl
        have g10 : wr.cell? ⟨b, off + jj.toNat * 14 + 10, none⟩ = some (.int .i64 t0) := hc 10 _ rfl
        have g11 : wr.cell? ⟨b, off + jj.toNat * 14 + 11, none⟩ = some (.int .i64 hh0) := hc 11 _ rfl
        have g12 : wr.cell? ⟨b, off + jj.toNat * 14 + 12, none⟩ = some (.int .i64 c0) := hc 12 _ rfl
        have g13 : wr.cell? ⟨b, off + jj.toNat * 14 + 13, none⟩ = some (.float .f64 x0) := hc 13 _ rfl
        dsimp only [FX.cells] at HB
        have HB := Lib.hid HB
        have KX := Lib.hid (kp_alloc wr (.cells #[.int .i64 k0, .int .i64 n0, .int .i64 s0, .int .i64 r0, .int .i64 u0, .int .i64 p0, .int .i64 q0, .int .i64 o0, .int .i64 d0, .int .i64 e0, .int .i64 t0, .int .i64 hh0, .int .i64 c0, .float .f64 x0] 39))
        obtain ⟨b0, b1, b2, b3, b4, b5, b6, b7, b8, b9, b10, b11, b12, b13⟩ := cells14 (MapKept.heap_alloc wr (.cells #[.int .i64 k0, .int .i64 n0, .int .i64 s0, .int .i64 r0, .int .i64 u0, .int .i64 p0, .int .i64 q0, .int .i64 o0, .int .i64 d0, .int .i64 e0, .int .i64 t0, .int .i64 hh0, .int .i64 c0, .float .f64 x0] 39)).1
        rw [hkl] at hown HOW
        have HKL := Lib.hid hkl
        have hwsz := Below.size hk
        have HWS := Lib.hid hwsz
        obtain ⟨i0, hi, hz0, hz1, hz2⟩ := HIF.out
        have HI := Lib.hid (And.intro hz1 hz2)
        have HI2 := Lib.hid hi
        have HI3 := Lib.hid hz0
        clear hc hwf hsn hmem hy hjl hlt ej hjj hown hod hgs hrt hr hk hkl hey hnn hin hgs2 hrt2 hi hz0 hz1 hz2 hwsz
        go_wp2_with (first
          | (go_at_call 48; (with_reducible refine HB.out.mono ?_); rintro e w5 ⟨a5, c5, rfl, -, ho5, hk5⟩; have HO5 := Lib.hid ho5; have K5 := Lib.hid (Kp.trans KX.out hk5); have K6 := Lib.hid (Kp.trans (Kp.trans KX.out hk5) (kp_alloc w5 (.cells #[.slice a5 nn c5] 55))); have OW6 := Lib.hid (own_kp HOW.out K6.out); clear ho5 hk5)
          | (go_at_call 47; (with_reducible refine (must_bytes_t _ _).mono ?_); rintro e w' ⟨rfl, rfl⟩)
          | (at_builtin; refine wpList_append_own _ rfl (.tmp 11) (.tmp 17) 49 rfl w.heap.size 55 i0 (.slice none 0 0) 1 24 Tryz.underlying49 HI2.out HI3.out HI.out.1 HI.out.2 rfl (by decide) _ _ _ rfl OW6.out ⟨w5.heap.size, 0, none⟩ 1 1 [.slice a5 nn c5] rfl ?c1 ?c2 ?c3 ?c4 ?c5 ?c6 ?_))
        case c1 => rfl
        case c2 =>
          intro i u hi
          have hj : i < 1 := (List.getElem?_eq_some_iff.1 hi).1
          obtain rfl : i = 0 := by omega
          have e2 : (Value.slice a5 nn c5) = u := by simpa using hi
          rw [← e2, Addr.add_lit]
          exact box_cell w5 _ _
        case c3 => exact fun u hu => by obtain rfl := List.mem_singleton.1 hu; rfl
        case c4 => unfold maxLen; omega
        case c5 => omega
        case c6 => exact Below.size (Kp.trans HK.out K6.out)
        rintro v6 w6 hown6 hgr6 -
        have kp6 : Kp w w6 := rows_kp OW6.out hgr6 (Kp.trans HK.out K6.out)
        have hb6 : w.heap.size ≤ (wr.alloc (.cells #[.int .i64 k0, .int .i64 n0, .int .i64 s0, .int .i64 r0, .int .i64 u0, .int .i64 p0, .int .i64 q0, .int .i64 o0, .int .i64 d0, .int .i64 e0, .int .i64 t0, .int .i64 hh0, .int .i64 c0, .float .f64 x0] 39)).heap.size := Nat.le_trans HWS.out (Below.size KX.out)
        have od6 : OwB w.heap.size (gs ++ [(ey, Value.slice a5 nn c5)]) w6 := by
          intro g hg
          rcases List.mem_append.1 hg with hg | hg
          · exact ((HOD.out.kp K6.out).grows OW6.out hgr6) g hg
          · obtain rfl := List.mem_singleton.1 hg
            refine ⟨own_grows OW6.out hgr6 (own_kp (own_mono ?_ hb6) (kp_alloc w5 _)) (by decide), HIN.out⟩
            have := HO5.out
            rw [← HNN.out] at this ⊢
            exact this
        have own6 : w6.ownsRow w.heap.size 55 1 v6 (gs ++ [(ey, Value.slice a5 nn c5)]).length ((gs ++ [(ey, Value.slice a5 nn c5)]).map (·.2)) := by
          rw [List.length_append, List.length_singleton, HKL.out, List.map_append]
          exact hown6
        have O6 := Lib.hid own6
        have D6 := Lib.hid od6
        have KQ6 := Lib.hid kp6
        clear own6 od6 kp6 hown6 hgr6 hb6
        go_wp2
        have hjj := HJ.out
        go_roundw
        case rel => exact ⟨j + 1, gs ++ [(ey, Value.slice a5 nn c5)], by omega, by congr 1; omega, HGS2.out _, HRT2.out, O6.out, D6.out, KQ6.out⟩
        case measure => simp [intOf]; omega
    · obtain rfl : j = n := by omega
      have hful : fs.take j = fs := List.take_of_length_le (by rw [HN.out]; exact Nat.le_refl _)
      rw [hful] at hgs hrt
      have HG2 := Lib.hid hgs
      have HA2 := Lib.hid (List.all_eq_true.2 hrt)
      have hex : ¬ jj < j := by omega
      clear hown hod hgs hrt hk hlt hful hjj
      go_wp2
      go_ret
      exact ⟨.inl ⟨List.all_eq_true.1 HA2.out, _, rfl, gs, HG2.out, HOW.out, HOD.out⟩, HK.out⟩

open Go.RowKit Go.ChangeShapes Go.WideShapes

theorem room_of {w : World} {B n c : Nat} {e : TypeId} {v : Value} {a : Option Addr} {us : List Value} {m : Nat} (h : w.ownsRow B e 1 v n us) (hf : v = .slice a m c) : n ≤ c := by
  subst hf
  rcases h.2 with ⟨h1, h2⟩ | ⟨g, cap, cur, h1, h2, h3, h4, h5⟩
  · omega
  · injection h1 with _ _ e3
    omega
theorem OwB.slbc {base b' n : Nat} {gs : List (List Int × Value)} {w : World} {v : Value} (h : OwB base gs w) (hown : w.ownsRow b' 55 1 v n (gs.map (·.2))) : SlBC v (gs.map (·.1)) w := by
  have hl : gs.length = n := by simpa using hown.1
  rcases hown.2 with ⟨rfl, rfl⟩ | ⟨g, cap, cur, rfl, _⟩
  · have : gs = [] := List.length_eq_zero_iff.1 hl
    subst this
    exact .inl ⟨rfl, none, 0, rfl, fun _ => rfl⟩
  · by_cases h0 : n = 0
    · subst h0
      have : gs = [] := List.length_eq_zero_iff.1 hl
      subst this
      exact .inl ⟨rfl, _, _, rfl, fun e => by cases e⟩
    · refine .inr ⟨g, 0, cap, by simp; omega, by simp [hl], fun j hj => ?_⟩
      have hj' : j < gs.length := by simpa using hj
      obtain ⟨h1, h2⟩ := h gs[j] (List.getElem_mem hj')
      obtain ⟨a, c, hf, -⟩ := enc_len h1
      have hc := hown.cellAt j (by omega)
      refine ⟨a, c, ?_, ?_, ?_, ?_⟩
      · rw [Nat.zero_add, hc]
        simp [hj', hf]
      · rw [List.getElem_map, ← hf]
        exact own_slb h1
      · rw [List.getElem_map]
        exact h2
      · rw [List.getElem_map]
        exact room_of h1 hf

/-- what Rows answers, with rooms -/
theorem facRowsC_any (ads : List Addr) (a : Option Addr) (cap n : Nat) (fs : List FX) (hn : fs.length = n) (hl : n ≤ 1000) (w : World) (V : St ads w) (C : FacC ads w) (hs : SlFc (.slice a n cap) fs w) :
    Calls Tryz.prog 17 #[.slice a n cap] w fun e w' => ((fs.all rightF = true ∧ ∃ (a2 : Option Addr) (c2 : Nat), e = .returned (.tuple #[.slice a2 n c2, .nilIface]) ∧ SlBC (.slice a2 n c2) (fs.map encF) w') ∨ (fs.all rightF = false ∧ e = .returned (.tuple #[.slice none 0 0, errI ads 4]))) ∧ Kp w w' := by
  have h3 : 3 < ads.length := by rw [V.len]; decide
  have h4 : errI ads 4 = snt (ads[3]'h3) := errI_at ads 3 h3
  have hmf : ∀ (fn : Fn) (first cap : Array Value) (w : World), (Instr.makeFunc fn first cap).run Tryz.prog w = .ok (.func fn first cap) w := fun _ _ _ _ => rfl
  have kb := kp_alloc w (.cells #[.slice a n cap] 22)
  have hc := box_cell w (.slice a n cap) 22
  have HR := fun (w1 : World) (hk : Kp (w.alloc (.cells #[.slice a n cap] 22)) w1) => rows1_any ads h3 ⟨w.heap.size, 0, none⟩ a cap n fs hn hl w1 (C.kp (Kp.trans kb hk)) (kp_cell hk hc) (hs.kp (Kp.trans kb hk))
  cases hA : fs.all rightF with
  | true =>
    suffices hz : Calls Tryz.prog 17 #[.slice a n cap] w fun e w' => (∃ (a2 : Option Addr) (c2 : Nat), e = .returned (.tuple #[.slice a2 n c2, .nilIface]) ∧ SlBC (.slice a2 n c2) (fs.map encF) w') ∧ Kp w w' from hz.mono (fun _ _ ⟨h, hk⟩ => ⟨.inl ⟨rfl, h⟩, hk⟩)
    have HT := Lib.hid (try_rows_ret 46 #[.pointer (some ⟨w.heap.size, 0, none⟩)] (w.alloc (.cells #[.slice a n cap] 22)) (fun v w1 w2 => ∃ gs : List (List Int × Value), gs.map (·.1) = fs.map encF ∧ w2.ownsRow w1.heap.size 55 1 v gs.length (gs.map (·.2)) ∧ OwB w1.heap.size gs w2 ∧ Kp w1 w2) (by intro w; simp [go_sem]) (fun w1 hb1 _ => (HR w1 hb1).mono (by
      rintro e w2 ⟨⟨_, v, gs, rfl, h1, h2, h3⟩ | ⟨h, _⟩, hk2⟩
      · exact ⟨v, rfl, past_of hk2, gs, h1, h2, h3, hk2⟩
      · rw [hA] at h; cases h)))
    have HN := Lib.hid hn
    have KB := Lib.hid kb
    clear HR hs V C hc h3 h4 hA hn kb
    go_enter Tryz.func17, Tryz.ntmps17
    go_wp2_with (go_at_call 45; (with_reducible refine HT.out.mono ?_); rintro e w5 ⟨v, rfl, w1, w2, hb1, hs1, ⟨gs, hg1, hg2, hg3, hg4⟩, hb2, ha2⟩; have O5 := Lib.hid (own_aside hg2 ha2 (by omega)); have D5 : Hid (OwB w1.heap.size gs w5) := Lib.hid (fun g hg => ⟨own_aside (hg3 g hg).1 ha2 (by omega), (hg3 g hg).2⟩); have K5 := Lib.hid (Kp.trans KB.out (kp_of_mid hb1 hg4 hb2)); have G5 := Lib.hid hg1; clear hb1 hs1 hg1 hg2 hg3 hg4 hb2 ha2)
    go_ret2
    have hl2 : gs.length = n := by
      have := congrArg List.length G5.out
      rw [List.length_map, List.length_map, HN.out] at this
      exact this
    obtain ⟨a2, c2, hv, -⟩ := enc_len O5.out
    have hsl := D5.out.slbc O5.out
    rw [G5.out] at hsl
    rw [hl2] at hv
    subst hv
    first
      | exact ⟨⟨a2, c2, rfl, hsl⟩, K5.out⟩
      | exact ⟨hsl, K5.out⟩
  | false =>
    suffices hz : Calls Tryz.prog 17 #[.slice a n cap] w fun e w' => e = .returned (.tuple #[.slice none 0 0, errI ads 4]) ∧ Kp w w' from hz.mono (fun _ _ ⟨h, hk⟩ => ⟨.inr ⟨rfl, h⟩, hk⟩)
    have HT := Lib.hid (try_rows_err ads 3 h3 46 #[.pointer (some ⟨w.heap.size, 0, none⟩)] (w.alloc (.cells #[.slice a n cap] 22)) (V.below kb) (by intro w; simp [go_sem]) (fun w1 hb1 => (HR w1 hb1).mono (by
      rintro e w2 ⟨⟨h, _⟩ | ⟨_, rfl⟩, hk2⟩
      · rw [hA] at h; cases h
      · exact ⟨rfl, hk2⟩)))
    rw [← h4] at HT
    have KB := Lib.hid kb
    clear HR hs V C hc h4 hA hn kb
    go_enter Tryz.func17, Tryz.ntmps17
    go_wp2_with (go_at_call 45; (with_reducible refine HT.out.mono ?_); rintro e w5 ⟨rfl, hk5⟩; have K5 := Lib.hid (Kp.trans KB.out hk5); clear hk5)
    go_ret2
    exact ⟨rfl, K5.out⟩
open Go.RowKit Go.ChangeShapes Go.WideShapes

theorem seat15_fields : Tryz.prog.underlying 67 = some (.struct (Tryz.prog.fieldsOf 67)) := by
  unfold Program.fieldsOf
  rw [Tryz.underlying67]
theorem seat15_neq (a b c d : Int) (w : World) : (binOp .neq 67 (.agg #[.int .i64 a, .int .i64 b, .int .i64 c, .int .i64 d]) (.agg #[.int .i64 a, .int .i64 b, .int .i64 c, .int .i64 d])).run Tryz.prog w = .ok (.bool false) w := by
  have ha : Tryz.prog.stoodInHeld 67 = false := by kernel_rfl
  rw [run_neq_struct, show (10000 : Nat) = 9999 + 1 from rfl, run_equalIn_agg w 9999 67 _ _ seat15_fields ha]
  simp [Program.fieldsOf, Tryz.underlying67, Op.eqFields, part, go_sem, Tryz.underlying3]
theorem seat15_guard (op : BinOp) (x y : Operand) (a b c d a' b' c' d' : Int) (w : World) : (eqGuard op 67 x y (.agg #[.int .i64 a, .int .i64 b, .int .i64 c, .int .i64 d]) (.agg #[.int .i64 a', .int .i64 b', .int .i64 c', .int .i64 d'])).run Tryz.prog w = .ok () w := run_eqGuard_agg w op 67 x y _ _ (by kernel_rfl)
theorem doS_node {m m2 : StM} {f : FX} (h : doS m f = some m2) : m2.node = m.node := by
  unfold doS at h
  repeat' split at h
  all_goals first
    | (cases h; done)
    | (obtain rfl := Option.some.inj h; rfl)
    | (obtain ⟨z, -, hz⟩ := Option.map_eq_some_iff.1 h; subst hz; rfl)
    | (unfold actS at h; repeat' split at h
       all_goals first
         | (cases h; done)
         | (obtain rfl := Option.some.inj h; rfl)
         | (obtain ⟨z, -, hz⟩ := Option.map_eq_some_iff.1 h; subst hz; rfl))
theorem applyQ_stay {m : StM} {f : FX} (h : (applyQ m f).1 ≠ 0) : (applyQ m f).2 = m := by
  cases hr : rightF f with
  | false => rw [applyQ_bad hr]
  | true =>
    cases hd : doS m f with
    | none => rw [applyQ_none hr hd]
    | some m2 => rw [applyQ_some hr hd] at h; exact absurd rfl h
theorem applyQ_yes {m : StM} {f : FX} (h : (applyQ m f).1 = 0) : rightF f = true ∧ doS m f = some (applyQ m f).2 := by
  cases hr : rightF f with
  | false => rw [applyQ_bad hr] at h; exact absurd h (by simp)
  | true =>
    cases hd : doS m f with
    | none => rw [applyQ_none hr hd] at h; exact absurd h (by simp)
    | some m2 => rw [applyQ_some hr hd]; exact ⟨rfl, rfl⟩
theorem applyQ_node {m : StM} {f : FX} : (applyQ m f).2.node = m.node := by
  by_cases h : (applyQ m f).1 = 0
  · exact doS_node (applyQ_yes h).2
  · rw [applyQ_stay h]
theorem applyQ_twice {m : StM} {f : FX} (ok : OkS m) (h : (applyQ m f).1 = 0) (h3 : f.k ≠ 3) (h8 : f.k ≠ 8) : applyQ (applyQ m f).2 f = (9, (applyQ m f).2) := by
  obtain ⟨hr, hd⟩ := applyQ_yes h
  exact applyQ_none hr (twiceS ok hr h3 h8 hd)
theorem applyQ_ended {m : StM} {f : FX} (h : (applyQ m f).1 = 0) (i : Nat) (x : PaM) (hx : m.parts[i]? = some x) (hz : x.z.s = 14) : ∃ y, (applyQ m f).2.parts[i]? = some y ∧ y.z = x.z := endedS (applyQ_yes h).2 i x hx hz
theorem rowsRun_enc : ∀ (l : List FX) (m m' : StM), runS m l = some m' → rowsRun m (l.map encF) = some m'
  | [], _, _, h => h
  | f :: l, m, m', h => by
    have hr := run_right (f :: l) m m' h f List.mem_cons_self
    unfold runS at h
    cases hs : stepS m f with
    | none => rw [hs] at h; simp at h
    | some m2 =>
      rw [hs] at h
      have h : runS m2 l = some m' := h
      unfold stepS at hs
      rw [if_pos hr] at hs
      show rowsRun m (encF f :: l.map encF) = some m'
      unfold rowsRun
      rw [dec_encF hr, applyQ_some hr hs]
      exact rowsRun_enc l m2 m' h
theorem replay_rows {m : StM} (ok : OkS m) : rowsRun (newSt m.node) ((factsS m).map encF) = some m := rowsRun_enc _ _ _ (replay ok)
theorem all_right {m : StM} (ok : OkS m) : (factsS m).all rightF = true := List.all_eq_true.2 fun f hf => run_right _ _ _ (replay ok) f hf
theorem own_slfc {w : World} {B n : Nat} {v : Value} {xs : List FX} (o : w.ownsRow B 39 14 v n (fcE.row xs)) (hn : xs.length = n) (hw : ∀ f ∈ xs, f.wf) : SlFc v xs w := by
  subst hn
  obtain ⟨a, c, rfl⟩ := own_formG o
  refine ⟨a, c, rfl, fun j hj => ?_⟩
  obtain ⟨g, cp, e, _, _, _, _, hc⟩ := own_cellQ (E := fcE) o rfl hj
  injection e with e _ _
  refine ⟨g, 0, e, hw _ (List.getElem_mem hj), fun i u hu => ?_⟩
  rw [Nat.zero_add]
  have hi : i < 14 := by
    obtain ⟨h, _⟩ := Array.getElem?_eq_some_iff.1 hu
    exact h
  exact hc i u hi (by show (xs[j].cells.toList)[i]? = some u; rw [Array.getElem?_toList]; exact hu)
theorem GS.beside {T : TyQ} {B q : Nat} {m : StM} {gs : List AcG} {va vp : Value} {O O' : Nat → Prop} {w w' : World} (h : GS T B q m gs va vp w) (a : Asd O O' w w') (hd : ∀ b, Ow q gs va vp b → ¬ O b) : GS T B q m gs va vp w' := h.stay fun b hb => a.block b (h.mem b hb).2 (hd b hb)
end Go.Proofs.YtpemeenfhkgmpaaGreatDoor
