/-
  PARTS OF THIS PROOF (own work): LsE, SlN, TabC, MsA, RefL, MsB, ArrE, TbA, TbE.
-/
import Derived.Test.YtpemeenfhkgmpaaGreatDoorZb16
import Derived.Test.YtpemeenfhkgmpaaGreatDoorZb01
import Derived.ArgAppend
import Derived.OwnWalk
import Derived.LoopTactic
import Derived.Lib.Hide
import Derived.Test.YtpemeenfhkgmpaaGreatDoorZb09
import Derived.Test.YtpemeenfhkgmpaaGreatDoorZb11
import Derived.Laws.StructEq
import Derived.Test.YtpemeenfhkgmpaaGreatDoorZb10
import Derived.ChangeKeysEq
import Derived.Lib.SmallJoins
import Derived.Laws.EntriesVeiled
namespace Go.Proofs.YtpemeenfhkgmpaaGreatDoor
open Go.RowKit Go.ChangeShapes Go.WideShapes

/-- ACTIVITIES IN MEMORY OF THEIR OWN, from N on -/
def OwnL (N : Nat) (A : List AcM) (v : Value) (w : World) : Prop :=
  ∃ ga : List AcG, ga.map AcG.a = A ∧ w.ownsRow N 65 8 v ga.length (acE.row ga) ∧ (∀ g ∈ ga, w.ownsRow N 69 6 g.v g.a.regs.length (rgE.row g.a.regs)) ∧
    (∀ (i j : Nat) (g h : AcG), ga[i]? = some g → ga[j]? = some h → i ≠ j → ∀ b, g.v.ownBlock = some b → h.v.ownBlock ≠ some b)
theorem dis_app2 {ga : List AcG} {g' : AcG} {N : Nat} (hd : ∀ (i j : Nat) (g h : AcG), ga[i]? = some g → ga[j]? = some h → i ≠ j → ∀ b, g.v.ownBlock = some b → h.v.ownBlock ≠ some b) (hN : ∀ x ∈ ga, ∀ b, x.v.ownBlock = some b → b < N) (hn : ∀ b, g'.v.ownBlock = some b → N ≤ b) :
    ∀ (k j : Nat) (g h : AcG), (ga ++ [g'])[k]? = some g → (ga ++ [g'])[j]? = some h → k ≠ j → ∀ b, g.v.ownBlock = some b → h.v.ownBlock ≠ some b := by
  have at' : ∀ (k : Nat) (x : AcG), (ga ++ [g'])[k]? = some x → ga[k]? = some x ∨ (x = g' ∧ k = ga.length) := by
    intro k x h
    rw [List.getElem?_append] at h
    split at h
    · exact .inl h
    · right
      rename_i hk
      rw [List.getElem?_singleton] at h
      split at h
      · rename_i h0
        exact ⟨by injection h with h; exact h.symm, by omega⟩
      · cases h
  intro k j g h hk hj hne b e1 e2
  rcases at' k g hk with hk2 | ⟨rfl, hk2⟩
  · rcases at' j h hj with hj2 | ⟨rfl, hj2⟩
    · exact hd k j g h hk2 hj2 hne b e1 e2
    · have := hN g (List.mem_of_getElem? hk2) b e1
      have := hn b e2
      omega
  · rcases at' j h hj with hj2 | ⟨rfl, hj2⟩
    · have := hN h (List.mem_of_getElem? hj2) b e2
      have := hn b e1
      omega
    · omega
variable {w0 w w' W w3 : World} {B q : Nat} {m : StM} {gs : List AcG} {va vp : Value}

set_option maxRecDepth 100000 in
set_option maxHeartbeats 8000000 in
theorem stActs (H : GS tyL B q m gs va vp w) (h8 : gs.length ≤ 8) (h6 : ∀ a ∈ m.acts, a.regs.length ≤ 6) : Calls Tryz.prog 21 #[.pointer (some ⟨q, 0, none⟩)] w fun r w' => ∃ v, r = .returned v ∧ OwnL w.heap.size m.acts v w' ∧ Kp w w' := by
  have h6' : ∀ g ∈ gs, g.a.regs.length ≤ 6 := fun g hg => h6 _ (by rw [H.acts]; exact List.mem_map_of_mem hg)
  obtain ⟨a0, c0, eva⟩ := H.vForm
  subst eva
  obtain ⟨len, hl⟩ : ∃ x, gs.length = x := ⟨_, rfl⟩
  have e0 : w.cell? ⟨q, 2, none⟩ = some (.slice a0 len c0) := by rw [← hl]; exact cellU (i := 2) H.row rfl
  have ho : w.ownsRow B 65 8 (.slice a0 len c0) len (acE.row gs) := by have := H.oa; rw [hl] at this; exact this
  obtain ⟨L, hL⟩ : ∃ L : Int, (len : Int) = L := ⟨_, rfl⟩
  have HH := Lib.hid H
  have HO := Lib.hid ho
  have HL := Lib.hid hl
  have H8 := Lib.hid h8
  have H6 := Lib.hid h6'
  have HLL := Lib.hid hL
  have hsf := store_fl
  clear H h8 h6 h6' ho hl
  go_enter Tryz.func21, Tryz.ntmps21
  go_wp2
  go_loopw [3, 11] (fun v i wr => ∃ (j : Nat) (ga : List AcG), j ≤ len ∧ i = .int .i64 j ∧ ga.map AcG.a = (gs.take j).map AcG.a ∧ wr.ownsRow w.heap.size 65 8 v ga.length (acE.row ga) ∧ (∀ g ∈ ga, wr.ownsRow w.heap.size 69 6 g.v g.a.regs.length (rgE.row g.a.regs)) ∧ (∀ (i j : Nat) (g h : AcG), ga[i]? = some g → ga[j]? = some h → i ≠ j → ∀ b, g.v.ownBlock = some b → h.v.ownBlock ≠ some b) ∧ Kp w wr) (fun _ i _ => len - (intOf i).toNat)
  case atStart => exact ⟨0, [], Nat.zero_le _, rfl, rfl, World.ownsRow_nil _ _ _ _, (fun g hg => by cases hg), (fun i j g h hi => by simp at hi), Kp.refl _⟩
  case round =>
    obtain ⟨j, ga, hj, rfl, hga, hown, hog, hdis, hk⟩ := hrel
    obtain ⟨jj, hjj⟩ : ∃ jj : Int, (j : Int) = jj := ⟨_, rfl⟩
    rw [hjj]
    have KR := Lib.hid hk
    have OW := Lib.hid hown
    have OG := Lib.hid hog
    have DS := Lib.hid hdis
    have GA := Lib.hid hga
    have HJ := Lib.hid hjj
    obtain ⟨la, hla⟩ : ∃ x, ga.length = x := ⟨_, rfl⟩
    have hlaj : la = j := by
      have := congrArg List.length hga
      rw [List.length_map, List.length_map, List.length_take, hla] at this
      have := HL.out
      omega
    obtain ⟨a1, c1, rfl⟩ := own_formG hown
    rw [hla]
    have HLA := Lib.hid hla
    have HLJ := Lib.hid hlaj
    by_cases hlt : j < len
    · have hjl : jj < L := by omega
      have hj0 : 0 ≤ jj := by omega
      have hL8 : L ≤ 8 := by have := HL.out; have := H8.out; omega
      have htn : jj.toNat = j := by omega
      have ow := own_kp HO.out hk
      obtain ⟨g, cp, ev, hcp, hgB, hgl, hfz, hcell⟩ := own_cellQ (E := acE) ow HL.out hlt
      have ev := congrArg (fun v => match v with | Value.slice a _ _ => a | _ => none) ev
      dsimp only at ev
      subst ev
      have hjo : j < gs.length := by have := HL.out; omega
      obtain ⟨⟨⟨⟨xn, xs, xo, xd, xx⟩, xp, xc, xr⟩, xb, xk⟩, hx⟩ : ∃ x, gs[j]'hjo = x := ⟨_, rfl⟩
      rw [hx, show acE.k = 8 from rfl, ← htn] at hcell
      obtain ⟨xv, hxv⟩ : ∃ v, (⟨⟨⟨xn, xs, xo, xd, xx⟩, xp, xc, xr⟩, xb, xk⟩ : AcG).v = v := ⟨_, rfl⟩
      have x0 : wr.cell? ⟨g, jj.toNat * 8, none⟩ = some (.int .i64 xn) := hcell 0 _ (by decide) rfl
      have x1 : wr.cell? ⟨g, jj.toNat * 8 + 1, none⟩ = some (.int .i64 xs) := hcell 1 _ (by decide) rfl
      have x2 : wr.cell? ⟨g, jj.toNat * 8 + 2, none⟩ = some (.int .i64 xo) := hcell 2 _ (by decide) rfl
      have x3 : wr.cell? ⟨g, jj.toNat * 8 + 3, none⟩ = some (.int .i64 xd) := hcell 3 _ (by decide) rfl
      have x4 : wr.cell? ⟨g, jj.toNat * 8 + 4, none⟩ = some (.float .f64 xx) := hcell 4 _ (by decide) rfl
      have x5 : wr.cell? ⟨g, jj.toNat * 8 + 5, none⟩ = some (.int .i64 xp) := hcell 5 _ (by decide) rfl
      have x6 : wr.cell? ⟨g, jj.toNat * 8 + 6, none⟩ = some (.int .i64 xc) := hcell 6 _ (by decide) rfl
      have x7 : wr.cell? ⟨g, jj.toNat * 8 + 7, none⟩ = some xv := by rw [← hxv]; exact hcell 7 _ (by decide) rfl
      unfold AcG.v at hxv
      dsimp only at hxv
      obtain ⟨nv, hnv⟩ : ∃ n, xr.length = n := ⟨_, rfl⟩
      rw [hnv] at hxv
      subst hxv
      have hbox := (MapKept.heap_alloc wr (.cells #[.int .i64 xn, .int .i64 xs, .int .i64 xo, .int .i64 xd, .float .f64 xx, .int .i64 xp, .int .i64 xc, .slice xb nv xk] 65)).1
      obtain ⟨y0, y1, y2, y3, y4, y5, y6, y7⟩ := cells_8 hbox
      have kb := Kp.trans hk (kp_alloc wr (.cells #[.int .i64 xn, .int .i64 xs, .int .i64 xo, .int .i64 xd, .float .f64 xx, .int .i64 xp, .int .i64 xc, .slice xb nv xk] 65))
      have hgm : (⟨⟨⟨xn, xs, xo, xd, xx⟩, xp, xc, xr⟩, xb, xk⟩ : AcG) ∈ gs := by rw [← hx]; exact List.getElem_mem hjo
      have hP : PartG rgE (.slice xb nv xk) xr w := by have := own_partG (E := rgE) (by decide) (HH.out.og _ hgm); unfold AcG.v at this; dsimp only at this; rw [hnv] at this; exact this
      have h66 : xr.length ≤ 6 := H6.out _ hgm
      have HAP := Lib.hid (apart_any (w := wr.alloc (.cells #[.int .i64 xn, .int .i64 xs, .int .i64 xo, .int .i64 xd, .float .f64 xx, .int .i64 xp, .int .i64 xc, .slice xb nv xk] 65)) xn xs xo xd xx xp xc xb nv xk xr hnv (by omega) (hP.kp kb))
      have KB := Lib.hid (kp_alloc wr (.cells #[.int .i64 xn, .int .i64 xs, .int .i64 xo, .int .i64 xd, .float .f64 xx, .int .i64 xp, .int .i64 xc, .slice xb nv xk] 65))
      have hsn : gs.take (j + 1) = gs.take j ++ [gs[j]] := by rw [← List.take_succ_eq_append_getElem hjo]
      rw [hx] at hsn
      have HSN := Lib.hid hsn
      have HLT := Lib.hid hlt
      have HNV := Lib.hid hnv
      have hw1 : wrap64 (jj + 1) = jj + 1 := IntWalk.wrap64_in _ (by omega)
      have LA := Lib.hid (show la ≤ 8 by omega)
      clear hcell hx hk hjj hj hlt htn ow hown hog hdis hga hla hlaj hP h66 hgm kb hbox hsn hnv
      go_wp2_with (first
        | (go_at_call 55; (with_reducible refine HAP.out.mono ?_); rintro e' w3 ⟨o3, c3, rfl, hO, hk3⟩; have K3 := Lib.hid hk3; have O3 := Lib.hid hO; clear hO hk3)
        | (at_builtin; refine wpList_append_rwG (E := acE) ty_acL (by decide) _ rfl _ _ rfl w.heap.size _ la ga rfl (own_kp (by have := OW.out; rw [HLA.out] at this; exact this) (Kp.trans KB.out (Kp.trans K3.out (kp_alloc _ _)))) _ [⟨⟨⟨xn, xs, xo, xd, xx⟩, xp, xc, xr⟩, o3, c3⟩] rfl (part_oneG (MapKept.heap_alloc w3 (.cells #[.int .i64 xn, .int .i64 xs, .int .i64 xo, .int .i64 xd, .float .f64 xx, .int .i64 xp, .int .i64 xc, .slice o3 nv c3] 65)).1 (by simp only [acE, AcG.v]; rw [HNV.out])) ?f1 ?f2 ?_))
      case f1 => have := LA.out; simp; omega
      case f2 => exact kp_size (Kp.trans KR.out (Kp.trans KB.out (Kp.trans K3.out (kp_alloc _ _))))
      rintro v6 w6 o6 hg hb6
      have kx := Kp.trans KB.out (Kp.trans K3.out (kp_alloc w3 (.cells #[.int .i64 xn, .int .i64 xs, .int .i64 xo, .int .i64 xd, .float .f64 xx, .int .i64 xp, .int .i64 xc, .slice o3 nv c3] 65)))
      have OWX := own_kp OW.out kx
      rw [HLA.out] at OWX
      have k6 : Kp w w6 := Below.grown (Kp.trans KR.out kx) hg (Below.size (Kp.trans KR.out kx)) (fun k hk => (OWX.lt k hk).1)
      have O6 := Lib.hid o6
      have K6 := Lib.hid k6
      have og6 : ∀ g ∈ ga ++ [⟨⟨⟨xn, xs, xo, xd, xx⟩, xp, xc, xr⟩, o3, c3⟩], w6.ownsRow w.heap.size 69 6 g.v g.a.regs.length (rgE.row g.a.regs) := by
        intro g hgm
        rcases List.mem_append.1 hgm with h | h
        · refine own_stayG (own_kp (OG.out g h) kx) (fun b e => hg.block b ((own_kp (OG.out g h) kx).lt b e).2 (fun e2 => own_apartQ OWX (own_kp (OG.out g h) kx) (by decide) b e2.symm e))
        · obtain rfl := List.mem_singleton.1 h
          have o3' : (w3.alloc (.cells #[.int .i64 xn, .int .i64 xs, .int .i64 xo, .int .i64 xd, .float .f64 xx, .int .i64 xp, .int .i64 xc, .slice o3 nv c3] 65)).ownsRow w.heap.size 69 6 (.slice o3 xr.length c3) xr.length (rgE.row xr) := by rw [HNV.out]; exact own_kp (own_baseG O3.out (kp_size (Kp.trans KR.out KB.out))) (kp_alloc _ _)
          exact own_stayG o3' (fun b e => hg.block b (o3'.lt b e).2 (fun e2 => own_apartQ OWX o3' (by decide) b e2.symm e))
      have ds6 := dis_app2 (g' := ⟨⟨⟨xn, xs, xo, xd, xx⟩, xp, xc, xr⟩, o3, c3⟩) DS.out (N := wr.heap.size) (fun x hx b e => ((OG.out x hx).lt b e).2) (fun b e => Nat.le_trans (kp_size KB.out) (O3.out.lt b (by rw [← HNV.out]; exact e)).1)
      have OG6 := Lib.hid og6
      have DS6 := Lib.hid ds6
      clear o6 hg hb6 kx OWX k6 og6 ds6
      go_wp2
      go_roundw
      case rel => exact ⟨j + 1, ga ++ [⟨⟨⟨xn, xs, xo, xd, xx⟩, xp, xc, xr⟩, o3, c3⟩], by have := HLT.out; omega, by have := HJ.out; rw [show ((j + 1 : Nat) : Int) = jj + 1 by omega], by rw [HSN.out, List.map_append, List.map_append, GA.out]; rfl, by rw [List.length_append, HLA.out]; exact O6.out, OG6.out, DS6.out, K6.out⟩
      case measure => have := HJ.out; have := HLT.out; simp [intOf]; omega
    · have hje : ¬ jj < L := by omega
      have hjl : j = len := by omega
      have hfin : ga.map AcG.a = m.acts := by rw [hga, HH.out.acts, hjl, ← HL.out, List.take_length]
      have HF := Lib.hid hfin
      clear hk hown hog hdis hga hjj hj hlt hla hlaj hjl hfin
      go_wp2
      go_ret
      exact ⟨_, rfl, ⟨ga, HF.out, by rw [← HLA.out] at *; exact OW.out, OG.out, DS.out⟩, KR.out⟩
open Go.RowKit Go.ChangeShapes Go.WideShapes

/-- THE SLICE VALUE v READS AS THE ints bs. -/
def SlI (v : Value) (bs : List Int) (w : World) : Prop :=
  (bs = [] ∧ ∃ a cap, v = .slice a 0 cap) ∨
  ∃ b off cap, 0 < bs.length ∧ v = .slice (some ⟨b, off, none⟩) bs.length cap ∧ ∀ j, j < bs.length → w.cell? ⟨b, off + j, none⟩ = some (.int .i64 (bs.getD j 0))

theorem SlI.kp {v : Value} {bs : List Int} {w w' : World} (h : SlI v bs w) (hb : Kp w w') : SlI v bs w' := by
  rcases h with h | ⟨b, off, cap, h0, h1, h2⟩
  · exact Or.inl h
  · exact Or.inr ⟨b, off, cap, h0, h1, fun j hj => kp_cell hb (h2 j hj)⟩

theorem SlI.form {v : Value} {bs : List Int} {w : World} (h : SlI v bs w) : ∃ a cap, v = .slice a bs.length cap := by
  rcases h with ⟨rfl, a, cap, rfl⟩ | ⟨b, off, cap, _, rfl, _⟩
  · exact ⟨a, cap, rfl⟩
  · exact ⟨_, cap, rfl⟩

theorem SlI.at {a : Option Addr} {n cap : Nat} {bs : List Int} {w : World} (h : SlI (.slice a n cap) bs w) (j : Nat) (hj : j < bs.length) : ∃ b off, a = some ⟨b, off, none⟩ ∧ w.cell? ⟨b, off + j, none⟩ = some (.int .i64 (bs.getD j 0)) := by
  rcases h with ⟨hz, _⟩ | ⟨b, off, cap', _, hv, hcc⟩
  · rw [hz] at hj; cases hj
  · injection hv with hv1 _ _
    exact ⟨b, off, hv1, hcc j hj⟩

theorem own_sli {w : World} {base n : Nat} {v : Value} {bs : List Int} (h : w.ownsRow base 3 1 v n (bs.map (Value.int .i64))) : SlI v bs w := by
  obtain ⟨h1, h2⟩ := h
  have hlen : bs.length = n := by simpa using h1
  rcases h2 with ⟨rfl, hn⟩ | ⟨g, cap, cur, rfl, hg, hh, hc, hm, hs, ht⟩
  · left
    exact ⟨List.length_eq_zero_iff.1 (by omega), none, 0, rfl⟩
  · by_cases h0 : n = 0
    · left
      subst h0
      exact ⟨List.length_eq_zero_iff.1 (by omega), _, cap, rfl⟩
    · right
      refine ⟨g, 0, cap, by omega, by rw [hlen], fun j hj => ?_⟩
      unfold World.cell?
      dsimp only
      rw [hh]
      simp only [Option.isSome_none, Bool.false_eq_true, if_false, Nat.zero_add]
      have : (cur.toList.take (n * 1))[j]? = some (.int .i64 (bs.getD j 0)) := by
        rw [ht]; simp [List.getD, hj]
      rw [List.getElem?_take, Nat.mul_one, if_pos (by omega)] at this
      simpa using this

open Go.RowKit Go.ChangeShapes Go.WideShapes

def i64T (x : Int) : Prop := -9223372036854775808 ≤ x ∧ x ≤ 9223372036854775807
instance (x : Int) : Decidable (i64T x) := by unfold i64T; infer_instance
structure TabC (ads : List Addr) (w : World) : Prop where
  waits : ∀ w1, Kp w w1 → ∀ p e s : Int, i64T p → i64T e → i64T s → Calls Tryz.prog 160 #[.int .i64 p, .int .i64 e, .int .i64 s] w1 fun e' w' => e' = .returned (.tuple #[.int .i64 (waitsT p e s).2, errI ads (waitsT p e s).1]) ∧ Kp w1 w'
theorem TabC.kp {ads : List Addr} {w w' : World} (C : TabC ads w) (hk : Kp w w') : TabC ads w' where
  waits := fun w1 h => C.waits w1 (Kp.trans hk h)
open Go.RowKit Go.ChangeShapes Go.WideShapes

theorem errI_ifaceM (ads : List Addr) (k : Int) (h : k ≠ 0) : ∃ q, errI ads k = .iface 240 (.pointer q) := ⟨_, if_neg h⟩
def howOk (z : SeatM) : Bool := if z.s = 14 then decide (z.h = 1 ∨ (4 ≤ z.h ∧ z.h ≤ 8)) else decide (z.h = 0)
theorem right_how (z : SeatM) : z.right = (rightT z.p z.e && hasT z.p z.e z.s && howOk z) := rfl
set_option maxRecDepth 100000 in
theorem msHow_any (z : SeatM) (w : World) : Calls Tryz.prog 161 #[.agg (seatV z)] w fun r w' => r = .returned (.bool (howOk z)) ∧ Kp w w' := by
  obtain ⟨p, e, s, h⟩ := z
  dsimp only [seatV]
  have KB := Lib.hid (kp_alloc w (.cells #[.int .i64 p, .int .i64 e, .int .i64 s, .int .i64 h] 67))
  have HR := Lib.hid (MapKept.heap_alloc w (.cells #[.int .i64 p, .int .i64 e, .int .i64 s, .int .i64 h] 67)).1
  obtain ⟨g0, g1, g2, g3⟩ := cells_4 HR.out
  by_cases h14 : s = 14
  · subst h14
    by_cases h1 : h = 1
    · subst h1; rw [show howOk ⟨p, e, 14, 1⟩ = true by simp [howOk]]; (go_enter Tryz.func161, Tryz.ntmps161; go_wp2; go_ret; exact ⟨rfl, KB.out⟩)
    by_cases h4 : h = 4
    · subst h4; rw [show howOk ⟨p, e, 14, 4⟩ = true by simp [howOk]]; (go_enter Tryz.func161, Tryz.ntmps161; go_wp2; go_ret; exact ⟨rfl, KB.out⟩)
    by_cases h5 : h = 5
    · subst h5; rw [show howOk ⟨p, e, 14, 5⟩ = true by simp [howOk]]; (go_enter Tryz.func161, Tryz.ntmps161; go_wp2; go_ret; exact ⟨rfl, KB.out⟩)
    by_cases h6 : h = 6
    · subst h6; rw [show howOk ⟨p, e, 14, 6⟩ = true by simp [howOk]]; (go_enter Tryz.func161, Tryz.ntmps161; go_wp2; go_ret; exact ⟨rfl, KB.out⟩)
    by_cases h7 : h = 7
    · subst h7; rw [show howOk ⟨p, e, 14, 7⟩ = true by simp [howOk]]; (go_enter Tryz.func161, Tryz.ntmps161; go_wp2; go_ret; exact ⟨rfl, KB.out⟩)
    by_cases h8 : h = 8
    · subst h8; rw [show howOk ⟨p, e, 14, 8⟩ = true by simp [howOk]]; (go_enter Tryz.func161, Tryz.ntmps161; go_wp2; go_ret; exact ⟨rfl, KB.out⟩)
    have b1 : (h == 1) = false := by simpa using h1
    have b4 : (h == 4) = false := by simpa using h4
    have b5 : (h == 5) = false := by simpa using h5
    have b6 : (h == 6) = false := by simpa using h6
    have b7 : (h == 7) = false := by simpa using h7
    have b8 : (h == 8) = false := by simpa using h8
    rw [show howOk ⟨p, e, 14, h⟩ = false by simp only [howOk, if_true]; exact decide_eq_false (by omega)]
    clear h1 h4 h5 h6 h7 h8
    (go_enter Tryz.func161, Tryz.ntmps161; go_wp2; go_ret; exact ⟨rfl, KB.out⟩)
  · rw [show howOk ⟨p, e, s, h⟩ = (h == 0) by simp [howOk, h14]; rw [Bool.eq_iff_iff]; simp]
    have b14 : (s == 14) = false := by simpa using h14
    clear h14
    (go_enter Tryz.func161, Tryz.ntmps161; go_wp2; go_ret; exact ⟨rfl, KB.out⟩)
set_option maxRecDepth 100000 in
theorem msRight_any {ads : List Addr} (z : SeatM) (hz : z.ok) (w : World) (T : TabC ads w) : Calls Tryz.prog 148 #[.agg (seatV z)] w fun r w' => r = .returned (.bool z.right) ∧ Kp w w' := by
  obtain ⟨p, e, s, h⟩ := z
  obtain ⟨ip, ie, is, -⟩ := hz
  dsimp only [seatV]
  have KB := Lib.hid (kp_alloc w (.cells #[.int .i64 p, .int .i64 e, .int .i64 s, .int .i64 h] 67))
  have HR := Lib.hid (MapKept.heap_alloc w (.cells #[.int .i64 p, .int .i64 e, .int .i64 s, .int .i64 h] 67)).1
  obtain ⟨g0, g1, g2, g3⟩ := cells_4 HR.out
  have hw := T.waits _ KB.out p e s ip ie is
  rw [right_how]
  clear ip ie is T
  dsimp only
  cases hr : rightT p e with
  | false =>
    obtain ⟨q, hq⟩ := errI_ifaceM ads 14 (by decide)
    simp only [waitsT, hr, if_true, hq] at hw
    have HW := Lib.hid hw
    clear hw hr hq
    go_enter Tryz.func148, Tryz.ntmps148
    go_wp2_with (go_at_call 160; (with_reducible refine HW.out.mono ?_); rintro e' w1 ⟨rfl, hk⟩; have K1 := Lib.hid (Kp.trans KB.out hk); have R1 := kp_row hk HR.out; obtain ⟨q0, q1, q2, q3⟩ := cells_4 R1; clear hk)
    go_ret
    exact ⟨rfl, K1.out⟩
  | true =>
    cases hs : hasT p e s with
    | false =>
      obtain ⟨q, hq⟩ := errI_ifaceM ads 1 (by decide)
      simp only [waitsT, hr, hs, if_true, if_false, Bool.true_eq_false, hq] at hw
      have HW := Lib.hid hw
      clear hw hr hs hq
      go_enter Tryz.func148, Tryz.ntmps148
      go_wp2_with (go_at_call 160; (with_reducible refine HW.out.mono ?_); rintro e' w1 ⟨rfl, hk⟩; have K1 := Lib.hid (Kp.trans KB.out hk); have R1 := kp_row hk HR.out; obtain ⟨q0, q1, q2, q3⟩ := cells_4 R1; clear hk)
      go_ret
      exact ⟨rfl, K1.out⟩
    | true =>
      simp only [waitsT, hr, hs, if_false, Bool.true_eq_false, errI_nil] at hw
      have HW := Lib.hid hw
      have HH := Lib.hid (fun w => msHow_any ⟨p, e, s, h⟩ w)
      dsimp only [seatV] at HH
      obtain ⟨b, hb⟩ : ∃ b, howOk ⟨p, e, s, h⟩ = b := ⟨_, rfl⟩
      rw [hb] at HH ⊢
      clear hw hr hs hb
      go_enter Tryz.func148, Tryz.ntmps148
      go_wp2_with (first | (go_at_call 160; (with_reducible refine HW.out.mono ?_); rintro e' w1 ⟨rfl, hk⟩; have K1 := Lib.hid (Kp.trans KB.out hk); have R1 := kp_row hk HR.out; obtain ⟨q0, q1, q2, q3⟩ := cells_4 R1; clear hk) | (go_at_call 161; (with_reducible refine (HH.out _).mono ?_); rintro e' w2 ⟨rfl, hk⟩; have K2 := Lib.hid (Kp.trans K1.out hk); clear hk))
      go_ret
      exact ⟨by simp, K2.out⟩
open Go.RowKit Go.ChangeShapes Go.WideShapes

theorem results_row_tmpT {P : Program} {fn : Func} {p u : Tmp} {ty : TypeId} (h : fn.results = #[.cell p ty, .tmp u]) (tmps : Array Value) (w : World) (g : Nat) (t : TypeId) (cs : Array Value) (fr : Nat × Nat) (d : TypeDesc)
    (hp : tmps.getD p undef = .pointer (some ⟨g, 0, none⟩)) (hg : w.heap[g]? = some (.cells cs t fr))
    (hu : P.underlying ty = some d) (hd : (match d with | .struct _ | .array _ _ => true | _ => false) = true) (hi : (P.info? ty).map (·.size) = some cs.size) :
    (results fn tmps).run P w = .ok (.tuple #[.agg cs, tmps.getD u undef]) w := by
  have hp' : tmps[p]?.getD undef = .pointer (some ⟨g, 0, none⟩) := by simpa using hp
  simp [results, h, hp', asAddr, run_loadVar_row w g t ty cs fr d hg hu hd hi]
theorem hasT_rng {p e s : Int} (h : hasT p e s = true) : s = 1 ∨ s = 2 ∨ s = 3 ∨ s = 4 ∨ s = 5 ∨ s = 6 ∨ s = 7 ∨ s = 8 ∨ s = 9 ∨ s = 10 ∨ s = 11 ∨ s = 12 ∨ s = 13 ∨ s = 14 := by
  unfold hasT at h
  split at h
  · omega
  split at h
  · omega
  · have := of_decide_eq_true h; omega
theorem rightT_rng {p e : Int} (h : rightT p e = true) : (p = 1 ∨ p = 2) ∧ (e = 1 ∨ e = 2) := of_decide_eq_true h
open Go.RowKit Go.ChangeShapes Go.WideShapes

theorem set_4_drew {b : Nat} {t : TypeId} {w : World} {x0 x1 x2 x3 : Value} (y0 y1 y2 y3 : Value) (h : w.heap[b]? = some (.cells #[x0, x1, x2, x3] t (0, 0))) : ((((w.setCell ⟨b, 0, none⟩ y0).setCell ⟨b, 1, none⟩ y1).setCell ⟨b, 2, none⟩ y2).setCell ⟨b, 3, none⟩ y3).drew.heap[b]? = some (.cells #[y0, y1, y2, y3] t (0, 0)) := by rw [drew_heapM]; exact set_4 y0 y1 y2 y3 h
theorem set_4_kpd {b : Nat} {w0 w : World} (hk : Kp w0 w) (hb : w0.heap.size ≤ b) (y0 y1 y2 y3 : Value) : Kp w0 ((((w.setCell ⟨b, 0, none⟩ y0).setCell ⟨b, 1, none⟩ y1).setCell ⟨b, 2, none⟩ y2).setCell ⟨b, 3, none⟩ y3).drew := kp_drewM (set_4_kp hk hb y0 y1 y2 y3)
set_option maxRecDepth 100000 in
theorem msNew_no {ads : List Addr} (p e : Int) (ip : i64M p) (ie : i64M e) (hr : rightT p e = false) (w : World) (T : TabC ads w) (ce : w.cell? ⟨13, 0, none⟩ = some (errI ads 14)) : Calls Tryz.prog 147 #[.int .i64 p, .int .i64 e] w fun r w' => r = .returned (.tuple #[.agg #[.int .i64 0, .int .i64 0, .int .i64 0, .int .i64 0], errI ads 14]) ∧ Kp w w' := by
  have hn : SeatM.right ⟨p, e, 1, 0⟩ = false := by simp only [right_how, hr]; rfl
  have HRt := Lib.hid (fun w1 (hk : Kp w w1) => (show Calls Tryz.prog 148 #[.agg #[.int .i64 p, .int .i64 e, .int .i64 1, .int .i64 0]] w1 fun r w' => r = .returned (.bool false) ∧ Kp w1 w' from hn ▸ msRight_any (ads := ads) ⟨p, e, 1, 0⟩ ⟨ip, ie, (by decide : i64M 1), (by decide : i64M 0)⟩ w1 (T.kp hk)))
  have KW := Lib.hid (Kp.trans (kp_alloc w (.cells #[.int .i64 0, .int .i64 0, .int .i64 0, .int .i64 0] 67)) (kp_alloc (w.alloc (.cells #[.int .i64 0, .int .i64 0, .int .i64 0, .int .i64 0] 67)) (.cells #[.int .i64 p, .int .i64 e, .int .i64 1, .int .i64 0] 67)))
  have HZ := Lib.hid (show ((w.alloc (.cells #[.int .i64 0, .int .i64 0, .int .i64 0, .int .i64 0] 67)).alloc (.cells #[.int .i64 p, .int .i64 e, .int .i64 1, .int .i64 0] 67)).heap[w.heap.size]? = some (.cells #[.int .i64 0, .int .i64 0, .int .i64 0, .int .i64 0] 67) from kp_row (kp_alloc _ _) (MapKept.heap_alloc w (.cells #[.int .i64 0, .int .i64 0, .int .i64 0, .int .i64 0] 67)).1)
  have HX := Lib.hid (show ((w.alloc (.cells #[.int .i64 0, .int .i64 0, .int .i64 0, .int .i64 0] 67)).alloc (.cells #[.int .i64 p, .int .i64 e, .int .i64 1, .int .i64 0] 67)).heap[w.heap.size + 1]? = some (.cells #[.int .i64 p, .int .i64 e, .int .i64 1, .int .i64 0] 67) by have := (MapKept.heap_alloc (w.alloc (.cells #[.int .i64 0, .int .i64 0, .int .i64 0, .int .i64 0] 67)) (.cells #[.int .i64 p, .int .i64 e, .int .i64 1, .int .i64 0] 67)).1; simpa using this)
  obtain ⟨g0, g1, g2, g3⟩ := cells_4 HX.out
  have r0 := (MapKept.heap_alloc (w.alloc (.cells #[.int .i64 0, .int .i64 0, .int .i64 0, .int .i64 0] 67)) (.cells #[.int .i64 0, .int .i64 0, .int .i64 0, .int .i64 0] 67)).1
  have s1 : (w.alloc (.cells #[.int .i64 0, .int .i64 0, .int .i64 0, .int .i64 0] 67)).heap.size = w.heap.size + 1 := by simp
  rw [s1] at r0
  have fr := frozN r0
  obtain ⟨q, hq⟩ : ∃ x, errI ads 14 = x := ⟨_, rfl⟩
  rw [hq] at ce ⊢
  have CE := Lib.hid ce
  have lt : 13 < w.heap.size := World.block_lt_of_cell? w _ ce
  have ne1 : ¬ w.heap.size = 13 := by omega
  have ne2 : ¬ 13 = w.heap.size := by omega
  clear hq ce lt
  clear hn hr T ip ie r0 s1
  go_enter Tryz.func147, Tryz.ntmps147
  go_wp2_with (go_at_call 148; (with_reducible refine (HRt.out _ KW.out).mono ?_); rintro e' w2 ⟨rfl, hk⟩; have K2 := Lib.hid (Kp.trans KW.out hk); have Z2 := Lib.hid (kp_row hk HZ.out); have X2 := kp_row hk HX.out; obtain ⟨j0, j1, j2, j3⟩ := cells_4 X2; obtain ⟨z0, z1, z2, z3⟩ := cells_4 Z2.out; have fz := frozN Z2.out; clear hk; have ce2 := kp_cell K2.out CE.out)
  go_region
  go_wp2
  refine bodyPost_ret (results_row_tmpT (p := 4) (u := 5) rfl _ _ w.heap.size 67 _ (0, 0) _ rfl (set_4_drew _ _ _ _ Z2.out) Tryz.underlying67 rfl (by kernel_rfl)) rfl ?_; exact ⟨rfl, set_4_kpd K2.out (Nat.le_refl _) _ _ _ _⟩
set_option maxRecDepth 100000 in
theorem msNew_ok {ads : List Addr} (p e : Int) (ip : i64M p) (ie : i64M e) (hr : rightT p e = true) (w : World) (T : TabC ads w) : Calls Tryz.prog 147 #[.int .i64 p, .int .i64 e] w fun r w' => r = .returned (.tuple #[.agg #[.int .i64 p, .int .i64 e, .int .i64 1, .int .i64 0], .nilIface]) ∧ Kp w w' := by
  have hn : SeatM.right ⟨p, e, 1, 0⟩ = true := by simp only [right_how, hr]; simp [hasT, howOk]
  have HRt := Lib.hid (fun w1 (hk : Kp w w1) => (show Calls Tryz.prog 148 #[.agg #[.int .i64 p, .int .i64 e, .int .i64 1, .int .i64 0]] w1 fun r w' => r = .returned (.bool true) ∧ Kp w1 w' from hn ▸ msRight_any (ads := ads) ⟨p, e, 1, 0⟩ ⟨ip, ie, (by decide : i64M 1), (by decide : i64M 0)⟩ w1 (T.kp hk)))
  have KW := Lib.hid (Kp.trans (kp_alloc w (.cells #[.int .i64 0, .int .i64 0, .int .i64 0, .int .i64 0] 67)) (kp_alloc (w.alloc (.cells #[.int .i64 0, .int .i64 0, .int .i64 0, .int .i64 0] 67)) (.cells #[.int .i64 p, .int .i64 e, .int .i64 1, .int .i64 0] 67)))
  have HZ := Lib.hid (show ((w.alloc (.cells #[.int .i64 0, .int .i64 0, .int .i64 0, .int .i64 0] 67)).alloc (.cells #[.int .i64 p, .int .i64 e, .int .i64 1, .int .i64 0] 67)).heap[w.heap.size]? = some (.cells #[.int .i64 0, .int .i64 0, .int .i64 0, .int .i64 0] 67) from kp_row (kp_alloc _ _) (MapKept.heap_alloc w (.cells #[.int .i64 0, .int .i64 0, .int .i64 0, .int .i64 0] 67)).1)
  have HX := Lib.hid (show ((w.alloc (.cells #[.int .i64 0, .int .i64 0, .int .i64 0, .int .i64 0] 67)).alloc (.cells #[.int .i64 p, .int .i64 e, .int .i64 1, .int .i64 0] 67)).heap[w.heap.size + 1]? = some (.cells #[.int .i64 p, .int .i64 e, .int .i64 1, .int .i64 0] 67) by have := (MapKept.heap_alloc (w.alloc (.cells #[.int .i64 0, .int .i64 0, .int .i64 0, .int .i64 0] 67)) (.cells #[.int .i64 p, .int .i64 e, .int .i64 1, .int .i64 0] 67)).1; simpa using this)
  obtain ⟨g0, g1, g2, g3⟩ := cells_4 HX.out
  have r0 := (MapKept.heap_alloc (w.alloc (.cells #[.int .i64 0, .int .i64 0, .int .i64 0, .int .i64 0] 67)) (.cells #[.int .i64 0, .int .i64 0, .int .i64 0, .int .i64 0] 67)).1
  have s1 : (w.alloc (.cells #[.int .i64 0, .int .i64 0, .int .i64 0, .int .i64 0] 67)).heap.size = w.heap.size + 1 := by simp
  rw [s1] at r0
  have fr := frozN r0
  clear hn hr T ip ie r0 s1
  go_enter Tryz.func147, Tryz.ntmps147
  go_wp2_with (go_at_call 148; (with_reducible refine (HRt.out _ KW.out).mono ?_); rintro e' w2 ⟨rfl, hk⟩; have K2 := Lib.hid (Kp.trans KW.out hk); have Z2 := Lib.hid (kp_row hk HZ.out); have X2 := kp_row hk HX.out; obtain ⟨j0, j1, j2, j3⟩ := cells_4 X2; obtain ⟨z0, z1, z2, z3⟩ := cells_4 Z2.out; have fz := frozN Z2.out; clear hk)
  refine bodyPost_ret (results_row_tmpT (p := 4) (u := 5) rfl _ _ w.heap.size 67 _ (0, 0) _ rfl (set_4 _ _ _ _ Z2.out) Tryz.underlying67 rfl (by kernel_rfl)) rfl ?_; exact ⟨rfl, set_4_kp K2.out (Nat.le_refl _) _ _ _ _⟩
theorem msNew_any {ads : List Addr} (p e : Int) (ip : i64M p) (ie : i64M e) (w : World) (T : TabC ads w) (ce : w.cell? ⟨13, 0, none⟩ = some (errI ads 14)) : Calls Tryz.prog 147 #[.int .i64 p, .int .i64 e] w fun r w' => r = .returned (.tuple #[.agg (seatV (newS p e)), errI ads (if rightT p e = true then 0 else 14)]) ∧ Kp w w' := by
  cases hr : rightT p e with
  | false =>
    rw [show newS p e = ⟨0, 0, 0, 0⟩ by simp [newS, hr], if_neg (by decide)]
    exact msNew_no p e ip ie hr w T ce
  | true =>
    rw [show newS p e = ⟨p, e, 1, 0⟩ by simp [newS, hr], if_pos rfl]
    exact msNew_ok p e ip ie hr w T
open Go.RowKit Go.ChangeShapes Go.WideShapes

theorem arrInt : ∃ i : TypeInfo, Tryz.prog.info? 3 = some i := by
  have h : (Tryz.prog.info? 3).isSome = true := by kernel_rfl
  exact Option.isSome_iff_exists.1 h
theorem arr2_eql {t : TypeId} (hu : Tryz.prog.underlying t = some (.array 2 3)) (a0 a1 b0 b1 : Int) (w : World) : (binOp .eql t (.agg #[.int .i64 a0, .int .i64 a1]) (.agg #[.int .i64 b0, .int .i64 b1])).run Tryz.prog w = .ok (.bool (a0 == b0 && (a1 == b1))) w := by
  obtain ⟨i, hi⟩ := arrInt
  have hc : Tryz.prog.cellsOf 3 = 1 := by kernel_rfl
  rw [run_eql_struct, show (10000 : Nat) = 9999 + 1 from rfl, run_equalIn_array w 9999 _ _ hu hi, hc]
  simp [Op.eqItems, part, go_sem, List.range, List.range.loop, Tryz.underlying3]
  by_cases h0 : a0 = b0
  rotate_left
  · simp [h0]
  subst h0
  by_cases h1 : a1 = b1
  · simp [h1]
  · simp [h1]
theorem arr_guard (t : TypeId) (h : Tryz.prog.eqGuardType Tryz.prog.depth t = false) (op : BinOp) (x y : Operand) (xs ys : Array Value) (w : World) : (eqGuard op t x y (.agg xs) (.agg ys)).run Tryz.prog w = .ok () w := run_eqGuard_agg w op t x y _ _ h
open Go.RowKit Go.ChangeShapes Go.WideShapes

theorem known_any (p e : Int) (w : World) : Calls Tryz.prog 167 #[.int .i64 p, .int .i64 e] w fun e' w' => e' = .returned (.bool (rightT p e)) ∧ w = w' := by
  by_cases hp1 : p = 1
  · subst hp1
    by_cases he1 : e = 1
    · subst he1
      rw [show rightT 1 1 = true by decide]
      (go_enter Tryz.func167, Tryz.ntmps167; go_wp2; go_ret; exact ⟨by first | rfl | (simp [*]; done), rfl⟩)
    by_cases he2 : e = 2
    · subst he2
      rw [show rightT 1 2 = true by decide]
      (go_enter Tryz.func167, Tryz.ntmps167; go_wp2; go_ret; exact ⟨by first | rfl | (simp [*]; done), rfl⟩)
    rw [show rightT 1 e = false from decide_eq_false (by omega)]
    have c1 : (e == 1) = false := by simpa using he1
    have c2 : (e == 2) = false := by simpa using he2
    clear he1 he2
    (go_enter Tryz.func167, Tryz.ntmps167; go_wp2; go_ret; exact ⟨by first | rfl | (simp [*]; done), rfl⟩)
  by_cases hp2 : p = 2
  · subst hp2
    by_cases he1 : e = 1
    · subst he1
      rw [show rightT 2 1 = true by decide]
      (go_enter Tryz.func167, Tryz.ntmps167; go_wp2; go_ret; exact ⟨by first | rfl | (simp [*]; done), rfl⟩)
    by_cases he2 : e = 2
    · subst he2
      rw [show rightT 2 2 = true by decide]
      (go_enter Tryz.func167, Tryz.ntmps167; go_wp2; go_ret; exact ⟨by first | rfl | (simp [*]; done), rfl⟩)
    rw [show rightT 2 e = false from decide_eq_false (by omega)]
    have c1 : (e == 1) = false := by simpa using he1
    have c2 : (e == 2) = false := by simpa using he2
    clear he1 he2
    (go_enter Tryz.func167, Tryz.ntmps167; go_wp2; go_ret; exact ⟨by first | rfl | (simp [*]; done), rfl⟩)
  rw [show rightT p e = false from decide_eq_false (by omega)]
  have c1 : (p == 1) = false := by simpa using hp1
  have c2 : (p == 2) = false := by simpa using hp2
  clear hp1 hp2
  (go_enter Tryz.func167, Tryz.ntmps167; go_wp2; go_ret; exact ⟨by first | rfl | (simp [*]; done), rfl⟩)
theorem has_any (p e s : Int) (w : World) : Calls Tryz.prog 168 #[.int .i64 p, .int .i64 e, .int .i64 s] w fun e' w' => e' = .returned (.bool (hasT p e s)) ∧ w = w' := by
  by_cases h4 : s = 4
  · subst h4
    rw [show hasT p e 4 = (p == 2) by simp [hasT]; rw [Bool.eq_iff_iff]; simp]
    (go_enter Tryz.func168, Tryz.ntmps168; go_wp2; go_ret; exact ⟨by first | rfl | (simp [*]; done), rfl⟩)
  by_cases h10 : s = 10
  · subst h10
    rw [show hasT p e 10 = (p == 2) by simp [hasT]; rw [Bool.eq_iff_iff]; simp]
    (go_enter Tryz.func168, Tryz.ntmps168; go_wp2; go_ret; exact ⟨by first | rfl | (simp [*]; done), rfl⟩)
  have b4 : (s == 4) = false := by simpa using h4
  have b10 : (s == 10) = false := by simpa using h10
  by_cases h3 : s = 3
  · subst h3
    by_cases hp : p = 2
    · subst hp
      rw [show hasT 2 e 3 = (e == 1) by simp [hasT]; rw [Bool.eq_iff_iff]; simp]
      (go_enter Tryz.func168, Tryz.ntmps168; go_wp2; go_ret; exact ⟨by first | rfl | (simp [*]; done), rfl⟩)
    · rw [show hasT p e 3 = false by simp [hasT, hp]]
      have bp : (p == 2) = false := by simpa using hp
      (go_enter Tryz.func168, Tryz.ntmps168; go_wp2; go_ret; exact ⟨by first | rfl | (simp [*]; done), rfl⟩)
  have b3 : (s == 3) = false := by simpa using h3
  by_cases h1 : 1 ≤ s
  · by_cases h2 : s ≤ 14
    · rw [show hasT p e s = true by simp [hasT, h4, h10, h3, h1, h2]]
      (go_enter Tryz.func168, Tryz.ntmps168; go_wp2; go_ret; exact ⟨by first | rfl | (simp [*]; done), rfl⟩)
    · rw [show hasT p e s = false by simp [hasT, h4, h10, h3, h2]]
      (go_enter Tryz.func168, Tryz.ntmps168; go_wp2; go_ret; exact ⟨by first | rfl | (simp [*]; done), rfl⟩)
  · rw [show hasT p e s = false by simp [hasT, h4, h10, h3, h1]]
    (go_enter Tryz.func168, Tryz.ntmps168; go_wp2; go_ret; exact ⟨by first | rfl | (simp [*]; done), rfl⟩)
set_option maxRecDepth 100000 in
set_option maxHeartbeats 4000000 in
theorem twaits_1 (s : Int) (hs : s = 1 ∨ s = 2 ∨ s = 3 ∨ s = 4 ∨ s = 5 ∨ s = 6 ∨ s = 7 ∨ s = 8 ∨ s = 9 ∨ s = 10 ∨ s = 11 ∨ s = 12 ∨ s = 13 ∨ s = 14) (w : World) : Calls Tryz.prog 169 #[.int .i64 1, .int .i64 s] w fun e' w' => e' = .returned (.int .i64 (waitT 1 s)) ∧ w = w' := by
  rcases hs with rfl | rfl | rfl | rfl | rfl | rfl | rfl | rfl | rfl | rfl | rfl | rfl | rfl | rfl
  · (have hq := arr2_eql Tryz.underlying226 1 1; have hg := arr_guard 226 (by kernel_rfl); (go_enter Tryz.func169, Tryz.ntmps169; go_wp2; go_ret; exact ⟨rfl, rfl⟩))
  · (have hq := arr2_eql Tryz.underlying226 1 2; have hg := arr_guard 226 (by kernel_rfl); (go_enter Tryz.func169, Tryz.ntmps169; go_wp2; go_ret; exact ⟨rfl, rfl⟩))
  · (have hq := arr2_eql Tryz.underlying226 1 3; have hg := arr_guard 226 (by kernel_rfl); (go_enter Tryz.func169, Tryz.ntmps169; go_wp2; go_ret; exact ⟨rfl, rfl⟩))
  · (have hq := arr2_eql Tryz.underlying226 1 4; have hg := arr_guard 226 (by kernel_rfl); (go_enter Tryz.func169, Tryz.ntmps169; go_wp2; go_ret; exact ⟨rfl, rfl⟩))
  · (have hq := arr2_eql Tryz.underlying226 1 5; have hg := arr_guard 226 (by kernel_rfl); (go_enter Tryz.func169, Tryz.ntmps169; go_wp2; go_ret; exact ⟨rfl, rfl⟩))
  · (have hq := arr2_eql Tryz.underlying226 1 6; have hg := arr_guard 226 (by kernel_rfl); (go_enter Tryz.func169, Tryz.ntmps169; go_wp2; go_ret; exact ⟨rfl, rfl⟩))
  · (have hq := arr2_eql Tryz.underlying226 1 7; have hg := arr_guard 226 (by kernel_rfl); (go_enter Tryz.func169, Tryz.ntmps169; go_wp2; go_ret; exact ⟨rfl, rfl⟩))
  · (have hq := arr2_eql Tryz.underlying226 1 8; have hg := arr_guard 226 (by kernel_rfl); (go_enter Tryz.func169, Tryz.ntmps169; go_wp2; go_ret; exact ⟨rfl, rfl⟩))
  · (have hq := arr2_eql Tryz.underlying226 1 9; have hg := arr_guard 226 (by kernel_rfl); (go_enter Tryz.func169, Tryz.ntmps169; go_wp2; go_ret; exact ⟨rfl, rfl⟩))
  · (have hq := arr2_eql Tryz.underlying226 1 10; have hg := arr_guard 226 (by kernel_rfl); (go_enter Tryz.func169, Tryz.ntmps169; go_wp2; go_ret; exact ⟨rfl, rfl⟩))
  · (have hq := arr2_eql Tryz.underlying226 1 11; have hg := arr_guard 226 (by kernel_rfl); (go_enter Tryz.func169, Tryz.ntmps169; go_wp2; go_ret; exact ⟨rfl, rfl⟩))
  · (have hq := arr2_eql Tryz.underlying226 1 12; have hg := arr_guard 226 (by kernel_rfl); (go_enter Tryz.func169, Tryz.ntmps169; go_wp2; go_ret; exact ⟨rfl, rfl⟩))
  · (have hq := arr2_eql Tryz.underlying226 1 13; have hg := arr_guard 226 (by kernel_rfl); (go_enter Tryz.func169, Tryz.ntmps169; go_wp2; go_ret; exact ⟨rfl, rfl⟩))
  · (have hq := arr2_eql Tryz.underlying226 1 14; have hg := arr_guard 226 (by kernel_rfl); (go_enter Tryz.func169, Tryz.ntmps169; go_wp2; go_ret; exact ⟨rfl, rfl⟩))
set_option maxRecDepth 100000 in
set_option maxHeartbeats 4000000 in
theorem twaits_2 (s : Int) (hs : s = 1 ∨ s = 2 ∨ s = 3 ∨ s = 4 ∨ s = 5 ∨ s = 6 ∨ s = 7 ∨ s = 8 ∨ s = 9 ∨ s = 10 ∨ s = 11 ∨ s = 12 ∨ s = 13 ∨ s = 14) (w : World) : Calls Tryz.prog 169 #[.int .i64 2, .int .i64 s] w fun e' w' => e' = .returned (.int .i64 (waitT 2 s)) ∧ w = w' := by
  rcases hs with rfl | rfl | rfl | rfl | rfl | rfl | rfl | rfl | rfl | rfl | rfl | rfl | rfl | rfl
  · (have hq := arr2_eql Tryz.underlying226 2 1; have hg := arr_guard 226 (by kernel_rfl); (go_enter Tryz.func169, Tryz.ntmps169; go_wp2; go_ret; exact ⟨rfl, rfl⟩))
  · (have hq := arr2_eql Tryz.underlying226 2 2; have hg := arr_guard 226 (by kernel_rfl); (go_enter Tryz.func169, Tryz.ntmps169; go_wp2; go_ret; exact ⟨rfl, rfl⟩))
  · (have hq := arr2_eql Tryz.underlying226 2 3; have hg := arr_guard 226 (by kernel_rfl); (go_enter Tryz.func169, Tryz.ntmps169; go_wp2; go_ret; exact ⟨rfl, rfl⟩))
  · (have hq := arr2_eql Tryz.underlying226 2 4; have hg := arr_guard 226 (by kernel_rfl); (go_enter Tryz.func169, Tryz.ntmps169; go_wp2; go_ret; exact ⟨rfl, rfl⟩))
  · (have hq := arr2_eql Tryz.underlying226 2 5; have hg := arr_guard 226 (by kernel_rfl); (go_enter Tryz.func169, Tryz.ntmps169; go_wp2; go_ret; exact ⟨rfl, rfl⟩))
  · (have hq := arr2_eql Tryz.underlying226 2 6; have hg := arr_guard 226 (by kernel_rfl); (go_enter Tryz.func169, Tryz.ntmps169; go_wp2; go_ret; exact ⟨rfl, rfl⟩))
  · (have hq := arr2_eql Tryz.underlying226 2 7; have hg := arr_guard 226 (by kernel_rfl); (go_enter Tryz.func169, Tryz.ntmps169; go_wp2; go_ret; exact ⟨rfl, rfl⟩))
  · (have hq := arr2_eql Tryz.underlying226 2 8; have hg := arr_guard 226 (by kernel_rfl); (go_enter Tryz.func169, Tryz.ntmps169; go_wp2; go_ret; exact ⟨rfl, rfl⟩))
  · (have hq := arr2_eql Tryz.underlying226 2 9; have hg := arr_guard 226 (by kernel_rfl); (go_enter Tryz.func169, Tryz.ntmps169; go_wp2; go_ret; exact ⟨rfl, rfl⟩))
  · (have hq := arr2_eql Tryz.underlying226 2 10; have hg := arr_guard 226 (by kernel_rfl); (go_enter Tryz.func169, Tryz.ntmps169; go_wp2; go_ret; exact ⟨rfl, rfl⟩))
  · (have hq := arr2_eql Tryz.underlying226 2 11; have hg := arr_guard 226 (by kernel_rfl); (go_enter Tryz.func169, Tryz.ntmps169; go_wp2; go_ret; exact ⟨rfl, rfl⟩))
  · (have hq := arr2_eql Tryz.underlying226 2 12; have hg := arr_guard 226 (by kernel_rfl); (go_enter Tryz.func169, Tryz.ntmps169; go_wp2; go_ret; exact ⟨rfl, rfl⟩))
  · (have hq := arr2_eql Tryz.underlying226 2 13; have hg := arr_guard 226 (by kernel_rfl); (go_enter Tryz.func169, Tryz.ntmps169; go_wp2; go_ret; exact ⟨rfl, rfl⟩))
  · (have hq := arr2_eql Tryz.underlying226 2 14; have hg := arr_guard 226 (by kernel_rfl); (go_enter Tryz.func169, Tryz.ntmps169; go_wp2; go_ret; exact ⟨rfl, rfl⟩))
open Go.RowKit Go.ChangeShapes Go.WideShapes

theorem kp_drewT {a b : World} (h : Kp a b) (n : Nat) : Kp a (b.drewN n) := ⟨h.os, h.tape, h.output, h.size, h.block⟩
end Go.Proofs.YtpemeenfhkgmpaaGreatDoor
