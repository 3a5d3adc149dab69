/- Parts of this proof (own work). -/
import Derived.Test.YtlmlmhmhgdjhnaaGreatDoorZa24
set_option maxRecDepth 100000
set_option maxHeartbeats 40000000
namespace Go.Proofs.YtlmlmhmhgdjhnaaGreatDoor
open Go.RowKit Go.ChangeShapes Go.WideShapes
def OwnL (N : Nat) (A : List AcM) (v : Value) (w : World) : Prop :=
 ∃ ga : List AcG, ga.map AcG.a = A ∧ w.ownsRow N 92 8 v ga.length (acE.row ga) ∧ (∀ g ∈ ga, w.ownsRow N 96 6 g.v g.a.regs.length (rgE.row g.a.regs)) ∧
  (∀ (i j : Nat) (g h : AcG), ga[i]? = some g → ga[j]? = some h → i ≠ j → ∀ b, g.v.ownBlock = some b → h.v.ownBlock ≠ some b)
theorem dis_app2 {ga : List AcG} {g' : AcG} {N : Nat} (hd : ∀ (i j : Nat) (g h : AcG), ga[i]? = some g → ga[j]? = some h → i ≠ j → ∀ b, g.v.ownBlock = some b → h.v.ownBlock ≠ some b) (hN : ∀ x ∈ ga, ∀ b, x.v.ownBlock = some b → b < N) (hn : ∀ b, g'.v.ownBlock = some b → N ≤ b) :
  ∀ (k j : Nat) (g h : AcG), (ga ++ [g'])[k]? = some g → (ga ++ [g'])[j]? = some h → k ≠ j → ∀ b, g.v.ownBlock = some b → h.v.ownBlock ≠ some b := by
 have at' : ∀ (k : Nat) (x : AcG), (ga ++ [g'])[k]? = some x → ga[k]? = some x ∨ (x = g' ∧ k = ga.length) := by
  intro k x h; rw [List.getElem?_append] at h
  split at h
  ·exact .inl h
  ·right
   rename_i hk
   rw [List.getElem?_singleton] at h
   split at h
   ·rename_i h0
    exact ⟨by injection h with h; exact h.symm, by omega⟩
   ·cases h
 intro k j g h hk hj hne b e1 e2
 rcases at' k g hk with hk2 | ⟨rfl, hk2⟩
 ·rcases at' j h hj with hj2 | ⟨rfl, hj2⟩
  ·exact hd k j g h hk2 hj2 hne b e1 e2
  ·have := hN g (List.mem_of_getElem? hk2) b e1; have := hn b e2; omega
 ·rcases at' j h hj with hj2 | ⟨rfl, hj2⟩
  ·have := hN h (List.mem_of_getElem? hj2) b e2; have := hn b e1; omega
  ·omega
variable {w0 w w' W w3 : World} {B q : Nat} {m : StM} {gs : List AcG} {va vp : Value}
theorem stActs (H : GS tyL B q m gs va vp w) (h8 : gs.length ≤ 8) (h6 : ∀ a ∈ m.acts, a.regs.length ≤ 6) : Calls Tryz.prog 31 #[.pointer (some ⟨q, 0, none⟩)] w fun r w' => ∃ v, r = .returned v ∧ OwnL w.heap.size m.acts v w' ∧ Kp w w' := by
 have h6' : ∀ g ∈ gs, g.a.regs.length ≤ 6 := fun g hg => h6 _ (by rw [H.acts]; exact List.mem_map_of_mem hg)
 obtain ⟨a0, c0, eva⟩ := H.vForm; subst eva; obtain ⟨len, hl⟩ : ∃ x, gs.length = x := ⟨_, rfl⟩
 have e0 : w.cell? ⟨q, 2, none⟩ = some (.slice a0 len c0) := by rw [← hl]; exact cU (i := 2) H.row rfl
 have ho : w.ownsRow B 92 8 (.slice a0 len c0) len (acE.row gs) := by have := H.oa; rw [hl] at this; exact this
 obtain ⟨L, hL⟩ : ∃ L : Int, (len : Int) = L := ⟨_, rfl⟩
 obtain ⟨HH, HO, HL, H8⟩ := hD4 H ho hl h8; have H6 := hD h6'; have HLL := hD hL; have hsf := sF; clear H h8 h6 h6' ho hl; go_enter Tryz.func31, Tryz.ntmps31; go_wp2; go_loopw [3, 11] (fun v i wr => ∃ (j : Nat) (ga : List AcG), j ≤ len ∧ i = .int .i64 j ∧ ga.map AcG.a = (gs.take j).map AcG.a ∧ wr.ownsRow w.heap.size 92 8 v ga.length (acE.row ga) ∧ (∀ g ∈ ga, wr.ownsRow w.heap.size 96 6 g.v g.a.regs.length (rgE.row g.a.regs)) ∧ (∀ (i j : Nat) (g h : AcG), ga[i]? = some g → ga[j]? = some h → i ≠ j → ∀ b, g.v.ownBlock = some b → h.v.ownBlock ≠ some b) ∧ Kp w wr) (fun _ i _ => len - (intOf i).toNat)
 case atStart => exact ⟨0, [], Nat.zero_le _, rfl, rfl, World.ownsRow_nil _ _ _ _, (fun g hg => by cases hg), (fun i j g h hi => by simp at hi), Kp.refl _⟩
 case round =>
  obtain ⟨j, ga, hj, rfl, hga, hown, hog, hdis, hk⟩ := hrel; obtain ⟨jj, hjj⟩ : ∃ jj : Int, (j : Int) = jj := ⟨_, rfl⟩
  rw [hjj]; obtain ⟨KR, OW, OG, DS, GA, HJ⟩ := hD6 hk hown hog hdis hga hjj; obtain ⟨la, hla⟩ : ∃ x, ga.length = x := ⟨_, rfl⟩
  have hlaj : la = j := by
   have := congrArg List.length hga; rw [List.length_map, List.length_map, List.length_take, hla] at this; have := HL.out; omega
  obtain ⟨a1, c1, rfl⟩ := fG hown; rw [hla]; obtain ⟨HLA, HLJ⟩ := hD2 hla hlaj
  by_cases hlt : j < len
  ·have hjl : jj < L := by omega
   have hj0 : 0 ≤ jj := by omega
   have hL8 : L ≤ 8 := by have := HL.out; have := H8.out; omega
   have htn : jj.toNat = j := by omega
   have ow := oK HO.out hk; obtain ⟨g, cp, ev, hcp, hgB, hgl, hfz, hcell⟩ := cQ (E := acE) ow HL.out hlt; have ev := congrArg (fun v => match v with | Value.slice a _ _ => a | _ => none) ev; dsimp only at ev; subst ev; have hjo : j < gs.length := by have := HL.out; omega
   obtain ⟨⟨⟨⟨xn, xs, xo, xd, xx⟩, xp, xc, xr⟩, xb, xk⟩, hx⟩ : ∃ x, gs[j]'hjo = x := ⟨_, rfl⟩
   rw [hx, show acE.k = 8 from rfl, ← htn] at hcell; obtain ⟨xv, hxv⟩ : ∃ v, (⟨⟨⟨xn, xs, xo, xd, xx⟩, xp, xc, xr⟩, xb, xk⟩ : AcG).v = v := ⟨_, rfl⟩
   obtain ⟨x0, x1, x2, x3, x4, x5, x6, -⟩ := cW8 hcell; have x7 : wr.cell? ⟨g, jj.toNat * 8 + 7, none⟩ = some xv := by rw [← hxv]; exact hcell 7 _ (by decide) rfl
   unfold AcG.v at hxv; dsimp only at hxv; obtain ⟨nv, hnv⟩ : ∃ n, xr.length = n := ⟨_, rfl⟩
   rw [hnv] at hxv; subst hxv; have hbox := (mH wr (.cells #[xn, xs, xo, xd, xx, xp, xc, .slice xb nv xk] 92))
   obtain ⟨y0, y1, y2, y3, y4, y5, y6, y7⟩ := c8X hbox; have kb := kT hk (kA wr (.cells #[xn, xs, xo, xd, xx, xp, xc, .slice xb nv xk] 92)); have hgm : (⟨⟨⟨xn, xs, xo, xd, xx⟩, xp, xc, xr⟩, xb, xk⟩ : AcG) ∈ gs := by rw [← hx]; exact List.getElem_mem hjo
   have hP : PartG rgE (.slice xb nv xk) xr w := by have := qG (E := rgE) (by decide) (HH.out.og _ hgm); unfold AcG.v at this; dsimp only at this; rw [hnv] at this; exact this
   have h66 : xr.length ≤ 6 := H6.out _ hgm; have HAP := hD (apart_any (w := wr.alloc (.cells #[xn, xs, xo, xd, xx, xp, xc, .slice xb nv xk] 92)) xn xs xo xd xx xp xc xb nv xk xr hnv (by omega) (hP.kp kb)); have KB := hD (kA wr (.cells #[xn, xs, xo, xd, xx, xp, xc, .slice xb nv xk] 92)); have hsn : gs.take (j + 1) = gs.take j ++ [gs[j]] := by rw [← List.take_succ_eq_append_getElem hjo]
   rw [hx] at hsn; obtain ⟨HSN, HLT, HNV⟩ := hD3 hsn hlt hnv; have hw1 : wrap64 (jj + 1) = jj + 1 := IntWalk.wrap64_in _ (by omega); have LA := hD (show la ≤ 8 by omega); clear hcell hx hk hjj hj hlt htn ow hown hog hdis hga hla hlaj hP h66 hgm kb hbox hsn hnv; go_wp2_with (first
    | (go_at_call 82; (with_reducible refine HAP.out.mono ?_); rintro e' w3 ⟨o3, c3, rfl, hO, hk3⟩; obtain ⟨K3, O3⟩ := hD2 hk3 hO; clear hO hk3)
    | (at_builtin; refine aG (E := acE) ty_acL (by decide) _ rfl _ _ rfl w.heap.size _ la ga rfl (oK (by have := OW.out; rw [HLA.out] at this; exact this) (kT KB.out (kT K3.out (kA _ _)))) _ [⟨⟨⟨xn, xs, xo, xd, xx⟩, xp, xc, xr⟩, o3, c3⟩] rfl (pG (mH w3 (.cells #[xn, xs, xo, xd, xx, xp, xc, .slice o3 nv c3] 92)) (by simp only [acE, AcG.v]; rw [HNV.out])) ?f1 ?f2 ?_))
   case f1 => have := LA.out; simp; omega
   case f2 => exact kS (kT KR.out (kT KB.out (kT K3.out (kA _ _))))
   rintro v6 w6 o6 hg hb6; have kx := kT KB.out (kT K3.out (kA w3 (.cells #[xn, xs, xo, xd, xx, xp, xc, .slice o3 nv c3] 92))); have OWX := oK OW.out kx; rw [HLA.out] at OWX; have k6 : Kp w w6 := Below.grown (kT KR.out kx) hg (Below.size (kT KR.out kx)) (fun k hk => (OWX.lt k hk).1); obtain ⟨O6, K6⟩ := hD2 o6 k6; have og6 : ∀ g ∈ ga ++ [⟨⟨⟨xn, xs, xo, xd, xx⟩, xp, xc, xr⟩, o3, c3⟩], w6.ownsRow w.heap.size 96 6 g.v g.a.regs.length (rgE.row g.a.regs) := by
    intro g hgm
    rcases List.mem_append.1 hgm with h | h
    ·refine sG (oK (OG.out g h) kx) (fun b e => hg.block b ((oK (OG.out g h) kx).lt b e).2 (fun e2 => aQ OWX (oK (OG.out g h) kx) (by decide) b e2.symm e))
    ·obtain rfl := List.mem_singleton.1 h; have o3' : (w3.alloc (.cells #[xn, xs, xo, xd, xx, xp, xc, .slice o3 nv c3] 92)).ownsRow w.heap.size 96 6 (.slice o3 xr.length c3) xr.length (rgE.row xr) := by rw [HNV.out]; exact oK (bG O3.out (kS (kT KR.out KB.out))) (kA _ _)
     exact sG o3' (fun b e => hg.block b (o3'.lt b e).2 (fun e2 => aQ OWX o3' (by decide) b e2.symm e))
   have ds6 := dis_app2 (g' := ⟨⟨⟨xn, xs, xo, xd, xx⟩, xp, xc, xr⟩, o3, c3⟩) DS.out (N := wr.heap.size) (fun x hx b e => ((OG.out x hx).lt b e).2) (fun b e => Nat.le_trans (kS KB.out) (O3.out.lt b (by rw [← HNV.out]; exact e)).1); obtain ⟨OG6, DS6⟩ := hD2 og6 ds6; clear o6 hg hb6 kx OWX k6 og6 ds6; go_wp2; go_roundw
   case rel => exact ⟨j + 1, ga ++ [⟨⟨⟨xn, xs, xo, xd, xx⟩, xp, xc, xr⟩, o3, c3⟩], by have := HLT.out; omega, by have := HJ.out; rw [show ((j + 1 : Nat) : Int) = jj + 1 by omega], by rw [HSN.out, List.map_append, List.map_append, GA.out]; rfl, by rw [List.length_append, HLA.out]; exact O6.out, OG6.out, DS6.out, K6.out⟩
   case measure => have := HJ.out; have := HLT.out; simp [intOf]; omega
  ·have hje : ¬ jj < L := by omega
   have hjl : j = len := by omega
   have hfin : ga.map AcG.a = m.acts := by rw [hga, HH.out.acts, hjl, ← HL.out, List.take_length]
   have HF := hD hfin; clear hk hown hog hdis hga hjj hj hlt hla hlaj hjl hfin; go_wp2; go_ret; exact ⟨_, rfl, ⟨ga, HF.out, by rw [← HLA.out] at *; exact OW.out, OG.out, DS.out⟩, KR.out⟩
theorem same_acts (H : GS tyL B q m gs va vp w) (ok : OkS m) (nA : Nat) (hnA : m.acts.length = nA) : Calls Tryz.prog 31 #[.pointer (some ⟨q, 0, none⟩)] w fun r w' => ∃ (a1 : Option Addr) (c1 : Nat) (ga : List AcG), r = .returned (.slice a1 nA c1) ∧ ga.length = nA ∧ ga.map AcG.a = m.acts ∧ w'.ownsRow w.heap.size 92 8 (.slice a1 nA c1) nA (acE.row ga) ∧ (∀ g ∈ ga, w'.ownsRow w.heap.size 96 6 g.v g.a.regs.length (rgE.row g.a.regs)) ∧ Kp w w' := by
 refine (stActs H (by rw [H.len]; exact ok.l8) (fun a ha => (ok.a a ha).l)).mono ?_
 rintro e w2 ⟨v, rfl, ⟨ga, hga, oa, og, _⟩, hk⟩; have hl : ga.length = nA := by rw [← hnA, ← hga, List.length_map]
 rw [hl] at oa; obtain ⟨a1, c1, rfl⟩ := fG oa; exact ⟨a1, c1, ga, rfl, hl, hga, oa, og, hk⟩
end Go.Proofs.YtlmlmhmhgdjhnaaGreatDoor
