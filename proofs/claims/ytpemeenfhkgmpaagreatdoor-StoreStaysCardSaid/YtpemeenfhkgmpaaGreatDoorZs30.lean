/-
  PARTS OF THIS PROOF (own work): LsR.
-/
import Derived.Test.YtpemeenfhkgmpaaGreatDoorZs29
import Derived.Test.YtpemeenfhkgmpaaGreatDoorZs08
namespace Go.Proofs.YtpemeenfhkgmpaaGreatDoor
open Go.RowKit Go.ChangeShapes Go.WideShapes

/-- lists of facts that say the same -/
def sameL : List FX → List FX → Bool
  | [], [] => true
  | x :: xs, y :: ys => sameF x y && sameL xs ys
  | _, _ => false
theorem sameL_refl : ∀ xs : List FX, sameL xs xs = true
  | [] => rfl
  | x :: xs => by
    show (sameF x x && sameL xs xs) = true
    rw [same_refl14, sameL_refl xs]
    rfl
theorem sameL_len : ∀ (xs ys : List FX), xs.length ≠ ys.length → sameL xs ys = false
  | [], [], h => absurd rfl h
  | [], _ :: _, _ => rfl
  | _ :: _, [], _ => rfl
  | x :: xs, y :: ys, h => by
    show (sameF x y && sameL xs ys) = false
    rw [sameL_len xs ys (by simpa using h), Bool.and_false]
theorem sameL_all : ∀ (xs ys : List FX), xs.length = ys.length → (∀ k (h : k < xs.length) (h' : k < ys.length), sameF xs[k] ys[k] = true) → sameL xs ys = true
  | [], [], _, _ => rfl
  | [], _ :: _, h, _ => by simp at h
  | _ :: _, [], h, _ => by simp at h
  | x :: xs, y :: ys, h, hs => by
    show (sameF x y && sameL xs ys) = true
    have h0 := hs 0 (by simp) (by simp)
    have h1 := sameL_all xs ys (by simpa using h) (fun k hk hk' => hs (k + 1) (by simpa using hk) (by simpa using hk'))
    have h0 : sameF x y = true := h0
    rw [h0, h1]
    rfl
theorem sameL_no : ∀ (xs ys : List FX) (k : Nat) (h : k < xs.length) (h' : k < ys.length), sameF xs[k] ys[k] = false → sameL xs ys = false
  | x :: xs, y :: ys, 0, _, _, hs => by
    have hs : sameF x y = false := hs
    show (sameF x y && sameL xs ys) = false
    rw [hs]
    rfl
  | x :: xs, y :: ys, k + 1, h, h', hs => by
    show (sameF x y && sameL xs ys) = false
    rw [sameL_no xs ys k (by simpa using h) (by simpa using h') hs, Bool.and_false]
theorem run_right : ∀ (l : List FX) (m m' : StM), runS m l = some m' → ∀ f ∈ l, rightF f = true
  | [], _, _, _, f, hf => by cases hf
  | f :: l, m, m', h, g, hg => by
    unfold runS at h
    cases hs : stepS m f with
    | none => rw [hs] at h; simp at h
    | some m2 =>
      rw [hs] at h
      have h : runS m2 l = some m' := h
      rcases List.mem_cons.1 hg with rfl | hg
      · unfold stepS at hs
        cases hr : rightF g with
        | true => rfl
        | false => rw [hr] at hs; simp at hs
      · exact run_right l m2 m' h g hg
theorem factsS_wf {m : StM} (ok : OkS m) : ∀ f ∈ factsS m, f.wf := fun f hf => right_wf (run_right _ _ _ (replay ok) f hf)
theorem factsS_le {m : StM} (ok : OkS m) : (factsS m).length ≤ 138 := by
  rw [factsS_eq, List.length_append, List.length_append]
  have h1 := factsP_le 0 m.parts
  have h2 := flat_le m.acts (fun a ha => (ok.a a ha).l)
  have h3 : (goneS m).length ≤ 2 := by unfold goneS; split <;> simp
  have := ok.l8
  have := ok.p8
  omega
variable {w0 w w' W w3 : World} {B q : Nat} {m : StM} {gs : List AcG} {va vp : Value}

variable {ads : List Addr}
set_option maxRecDepth 100000 in
set_option maxHeartbeats 8000000 in
theorem lsEqF {B1 B2 : Nat} {v1 v2 : Value} (C : FacC ads w) (xs ys : List FX) (hx : ∀ f ∈ xs, f.wf) (hy : ∀ f ∈ ys, f.wf) (o1 : w.ownsRow B1 39 14 v1 xs.length (fcE.row xs)) (o2 : w.ownsRow B2 39 14 v2 ys.length (fcE.row ys)) (h1 : xs.length ≤ 1000) : Calls Tryz.prog 50 #[v1, v2, .func (.func 51) #[] #[]] w fun r w' => r = .returned (.bool (sameL xs ys)) ∧ Kp w w' := by
  obtain ⟨a1, c1, rfl⟩ := own_formG o1
  obtain ⟨a2, c2, rfl⟩ := own_formG o2
  obtain ⟨n, hn⟩ : ∃ x, xs.length = x := ⟨_, rfl⟩
  obtain ⟨n2, hn2⟩ : ∃ x, ys.length = x := ⟨_, rfl⟩
  rw [hn] at o1 h1 ⊢
  rw [hn2] at o2 ⊢
  have HN := Lib.hid hn
  by_cases hne : n = n2
  rotate_left
  · have hno := sameL_len xs ys (by omega)
    rw [hno]
    have gI : ((n : Int) == (n2 : Int)) = false := by simpa using (fun h : (n : Int) = n2 => hne (by omega))
    have gJ : ((n : Int) != (n2 : Int)) = true := by simp; omega
    have gK : ((n : Int) = (n2 : Int)) = False := by simp; omega
    clear C hx hy o1 o2 hno HN hn hn2 h1
    go_enter Tryz.func50, Tryz.ntmps50
    go_wp2
    go_ret
    exact ⟨rfl, Kp.refl _⟩
  subst hne
  obtain ⟨N, hN⟩ : ∃ N : Int, (n : Int) = N := ⟨_, rfl⟩
  have HNN := Lib.hid hN
  have HN2 := Lib.hid hn2
  have O1 := Lib.hid o1
  have O2 := Lib.hid o2
  have H1 := Lib.hid h1
  have HX := Lib.hid hx
  have HY := Lib.hid hy
  have HC := Lib.hid C
  have hsf := store_fl
  obtain ⟨RES, hres⟩ : ∃ x, sameL xs ys = x := ⟨_, rfl⟩
  have HR := Lib.hid hres
  rw [hres]
  clear C hx hy o1 o2 hn hn2 h1 hres
  go_enter Tryz.func50, Tryz.ntmps50
  go_wp2
  go_loopw [17] (fun i wr => ∃ j : Nat, j ≤ n ∧ i = .int .i64 j ∧ (∀ k (h : k < xs.length) (h' : k < ys.length), k < j → sameF xs[k] ys[k] = true) ∧ Kp w wr) (fun i _ => n - (intOf i).toNat)
  case atStart => exact ⟨0, Nat.zero_le _, rfl, fun k _ _ h => by omega, Kp.refl _⟩
  case round =>
    obtain ⟨j, hj, rfl, hall, hk⟩ := hrel
    obtain ⟨kk, hkk⟩ : ∃ x : Int, (j : Int) = x := ⟨_, rfl⟩
    rw [hkk]
    have HKK := Lib.hid hkk
    have KR := Lib.hid hk
    have HALL := Lib.hid hall
    by_cases hlt : j < n
    · have hjl : kk < N := by have := HNN.out; omega
      have hk0 : 0 ≤ kk := by omega
      have htk : kk.toNat = j := by omega
      have hN8 : N ≤ 1000 := by have := HNN.out; have := H1.out; omega
      have hw1 : wrap64 (kk + 1) = kk + 1 := IntWalk.wrap64_in _ (by omega)
      have HLT := Lib.hid hlt
      have hjx : j < xs.length := by have := HN.out; omega
      have hjy : j < ys.length := by have := HN2.out; omega
      obtain ⟨ga, cga, ega, h1ga, h2ga, h3ga, h4ga, hcga⟩ := own_cellQ (E := fcE) (own_kp O1.out hk) HN.out hlt
      have ega := congrArg (fun v => match v with | Value.slice a _ _ => a | _ => none) ega
      dsimp only at ega
      subst ega
      obtain ⟨⟨fk, fn, fs, fr, fe, fp, fq, fo, fd, fa, ft, fh, fc, fx⟩, hyga⟩ : ∃ r, xs[j]'(by have := HN.out; omega) = r := ⟨_, rfl⟩
      rw [hyga, show fcE.k = 14 from rfl, ← htk] at hcga
      have zf0 : wr.cell? ⟨ga, kk.toNat * 14, none⟩ = some (.int .i64 fk) := hcga 0 _ (by decide) rfl
      have zf1 : wr.cell? ⟨ga, kk.toNat * 14 + 1, none⟩ = some (.int .i64 fn) := hcga 1 _ (by decide) rfl
      have zf2 : wr.cell? ⟨ga, kk.toNat * 14 + 2, none⟩ = some (.int .i64 fs) := hcga 2 _ (by decide) rfl
      have zf3 : wr.cell? ⟨ga, kk.toNat * 14 + 3, none⟩ = some (.int .i64 fr) := hcga 3 _ (by decide) rfl
      have zf4 : wr.cell? ⟨ga, kk.toNat * 14 + 4, none⟩ = some (.int .i64 fe) := hcga 4 _ (by decide) rfl
      have zf5 : wr.cell? ⟨ga, kk.toNat * 14 + 5, none⟩ = some (.int .i64 fp) := hcga 5 _ (by decide) rfl
      have zf6 : wr.cell? ⟨ga, kk.toNat * 14 + 6, none⟩ = some (.int .i64 fq) := hcga 6 _ (by decide) rfl
      have zf7 : wr.cell? ⟨ga, kk.toNat * 14 + 7, none⟩ = some (.int .i64 fo) := hcga 7 _ (by decide) rfl
      have zf8 : wr.cell? ⟨ga, kk.toNat * 14 + 8, none⟩ = some (.int .i64 fd) := hcga 8 _ (by decide) rfl
      have zf9 : wr.cell? ⟨ga, kk.toNat * 14 + 9, none⟩ = some (.int .i64 fa) := hcga 9 _ (by decide) rfl
      have zf10 : wr.cell? ⟨ga, kk.toNat * 14 + 10, none⟩ = some (.int .i64 ft) := hcga 10 _ (by decide) rfl
      have zf11 : wr.cell? ⟨ga, kk.toNat * 14 + 11, none⟩ = some (.int .i64 fh) := hcga 11 _ (by decide) rfl
      have zf12 : wr.cell? ⟨ga, kk.toNat * 14 + 12, none⟩ = some (.int .i64 fc) := hcga 12 _ (by decide) rfl
      have zf13 : wr.cell? ⟨ga, kk.toNat * 14 + 13, none⟩ = some (.float .f64 fx) := hcga 13 _ (by decide) rfl
      obtain ⟨gb, cgb, egb, h1gb, h2gb, h3gb, h4gb, hcgb⟩ := own_cellQ (E := fcE) (own_kp O2.out hk) HN2.out hlt
      have egb := congrArg (fun v => match v with | Value.slice a _ _ => a | _ => none) egb
      dsimp only at egb
      subst egb
      obtain ⟨⟨gk, gn, gs, gr, ge, gp, gq, go, gd, ga, gt, gh, gc, gx⟩, hygb⟩ : ∃ r, ys[j]'(by have := HN2.out; omega) = r := ⟨_, rfl⟩
      rw [hygb, show fcE.k = 14 from rfl, ← htk] at hcgb
      have zg0 : wr.cell? ⟨gb, kk.toNat * 14, none⟩ = some (.int .i64 gk) := hcgb 0 _ (by decide) rfl
      have zg1 : wr.cell? ⟨gb, kk.toNat * 14 + 1, none⟩ = some (.int .i64 gn) := hcgb 1 _ (by decide) rfl
      have zg2 : wr.cell? ⟨gb, kk.toNat * 14 + 2, none⟩ = some (.int .i64 gs) := hcgb 2 _ (by decide) rfl
      have zg3 : wr.cell? ⟨gb, kk.toNat * 14 + 3, none⟩ = some (.int .i64 gr) := hcgb 3 _ (by decide) rfl
      have zg4 : wr.cell? ⟨gb, kk.toNat * 14 + 4, none⟩ = some (.int .i64 ge) := hcgb 4 _ (by decide) rfl
      have zg5 : wr.cell? ⟨gb, kk.toNat * 14 + 5, none⟩ = some (.int .i64 gp) := hcgb 5 _ (by decide) rfl
      have zg6 : wr.cell? ⟨gb, kk.toNat * 14 + 6, none⟩ = some (.int .i64 gq) := hcgb 6 _ (by decide) rfl
      have zg7 : wr.cell? ⟨gb, kk.toNat * 14 + 7, none⟩ = some (.int .i64 go) := hcgb 7 _ (by decide) rfl
      have zg8 : wr.cell? ⟨gb, kk.toNat * 14 + 8, none⟩ = some (.int .i64 gd) := hcgb 8 _ (by decide) rfl
      have zg9 : wr.cell? ⟨gb, kk.toNat * 14 + 9, none⟩ = some (.int .i64 ga) := hcgb 9 _ (by decide) rfl
      have zg10 : wr.cell? ⟨gb, kk.toNat * 14 + 10, none⟩ = some (.int .i64 gt) := hcgb 10 _ (by decide) rfl
      have zg11 : wr.cell? ⟨gb, kk.toNat * 14 + 11, none⟩ = some (.int .i64 gh) := hcgb 11 _ (by decide) rfl
      have zg12 : wr.cell? ⟨gb, kk.toNat * 14 + 12, none⟩ = some (.int .i64 gc) := hcgb 12 _ (by decide) rfl
      have zg13 : wr.cell? ⟨gb, kk.toNat * 14 + 13, none⟩ = some (.float .f64 gx) := hcgb 13 _ (by decide) rfl
      have kb := kp_alloc wr (.cells #[.int .i64 fk, .int .i64 fn, .int .i64 fs, .int .i64 fr, .int .i64 fe, .int .i64 fp, .int .i64 fq, .int .i64 fo, .int .i64 fd, .int .i64 fa, .int .i64 ft, .int .i64 fh, .int .i64 fc, .float .f64 fx] 39)
      have yg0 := kp_cell kb zg0
      have yg1 := kp_cell kb zg1
      have yg2 := kp_cell kb zg2
      have yg3 := kp_cell kb zg3
      have yg4 := kp_cell kb zg4
      have yg5 := kp_cell kb zg5
      have yg6 := kp_cell kb zg6
      have yg7 := kp_cell kb zg7
      have yg8 := kp_cell kb zg8
      have yg9 := kp_cell kb zg9
      have yg10 := kp_cell kb zg10
      have yg11 := kp_cell kb zg11
      have yg12 := kp_cell kb zg12
      have yg13 := kp_cell kb zg13
      obtain ⟨u0, u1, u2, u3, u4, u5, u6, u7, u8, u9, u10, u11, u12, u13⟩ := cells14 (new14_0 wr (.cells #[.int .i64 fk, .int .i64 fn, .int .i64 fs, .int .i64 fr, .int .i64 fe, .int .i64 fp, .int .i64 fq, .int .i64 fo, .int .i64 fd, .int .i64 fa, .int .i64 ft, .int .i64 fh, .int .i64 fc, .float .f64 fx] 39) (.cells #[.int .i64 gk, .int .i64 gn, .int .i64 gs, .int .i64 gr, .int .i64 ge, .int .i64 gp, .int .i64 gq, .int .i64 go, .int .i64 gd, .int .i64 ga, .int .i64 gt, .int .i64 gh, .int .i64 gc, .float .f64 gx] 39))
      obtain ⟨t0, t1, t2, t3, t4, t5, t6, t7, t8, t9, t10, t11, t12, t13⟩ := cells14 (new14_1 wr (.cells #[.int .i64 fk, .int .i64 fn, .int .i64 fs, .int .i64 fr, .int .i64 fe, .int .i64 fp, .int .i64 fq, .int .i64 fo, .int .i64 fd, .int .i64 fa, .int .i64 ft, .int .i64 fh, .int .i64 fc, .float .f64 fx] 39) (.cells #[.int .i64 gk, .int .i64 gn, .int .i64 gs, .int .i64 gr, .int .i64 ge, .int .i64 gp, .int .i64 gq, .int .i64 go, .int .i64 gd, .int .i64 ga, .int .i64 gt, .int .i64 gh, .int .i64 gc, .float .f64 gx] 39))
      have k2 := Kp.trans kb (kp_alloc (wr.alloc (.cells #[.int .i64 fk, .int .i64 fn, .int .i64 fs, .int .i64 fr, .int .i64 fe, .int .i64 fp, .int .i64 fq, .int .i64 fo, .int .i64 fd, .int .i64 fa, .int .i64 ft, .int .i64 fh, .int .i64 fc, .float .f64 fx] 39)) (.cells #[.int .i64 gk, .int .i64 gn, .int .i64 gs, .int .i64 gr, .int .i64 ge, .int .i64 gp, .int .i64 gq, .int .i64 go, .int .i64 gd, .int .i64 ga, .int .i64 gt, .int .i64 gh, .int .i64 gc, .float .f64 gx] 39))
      have wx : FX.wf (⟨fk, fn, fs, fr, fe, fp, fq, fo, fd, fa, ft, fh, fc, fx⟩ : FX) := by rw [← hyga]; exact HX.out _ (List.getElem_mem hjx)
      have wy : FX.wf (⟨gk, gn, gs, gr, ge, gp, gq, go, gd, ga, gt, gh, gc, gx⟩ : FX) := by rw [← hygb]; exact HY.out _ (List.getElem_mem hjy)
      have hsm := HC.out.same _ (Kp.trans hk k2) (⟨fk, fn, fs, fr, fe, fp, fq, fo, fd, fa, ft, fh, fc, fx⟩ : FX) (⟨gk, gn, gs, gr, ge, gp, gq, go, gd, ga, gt, gh, gc, gx⟩ : FX) wx wy
      have hat : sameF xs[j] ys[j] = sameF (⟨fk, fn, fs, fr, fe, fp, fq, fo, fd, fa, ft, fh, fc, fx⟩ : FX) (⟨gk, gn, gs, gr, ge, gp, gq, go, gd, ga, gt, gh, gc, gx⟩ : FX) := by rw [hyga, hygb]
      obtain ⟨sm, hsme⟩ : ∃ x, sameF (⟨fk, fn, fs, fr, fe, fp, fq, fo, fd, fa, ft, fh, fc, fx⟩ : FX) (⟨gk, gn, gs, gr, ge, gp, gq, go, gd, ga, gt, gh, gc, gx⟩ : FX) = x := ⟨_, rfl⟩
      rw [hsme] at hsm hat
      dsimp only [FX.cells] at hsm
      have HSM := Lib.hid hsm
      have HAT := Lib.hid hat
      have HJX := Lib.hid hjx
      have HJY := Lib.hid hjy
      have K2 := Lib.hid (Kp.trans hk k2)
      clear hkk hj hlt hk hall htk h1ga h2ga h3ga h4ga hcga h1gb h2gb h3gb h4gb hcgb hyga hygb kb k2 wx wy hsm hat hsme zg0 zg1 zg2 zg3 zg4 zg5 zg6 zg7 zg8 zg9 zg10 zg11 zg12 zg13
      cases sm with
      | true =>
        go_wp2_with (go_at_call 51; (with_reducible refine HSM.out.mono ?_); rintro e' w3 ⟨rfl, hk3⟩; have K3 := Lib.hid (Kp.trans K2.out hk3); clear hk3)
        go_roundw
        case rel => exact ⟨j + 1, by have := HLT.out; omega, by have := HKK.out; first | rw [show ((j + 1 : Nat) : Int) = kk + 1 by omega] | rw [show ((j + 1 : Nat) : Int) = kk + 1 by omega, hw1], fun k h h' hkj => by
          by_cases hq : k = j
          · subst hq
            exact HAT.out
          · exact HALL.out k h h' (by omega), K3.out⟩
        case measure => have := HKK.out; have := HLT.out; simp [intOf]; omega
      | false =>
        have hR : RES = false := by rw [← HR.out]; exact sameL_no xs ys j HJX.out HJY.out HAT.out
        subst hR
        go_wp2_with (go_at_call 51; (with_reducible refine HSM.out.mono ?_); rintro e' w3 ⟨rfl, hk3⟩; have K3 := Lib.hid (Kp.trans K2.out hk3); clear hk3)
        go_ret
        exact ⟨rfl, K3.out⟩
    · have hje : ¬ kk < N := by have := HNN.out; omega
      have hR : RES = true := by rw [← HR.out]; exact sameL_all xs ys (by rw [HN.out, HN2.out]) (fun k h h' => hall k h h' (by have := HN.out; omega))
      subst hR
      clear hkk hj hlt hk hall
      go_wp2
      go_ret
      exact ⟨rfl, KR.out⟩
end Go.Proofs.YtpemeenfhkgmpaaGreatDoor
