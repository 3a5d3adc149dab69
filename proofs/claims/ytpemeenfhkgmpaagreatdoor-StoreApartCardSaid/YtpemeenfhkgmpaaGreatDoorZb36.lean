/-
  PARTS OF THIS PROOF (own work): LwX.
-/
import Derived.Test.YtpemeenfhkgmpaaGreatDoorZb01
import Derived.Test.YtpemeenfhkgmpaaGreatDoorZb32
import Derived.Test.YtpemeenfhkgmpaaGreatDoorZb35
namespace Go.Proofs.YtpemeenfhkgmpaaGreatDoor
open Go.RowKit Go.ChangeShapes Go.WideShapes

variable {w0 w w' W w3 : World} {B q : Nat} {m : StM} {gs : List AcG} {va vp : Value}

variable {ads : List Addr}
/-- a row of registrations, whatever it holds -/
def AnyR (B : Nat) (v : Value) (n : Nat) (w : World) : Prop := ∃ us, w.ownsRow B 69 6 v n us
theorem AnyR.kp {B n : Nat} {v : Value} {w w' : World} (h : AnyR B v n w) (hk : Kp w w') : AnyR B v n w' := by obtain ⟨us, h⟩ := h; exact ⟨us, own_kp h hk⟩
theorem AnyR.set {B n : Nat} {v : Value} {w : World} (h : AnyR B v n w) (g i : Nat) (y : Value) : AnyR B v n (w.setCell ⟨g, i, none⟩ y) := by
  obtain ⟨us, h⟩ := h
  by_cases hb : v.ownBlock = some g
  · rcases h.2 with ⟨rfl, _⟩ | ⟨g', cap, cur, rfl, _⟩
    · cases hb
    · obtain rfl : g' = g := Option.some.inj hb
      exact ⟨_, (h.stored i y).1⟩
  · exact ⟨us, own_stayG h (fun b e => Below.heap_setCell _ _ _ _ (fun e2 => hb (by dsimp only at e2; rw [← e2]; exact e)))⟩
theorem AnyR.at {B n : Nat} {v : Value} {w : World} (h : AnyR B v n w) (j : Nat) (hj : j < n) (o : Nat) (ho : o < 6) : ∃ g cp, v = .slice (some ⟨g, 0, none⟩) n cp ∧ B ≤ g ∧ g < w.heap.size ∧ (∃ cs, w.heap[g]? = some (.cells cs 69 (0, 0))) ∧ w.frozen? ⟨g, j * 6 + o, none⟩ = false ∧ ∃ u, w.cell? ⟨g, j * 6 + o, none⟩ = some u := by
  obtain ⟨us, h⟩ := h
  rcases h.2 with ⟨_, h0⟩ | ⟨g, cap, cur, rfl, hg, hh, _⟩
  · omega
  · have hlen := h.1
    have hlt : j * 6 + o < us.length := by omega
    refine ⟨g, cap, rfl, hg, old_of_row hh, ⟨cur, hh⟩, h.frozenAt _, us[j * 6 + o], ?_⟩
    have := h.cells rfl (j * 6 + o) _ (List.getElem?_eq_getElem hlt)
    rw [Addr.add_lit, Nat.zero_add] at this
    exact this
/-- a row of another type, beside a cell of a registration -/
theorem own_setR {w : World} {B k n g i : Nat} {e : TypeId} {v y : Value} {us : List Value} {cs : Array Value} (h : w.ownsRow B e k v n us) (hg : w.heap[g]? = some (.cells cs 69 (0, 0))) (hne : 69 ≠ e) : (w.setCell ⟨g, i, none⟩ y).ownsRow B e k v n us :=
  own_stayG h fun b hb => Below.heap_setCell _ _ _ _ fun e2 => own_neQ h hg hne (by dsimp only at e2; rw [← e2]; exact hb.symm)
def XA (N : Nat) (a : Option Addr) (n c : Nat) (ga : List AcG) (w : World) : Prop := w.ownsRow N 65 8 (.slice a n c) n (acE.row ga) ∧ ∀ g ∈ ga, AnyR N g.v g.a.regs.length w
theorem XA.kp {N n c : Nat} {a : Option Addr} {ga : List AcG} {w w' : World} (h : XA N a n c ga w) (hk : Kp w w') : XA N a n c ga w' := ⟨own_kp h.1 hk, fun g hg => (h.2 g hg).kp hk⟩
theorem XA.set {N n c g : Nat} {a : Option Addr} {ga : List AcG} {w : World} {cs : Array Value} (h : XA N a n c ga w) (hg : w.heap[g]? = some (.cells cs 69 (0, 0))) (i : Nat) (y : Value) : XA N a n c ga (w.setCell ⟨g, i, none⟩ y) := ⟨own_setR h.1 hg (by decide), fun x hx => (h.2 x hx).set g i y⟩
def XB (N : Nat) (a : Option Addr) (n c : Nat) (ga : List AcG) (w : World) : Prop := w.ownsRow N 65 8 (.slice a n c) n (acE.row ga)
theorem XB.row {N n c : Nat} {a : Option Addr} {ga : List AcG} {w : World} (h : XB N a n c ga w) : w.ownsRow N 65 8 (.slice a n c) n (acE.row ga) := h
theorem XB.kp {N n c : Nat} {a : Option Addr} {ga : List AcG} {w w' : World} (h : XB N a n c ga w) (hk : Kp w w') : XB N a n c ga w' := own_kp h.row hk
theorem XB.set {N n c g : Nat} {a : Option Addr} {ga : List AcG} {w : World} {cs : Array Value} (h : XB N a n c ga w) (hg : w.heap[g]? = some (.cells cs 69 (0, 0))) (i : Nat) (y : Value) : XB N a n c ga (w.setCell ⟨g, i, none⟩ y) := own_setR h.row hg (by decide)
def XP (N : Nat) (a : Option Addr) (n c : Nat) (P : List PaM) (w : World) : Prop := w.ownsRow N 75 7 (.slice a n c) n (paE.row P)
theorem XP.row {N n c : Nat} {a : Option Addr} {P : List PaM} {w : World} (h : XP N a n c P w) : w.ownsRow N 75 7 (.slice a n c) n (paE.row P) := h
theorem XP.kp {N n c : Nat} {a : Option Addr} {P : List PaM} {w w' : World} (h : XP N a n c P w) (hk : Kp w w') : XP N a n c P w' := own_kp h.row hk
theorem XP.set {N n c g : Nat} {a : Option Addr} {P : List PaM} {w : World} {cs : Array Value} (h : XP N a n c P w) (hg : w.heap[g]? = some (.cells cs 69 (0, 0))) (i : Nat) (y : Value) : XP N a n c P (w.setCell ⟨g, i, none⟩ y) := own_setR h.row hg (by decide)
theorem set7_kpO {b : Nat} {w0 w : World} (hk : Kp w0 w) (hb : w0.heap.size ≤ b) (o : Nat) (y0 y1 y2 y3 y4 y5 y6 : Value) : Kp w0 (((((((w.setCell ⟨b, o, none⟩ y0).setCell ⟨b, o + 1, none⟩ y1).setCell ⟨b, o + 2, none⟩ y2).setCell ⟨b, o + 3, none⟩ y3).setCell ⟨b, o + 4, none⟩ y4).setCell ⟨b, o + 5, none⟩ y5).setCell ⟨b, o + 6, none⟩ y6) := by
  refine Below.setCell ?_ hb _
  refine Below.setCell ?_ hb _
  refine Below.setCell ?_ hb _
  refine Below.setCell ?_ hb _
  refine Below.setCell ?_ hb _
  refine Below.setCell ?_ hb _
  refine Below.setCell ?_ hb _
  exact hk
variable {w0 w w' W w3 : World} {B q : Nat} {m : StM} {gs : List AcG} {va vp : Value}

variable {ads : List Addr}
theorem out_le (ok : OkS m) {pl : Option Nat} {a : AcM} {o : Option Addr} {c : Nat} (h : match pl with | none => a = zeroA ∧ o = none ∧ c = 0 | some i => m.acts[i]? = some a) : a.regs.length ≤ 6 := by
  cases pl with
  | none =>
    obtain ⟨rfl, _⟩ := h
    exact Nat.zero_le _
  | some i => exact (ok.a a (List.mem_of_getElem? h)).l
theorem SL.anyFind (h : SL B q m w) (ok : OkS m) (n s : Int) : Calls Tryz.prog 22 #[.pointer (some ⟨q, 0, none⟩), .agg #[.int .i64 n, .int .i64 s]] w fun r w' => ∃ (fn fs fo fd : Int) (fx : Nat) (fp fc : Int) (ob : Option Addr) (nv oc : Nat) (tb : Bool), r = .returned (.tuple #[.agg #[.int .i64 fn, .int .i64 fs, .int .i64 fo, .int .i64 fd, .float .f64 fx, .int .i64 fp, .int .i64 fc, .slice ob nv oc], .bool tb]) ∧ nv ≤ 6 ∧ AnyR w.heap.size (.slice ob nv oc) nv w' ∧ Kp w w' := by
  obtain ⟨gs, va, vp, H⟩ := h
  refine (stFind H (by rw [H.len]; exact ok.l8) (fun a ha => (ok.a a ha).l) n s).mono ?_
  rintro e w2 ⟨v, rfl, ⟨a, o, c, rfl, ha, ho⟩, hk⟩
  have h6 : a.regs.length ≤ 6 := out_le ok ha
  exact ⟨_, _, _, _, _, _, _, o, a.regs.length, c, _, rfl, h6, ⟨_, ho⟩, hk⟩
theorem SL.anyChild (h : SL B q m w) (ok : OkS m) (p : Int) : Calls Tryz.prog 24 #[.pointer (some ⟨q, 0, none⟩), .int .i64 p] w fun r w' => ∃ (fn fs fo fd : Int) (fx : Nat) (fp fc : Int) (ob : Option Addr) (nv oc : Nat) (tb : Bool), r = .returned (.tuple #[.agg #[.int .i64 fn, .int .i64 fs, .int .i64 fo, .int .i64 fd, .float .f64 fx, .int .i64 fp, .int .i64 fc, .slice ob nv oc], .bool tb]) ∧ nv ≤ 6 ∧ AnyR w.heap.size (.slice ob nv oc) nv w' ∧ Kp w w' := by
  obtain ⟨gs, va, vp, H⟩ := h
  refine (stChild H (by rw [H.len]; exact ok.l8) (fun a ha => (ok.a a ha).l) p (fun a ha => ⟨(ok.a a ha).p0, (ok.a a ha).p8⟩)).mono ?_
  rintro e w2 ⟨v, rfl, ⟨a, o, c, rfl, ha, ho⟩, hk⟩
  have h6 : a.regs.length ≤ 6 := out_le ok ha
  exact ⟨_, _, _, _, _, _, _, o, a.regs.length, c, _, rfl, h6, ⟨_, ho⟩, hk⟩
theorem SL.acts (h : SL B q m w) (ok : OkS m) (nA : Nat) (hnA : m.acts.length = nA) : Calls Tryz.prog 21 #[.pointer (some ⟨q, 0, none⟩)] w fun r w' => ∃ (a1 : Option Addr) (c1 : Nat) (ga : List AcG), r = .returned (.slice a1 nA c1) ∧ ga.length = nA ∧ ga.map AcG.a = m.acts ∧ w'.ownsRow w.heap.size 65 8 (.slice a1 nA c1) nA (acE.row ga) ∧ (∀ g ∈ ga, w'.ownsRow w.heap.size 69 6 g.v g.a.regs.length (rgE.row g.a.regs)) ∧ Kp w w' := by
  obtain ⟨_, _, _, H⟩ := h
  exact same_acts H ok nA hnA
theorem SL.parts (h : SL B q m w) (ok : OkS m) (np : Nat) (hnp : m.parts.length = np) : Calls Tryz.prog 23 #[.pointer (some ⟨q, 0, none⟩)] w fun r w' => ∃ (a2 : Option Addr) (c2 : Nat), r = .returned (.slice a2 np c2) ∧ w'.ownsRow w.heap.size 75 7 (.slice a2 np c2) np (paE.row m.parts) ∧ Kp w w' := by
  obtain ⟨_, _, _, H⟩ := h
  exact same_parts H ok np hnp
theorem SL.partsAt (h : SL B q m w) (ok : OkS m) (np : Nat) (hnp : m.parts.length = np) (j : Nat) (hj : j < np) : Calls Tryz.prog 23 #[.pointer (some ⟨q, 0, none⟩)] w fun r w' => ∃ (gp cp : Nat), r = .returned (.slice (some ⟨gp, 0, none⟩) np cp) ∧ w.heap.size ≤ gp ∧ ((∃ u, w'.cell? ⟨gp, j * 7, none⟩ = some u) ∧ (∃ u, w'.cell? ⟨gp, j * 7 + 1, none⟩ = some u) ∧ (∃ u, w'.cell? ⟨gp, j * 7 + 2, none⟩ = some u) ∧ (∃ u, w'.cell? ⟨gp, j * 7 + 3, none⟩ = some u) ∧ (∃ u, w'.cell? ⟨gp, j * 7 + 4, none⟩ = some u) ∧ (∃ u, w'.cell? ⟨gp, j * 7 + 5, none⟩ = some u) ∧ (∃ u, w'.cell? ⟨gp, j * 7 + 6, none⟩ = some u)) ∧ (∀ i, w'.frozen? ⟨gp, i, none⟩ = false) ∧ Kp w w' := by
  refine (h.parts ok np hnp).mono ?_
  rintro e w2 ⟨a2, c2, rfl, o2, hk⟩
  obtain ⟨g, cp, ea, hc, hB, hl, hfz, hcr⟩ := own_cellQ (E := paE) o2 hnp hj
  have ec := congrArg (fun v => match v with | Value.slice _ _ c => c | _ => 0) ea
  have ea := congrArg (fun v => match v with | Value.slice a _ _ => a | _ => none) ea
  dsimp only at ea ec
  subst ea
  subst ec
  refine ⟨g, c2, rfl, hB, ⟨⟨_, hcr 0 _ (by decide) rfl⟩, ⟨_, hcr 1 _ (by decide) rfl⟩, ⟨_, hcr 2 _ (by decide) rfl⟩, ⟨_, hcr 3 _ (by decide) rfl⟩, ⟨_, hcr 4 _ (by decide) rfl⟩, ⟨_, hcr 5 _ (by decide) rfl⟩, ⟨_, hcr 6 _ (by decide) rfl⟩⟩, hfz, hk⟩
set_option maxRecDepth 100000 in
set_option maxHeartbeats 40000000 in
theorem apart_any15 (v : Value) (fs : List FX) (V : St ads w) (C : FacC ads w) (E : EP [0, 3, 4, 8, 13] ads w) (hs : SlFc v fs w) : Calls Tryz.prog 6 #[v] w fun r w' => r = .returned (.bool true) ∧ Kp w w' := by
  have _V := V
  obtain ⟨a, cap, rfl, _⟩ := id hs
  obtain ⟨n, hn⟩ : ∃ n, fs.length = n := ⟨_, rfl⟩
  rw [hn] at hs ⊢
  obtain ⟨N, hN⟩ : ∃ N : Int, (n : Int) = N := ⟨_, rfl⟩
  have HAL := Lib.hid (alive15_any C E)
  by_cases hl : N > 100
  · have d1 := decide_eq_true hl
    clear C E hs
    go_enter Tryz.func6, Tryz.ntmps6
    go_wp2_with (go_at_call 8; (with_reducible refine HAL.out.mono ?_); rintro e' w0 ⟨rfl, hk0⟩; have K0 := Lib.hid hk0; clear hk0)
    go_ret
    exact ⟨rfl, K0.out⟩
  have d1 := decide_eq_false hl
  have hin : inN 1 := by unfold inN; omega
  have HNEW := Lib.hid (fun w1 (hk : Kp w w1) => SL.new (E.kp hk) 1 hin)
  have HC := Lib.hid C
  have HE := Lib.hid E
  have HN := Lib.hid hn
  have HS := Lib.hid hs
  have HL := Lib.hid (show n ≤ 100 by omega)
  have HNN := Lib.hid hN
  have hsf := store_fl
  have HOK0 := Lib.hid (newSt_ok hin)
  clear hin C E hn hs hl _V
  go_enter Tryz.func6, Tryz.ntmps6
  go_wp2_with (first | (go_at_call 8; (with_reducible refine HAL.out.mono ?_); rintro e' w0 ⟨rfl, hk0⟩; have K0 := Lib.hid hk0; clear hk0) | (go_at_call 9; (with_reducible refine (HNEW.out _ K0.out).mono ?_); rintro e' w1 ⟨q, rfl, hg1, hk1⟩; have G1 := Lib.hid hg1; have K1 := Lib.hid (Kp.trans K0.out hk1); clear hg1 hk1))
  have KX := Lib.hid (Kp.trans K1.out (kp_alloc w1 (.cells #[.int .i64 1, .int .i64 0, .slice none 0 0, .slice none 0 0] 34)))
  have SL0 := Lib.hid ((G1.out.base (kp_size K0.out)).kp (kp_alloc w1 (.cells #[.int .i64 1, .int .i64 0, .slice none 0 0, .slice none 0 0] 34)))
  have SD0 := Lib.hid (SD.new (nd := 1) (B := w.heap.size) (MapKept.heap_alloc w1 (.cells #[.int .i64 1, .int .i64 0, .slice none 0 0, .slice none 0 0] 34)).1 (kp_size K1.out))
  go_loopw [34] (fun i wr => ∃ (j : Nat) (m : StM), j ≤ n ∧ i = .int .i64 j ∧ OkS m ∧ SL w.heap.size q m wr ∧ SD w.heap.size w1.heap.size m wr ∧ Kp w wr) (fun i _ => n - (intOf i).toNat)
  case atStart => exact ⟨0, newSt 1, Nat.zero_le _, rfl, HOK0.out, SL0.out, SD0.out, KX.out⟩
  case round =>
    obtain ⟨j, m, hj, rfl, hok, hsl, hsd, hk⟩ := hrel
    obtain ⟨kk, hkk⟩ : ∃ x : Int, (j : Int) = x := ⟨_, rfl⟩
    rw [hkk]
    have HKK := Lib.hid hkk
    have KR := Lib.hid hk
    by_cases hlt : j < n
    · have hjl : kk < N := by have := HNN.out; omega
      have hk0 : 0 ≤ kk := by omega
      have htk : kk.toNat = j := by omega
      have hN8 : N ≤ 100 := by have := HNN.out; have := HL.out; omega
      have hw1 : wrap64 (kk + 1) = kk + 1 := IntWalk.wrap64_in _ (by omega)
      have HLT := Lib.hid hlt
      have hjx : j < fs.length := by have := HN.out; omega
      obtain ⟨bb, bo, rfl, hwf, hcell⟩ := (HS.out.kp hk).at j hjx
      obtain ⟨⟨fk, fn, fs, fr, fe, fp, fq, fo, fd, fa, ft, fh, fc, fx⟩, hF⟩ : ∃ f, fs[j]'hjx = f := ⟨_, rfl⟩
      rw [hF] at hwf hcell
      rw [← htk] at hcell
      have zf0 : wr.cell? ⟨bb, bo + kk.toNat * 14, none⟩ = some (.int .i64 fk) := hcell 0 _ rfl
      have zf1 : wr.cell? ⟨bb, bo + kk.toNat * 14 + 1, none⟩ = some (.int .i64 fn) := hcell 1 _ rfl
      have zf2 : wr.cell? ⟨bb, bo + kk.toNat * 14 + 2, none⟩ = some (.int .i64 fs) := hcell 2 _ rfl
      have zf3 : wr.cell? ⟨bb, bo + kk.toNat * 14 + 3, none⟩ = some (.int .i64 fr) := hcell 3 _ rfl
      have zf4 : wr.cell? ⟨bb, bo + kk.toNat * 14 + 4, none⟩ = some (.int .i64 fe) := hcell 4 _ rfl
      have zf5 : wr.cell? ⟨bb, bo + kk.toNat * 14 + 5, none⟩ = some (.int .i64 fp) := hcell 5 _ rfl
      have zf6 : wr.cell? ⟨bb, bo + kk.toNat * 14 + 6, none⟩ = some (.int .i64 fq) := hcell 6 _ rfl
      have zf7 : wr.cell? ⟨bb, bo + kk.toNat * 14 + 7, none⟩ = some (.int .i64 fo) := hcell 7 _ rfl
      have zf8 : wr.cell? ⟨bb, bo + kk.toNat * 14 + 8, none⟩ = some (.int .i64 fd) := hcell 8 _ rfl
      have zf9 : wr.cell? ⟨bb, bo + kk.toNat * 14 + 9, none⟩ = some (.int .i64 fa) := hcell 9 _ rfl
      have zf10 : wr.cell? ⟨bb, bo + kk.toNat * 14 + 10, none⟩ = some (.int .i64 ft) := hcell 10 _ rfl
      have zf11 : wr.cell? ⟨bb, bo + kk.toNat * 14 + 11, none⟩ = some (.int .i64 fh) := hcell 11 _ rfl
      have zf12 : wr.cell? ⟨bb, bo + kk.toNat * 14 + 12, none⟩ = some (.int .i64 fc) := hcell 12 _ rfl
      have zf13 : wr.cell? ⟨bb, bo + kk.toNat * 14 + 13, none⟩ = some (.float .f64 fx) := hcell 13 _ rfl
      have kb := kp_alloc wr (.cells #[.int .i64 fk, .int .i64 fn, .int .i64 fs, .int .i64 fr, .int .i64 fe, .int .i64 fp, .int .i64 fq, .int .i64 fo, .int .i64 fd, .int .i64 fa, .int .i64 ft, .int .i64 fh, .int .i64 fc, .float .f64 fx] 39)
      have RF := Lib.hid (MapKept.heap_alloc wr (.cells #[.int .i64 fk, .int .i64 fn, .int .i64 fs, .int .i64 fr, .int .i64 fe, .int .i64 fp, .int .i64 fq, .int .i64 fo, .int .i64 fd, .int .i64 fa, .int .i64 ft, .int .i64 fh, .int .i64 fc, .float .f64 fx] 39)).1
      have hap := fun w1 (hk1 : Kp (wr.alloc (.cells #[.int .i64 fk, .int .i64 fn, .int .i64 fs, .int .i64 fr, .int .i64 fe, .int .i64 fp, .int .i64 fq, .int .i64 fo, .int .i64 fd, .int .i64 fa, .int .i64 ft, .int .i64 fh, .int .i64 fc, .float .f64 fx] 39)) w1) => SL.apply (HC.out.kp (Kp.trans hk (Kp.trans kb hk1))) (HE.out.kp (Kp.trans hk (Kp.trans kb hk1))) (hsl.kp (Kp.trans kb hk1)) hok (⟨fk, fn, fs, fr, fe, fp, fq, fo, fd, fa, ft, fh, fc, fx⟩ : FX) hwf
      have had := fun w2 (h : SD w.heap.size w1.heap.size m w2) => SD.apply h hok (⟨fk, fn, fs, fr, fe, fp, fq, fo, fd, fa, ft, fh, fc, fx⟩ : FX) hwf
      dsimp only [FX.cells] at hap had
      obtain ⟨AQ, hAQ⟩ : ∃ x, applyQ m (⟨fk, fn, fs, fr, fe, fp, fq, fo, fd, fa, ft, fh, fc, fx⟩ : FX) = x := ⟨_, rfl⟩
      have hok2 := applyQ_ok (f := (⟨fk, fn, fs, fr, fe, fp, fq, fo, fd, fa, ft, fh, fc, fx⟩ : FX)) hok
      rw [hAQ] at hap had hok2
      obtain ⟨ac, m2⟩ := AQ
      dsimp only at hap had hok2
      obtain ⟨er, her⟩ : ∃ x, errI ads ac = x := ⟨_, rfl⟩
      rw [her] at hap
      have HAP := Lib.hid hap
      have HAD := Lib.hid had
      have HOK2 := Lib.hid hok2
      have HSDR := Lib.hid (hsd.kp kb)
      have KB := Lib.hid (Kp.trans hk kb)
      obtain ⟨u0, u1, u2, u3, u4, u5, u6, u7, u8, u9, u10, u11, u12, u13⟩ := cells14 RF.out
      clear hkk hj hlt hok hsl hsd hk htk hjx hwf hcell hF kb hap had hAQ hok2 her
      go_wp2_with (first | (go_at_call 11; (with_reducible refine (HAP.out _ (Kp.refl _)).mono ?_); rintro e' w5 ⟨rfl, s5, d5, x5, k5⟩; have S5 := Lib.hid s5; have D5 := Lib.hid (d5 _ _ _ HSDR.out); have R5 := Lib.hid (x5 _ _ _ offL_fct RF.out); have K5 := Lib.hid (k5 w KB.out (Nat.le_refl _)); obtain ⟨v0, v1, v2, v3, v4, v5, v6, v7, v8, v9, v10, v11, v12, v13⟩ := cells14 (R5.out); clear s5 d5 x5 k5) | (go_at_call 12; (with_reducible refine (HAD.out _ D5.out).mono ?_); rintro e' w7 ⟨rfl, s7, d7, x7, k7⟩; have SD7 := Lib.hid s7; have SL7 := Lib.hid (d7 _ _ _ S5.out); have K7 := Lib.hid (k7 w K5.out (Nat.le_refl _)); clear s7 d7 x7 k7))
      go_roundw
      case rel => exact ⟨j + 1, m2, by have := HLT.out; omega, by have := HKK.out; first | rw [show ((j + 1 : Nat) : Int) = kk + 1 by omega] | rw [show ((j + 1 : Nat) : Int) = kk + 1 by omega, hw1], HOK2.out, SL7.out, SD7.out, K7.out⟩
      case measure => have := HKK.out; have := HLT.out; simp [intOf]; omega
    · have hje : ¬ kk < N := by have := HNN.out; omega
      obtain ⟨wb, hwb⟩ : ∃ x, x = wr := ⟨wr, rfl⟩
      subst hwb
      obtain ⟨nA, hnA⟩ : ∃ x, m.acts.length = x := ⟨_, rfl⟩
      obtain ⟨np, hnp⟩ : ∃ x, m.parts.length = x := ⟨_, rfl⟩
      have HAC := Lib.hid (fun w1 (hk1 : Kp wb w1) => SL.acts (hsl.kp hk1) hok nA hnA)
      have HPA := Lib.hid (fun w1 (hk1 : Kp wb w1) => SL.parts (hsl.kp hk1) hok np hnp)
      have HPS := Lib.hid (fun w1 (hk1 : Kp wb w1) j hj => SL.partsAt (hsl.kp hk1) hok np hnp j hj)
      have HFN := Lib.hid (fun n s w1 (hk1 : Kp wb w1) => SL.anyFind (hsl.kp hk1) hok n s)
      have HCH := Lib.hid (fun p w1 (hk1 : Kp wb w1) => SL.anyChild (hsl.kp hk1) hok p)
      have HSL := Lib.hid hsl
      have HSD := Lib.hid hsd
      have HOK := Lib.hid hok
      have KWB := Lib.hid hk
      have HPL := Lib.hid hnp
      have H8A := Lib.hid (show nA ≤ 8 by rw [← hnA]; exact hok.l8)
      have H8P := Lib.hid (show np ≤ 8 by rw [← hnp]; exact hok.p8)
      obtain ⟨NA, hNA⟩ : ∃ x : Int, (nA : Int) = x := ⟨_, rfl⟩
      have HNAI := Lib.hid hNA
      obtain ⟨NP, hNP⟩ : ∃ x : Int, (np : Int) = x := ⟨_, rfl⟩
      have HNPI := Lib.hid hNP
      have BAS1 := Lib.hid (Nat.le_refl wb.heap.size)
      clear hkk hj hlt hok hsl hsd hk hnA hnp
      go_wp2_with (go_at_call 21; (with_reducible refine (HAC.out _ (Kp.refl _)).mono ?_); rintro e' w3 ⟨a1, c1, ga, rfl, hgl, hgm, oa, og, hk3⟩; have K3 := Lib.hid hk3; have HGL := Lib.hid hgl; have HA6 := Lib.hid (show ∀ g ∈ ga, g.a.regs.length ≤ 6 from fun g hg => (HOK.out.a _ (by rw [← hgm]; exact List.mem_map_of_mem hg)).l); have XA0 := Lib.hid (show XA wb.heap.size a1 nA c1 ga w3 from ⟨oa, fun g hg => ⟨_, og g hg⟩⟩); clear hk3 oa og hgl hgm)
      go_loopw [48] (fun i wr => ∃ j : Nat, j ≤ nA ∧ i = .int .i64 j ∧ Kp wb wr ∧ XA wb.heap.size a1 nA c1 ga wr) (fun i _ => nA - (intOf i).toNat)
      case atStart => exact ⟨0, Nat.zero_le _, rfl, K3.out, XA0.out⟩
      case round =>
        obtain ⟨j, hj, rfl, hk, hX⟩ := hrel
        obtain ⟨kk, hkk⟩ : ∃ x : Int, (j : Int) = x := ⟨_, rfl⟩
        rw [hkk]
        obtain ⟨wo, hwo⟩ : ∃ x, x = wr := ⟨wr, rfl⟩
        subst hwo
        have HKK := Lib.hid hkk
        have KR := Lib.hid hk
        have XR := Lib.hid hX
        by_cases hlt : j < nA
        · have hjl : kk < NA := by have := HNAI.out; omega
          have hk0 : 0 ≤ kk := by omega
          have htk : kk.toNat = j := by omega
          have hn8 : NA ≤ 8 := by have := HNAI.out; have := H8A.out; omega
          have hw1 : wrap64 (kk + 1) = kk + 1 := IntWalk.wrap64_in _ (by omega)
          have HLT := Lib.hid hlt
          have hjg : j < ga.length := by have := HGL.out; omega
          obtain ⟨⟨⟨⟨xn, xs, xo, xd, xx⟩, xp, xc, xr⟩, xb, xk⟩, hx⟩ : ∃ x, ga[j]'hjg = x := ⟨_, rfl⟩
          obtain ⟨nv, hnv⟩ : ∃ n, xr.length = n := ⟨_, rfl⟩
          obtain ⟨ge, ck, exb, hck, hgB, hgl, hfz, hcr⟩ := own_cellQ (E := acE) (hX.1) HGL.out hlt
          have hcs : ∀ (i : Nat) (u : Value), i < acE.k → (acE.enc (ga[j]'hjg))[i]? = some u → wo.cell? ⟨ge, j * acE.k + i, none⟩ = some u := hcr
          rw [hx, show acE.k = 8 from rfl, ← htk] at hcs
          have exb := congrArg (fun v => match v with | Value.slice a _ _ => a | _ => none) exb
          dsimp only at exb
          subst exb
          obtain ⟨xv, hxv⟩ : ∃ v, (⟨⟨⟨xn, xs, xo, xd, xx⟩, xp, xc, xr⟩, xb, xk⟩ : AcG).v = v := ⟨_, rfl⟩
          have z0 : wo.cell? ⟨ge, kk.toNat * 8, none⟩ = some (.int .i64 xn) := hcs 0 _ (by decide) rfl
          have z1 : wo.cell? ⟨ge, kk.toNat * 8 + 1, none⟩ = some (.int .i64 xs) := hcs 1 _ (by decide) rfl
          have z2 : wo.cell? ⟨ge, kk.toNat * 8 + 2, none⟩ = some (.int .i64 xo) := hcs 2 _ (by decide) rfl
          have z3 : wo.cell? ⟨ge, kk.toNat * 8 + 3, none⟩ = some (.int .i64 xd) := hcs 3 _ (by decide) rfl
          have z4 : wo.cell? ⟨ge, kk.toNat * 8 + 4, none⟩ = some (.float .f64 xx) := hcs 4 _ (by decide) rfl
          have z5 : wo.cell? ⟨ge, kk.toNat * 8 + 5, none⟩ = some (.int .i64 xp) := hcs 5 _ (by decide) rfl
          have z6 : wo.cell? ⟨ge, kk.toNat * 8 + 6, none⟩ = some (.int .i64 xc) := hcs 6 _ (by decide) rfl
          have z7 : wo.cell? ⟨ge, kk.toNat * 8 + 7, none⟩ = some xv := by rw [← hxv]; exact hcs 7 _ (by decide) rfl
          unfold AcG.v at hxv
          dsimp only at hxv
          rw [hnv] at hxv
          subst hxv
          obtain ⟨s0, s1, s2, s3, s4, s5, s6, s7⟩ := cells_8 (MapKept.heap_alloc wo (.cells #[.int .i64 xn, .int .i64 xs, .int .i64 xo, .int .i64 xd, .float .f64 xx, .int .i64 xp, .int .i64 xc, .slice xb nv xk] 65)).1
          have hga : AnyR wb.heap.size (.slice xb nv xk) nv wo := by
            have h1 := hX.2 _ (List.getElem_mem hjg)
            rw [hx] at h1
            unfold AcG.v at h1
            dsimp only at h1
            rw [hnv] at h1
            exact h1
          have hn6 : nv ≤ 6 := by
            rw [← hnv]
            have h1 := HA6.out _ (List.getElem_mem hjg)
            rw [hx] at h1
            exact h1
          have kb := kp_alloc wo (.cells #[.int .i64 xn, .int .i64 xs, .int .i64 xo, .int .i64 xd, .float .f64 xx, .int .i64 xp, .int .i64 xc, .slice xb nv xk] 65)
          have ST1 := Lib.hid (Kp.trans hk kb)
          have ST2 := Lib.hid (MapKept.heap_alloc wo (.cells #[.int .i64 xn, .int .i64 xs, .int .i64 xo, .int .i64 xd, .float .f64 xx, .int .i64 xp, .int .i64 xc, .slice xb nv xk] 65)).1
          have ST3 := Lib.hid (hga.kp kb)
          have ST4 := Lib.hid (hX.kp kb)
          have H6V := Lib.hid hn6
          obtain ⟨NV, hNV⟩ : ∃ x : Int, (nv : Int) = x := ⟨_, rfl⟩
          have HNV := Lib.hid hNV
          have BASE := BAS1
          clear hcs hcr hck hgB hgl hfz hkk hj hlt hk htk hx hnv hjg hX hga hn6 kb
          go_wp2
          go_loopw [55] (fun i wr => ∃ k : Nat, k ≤ nv ∧ i = .int .i64 k ∧ Kp wb wr ∧ wr.heap[wo.heap.size]? = some (.cells #[.int .i64 xn, .int .i64 xs, .int .i64 xo, .int .i64 xd, .float .f64 xx, .int .i64 xp, .int .i64 xc, .slice xb nv xk] 65) ∧ AnyR (wb.heap.size) (.slice xb nv xk) nv wr ∧ XA wb.heap.size (some ⟨ge, 0, none⟩) nA c1 ga wr) (fun i _ => nv - (intOf i).toNat)
          case atStart => exact ⟨0, Nat.zero_le _, rfl, ST1.out, ST2.out, ST3.out, ST4.out⟩
          case round =>
            obtain ⟨k, hkn, rfl, hkp, hbx, har, hX⟩ := hrel
            obtain ⟨ll, hll⟩ : ∃ x : Int, (k : Int) = x := ⟨_, rfl⟩
            rw [hll]
            have HLL := Lib.hid hll
            have KQ := Lib.hid hkp
            have BQ := Lib.hid hbx
            have AQ := Lib.hid har
            have XQ := Lib.hid hX
            by_cases hlt2 : k < nv
            · have hln : ll < NV := by have := HNV.out; omega
              have hl0 : 0 ≤ ll := by omega
              have htl : ll.toNat = k := by omega
              have hn6 : NV ≤ 6 := by have := HNV.out; have := H6V.out; omega
              have hw2 : wrap64 (ll + 1) = ll + 1 := IntWalk.wrap64_in _ (by omega)
              have HLT2 := Lib.hid hlt2
              obtain ⟨gr, cq, exb, hgb, hgl, ⟨cs, hgc⟩, hfz, ⟨u0, hce⟩⟩ := har.at k hlt2 1 (by decide)
              rw [← htl] at hfz hce
              have exb := congrArg (fun v => match v with | Value.slice a _ _ => a | _ => none) exb
              dsimp only at exb
              subst exb
              obtain ⟨s0, s1, s2, s3, s4, s5, s6, s7⟩ := cells_8 hbx
              have HG := Lib.hid hgb
              have HGC := Lib.hid hgc
              clear hll hkn hkp hbx har hX hlt2 htl hgb hgl hgc
              go_wp2
              go_roundw
              case rel => exact ⟨k + 1, by have := HLT2.out; omega, by have := HLL.out; first | (rw [show ((k + 1 : Nat) : Int) = ll + 1 by omega]; done) | rw [show ((k + 1 : Nat) : Int) = ll + 1 by omega, hw2], Below.setCell KQ.out (Nat.le_trans BASE.out HG.out) _, by rw [Below.heap_setCell _ _ _ _ (fun e => row_neQ BQ.out HGC.out (by decide) e)]; exact BQ.out, AQ.out.set _ _ _, XQ.out.set HGC.out _ _⟩
              case measure => have := HLL.out; have := HLT2.out; simp [intOf]; omega
            · have hle : ¬ ll < NV := by have := HNV.out; omega
              clear hll hkn hkp hbx har hX hlt2
              go_wp2
              go_roundw
              case rel => exact ⟨j + 1, by have := HLT.out; omega, by have := HKK.out; first | (rw [show ((j + 1 : Nat) : Int) = kk + 1 by omega]; done) | rw [show ((j + 1 : Nat) : Int) = kk + 1 by omega, hw1], KQ.out, XQ.out⟩
              case measure => have := HKK.out; have := HLT.out; simp [intOf]; omega
        · have hje : ¬ kk < NA := by have := HNAI.out; omega
          clear hkk hj hlt hk hX
          obtain ⟨w2, hw2z⟩ : ∃ x, x = wo := ⟨wo, rfl⟩
          subst hw2z
          go_wp2_with (go_at_call 21; (with_reducible refine (HAC.out _ KR.out).mono ?_); rintro e' w3 ⟨a2, c2, gb, rfl, hgl, _, oa, _, hk3⟩; have K3 := Lib.hid (Kp.trans KR.out hk3); have HGL2 := Lib.hid hgl; have O3 := Lib.hid oa; clear hk3 oa hgl)
          go_loopw [68] (fun i wr => ∃ j : Nat, j ≤ nA ∧ i = .int .i64 j ∧ Kp wb wr ∧ XB w2.heap.size a2 nA c2 gb wr) (fun i _ => nA - (intOf i).toNat)
          case atStart => exact ⟨0, Nat.zero_le _, rfl, K3.out, O3.out⟩
          case round =>
            obtain ⟨j, hj, rfl, hk, hX⟩ := hrel
            obtain ⟨kk, hkk⟩ : ∃ x : Int, (j : Int) = x := ⟨_, rfl⟩
            rw [hkk]
            obtain ⟨wo, hwo⟩ : ∃ x, x = wr := ⟨wr, rfl⟩
            subst hwo
            have HKK := Lib.hid hkk
            have KR := Lib.hid hk
            have XR := Lib.hid hX
            by_cases hlt : j < nA
            · have hjl : kk < NA := by have := HNAI.out; omega
              have hk0 : 0 ≤ kk := by omega
              have htk : kk.toNat = j := by omega
              have hn8 : NA ≤ 8 := by have := HNAI.out; have := H8A.out; omega
              have hw1 : wrap64 (kk + 1) = kk + 1 := IntWalk.wrap64_in _ (by omega)
              have HLT := Lib.hid hlt
              have hjg : j < gb.length := by have := HGL2.out; omega
              obtain ⟨⟨⟨⟨xn, xs, xo, xd, xx⟩, xp, xc, xr⟩, xb, xk⟩, hx⟩ : ∃ x, gb[j]'hjg = x := ⟨_, rfl⟩
              obtain ⟨nq, hnq⟩ : ∃ n, xr.length = n := ⟨_, rfl⟩
              obtain ⟨ge, ck, exb, hck, hgB, hgl, hfz, hcr⟩ := own_cellQ (E := acE) (hX.row) HGL2.out hlt
              have hcs : ∀ (i : Nat) (u : Value), i < acE.k → (acE.enc (gb[j]'hjg))[i]? = some u → wo.cell? ⟨ge, j * acE.k + i, none⟩ = some u := hcr
              rw [hx, show acE.k = 8 from rfl, ← htk] at hcs
              have exb := congrArg (fun v => match v with | Value.slice a _ _ => a | _ => none) exb
              dsimp only at exb
              subst exb
              obtain ⟨xv, hxv⟩ : ∃ v, (⟨⟨⟨xn, xs, xo, xd, xx⟩, xp, xc, xr⟩, xb, xk⟩ : AcG).v = v := ⟨_, rfl⟩
              have z0 : wo.cell? ⟨ge, kk.toNat * 8, none⟩ = some (.int .i64 xn) := hcs 0 _ (by decide) rfl
              have z1 : wo.cell? ⟨ge, kk.toNat * 8 + 1, none⟩ = some (.int .i64 xs) := hcs 1 _ (by decide) rfl
              have z2 : wo.cell? ⟨ge, kk.toNat * 8 + 2, none⟩ = some (.int .i64 xo) := hcs 2 _ (by decide) rfl
              have z3 : wo.cell? ⟨ge, kk.toNat * 8 + 3, none⟩ = some (.int .i64 xd) := hcs 3 _ (by decide) rfl
              have z4 : wo.cell? ⟨ge, kk.toNat * 8 + 4, none⟩ = some (.float .f64 xx) := hcs 4 _ (by decide) rfl
              have z5 : wo.cell? ⟨ge, kk.toNat * 8 + 5, none⟩ = some (.int .i64 xp) := hcs 5 _ (by decide) rfl
              have z6 : wo.cell? ⟨ge, kk.toNat * 8 + 6, none⟩ = some (.int .i64 xc) := hcs 6 _ (by decide) rfl
              have z7 : wo.cell? ⟨ge, kk.toNat * 8 + 7, none⟩ = some xv := by rw [← hxv]; exact hcs 7 _ (by decide) rfl
              unfold AcG.v at hxv
              dsimp only at hxv
              rw [hnq] at hxv
              subst hxv
              obtain ⟨s0, s1, s2, s3, s4, s5, s6, s7⟩ := cells_8 (MapKept.heap_alloc wo (.cells #[.int .i64 xn, .int .i64 xs, .int .i64 xo, .int .i64 xd, .float .f64 xx, .int .i64 xp, .int .i64 xc, .slice xb nq xk] 65)).1
              have kb := kp_alloc wo (.cells #[.int .i64 xn, .int .i64 xs, .int .i64 xo, .int .i64 xd, .float .f64 xx, .int .i64 xp, .int .i64 xc, .slice xb nq xk] 65)
              have KB := Lib.hid (Kp.trans hk kb)
              have XS0 := Lib.hid (hX.kp kb)
              clear hcs hcr hck hgB hgl hfz hkk hj hlt hk htk hx hnq hjg hX kb
              go_wp2_with (go_at_call 22; (with_reducible refine (HFN.out xn xs _ KB.out).mono ?_); rintro e' w3 ⟨fn, fs, fo, fd, fx, fp, fc, ob, nv, oc, tb, rfl, hn6, har, hk3⟩; have K3 := Lib.hid hk3; have A3 := Lib.hid har; have H6V := Lib.hid hn6; clear hk3 har hn6)
              have kc := kp_alloc w3 (.cells #[.int .i64 fn, .int .i64 fs, .int .i64 fo, .int .i64 fd, .float .f64 fx, .int .i64 fp, .int .i64 fc, .slice ob nv oc] 65)
              have ST1 := Lib.hid (Kp.trans KB.out (Kp.trans K3.out kc))
              have ST2 := Lib.hid (MapKept.heap_alloc w3 (.cells #[.int .i64 fn, .int .i64 fs, .int .i64 fo, .int .i64 fd, .float .f64 fx, .int .i64 fp, .int .i64 fc, .slice ob nv oc] 65)).1
              have ST3 := Lib.hid (A3.out.kp kc)
              have ST4 := Lib.hid (XS0.out.kp (Kp.trans K3.out kc))
              obtain ⟨s0, s1, s2, s3, s4, s5, s6, s7⟩ := cells_8 ST2.out
              obtain ⟨NV, hNV⟩ : ∃ x : Int, (nv : Int) = x := ⟨_, rfl⟩
              have HNV := Lib.hid hNV
              have BASE := Lib.hid (show wb.heap.size ≤ (wo.alloc (.cells #[.int .i64 xn, .int .i64 xs, .int .i64 xo, .int .i64 xd, .float .f64 xx, .int .i64 xp, .int .i64 xc, .slice xb nq xk] 65)).heap.size from kp_size KB.out)
              clear kc
              try go_wp2
              go_loopw [83] (fun i wr => ∃ k : Nat, k ≤ nv ∧ i = .int .i64 k ∧ Kp wb wr ∧ wr.heap[w3.heap.size]? = some (.cells #[.int .i64 fn, .int .i64 fs, .int .i64 fo, .int .i64 fd, .float .f64 fx, .int .i64 fp, .int .i64 fc, .slice ob nv oc] 65) ∧ AnyR ((wo.alloc (.cells #[.int .i64 xn, .int .i64 xs, .int .i64 xo, .int .i64 xd, .float .f64 xx, .int .i64 xp, .int .i64 xc, .slice xb nq xk] 65)).heap.size) (.slice ob nv oc) nv wr ∧ XB w2.heap.size (some ⟨ge, 0, none⟩) nA c2 gb wr) (fun i _ => nv - (intOf i).toNat)
              case atStart => exact ⟨0, Nat.zero_le _, rfl, ST1.out, ST2.out, ST3.out, ST4.out⟩
              case round =>
                obtain ⟨k, hkn, rfl, hkp, hbx, har, hX⟩ := hrel
                obtain ⟨ll, hll⟩ : ∃ x : Int, (k : Int) = x := ⟨_, rfl⟩
                rw [hll]
                have HLL := Lib.hid hll
                have KQ := Lib.hid hkp
                have BQ := Lib.hid hbx
                have AQ := Lib.hid har
                have XQ := Lib.hid hX
                by_cases hlt2 : k < nv
                · have hln : ll < NV := by have := HNV.out; omega
                  have hl0 : 0 ≤ ll := by omega
                  have htl : ll.toNat = k := by omega
                  have hn6 : NV ≤ 6 := by have := HNV.out; have := H6V.out; omega
                  have hw2 : wrap64 (ll + 1) = ll + 1 := IntWalk.wrap64_in _ (by omega)
                  have HLT2 := Lib.hid hlt2
                  obtain ⟨gr, cq, exb, hgb, hgl, ⟨cs, hgc⟩, hfz, ⟨u0, hce⟩⟩ := har.at k hlt2 0 (by decide)
                  rw [← htl, Nat.add_zero] at hfz hce
                  have exb := congrArg (fun v => match v with | Value.slice a _ _ => a | _ => none) exb
                  dsimp only at exb
                  subst exb
                  obtain ⟨s0, s1, s2, s3, s4, s5, s6, s7⟩ := cells_8 hbx
                  have HG := Lib.hid hgb
                  have HGC := Lib.hid hgc
                  clear hll hkn hkp hbx har hX hlt2 htl hgb hgl hgc
                  go_wp2
                  go_roundw
                  case rel => exact ⟨k + 1, by have := HLT2.out; omega, by have := HLL.out; first | (rw [show ((k + 1 : Nat) : Int) = ll + 1 by omega]; done) | rw [show ((k + 1 : Nat) : Int) = ll + 1 by omega, hw2], Below.setCell KQ.out (Nat.le_trans BASE.out HG.out) _, by rw [Below.heap_setCell _ _ _ _ (fun e => row_neQ BQ.out HGC.out (by decide) e)]; exact BQ.out, AQ.out.set _ _ _, XQ.out.set HGC.out _ _⟩
                  case measure => have := HLL.out; have := HLT2.out; simp [intOf]; omega
                · have hle : ¬ ll < NV := by have := HNV.out; omega
                  clear hll hkn hkp hbx har hX hlt2
                  go_wp2
                  go_roundw
                  case rel => exact ⟨j + 1, by have := HLT.out; omega, by have := HKK.out; first | (rw [show ((j + 1 : Nat) : Int) = kk + 1 by omega]; done) | rw [show ((j + 1 : Nat) : Int) = kk + 1 by omega, hw1], KQ.out, XQ.out⟩
                  case measure => have := HKK.out; have := HLT.out; simp [intOf]; omega
            · have hje : ¬ kk < NA := by have := HNAI.out; omega
              clear hkk hj hlt hk hX
              obtain ⟨wz, hwz⟩ : ∃ x, x = wo := ⟨wo, rfl⟩
              subst hwz
              go_wp2_with (go_at_call 23; (with_reducible refine (HPA.out _ KR.out).mono ?_); rintro e' wp ⟨a4, c4, rfl, o4, hk4⟩; have K4 := Lib.hid (Kp.trans KR.out hk4); have O4 := Lib.hid o4; clear hk4 o4)
              go_loopw [96] (fun i wr => ∃ j : Nat, j ≤ np ∧ i = .int .i64 j ∧ Kp wb wr ∧ XP wz.heap.size a4 np c4 m.parts wr) (fun i _ => np - (intOf i).toNat)
              case atStart => exact ⟨0, Nat.zero_le _, rfl, K4.out, O4.out⟩
              case round =>
                obtain ⟨j, hj, rfl, hk, hX⟩ := hrel
                obtain ⟨kk, hkk⟩ : ∃ x : Int, (j : Int) = x := ⟨_, rfl⟩
                rw [hkk]
                obtain ⟨wo, hwo⟩ : ∃ x, x = wr := ⟨wr, rfl⟩
                subst hwo
                have HKK := Lib.hid hkk
                have KR := Lib.hid hk
                have XR := Lib.hid hX
                by_cases hlt : j < np
                · have hjl : kk < NP := by have := HNPI.out; omega
                  have hk0 : 0 ≤ kk := by omega
                  have htk : kk.toNat = j := by omega
                  have hn8 : NP ≤ 8 := by have := HNPI.out; have := H8P.out; omega
                  have hw1 : wrap64 (kk + 1) = kk + 1 := IntWalk.wrap64_in _ (by omega)
                  have HLT := Lib.hid hlt
                  have hjm : j < m.parts.length := by have := HPL.out; omega
                  obtain ⟨⟨yn, ys, yr, ⟨y1, y2, y3, y4⟩⟩, hy⟩ : ∃ r, m.parts[j]'hjm = r := ⟨_, rfl⟩
                  obtain ⟨ge, ck, exb, hck, hgB, hgl, hfz, hcr⟩ := own_cellQ (E := paE) (hX.row) HPL.out hlt
                  have hcs : ∀ (i : Nat) (u : Value), i < paE.k → (paE.enc (m.parts[j]'hjm))[i]? = some u → wo.cell? ⟨ge, j * paE.k + i, none⟩ = some u := hcr
                  rw [hy, show paE.k = 7 from rfl, ← htk] at hcs
                  have exb := congrArg (fun v => match v with | Value.slice a _ _ => a | _ => none) exb
                  dsimp only at exb
                  subst exb
                  have z0 : wo.cell? ⟨ge, kk.toNat * 7, none⟩ = some (.int .i64 yn) := hcs 0 _ (by decide) rfl
                  have z1 : wo.cell? ⟨ge, kk.toNat * 7 + 1, none⟩ = some (.int .i64 ys) := hcs 1 _ (by decide) rfl
                  have z2 : wo.cell? ⟨ge, kk.toNat * 7 + 2, none⟩ = some (.int .i64 yr) := hcs 2 _ (by decide) rfl
                  have z3 : wo.cell? ⟨ge, kk.toNat * 7 + 3, none⟩ = some (.int .i64 y1) := hcs 3 _ (by decide) rfl
                  have z4 : wo.cell? ⟨ge, kk.toNat * 7 + 4, none⟩ = some (.int .i64 y2) := hcs 4 _ (by decide) rfl
                  have z5 : wo.cell? ⟨ge, kk.toNat * 7 + 5, none⟩ = some (.int .i64 y3) := hcs 5 _ (by decide) rfl
                  have z6 : wo.cell? ⟨ge, kk.toNat * 7 + 6, none⟩ = some (.int .i64 y4) := hcs 6 _ (by decide) rfl
                  have HTK := Lib.hid htk
                  have kb := kp_alloc wo (.cells #[.int .i64 yn, .int .i64 ys, .int .i64 99, .int .i64 y1, .int .i64 y2, .int .i64 y3, .int .i64 y4] 75)
                  have KB := Lib.hid (Kp.trans hk kb)
                  have RP := Lib.hid (MapKept.heap_alloc wo (.cells #[.int .i64 yn, .int .i64 ys, .int .i64 99, .int .i64 y1, .int .i64 y2, .int .i64 y3, .int .i64 y4] 75)).1
                  have XS0 := Lib.hid (hX.kp kb)
                  clear hcs hcr hck hgB hgl hfz hkk hj hlt hk htk hy hjm hX kb
                  go_wp2_with fail
                  obtain ⟨WD, hWD⟩ : ∃ x, (wo.alloc (.cells #[.int .i64 yn, .int .i64 ys, .int .i64 99, .int .i64 y1, .int .i64 y2, .int .i64 y3, .int .i64 y4] 75)).drew = x := ⟨_, rfl⟩
                  have kD : Kp (wo.alloc (.cells #[.int .i64 yn, .int .i64 ys, .int .i64 99, .int .i64 y1, .int .i64 y2, .int .i64 y3, .int .i64 y4] 75)) WD := by rw [← hWD]; exact drewQ (Kp.refl _)
                  have HWD := Lib.hid hWD
                  clear hWD
                  refine wp_region_held_drew (S := fun w' => Kp (wo.alloc (.cells #[.int .i64 yn, .int .i64 ys, .int .i64 99, .int .i64 y1, .int .i64 y2, .int .i64 y3, .int .i64 y4] 75)) w') (by kernel_rfl) ?_ (fun hHeld => ?_)
                  · exact by rw [HWD.out]; exact kD
                  rw [HWD.out] at hHeld ⊢
                  refine tkW ?_ 0 ?_ ?_; rotate_left
                  · intro w hSw; go_simp; try rfl
                  go_simp
                  refine tkW ?_ 2 ?_ ?_; rotate_left
                  · intro w hSw; go_simp; try rfl
                  go_simp
                  refine tkW ?_ 3 ?_ ?_; rotate_left
                  · intro w hSw; obtain ⟨a0, a1, a2, a3, a4, a5, a6⟩ := cells_7 (kp_row hSw RP.out); go_simp; try rfl
                  go_simp
                  refine wpAnyH_ready (rs := [1]) (by kernel_rfl) (by simp) ?_
                  refine AllReadyH.cons rfl (fun K hK => ?_) AllReadyH.nil
                  go_simp
                  go_wp2_with (go_at_call 23; (with_reducible refine (HPS.out _ (Kp.trans KB.out (show Kp (wo.alloc (.cells #[.int .i64 yn, .int .i64 ys, .int .i64 99, .int .i64 y1, .int .i64 y2, .int .i64 y3, .int .i64 y4] 75)) _ from hHeld)) j HLT.out).mono ?_); rintro e' w5 ⟨gp, cp, rfl, hgp, hce, hfz5, hk5⟩)
                  refine hK.out _ _ ?_ (fun hHeld => ?_)
                  · exact Kp.trans hHeld hk5
                  clear hK K
                  have k5 : Kp (wo.alloc (.cells #[.int .i64 yn, .int .i64 ys, .int .i64 99, .int .i64 y1, .int .i64 y2, .int .i64 y3, .int .i64 y4] 75)) w5 := hHeld
                  have b5 : (wo.alloc (.cells #[.int .i64 yn, .int .i64 ys, .int .i64 99, .int .i64 y1, .int .i64 y2, .int .i64 y3, .int .i64 y4] 75)).heap.size ≤ gp := Nat.le_trans (kp_size kD) hgp
                  rw [← HTK.out] at hce
                  obtain ⟨⟨u0, q0⟩, ⟨u1, q1⟩, ⟨u2, q2⟩, ⟨u3, q3⟩, ⟨u4, q4⟩, ⟨u5, q5⟩, ⟨u6, q6⟩⟩ := hce
                  refine tkW ?_ 4 ?_ ?_; rotate_left
                  · intro w hSw; go_simp; try rfl
                  go_simp
                  refine wpAnyH_ready (rs := [5]) (by kernel_rfl) (by simp) ?_
                  refine AllReadyH.cons rfl (fun K hK => ?_) AllReadyH.nil
                  go_simp
                  refine hK.out _ _ ?_ (fun hHeld => ?_)
                  · exact set7_kpO k5 b5 _ _ _ _ _ _ _ _
                  clear hK K
                  obtain ⟨w6, hw6⟩ : ∃ x, (((((((w5.setCell ⟨gp, kk.toNat * 7, none⟩ (.int .i64 yn)).setCell ⟨gp, kk.toNat * 7 + 1, none⟩ (.int .i64 ys)).setCell ⟨gp, kk.toNat * 7 + 2, none⟩ (.int .i64 99)).setCell ⟨gp, kk.toNat * 7 + 3, none⟩ (.int .i64 y1)).setCell ⟨gp, kk.toNat * 7 + 4, none⟩ (.int .i64 y2)).setCell ⟨gp, kk.toNat * 7 + 5, none⟩ (.int .i64 y3)).setCell ⟨gp, kk.toNat * 7 + 6, none⟩ (.int .i64 y4)) = x := ⟨_, rfl⟩
                  rw [hw6] at hHeld ⊢
                  refine wpAnyH_done (by kernel_rfl) ?_ _
                  have KF := Lib.hid (show Kp (wo.alloc (.cells #[.int .i64 yn, .int .i64 ys, .int .i64 99, .int .i64 y1, .int .i64 y2, .int .i64 y3, .int .i64 y4] 75)) _ from hHeld)
                  clear hHeld
                  go_wp2_with (go_at_call 24; (with_reducible refine (HCH.out kk _ (Kp.trans KB.out KF.out)).mono ?_); rintro e' w8 ⟨fn, fs, fo, fd, fx, fp, fc, ob, nv, oc, tb, rfl, hn6, har, hk8⟩; have K8 := Lib.hid hk8; have A8 := Lib.hid har; have H6V := Lib.hid hn6; clear hk8 har hn6)
                  have kc := kp_alloc w8 (.cells #[.int .i64 fn, .int .i64 fs, .int .i64 fo, .int .i64 fd, .float .f64 fx, .int .i64 fp, .int .i64 fc, .slice ob nv oc] 65)
                  have ST1 := Lib.hid (Kp.trans KB.out (Kp.trans KF.out (Kp.trans K8.out kc)))
                  have ST2 := Lib.hid (MapKept.heap_alloc w8 (.cells #[.int .i64 fn, .int .i64 fs, .int .i64 fo, .int .i64 fd, .float .f64 fx, .int .i64 fp, .int .i64 fc, .slice ob nv oc] 65)).1
                  have ST3 := Lib.hid (A8.out.kp kc)
                  have ST4 := Lib.hid (XS0.out.kp (Kp.trans KF.out (Kp.trans K8.out kc)))
                  obtain ⟨s0, s1, s2, s3, s4, s5, s6, s7⟩ := cells_8 ST2.out
                  obtain ⟨NV, hNV⟩ : ∃ x : Int, (nv : Int) = x := ⟨_, rfl⟩
                  have HNV := Lib.hid hNV
                  have BASE := Lib.hid (show wb.heap.size ≤ w6.heap.size from kp_size (Kp.trans KB.out KF.out))
                  clear kc
                  try go_wp2
                  go_loopw [116] (fun i wr => ∃ k : Nat, k ≤ nv ∧ i = .int .i64 k ∧ Kp wb wr ∧ wr.heap[w8.heap.size]? = some (.cells #[.int .i64 fn, .int .i64 fs, .int .i64 fo, .int .i64 fd, .float .f64 fx, .int .i64 fp, .int .i64 fc, .slice ob nv oc] 65) ∧ AnyR (w6.heap.size) (.slice ob nv oc) nv wr ∧ XP wz.heap.size (some ⟨ge, 0, none⟩) np c4 m.parts wr) (fun i _ => nv - (intOf i).toNat)
                  case atStart => exact ⟨0, Nat.zero_le _, rfl, ST1.out, ST2.out, ST3.out, ST4.out⟩
                  case round =>
                    obtain ⟨k, hkn, rfl, hkp, hbx, har, hX⟩ := hrel
                    obtain ⟨ll, hll⟩ : ∃ x : Int, (k : Int) = x := ⟨_, rfl⟩
                    rw [hll]
                    have HLL := Lib.hid hll
                    have KQ := Lib.hid hkp
                    have BQ := Lib.hid hbx
                    have AQ := Lib.hid har
                    have XQ := Lib.hid hX
                    by_cases hlt2 : k < nv
                    · have hln : ll < NV := by have := HNV.out; omega
                      have hl0 : 0 ≤ ll := by omega
                      have htl : ll.toNat = k := by omega
                      have hn6 : NV ≤ 6 := by have := HNV.out; have := H6V.out; omega
                      have hw2 : wrap64 (ll + 1) = ll + 1 := IntWalk.wrap64_in _ (by omega)
                      have HLT2 := Lib.hid hlt2
                      obtain ⟨gr, cq, exb, hgb, hgl, ⟨cs, hgc⟩, hfz, ⟨u0, hce⟩⟩ := har.at k hlt2 1 (by decide)
                      rw [← htl] at hfz hce
                      have exb := congrArg (fun v => match v with | Value.slice a _ _ => a | _ => none) exb
                      dsimp only at exb
                      subst exb
                      obtain ⟨s0, s1, s2, s3, s4, s5, s6, s7⟩ := cells_8 hbx
                      have HG := Lib.hid hgb
                      have HGC := Lib.hid hgc
                      clear hll hkn hkp hbx har hX hlt2 htl hgb hgl hgc
                      go_wp2
                      go_roundw
                      case rel => exact ⟨k + 1, by have := HLT2.out; omega, by have := HLL.out; first | (rw [show ((k + 1 : Nat) : Int) = ll + 1 by omega]; done) | rw [show ((k + 1 : Nat) : Int) = ll + 1 by omega, hw2], Below.setCell KQ.out (Nat.le_trans BASE.out HG.out) _, by rw [Below.heap_setCell _ _ _ _ (fun e => row_neQ BQ.out HGC.out (by decide) e)]; exact BQ.out, AQ.out.set _ _ _, XQ.out.set HGC.out _ _⟩
                      case measure => have := HLL.out; have := HLT2.out; simp [intOf]; omega
                    · have hle : ¬ ll < NV := by have := HNV.out; omega
                      clear hll hkn hkp hbx har hX hlt2
                      go_wp2
                      go_roundw
                      case rel => exact ⟨j + 1, by have := HLT.out; omega, by have := HKK.out; first | (rw [show ((j + 1 : Nat) : Int) = kk + 1 by omega]; done) | rw [show ((j + 1 : Nat) : Int) = kk + 1 by omega, hw1], KQ.out, XQ.out⟩
                      case measure => have := HKK.out; have := HLT.out; simp [intOf]; omega
                · have hje : ¬ kk < NP := by have := HNPI.out; omega
                  clear hkk hj hlt hk hX
                  go_wp2_with (go_at_call 13; (with_reducible refine (SL.both (HSL.out.kp KR.out) (HSD.out.kp KR.out) HOK.out).mono ?_); rintro e' w9 ⟨rfl, hk9⟩; have K9 := Lib.hid (Kp.trans KWB.out (Kp.trans KR.out hk9)); clear hk9)
                  go_ret
                  exact ⟨rfl, K9.out⟩
end Go.Proofs.YtpemeenfhkgmpaaGreatDoor
