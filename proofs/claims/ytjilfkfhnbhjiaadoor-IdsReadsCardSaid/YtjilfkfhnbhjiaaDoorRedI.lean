/-
  A TEXT READ PLACE BY PLACE (own work): ids.read's closure.
-/
import Derived.Test.YtjilfkfhnbhjiaaDoorFirI
import Derived.Test.YtjilfkfhnbhjiaaDoorPlaI
import Derived.Test.YtjilfkfhnbhjiaaDoorTryS
import Derived.Deep.RegionHeld3
import Derived.Laws.Rows
namespace Go.Proofs.YtjilfkfhnbhjiaaDoor
open Go.RowKit Go.ChangeShapes Go.WideShapes

/-- three numbers, those that there are first -/
def padV (l : List Int) : Value := .agg #[.int .i64 (l.getD 0 0), .int .i64 (l.getD 1 0), .int .i64 (l.getD 2 0)]
theorem firstM_in {t : List Int} (h : InB t) {n : Int} {r : List Int} (hf : firstM t = some (n, r)) : InB r ∧ r.length ≤ t.length := by
  unfold firstM at hf
  split at hf
  · injection hf with hf
    injection hf with h1 h2
    rw [← h2]
    exact ⟨fun x hx => h x (List.mem_of_mem_drop hx), by simp⟩
  · cases hf
theorem cutM_in {c : Int} {s r : List Int} (h : InB s) (hc : cutM c s = some r) : InB r ∧ r.length ≤ s.length := by
  cases s with
  | nil => cases hc
  | cons x t =>
    simp only [cutM] at hc
    split at hc
    · injection hc with hc
      rw [← hc]
      exact ⟨fun y hy => h y (List.mem_cons_of_mem _ hy), by simp⟩
    · cases hc

/-- ALL OLD BLOCKS BUT p ARE AS THEY WERE. -/
def Kc (p : Nat) (w w' : World) : Prop := w.heap.size ≤ w'.heap.size ∧ ∀ b, b ≠ p → b < w.heap.size → w'.heap[b]? = w.heap[b]?
theorem Kc.refl (p : Nat) (w : World) : Kc p w w := ⟨Nat.le_refl _, fun _ _ _ => rfl⟩
theorem Kc.kp {p : Nat} {w w1 w2 : World} (h : Kc p w w1) (hk : Kp w1 w2) : Kc p w w2 := ⟨Nat.le_trans h.1 (Below.size hk), fun b hb hl => by rw [Below.block hk b (Nat.lt_of_lt_of_le hl h.1)]; exact h.2 b hb hl⟩
theorem Kc.set {p : Nat} {w w1 : World} (h : Kc p w w1) (v : Value) : Kc p w (w1.setCell ⟨p, 0, none⟩ v) := ⟨by simp; exact h.1, fun b hb hl => by rw [Below.heap_setCell _ _ _ _ hb]; exact h.2 b hb hl⟩
theorem Kc.setNew {p q : Nat} {w w1 : World} (h : Kc p w w1) (hq : w.heap.size ≤ q) (i : Nat) (v : Value) : Kc p w (w1.setCell ⟨q, i, none⟩ v) := ⟨by simp; exact h.1, fun b hb hl => by rw [Below.heap_setCell _ _ _ _ (by simp; omega)]; exact h.2 b hb hl⟩
theorem Kc.past {p B : Nat} {w w' : World} (h : Kc p w w') (hp : p < B) : Past B w w' := ⟨h.1, fun b hb hl => h.2 b (by omega) hl⟩
def boxT (s : List Int) : Obj := .cells #[.string (strOfNums s)] 9 (0, 0)
def arrT (l : List Int) : Obj := .cells #[.int .i64 (l.getD 0 0), .int .i64 (l.getD 1 0), .int .i64 (l.getD 2 0)] 58 (0, 0)
theorem arrT_put {l : List Int} {j : Nat} (hl : l.length = j) (hj : j < 3) (n : Int) :
    (#[.int .i64 (l.getD 0 0), .int .i64 (l.getD 1 0), .int .i64 (l.getD 2 0)] : Array Value).setIfInBounds j (.int .i64 n) = #[.int .i64 ((l ++ [n]).getD 0 0), .int .i64 ((l ++ [n]).getD 1 0), .int .i64 ((l ++ [n]).getD 2 0)] := by
  match l, j, hl, hj with
  | [], 0, _, _ | [_], 1, _, _ | [_, _], 2, _, _ => rfl
  | [], n + 1, h, _ => simp at h
  | [_], 0, h, _ | [_], 2, h, _ => simp at h
  | [_, _], 0, h, _ | [_, _], 1, h, _ => simp at h
  | _ :: _ :: _ :: l, j, h, hj => simp at h; omega

/-- WHERE THE READING STANDS: what is left of the text (the box p), the numbers (the block q). -/
structure RdSt (W w : World) (p q : Nat) (cur out : List Int) (wr : World) : Prop where
  kW : Kp W wr
  kc : Kc p w wr
  bx : wr.heap[p]? = some (boxT cur)
  ar : wr.heap[q]? = some (arrT out)
  rs : wr.heap[w.heap.size]? = some (arrT [])
theorem RdSt.kp {W w wr wr' : World} {p q : Nat} {cur out : List Int} (h : RdSt W w p q cur out wr) (hk : Kp wr wr') : RdSt W w p q cur out wr' :=
  ⟨Kp.trans h.kW hk, h.kc.kp hk, kp_row hk h.bx, kp_row hk h.ar, kp_row hk h.rs⟩
theorem RdSt.cur {W w wr : World} {p q : Nat} {cur out : List Int} (h : RdSt W w p q cur out wr) : wr.cell? ⟨p, 0, none⟩ = some (.string (strOfNums cur)) := by
  unfold World.cell?; dsimp only; rw [h.bx]; rfl
theorem RdSt.curZ {W w wr : World} {p q : Nat} {cur out : List Int} (h : RdSt W w p q cur out wr) : wr.frozen? ⟨p, 0, none⟩ = false := by
  unfold World.frozen?; dsimp only; rw [h.bx]; rfl
theorem RdSt.at {W w wr : World} {p q : Nat} {cur out : List Int} (h : RdSt W w p q cur out wr) (j : Nat) (hj : j < 3) : wr.cell? ⟨q, j, none⟩ = some (.int .i64 (out.getD j 0)) := by
  unfold World.cell?; dsimp only; rw [h.ar]
  match j, hj with
  | 0, _ | 1, _ | 2, _ => rfl
theorem RdSt.atZ {W w wr : World} {p q : Nat} {cur out : List Int} (h : RdSt W w p q cur out wr) (j : Nat) : wr.frozen? ⟨q, j, none⟩ = false := by
  unfold World.frozen?; dsimp only; rw [h.ar]; simp [arrT]
theorem RdSt.put {W w wr : World} {p q : Nat} {cur out : List Int} (h : RdSt W w p q cur out wr) (hW : W.heap.size ≤ p) (hp : p < w.heap.size) (hq : w.heap.size < q) (j : Nat) (hl : out.length = j) (hj : j < 3) (n : Int) (r : List Int) :
    RdSt W w p q r (out ++ [n]) ((wr.setCell ⟨q, j, none⟩ (.int .i64 n)).setCell ⟨p, 0, none⟩ (.string (strOfNums r))) := by
  refine ⟨Below.setCell (Below.setCell h.kW (show W.heap.size ≤ q by omega) _) (show W.heap.size ≤ p by omega) _, (h.kc.setNew (Nat.le_of_lt hq) j _).set _, ?_, ?_, ?_⟩
  · refine (Joins.block_setCell (cs := #[.string (strOfNums cur)]) (t := 9) (fr := (0, 0)) ?_ _).trans rfl
    rw [Below.heap_setCell _ _ _ _ (by simp; omega)]
    exact h.bx
  · rw [Below.heap_setCell _ _ _ _ (by simp; omega)]
    refine (Joins.block_setCell h.ar (i := j) (.int .i64 n)).trans ?_
    rw [arrT_put hl hj n]
    rfl
  · rw [Below.heap_setCell _ _ _ _ (by simp; omega), Below.heap_setCell _ _ _ _ (by simp; omega)]
    exact h.rs
theorem RdSt.curQ {W w wr : World} {p q : Nat} {cur out : List Int} (h : RdSt W w p q cur out wr) (hpq : p ≠ q) (j : Nat) (v : Value) :
    (wr.setCell ⟨q, j, none⟩ v).cell? ⟨p, 0, none⟩ = some (.string (strOfNums cur)) ∧ (wr.setCell ⟨q, j, none⟩ v).frozen? ⟨p, 0, none⟩ = false := by
  have e := Below.heap_setCell wr ⟨q, j, none⟩ v p hpq
  constructor
  · unfold World.cell?; dsimp only; rw [e, h.bx]; rfl
  · unfold World.frozen?; dsimp only; rw [e, h.bx]; rfl

/-- a text's numbers, or the error's number -/
def numR (R : Option (List Int × List Int)) (lims : List Int) : List Int × Int :=
  match R with
  | none => ([], 4)
  | some (l, z) => if z = [] then (if allL l lims = true then (l, 0) else ([], 1)) else ([], 4)

set_option maxRecDepth 20000 in
set_option maxHeartbeats 4000000 in
theorem read1_any (ads : List Addr) (h0 : 0 < ads.length) (h3 : 3 < ads.length) (ps : List (Int × Int)) (m : Nat) (hm : ps.length = m) (hm3 : m ≤ 3) (hps : ∀ j, j < m → 0 ≤ (ps.getD j (0, 0)).1 ∧ (ps.getD j (0, 0)).1 < 256)
    (gp cp : Nat) (S : List Int) (hS : InB S) (hSl : S.length ≤ 1000) (W : World) (V : St ads W) (hp : ∀ j, j < m → W.cell? ⟨gp, 2 * j, none⟩ = some (.string (strOfNums [(ps.getD j (0, 0)).1])) ∧ W.cell? ⟨gp, 2 * j + 1, none⟩ = some (.int .i64 (ps.getD j (0, 0)).2))
    (w : World) (hk : Kp W w) (p0 p : Nat) (hWp : W.heap.size ≤ p) (hpw : p < w.heap.size) (hp0 : p0 ≠ p) (hc0 : w.cell? ⟨p0, 0, none⟩ = some (.slice (some ⟨gp, 0, none⟩) m cp)) (hbx : w.heap[p]? = some (boxT S)) :
    Calls Tryd.prog 38 #[.pointer (some ⟨p0, 0, none⟩), .pointer (some ⟨p, 0, none⟩)] w fun e w' =>
      (((numR (rdM (ps.map (·.1)) S) (ps.map (·.2))).2 = 0 ∧ e = .returned (padV (numR (rdM (ps.map (·.1)) S) (ps.map (·.2))).1)) ∨
       ((numR (rdM (ps.map (·.1)) S) (ps.map (·.2))).2 = 1 ∧ e = .panicked [{ v := snt (ads[0]'h0), recovered := false }]) ∨
       ((numR (rdM (ps.map (·.1)) S) (ps.map (·.2))).2 = 4 ∧ e = .panicked [{ v := snt (ads[3]'h3), recovered := false }])) ∧ Kp W w' ∧ Kc p w w' := by
  have CE0 := fun w1 (hk : Kp W w1) => kp_cell hk (V.cell 0 (by decide))
  have CE3 := fun w1 (hk : Kp W w1) => kp_cell hk (V.cell 3 (by decide))
  have HFN := fun cur hin hlen w1 (hk : Kp W w1) (hf : firstM cur = none) => first_none ads h3 cur hin hlen w1 (V.below hk) hf
  have HFS := fun cur hin hlen w1 (hk : Kp W w1) n r (hf : firstM cur = some (n, r)) => first_some ads cur hin hlen w1 (V.below hk) n r hf
  obtain ⟨a0, ha0⟩ : ∃ a, ads[0]'h0 = a := ⟨_, rfl⟩
  obtain ⟨a3, ha3⟩ : ∃ a, ads[3]'h3 = a := ⟨_, rfl⟩
  rw [ha0] at CE0
  rw [ha3] at CE3 HFN
  rw [ha0, ha3]
  replace CE0 : ∀ w1, Kp W w1 → w1.cell? ⟨0, 0, none⟩ = some (snt a0) := CE0
  replace CE3 : ∀ w1, Kp W w1 → w1.cell? ⟨3, 0, none⟩ = some (snt a3) := CE3
  have CE0 := Lib.hid CE0
  have CE3 := Lib.hid CE3
  have HFN := Lib.hid HFN
  have HFS := Lib.hid HFS
  obtain ⟨cs, hcs⟩ : ∃ l, ps.map (·.1) = l := ⟨_, rfl⟩
  obtain ⟨lims, hlims⟩ : ∃ l, ps.map (·.2) = l := ⟨_, rfl⟩
  have HCS := Lib.hid (show ∀ j, j < m → cs.drop j = (ps.getD j (0, 0)).1 :: cs.drop (j + 1) by
    intro j hj
    have hjl : j < cs.length := by rw [← hcs, List.length_map]; omega
    rw [List.drop_eq_getElem_cons hjl]
    congr 1
    simp [← hcs, List.getD, show j < ps.length by omega])
  have HCM := Lib.hid (show cs.drop m = [] by rw [List.drop_eq_nil_iff, ← hcs, List.length_map]; omega)
  have HLI := Lib.hid (show ∀ j, j < m → lims.getD j 0 = (ps.getD j (0, 0)).2 by
    intro j hj
    simp [← hlims, List.getD, show j < ps.length by omega])
  have HLM := Lib.hid (show lims.length = m by rw [← hlims, List.length_map]; exact hm)
  rw [hcs, hlims]
  obtain ⟨RES, hres⟩ : ∃ R, rdM cs S = R := ⟨_, rfl⟩
  rw [hres]
  have HR := Lib.hid hres
  have HPS := Lib.hid hps
  have HP := Lib.hid hp
  have HS := Lib.hid hS
  have HSL := Lib.hid hSl
  have HM3 := Lib.hid hm3
  obtain ⟨L, hL⟩ : ∃ L : Int, (m : Int) = L := ⟨_, rfl⟩
  have HL := Lib.hid hL
  have l3 : L ≤ 3 := by omega
  -- the two arrays of the call's own
  have ka := kp_alloc w (.cells #[.int .i64 0, .int .i64 0, .int .i64 0] 58)
  have kb := kp_alloc (w.alloc (.cells #[.int .i64 0, .int .i64 0, .int .i64 0] 58)) (.cells #[.int .i64 0, .int .i64 0, .int .i64 0] 58)
  have hsz : (w.alloc (.cells #[.int .i64 0, .int .i64 0, .int .i64 0] 58)).heap.size = w.heap.size + 1 := by simp
  have hrA := kp_row kb (MapKept.heap_alloc w (.cells #[.int .i64 0, .int .i64 0, .int .i64 0] 58)).1
  have hrB := (MapKept.heap_alloc (w.alloc (.cells #[.int .i64 0, .int .i64 0, .int .i64 0] 58)) (.cells #[.int .i64 0, .int .i64 0, .int .i64 0] 58)).1
  rw [hsz] at hrB
  have hst0 : RdSt W w p (w.heap.size + 1) S [] ((w.alloc (.cells #[.int .i64 0, .int .i64 0, .int .i64 0] 58)).alloc (.cells #[.int .i64 0, .int .i64 0, .int .i64 0] 58)) :=
    ⟨Kp.trans hk (Kp.trans ka kb), (Kc.refl p w).kp (Kp.trans ka kb), kp_row (Kp.trans ka kb) hbx, hrB, hrA⟩
  have c00 := kp_cell (Kp.trans ka kb) hc0
  have HC0 := Lib.hid (show ∀ w1, Kc p w w1 → w1.cell? ⟨p0, 0, none⟩ = some (.slice (some ⟨gp, 0, none⟩) m cp) from fun w1 h => by
    have := h.2 p0 hp0 (old_of_cell hc0)
    unfold World.cell? at hc0 ⊢
    dsimp only at hc0 ⊢
    rw [this]; exact hc0)
  have HRA := Lib.hid hrA
  have HST0 := Lib.hid hst0
  have HWP := Lib.hid hWp
  have HPW := Lib.hid hpw
  obtain ⟨q, hq⟩ : ∃ q, w.heap.size + 1 = q := ⟨_, rfl⟩
  have HQ := Lib.hid hq
  have HPQ := Lib.hid (show p ≠ q by omega)
  rw [hq] at HST0
  clear V hp hps hS hSl hm hm3 ha0 ha3 hcs hlims hres ka kb hsz hrA hrB hst0 hWp hpw hc0 hbx hk hp0
  go_enter Tryd.func38, Tryd.ntmps38
  go_wp2
  go_loopw [12] (fun i wr => ∃ (j : Nat) (cur out : List Int), j ≤ m ∧ i = .int .i64 j ∧ out.length = j ∧ InB cur ∧ cur.length ≤ 1000 ∧ RES = (rdM (cs.drop j) cur).map (fun x => (out ++ x.1, x.2)) ∧ RdSt W w p q cur out wr) (fun i _ => m - (intOf i).toNat)
  case atStart => exact ⟨0, S, [], Nat.zero_le _, rfl, rfl, HS.out, HSL.out, by rw [← HR.out, List.drop_zero]; cases rdM cs S <;> rfl, HST0.out⟩
  case round =>
    obtain ⟨j, cur, out, hj, rfl, hol, hcin, hcl, hRR, hst⟩ := hrel
    have HST := Lib.hid hst
    obtain ⟨jj, hjj⟩ : ∃ jj : Int, (j : Int) = jj := ⟨_, rfl⟩
    rw [hjj]
    have hLL := HL.out
    have HOL := Lib.hid hol
    have HCI := Lib.hid hcin
    have HCL := Lib.hid hcl
    have HRR := Lib.hid hRR
    have HJ := Lib.hid hjj
    have HJM := Lib.hid hj
    have htn : jj.toNat = j := by omega
    have HTN := Lib.hid htn
    by_cases hlt : j < m
    · have HLT := Lib.hid hlt
      have hjl : jj < L := by omega
      have hj0 : 0 ≤ jj := by omega
      obtain ⟨hp1, hp2⟩ := HP.out j hlt
      have hp1 := kp_cell hst.kW hp1
      have hp2 := kp_cell hst.kW hp2
      obtain ⟨c, hc⟩ : ∃ s, (ps.getD j (0, 0)).1 = s := ⟨_, rfl⟩
      obtain ⟨bb, hbb⟩ : ∃ s, (ps.getD j (0, 0)).2 = s := ⟨_, rfl⟩
      rw [hc] at hp1
      rw [hbb] at hp2
      replace hp1 : wr.cell? ⟨gp, jj.toNat * 2, none⟩ = some (.string (strOfNums [c])) := by rw [htn, Nat.mul_comm]; exact hp1
      replace hp2 : wr.cell? ⟨gp, jj.toNat * 2 + 1, none⟩ = some (.int .i64 bb) := by rw [htn, Nat.mul_comm]; exact hp2
      have hcb := HPS.out j hlt
      rw [hc] at hcb
      have HCUT := Lib.hid (fun w1 => cut_any cur hcin c hcb w1)
      have hdr := HCS.out j hlt
      rw [hc] at hdr
      rw [hdr, rdM] at hRR
      obtain ⟨mk, hmk⟩ : ∃ s, strOfNums [c] = s := ⟨_, rfl⟩
      obtain ⟨cv, hcv⟩ : ∃ s, strOfNums cur = s := ⟨_, rfl⟩
      have k2 := kp_alloc wr (.cells #[.string mk, .int .i64 bb] 67)
      have hr2 := (MapKept.heap_alloc wr (.cells #[.string mk, .int .i64 bb] 67)).1
      have st2 := hst.kp k2
      have cu2 := st2.cur
      have f0 : (wr.alloc (.cells #[.string mk, .int .i64 bb] 67)).cell? ⟨wr.heap.size, 0, none⟩ = some (.string mk) := by unfold World.cell?; dsimp only; rw [hr2]; rfl
      rw [hmk] at hp1 HCUT
      rw [hcv] at HCUT cu2
      have ST2 := Lib.hid st2
      have ce3 := CE3.out _ st2.kW
      cases hcut : cutM c cur with
      | none =>
        rw [hcut] at HCUT hRR
        simp only [Option.isSome_none] at HCUT
        have HN := Lib.hid (show numR RES lims = ([], 4) by rw [hRR]; rfl)
        clear hRR hst hol hcin hcl hjj hj htn hlt hc hbb hcb hdr hmk hcv hcut hr2 st2 k2 hLL
        go_wp2_with (first | (go_at_call 39; (with_reducible refine (HCUT.out _).mono ?_); rintro e w' ⟨rfl, rfl⟩) | (go_at_call 35; (with_reducible refine (idemand_f _ _).mono ?_); rintro e w' ⟨rfl, rfl⟩))
        exact ⟨rfl, .inr (.inr ⟨by rw [HN.out], rfl⟩), ST2.out.kW, ST2.out.kc⟩
      | some r =>
        rw [hcut] at HCUT hRR
        simp only [Option.isSome_some, Option.getD_some] at HCUT hRR
        obtain ⟨hrin, hrl⟩ := cutM_in hcin hcut
        cases hf : firstM r with
        | none =>
          rw [hf] at hRR
          have HN := Lib.hid (show numR RES lims = ([], 4) by rw [hRR]; rfl)
          have HFF := Lib.hid (HFN.out r hrin (by omega) _ st2.kW hf)
          obtain ⟨rv, hrv⟩ : ∃ s, strOfNums r = s := ⟨_, rfl⟩
          rw [hrv] at HCUT HFF
          clear hRR hst hol hcin hcl hjj hj htn hlt hc hbb hcb hdr hmk hcv hcut hr2 st2 k2 hLL hrv hrin hrl hf
          go_wp2_with (first | (go_at_call 39; (with_reducible refine (HCUT.out _).mono ?_); rintro e w' ⟨rfl, rfl⟩) | (go_at_call 35; (with_reducible refine (idemand_t _ _).mono ?_); rintro e w' ⟨rfl, rfl⟩) | (go_at_call 40; (with_reducible refine HFF.out.mono ?_); rintro e w' ⟨rfl, hk⟩; have ST3 := Lib.hid (ST2.out.kp hk); clear hk))
          exact ⟨rfl, .inr (.inr ⟨by rw [HN.out], rfl⟩), ST3.out.kW, ST3.out.kc⟩
        | some nr =>
          obtain ⟨n, z⟩ := nr
          rw [hf] at hRR
          dsimp only at hRR
          obtain ⟨hzin, hzl⟩ := firstM_in hrin hf
          have HFF := Lib.hid (HFS.out r hrin (by omega) _ st2.kW n z hf)
          have hzl2 : z.length ≤ 1000 := by omega
          have hj3 : j < 3 := by have := HM3.out; omega
          have hjj3 : jj < 3 := by omega
          have HNX := Lib.hid (show RES = (rdM (cs.drop (j + 1)) z).map (fun x => (out ++ [n] ++ x.1, x.2)) by
            rw [hRR]
            cases rdM (cs.drop (j + 1)) z with
            | none => rfl
            | some x => simp)
          have HZ := Lib.hid (And.intro hzin hzl2)
          have HJ3 := Lib.hid hj3
          obtain ⟨rv, hrv⟩ : ∃ s, strOfNums r = s := ⟨_, rfl⟩
          rw [hrv] at HCUT HFF
          clear hRR hst hol hcin hcl hjj hj htn hlt hc hbb hcb hdr hmk hcv hcut hr2 st2 k2 hLL hrv hrin hrl hf hzin hzl hzl2 hj3
          go_wp2_with (first | (go_at_call 39; (with_reducible refine (HCUT.out _).mono ?_); rintro e w' ⟨rfl, rfl⟩) | (go_at_call 35; (with_reducible refine (idemand_t _ _).mono ?_); rintro e w' ⟨rfl, rfl⟩) | (go_at_call 40; (with_reducible refine HFF.out.mono ?_); rintro e w5 ⟨rfl, hk⟩; have ST3 := Lib.hid (ST2.out.kp hk); have x1 := ST3.out.cur; have x2 := ST3.out.curZ; have x3 : w5.cell? ⟨q, jj.toNat, none⟩ = some (.int .i64 (out.getD j 0)) := (by rw [HTN.out]; exact ST3.out.at j HJ3.out); have x4 := ST3.out.atZ jj.toNat; obtain ⟨x5, x6⟩ := ST3.out.curQ HPQ.out jj.toNat (.int .i64 n); clear hk))
          have hlt1 : j < m := HLT.out
          have hj1 : (j : Int) = jj := HJ.out
          refine ⟨⟨j + 1, z, out ++ [n], hlt1, ?_, by rw [List.length_append, HOL.out]; rfl, HZ.out.1, HZ.out.2, HNX.out, ?_⟩, ?_⟩
          · rw [← hj1]; rfl
          · rw [HTN.out]
            exact ST3.out.put HWP.out HPW.out (by have := HQ.out; omega) j HOL.out HJ3.out n z
          · simp [intOf]; omega
    · have hjm : j = m := by omega
      have hjl : ¬ jj < L := by omega
      have hRE : RES = some (out, cur) := by rw [hRR, hjm, HCM.out]; simp [rdM]
      have HRE := Lib.hid hRE
      have cu := hst.cur
      have ce3 := CE3.out _ hst.kW
      have c00' := HC0.out _ hst.kc
      have hol2 : out.length = m := by omega
      have HOL2 := Lib.hid hol2
      obtain ⟨wo, rfl⟩ : ∃ wo, wo = wr := ⟨wr, rfl⟩
      by_cases hcur : cur = []
      · have he : (strOfNums cur).toList.isEmpty = true := by rw [hcur, l0]; rfl
        obtain ⟨cv, hcv⟩ : ∃ s, strOfNums cur = s := ⟨_, rfl⟩
        rw [hcv] at cu he
        have HCU := Lib.hid hcur
        clear hRE hRR hst hol hcin hcl hjj hj htn hlt hLL hcv hcur hjm hol2
        go_wp2_with (go_at_call 35; (with_reducible refine (idemand_t _ _).mono ?_); rintro e w' ⟨rfl, rfl⟩)
        clear c00' ce3 cu he
        go_loopw [41] (fun i wr => ∃ (j2 : Nat), j2 ≤ m ∧ i = .int .i64 j2 ∧ allL out lims = allL (out.drop j2) (lims.drop j2) ∧ RdSt W w p q cur out wr) (fun i _ => m - (intOf i).toNat)
        case atStart => exact ⟨0, Nat.zero_le _, rfl, by rw [List.drop_zero, List.drop_zero], HST.out⟩
        case round =>
          obtain ⟨j2, hj2, rfl, hall, hst2⟩ := hrel
          have HS2 := Lib.hid hst2
          obtain ⟨ii, hii⟩ : ∃ ii : Int, (j2 : Int) = ii := ⟨_, rfl⟩
          rw [hii]
          have hLL := HL.out
          have HI2 := Lib.hid hii
          have htn2 : ii.toNat = j2 := by omega
          by_cases hlt2 : j2 < m
          · have HLT2 := Lib.hid hlt2
            have hil : ii < L := by omega
            have hi0 : 0 ≤ ii := by omega
            have hi3 : ii < 3 := by omega
            obtain ⟨hp1, hp2⟩ := HP.out j2 hlt2
            have hp1 := kp_cell hst2.kW hp1
            have hp2 := kp_cell hst2.kW hp2
            have hn2 := hst2.at j2 (by omega)
            have hat := allL_at out lims j2 (by rw [HOL2.out]; exact hlt2) (by rw [HLM.out]; exact hlt2)
            have hli := HLI.out j2 hlt2
            obtain ⟨mk, hmk⟩ : ∃ s, strOfNums [(ps.getD j2 (0, 0)).1] = s := ⟨_, rfl⟩
            obtain ⟨bb, hbb⟩ : ∃ s, (ps.getD j2 (0, 0)).2 = s := ⟨_, rfl⟩
            obtain ⟨xx, hxx⟩ : ∃ s, out.getD j2 0 = s := ⟨_, rfl⟩
            have e1 : out[j2]'(by rw [HOL2.out]; exact hlt2) = xx := by rw [← hxx]; simp [List.getD, HOL2.out, hlt2]
            have e2 : lims[j2]'(by rw [HLM.out]; exact hlt2) = bb := by rw [← hbb, ← hli]; simp [List.getD, HLM.out, hlt2]
            rw [e1, e2] at hat
            rw [hmk] at hp1
            rw [hbb] at hp2
            rw [hxx] at hn2
            replace hp1 : wr.cell? ⟨gp, ii.toNat * 2, none⟩ = some (.string mk) := by rw [htn2, Nat.mul_comm]; exact hp1
            replace hp2 : wr.cell? ⟨gp, ii.toNat * 2 + 1, none⟩ = some (.int .i64 bb) := by rw [htn2, Nat.mul_comm]; exact hp2
            replace hn2 : wr.cell? ⟨q, ii.toNat, none⟩ = some (.int .i64 xx) := by rw [htn2]; exact hn2
            have HAL := Lib.hid hall
            have HAT := Lib.hid hat
            clear hall hat e1 e2 hli hmk hbb hxx hj2 hii hLL hlt2 htn2
            go_wp2
            have k2 := kp_alloc wr (.cells #[.string mk, .int .i64 bb] 67)
            have hr2 := (MapKept.heap_alloc wr (.cells #[.string mk, .int .i64 bb] 67)).1
            obtain ⟨w2, hw2⟩ : ∃ w2, wr.alloc (.cells #[.string mk, .int .i64 bb] 67) = w2 := ⟨_, rfl⟩
            obtain ⟨p5, hp5⟩ : ∃ p, wr.heap.size = p := ⟨_, rfl⟩
            rw [hw2] at k2 hr2 ⊢
            rw [hp5] at hr2 ⊢
            have x2 := kp_cell k2 hn2
            have f1 : w2.cell? ⟨p5, 1, none⟩ = some (.int .i64 bb) := by unfold World.cell?; dsimp only; rw [hr2]; rfl
            have ce0 := CE0.out _ (Kp.trans hst2.kW k2)
            have x2' : w2.drew.cell? ⟨q, ii.toNat, none⟩ = some (.int .i64 xx) := x2
            have f1' : w2.drew.cell? ⟨p5, 1, none⟩ = some (.int .i64 bb) := f1
            have ce0' : w2.drew.cell? ⟨0, 0, none⟩ = some (snt a0) := ce0
            have K2 := Lib.hid k2.drew
            clear hr2 hw2 hp5 k2 hp1 hp2 hn2 hst2
            by_cases hg : xx < bb
            · have d1 : decide (xx < bb) = true := decide_eq_true hg
              have HNX2 := Lib.hid (show allL out lims = allL (out.drop (j2 + 1)) (lims.drop (j2 + 1)) by rw [HAL.out, HAT.out, d1, Bool.true_and])
              go_still_tail 7, (by kernel_rfl)
              change wpList _ _ _ _ _ w2.drew
              go_wp2_with (go_at_call 35; (with_reducible refine (idemand_t _ _).mono ?_); rintro e w' ⟨rfl, rfl⟩)
              have hj1 : (j2 : Int) = ii := HI2.out
              have hlt1 : j2 < m := HLT2.out
              refine ⟨⟨j2 + 1, hlt1, ?_, HNX2.out, HS2.out.kp K2.out⟩, ?_⟩
              · rw [← hj1]; rfl
              · simp [intOf]; omega
            · have d1 : decide (xx < bb) = false := decide_eq_false hg
              have HN := Lib.hid (show numR RES lims = ([], 1) by
                have hf : allL out lims = false := by rw [HAL.out, HAT.out, d1, Bool.false_and]
                rw [HRE.out]
                simp only [numR]
                rw [if_pos HCU.out, if_neg (by rw [hf]; decide)])
              go_still_tail 7, (by kernel_rfl)
              change wpList _ _ _ _ _ w2.drew
              go_wp2_with (go_at_call 35; (with_reducible refine (idemand_f _ _).mono ?_); rintro e w' ⟨rfl, rfl⟩)
              exact ⟨rfl, .inr (.inl ⟨by rw [HN.out], rfl⟩), (HS2.out.kp K2.out).kW, (HS2.out.kp K2.out).kc⟩
          · have hjm2 : j2 = m := by omega
            have hil : ¬ ii < L := by omega
            have HN := Lib.hid (show numR RES lims = (out, 0) by
              have hf : allL out lims = true := by
                rw [hall, hjm2, List.drop_of_length_le (by rw [HOL2.out]; exact Nat.le_refl _)]
                rfl
              rw [HRE.out]
              simp only [numR]
              rw [if_pos HCU.out, if_pos hf])
            have hA := hst2.ar
            have hRs := hst2.rs
            have x0 := hst2.at 0 (by decide)
            have x1 := hst2.at 1 (by decide)
            have x2 := hst2.at 2 (by decide)
            have y0 : wr.cell? ⟨w.heap.size, 0, none⟩ = some (.int .i64 0) := by unfold World.cell?; dsimp only; rw [hRs]; rfl
            have y1 : wr.cell? ⟨w.heap.size, 1, none⟩ = some (.int .i64 0) := by unfold World.cell?; dsimp only; rw [hRs]; rfl
            have y2 : wr.cell? ⟨w.heap.size, 2, none⟩ = some (.int .i64 0) := by unfold World.cell?; dsimp only; rw [hRs]; rfl
            have yz : ∀ i, wr.frozen? ⟨w.heap.size, i, none⟩ = false := fun i => by unfold World.frozen?; dsimp only; rw [hRs]; simp [arrT]
            obtain ⟨v0, hv0⟩ : ∃ s, out.getD 0 0 = s := ⟨_, rfl⟩
            obtain ⟨v1, hv1⟩ : ∃ s, out.getD 1 0 = s := ⟨_, rfl⟩
            obtain ⟨v2, hv2⟩ : ∃ s, out.getD 2 0 = s := ⟨_, rfl⟩
            rw [hv0] at x0
            rw [hv1] at x1
            rw [hv2] at x2
            have HA := Lib.hid hA
            have HRS := Lib.hid hRs
            have HVV := Lib.hid (And.intro hv0 (And.intro hv1 hv2))
            clear hall hst2 hA hRs hv0 hv1 hv2 hj2 hii hLL hlt2 htn2 hjm2
            go_wp2
            have hz : (((wr.setCell ⟨w.heap.size, 0, none⟩ (.int .i64 v0)).setCell ⟨w.heap.size, 1, none⟩ (.int .i64 v1)).setCell ⟨w.heap.size, 2, none⟩ (.int .i64 v2)).heap[w.heap.size]? = some (.cells #[.int .i64 v0, .int .i64 v1, .int .i64 v2] 58 (0, 0)) :=
              (Joins.block_setCell (Joins.block_setCell (Joins.block_setCell HRS.out _) _) _).trans rfl
            have hWw : W.heap.size ≤ w.heap.size := by have := HWP.out; have := HPW.out; omega
            refine bodyPost_ret (results_cell_row (p := 2) rfl _ _ w.heap.size 58 _ (0, 0) _ rfl hz Tryd.underlying58 rfl (by kernel_rfl)) rfl ?_
            refine ⟨.inl ⟨by rw [HN.out], ?_⟩, ?_, ?_⟩
            · rw [HN.out]
              unfold padV
              rw [HVV.out.1, HVV.out.2.1, HVV.out.2.2]
            · exact Below.setCell (Below.setCell (Below.setCell HS2.out.kW hWw _) hWw _) hWw _
            · exact ((HS2.out.kc.setNew (Nat.le_refl _) _ _).setNew (Nat.le_refl _) _ _).setNew (Nat.le_refl _) _ _
      · have he : (strOfNums cur).toList.isEmpty = false := by
          have := str_ne hcin (show InB [] by unfold InB; decide) hcur
          rw [l0] at this
          simpa using this
        have HN := Lib.hid (show numR RES lims = ([], 4) by rw [hRE]; simp only [numR]; rw [if_neg hcur])
        obtain ⟨cv, hcv⟩ : ∃ s, strOfNums cur = s := ⟨_, rfl⟩
        rw [hcv] at cu he
        clear hRE hRR hst hol hcin hcl hjj hj htn hlt hLL hcv hcur hjm hol2
        go_wp2_with (go_at_call 35; (with_reducible refine (idemand_f _ _).mono ?_); rintro e w' ⟨rfl, rfl⟩)
        exact ⟨rfl, .inr (.inr ⟨by rw [HN.out], rfl⟩), HST.out.kW, HST.out.kc⟩
end Go.Proofs.YtjilfkfhnbhjiaaDoor
