/-
  PARTS OF THIS PROOF (own work): SlN, InT, FacM, ByF, SetF, RefF.
-/
import Derived.Test.YtahdoniggipmmaaGreatDoorPkA
import Derived.ArgAppend
import Derived.OwnWalk
import Derived.LoopTactic
import Derived.Lib.Hide
import Derived.BigQuiet
import Derived.Deep.RegionHeld3
import Derived.Test.YtahdoniggipmmaaGreatDoorPkB
import Derived.Test.YtahdoniggipmmaaGreatDoorPkF
import Derived.Lib.SmallJoins
import Derived.Test.YtahdoniggipmmaaGreatDoorPkC
import Derived.Test.YtahdoniggipmmaaGreatDoorPkE
import Derived.Laws.OwnMore

namespace Go.Proofs.YtahdoniggipmmaaGreatDoor
open Go.RowKit Go.ChangeShapes Go.WideShapes

/-- THE SLICE VALUE v READS AS THE ints bs. -/
def SlI (v : Value) (bs : List Int) (w : World) : Prop :=
  (bs = [] ∧ ∃ a cap, v = .slice a 0 cap) ∨
  ∃ b off cap, 0 < bs.length ∧ v = .slice (some ⟨b, off, none⟩) bs.length cap ∧ ∀ j, j < bs.length → w.cell? ⟨b, off + j, none⟩ = some (.int .i64 (bs.getD j 0))

theorem SlI.kp {v : Value} {bs : List Int} {w w' : World} (h : SlI v bs w) (hb : Kp w w') : SlI v bs w' := by
  rcases h with h | ⟨b, off, cap, h0, h1, h2⟩
  · exact Or.inl h
  · exact Or.inr ⟨b, off, cap, h0, h1, fun j hj => kp_cell hb (h2 j hj)⟩

theorem SlI.form {v : Value} {bs : List Int} {w : World} (h : SlI v bs w) : ∃ a cap, v = .slice a bs.length cap := by
  rcases h with ⟨rfl, a, cap, rfl⟩ | ⟨b, off, cap, _, rfl, _⟩
  · exact ⟨a, cap, rfl⟩
  · exact ⟨_, cap, rfl⟩

theorem SlI.at {a : Option Addr} {n cap : Nat} {bs : List Int} {w : World} (h : SlI (.slice a n cap) bs w) (j : Nat) (hj : j < bs.length) : ∃ b off, a = some ⟨b, off, none⟩ ∧ w.cell? ⟨b, off + j, none⟩ = some (.int .i64 (bs.getD j 0)) := by
  rcases h with ⟨hz, _⟩ | ⟨b, off, cap', _, hv, hcc⟩
  · rw [hz] at hj; cases hj
  · injection hv with hv1 _ _
    exact ⟨b, off, hv1, hcc j hj⟩

theorem own_sli {w : World} {base n : Nat} {v : Value} {bs : List Int} (h : w.ownsRow base 3 1 v n (bs.map (Value.int .i64))) : SlI v bs w := by
  obtain ⟨h1, h2⟩ := h
  have hlen : bs.length = n := by simpa using h1
  rcases h2 with ⟨rfl, hn⟩ | ⟨g, cap, cur, rfl, hg, hh, hc, hm, hs, ht⟩
  · left
    exact ⟨List.length_eq_zero_iff.1 (by omega), none, 0, rfl⟩
  · by_cases h0 : n = 0
    · left
      subst h0
      exact ⟨List.length_eq_zero_iff.1 (by omega), _, cap, rfl⟩
    · right
      refine ⟨g, 0, cap, by omega, by rw [hlen], fun j hj => ?_⟩
      unfold World.cell?
      dsimp only
      rw [hh]
      simp only [Option.isSome_none, Bool.false_eq_true, if_false, Nat.zero_add]
      have : (cur.toList.take (n * 1))[j]? = some (.int .i64 (bs.getD j 0)) := by
        rw [ht]; simp [List.getD, hj]
      rw [List.getElem?_take, Nat.mul_one, if_pos (by omega)] at this
      simpa using this

end Go.Proofs.YtahdoniggipmmaaGreatDoor

namespace Go.Proofs.YtahdoniggipmmaaGreatDoor
open Go.RowKit Go.ChangeShapes Go.WideShapes

set_option maxRecDepth 20000 in
theorem in_any (a : Option Addr) (cap n : Nat) (bs : List Int) (hn : bs.length = n) (hl : n ≤ 1000000) (x : Int) (w : World) (hs : SlI (.slice a n cap) bs w) :
    Calls Tryz.prog 35 #[.slice a n cap, .int .i64 x] w fun e w' => e = .returned (.bool (decide (x ∈ bs))) ∧ Kp w w' := by
  obtain ⟨B, hB⟩ : ∃ B, decide (x ∈ bs) = B := ⟨_, rfl⟩
  rw [hB]
  have HB := Lib.hid hB
  have HS := Lib.hid (fun w1 (hk : Kp w w1) (j : Nat) (hj : j < bs.length) => (hs.kp hk).at j hj)
  have HN := Lib.hid hn
  clear hB hs hn
  go_enter Tryz.func35, Tryz.ntmps35
  go_wp2
  go_loopw [9] (fun i wr => ∃ j : Nat, j ≤ n ∧ i = .int .i64 j ∧ Kp w wr ∧ x ∉ bs.take j) (fun i _ => n - (intOf i).toNat)
  case atStart => exact ⟨0, Nat.zero_le _, rfl, Kp.refl _, by simp⟩
  case round =>
    obtain ⟨j, hj, rfl, hk, hx⟩ := hrel
    obtain ⟨jj, hjj⟩ : ∃ jj : Int, (j : Int) = jj := ⟨_, rfl⟩
    have K := Lib.hid hk
    have HX := Lib.hid hx
    rw [hjj]
    have hnl := HN.out
    by_cases hlt : j < n
    · have hjb : j < bs.length := by omega
      obtain ⟨b, off, rfl, ct⟩ := HS.out wr hk j hjb
      have hg : bs.getD j 0 = bs[j] := by simp [List.getD, hjb]
      rw [hg] at ct
      have ht : bs.take (j + 1) = bs.take j ++ [bs[j]] := by rw [List.take_add_one, List.getElem?_eq_getElem hjb]; rfl
      have hm : bs[j] ∈ bs := List.getElem_mem hjb
      obtain ⟨y, hy⟩ : ∃ y, bs[j] = y := ⟨_, rfl⟩
      rw [hy] at ct ht hm
      have ej : jj.toNat = j := by omega
      rw [← ej] at ct
      have j0 : 0 ≤ jj := by omega
      have hltj : jj < n := by omega
      have HJ := Lib.hid hjj
      by_cases hxy : y = x
      · subst hxy
        have hBt : B = true := by rw [← HB.out]; exact decide_eq_true hm
        subst hBt
        clear hg ht hm hy hjb hnl hlt ej hjj hk hx
        go_wp2
        go_ret
        exact ⟨rfl, K.out⟩
      · have hb : (y == x) = false := by simpa using hxy
        have HT := Lib.hid (show x ∉ bs.take (j + 1) by
          rw [ht, List.mem_append, List.mem_singleton]
          rintro (q | q)
          · exact hx q
          · exact hxy q.symm)
        clear hg ht hm hy hjb hnl hlt ej hjj hk hx
        go_wp2
        have hjj := HJ.out
        go_roundw
        case rel => exact ⟨j + 1, by omega, by congr 1; omega, K.out, HT.out⟩
        case measure => simp [intOf]; omega
    · obtain rfl : j = n := by omega
      rw [List.take_of_length_le (by omega)] at hx
      have hBf : B = false := by rw [← HB.out]; exact decide_eq_false hx
      subst hBf
      have hex : ¬ jj < j := by omega
      clear hk hx hnl hlt
      go_wp2
      go_ret
      exact ⟨rfl, K.out⟩

set_option maxRecDepth 20000 in
theorem sameInts_any (u v : Value) (xs ys : List Int) (hl : xs.length ≤ 1000000) (w : World) (hx : SlI u xs w) (hy : SlI v ys w) :
    Calls Tryz.prog 48 #[u, v] w fun e w' => e = .returned (.bool (decide (xs = ys))) ∧ Kp w w' := by
  obtain ⟨a, ca, rfl⟩ := hx.form
  obtain ⟨b, cb, rfl⟩ := hy.form
  obtain ⟨n, hn⟩ : ∃ n, xs.length = n := ⟨_, rfl⟩
  obtain ⟨n2, hn2⟩ : ∃ n, ys.length = n := ⟨_, rfl⟩
  rw [hn] at hx hl ⊢
  rw [hn2] at hy ⊢
  by_cases hlen : n = n2
  · subst hlen
    have HX := Lib.hid (fun w1 (hk : Kp w w1) (j : Nat) (hj : j < xs.length) => (hx.kp hk).at j hj)
    have HY := Lib.hid (fun w1 (hk : Kp w w1) (j : Nat) (hj : j < ys.length) => (hy.kp hk).at j hj)
    have HN := Lib.hid hn
    have HN2 := Lib.hid hn2
    obtain ⟨B, hB⟩ : ∃ B, decide (xs = ys) = B := ⟨_, rfl⟩
    rw [hB]
    have HB := Lib.hid hB
    clear hx hy hn hn2 hB
    go_enter Tryz.func48, Tryz.ntmps48
    go_wp2
    go_loopw [13] (fun i wr => ∃ j : Nat, j ≤ n ∧ i = .int .i64 j ∧ Kp w wr ∧ xs.take j = ys.take j) (fun i _ => n - (intOf i).toNat)
    case atStart => exact ⟨0, Nat.zero_le _, rfl, Kp.refl _, by simp⟩
    case round =>
      obtain ⟨j, hj, rfl, hk, heq⟩ := hrel
      obtain ⟨jj, hjj⟩ : ∃ jj : Int, (j : Int) = jj := ⟨_, rfl⟩
      have K := Lib.hid hk
      have EQ := Lib.hid heq
      rw [hjj]
      have hnl := HN.out
      have hnl2 := HN2.out
      by_cases hlt : j < n
      · have hjx : j < xs.length := by omega
        have hjy : j < ys.length := by omega
        obtain ⟨b1, o1, rfl, c1⟩ := HX.out wr hk j hjx
        obtain ⟨b2, o2, rfl, c2⟩ := HY.out wr hk j hjy
        have g1 : xs.getD j 0 = xs[j] := by simp [List.getD, hjx]
        have g2 : ys.getD j 0 = ys[j] := by simp [List.getD, hjy]
        rw [g1] at c1
        rw [g2] at c2
        have t1 : xs.take (j + 1) = xs.take j ++ [xs[j]] := by rw [List.take_add_one, List.getElem?_eq_getElem hjx]; rfl
        have t2 : ys.take (j + 1) = ys.take j ++ [ys[j]] := by rw [List.take_add_one, List.getElem?_eq_getElem hjy]; rfl
        have hne : xs = ys → xs[j] = ys[j] := fun q => by subst q; rfl
        obtain ⟨x, hxx⟩ : ∃ y, xs[j] = y := ⟨_, rfl⟩
        obtain ⟨y, hyy⟩ : ∃ y, ys[j] = y := ⟨_, rfl⟩
        rw [hxx] at c1 t1 hne
        rw [hyy] at c2 t2 hne
        have ej : jj.toNat = j := by omega
        rw [← ej] at c1 c2
        have j0 : 0 ≤ jj := by omega
        have hltj : jj < n := by omega
        have HJ := Lib.hid hjj
        by_cases hxy : x = y
        · subst hxy
          have HT := Lib.hid (show xs.take (j + 1) = ys.take (j + 1) by rw [t1, t2, heq])
          clear g1 g2 t1 t2 hne hxx hyy hjx hjy hnl hnl2 hlt ej hjj hk heq
          go_wp2
          refine wp_region_held_drew (S := fun w' => Kp wr w') (by kernel_rfl) ?_ (fun hHeld => ?_)
          · exact (Kp.refl wr).drew
          refine wpAnyH_take (i := 0) (v := ?_) rfl (by kernel_rfl) (by kernel_rfl) (by kernel_rfl) (fun _ _ _ h => h) (Or.inl ⟨by rfl, ?_⟩) (by assumption) ?_
          rotate_left
          · intro w hSw; go_simp; try with_reducible rfl
          go_simp
          refine wpAnyH_take (i := 1) (v := ?_) rfl (by kernel_rfl) (by kernel_rfl) (by kernel_rfl) (fun _ _ _ h => h) (Or.inl ⟨by rfl, ?_⟩) (by assumption) ?_
          rotate_left
          · intro w hSw; go_simp; try with_reducible rfl
          go_simp
          refine wpAnyH_take (i := 2) (v := ?_) rfl (by kernel_rfl) (by kernel_rfl) (by kernel_rfl) (fun _ _ _ h => h) (Or.inl ⟨by rfl, ?_⟩) (by assumption) ?_
          rotate_left
          · intro w hSw; go_simp; try with_reducible rfl
          go_simp
          refine wpAnyH_take (i := 3) (v := ?_) rfl (by kernel_rfl) (by kernel_rfl) (by kernel_rfl) (fun _ _ _ h => h) (Or.inl ⟨by rfl, ?_⟩) (by assumption) ?_
          rotate_left
          · intro w hSw; have q := kp_cell hSw c1; go_simp; try with_reducible rfl
          go_simp
          refine wpAnyH_take (i := 4) (v := ?_) rfl (by kernel_rfl) (by kernel_rfl) (by kernel_rfl) (fun _ _ _ h => h) (Or.inl ⟨by rfl, ?_⟩) (by assumption) ?_
          rotate_left
          · intro w hSw; go_simp; try with_reducible rfl
          go_simp
          refine wpAnyH_take (i := 5) (v := ?_) rfl (by kernel_rfl) (by kernel_rfl) (by kernel_rfl) (fun _ _ _ h => h) (Or.inl ⟨by rfl, ?_⟩) (by assumption) ?_
          rotate_left
          · intro w hSw; go_simp; try with_reducible rfl
          go_simp
          refine wpAnyH_take (i := 6) (v := ?_) rfl (by kernel_rfl) (by kernel_rfl) (by kernel_rfl) (fun _ _ _ h => h) (Or.inl ⟨by rfl, ?_⟩) (by assumption) ?_
          rotate_left
          · intro w hSw; go_simp; try with_reducible rfl
          go_simp
          refine wpAnyH_take (i := 7) (v := ?_) rfl (by kernel_rfl) (by kernel_rfl) (by kernel_rfl) (fun _ _ _ h => h) (Or.inl ⟨by rfl, ?_⟩) (by assumption) ?_
          rotate_left
          · intro w hSw; have q := kp_cell hSw c2; go_simp; try with_reducible rfl
          go_simp
          refine wpAnyH_take (i := 8) (v := ?_) rfl (by kernel_rfl) (by kernel_rfl) (by kernel_rfl) (fun _ _ _ h => h) (Or.inl ⟨by rfl, ?_⟩) (by assumption) ?_
          rotate_left
          · intro w hSw; go_simp; try with_reducible rfl
          go_simp
          refine wpAnyH_done (by kernel_rfl) ?_ _
          go_wp2
          have hjj := HJ.out
          go_roundw
          case rel => exact ⟨j + 1, by omega, by congr 1; omega, K.out.drew, HT.out⟩
          case measure => simp [intOf]; omega
        · have hb : (x != y) = true := by simpa using hxy
          have hBf : B = false := by rw [← HB.out]; exact decide_eq_false fun q => hxy (hne q)
          subst hBf
          clear g1 g2 t1 t2 hne hxx hyy hjx hjy hnl hnl2 hlt ej hjj hk heq
          go_wp2
          refine wp_region_held_drew (S := fun w' => Kp wr w') (by kernel_rfl) ?_ (fun hHeld => ?_)
          · exact (Kp.refl wr).drew
          refine wpAnyH_take (i := 0) (v := ?_) rfl (by kernel_rfl) (by kernel_rfl) (by kernel_rfl) (fun _ _ _ h => h) (Or.inl ⟨by rfl, ?_⟩) (by assumption) ?_
          rotate_left
          · intro w hSw; go_simp; try with_reducible rfl
          go_simp
          refine wpAnyH_take (i := 1) (v := ?_) rfl (by kernel_rfl) (by kernel_rfl) (by kernel_rfl) (fun _ _ _ h => h) (Or.inl ⟨by rfl, ?_⟩) (by assumption) ?_
          rotate_left
          · intro w hSw; go_simp; try with_reducible rfl
          go_simp
          refine wpAnyH_take (i := 2) (v := ?_) rfl (by kernel_rfl) (by kernel_rfl) (by kernel_rfl) (fun _ _ _ h => h) (Or.inl ⟨by rfl, ?_⟩) (by assumption) ?_
          rotate_left
          · intro w hSw; go_simp; try with_reducible rfl
          go_simp
          refine wpAnyH_take (i := 3) (v := ?_) rfl (by kernel_rfl) (by kernel_rfl) (by kernel_rfl) (fun _ _ _ h => h) (Or.inl ⟨by rfl, ?_⟩) (by assumption) ?_
          rotate_left
          · intro w hSw; have q := kp_cell hSw c1; go_simp; try with_reducible rfl
          go_simp
          refine wpAnyH_take (i := 4) (v := ?_) rfl (by kernel_rfl) (by kernel_rfl) (by kernel_rfl) (fun _ _ _ h => h) (Or.inl ⟨by rfl, ?_⟩) (by assumption) ?_
          rotate_left
          · intro w hSw; go_simp; try with_reducible rfl
          go_simp
          refine wpAnyH_take (i := 5) (v := ?_) rfl (by kernel_rfl) (by kernel_rfl) (by kernel_rfl) (fun _ _ _ h => h) (Or.inl ⟨by rfl, ?_⟩) (by assumption) ?_
          rotate_left
          · intro w hSw; go_simp; try with_reducible rfl
          go_simp
          refine wpAnyH_take (i := 6) (v := ?_) rfl (by kernel_rfl) (by kernel_rfl) (by kernel_rfl) (fun _ _ _ h => h) (Or.inl ⟨by rfl, ?_⟩) (by assumption) ?_
          rotate_left
          · intro w hSw; go_simp; try with_reducible rfl
          go_simp
          refine wpAnyH_take (i := 7) (v := ?_) rfl (by kernel_rfl) (by kernel_rfl) (by kernel_rfl) (fun _ _ _ h => h) (Or.inl ⟨by rfl, ?_⟩) (by assumption) ?_
          rotate_left
          · intro w hSw; have q := kp_cell hSw c2; go_simp; try with_reducible rfl
          go_simp
          refine wpAnyH_take (i := 8) (v := ?_) rfl (by kernel_rfl) (by kernel_rfl) (by kernel_rfl) (fun _ _ _ h => h) (Or.inl ⟨by rfl, ?_⟩) (by assumption) ?_
          rotate_left
          · intro w hSw; go_simp; try with_reducible rfl
          go_simp
          refine wpAnyH_done (by kernel_rfl) ?_ _
          go_wp2
          go_ret
          exact ⟨rfl, K.out.drew⟩
      · obtain rfl : j = n := by omega
        rw [List.take_of_length_le (by omega), List.take_of_length_le (by omega)] at heq
        have hBt : B = true := by rw [← HB.out]; exact decide_eq_true heq
        subst hBt
        have hex : ¬ jj < j := by omega
        clear hk heq hnl hnl2 hlt
        go_wp2
        go_ret
        exact ⟨rfl, K.out⟩
  · have hne : xs ≠ ys := fun q => hlen (by rw [← hn, ← hn2, q])
    rw [decide_eq_false hne]
    obtain ⟨nn, hnn⟩ : ∃ nn : Int, (n : Int) = nn := ⟨_, rfl⟩
    obtain ⟨mm, hmm⟩ : ∃ mm : Int, (n2 : Int) = mm := ⟨_, rfl⟩
    have hb : (nn != mm) = true := by simp; omega
    clear hne hx hy hn hn2 hlen
    go_enter Tryz.func48, Tryz.ntmps48
    go_wp2
    go_ret
    exact ⟨rfl, Kp.refl _⟩
end Go.Proofs.YtahdoniggipmmaaGreatDoor

namespace Go.Proofs.YtahdoniggipmmaaGreatDoor
open Go.RowKit

structure FX where
  k : Int
  n : Int
  s : Int
  r : Int
  e : Int
  p : Int
  q : Int
  o : Int
  d : Int
  a : Int
  t : Int
  h : Int
  c : Int
  x : Nat
deriving DecidableEq
def FX.nums (f : FX) : List Int := [f.k, f.n, f.s, f.r, f.e, f.p, f.q, f.o, f.d, f.a, f.t, f.h, f.c]
def FX.cells (f : FX) : Array Value := #[.int .i64 f.k, .int .i64 f.n, .int .i64 f.s, .int .i64 f.r, .int .i64 f.e, .int .i64 f.p, .int .i64 f.q, .int .i64 f.o, .int .i64 f.d, .int .i64 f.a, .int .i64 f.t, .int .i64 f.h, .int .i64 f.c, .float .f64 f.x]
def FX.wf (f : FX) : Prop := f.x < 18446744073709551616
def noF : FX := ⟨0, 0, 0, 0, 0, 0, 0, 0, 0, 0, 0, 0, 0, 0⟩
theorem noF_wf : noF.wf := by unfold FX.wf noF; decide
def ofF (l : List Int) (x : Nat) : FX := ⟨l.getD 0 0, l.getD 1 0, l.getD 2 0, l.getD 3 0, l.getD 4 0, l.getD 5 0, l.getD 6 0, l.getD 7 0, l.getD 8 0, l.getD 9 0, l.getD 10 0, l.getD 11 0, l.getD 12 0, x⟩
theorem ofF_nums (f : FX) : ofF f.nums f.x = f := rfl
theorem nums_ofF {l : List Int} (x : Nat) (h : l.length = 13) : (ofF l x).nums = l := by
  match l, h with
  | [k, n, s, r, e, p, q, o, d, a, t, hh, c], _ => rfl
theorem thirteen {l : List Int} (h : l.length = 13) : ∃ k n s r e p q o d a t hh c, l = [k, n, s, r, e, p, q, o, d, a, t, hh, c] := by
  match l, h with
  | [k, n, s, r, e, p, q, o, d, a, t, hh, c], _ => exact ⟨k, n, s, r, e, p, q, o, d, a, t, hh, c, rfl⟩
/-- a state and how it ended go together -/
def seatX (t h : Int) : Bool := if t = 14 then decide (h = 1 ∨ 4 ≤ h ∧ h ≤ 8) else decide (1 ≤ t ∧ t ≤ 13 ∧ h = 0)
def ctxF (f : FX) : CX := ⟨f.n, f.s, f.o, f.d, f.x⟩
/-- the places that a kind names -/
def namedF (k : Int) : List Int :=
  if k = 1 then [1, 2, 7, 8, 9] else if k = 2 then [1, 2, 3, 4, 5, 6] else if k = 3 then [1, 2, 3, 10, 11] else if k = 4 then [1, 2, 12] else
  if k = 5 then [1, 2] else if k = 6 then [1, 2, 5, 6] else if k = 7 then [3, 5] else if k = 8 then [5, 10, 11] else []
def okF (f : FX) : Bool :=
  if f.k = 1 then rightX (ctxF f) && decide (0 ≤ f.a ∧ f.a ≤ 8)
  else if f.k = 2 then rightA f.n f.s && decide (0 ≤ f.r ∧ f.r ≤ 5 ∧ 0 ≤ f.e ∧ f.e ≤ 3 ∧ 0 ≤ f.p ∧ f.p ≤ 7 ∧ (f.q = 1 ∨ f.q = 2))
  else if f.k = 3 then rightA f.n f.s && (decide (0 ≤ f.r ∧ f.r ≤ 5) && seatX f.t f.h)
  else if f.k = 4 then rightA f.n f.s && decide (f.c = 1 ∨ f.c = 2)
  else if f.k = 5 then rightA f.n f.s
  else if f.k = 6 then rightA f.n f.s && decide (0 ≤ f.p ∧ f.p ≤ 7 ∧ (f.q = 1 ∨ f.q = 2))
  else if f.k = 7 then decide (0 ≤ f.p ∧ f.p ≤ 7 ∧ 0 ≤ f.r ∧ f.r ≤ 5)
  else if f.k = 8 then decide (0 ≤ f.p ∧ f.p ≤ 7) && seatX f.t f.h
  else false
/-- all from a place on are 0, or named -/
def restF (nm : List Int) : Int → List Int → Bool
  | _, [] => true
  | i, n :: l => decide (i = 0 ∨ n = 0 ∨ i ∈ nm) && restF nm (i + 1) l
/-- WHICH FACTS ARE RIGHT, as the document says it -/
def rightF (f : FX) : Bool := restF (namedF f.k) 0 f.nums && (okF f && decide (f.k = 1 ∨ f.x = 0))
def sameF (a b : FX) : Bool := decide (a.nums = b.nums) && decide (Fl.plain a.x = Fl.plain b.x)

/-- a rule: what it names is in range, and is taken out -/
inductive RuM where
  | rg (tag : Nat) (lo hi : Int)
  | act
  | ctx
  | seat
def RuM.ok : RuM → List Int → Nat → Bool
  | .rg tag lo hi, l, _ => decide (lo ≤ l.getD (tag - 1) 0 ∧ l.getD (tag - 1) 0 ≤ hi)
  | .act, l, _ => rightA (l.getD 1 0) (l.getD 2 0)
  | .ctx, l, x => rightX ⟨l.getD 1 0, l.getD 2 0, l.getD 7 0, l.getD 8 0, x⟩
  | .seat, l, _ => seatX (l.getD 10 0) (l.getD 11 0)
def RuM.tkL : RuM → List Int → List Int
  | .rg tag _ _, l => l.set (tag - 1) 0
  | .act, l => (l.set 1 0).set 2 0
  | .ctx, l => (((l.set 1 0).set 2 0).set 7 0).set 8 0
  | .seat, l => (l.set 10 0).set 11 0
def RuM.tkX : RuM → Nat → Nat
  | .ctx, _ => 0
  | _, x => x
theorem RuM.tkL_len (r : RuM) (l : List Int) : (r.tkL l).length = l.length := by cases r <;> simp [RuM.tkL]
theorem RuM.tkX_wf (r : RuM) {x : Nat} (h : x < 18446744073709551616) : r.tkX x < 18446744073709551616 := by
  cases r
  all_goals first | exact h | (show 0 < 18446744073709551616; decide)
def runR : List RuM → List Int → Nat → Option (List Int × Nat)
  | [], l, x => some (l, x)
  | r :: rs, l, x => if r.ok l x = true then runR rs (r.tkL l) (r.tkX x) else none
def rulesM (k : Int) : List RuM :=
  if k = 1 then [.ctx, .rg 10 0 8] else if k = 2 then [.act, .rg 4 0 5, .rg 5 0 3, .rg 6 0 7, .rg 7 1 2] else if k = 3 then [.act, .rg 4 0 5, .seat] else if k = 4 then [.act, .rg 13 1 2] else
  if k = 5 then [.act] else if k = 6 then [.rg 6 0 7, .act, .rg 7 1 2] else if k = 7 then [.rg 6 0 7, .rg 4 0 5] else if k = 8 then [.rg 6 0 7, .seat] else []
/-- what is left is the kind alone -/
def leftF (k : Int) (o : Option (List Int × Nat)) : Bool :=
  match o with
  | none => false
  | some (l, x) => decide (l = [k, 0, 0, 0, 0, 0, 0, 0, 0, 0, 0, 0, 0]) && decide (x = 0)
theorem rest_cons (nm : List Int) (i n : Int) (l : List Int) : restF nm i (n :: l) = (decide (i = 0 ∨ n = 0 ∨ i ∈ nm) && restF nm (i + 1) l) := rfl
theorem right_rules {f : FX} (h : 1 ≤ f.k ∧ f.k ≤ 8) : rightF f = leftF f.k (runR (rulesM f.k) f.nums f.x) := by
  obtain ⟨k, n, s, r, e, p, q, o, d, a, t, hh, c, x⟩ := f
  dsimp only at h ⊢
  have hk : k = 1 ∨ k = 2 ∨ k = 3 ∨ k = 4 ∨ k = 5 ∨ k = 6 ∨ k = 7 ∨ k = 8 := by omega
  rcases hk with rfl | rfl | rfl | rfl | rfl | rfl | rfl | rfl
  · cases hc : rightX ⟨n, s, o, d, x⟩ <;> by_cases ha : 0 ≤ a ∧ a ≤ 8 <;> simp [rightF, okF, ctxF, namedF, restF, FX.nums, rulesM, runR, RuM.ok, RuM.tkL, RuM.tkX, leftF, hc, ha]
  · by_cases h1 : 0 ≤ r ∧ r ≤ 5 <;> by_cases h2 : 0 ≤ e ∧ e ≤ 3 <;> by_cases h3 : 0 ≤ p ∧ p ≤ 7 <;> by_cases h4 : q = 1 ∨ q = 2
    all_goals have h5 : (1 ≤ q ∧ q ≤ 2) = (q = 1 ∨ q = 2) := propext (by omega)
    all_goals cases hc : rightA n s <;> simp [rightF, okF, namedF, restF, FX.nums, rulesM, runR, RuM.ok, RuM.tkL, RuM.tkX, leftF, hc, h1, h2, h3, h4, h5, and_comm]
  · by_cases h1 : 0 ≤ r ∧ r ≤ 5 <;> cases h2 : seatX t hh <;> cases hc : rightA n s <;> simp [rightF, okF, namedF, restF, FX.nums, rulesM, runR, RuM.ok, RuM.tkL, RuM.tkX, leftF, hc, h1, h2]
  · by_cases h4 : c = 1 ∨ c = 2
    all_goals have h5 : (1 ≤ c ∧ c ≤ 2) = (c = 1 ∨ c = 2) := propext (by omega)
    all_goals cases hc : rightA n s <;> simp [rightF, okF, namedF, restF, FX.nums, rulesM, runR, RuM.ok, RuM.tkL, RuM.tkX, leftF, hc, h4, h5]
  · cases hc : rightA n s <;> simp [rightF, okF, namedF, restF, FX.nums, rulesM, runR, RuM.ok, RuM.tkL, RuM.tkX, leftF, hc]
  · by_cases h3 : 0 ≤ p ∧ p ≤ 7 <;> by_cases h4 : q = 1 ∨ q = 2
    all_goals have h5 : (1 ≤ q ∧ q ≤ 2) = (q = 1 ∨ q = 2) := propext (by omega)
    all_goals cases hc : rightA n s <;> simp [rightF, okF, namedF, restF, FX.nums, rulesM, runR, RuM.ok, RuM.tkL, RuM.tkX, leftF, hc, h3, h4, h5]
  · by_cases h3 : 0 ≤ p ∧ p ≤ 7 <;> by_cases h1 : 0 ≤ r ∧ r ≤ 5
    all_goals simp [rightF, okF, namedF, restF, FX.nums, rulesM, runR, RuM.ok, RuM.tkL, RuM.tkX, leftF, h1, h3]
  · by_cases h3 : 0 ≤ p ∧ p ≤ 7 <;> cases h2 : seatX t hh <;> simp [rightF, okF, namedF, restF, FX.nums, rulesM, runR, RuM.ok, RuM.tkL, RuM.tkX, leftF, h2, h3]
theorem right_far {f : FX} (h : ¬ (1 ≤ f.k ∧ f.k ≤ 8)) : rightF f = false := by
  unfold rightF okF
  rw [if_neg (by omega), if_neg (by omega), if_neg (by omega), if_neg (by omega), if_neg (by omega), if_neg (by omega), if_neg (by omega), if_neg (by omega)]
  simp
end Go.Proofs.YtahdoniggipmmaaGreatDoor

namespace Go.Proofs.YtahdoniggipmmaaGreatDoor
open Go.RowKit Go.ChangeShapes Go.WideShapes

/-- the fields' numbers and the float, as the document puts them: a place a tag, tag 14 the float -/
def putG : List Int → Option Nat → List (Int × List Int) → Option (List Int × Option Nat)
  | l, o, [] => some (l, o)
  | l, o, x :: fs =>
    if x.1 = 14 then (if (toFl x.2).2 = 0 then putG l (some (toFl x.2).1) fs else none)
    else if 14 < x.1 ∨ x.2.length = 0 ∨ (toNum x.2).2 ≠ 0 then none else putG (l.set (x.1 - 1).toNat (toNum x.2).1) o fs
def finG : Option (List Int × Option Nat) → Int × FX
  | some (l, o) => if (o.isSome = decide ((ofF l (o.getD 0)).k = 1)) ∧ rightF (ofF l (o.getD 0)) = true then (0, ofF l (o.getD 0)) else (4, noF)
  | none => (4, noF)
/-- WHAT Read ANSWERS: the error's number, the fact -/
def decG (bs : List Int) : Int × FX :=
  if (splitQ 17 bs 0 0).1 ≠ 0 then ((splitQ 17 bs 0 0).1, noF) else finG (putG (List.replicate 13 0) none (splitQ 17 bs 0 0).2)
/-- a fact's fields -/
def tailF (f : FX) : List (Int × List Int) := if f.k = 1 then [(14, f8 (Fl.plain f.x))] else []
def rowG (f : FX) : List (Int × List Int) := rowF 1 f.nums ++ tailF f
/-- a fact's bytes -/
def encF (f : FX) : List Int := joinB (rowG f)

theorem putG_init : ∀ (a : List (Int × List Int)) (l : List Int) (o : Option Nat) (b : List (Int × List Int)), (∀ x ∈ a, x.1 < 14) →
    putG l o (a ++ b) = match putN 13 l a with | none => none | some l' => putG l' o b
  | [], l, o, b, _ => rfl
  | x :: a, l, o, b, h => by
    have hx := h x (by simp)
    rw [List.cons_append, putG, putN, if_neg (by omega)]
    by_cases q : x.2.length = 0 ∨ (toNum x.2).2 ≠ 0
    · rw [if_pos (.inr q), if_pos (.inr q)]
    · rw [if_neg (by rintro (g | g); omega; exact q g), if_neg (by rintro (g | g); omega; exact q g)]
      exact putG_init a _ o b (fun y hy => h y (by simp [hy]))
theorem putG_far : ∀ (a : List (Int × List Int)) (l : List Int) (o : Option Nat), (∃ x ∈ a, 14 < x.1) → putG l o a = none
  | [], _, _, h => by obtain ⟨x, hx, _⟩ := h; cases hx
  | y :: a, l, o, h => by
    rw [putG]
    by_cases q : 14 < y.1
    · rw [if_neg (by omega), if_pos (.inl q)]
    · have ha : ∃ x ∈ a, 14 < x.1 := by
        obtain ⟨x, hx, h5⟩ := h
        rcases List.mem_cons.1 hx with rfl | hx
        · exact absurd h5 q
        · exact ⟨x, hx, h5⟩
      split
      · split
        · exact putG_far a _ _ ha
        · rfl
      · split
        · rfl
        · exact putG_far a _ _ ha
theorem putG_wf : ∀ (a : List (Int × List Int)) (l : List Int) (o : Option Nat) (l' : List Int) (o' : Option Nat), (∀ x ∈ a, InB x.2) → o.getD 0 < 18446744073709551616 → putG l o a = some (l', o') → l'.length = l.length ∧ o'.getD 0 < 18446744073709551616
  | [], l, o, l', o', _, ho, h => by rw [putG] at h; injection h with h; injection h with h1 h2; subst h1 h2; exact ⟨rfl, ho⟩
  | x :: a, l, o, l', o', hb, ho, h => by
    rw [putG] at h
    split at h
    · split at h
      · rename_i g
        exact putG_wf a l (some (toFl x.2).1) l' o' (fun y hy => hb y (by simp [hy])) (f8_back (hb x (by simp)) g).2.2 h
      · cases h
    · split at h
      · cases h
      · have := putG_wf a _ _ _ _ (fun y hy => hb y (by simp [hy])) ho h
        rw [List.length_set] at this
        exact this
theorem nums_len (f : FX) : f.nums.length = 13 := rfl
theorem run_push : ∀ (a : List (Int × List Int)) (y : Int × List Int) (k : Nat) (last : Int), runQ k last a = true → k + a.length < 16 → last < y.1 → (∀ x ∈ a, x.1 < y.1) → y.1 ≤ 255 → y.2.length ≤ 200 → runQ k last (a ++ [y]) = true := by
  intro a
  induction a with
  | nil => intro y k last _ hk hl _ h5 h6; rw [List.nil_append, runQ, Bool.and_eq_true]; exact ⟨decide_eq_true ⟨by simpa using hk, hl, h5, h6⟩, rfl⟩
  | cons f a ih =>
    intro y k last h hk hl hx h5 h6
    rw [runQ, Bool.and_eq_true] at h
    rw [List.cons_append, runQ, Bool.and_eq_true]
    exact ⟨h.1, ih y (k + 1) f.1 h.2 (by rw [List.length_cons] at hk; omega) (hx f (by simp)) (fun x q => hx x (by simp [q])) h5 h6⟩
theorem rowG_run (f : FX) : runQ 0 0 (rowG f) = true := by
  unfold rowG tailF
  have hl := nums_len f
  have h0 := runQ_rowF f.nums 1 0 0 (by decide) (by rw [hl]; decide) (by rw [hl]; decide)
  split
  · refine run_push _ _ 0 0 h0 ?_ (show (0 : Int) < 14 by decide) ?_ (show (14 : Int) ≤ 255 by decide) (by show 8 ≤ 200; decide)
    · have := rowF_len f.nums 1; omega
    · intro x hx
      have := rowF_mem f.nums 1 x hx
      rw [hl] at this
      dsimp only
      omega
  · rw [List.append_nil]; exact h0
theorem tailF_in (f : FX) : ∀ g ∈ tailF f, g = (14, f8 (Fl.plain f.x)) := by
  intro g hg
  unfold tailF at hg
  split at hg
  · simpa using hg
  · cases hg
theorem rowG_in (f : FX) : ∀ g ∈ rowG f, InB g.2 := by
  intro g hg
  rcases List.mem_append.1 hg with h | h
  · exact rowF_in _ _ g h
  · rw [tailF_in f g h]
    exact f8_in _
theorem rowG_small (f : FX) : Small (rowG f) := by
  intro g hg
  have hl := nums_len f
  rcases List.mem_append.1 hg with h | h
  · have := rowF_mem f.nums 1 g h
    rw [hl] at this
    exact ⟨by omega, by omega, by omega⟩
  · rw [tailF_in f g h]
    exact ⟨show (0 : Int) ≤ 14 by decide, show (14 : Int) ≤ 255 by decide, by show 8 ≤ 200; decide⟩
theorem rowG_len (f : FX) : (rowG f).length ≤ 14 := by
  have := rowF_len f.nums 1
  have hl := nums_len f
  unfold rowG tailF
  rw [List.length_append]
  split
  · rw [List.length_singleton]; omega
  · rw [List.length_nil]; omega
theorem encF_len (f : FX) : (encF f).length ≤ 154 := by
  have : ∀ (ns : List Int) (i : Int), (joinB (rowF i ns)).length ≤ 11 * ns.length := by
    intro ns
    induction ns with
    | nil => intro i; simp [rowF, joinB]
    | cons n ns ih =>
      intro i
      have := ih (i + 1)
      simp only [rowF]
      split
      · rw [List.length_cons]; omega
      · have hb := beF_len 8 n.toNat
        rw [joinB_cons]
        simp only [List.length_cons, List.length_append]
        omega
  have h := this f.nums 1
  have hl := nums_len f
  have e : (encF f).length = (joinB (rowF 1 f.nums)).length + (joinB (tailF f)).length := by
    unfold encF rowG joinB
    rw [List.flatMap_append, List.length_append]
  have h2 : (joinB (tailF f)).length ≤ 11 := by
    unfold tailF
    split
    · exact Nat.le_of_eq rfl
    · exact Nat.zero_le _
  omega
theorem encF_in (f : FX) : InB (encF f) := joinB_in (rowG_small f) (rowG_in f)
theorem rest_in : ∀ (l : List Int) (nm : List Int) (i : Int), restF nm i l = true → ∀ (j : Nat) (hj : j < l.length), i + j = 0 ∨ l[j] = 0 ∨ (i + j) ∈ nm
  | [], _, _, _, j, hj => by simp at hj
  | n :: l, nm, i, h, j, hj => by
    rw [rest_cons, Bool.and_eq_true] at h
    match j, hj with
    | 0, _ => simpa using of_decide_eq_true h.1
    | j + 1, hj =>
      have := rest_in l nm (i + 1) h.2 j (by simpa using hj)
      rw [show i + ((j + 1 : Nat) : Int) = i + 1 + (j : Int) by omega]
      simpa using this
theorem okF_kind {f : FX} (h : rightF f = true) : 1 ≤ f.k ∧ f.k ≤ 8 := by
  refine Classical.byContradiction fun g => ?_
  rw [right_far g] at h
  cases h
theorem seat_in {t h : Int} (g : seatX t h = true) : 0 ≤ t ∧ t ≤ 14 ∧ 0 ≤ h ∧ h ≤ 8 := by
  unfold seatX at g
  split at g
  · have := of_decide_eq_true g; omega
  · have := of_decide_eq_true g; omega
theorem rightA_in {n s : Int} (h : rightA n s = true) : 0 ≤ n ∧ n ≤ 3 ∧ 0 ≤ s ∧ s ≤ 999999 := by
  have := of_decide_eq_true h
  omega
/-- a right fact's numbers are small -/
theorem rightF_okn {f : FX} (h : rightF f = true) : ∀ x ∈ f.nums, 0 ≤ x ∧ x ≤ 999999 := by
  have hk := okF_kind h
  unfold rightF at h
  rw [Bool.and_eq_true, Bool.and_eq_true] at h
  obtain ⟨h1, h2, -⟩ := h
  have hr := rest_in _ _ _ h1
  obtain ⟨k, n, s, r, e, p, q, o, d, a, t, hh, c, x⟩ := f
  dsimp only at hk h2
  have g : ∀ (j : Nat) (hj : j < 13), (0 : Int) + j = 0 ∨ (FX.nums ⟨k, n, s, r, e, p, q, o, d, a, t, hh, c, x⟩)[j]'hj = 0 ∨ ((0 : Int) + j) ∈ namedF k := fun j hj => hr j hj
  have g1 := g 1 (by decide)
  have g2 := g 2 (by decide)
  have g3 := g 3 (by decide)
  have g4 := g 4 (by decide)
  have g5 := g 5 (by decide)
  have g6 := g 6 (by decide)
  have g7 := g 7 (by decide)
  have g8 := g 8 (by decide)
  have g9 := g 9 (by decide)
  have g10 := g 10 (by decide)
  have g11 := g 11 (by decide)
  have g12 := g 12 (by decide)
  clear g hr h1
  have hk2 : k = 1 ∨ k = 2 ∨ k = 3 ∨ k = 4 ∨ k = 5 ∨ k = 6 ∨ k = 7 ∨ k = 8 := by omega
  clear hk
  have A := @rightA_in n s
  have S := @seat_in t hh
  have X : rightX ⟨n, s, o, d, x⟩ = true → (0 ≤ n ∧ n ≤ 3 ∧ 0 ≤ s ∧ s ≤ 999999) ∧ 0 ≤ o ∧ o ≤ 2 ∧ 0 ≤ d ∧ d ≤ 3 := fun q => by
    unfold rightX outX at q
    simp only [Bool.and_eq_true, decide_eq_true_eq] at q
    exact ⟨rightA_in q.1, by omega⟩
  intro y hy
  simp only [FX.nums, List.mem_cons, List.not_mem_nil, or_false] at hy
  rcases hk2 with rfl | rfl | rfl | rfl | rfl | rfl | rfl | rfl <;> simp [namedF, FX.nums] at g1 g2 g3 g4 g5 g6 g7 g8 g9 g10 g11 g12 <;> simp only [okF, ctxF, Bool.and_eq_true, decide_eq_true_eq, if_pos, reduceIte, Int.reduceEq] at h2
  · have := X h2.1; rcases hy with rfl | rfl | rfl | rfl | rfl | rfl | rfl | rfl | rfl | rfl | rfl | rfl | rfl <;> omega
  · have := A h2.1; rcases hy with rfl | rfl | rfl | rfl | rfl | rfl | rfl | rfl | rfl | rfl | rfl | rfl | rfl <;> omega
  · have := A h2.1; have := S h2.2.2; rcases hy with rfl | rfl | rfl | rfl | rfl | rfl | rfl | rfl | rfl | rfl | rfl | rfl | rfl <;> omega
  · have := A h2.1; rcases hy with rfl | rfl | rfl | rfl | rfl | rfl | rfl | rfl | rfl | rfl | rfl | rfl | rfl <;> omega
  · have := A h2; rcases hy with rfl | rfl | rfl | rfl | rfl | rfl | rfl | rfl | rfl | rfl | rfl | rfl | rfl <;> omega
  · have := A h2.1; rcases hy with rfl | rfl | rfl | rfl | rfl | rfl | rfl | rfl | rfl | rfl | rfl | rfl | rfl <;> omega
  · rcases hy with rfl | rfl | rfl | rfl | rfl | rfl | rfl | rfl | rfl | rfl | rfl | rfl | rfl <;> omega
  · have := S h2.2; rcases hy with rfl | rfl | rfl | rfl | rfl | rfl | rfl | rfl | rfl | rfl | rfl | rfl | rfl <;> omega
theorem rightF_plain {f : FX} (h : rightF f = true) : Fl.plain f.x = f.x ∧ f.x < 18446744073709551616 := by
  unfold rightF at h
  rw [Bool.and_eq_true, Bool.and_eq_true] at h
  obtain ⟨-, h2, h3⟩ := h
  rcases of_decide_eq_true h3 with g | g
  · unfold okF at h2
    rw [if_pos g, Bool.and_eq_true] at h2
    exact rightX_plain h2.1
  · rw [g]; exact ⟨by decide, by decide⟩
theorem rightF_zero {f : FX} (h : rightF f = true) (hk : f.k ≠ 1) : f.x = 0 := by
  unfold rightF at h
  rw [Bool.and_eq_true, Bool.and_eq_true] at h
  exact (of_decide_eq_true h.2.2).resolve_left hk
/-- what is encoded is decoded to the same -/
theorem dec_encF {f : FX} (h : rightF f = true) : decG (encF f) = (0, f) := by
  have hs := split_join (rowG f) 0 16 0 (rowG_run f) (fun _ _ => Int.le_refl _) (by have := rowG_len f; omega) (rowG_in f)
  obtain ⟨p1, p2⟩ := rightF_plain h
  unfold decG encF
  rw [hs, if_neg (fun q => q rfl)]
  dsimp only
  unfold rowG
  have hl := nums_len f
  rw [putG_init _ _ _ _ (fun x hx => by
    have := rowF_mem f.nums 1 x hx
    rw [hl] at this
    omega)]
  have hp := put_backN 13 13 0 (List.replicate 13 0) f.nums rfl rfl rfl (rightF_okn h) (fun j _ => rep_get 13 j) rfl
  rw [List.drop_zero] at hp
  rw [show rowF (((0 : Nat) : Int) + 1) f.nums = rowF 1 f.nums from rfl] at hp
  rw [hp]
  dsimp only
  unfold tailF
  by_cases hk : f.k = 1
  · rw [if_pos hk, putG, if_pos rfl, p1, toFl_f8 f.x p2 p1]
    dsimp only
    rw [if_pos rfl, putG, finG, Option.getD_some, ofF_nums, if_pos ⟨by rw [decide_eq_true hk]; rfl, h⟩]
  · rw [if_neg hk, putG, finG, Option.getD_none]
    have e : ofF f.nums 0 = f := by rw [← rightF_zero h hk]; exact ofF_nums f
    rw [e, if_pos ⟨by rw [decide_eq_false hk]; rfl, h⟩]
/-- what is decoded is right, and encoded to the same -/
theorem enc_decF {bs : List Int} {f : FX} (hb : InB bs) (h : decG bs = (0, f)) : rightF f = true ∧ encF f = bs := by
  unfold decG at h
  split at h
  · rename_i g; injection h with h1 _; exact absurd h1 g
  rename_i h0
  have h0 : (splitQ 17 bs 0 0).1 = 0 := Classical.byContradiction h0
  obtain ⟨q1, q2⟩ := splitQ_back 17 bs 0 0 hb (by decide) h0
  have hin := splitQ_in hb q2
  obtain ⟨fs, hfs⟩ : ∃ x, (splitQ 17 bs 0 0).2 = x := ⟨_, rfl⟩
  rw [hfs] at h q1 q2 hin
  have fin : ∀ (l : List Int) (o : Option Nat), finG (some (l, o)) = (0, f) → rightF f = true ∧ f = ofF l (o.getD 0) ∧ o.isSome = decide (f.k = 1) := by
    intro l o hf
    unfold finG at hf
    dsimp only at hf
    split at hf
    · rename_i g
      injection hf with _ h2
      subst h2
      exact ⟨g.2, rfl, g.1⟩
    · cases hf
  have all14 : ∀ a : List (Int × List Int), runQ 0 0 a = true → (∀ x ∈ a, x.1 < 14) → (∀ x ∈ a, InB x.2) → ∀ l, putN 13 (List.replicate 13 0) a = some l → l.length = 13 ∧ rowF 1 l = a := by
    intro a hr _ hi l hl
    obtain ⟨h1, _, h3⟩ := put_rowN 13 13 0 a 0 (List.replicate 13 0) l rfl rfl (fun j _ => rep_get 13 j) hi hr hl
    rw [List.drop_zero] at h3
    exact ⟨h1, h3⟩
  have low : (∀ x ∈ fs, x.1 < 14) → rightF f = true ∧ encF f = bs := by
    intro hlow
    have e := putG_init fs (List.replicate 13 0) none [] hlow
    rw [List.append_nil] at e
    rw [e] at h
    cases hp : putN 13 (List.replicate 13 0) fs with
    | none => rw [hp] at h; cases h
    | some l =>
      rw [hp] at h
      obtain ⟨h1, h3⟩ := all14 fs q1 hlow hin l hp
      obtain ⟨g1, g2, g3⟩ := fin l none h
      refine ⟨g1, ?_⟩
      have hk : f.k ≠ 1 := fun q => by rw [decide_eq_true q] at g3; cases g3
      unfold encF rowG tailF
      rw [if_neg hk, List.append_nil, g2, nums_ofF _ h1, h3]
      exact q2
  rcases List.eq_nil_or_concat fs with rfl | ⟨a, y, rfl⟩
  · exact low (fun x hx => by cases hx)
  rw [List.concat_eq_append] at *
  obtain ⟨ra, rl⟩ := runQ_last a y 0 0 q1
  rcases Int.lt_trichotomy y.1 14 with h5 | h5 | h5
  · refine low (fun x hx => ?_)
    rcases List.mem_append.1 hx with g | g
    · have := rl x g; omega
    · obtain rfl : x = y := by simpa using g
      exact h5
  · obtain ⟨t, d⟩ := y
    obtain rfl : t = 14 := h5
    rw [putG_init a _ _ _ (fun x hx => rl x hx)] at h
    cases hp : putN 13 (List.replicate 13 0) a with
    | none => rw [hp] at h; cases h
    | some l =>
      rw [hp] at h
      dsimp only at h
      rw [putG, if_pos rfl] at h
      dsimp only at h
      split at h
      · rename_i hd
        rw [putG] at h
        obtain ⟨h1, h3⟩ := all14 a ra (fun x hx => rl x hx) (fun x hx => hin x (by simp [hx])) l hp
        obtain ⟨g1, g2, g3⟩ := fin l _ h
        refine ⟨g1, ?_⟩
        have hk : f.k = 1 := of_decide_eq_true g3.symm
        obtain ⟨e1, e2, _⟩ := f8_back (hin (14, d) (by simp)) hd
        have ex : f.x = (toFl d).1 := by rw [g2]; rfl
        unfold encF rowG tailF
        rw [if_pos hk, ex, e2, e1, g2, nums_ofF _ h1, h3]
        exact q2
      · cases h
  · rw [putG_far _ _ _ ⟨y, by simp, h5⟩] at h
    cases h
theorem decG_num (bs : List Int) : (decG bs).1 = 0 ∨ (decG bs).1 = 2 ∨ (decG bs).1 = 4 := by
  unfold decG
  split
  · exact splitQ_num 17 bs 0 0
  · unfold finG
    split
    · split
      · exact .inl rfl
      · exact .inr (.inr rfl)
    · exact .inr (.inr rfl)
theorem decG_wf {bs : List Int} : (decG bs).2.wf := by
  unfold decG
  split
  · exact noF_wf
  · unfold finG
    split
    · split
      · rename_i h
        exact (rightF_plain h.2).2
      · exact noF_wf
    · exact noF_wf
theorem finG_bad : ∀ o : Option (List Int × Option Nat), (finG o).1 ≠ 0 → (finG o).2 = noF
  | none, _ => rfl
  | some (l, o), h => by
    by_cases q : o.isSome = decide ((ofF l (o.getD 0)).k = 1) ∧ rightF (ofF l (o.getD 0)) = true
    · have e : finG (some (l, o)) = (0, ofF l (o.getD 0)) := if_pos q
      rw [e] at h
      exact absurd rfl h
    · have e : finG (some (l, o)) = (4, noF) := if_neg q
      rw [e]
theorem decG_bad {bs : List Int} (h : (decG bs).1 ≠ 0) : (decG bs).2 = noF := by
  unfold decG at h ⊢
  split
  · rfl
  · rename_i g
    rw [if_neg g] at h
    exact finG_bad _ h
theorem encF_inj {a b : FX} (ha : rightF a = true) (hb : rightF b = true) (h : encF a = encF b) : a = b := by
  have h1 := dec_encF ha
  rw [h, dec_encF hb] at h1
  injection h1 with _ h2
  exact h2.symm
theorem encF_pos {f : FX} (h : rightF f = true) : 0 < (encF f).length := by
  rcases Nat.eq_zero_or_pos (encF f).length with g | g
  · have h1 := dec_encF h
    rw [List.length_eq_zero_iff.1 g] at h1
    have : (decG []).1 = 4 := by decide
    rw [h1] at this
    cases this
  · exact g
/-- cut short it isn't decoded to the fact -/
theorem dec_cutF {f : FX} (k : Nat) (hk : k < (encF f).length) : decG ((encF f).take k) ≠ (0, f) := by
  intro h
  have h1 := (enc_decF (fun x hx => encF_in f x (List.mem_of_mem_take hx)) h).2
  have h2 := congrArg List.length h1
  rw [List.length_take] at h2
  omega
end Go.Proofs.YtahdoniggipmmaaGreatDoor

namespace Go.Proofs.YtahdoniggipmmaaGreatDoor
open Go.RowKit Go.ChangeShapes Go.WideShapes

theorem cells14 {b : Nat} {t : TypeId} {w : World} {x0 x1 x2 x3 x4 x5 x6 x7 x8 x9 x10 x11 x12 x13 : Value} (h : w.heap[b]? = some (.cells #[x0, x1, x2, x3, x4, x5, x6, x7, x8, x9, x10, x11, x12, x13] t (0, 0))) : w.cell? ⟨b, 0, none⟩ = some x0 ∧ w.cell? ⟨b, 1, none⟩ = some x1 ∧ w.cell? ⟨b, 2, none⟩ = some x2 ∧ w.cell? ⟨b, 3, none⟩ = some x3 ∧ w.cell? ⟨b, 4, none⟩ = some x4 ∧ w.cell? ⟨b, 5, none⟩ = some x5 ∧ w.cell? ⟨b, 6, none⟩ = some x6 ∧ w.cell? ⟨b, 7, none⟩ = some x7 ∧ w.cell? ⟨b, 8, none⟩ = some x8 ∧ w.cell? ⟨b, 9, none⟩ = some x9 ∧ w.cell? ⟨b, 10, none⟩ = some x10 ∧ w.cell? ⟨b, 11, none⟩ = some x11 ∧ w.cell? ⟨b, 12, none⟩ = some x12 ∧ w.cell? ⟨b, 13, none⟩ = some x13 := by
  refine ⟨?_, ?_, ?_, ?_, ?_, ?_, ?_, ?_, ?_, ?_, ?_, ?_, ?_, ?_⟩ <;> (unfold World.cell?; dsimp only; rw [h]; rfl)
theorem froz14 {b : Nat} {t : TypeId} {w : World} {cs : Array Value} (h : w.heap[b]? = some (.cells cs t (0, 0))) (i : Nat) : w.frozen? ⟨b, i, none⟩ = false := by
  unfold World.frozen?
  dsimp only
  rw [h]
  simp
theorem set14 {b : Nat} {t : TypeId} {w : World} {x0 x1 x2 x3 x4 x5 x6 x7 x8 x9 x10 x11 x12 x13 : Value} (y0 y1 y2 y3 y4 y5 y6 y7 y8 y9 y10 y11 y12 y13 : Value) (h : w.heap[b]? = some (.cells #[x0, x1, x2, x3, x4, x5, x6, x7, x8, x9, x10, x11, x12, x13] t (0, 0))) : ((((((((((((((w.setCell ⟨b, 0, none⟩ y0).setCell ⟨b, 1, none⟩ y1).setCell ⟨b, 2, none⟩ y2).setCell ⟨b, 3, none⟩ y3).setCell ⟨b, 4, none⟩ y4).setCell ⟨b, 5, none⟩ y5).setCell ⟨b, 6, none⟩ y6).setCell ⟨b, 7, none⟩ y7).setCell ⟨b, 8, none⟩ y8).setCell ⟨b, 9, none⟩ y9).setCell ⟨b, 10, none⟩ y10).setCell ⟨b, 11, none⟩ y11).setCell ⟨b, 12, none⟩ y12).setCell ⟨b, 13, none⟩ y13).heap[b]? = some (.cells #[y0, y1, y2, y3, y4, y5, y6, y7, y8, y9, y10, y11, y12, y13] t (0, 0)) := by
  have h1 : (w.setCell ⟨b, 0, none⟩ y0).heap[b]? = some (.cells #[y0, x1, x2, x3, x4, x5, x6, x7, x8, x9, x10, x11, x12, x13] t (0, 0)) := (Joins.block_setCell h _).trans rfl
  have h2 : ((w.setCell ⟨b, 0, none⟩ y0).setCell ⟨b, 1, none⟩ y1).heap[b]? = some (.cells #[y0, y1, x2, x3, x4, x5, x6, x7, x8, x9, x10, x11, x12, x13] t (0, 0)) := (Joins.block_setCell h1 _).trans rfl
  have h3 : (((w.setCell ⟨b, 0, none⟩ y0).setCell ⟨b, 1, none⟩ y1).setCell ⟨b, 2, none⟩ y2).heap[b]? = some (.cells #[y0, y1, y2, x3, x4, x5, x6, x7, x8, x9, x10, x11, x12, x13] t (0, 0)) := (Joins.block_setCell h2 _).trans rfl
  have h4 : ((((w.setCell ⟨b, 0, none⟩ y0).setCell ⟨b, 1, none⟩ y1).setCell ⟨b, 2, none⟩ y2).setCell ⟨b, 3, none⟩ y3).heap[b]? = some (.cells #[y0, y1, y2, y3, x4, x5, x6, x7, x8, x9, x10, x11, x12, x13] t (0, 0)) := (Joins.block_setCell h3 _).trans rfl
  have h5 : (((((w.setCell ⟨b, 0, none⟩ y0).setCell ⟨b, 1, none⟩ y1).setCell ⟨b, 2, none⟩ y2).setCell ⟨b, 3, none⟩ y3).setCell ⟨b, 4, none⟩ y4).heap[b]? = some (.cells #[y0, y1, y2, y3, y4, x5, x6, x7, x8, x9, x10, x11, x12, x13] t (0, 0)) := (Joins.block_setCell h4 _).trans rfl
  have h6 : ((((((w.setCell ⟨b, 0, none⟩ y0).setCell ⟨b, 1, none⟩ y1).setCell ⟨b, 2, none⟩ y2).setCell ⟨b, 3, none⟩ y3).setCell ⟨b, 4, none⟩ y4).setCell ⟨b, 5, none⟩ y5).heap[b]? = some (.cells #[y0, y1, y2, y3, y4, y5, x6, x7, x8, x9, x10, x11, x12, x13] t (0, 0)) := (Joins.block_setCell h5 _).trans rfl
  have h7 : (((((((w.setCell ⟨b, 0, none⟩ y0).setCell ⟨b, 1, none⟩ y1).setCell ⟨b, 2, none⟩ y2).setCell ⟨b, 3, none⟩ y3).setCell ⟨b, 4, none⟩ y4).setCell ⟨b, 5, none⟩ y5).setCell ⟨b, 6, none⟩ y6).heap[b]? = some (.cells #[y0, y1, y2, y3, y4, y5, y6, x7, x8, x9, x10, x11, x12, x13] t (0, 0)) := (Joins.block_setCell h6 _).trans rfl
  have h8 : ((((((((w.setCell ⟨b, 0, none⟩ y0).setCell ⟨b, 1, none⟩ y1).setCell ⟨b, 2, none⟩ y2).setCell ⟨b, 3, none⟩ y3).setCell ⟨b, 4, none⟩ y4).setCell ⟨b, 5, none⟩ y5).setCell ⟨b, 6, none⟩ y6).setCell ⟨b, 7, none⟩ y7).heap[b]? = some (.cells #[y0, y1, y2, y3, y4, y5, y6, y7, x8, x9, x10, x11, x12, x13] t (0, 0)) := (Joins.block_setCell h7 _).trans rfl
  have h9 : (((((((((w.setCell ⟨b, 0, none⟩ y0).setCell ⟨b, 1, none⟩ y1).setCell ⟨b, 2, none⟩ y2).setCell ⟨b, 3, none⟩ y3).setCell ⟨b, 4, none⟩ y4).setCell ⟨b, 5, none⟩ y5).setCell ⟨b, 6, none⟩ y6).setCell ⟨b, 7, none⟩ y7).setCell ⟨b, 8, none⟩ y8).heap[b]? = some (.cells #[y0, y1, y2, y3, y4, y5, y6, y7, y8, x9, x10, x11, x12, x13] t (0, 0)) := (Joins.block_setCell h8 _).trans rfl
  have h10 : ((((((((((w.setCell ⟨b, 0, none⟩ y0).setCell ⟨b, 1, none⟩ y1).setCell ⟨b, 2, none⟩ y2).setCell ⟨b, 3, none⟩ y3).setCell ⟨b, 4, none⟩ y4).setCell ⟨b, 5, none⟩ y5).setCell ⟨b, 6, none⟩ y6).setCell ⟨b, 7, none⟩ y7).setCell ⟨b, 8, none⟩ y8).setCell ⟨b, 9, none⟩ y9).heap[b]? = some (.cells #[y0, y1, y2, y3, y4, y5, y6, y7, y8, y9, x10, x11, x12, x13] t (0, 0)) := (Joins.block_setCell h9 _).trans rfl
  have h11 : (((((((((((w.setCell ⟨b, 0, none⟩ y0).setCell ⟨b, 1, none⟩ y1).setCell ⟨b, 2, none⟩ y2).setCell ⟨b, 3, none⟩ y3).setCell ⟨b, 4, none⟩ y4).setCell ⟨b, 5, none⟩ y5).setCell ⟨b, 6, none⟩ y6).setCell ⟨b, 7, none⟩ y7).setCell ⟨b, 8, none⟩ y8).setCell ⟨b, 9, none⟩ y9).setCell ⟨b, 10, none⟩ y10).heap[b]? = some (.cells #[y0, y1, y2, y3, y4, y5, y6, y7, y8, y9, y10, x11, x12, x13] t (0, 0)) := (Joins.block_setCell h10 _).trans rfl
  have h12 : ((((((((((((w.setCell ⟨b, 0, none⟩ y0).setCell ⟨b, 1, none⟩ y1).setCell ⟨b, 2, none⟩ y2).setCell ⟨b, 3, none⟩ y3).setCell ⟨b, 4, none⟩ y4).setCell ⟨b, 5, none⟩ y5).setCell ⟨b, 6, none⟩ y6).setCell ⟨b, 7, none⟩ y7).setCell ⟨b, 8, none⟩ y8).setCell ⟨b, 9, none⟩ y9).setCell ⟨b, 10, none⟩ y10).setCell ⟨b, 11, none⟩ y11).heap[b]? = some (.cells #[y0, y1, y2, y3, y4, y5, y6, y7, y8, y9, y10, y11, x12, x13] t (0, 0)) := (Joins.block_setCell h11 _).trans rfl
  have h13 : (((((((((((((w.setCell ⟨b, 0, none⟩ y0).setCell ⟨b, 1, none⟩ y1).setCell ⟨b, 2, none⟩ y2).setCell ⟨b, 3, none⟩ y3).setCell ⟨b, 4, none⟩ y4).setCell ⟨b, 5, none⟩ y5).setCell ⟨b, 6, none⟩ y6).setCell ⟨b, 7, none⟩ y7).setCell ⟨b, 8, none⟩ y8).setCell ⟨b, 9, none⟩ y9).setCell ⟨b, 10, none⟩ y10).setCell ⟨b, 11, none⟩ y11).setCell ⟨b, 12, none⟩ y12).heap[b]? = some (.cells #[y0, y1, y2, y3, y4, y5, y6, y7, y8, y9, y10, y11, y12, x13] t (0, 0)) := (Joins.block_setCell h12 _).trans rfl
  have h14 : ((((((((((((((w.setCell ⟨b, 0, none⟩ y0).setCell ⟨b, 1, none⟩ y1).setCell ⟨b, 2, none⟩ y2).setCell ⟨b, 3, none⟩ y3).setCell ⟨b, 4, none⟩ y4).setCell ⟨b, 5, none⟩ y5).setCell ⟨b, 6, none⟩ y6).setCell ⟨b, 7, none⟩ y7).setCell ⟨b, 8, none⟩ y8).setCell ⟨b, 9, none⟩ y9).setCell ⟨b, 10, none⟩ y10).setCell ⟨b, 11, none⟩ y11).setCell ⟨b, 12, none⟩ y12).setCell ⟨b, 13, none⟩ y13).heap[b]? = some (.cells #[y0, y1, y2, y3, y4, y5, y6, y7, y8, y9, y10, y11, y12, y13] t (0, 0)) := (Joins.block_setCell h13 _).trans rfl
  exact h14
theorem set14_kp {b : Nat} {w0 w : World} (hk : Kp w0 w) (hb : w0.heap.size ≤ b) (y0 y1 y2 y3 y4 y5 y6 y7 y8 y9 y10 y11 y12 y13 : Value) : Kp w0 ((((((((((((((w.setCell ⟨b, 0, none⟩ y0).setCell ⟨b, 1, none⟩ y1).setCell ⟨b, 2, none⟩ y2).setCell ⟨b, 3, none⟩ y3).setCell ⟨b, 4, none⟩ y4).setCell ⟨b, 5, none⟩ y5).setCell ⟨b, 6, none⟩ y6).setCell ⟨b, 7, none⟩ y7).setCell ⟨b, 8, none⟩ y8).setCell ⟨b, 9, none⟩ y9).setCell ⟨b, 10, none⟩ y10).setCell ⟨b, 11, none⟩ y11).setCell ⟨b, 12, none⟩ y12).setCell ⟨b, 13, none⟩ y13) := by
  refine Below.setCell ?_ hb _
  refine Below.setCell ?_ hb _
  refine Below.setCell ?_ hb _
  refine Below.setCell ?_ hb _
  refine Below.setCell ?_ hb _
  refine Below.setCell ?_ hb _
  refine Below.setCell ?_ hb _
  refine Below.setCell ?_ hb _
  refine Below.setCell ?_ hb _
  refine Below.setCell ?_ hb _
  refine Below.setCell ?_ hb _
  refine Below.setCell ?_ hb _
  refine Below.setCell ?_ hb _
  refine Below.setCell ?_ hb _
  exact hk
theorem new14_0 (w : World) (o o' : Obj) : ((w.alloc o).alloc o').heap[w.heap.size]? = some o := by
  rw [Below.heap_alloc _ _ _ (by simp)]
  exact (MapKept.heap_alloc w o).1
theorem new14_1 (w : World) (o o' : Obj) : ((w.alloc o).alloc o').heap[w.heap.size + 1]? = some o' := by
  have := (MapKept.heap_alloc (w.alloc o) o').1
  simpa using this
/-- a fact's cells, of a list of numbers and a time -/
def numsF (l : List Int) (x : Nat) : Array Value := (l.map (Value.int .i64) ++ [Value.float .f64 x]).toArray
theorem numsF_cells (f : FX) : f.cells = numsF f.nums f.x := rfl
theorem numsF_of {l : List Int} (h : l.length = 13) (x : Nat) : numsF l x = (ofF l x).cells := by
  obtain ⟨k, n, s, r, e, p, q, o, d, a, t, hh, c, rfl⟩ := thirteen h
  rfl
theorem numsF_cell {w : World} {B x : Nat} {l : List Int} {t : TypeId} (h : w.heap[B]? = some (.cells (numsF l x) t (0, 0))) (j : Nat) (hj : j < l.length) : w.cell? ⟨B, j, none⟩ = some (.int .i64 l[j]) := by
  unfold World.cell?
  dsimp only
  rw [h]
  simp [numsF, List.getElem?_append_left, hj]
theorem numsF_last {w : World} {B x : Nat} {l : List Int} {t : TypeId} (h : w.heap[B]? = some (.cells (numsF l x) t (0, 0))) (hl : l.length = 13) : w.cell? ⟨B, 13, none⟩ = some (.float .f64 x) := by
  unfold World.cell?
  dsimp only
  rw [h]
  obtain ⟨k, n, s, r, e, p, q, o, d, a, t, hh, c, rfl⟩ := thirteen hl
  rfl
theorem numsF_set {w : World} {B x : Nat} {l : List Int} {t : TypeId} (h : w.heap[B]? = some (.cells (numsF l x) t (0, 0))) (i : Nat) (hi : i < l.length) (y : Int) : (w.setCell ⟨B, i, none⟩ (.int .i64 y)).heap[B]? = some (.cells (numsF (l.set i y) x) t (0, 0)) := by
  rw [Joins.block_setCell h]
  congr 2
  simp [numsF, List.set_append_left, hi, List.map_set]
theorem numsF_setX {w : World} {B x : Nat} {l : List Int} {t : TypeId} (h : w.heap[B]? = some (.cells (numsF l x) t (0, 0))) (hl : l.length = 13) (y : Nat) : (w.setCell ⟨B, 13, none⟩ (.float .f64 y)).heap[B]? = some (.cells (numsF l y) t (0, 0)) := by
  rw [Joins.block_setCell h]
  congr 2
  obtain ⟨k, n, s, r, e, p, q, o, d, a, t, hh, c, rfl⟩ := thirteen hl
  rfl
end Go.Proofs.YtahdoniggipmmaaGreatDoor

namespace Go.Proofs.YtahdoniggipmmaaGreatDoor
open Go.RowKit Go.ChangeShapes Go.WideShapes

set_option maxRecDepth 20000 in
theorem refActF_any (nn si : Int) (w : World) :
    Calls Tryz.prog 31 #[.agg #[.int .i64 nn, .int .i64 si]] w fun e w' => e = .returned (.bool (rightA nn si)) ∧ Kp w w' := by
  go_enter Tryz.func31, Tryz.ntmps31
  go_wp2
  all_goals (go_ret; refine ⟨?_, kp_alloc _ _⟩; simp [rightA, *] <;> (intros; omega))
theorem rstate_1 (t h : Int) (ht : t = 14) (hh : h = 1) (w : World) : Calls Tryz.prog 33 #[.int .i64 t, .int .i64 h] w fun e w' => e = .returned (.bool true) ∧ w = w' := by
  subst ht hh
  go_enter Tryz.func33, Tryz.ntmps33
  go_wp2
  go_ret
  exact ⟨by first | rfl | simp [*], rfl⟩
theorem rstate_2 (t h : Int) (ht : t = 14) (hh : h ≠ 1) (h4 : 4 ≤ h) (w : World) : Calls Tryz.prog 33 #[.int .i64 t, .int .i64 h] w fun e w' => e = .returned (.bool (decide (h ≤ 8))) ∧ w = w' := by
  subst ht
  have g1 : (h == 1) = false := by simpa using hh
  have g2 : decide (4 ≤ h) = true := decide_eq_true h4
  clear hh h4
  go_enter Tryz.func33, Tryz.ntmps33
  go_wp2
  go_ret
  exact ⟨by first | rfl | simp [*], rfl⟩
theorem rstate_3 (t h : Int) (ht : t = 14) (hh : h ≠ 1) (h4 : ¬ 4 ≤ h) (w : World) : Calls Tryz.prog 33 #[.int .i64 t, .int .i64 h] w fun e w' => e = .returned (.bool false) ∧ w = w' := by
  subst ht
  have g1 : (h == 1) = false := by simpa using hh
  have g2 : decide (4 ≤ h) = false := decide_eq_false h4
  clear hh h4
  go_enter Tryz.func33, Tryz.ntmps33
  go_wp2
  go_ret
  exact ⟨by first | rfl | simp [*], rfl⟩
theorem rstate_4 (t h : Int) (ht : t ≠ 14) (h1 : ¬ 1 ≤ t) (w : World) : Calls Tryz.prog 33 #[.int .i64 t, .int .i64 h] w fun e w' => e = .returned (.bool false) ∧ w = w' := by
  have g1 : (t == 14) = false := by simpa using ht
  have g2 : decide (1 ≤ t) = false := decide_eq_false h1
  clear ht h1
  go_enter Tryz.func33, Tryz.ntmps33
  go_wp2
  go_ret
  exact ⟨by first | rfl | simp [*], rfl⟩
theorem rstate_5 (t h : Int) (ht : t ≠ 14) (h1 : 1 ≤ t) (h13 : ¬ t ≤ 13) (w : World) : Calls Tryz.prog 33 #[.int .i64 t, .int .i64 h] w fun e w' => e = .returned (.bool false) ∧ w = w' := by
  have g1 : (t == 14) = false := by simpa using ht
  have g2 : decide (1 ≤ t) = true := decide_eq_true h1
  have g3 : decide (t ≤ 13) = false := decide_eq_false h13
  clear ht h1 h13
  go_enter Tryz.func33, Tryz.ntmps33
  go_wp2
  go_ret
  exact ⟨by first | rfl | simp [*], rfl⟩
theorem rstate_6 (t h : Int) (ht : t ≠ 14) (h1 : 1 ≤ t) (h13 : t ≤ 13) (w : World) : Calls Tryz.prog 33 #[.int .i64 t, .int .i64 h] w fun e w' => e = .returned (.bool (h == 0)) ∧ w = w' := by
  have g1 : (t == 14) = false := by simpa using ht
  have g2 : decide (1 ≤ t) = true := decide_eq_true h1
  have g3 : decide (t ≤ 13) = true := decide_eq_true h13
  clear ht h1 h13
  go_enter Tryz.func33, Tryz.ntmps33
  go_wp2
  go_ret
  exact ⟨by first | rfl | simp [*], rfl⟩
theorem refState_any (t h : Int) (w : World) : Calls Tryz.prog 33 #[.int .i64 t, .int .i64 h] w fun e w' => e = .returned (.bool (seatX t h)) ∧ w = w' := by
  unfold seatX
  by_cases ht : t = 14
  · rw [if_pos ht]
    by_cases h1 : h = 1
    · rw [decide_eq_true (.inl h1)]; exact rstate_1 t h ht h1 w
    by_cases h4 : 4 ≤ h
    · rw [show decide (h = 1 ∨ 4 ≤ h ∧ h ≤ 8) = decide (h ≤ 8) by simp [h1, h4]]; exact rstate_2 t h ht h1 h4 w
    · rw [decide_eq_false (by omega)]; exact rstate_3 t h ht h1 h4 w
  · rw [if_neg ht]
    by_cases h1 : 1 ≤ t
    · by_cases h13 : t ≤ 13
      · rw [show decide (1 ≤ t ∧ t ≤ 13 ∧ h = 0) = (h == 0) by rw [Bool.eq_iff_iff]; simp [h1, h13]]; exact rstate_6 t h ht h1 h13 w
      · rw [decide_eq_false (by omega)]; exact rstate_5 t h ht h1 h13 w
    · rw [decide_eq_false (by omega)]; exact rstate_4 t h ht h1 w
set_option maxRecDepth 20000 in
theorem refNumbers_any (f : FX) (w : World) : Calls Tryz.prog 34 #[.agg f.cells] w fun e w' => ∃ g, e = .returned (.slice (some ⟨g, 0, none⟩) 13 13) ∧ w'.ownsRow w.heap.size 3 1 (.slice (some ⟨g, 0, none⟩) 13 13) 13 (f.nums.map (Value.int .i64)) ∧ Kp w w' := by
  obtain ⟨k, n, s, r, e, p, q, o, d, a, t, hh, c, x⟩ := f
  dsimp only [FX.cells]
  have HR := Lib.hid (MapKept.heap_alloc w (.cells #[.int .i64 k, .int .i64 n, .int .i64 s, .int .i64 r, .int .i64 e, .int .i64 p, .int .i64 q, .int .i64 o, .int .i64 d, .int .i64 a, .int .i64 t, .int .i64 hh, .int .i64 c, .float .f64 x] 28)).1
  obtain ⟨b0, b1, b2, b3, b4, b5, b6, b7, b8, b9, b10, b11, b12, b13⟩ := cells14 HR.out
  have K := Lib.hid (Kp.trans (kp_alloc w (.cells #[.int .i64 k, .int .i64 n, .int .i64 s, .int .i64 r, .int .i64 e, .int .i64 p, .int .i64 q, .int .i64 o, .int .i64 d, .int .i64 a, .int .i64 t, .int .i64 hh, .int .i64 c, .float .f64 x] 28)) (kp_alloc (w.alloc (.cells #[.int .i64 k, .int .i64 n, .int .i64 s, .int .i64 r, .int .i64 e, .int .i64 p, .int .i64 q, .int .i64 o, .int .i64 d, .int .i64 a, .int .i64 t, .int .i64 hh, .int .i64 c, .float .f64 x] 28)) (.cells #[.int .i64 k, .int .i64 n, .int .i64 s, .int .i64 r, .int .i64 e, .int .i64 p, .int .i64 q, .int .i64 o, .int .i64 d, .int .i64 a, .int .i64 t, .int .i64 hh, .int .i64 c] 3)))
  have h1 := World.ownsRow_lit (base := w.heap.size) (e := 3) (size := 1) (w.alloc (.cells #[.int .i64 k, .int .i64 n, .int .i64 s, .int .i64 r, .int .i64 e, .int .i64 p, .int .i64 q, .int .i64 o, .int .i64 d, .int .i64 a, .int .i64 t, .int .i64 hh, .int .i64 c, .float .f64 x] 28)) #[.int .i64 k, .int .i64 n, .int .i64 s, .int .i64 r, .int .i64 e, .int .i64 p, .int .i64 q, .int .i64 o, .int .i64 d, .int .i64 a, .int .i64 t, .int .i64 hh, .int .i64 c] 13 (by simp) (by decide) rfl
  have H1 := Lib.hid h1
  clear h1
  go_enter Tryz.func34, Tryz.ntmps34
  go_wp2
  go_ret
  exact ⟨_, rfl, by simpa [FX.nums] using H1.out, K.out⟩
end Go.Proofs.YtahdoniggipmmaaGreatDoor

