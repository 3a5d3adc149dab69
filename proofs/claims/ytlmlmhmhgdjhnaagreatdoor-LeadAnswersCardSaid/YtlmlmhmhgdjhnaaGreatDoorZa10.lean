/- Parts of this proof (own work). -/
import Derived.Test.YtlmlmhmhgdjhnaaGreatDoorZa05
import Derived.Laws.Bits64b
import Derived.Lib.SliceRun
import Derived.Deep.RegionWith
set_option maxRecDepth 100000
set_option maxHeartbeats 40000000
namespace Go.Proofs.YtlmlmhmhgdjhnaaGreatDoor
open Go.RowKit Go.ChangeShapes Go.WideShapes
theorem within_any (n lo hi : Int) (w : World) : Calls Tryz.prog 141 #[.int .i64 n, .int .i64 lo, .int .i64 hi] w fun e w' => e = .returned (.bool (decide (lo ≤ n ∧ n ≤ hi))) ∧ w = w' := by
 by_cases h : lo ≤ n
 ·have h1 : decide (lo ≤ n) = true := dT h; have e : decide (lo ≤ n ∧ n ≤ hi) = decide (n ≤ hi) := by simp [h]
  rw [e]; clear h e; go_enter Tryz.func141, Tryz.ntmps141; go_wp2; go_ret; exact ⟨rfl, rfl⟩
 ·have h1 : decide (lo ≤ n) = false := dF h; have e : decide (lo ≤ n ∧ n ≤ hi) = false := by simp [h]
  rw [e]; clear h e; go_enter Tryz.func141, Tryz.ntmps141; go_wp2; go_ret; exact ⟨rfl, rfl⟩
def howX (t h : Int) : Bool := if t = 14 then decide (h = 1 ∨ 4 ≤ h ∧ h ≤ 8) else decide (h = 0)
theorem seat_how (t h : Int) : seatX t h = (decide (1 ≤ t ∧ t ≤ 14) && howX t h) := by
 unfold seatX howX
 split
 ·rename_i q
  subst q; rw [dT (show (1 : Int) ≤ 14 ∧ (14 : Int) ≤ 14 by omega), Bool.true_and]
 ·rename_i q
  rw [Bool.eq_iff_iff]
  simp
  omega
theorem rightHow_any (t h : Int) (w : World) : Calls Tryz.prog 205 #[.int .i64 t, .int .i64 h] w fun e w' => e = .returned (.bool (howX t h)) ∧ w = w' := by
 unfold howX
 by_cases q : t = 14
 ·subst q; rw [if_pos rfl]
  by_cases g : h = 1
  ·subst g; rw [dT (.inl rfl)]; go_enter Tryz.func205, Tryz.ntmps205; go_wp2; go_ret; exact ⟨rfl, rfl⟩
  ·have g1 : (h == 1) = false := by simpa using g
   have e : decide (h = 1 ∨ 4 ≤ h ∧ h ≤ 8) = decide (4 ≤ h ∧ h ≤ 8) := by simp [g]
   rw [e]; clear g e; go_enter Tryz.func205, Tryz.ntmps205; go_wp2_with (go_at_call 141; (with_reducible refine (within_any _ _ _ _).mono ?_); rintro e w' ⟨rfl, rfl⟩)
   go_ret; exact ⟨by simp, rfl⟩
 ·rw [if_neg q]; have q1 : (t != 14) = true := by simpa using q
  have e : decide (h = 0) = (h == 0) := by rw [Bool.eq_iff_iff]; simp
  rw [e]; clear q e; go_enter Tryz.func205, Tryz.ntmps205; go_wp2; go_ret; exact ⟨rfl, rfl⟩
def plF (b : Nat) : Array Value := #[.pointer none, .pointer (some ⟨b, 0, none⟩), .pointer (some ⟨b, 1, none⟩), .pointer (some ⟨b, 2, none⟩), .pointer (some ⟨b, 3, none⟩), .pointer (some ⟨b, 4, none⟩), .pointer (some ⟨b, 5, none⟩), .pointer (some ⟨b, 6, none⟩), .pointer (some ⟨b, 7, none⟩), .pointer (some ⟨b, 8, none⟩), .pointer (some ⟨b, 9, none⟩), .pointer (some ⟨b, 10, none⟩), .pointer (some ⟨b, 11, none⟩), .pointer (some ⟨b, 12, none⟩)]
theorem placesF_any (b : Nat) (w : World) : Calls Tryz.prog 204 #[.pointer (some ⟨b, 0, none⟩)] w fun e w' => e = .returned (.agg (plF b)) ∧ Kp w w' := by
 have hr := (mH w (.cells #[.pointer none, .pointer none, .pointer none, .pointer none, .pointer none, .pointer none, .pointer none, .pointer none, .pointer none, .pointer none, .pointer none, .pointer none, .pointer none, .pointer none] 262))
 have HR := hD hr; have K0 := hD (kA w (.cells #[.pointer none, .pointer none, .pointer none, .pointer none, .pointer none, .pointer none, .pointer none, .pointer none, .pointer none, .pointer none, .pointer none, .pointer none, .pointer none, .pointer none] 262)); clear hr; go_enter Tryz.func204, Tryz.ntmps204; go_wp2; refine wp_region_any (by kernel_rfl) ?_
 change wpAny _ _ _ _ _ _ _ (World.drew _)
 refine wpAny_take (i := 0) (v := ?_) rfl (by kernel_rfl) (by kernel_rfl) (by kernel_rfl) (fun _ _ _ h => h) (Or.inl ⟨by rfl, ?_⟩) ?_
 rotate_left
 ·intro w; go_simp; try with_reducible rfl
 go_simp; refine wpAny_take (i := 1) (v := ?_) rfl (by kernel_rfl) (by kernel_rfl) (by kernel_rfl) (fun _ _ _ h => h) (Or.inl ⟨by rfl, ?_⟩) ?_
 rotate_left
 ·intro w; go_simp; try with_reducible rfl
 go_simp; refine wpAny_take (i := 2) (v := ?_) rfl (by kernel_rfl) (by kernel_rfl) (by kernel_rfl) (fun _ _ _ h => h) (Or.inl ⟨by rfl, ?_⟩) ?_
 rotate_left
 ·intro w; go_simp; try with_reducible rfl
 go_simp; refine wpAny_take (i := 3) (v := ?_) rfl (by kernel_rfl) (by kernel_rfl) (by kernel_rfl) (fun _ _ _ h => h) (Or.inl ⟨by rfl, ?_⟩) ?_
 rotate_left
 ·intro w; go_simp; try with_reducible rfl
 go_simp; refine wpAny_take (i := 4) (v := ?_) rfl (by kernel_rfl) (by kernel_rfl) (by kernel_rfl) (fun _ _ _ h => h) (Or.inl ⟨by rfl, ?_⟩) ?_
 rotate_left
 ·intro w; go_simp; try with_reducible rfl
 go_simp; refine wpAny_take (i := 5) (v := ?_) rfl (by kernel_rfl) (by kernel_rfl) (by kernel_rfl) (fun _ _ _ h => h) (Or.inl ⟨by rfl, ?_⟩) ?_
 rotate_left
 ·intro w; go_simp; try with_reducible rfl
 go_simp; refine wpAny_take (i := 6) (v := ?_) rfl (by kernel_rfl) (by kernel_rfl) (by kernel_rfl) (fun _ _ _ h => h) (Or.inl ⟨by rfl, ?_⟩) ?_
 rotate_left
 ·intro w; go_simp; try with_reducible rfl
 go_simp; refine wpAny_take (i := 7) (v := ?_) rfl (by kernel_rfl) (by kernel_rfl) (by kernel_rfl) (fun _ _ _ h => h) (Or.inl ⟨by rfl, ?_⟩) ?_
 rotate_left
 ·intro w; go_simp; try with_reducible rfl
 go_simp; refine wpAny_take (i := 8) (v := ?_) rfl (by kernel_rfl) (by kernel_rfl) (by kernel_rfl) (fun _ _ _ h => h) (Or.inl ⟨by rfl, ?_⟩) ?_
 rotate_left
 ·intro w; go_simp; try with_reducible rfl
 go_simp; refine wpAny_take (i := 9) (v := ?_) rfl (by kernel_rfl) (by kernel_rfl) (by kernel_rfl) (fun _ _ _ h => h) (Or.inl ⟨by rfl, ?_⟩) ?_
 rotate_left
 ·intro w; go_simp; try with_reducible rfl
 go_simp; refine wpAny_take (i := 10) (v := ?_) rfl (by kernel_rfl) (by kernel_rfl) (by kernel_rfl) (fun _ _ _ h => h) (Or.inl ⟨by rfl, ?_⟩) ?_
 rotate_left
 ·intro w; go_simp; try with_reducible rfl
 go_simp; refine wpAny_take (i := 11) (v := ?_) rfl (by kernel_rfl) (by kernel_rfl) (by kernel_rfl) (fun _ _ _ h => h) (Or.inl ⟨by rfl, ?_⟩) ?_
 rotate_left
 ·intro w; go_simp; try with_reducible rfl
 go_simp; refine wpAny_take (i := 12) (v := ?_) rfl (by kernel_rfl) (by kernel_rfl) (by kernel_rfl) (fun _ _ _ h => h) (Or.inl ⟨by rfl, ?_⟩) ?_
 rotate_left
 ·intro w; go_simp; try with_reducible rfl
 go_simp; refine wpAny_take (i := 13) (v := ?_) rfl (by kernel_rfl) (by kernel_rfl) (by kernel_rfl) (fun _ _ _ h => h) (Or.inl ⟨by rfl, ?_⟩) ?_
 rotate_left
 ·intro w; go_simp; try with_reducible rfl
 go_simp; refine wpAny_take (i := 14) (v := ?_) rfl (by kernel_rfl) (by kernel_rfl) (by kernel_rfl) (fun _ _ _ h => h) (Or.inl ⟨by rfl, ?_⟩) ?_
 rotate_left
 ·intro w; go_simp; try with_reducible rfl
 go_simp; refine wpAny_take (i := 15) (v := ?_) rfl (by kernel_rfl) (by kernel_rfl) (by kernel_rfl) (fun _ _ _ h => h) (Or.inl ⟨by rfl, ?_⟩) ?_
 rotate_left
 ·intro w; go_simp; try with_reducible rfl
 go_simp; refine wpAny_take (i := 16) (v := ?_) rfl (by kernel_rfl) (by kernel_rfl) (by kernel_rfl) (fun _ _ _ h => h) (Or.inl ⟨by rfl, ?_⟩) ?_
 rotate_left
 ·intro w; go_simp; try with_reducible rfl
 go_simp; refine wpAny_take (i := 17) (v := ?_) rfl (by kernel_rfl) (by kernel_rfl) (by kernel_rfl) (fun _ _ _ h => h) (Or.inl ⟨by rfl, ?_⟩) ?_
 rotate_left
 ·intro w; go_simp; try with_reducible rfl
 go_simp; refine wpAny_take (i := 18) (v := ?_) rfl (by kernel_rfl) (by kernel_rfl) (by kernel_rfl) (fun _ _ _ h => h) (Or.inl ⟨by rfl, ?_⟩) ?_
 rotate_left
 ·intro w; go_simp; try with_reducible rfl
 go_simp; refine wpAny_take (i := 19) (v := ?_) rfl (by kernel_rfl) (by kernel_rfl) (by kernel_rfl) (fun _ _ _ h => h) (Or.inl ⟨by rfl, ?_⟩) ?_
 rotate_left
 ·intro w; go_simp; try with_reducible rfl
 go_simp; refine wpAny_take (i := 20) (v := ?_) rfl (by kernel_rfl) (by kernel_rfl) (by kernel_rfl) (fun _ _ _ h => h) (Or.inl ⟨by rfl, ?_⟩) ?_
 rotate_left
 ·intro w; go_simp; try with_reducible rfl
 go_simp; refine wpAny_take (i := 21) (v := ?_) rfl (by kernel_rfl) (by kernel_rfl) (by kernel_rfl) (fun _ _ _ h => h) (Or.inl ⟨by rfl, ?_⟩) ?_
 rotate_left
 ·intro w; go_simp; try with_reducible rfl
 go_simp; refine wpAny_take (i := 22) (v := ?_) rfl (by kernel_rfl) (by kernel_rfl) (by kernel_rfl) (fun _ _ _ h => h) (Or.inl ⟨by rfl, ?_⟩) ?_
 rotate_left
 ·intro w; go_simp; try with_reducible rfl
 go_simp; refine wpAny_take (i := 23) (v := ?_) rfl (by kernel_rfl) (by kernel_rfl) (by kernel_rfl) (fun _ _ _ h => h) (Or.inl ⟨by rfl, ?_⟩) ?_
 rotate_left
 ·intro w; go_simp; try with_reducible rfl
 go_simp; refine wpAny_take (i := 24) (v := ?_) rfl (by kernel_rfl) (by kernel_rfl) (by kernel_rfl) (fun _ _ _ h => h) (Or.inl ⟨by rfl, ?_⟩) ?_
 rotate_left
 ·intro w; go_simp; try with_reducible rfl
 go_simp; refine wpAny_take (i := 25) (v := ?_) rfl (by kernel_rfl) (by kernel_rfl) (by kernel_rfl) (fun _ _ _ h => h) (Or.inl ⟨by rfl, ?_⟩) ?_
 rotate_left
 ·intro w; go_simp; try with_reducible rfl
 go_simp; refine wpAny_take (i := 26) (v := ?_) rfl (by kernel_rfl) (by kernel_rfl) (by kernel_rfl) (fun _ _ _ h => h) (Or.inl ⟨by rfl, ?_⟩) ?_
 rotate_left
 ·intro w; go_simp; try with_reducible rfl
 go_simp; refine wpAny_take (i := 27) (v := ?_) rfl (by kernel_rfl) (by kernel_rfl) (by kernel_rfl) (fun _ _ _ h => h) (Or.inl ⟨by rfl, ?_⟩) ?_
 rotate_left
 ·intro w; go_simp; try with_reducible rfl
 go_simp; refine wpAny_take (i := 28) (v := ?_) rfl (by kernel_rfl) (by kernel_rfl) (by kernel_rfl) (fun _ _ _ h => h) (Or.inl ⟨by rfl, ?_⟩) ?_
 rotate_left
 ·intro w; go_simp; try with_reducible rfl
 go_simp; refine wpAny_take (i := 29) (v := ?_) rfl (by kernel_rfl) (by kernel_rfl) (by kernel_rfl) (fun _ _ _ h => h) (Or.inl ⟨by rfl, ?_⟩) ?_
 rotate_left
 ·intro w; go_simp; try with_reducible rfl
 go_simp; refine wpAny_take (i := 30) (v := ?_) rfl (by kernel_rfl) (by kernel_rfl) (by kernel_rfl) (fun _ _ _ h => h) (Or.inl ⟨by rfl, ?_⟩) ?_
 rotate_left
 ·intro w; go_simp; try with_reducible rfl
 go_simp; refine wpAny_take (i := 31) (v := ?_) rfl (by kernel_rfl) (by kernel_rfl) (by kernel_rfl) (fun _ _ _ h => h) (Or.inl ⟨by rfl, ?_⟩) ?_
 rotate_left
 ·intro w; go_simp; try with_reducible rfl
 go_simp; refine wpAny_take (i := 32) (v := ?_) rfl (by kernel_rfl) (by kernel_rfl) (by kernel_rfl) (fun _ _ _ h => h) (Or.inl ⟨by rfl, ?_⟩) ?_
 rotate_left
 ·intro w; go_simp; try with_reducible rfl
 go_simp; refine wpAny_take (i := 33) (v := ?_) rfl (by kernel_rfl) (by kernel_rfl) (by kernel_rfl) (fun _ _ _ h => h) (Or.inl ⟨by rfl, ?_⟩) ?_
 rotate_left
 ·intro w; go_simp; try with_reducible rfl
 go_simp; refine wpAny_take (i := 34) (v := ?_) rfl (by kernel_rfl) (by kernel_rfl) (by kernel_rfl) (fun _ _ _ h => h) (Or.inl ⟨by rfl, ?_⟩) ?_
 rotate_left
 ·intro w; go_simp; try with_reducible rfl
 go_simp; refine wpAny_take (i := 35) (v := ?_) rfl (by kernel_rfl) (by kernel_rfl) (by kernel_rfl) (fun _ _ _ h => h) (Or.inl ⟨by rfl, ?_⟩) ?_
 rotate_left
 ·intro w; go_simp; try with_reducible rfl
 go_simp; refine wpAny_take (i := 36) (v := ?_) rfl (by kernel_rfl) (by kernel_rfl) (by kernel_rfl) (fun _ _ _ h => h) (Or.inl ⟨by rfl, ?_⟩) ?_
 rotate_left
 ·intro w; go_simp; try with_reducible rfl
 go_simp; refine wpAny_take (i := 37) (v := ?_) rfl (by kernel_rfl) (by kernel_rfl) (by kernel_rfl) (fun _ _ _ h => h) (Or.inl ⟨by rfl, ?_⟩) ?_
 rotate_left
 ·intro w; go_simp; try with_reducible rfl
 go_simp; refine wpAny_take (i := 38) (v := ?_) rfl (by kernel_rfl) (by kernel_rfl) (by kernel_rfl) (fun _ _ _ h => h) (Or.inl ⟨by rfl, ?_⟩) ?_
 rotate_left
 ·intro w; go_simp; try with_reducible rfl
 go_simp; refine wpAny_take (i := 39) (v := ?_) rfl (by kernel_rfl) (by kernel_rfl) (by kernel_rfl) (fun _ _ _ h => h) (Or.inl ⟨by rfl, ?_⟩) ?_
 rotate_left
 ·intro w; go_simp; try with_reducible rfl
 go_simp; refine wpAny_take (i := 40) (v := ?_) rfl (by kernel_rfl) (by kernel_rfl) (by kernel_rfl) (fun _ _ _ h => h) (Or.inl ⟨by rfl, ?_⟩) ?_
 rotate_left
 ·intro w; go_simp; try with_reducible rfl
 go_simp; refine wpAny_take (i := 41) (v := ?_) rfl (by kernel_rfl) (by kernel_rfl) (by kernel_rfl) (fun _ _ _ h => h) (Or.inl ⟨by rfl, ?_⟩) ?_
 rotate_left
 ·intro w; go_simp; try with_reducible rfl
 go_simp; refine wpAny_ready (rs := [42]) (by kernel_rfl) (by simp) ?_
 refine AllReady.cons rfl (fun K hK => ?_) AllReady.nil
 go_simp; refine hK _ _ ?_
 clear hK K; refine wpAny_done (by kernel_rfl) ?_ _
 go_wp2; refine bodyPost_ret (results_cell_row (p := 2) rfl _ _ w.heap.size 262 (plF b) (0, 0) _ rfl (mH w (.cells (plF b) 262)) Tryz.underlying262 rfl (by kernel_rfl)) rfl ?_
 exact ⟨rfl, (kA w (.cells (plF b) 262)).drew⟩
theorem plF_at (B : Nat) (j : Nat) (hj : j < 13) (jj : Int) (hjj : (j : Int) + 1 = jj) (w : World) : (Instr.index 262 (.agg (plF B)) (.int .i64 jj)).run Tryz.prog w = .ok (.pointer (some ⟨B, j, none⟩)) w := by
 subst hjj; have hc : (plF B)[j + 1]? = some (.pointer (some ⟨B, j, none⟩)) := by
  unfold plF
  match j, hj with
  | 0, _ | 1, _ | 2, _ | 3, _ | 4, _ | 5, _ | 6, _ | 7, _ | 8, _ | 9, _ | 10, _ | 11, _ | 12, _ => rfl
 have h1 : ((j : Int) + 1).toNat = j + 1 := by omega
 have h2 : 0 ≤ (j : Int) + 1 ∧ (j : Int) + 1 < 14 := by omega
 simp [Instr.index, run_underlying Tryz.underlying262, asIntOf, go_sem, hc, h1, h2]
abbrev boxI (x : Int) : Obj := .cells #[x] 3 (0, 0)
def mayQ (k : Nat) (last tag : Int) (n : Nat) : Prop := k < 16 ∧ last < tag ∧ tag ≤ 255 ∧ n ≤ 200
instance (k : Nat) (last tag : Int) (n : Nat) : Decidable (mayQ k last tag n) := by unfold mayQ; infer_instance
structure Xb (p : Nat) (w w' : World) : Prop where
 os : w'.os = w.os
 tape : w'.tape = w.tape
 output : w'.output = w.output
 size : w.heap.size ≤ w'.heap.size
 block : ∀ k, k < w.heap.size → k ≠ p → w'.heap[k]? = w.heap[k]?
theorem Xb.of_kp {p : Nat} {w w' : World} (h : Kp w w') : Xb p w w' := ⟨h.os, h.tape, h.output, h.size, fun k hk _ => h.block k hk⟩
theorem Xb.trans {p : Nat} {a b c : World} (h : Xb p a b) (k : Xb p b c) : Xb p a c :=
 ⟨k.os.trans h.os, k.tape.trans h.tape, k.output.trans h.output, Nat.le_trans h.size k.size, fun i hi h1 => (k.block i (Nat.lt_of_lt_of_le hi h.size) h1).trans (h.block i hi h1)⟩
theorem Xb.kp {p : Nat} {a b c : World} (h : Xb p a b) (k : Kp b c) : Xb p a c := h.trans (Xb.of_kp k)
theorem Xb.set {p : Nat} {w w' : World} (h : Xb p w w') (i : Nat) (v : Value) : Xb p w (w'.setCell ⟨p, i, none⟩ v) :=
 ⟨h.os, h.tape, h.output, by simp; exact h.size, fun k hk h1 => by rw [bS _ _ _ _ h1]; exact h.block k hk h1⟩
theorem Xb.below {p : Nat} {w0 w w' : World} (h : Xb p w w') (hp : w0.heap.size ≤ p) (hk : Kp w0 w) : Kp w0 w' :=
 Below.trans hk ⟨h.os, h.tape, h.output, h.size, fun k q => h.block k (Nat.lt_of_lt_of_le q hk.size) (by omega)⟩
theorem Xb.row {p b : Nat} {w w' : World} {o : Obj} (h : Xb p w w') (hb : b ≠ p) (hr : w.heap[b]? = some o) : w'.heap[b]? = some o := by
 rw [h.block b (oZ hr) hb]; exact hr
theorem Xb.cell {p : Nat} {w w' : World} {q : Addr} {v : Value} (h : Xb p w w') (hp : q.block ≠ p) (hc : w.cell? q = some v) : w'.cell? q = some v := by
 rw [← hc]; exact World.cell?_of_block (h.block _ (old_of_cell hc) hp)
def RuV (B : Nat) (w : World) (v : Value) : RuM → Prop
 | .rg tag lo hi => ∃ p q r : Nat, v = .func (.func 203) #[] #[.pointer (some ⟨p, 0, none⟩), .pointer (some ⟨q, 0, none⟩), .pointer (some ⟨r, 0, none⟩)] ∧ (p ≠ B ∧ q ≠ B ∧ r ≠ B) ∧ (1 ≤ tag ∧ tag ≤ 13) ∧ w.heap[p]? = some (boxI tag) ∧ w.heap[q]? = some (boxI lo) ∧ w.heap[r]? = some (boxI hi)
 | .act => v = .func (.func 178) #[] #[]
 | .ctx => v = .func (.func 177) #[] #[]
 | .seat => v = .func (.func 179) #[] #[]
theorem RuV.xb {B : Nat} {w w' : World} {v : Value} {r : RuM} (h : RuV B w v r) (hk : Xb B w w') : RuV B w' v r := by
 cases r with
 | rg tag lo hi =>
  obtain ⟨p, q, r, e, hn, ht, h1, h2, h3⟩ := h; exact ⟨p, q, r, e, hn, ht, hk.row hn.1 h1, hk.row hn.2.1 h2, hk.row hn.2.2 h3⟩
 | act => exact h
 | ctx => exact h
 | seat => exact h
theorem rA (tag : Nat) (tg lo hi : Int) (htg : (tag : Int) = tg) (ht : 1 ≤ tag ∧ tag ≤ 13) (B : Nat) (w : World) (hB : B < w.heap.size) :
  Calls Tryz.prog 176 #[.int .i64 tg, .int .i64 lo, .int .i64 hi] w fun e w' => ∃ v, e = .returned v ∧ RuV B w' v (.rg tag lo hi) ∧ Kp w w' := by
 have hmf : ∀ (fn : Fn) (first cap : Array Value) (w : World), (Instr.makeFunc fn first cap).run Tryz.prog w = .ok (.func fn first cap) w := fun _ _ _ _ => rfl
 have b0 := (mH w (boxI tg))
 have b1 := (mH (w.alloc (boxI tg)) (boxI lo))
 have b2 := (mH ((w.alloc (boxI tg)).alloc (boxI lo)) (boxI hi))
 have k1 := kA (w.alloc (boxI tg)) (boxI lo); have k2 := kA ((w.alloc (boxI tg)).alloc (boxI lo)) (boxI hi); have H0 := hD (rZ (kT k1 k2) b0); have H1 := hD (rZ k2 b1); have H2 := hD b2; have K := hD (kT (kA w (boxI tg)) (kT k1 k2)); clear b0 b1 b2 k1 k2; go_enter Tryz.func176, Tryz.ntmps176; go_wp2; go_ret; subst htg; have e1 : (w.alloc (boxI (tag : Int))).heap.size = w.heap.size + 1 := by simp
 have e2 : ((w.alloc (boxI (tag : Int))).alloc (boxI lo)).heap.size = w.heap.size + 1 + 1 := by simp
 have h1 := H1.out; have h2 := H2.out; rw [e1] at h1; rw [e2] at h2; exact ⟨_, rfl, ⟨_, _, _, rfl, ⟨by omega, by omega, by omega⟩, ht, H0.out, h1, h2⟩, K.out⟩
theorem rg_call (tag : Nat) (tg lo hi : Int) (htg : (tag : Int) = tg) (ht : 1 ≤ tag ∧ tag ≤ 13) (B p q r : Nat) (l : List Int) (x : Nat) (hl : l.length = 13) (w : World) (hB : w.heap[B]? = some (.cells (numsF l x) 87 (0, 0))) (hn : p ≠ B ∧ q ≠ B ∧ r ≠ B) (hp : w.heap[p]? = some (boxI tg)) (hq : w.heap[q]? = some (boxI lo)) (hr : w.heap[r]? = some (boxI hi)) :
  Calls Tryz.prog 203 #[.pointer (some ⟨B, 0, none⟩), .pointer (some ⟨p, 0, none⟩), .pointer (some ⟨q, 0, none⟩), .pointer (some ⟨r, 0, none⟩)] w fun e w' => e = .returned (.bool (RuM.ok (.rg tag lo hi) l x)) ∧ w'.heap[B]? = some (.cells (numsF (RuM.tkL (.rg tag lo hi) l) x) 87 (0, 0)) ∧ Xb B w w' := by
 have cp := cell_of_one hp; have hj : tag - 1 < 13 := by omega
 have hjt : ((tag - 1 : Nat) : Int) + 1 = tg := by omega
 have hwp : IntKind.i64.wrap tg = tg := IntWalk.i64_in tg (by omega); obtain ⟨HQ, HR, HB⟩ := hD3 hq hr hB; clear hp hB hq hr; go_enter Tryz.func203, Tryz.ntmps203; go_wp2; refine rgW (fun w' => Kp w w') ?_ fun hH => ?_
 ·exact (Kp.refl w).drew
 refine tkP 0 ?_
 go_simp; refine tkP 2 ?_ (y := by intro w hZ; have q := kZ hZ cp; go_simp; try rfl)
 go_simp; refine rdW 1 fun K hK => ?_
 go_simp; go_wp2_with (go_at_call 204; (with_reducible refine (placesF_any B _).mono ?_); rintro e w4 ⟨rfl, hk4⟩; have K4 := hD (kT hH hk4); clear hk4)
 refine hK.out _ _ (K4.out) fun hH => ?_
 clear hK K; refine tkP 3 ?_ (y := by intro w hZ; have q := plF_at B (tag - 1) hj tg hjt w; go_simp; try rfl)
 go_simp; refine tkP 4 ?_
 go_simp; refine dnW ?_ _
 have hL := rZ hH HB.out; have hjl : tag - 1 < l.length := by omega
 have ct := numsF_cell hL (tag - 1) hjl; have zt := froz14 hL (tag - 1); have hgd : l.getD (tag - 1) 0 = l[tag - 1] := by simp [List.getD, hjl]
 obtain ⟨y, hy⟩ : ∃ y, l[tag - 1] = y := ⟨_, rfl⟩
 have LQ := hD (rZ hH HQ.out); have LR := hD (rZ hH HR.out); have cq : (w4.setCell ⟨B, tag - 1, none⟩ (.int .i64 0)).cell? ⟨q, 0, none⟩ = some (.int .i64 lo) := cell_of_one (by rw [bS _ _ _ _ hn.2.1]; exact LQ.out); have cr : (w4.setCell ⟨B, tag - 1, none⟩ (.int .i64 0)).cell? ⟨r, 0, none⟩ = some (.int .i64 hi) := cell_of_one (by rw [bS _ _ _ _ hn.2.2]; exact LR.out); have HS := hD (numsF_set hL (tag - 1) hjl 0); have HXB := hD ((Xb.of_kp (p := B) K4.out).set (tag - 1) (.int .i64 0)); have HOK : Hid (RuM.ok (.rg tag lo hi) l x = decide (lo ≤ y ∧ y ≤ hi)) := hD (by show decide (lo ≤ l.getD (tag - 1) 0 ∧ l.getD (tag - 1) 0 ≤ hi) = _; rw [hgd, hy]); rw [hy] at ct; clear hgd hy hL hjl hl hjt htg ht hn cp; go_wp2_with (go_at_call 141; (with_reducible refine (within_any _ _ _ _).mono ?_); rintro e w' ⟨rfl, rfl⟩)
 go_ret; exact ⟨by rw [HOK.out]; simp, HS.out, HXB.out⟩
theorem act_call (ads : List Addr) (w0 : World) (V : St ads w0) (T : Tab w0) (B : Nat) (hB0 : w0.heap.size ≤ B) (k n s r u p q o d a t hh c : Int) (x : Nat) (w : World) (K : Kp w0 w) (hB : w.heap[B]? = some (.cells #[k, n, s, r, u, p, q, o, d, a, t, hh, c, x] 87 (0, 0))) :
  Calls Tryz.prog 178 #[.pointer (some ⟨B, 0, none⟩)] w fun e w' => e = .returned (.bool (rightA n s)) ∧ w'.heap[B]? = some (.cells #[k, (0:Int), (0:Int), r, u, p, q, o, d, a, t, hh, c, x] 87 (0, 0)) ∧ Xb B w w' := by
 have hne : w.heap.size ≠ B := fun q => by have := oZ hB; omega
 obtain ⟨W0, hW0⟩ : ∃ y, w.alloc (.cells #[n, s] 25) = y := ⟨_, rfl⟩
 have kb : Kp w W0 := by rw [← hW0]; exact kA w (.cells #[n, s] 25)
 have hr : W0.heap[w.heap.size]? = some (.cells #[n, s] 25) := by rw [← hW0]; exact (mH w (.cells #[n, s] 25))
 have g0 := rZ kb hB; have g1 : (W0.setCell ⟨B, 1, none⟩ (.int .i64 0)).heap[B]? = some (.cells #[k, (0:Int), s, r, u, p, q, o, d, a, t, hh, c, x] 87 (0, 0)) := (Joins.block_setCell g0 _).trans rfl; have g2 : ((W0.setCell ⟨B, 1, none⟩ (.int .i64 0)).setCell ⟨B, 2, none⟩ (.int .i64 0)).heap[B]? = some (.cells #[k, (0:Int), (0:Int), r, u, p, q, o, d, a, t, hh, c, x] 87 (0, 0)) := (Joins.block_setCell g1 _).trans rfl; have xb : Xb B w ((W0.setCell ⟨B, 1, none⟩ (.int .i64 0)).setCell ⟨B, 2, none⟩ (.int .i64 0)) := Xb.set (Xb.set (Xb.of_kp kb) 1 (.int .i64 0)) 2 (.int .i64 0); have kw := xb.below hB0 K; have HA := hD (right_any ads ((W0.setCell ⟨B, 1, none⟩ (.int .i64 0)).setCell ⟨B, 2, none⟩ (.int .i64 0)) (V.below kw) (T.kp kw) n s); have hr2 : ((W0.setCell ⟨B, 1, none⟩ (.int .i64 0)).setCell ⟨B, 2, none⟩ (.int .i64 0)).heap[w.heap.size]? = some (.cells #[n, s] 25) := by rw [bS _ _ _ _ hne, bS _ _ _ _ hne]; exact hr
 obtain ⟨e0, e1⟩ := two_cells hr2; obtain ⟨b0, b1, b2, b3, b4, b5, b6, b7, b8, b9, b10, b11, b12, b13⟩ := cZ hB; obtain ⟨c0, c1, c2, c3, c4, c5, c6, c7, c8, c9, c10, c11, c12, c13⟩ := cZ g0; have z0 := froz14 g0; have c2' : (W0.setCell ⟨B, 1, none⟩ (.int .i64 0)).cell? ⟨B, 2, none⟩ = some (.int .i64 s) := (cZ g1).2.2.1; have z1 := froz14 g1; obtain ⟨G, XB⟩ := hD2 g2 xb; clear V T K hB hr g0 g1 g2 xb kw hr2 kb; go_enter Tryz.func178, Tryz.ntmps178; go_wp2_with (go_at_call 78; (with_reducible refine HA.out.mono ?_); rintro e w5 ⟨rfl, hk5⟩; have HK5 := hD hk5; clear hk5)
 go_ret; exact ⟨rfl, rZ HK5.out G.out, XB.out.kp HK5.out⟩
theorem ctx_call (ads : List Addr) (w0 : World) (V : St ads w0) (T : Tab w0) (B : Nat) (hB0 : w0.heap.size ≤ B) (k n s r u p q o d a t hh c : Int) (x : Nat) (w : World) (K : Kp w0 w) (hB : w.heap[B]? = some (.cells #[k, n, s, r, u, p, q, o, d, a, t, hh, c, x] 87 (0, 0))) (hx : x < 18446744073709551616) :
  Calls Tryz.prog 177 #[.pointer (some ⟨B, 0, none⟩)] w fun e w' => e = .returned (.bool (rightX ⟨n, s, o, d, x⟩)) ∧ w'.heap[B]? = some (.cells #[k, (0:Int), (0:Int), r, u, p, q, (0:Int), (0:Int), a, t, hh, c, .float .f64 0] 87 (0, 0)) ∧ Xb B w w' := by
 have hne : w.heap.size ≠ B := fun q => by have := oZ hB; omega
 have hsf := sF; obtain ⟨W0, hW0⟩ : ∃ y, (w.alloc (.cells #[n, s, o, d, x] 27)).drew = y := ⟨_, rfl⟩
 have kb : Kp w W0 := by rw [← hW0]; exact (kA w (.cells #[n, s, o, d, x] 27)).drew
 have hr : W0.heap[w.heap.size]? = some (.cells #[n, s, o, d, x] 27) := by rw [← hW0]; exact (mH w (.cells #[n, s, o, d, x] 27))
 have g0 := rZ kb hB; have g1 : (W0.setCell ⟨B, 1, none⟩ (.int .i64 0)).heap[B]? = some (.cells #[k, (0:Int), s, r, u, p, q, o, d, a, t, hh, c, x] 87 (0, 0)) := (Joins.block_setCell g0 _).trans rfl; have g2 : ((W0.setCell ⟨B, 1, none⟩ (.int .i64 0)).setCell ⟨B, 2, none⟩ (.int .i64 0)).heap[B]? = some (.cells #[k, (0:Int), (0:Int), r, u, p, q, o, d, a, t, hh, c, x] 87 (0, 0)) := (Joins.block_setCell g1 _).trans rfl; have g3 : (((W0.setCell ⟨B, 1, none⟩ (.int .i64 0)).setCell ⟨B, 2, none⟩ (.int .i64 0)).setCell ⟨B, 7, none⟩ (.int .i64 0)).heap[B]? = some (.cells #[k, (0:Int), (0:Int), r, u, p, q, (0:Int), d, a, t, hh, c, x] 87 (0, 0)) := (Joins.block_setCell g2 _).trans rfl; have g4 : ((((W0.setCell ⟨B, 1, none⟩ (.int .i64 0)).setCell ⟨B, 2, none⟩ (.int .i64 0)).setCell ⟨B, 7, none⟩ (.int .i64 0)).setCell ⟨B, 8, none⟩ (.int .i64 0)).heap[B]? = some (.cells #[k, (0:Int), (0:Int), r, u, p, q, (0:Int), (0:Int), a, t, hh, c, x] 87 (0, 0)) := (Joins.block_setCell g3 _).trans rfl
 have g5 : (((((W0.setCell ⟨B, 1, none⟩ (.int .i64 0)).setCell ⟨B, 2, none⟩ (.int .i64 0)).setCell ⟨B, 7, none⟩ (.int .i64 0)).setCell ⟨B, 8, none⟩ (.int .i64 0)).setCell ⟨B, 13, none⟩ (.float .f64 0)).heap[B]? = some (.cells #[k, (0:Int), (0:Int), r, u, p, q, (0:Int), (0:Int), a, t, hh, c, .float .f64 0] 87 (0, 0)) := (Joins.block_setCell g4 _).trans rfl; have xb : Xb B w (((((W0.setCell ⟨B, 1, none⟩ (.int .i64 0)).setCell ⟨B, 2, none⟩ (.int .i64 0)).setCell ⟨B, 7, none⟩ (.int .i64 0)).setCell ⟨B, 8, none⟩ (.int .i64 0)).setCell ⟨B, 13, none⟩ (.float .f64 0)) := Xb.set (Xb.set (Xb.set (Xb.set (Xb.set (Xb.of_kp kb) 1 (.int .i64 0)) 2 (.int .i64 0)) 7 (.int .i64 0)) 8 (.int .i64 0)) 13 (.float .f64 0); have kw := xb.below hB0 K; have HA := hD (scoRight_any ads ⟨n, s, o, d, x⟩ hx (((((W0.setCell ⟨B, 1, none⟩ (.int .i64 0)).setCell ⟨B, 2, none⟩ (.int .i64 0)).setCell ⟨B, 7, none⟩ (.int .i64 0)).setCell ⟨B, 8, none⟩ (.int .i64 0)).setCell ⟨B, 13, none⟩ (.float .f64 0)) (V.below kw) (T.kp kw))
 dsimp only [CX.cells] at HA; have hr2 : (((((W0.setCell ⟨B, 1, none⟩ (.int .i64 0)).setCell ⟨B, 2, none⟩ (.int .i64 0)).setCell ⟨B, 7, none⟩ (.int .i64 0)).setCell ⟨B, 8, none⟩ (.int .i64 0)).setCell ⟨B, 13, none⟩ (.float .f64 0)).heap[w.heap.size]? = some (.cells #[n, s, o, d, x] 27) := by rw [bS _ _ _ _ hne, bS _ _ _ _ hne, bS _ _ _ _ hne, bS _ _ _ _ hne, bS _ _ _ _ hne]; exact hr
 obtain ⟨e0, e1, e2, e3, e4⟩ := cells5 hr2; obtain ⟨b0, b1, b2, b3, b4, b5, b6, b7, b8, b9, b10, b11, b12, b13⟩ := cZ hB; obtain ⟨c0, c1, c2, c3, c4, c5, c6, c7, c8, c9, c10, c11, c12, c13⟩ := cZ g0; obtain ⟨m0, m1, m2, m3, m4, m5, m6, m7, m8, m9, m10, m11, m12, m13⟩ := cZ (rZ (kA w (.cells #[(0:Int), (0:Int), (0:Int), (0:Int), .float .f64 0] 27)) hB); have hz := (mH w (.cells #[(0:Int), (0:Int), (0:Int), (0:Int), .float .f64 0] 27))
 have z0 := froz14 g0; have y1 : (W0.setCell ⟨B, 1, none⟩ (.int .i64 0)).cell? ⟨B, 2, none⟩ = some (.int .i64 s) := (cZ g1).2.2.1; have z1 := froz14 g1; have y2 : ((W0.setCell ⟨B, 1, none⟩ (.int .i64 0)).setCell ⟨B, 2, none⟩ (.int .i64 0)).cell? ⟨B, 7, none⟩ = some (.int .i64 o) := (cZ g2).2.2.2.2.2.2.2.1; have z2 := froz14 g2; have y3 : (((W0.setCell ⟨B, 1, none⟩ (.int .i64 0)).setCell ⟨B, 2, none⟩ (.int .i64 0)).setCell ⟨B, 7, none⟩ (.int .i64 0)).cell? ⟨B, 8, none⟩ = some (.int .i64 d) := (cZ g3).2.2.2.2.2.2.2.2.1; have z3 := froz14 g3; have y4 : ((((W0.setCell ⟨B, 1, none⟩ (.int .i64 0)).setCell ⟨B, 2, none⟩ (.int .i64 0)).setCell ⟨B, 7, none⟩ (.int .i64 0)).setCell ⟨B, 8, none⟩ (.int .i64 0)).cell? ⟨B, 13, none⟩ = some (.float .f64 x) := (cZ g4).2.2.2.2.2.2.2.2.2.2.2.2.2; have z4 := froz14 g4; obtain ⟨G, XB⟩ := hD2 g5 xb; clear V T K hB hr g0 g1 g2 g3 g4 g5 xb kw hr2 kb hx; go_enter Tryz.func177, Tryz.ntmps177
 go_wp2; go_region
 try rw [hW0]
 clear hW0; go_wp2_with (go_at_call 50; (with_reducible refine HA.out.mono ?_); rintro e w5 ⟨rfl, hk5⟩; have HK5 := hD hk5; clear hk5)
 go_ret; exact ⟨rfl, rZ HK5.out G.out, XB.out.kp HK5.out⟩
theorem seat_t (B : Nat) (k n s r u p q o d a t hh c : Int) (x : Nat) (w : World) (hB : w.heap[B]? = some (.cells #[k, n, s, r, u, p, q, o, d, a, t, hh, c, x] 87 (0, 0))) (ht : 1 ≤ t ∧ t ≤ 14) :
  Calls Tryz.prog 179 #[.pointer (some ⟨B, 0, none⟩)] w fun e w' => e = .returned (.bool (seatX t hh)) ∧ w'.heap[B]? = some (.cells #[k, n, s, r, u, p, q, o, d, a, (0:Int), (0:Int), c, x] 87 (0, 0)) ∧ Xb B w w' := by
 rw [seat_how]; obtain ⟨W0, hW0⟩ : ∃ y, w.drew = y := ⟨_, rfl⟩
 have kb : Kp w W0 := by rw [← hW0]; exact (Kp.refl w).drew
 have g0 := rZ kb hB; have g1 : (W0.setCell ⟨B, 10, none⟩ (.int .i64 0)).heap[B]? = some (.cells #[k, n, s, r, u, p, q, o, d, a, (0:Int), hh, c, x] 87 (0, 0)) := (Joins.block_setCell g0 _).trans rfl; have g2 : ((W0.setCell ⟨B, 10, none⟩ (.int .i64 0)).setCell ⟨B, 11, none⟩ (.int .i64 0)).heap[B]? = some (.cells #[k, n, s, r, u, p, q, o, d, a, (0:Int), (0:Int), c, x] 87 (0, 0)) := (Joins.block_setCell g1 _).trans rfl; have xb : Xb B w ((W0.setCell ⟨B, 10, none⟩ (.int .i64 0)).setCell ⟨B, 11, none⟩ (.int .i64 0)) := Xb.set (Xb.set (Xb.of_kp kb) 10 (.int .i64 0)) 11 (.int .i64 0); obtain ⟨b0, b1, b2, b3, b4, b5, b6, b7, b8, b9, b10, b11, b12, b13⟩ := cZ hB; obtain ⟨c0, c1, c2, c3, c4, c5, c6, c7, c8, c9, c10, c11, c12, c13⟩ := cZ g0; have z0 := froz14 g0; have y1 : (W0.setCell ⟨B, 10, none⟩ (.int .i64 0)).cell? ⟨B, 11, none⟩ = some (.int .i64 hh) := (cZ g1).2.2.2.2.2.2.2.2.2.2.2.1; have z1 := froz14 g1
 obtain ⟨G, XB⟩ := hD2 g2 xb; have h1 : decide (1 ≤ t ∧ t ≤ 14) = true := dT ht; rw [h1, Bool.true_and]; clear ht; clear hB g0 g1 g2 xb kb; go_enter Tryz.func179, Tryz.ntmps179; go_wp2; go_region
 try rw [hW0]
 clear hW0; go_wp2_with (first | (go_at_call 141; (with_reducible refine (within_any _ _ _ _).mono ?_); rintro e w' ⟨rfl, rfl⟩) | (go_at_call 205; (with_reducible refine (rightHow_any _ _ _).mono ?_); rintro e w' ⟨rfl, rfl⟩))
 go_ret; exact ⟨rfl, G.out, XB.out⟩
theorem seat_f (B : Nat) (k n s r u p q o d a t hh c : Int) (x : Nat) (w : World) (hB : w.heap[B]? = some (.cells #[k, n, s, r, u, p, q, o, d, a, t, hh, c, x] 87 (0, 0))) (ht : ¬ (1 ≤ t ∧ t ≤ 14)) :
  Calls Tryz.prog 179 #[.pointer (some ⟨B, 0, none⟩)] w fun e w' => e = .returned (.bool (seatX t hh)) ∧ w'.heap[B]? = some (.cells #[k, n, s, r, u, p, q, o, d, a, (0:Int), (0:Int), c, x] 87 (0, 0)) ∧ Xb B w w' := by
 rw [seat_how]; obtain ⟨W0, hW0⟩ : ∃ y, w.drew = y := ⟨_, rfl⟩
 have kb : Kp w W0 := by rw [← hW0]; exact (Kp.refl w).drew
 have g0 := rZ kb hB; have g1 : (W0.setCell ⟨B, 10, none⟩ (.int .i64 0)).heap[B]? = some (.cells #[k, n, s, r, u, p, q, o, d, a, (0:Int), hh, c, x] 87 (0, 0)) := (Joins.block_setCell g0 _).trans rfl; have g2 : ((W0.setCell ⟨B, 10, none⟩ (.int .i64 0)).setCell ⟨B, 11, none⟩ (.int .i64 0)).heap[B]? = some (.cells #[k, n, s, r, u, p, q, o, d, a, (0:Int), (0:Int), c, x] 87 (0, 0)) := (Joins.block_setCell g1 _).trans rfl; have xb : Xb B w ((W0.setCell ⟨B, 10, none⟩ (.int .i64 0)).setCell ⟨B, 11, none⟩ (.int .i64 0)) := Xb.set (Xb.set (Xb.of_kp kb) 10 (.int .i64 0)) 11 (.int .i64 0); obtain ⟨b0, b1, b2, b3, b4, b5, b6, b7, b8, b9, b10, b11, b12, b13⟩ := cZ hB; obtain ⟨c0, c1, c2, c3, c4, c5, c6, c7, c8, c9, c10, c11, c12, c13⟩ := cZ g0; have z0 := froz14 g0; have y1 : (W0.setCell ⟨B, 10, none⟩ (.int .i64 0)).cell? ⟨B, 11, none⟩ = some (.int .i64 hh) := (cZ g1).2.2.2.2.2.2.2.2.2.2.2.1; have z1 := froz14 g1
 obtain ⟨G, XB⟩ := hD2 g2 xb; have h1 : decide (1 ≤ t ∧ t ≤ 14) = false := dF ht; rw [h1, Bool.false_and]; clear ht; clear hB g0 g1 g2 xb kb; go_enter Tryz.func179, Tryz.ntmps179; go_wp2; go_region
 try rw [hW0]
 clear hW0; go_wp2_with (first | (go_at_call 141; (with_reducible refine (within_any _ _ _ _).mono ?_); rintro e w' ⟨rfl, rfl⟩))
 go_ret; exact ⟨rfl, G.out, XB.out⟩
end Go.Proofs.YtlmlmhmhgdjhnaaGreatDoor
