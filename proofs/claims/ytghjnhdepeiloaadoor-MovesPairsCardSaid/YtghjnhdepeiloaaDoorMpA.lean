/-
  A PAIR's BLOCK (own work): place, room, flies, take, send, settle of package moves.
-/
import Derived.Test.YtghjnhdepeiloaaDoorFlyC
import Derived.Test.YtghjnhdepeiloaaDoorMvA
import Derived.Lib.SliceRun
import Derived.StillTailTactics
namespace Go.Proofs.YtghjnhdepeiloaaDoor
open Go.RowKit Go.ChangeShapes Go.WideShapes

theorem cells_9 {b : Nat} {t : TypeId} {w : World} {x0 x1 x2 x3 x4 x5 x6 x7 x8 : Value} (h : w.heap[b]? = some (.cells #[x0, x1, x2, x3, x4, x5, x6, x7, x8] t (0, 0))) : w.cell? ⟨b, 0, none⟩ = some x0 ∧ w.cell? ⟨b, 1, none⟩ = some x1 ∧ w.cell? ⟨b, 2, none⟩ = some x2 ∧ w.cell? ⟨b, 3, none⟩ = some x3 ∧ w.cell? ⟨b, 4, none⟩ = some x4 ∧ w.cell? ⟨b, 5, none⟩ = some x5 ∧ w.cell? ⟨b, 6, none⟩ = some x6 ∧ w.cell? ⟨b, 7, none⟩ = some x7 ∧ w.cell? ⟨b, 8, none⟩ = some x8 := by
  refine ⟨?_, ?_, ?_, ?_, ?_, ?_, ?_, ?_, ?_⟩ <;> (unfold World.cell?; dsimp only; rw [h]; rfl)
/-- the cells of a pair -/
def pairV (m : PairM) (v : Value) : Array Value := #[.int .i64 m.c.p, .int .i64 m.c.e, .int .i64 m.c.s, .int .i64 m.c.h, .int .i64 m.x.p, .int .i64 m.x.e, .int .i64 m.x.s, .int .i64 m.x.h, v]
/-- A PAIR's BLOCK: its seats, and what is on its way in a row of its own -/
structure Pr (w0 : World) (g : Nat) (m : PairM) (v : Value) (w : World) : Prop where
  row : w.heap[g]? = some (.cells (pairV m v) 89 (0, 0))
  base : w0.heap.size ≤ g
  own : w.ownsRow w0.heap.size 58 2 v m.f.length (flyB m.f)
def Ob (g : Nat) (v : Value) (b : Nat) : Prop := b = g ∨ v.ownBlock = some b
theorem Pr.form {w0 w : World} {g : Nat} {m : PairM} {v : Value} (h : Pr w0 g m v w) : ∃ a cp, v = .slice a m.f.length cp := by
  rcases h.own.2 with ⟨rfl, h0⟩ | ⟨g', cap, cur, rfl, _⟩
  · exact ⟨none, 0, by rw [h0]⟩
  · exact ⟨_, _, rfl⟩
theorem Pr.ne {w0 w : World} {g : Nat} {m : PairM} {v : Value} (h : Pr w0 g m v w) : v.ownBlock ≠ some g := by
  intro q
  rcases h.own.2 with ⟨rfl, _⟩ | ⟨g', cap, cur, rfl, _, hh, _⟩
  · cases q
  · injection q with q
    have q : g' = g := q
    subst q
    have := h.row
    rw [hh] at this
    injection this with this
    injection this with _ h2 _
    exact absurd h2 (by decide)
theorem Pr.mem {w0 w : World} {g : Nat} {m : PairM} {v : Value} (h : Pr w0 g m v w) : ∀ b, Ob g v b → w0.heap.size ≤ b ∧ b < w.heap.size := by
  rintro b (rfl | q)
  · exact ⟨h.base, old_of_row h.row⟩
  · exact h.own.lt b q
theorem Pr.stay {w0 w w' : World} {g : Nat} {m : PairM} {v : Value} (h : Pr w0 g m v w) (hb : ∀ b, Ob g v b → w'.heap[b]? = w.heap[b]?) : Pr w0 g m v w' := by
  refine ⟨by rw [hb g (.inl rfl)]; exact h.row, h.base, h.own.1, ?_⟩
  rcases h.own.2 with q | ⟨g', cap, cur, e, hg, hh, r⟩
  · exact Or.inl q
  · exact Or.inr ⟨g', cap, cur, e, hg, by rw [hb g' (.inr (by rw [e]; rfl))]; exact hh, r⟩
theorem Pr.kp {w0 w w' : World} {g : Nat} {m : PairM} {v : Value} (h : Pr w0 g m v w) (hk : Kp w w') : Pr w0 g m v w' := h.stay fun b hb => Below.block hk b (h.mem b hb).2
/-- a store into it -/
theorem asd_set {O : Nat → Prop} {g i : Nat} {w : World} (h : O g) (y : Value) : Asd O O w (w.setCell ⟨g, i, none⟩ y) where
  os := rfl
  tape := rfl
  output := rfl
  size := by simp
  block := fun b _ hn => Below.heap_setCell _ _ _ _ (fun e => hn (by rw [e]; exact h))
  own := fun b q => .inl q
theorem own_set {w : World} {base n g i : Nat} {e : TypeId} {v y : Value} {us : List Value} (h : w.ownsRow base e 2 v n us) (hne : v.ownBlock ≠ some g) : (w.setCell ⟨g, i, none⟩ y).ownsRow base e 2 v n us := by
  refine ⟨h.1, ?_⟩
  rcases h.2 with q | ⟨g', cap, cur, ee, hg, hh, r⟩
  · exact Or.inl q
  · refine Or.inr ⟨g', cap, cur, ee, hg, ?_, r⟩
    rw [Below.heap_setCell _ _ _ _ (fun q => hne (by have q : g' = g := q; rw [ee, q]; rfl))]
    exact hh
theorem own_baseF {w : World} {base base' n : Nat} {e : TypeId} {v : Value} {us : List Value} (h : w.ownsRow base e 2 v n us) (hb : base' ≤ base) : w.ownsRow base' e 2 v n us := by
  refine ⟨h.1, ?_⟩
  rcases h.2 with q | ⟨g', cap, cur, ee, hg, r⟩
  · exact Or.inl q
  · exact Or.inr ⟨g', cap, cur, ee, Nat.le_trans hb hg, r⟩
/-- THE FLIGHT REPLACED by a row that a call has just made -/
theorem Pr.fly {w0 w W w3 : World} {g : Nat} {m : PairM} {v v' : Value} {f : List (Int × Int)} (h : Pr w0 g m v w) (hW : Kp w W) (hk : Kp W w3) {L : Nat} (hL : f.length = L) (ho : w3.ownsRow W.heap.size 58 2 v' L (flyB f)) :
    Pr w0 g ⟨m.c, m.x, f⟩ v' (w3.setCell ⟨g, 8, none⟩ v') ∧ Asd (Ob g v) (Ob g v') w (w3.setCell ⟨g, 8, none⟩ v') := by
  subst hL
  have k3 := Kp.trans hW hk
  have hg : g < w.heap.size := old_of_row h.row
  have hne : v'.ownBlock ≠ some g := fun q => by have := (ho.lt g q).1; have := Below.size hW; omega
  have hb0 : w0.heap.size ≤ W.heap.size := Nat.le_trans h.base (Nat.le_trans (Nat.le_of_lt hg) (Below.size hW))
  refine ⟨⟨(Joins.block_setCell (kp_row k3 h.row) _).trans rfl, h.base, own_set (own_baseF ho hb0) hne⟩, ?_⟩
  refine ⟨k3.os, k3.tape, k3.output, by simpa using Below.size k3, fun b hb hn => ?_, fun b q => ?_⟩
  · rw [Below.heap_setCell _ _ _ _ (fun e => hn (.inl e))]
    exact Below.block k3 b hb
  · rcases q with rfl | q
    · exact .inl (.inl rfl)
    · exact .inr (Nat.le_trans (Below.size hW) (ho.lt b q).1)
theorem own_formF {w : World} {base n : Nat} {e : TypeId} {v : Value} {us : List Value} (h : w.ownsRow base e 2 v n us) : ∃ a cp, v = .slice a n cp := by
  rcases h.2 with ⟨rfl, h0⟩ | ⟨g', cap, cur, rfl, _⟩
  · exact ⟨none, 0, by rw [h0]⟩
  · exact ⟨_, _, rfl⟩
theorem fly_sz : ∀ w, (Go.sizeOf 58).run Tryd.prog w = .ok 2 w := by
  obtain ⟨i0, hi, -, hz1, -⟩ := info_flyT
  intro w
  simp [sizeOf, typeInfo, hi, hz1]
theorem fly_elem : Tryd.prog.elem 54 = 58 := by simp [Program.elem, Tryd.underlying54]
theorem fly_sl : Tryd.prog.underlying 54 = some (.slice (Tryd.prog.elem 54)) := by simp [Program.elem, Tryd.underlying54]
theorem fly_head {b n cp i : Nat} {ii : Int} (hii : (i : Int) = ii) (hi : i ≤ n) (hnc : n ≤ cp) (w : World) :
    (Instr.slice 54 (.slice (some ⟨b, 0, none⟩) n cp) none (some (.int .i64 ii)) none).run Tryd.prog w = .ok (.slice (some ⟨b, 0, none⟩) i cp) w := by
  rw [run_slice_h w 54 _ _ _ fly_sl .i64 _ (by omega) (by omega), fly_elem, fly_sz]
  have e : ii.toNat = i := by omega
  simp [Result.andThen, sliced, Addr.add, e]
theorem fly_tail {b n cp i : Nat} {ii : Int} (hii : (i : Int) = ii) (hi : i ≤ n) (w : World) :
    (Instr.slice 54 (.slice (some ⟨b, 0, none⟩) n cp) (some (.int .i64 ii)) none none).run Tryd.prog w = .ok (.slice (some ⟨b, if cp = i then 0 else i * 2, none⟩) (n - i) (cp - i)) w := by
  rw [run_slice_l w 54 _ _ _ fly_sl .i64 _ (by omega) (by omega), fly_elem, fly_sz]
  have e : ii.toNat = i := by omega
  simp [Result.andThen, sliced, Addr.add, e]
  split <;> simp <;> omega
def placeA (g : Nat) (e : Int) : Option Addr := if e = 1 then some ⟨g, 0, none⟩ else if e = 2 then some ⟨g, 4, none⟩ else none
set_option maxRecDepth 100000 in
theorem place_any (g : Nat) (e : Int) (w : World) : Calls Tryd.prog 48 #[.pointer (some ⟨g, 0, none⟩), .int .i64 e] w fun r w' => r = .returned (.pointer (placeA g e)) ∧ w = w' := by
  by_cases h1 : e = 1
  · subst h1; (go_enter Tryd.func48, Tryd.ntmps48; go_wp2; go_ret; exact ⟨rfl, rfl⟩)
  by_cases h2 : e = 2
  · subst h2; (go_enter Tryd.func48, Tryd.ntmps48; go_wp2; go_ret; exact ⟨rfl, rfl⟩)
  have b1 : (e == 1) = false := by simpa using h1
  have b2 : (e == 2) = false := by simpa using h2
  rw [show placeA g e = none by unfold placeA; rw [if_neg h1, if_neg h2]]
  clear h1 h2
  (go_enter Tryd.func48, Tryd.ntmps48; go_wp2; go_ret; exact ⟨rfl, rfl⟩)
theorem place_1 (g : Nat) (w : World) : Calls Tryd.prog 48 #[.pointer (some ⟨g, 0, none⟩), .int .i64 1] w fun r w' => r = .returned (.pointer (some ⟨g, 0, none⟩)) ∧ w = w' := place_any g 1 w
theorem place_2 (g : Nat) (w : World) : Calls Tryd.prog 48 #[.pointer (some ⟨g, 0, none⟩), .int .i64 2] w fun r w' => r = .returned (.pointer (some ⟨g, 4, none⟩)) ∧ w = w' := place_any g 2 w
set_option maxRecDepth 100000 in
theorem room_any {w0 w : World} {g : Nat} {m : PairM} {v : Value} (H : Pr w0 g m v w) : Calls Tryd.prog 51 #[.pointer (some ⟨g, 0, none⟩)] w fun r w' => r = .returned (.bool (decide (m.f.length < 64))) ∧ w = w' := by
  obtain ⟨a, cp, rfl⟩ := H.form
  obtain ⟨n, hn⟩ : ∃ n, m.f.length = n := ⟨_, rfl⟩
  have hr := H.row
  rw [hn] at hr
  unfold pairV at hr
  obtain ⟨-, -, -, -, -, -, -, -, e8⟩ := cells_9 hr
  rw [hn]
  have ee : decide (n < 64) = decide ((n : Int) < 64) := by rw [decide_eq_decide]; omega
  rw [ee]
  obtain ⟨nn, hnn⟩ : ∃ x : Int, (n : Int) = x := ⟨_, rfl⟩
  rw [hnn]
  clear H hn hr ee
  go_enter Tryd.func51, Tryd.ntmps51
  go_wp2
  go_ret
  exact ⟨by first | rfl | (rw [hnn]; done) | simp [hnn], rfl⟩
set_option maxRecDepth 100000 in
theorem flies_any {w0 w : World} {g : Nat} {m : PairM} {v : Value} (H : Pr w0 g m v w) (i : Int) : Calls Tryd.prog 50 #[.pointer (some ⟨g, 0, none⟩), .int .i64 i] w fun r w' => r = .returned (.bool (decide (0 ≤ i ∧ i < m.f.length))) ∧ w = w' := by
  obtain ⟨a, cp, rfl⟩ := H.form
  obtain ⟨n, hn⟩ : ∃ n, m.f.length = n := ⟨_, rfl⟩
  have hr := H.row
  rw [hn] at hr
  unfold pairV at hr
  obtain ⟨-, -, -, -, -, -, -, -, e8⟩ := cells_9 hr
  rw [hn]
  clear H hn hr
  by_cases h0 : 0 ≤ i
  · have d0 : decide (0 ≤ i) = true := decide_eq_true h0
    rw [show decide (0 ≤ i ∧ i < (n : Int)) = decide (i < (n : Int)) by rw [decide_eq_decide]; exact ⟨fun q => q.2, fun q => ⟨h0, q⟩⟩]
    clear h0
    go_enter Tryd.func50, Tryd.ntmps50
    go_wp2
    go_ret
    exact ⟨by first | rfl | simp, rfl⟩
  · have d0 : decide (0 ≤ i) = false := decide_eq_false h0
    rw [show decide (0 ≤ i ∧ i < (n : Int)) = false by exact decide_eq_false (fun q => h0 q.1)]
    clear h0
    go_enter Tryd.func50, Tryd.ntmps50
    go_wp2
    go_ret
    exact ⟨by first | rfl | simp, rfl⟩
set_option maxRecDepth 100000 in
set_option maxHeartbeats 1000000 in
theorem send_any {w0 w : World} {g : Nat} {m : PairM} {v : Value} (H : Pr w0 g m v w) (e k : Int) (he : e = 1 ∨ e = 2) (hl : m.f.length ≤ 64) : Calls Tryd.prog 54 #[.pointer (some ⟨g, 0, none⟩), .int .i64 e, .int .i64 k] w fun r w' => r = .returned (.tuple #[]) ∧ ∃ v', Pr w0 g ⟨m.c, m.x, m.f ++ [(3 - e, k)]⟩ v' w' ∧ Asd (Ob g v) (Ob g v') w w' := by
  have part := own_part H.own
  obtain ⟨a, cp, rfl⟩ := H.form
  obtain ⟨n, hn⟩ : ∃ n, m.f.length = n := ⟨_, rfl⟩
  rw [hn] at hl H part ⊢
  have hr := H.row
  unfold pairV at hr
  obtain ⟨-, -, -, -, -, -, -, -, e8⟩ := cells_9 hr
  obtain ⟨y, hy⟩ : ∃ y : Int, 3 - e = y := ⟨_, rfl⟩
  rw [hy]
  have s1 : (w.alloc (.cells #[.int .i64 y, .int .i64 k] 58)).heap.size = w.heap.size + 1 := by simp
  have k1 := kp_alloc w (.cells #[.int .i64 y, .int .i64 k] 58)
  have k2 := kp_alloc (w.alloc (.cells #[.int .i64 y, .int .i64 k] 58)) (.cells #[.slice a n cp, .slice (some ⟨w.heap.size, 0, none⟩) 1 1] 54)
  have r1 := (MapKept.heap_alloc w (.cells #[.int .i64 y, .int .i64 k] 58)).1
  have r2 := (MapKept.heap_alloc (w.alloc (.cells #[.int .i64 y, .int .i64 k] 58)) (.cells #[.slice a n cp, .slice (some ⟨w.heap.size, 0, none⟩) 1 1] 54)).1
  rw [s1] at r2
  have r1' := kp_row k2 r1
  obtain ⟨W, hW⟩ : ∃ W, (w.alloc (.cells #[.int .i64 y, .int .i64 k] 58)).alloc (.cells #[.slice a n cp, .slice (some ⟨w.heap.size, 0, none⟩) 1 1] 54) = W := ⟨_, rfl⟩
  rw [hW] at k2 r2 r1'
  have KW := Kp.trans k1 k2
  have p2 : PartF (.slice (some ⟨w.heap.size, 0, none⟩) 1 1) [(y, k)] W := by
    refine ⟨_, _, rfl, fun q => (by cases q), fun ad q j u hj => ?_⟩
    injection q with q
    subst q
    rw [Addr.add_lit]
    match j, hj with
    | 0, hj => simp [flyB] at hj; subst hj; unfold World.cell?; dsimp only; rw [r1']; rfl
    | 1, hj => simp [flyB] at hj; subst hj; unfold World.cell?; dsimp only; rw [r1']; rfl
    | j + 2, hj => simp [flyB] at hj
  have c0 : W.cell? ⟨w.heap.size + 1, 0, none⟩ = some (.slice a n cp) := by unfold World.cell?; dsimp only; rw [r2]; rfl
  have c1 : W.cell? ⟨w.heap.size + 1, 1, none⟩ = some (.slice (some ⟨w.heap.size, 0, none⟩) 1 1) := by unfold World.cell?; dsimp only; rw [r2]; rfl
  obtain ⟨L, hL⟩ : ∃ L, (m.f ++ [(y, k)]).length = L := ⟨_, rfl⟩
  have HL := Lib.hid hL
  have HC := Lib.hid (hL ▸ concatF_any (w.heap.size + 1) 2 n 1 a (some ⟨w.heap.size, 0, none⟩) cp 1 m.f [(y, k)] hn rfl (by omega) (by omega) W c0 c1 (part.kp KW) p2)
  have HH := Lib.hid H
  have HK := Lib.hid KW
  have HW := Lib.hid hW
  have he1 : -10 ≤ e := by omega
  have he2 : e ≤ 10 := by omega
  clear hL k1 k2 r1 r2 r1' part p2 c0 c1 H hr KW hn hW s1 he
  go_enter Tryd.func54, Tryd.ntmps54
  go_wp2_with (go_at_call 74; rw [HW.out]; (with_reducible refine HC.out.mono ?_); rintro e' w3 ⟨v', rfl, ho, hk⟩; obtain ⟨a', c', rfl⟩ := own_formF ho; have R3 := Lib.hid (HH.out.fly HK.out hk HL.out ho); have f3 := frozN (kp_row (Kp.trans HK.out hk) HH.out.row); have e83 := (cells_9 (kp_row (Kp.trans HK.out hk) HH.out.row)).2.2.2.2.2.2.2.2; clear ho hk)
  go_end0
  exact ⟨rfl, _, R3.out.1, R3.out.2⟩
set_option maxRecDepth 100000 in
set_option maxHeartbeats 1000000 in
theorem take_any {w0 w : World} {g : Nat} {m : PairM} {v : Value} (H : Pr w0 g m v w) (i : Nat) (ii : Int) (hii : (i : Int) = ii) (hi : i < m.f.length) (hl : m.f.length ≤ 64) : Calls Tryd.prog 52 #[.pointer (some ⟨g, 0, none⟩), .int .i64 ii] w fun r w' => r = .returned (.tuple #[]) ∧ ∃ v', Pr w0 g ⟨m.c, m.x, m.f.take i ++ m.f.drop (i + 1)⟩ v' w' ∧ Asd (Ob g v) (Ob g v') w w' := by
  have hown := H.own
  obtain ⟨n, hn⟩ : ∃ n, m.f.length = n := ⟨_, rfl⟩
  rcases hown.2 with ⟨rfl, h0⟩ | ⟨b, cp, cur, rfl, hb, hh, hnc, hcm, hcs, ht⟩
  · omega
  rw [hn] at hl hi H hnc hown ⊢
  have hr := H.row
  unfold pairV at hr
  obtain ⟨-, -, -, -, -, -, -, -, e8⟩ := cells_9 hr
  obtain ⟨jj, hjj⟩ : ∃ jj : Int, ii + 1 = jj := ⟨_, rfl⟩
  obtain ⟨w2, hw2⟩ : ∃ w2, w.drew = w2 := ⟨_, rfl⟩
  have k0 : Kp w w2 := by rw [← hw2]; exact (Kp.refl w).drew
  have hown2 : w2.ownsRow w0.heap.size 58 2 (.slice (some ⟨b, 0, none⟩) n cp) n (flyB m.f) := by rw [← hw2]; exact hown
  have sh := fun w => fly_head (b := b) hii (Nat.le_of_lt hi) hnc w
  have st := fun w => fly_tail (b := b) (cp := cp) (i := i + 1) (ii := jj) (n := n) (by omega) (by omega) w
  obtain ⟨at2, hat⟩ : ∃ x : Nat, (if cp = i + 1 then 0 else (i + 1) * 2) = x := ⟨_, rfl⟩
  rw [hat] at st
  have p1 := own_takeF hown2 (Nat.le_of_lt hi)
  have p2 := own_dropF hown2 (i := i + 1) (by omega) ⟨b, at2, none⟩ (fun q => by rw [← hat, if_neg (by omega)]) (cp - (i + 1))
  obtain ⟨q2, hq2⟩ : ∃ x, n - (i + 1) = x := ⟨_, rfl⟩
  obtain ⟨q3, hq3⟩ : ∃ x, cp - (i + 1) = x := ⟨_, rfl⟩
  rw [hq2, hq3] at st p2
  have k1 := kp_alloc w2 (.cells #[.slice (some ⟨b, 0, none⟩) i cp, .slice (some ⟨b, at2, none⟩) q2 q3] 54)
  have r1 := (MapKept.heap_alloc w2 (.cells #[.slice (some ⟨b, 0, none⟩) i cp, .slice (some ⟨b, at2, none⟩) q2 q3] 54)).1
  obtain ⟨W, hW⟩ : ∃ W, w2.alloc (.cells #[.slice (some ⟨b, 0, none⟩) i cp, .slice (some ⟨b, at2, none⟩) q2 q3] 54) = W := ⟨_, rfl⟩
  obtain ⟨s2, hs2⟩ : ∃ s2, w2.heap.size = s2 := ⟨_, rfl⟩
  rw [hW] at k1 r1
  rw [hs2] at r1
  have KW := Kp.trans k0 k1
  have c0 : W.cell? ⟨s2, 0, none⟩ = some (.slice (some ⟨b, 0, none⟩) i cp) := by unfold World.cell?; dsimp only; rw [r1]; rfl
  have c1 : W.cell? ⟨s2, 1, none⟩ = some (.slice (some ⟨b, at2, none⟩) q2 q3) := by unfold World.cell?; dsimp only; rw [r1]; rfl
  obtain ⟨L, hL⟩ : ∃ L, (m.f.take i ++ m.f.drop (i + 1)).length = L := ⟨_, rfl⟩
  have HL := Lib.hid hL
  have HC := Lib.hid (hL ▸ concatF_any s2 2 i q2 (some ⟨b, 0, none⟩) (some ⟨b, at2, none⟩) cp q3 (m.f.take i) (m.f.drop (i + 1)) (by rw [List.length_take]; omega) (by rw [List.length_drop]; omega) (by omega) (by omega) W c0 c1 (p1.kp k1) (p2.kp k1))
  have HH := Lib.hid H
  have HK := Lib.hid KW
  have HW := Lib.hid hW
  have HS := Lib.hid hs2
  have HW2 := Lib.hid hw2
  have hwj : IntKind.i64.wrap jj = jj := IntWalk.i64_in jj (by omega)
  have i0 : 0 ≤ ii := by omega
  have i1 : ii ≤ 1000 := by omega
  clear hL k0 k1 r1 p1 p2 c0 c1 H hr KW hn hW hs2 hown hown2 hh ht hcs hcm hb hq2 hq3 hat hw2
  go_enter Tryd.func52, Tryd.ntmps52
  refine wp_region_held_drew (S := fun _ => True) (by kernel_rfl) ?_ (fun hHeld => ?_)
  · exact trivial
  rw [HW2.out]
  have e9 : w2.cell? ⟨g, 8, none⟩ = some (.slice (some ⟨b, 0, none⟩) n cp) := by rw [← HW2.out]; exact e8
  refine wpAnyH_take (i := 0) (v := ?_) rfl (by kernel_rfl) (by kernel_rfl) (by kernel_rfl) (fun _ _ _ h => h) (Or.inl ⟨by rfl, ?_⟩) (by assumption) ?_
  rotate_left
  · intro w hSw; go_simp; try with_reducible rfl
  go_simp
  refine wpAnyH_take (i := 1) (v := ?_) rfl (by kernel_rfl) (by kernel_rfl) (by kernel_rfl) (fun _ _ _ h => h) (Or.inl ⟨by rfl, ?_⟩) (by assumption) ?_
  rotate_left
  · intro w hSw; go_simp; try with_reducible rfl
  go_simp
  refine wpAnyH_take (i := 2) (v := ?_) rfl (by kernel_rfl) (by kernel_rfl) (by kernel_rfl) (fun _ _ _ h => h) (Or.inl ⟨by rfl, ?_⟩) (by assumption) ?_
  rotate_left
  · intro w hSw; go_simp; try with_reducible rfl
  go_simp
  refine wpAnyH_take (i := 3) (v := ?_) rfl (by kernel_rfl) (by kernel_rfl) (by kernel_rfl) (fun _ _ _ h => h) (Or.inl ⟨by rfl, ?_⟩) (by assumption) ?_
  rotate_left
  · intro w hSw; go_simp; try with_reducible rfl
  go_simp
  refine wpAnyH_take (i := 5) (v := ?_) rfl (by kernel_rfl) (by kernel_rfl) (by kernel_rfl) (fun _ _ _ h => h) (Or.inl ⟨by rfl, ?_⟩) (by assumption) ?_
  rotate_left
  · intro w hSw; go_simp; try with_reducible rfl
  go_simp
  refine wpAnyH_take (i := 7) (v := ?_) rfl (by kernel_rfl) (by kernel_rfl) (by kernel_rfl) (fun _ _ _ h => h) (Or.inl ⟨by rfl, ?_⟩) (by assumption) ?_
  rotate_left
  · intro w hSw; go_simp; try with_reducible rfl
  go_simp
  refine wpAnyH_take (i := 8) (v := ?_) rfl (by kernel_rfl) (by kernel_rfl) (by kernel_rfl) (fun _ _ _ h => h) (Or.inl ⟨by rfl, ?_⟩) (by assumption) ?_
  rotate_left
  · intro w hSw; go_simp; try with_reducible rfl
  go_simp
  refine wpAnyH_take (i := 9) (v := ?_) rfl (by kernel_rfl) (by kernel_rfl) (by kernel_rfl) (fun _ _ _ h => h) (Or.inl ⟨by rfl, ?_⟩) (by assumption) ?_
  rotate_left
  · intro w hSw; go_simp; try with_reducible rfl
  go_simp
  refine wpAnyH_take (i := 11) (v := ?_) rfl (by kernel_rfl) (by kernel_rfl) (by kernel_rfl) (fun _ _ _ h => h) (Or.inl ⟨by rfl, ?_⟩) (by assumption) ?_
  rotate_left
  · intro w hSw; go_simp; try with_reducible rfl
  go_simp
  refine wpAnyH_take (i := 12) (v := ?_) rfl (by kernel_rfl) (by kernel_rfl) (by kernel_rfl) (fun _ _ _ h => h) (Or.inl ⟨by rfl, ?_⟩) (by assumption) ?_
  rotate_left
  · intro w hSw; go_simp; try with_reducible rfl
  go_simp
  refine wpAnyH_ready (rs := [4, 10]) (by kernel_rfl) (by simp) ?_
  refine AllReadyH.cons rfl (fun K hK => ?_) (AllReadyH.cons rfl (fun K hK => ?_) AllReadyH.nil)
  · go_simp
    refine hK.out _ _ trivial (fun hHeld => ?_)
    clear hK K
    refine wpAnyH_take (i := 6) (v := ?_) rfl (by kernel_rfl) (by kernel_rfl) (by kernel_rfl) (fun _ _ _ h => h) (Or.inl ⟨by rfl, ?_⟩) (by assumption) ?_
    rotate_left
    · intro w hSw; go_simp; try with_reducible rfl
    go_simp
    refine wpAnyH_ready (rs := [10]) (by kernel_rfl) (by simp) ?_
    refine AllReadyH.cons rfl (fun K hK => ?_) AllReadyH.nil
    go_simp
    refine hK.out _ _ ?_ (fun hHeld => ?_)
    · exact trivial
    clear hK K
    refine wpAnyH_take (i := 13) (v := ?_) rfl (by kernel_rfl) (by kernel_rfl) (by kernel_rfl) (fun _ _ _ h => h) (Or.inl ⟨by rfl, ?_⟩) (by assumption) ?_
    rotate_left
    · intro w hSw; go_simp; try with_reducible rfl
    go_simp
    refine wpAnyH_ready (rs := [14]) (by kernel_rfl) (by simp) ?_
    refine AllReadyH.cons rfl (fun K hK => ?_) AllReadyH.nil
    go_simp
    refine hK.out _ _ ?_ (fun hHeld => ?_)
    · exact trivial
    clear hK K
    try rw [HS.out, HW.out]
    refine wpAnyH_ready (rs := [15]) (by kernel_rfl) (by simp) ?_
    refine AllReadyH.cons rfl (fun K hK => ?_) AllReadyH.nil
    go_simp
    go_wp2_with (go_at_call 74; (try rw [HS.out]); (try rw [HW.out]); (with_reducible refine HC.out.mono ?_); rintro e' w3 ⟨v', rfl, ho, hk⟩; obtain ⟨a', c', rfl⟩ := own_formF ho; have R3 := Lib.hid (HH.out.fly HK.out hk HL.out ho); have f3 := frozN (kp_row (Kp.trans HK.out hk) HH.out.row); have e83 := (cells_9 (kp_row (Kp.trans HK.out hk) HH.out.row)).2.2.2.2.2.2.2.2; clear ho hk)
    refine hK.out _ _ ?_ (fun hHeld => ?_)
    · exact trivial
    clear hK K
    refine wpAnyH_take (i := 16) (v := ?_) rfl (by kernel_rfl) (by kernel_rfl) (by kernel_rfl) (fun _ _ _ h => h) (Or.inl ⟨by rfl, ?_⟩) (by assumption) ?_
    rotate_left
    · intro w hSw; go_simp; try with_reducible rfl
    go_simp
    refine wpAnyH_take (i := 17) (v := ?_) rfl (by kernel_rfl) (by kernel_rfl) (by kernel_rfl) (fun _ _ _ h => h) (Or.inl ⟨by rfl, ?_⟩) (by assumption) ?_
    rotate_left
    · intro w hSw; go_simp; try with_reducible rfl
    go_simp
    refine wpAnyH_ready (rs := [18]) (by kernel_rfl) (by simp) ?_
    refine AllReadyH.cons rfl (fun K hK => ?_) AllReadyH.nil
    go_simp
    refine hK.out _ _ ?_ (fun hHeld => ?_)
    · exact trivial
    clear hK K
    refine wpAnyH_done (by kernel_rfl) ?_ _
    go_end0
    exact ⟨rfl, _, R3.out.1, R3.out.2⟩
  · go_simp
    refine hK.out _ _ trivial (fun hHeld => ?_)
    clear hK K
    refine wpAnyH_take (i := 13) (v := ?_) rfl (by kernel_rfl) (by kernel_rfl) (by kernel_rfl) (fun _ _ _ h => h) (Or.inl ⟨by rfl, ?_⟩) (by assumption) ?_
    rotate_left
    · intro w hSw; go_simp; try with_reducible rfl
    go_simp
    refine wpAnyH_ready (rs := [4]) (by kernel_rfl) (by simp) ?_
    refine AllReadyH.cons rfl (fun K hK => ?_) AllReadyH.nil
    go_simp
    refine hK.out _ _ ?_ (fun hHeld => ?_)
    · exact trivial
    clear hK K
    refine wpAnyH_take (i := 6) (v := ?_) rfl (by kernel_rfl) (by kernel_rfl) (by kernel_rfl) (fun _ _ _ h => h) (Or.inl ⟨by rfl, ?_⟩) (by assumption) ?_
    rotate_left
    · intro w hSw; go_simp; try with_reducible rfl
    go_simp
    refine wpAnyH_ready (rs := [14]) (by kernel_rfl) (by simp) ?_
    refine AllReadyH.cons rfl (fun K hK => ?_) AllReadyH.nil
    go_simp
    refine hK.out _ _ ?_ (fun hHeld => ?_)
    · exact trivial
    clear hK K
    try rw [HS.out, HW.out]
    refine wpAnyH_ready (rs := [15]) (by kernel_rfl) (by simp) ?_
    refine AllReadyH.cons rfl (fun K hK => ?_) AllReadyH.nil
    go_simp
    go_wp2_with (go_at_call 74; (try rw [HS.out]); (try rw [HW.out]); (with_reducible refine HC.out.mono ?_); rintro e' w3 ⟨v', rfl, ho, hk⟩; obtain ⟨a', c', rfl⟩ := own_formF ho; have R3 := Lib.hid (HH.out.fly HK.out hk HL.out ho); have f3 := frozN (kp_row (Kp.trans HK.out hk) HH.out.row); have e83 := (cells_9 (kp_row (Kp.trans HK.out hk) HH.out.row)).2.2.2.2.2.2.2.2; clear ho hk)
    refine hK.out _ _ ?_ (fun hHeld => ?_)
    · exact trivial
    clear hK K
    refine wpAnyH_take (i := 16) (v := ?_) rfl (by kernel_rfl) (by kernel_rfl) (by kernel_rfl) (fun _ _ _ h => h) (Or.inl ⟨by rfl, ?_⟩) (by assumption) ?_
    rotate_left
    · intro w hSw; go_simp; try with_reducible rfl
    go_simp
    refine wpAnyH_take (i := 17) (v := ?_) rfl (by kernel_rfl) (by kernel_rfl) (by kernel_rfl) (fun _ _ _ h => h) (Or.inl ⟨by rfl, ?_⟩) (by assumption) ?_
    rotate_left
    · intro w hSw; go_simp; try with_reducible rfl
    go_simp
    refine wpAnyH_ready (rs := [18]) (by kernel_rfl) (by simp) ?_
    refine AllReadyH.cons rfl (fun K hK => ?_) AllReadyH.nil
    go_simp
    refine hK.out _ _ ?_ (fun hHeld => ?_)
    · exact trivial
    clear hK K
    refine wpAnyH_done (by kernel_rfl) ?_ _
    go_end0
    exact ⟨rfl, _, R3.out.1, R3.out.2⟩
end Go.Proofs.YtghjnhdepeiloaaDoor
