/-
  fields.newRow (own work): what is told of each field of one row, in order.
-/
import Derived.Test.YtfealdllicicnaaDoorVal
import Derived.Test.YtfealdllicicnaaDoorRefQ
import Derived.OneCell
namespace Go.Proofs.YtfealdllicicnaaDoor
open Go.RowKit Go.ChangeShapes Go.WideShapes

/-- A BOX OF AN INT. -/
abbrev boxI (x : Int) : Obj := .cells #[.int .i64 x] 3 (0, 0)

set_option maxRecDepth 20000 in
theorem newRow_any (w : World) :
    Calls Tryd.prog 37 #[] w fun e w' => e = .returned (.func (.func 60) #[] #[.pointer (some ⟨w.heap.size, 0, none⟩), .pointer (some ⟨w.heap.size + 1, 0, none⟩)]) ∧ w'.heap[w.heap.size]? = some (boxI 0) ∧ w'.heap[w.heap.size + 1]? = some (boxI 0) ∧ w'.heap.size = w.heap.size + 2 ∧ Kp w w' := by
  have hmf : ∀ (fn : Fn) (first cap : Array Value) (w : World), (Instr.makeFunc fn first cap).run Tryd.prog w = .ok (.func fn first cap) w := fun _ _ _ _ => rfl
  go_enter Tryd.func37, Tryd.ntmps37
  go_wp2
  go_ret
  refine ⟨rfl, ?_, ?_, ?_, ?_⟩
  · rw [Below.heap_alloc _ _ _ (by simp)]
    exact (MapKept.heap_alloc w _).1
  · have := (MapKept.heap_alloc (w.alloc (boxI 0)) (boxI 0)).1
    simpa using this
  · simp
  · exact Kp.trans (kp_alloc _ _) (kp_alloc _ _)

/-- MAY A FIELD STAND BEHIND k FIELDS, the last one's tag being last? -/
def mayQ (k : Nat) (last tag : Int) (n : Nat) : Prop := k < 16 ∧ last < tag ∧ tag ≤ 255 ∧ n ≤ 200
instance (k : Nat) (last tag : Int) (n : Nat) : Decidable (mayQ k last tag n) := by unfold mayQ; infer_instance
def runQ : Nat → Int → List (Int × List Int) → Bool
  | _, _, [] => true
  | k, last, f :: t => decide (mayQ k last f.1 f.2.length) && runQ (k + 1) f.1 t
theorem runQ_right : ∀ (fs : List (Int × List Int)) (k : Nat) (last : Int), k ≤ 16 → 0 ≤ last → runQ k last fs = (decide (k + fs.length ≤ 16) && rightQ last fs)
  | [], k, last, hk, _ => by simp [runQ, rightQ, hk]
  | f :: t, k, last, hk, hl => by
    unfold runQ rightQ
    by_cases h : mayQ k last f.1 f.2.length
    · obtain ⟨h1, h2, h3, h4⟩ := h
      rw [decide_eq_true ⟨h1, h2, h3, h4⟩, decide_eq_true (show 1 ≤ f.1 ∧ f.1 ≤ 255 ∧ f.2.length ≤ 200 ∧ last < f.1 from ⟨by omega, h3, h4, h2⟩), Bool.true_and, Bool.true_and, runQ_right t (k + 1) f.1 (by omega) (by omega)]
      congr 2
      simp only [List.length_cons, eq_iff_iff]
      omega
    · rw [decide_eq_false h, Bool.false_and]
      by_cases h1 : k + (f :: t).length ≤ 16
      · rw [decide_eq_true h1, Bool.true_and, decide_eq_false, Bool.false_and]
        rintro ⟨g1, g2, g3, g4⟩
        simp at h1
        exact h ⟨by omega, g4, g2, g3⟩
      · rw [decide_eq_false h1, Bool.false_and]

theorem enter_t (ads : List Addr) (p q : Nat) (k : Nat) (kk last tag : Int) (n : Nat) (nn : Int) (hkk : (k : Int) = kk) (hnn : (n : Int) = nn) (w : World) (V : St ads w) (hp : w.heap[p]? = some (boxI kk)) (hq : w.heap[q]? = some (boxI last)) (hpq : p ≠ q) (hm : mayQ k last tag n) :
    Calls Tryd.prog 60 #[.int .i64 tag, .int .i64 nn, .pointer (some ⟨p, 0, none⟩), .pointer (some ⟨q, 0, none⟩)] w fun e w' => e = .returned (.tuple #[]) ∧ w' = (w.setCell ⟨p, 0, none⟩ (.int .i64 (kk + 1))).setCell ⟨q, 0, none⟩ (.int .i64 tag) := by
  have h14 : ads.length = 14 := V.len
  obtain ⟨e3, c3⟩ : ∃ e3, w.cell? ⟨3, 0, none⟩ = some (snt e3) := ⟨ads[3]'(by omega), V.cell 3 (by decide)⟩
  obtain ⟨h1, h2, h3, h4⟩ := hm
  have g1 : kk < 16 := by omega
  have g0 : 0 ≤ kk := by omega
  have g4 : nn ≤ 200 := by omega
  have cp := cell_of_one hp
  have cq := cell_of_one hq
  have zp := free_of_one hp
  have zq := free_of_one hq
  have cq' : (w.setCell ⟨p, 0, none⟩ (.int .i64 (kk + 1))).cell? ⟨q, 0, none⟩ = some (.int .i64 last) := cell_of_one (by rw [Below.heap_setCell _ _ _ _ (fun e => hpq e.symm)]; exact hq)
  have zq' : (w.setCell ⟨p, 0, none⟩ (.int .i64 (kk + 1))).frozen? ⟨q, 0, none⟩ = false := by rw [World.frozen?_setCell]; exact zq
  clear V h14
  go_enter Tryd.func60, Tryd.ntmps60
  go_wp2_with (go_at_call 43; (with_reducible refine (demand_t _ _).mono ?_); rintro e w' ⟨rfl, rfl⟩)
  go_end0
  exact ⟨rfl, rfl⟩

theorem enter_f (ads : List Addr) (h3' : 3 < ads.length) (p q : Nat) (k : Nat) (kk last tag : Int) (n : Nat) (nn : Int) (hkk : (k : Int) = kk) (hnn : (n : Int) = nn) (w : World) (V : St ads w) (hp : w.heap[p]? = some (boxI kk)) (hq : w.heap[q]? = some (boxI last)) (hm : ¬ mayQ k last tag n) :
    Calls Tryd.prog 60 #[.int .i64 tag, .int .i64 nn, .pointer (some ⟨p, 0, none⟩), .pointer (some ⟨q, 0, none⟩)] w fun e w' => e = .panicked [{ v := snt (ads[3]'h3'), recovered := false }] ∧ w = w' := by
  have c3 : w.cell? ⟨3, 0, none⟩ = some (snt (ads[3]'h3')) := V.cell 3 (by decide)
  obtain ⟨e3, he3⟩ : ∃ a, ads[3]'h3' = a := ⟨_, rfl⟩
  rw [he3] at c3 ⊢
  have cp := cell_of_one hp
  have cq := cell_of_one hq
  clear V he3
  by_cases h1 : kk < 16
  · have g1 : decide (kk < 16) = true := decide_eq_true h1
    by_cases h2 : last < tag
    · have g2 : decide (last < tag) = true := decide_eq_true h2
      by_cases h3 : tag ≤ 255
      · have g3 : decide (tag ≤ 255) = true := decide_eq_true h3
        have g4 : decide (nn ≤ 200) = false := decide_eq_false (fun h4 => hm ⟨by omega, h2, h3, by omega⟩)
        clear hm
        go_enter Tryd.func60, Tryd.ntmps60
        go_wp2_with (go_at_call 43; (with_reducible refine (demand_f _ _).mono ?_); rintro e w' ⟨rfl, rfl⟩)
        exact ⟨rfl, rfl, rfl⟩
      · have g3 : decide (tag ≤ 255) = false := decide_eq_false h3
        clear hm
        go_enter Tryd.func60, Tryd.ntmps60
        go_wp2_with (go_at_call 43; (with_reducible refine (demand_f _ _).mono ?_); rintro e w' ⟨rfl, rfl⟩)
        exact ⟨rfl, rfl, rfl⟩
    · have g2 : decide (last < tag) = false := decide_eq_false h2
      clear hm
      go_enter Tryd.func60, Tryd.ntmps60
      go_wp2_with (go_at_call 43; (with_reducible refine (demand_f _ _).mono ?_); rintro e w' ⟨rfl, rfl⟩)
      exact ⟨rfl, rfl, rfl⟩
  · have g1 : decide (kk < 16) = false := decide_eq_false h1
    clear hm
    go_enter Tryd.func60, Tryd.ntmps60
    go_wp2_with (go_at_call 43; (with_reducible refine (demand_f _ _).mono ?_); rintro e w' ⟨rfl, rfl⟩)
    exact ⟨rfl, rfl, rfl⟩
end Go.Proofs.YtfealdllicicnaaDoor
