/-
  PARTS OF THIS PROOF (own work): ByF, FacC, Ref9, StFl, FirI, PlaI, WriI, TryS.
-/
import Derived.Test.YtpemeenfhkgmpaaGreatDoorZs07
import Derived.Test.YtpemeenfhkgmpaaGreatDoorZs01
import Derived.Test.YtpemeenfhkgmpaaGreatDoorZs05
import Derived.Lib.SlBytesConst
import Derived.Test.YtpemeenfhkgmpaaGreatDoorZs06
import Derived.Test.YtpemeenfhkgmpaaGreatDoorZs03
import Derived.Deep.RegionHeld3
import Derived.Lib.SmallJoins
import Derived.WalkLawsBesides
import Derived.Test.YtpemeenfhkgmpaaGreatDoorZs02
import Derived.BigQuiet
import Derived.WalkSmall
import Derived.StillTailTactics
import Derived.Laws.Cover1
import Derived.Laws.OwnMore
namespace Go.Proofs.YtpemeenfhkgmpaaGreatDoor
open Go.RowKit Go.ChangeShapes Go.WideShapes

/-- the fields' numbers and the float, as the document puts them: a place a tag, tag 14 the float -/
def putG : List Int → Option Nat → List (Int × List Int) → Option (List Int × Option Nat)
  | l, o, [] => some (l, o)
  | l, o, x :: fs =>
    if x.1 = 14 then (if (toFl x.2).2 = 0 then putG l (some (toFl x.2).1) fs else none)
    else if 14 < x.1 ∨ x.2.length = 0 ∨ (toNum x.2).2 ≠ 0 then none else putG (l.set (x.1 - 1).toNat (toNum x.2).1) o fs
def finG : Option (List Int × Option Nat) → Int × FX
  | some (l, o) => if (o.isSome = decide ((ofF l (o.getD 0)).k = 1)) ∧ rightF (ofF l (o.getD 0)) = true then (0, ofF l (o.getD 0)) else (4, noF)
  | none => (4, noF)
/-- WHAT Read ANSWERS: the error's number, the fact -/
def decG (bs : List Int) : Int × FX :=
  if (splitQ 17 bs 0 0).1 ≠ 0 then ((splitQ 17 bs 0 0).1, noF) else finG (putG (List.replicate 13 0) none (splitQ 17 bs 0 0).2)
/-- a fact's fields -/
def tailF (f : FX) : List (Int × List Int) := if f.k = 1 then [(14, f8 (Fl.plain f.x))] else []
def rowG (f : FX) : List (Int × List Int) := rowF 1 f.nums ++ tailF f
/-- a fact's bytes -/
def encF (f : FX) : List Int := joinB (rowG f)

theorem putG_init : ∀ (a : List (Int × List Int)) (l : List Int) (o : Option Nat) (b : List (Int × List Int)), (∀ x ∈ a, x.1 < 14) →
    putG l o (a ++ b) = match putN 13 l a with | none => none | some l' => putG l' o b
  | [], l, o, b, _ => rfl
  | x :: a, l, o, b, h => by
    have hx := h x (by simp)
    rw [List.cons_append, putG, putN, if_neg (by omega)]
    by_cases q : x.2.length = 0 ∨ (toNum x.2).2 ≠ 0
    · rw [if_pos (.inr q), if_pos (.inr q)]
    · rw [if_neg (by rintro (g | g); omega; exact q g), if_neg (by rintro (g | g); omega; exact q g)]
      exact putG_init a _ o b (fun y hy => h y (by simp [hy]))
theorem nums_len (f : FX) : f.nums.length = 13 := rfl
theorem run_push : ∀ (a : List (Int × List Int)) (y : Int × List Int) (k : Nat) (last : Int), runQ k last a = true → k + a.length < 16 → last < y.1 → (∀ x ∈ a, x.1 < y.1) → y.1 ≤ 255 → y.2.length ≤ 200 → runQ k last (a ++ [y]) = true := by
  intro a
  induction a with
  | nil => intro y k last _ hk hl _ h5 h6; rw [List.nil_append, runQ, Bool.and_eq_true]; exact ⟨decide_eq_true ⟨by simpa using hk, hl, h5, h6⟩, rfl⟩
  | cons f a ih =>
    intro y k last h hk hl hx h5 h6
    rw [runQ, Bool.and_eq_true] at h
    rw [List.cons_append, runQ, Bool.and_eq_true]
    exact ⟨h.1, ih y (k + 1) f.1 h.2 (by rw [List.length_cons] at hk; omega) (hx f (by simp)) (fun x q => hx x (by simp [q])) h5 h6⟩
theorem rowG_run (f : FX) : runQ 0 0 (rowG f) = true := by
  unfold rowG tailF
  have hl := nums_len f
  have h0 := runQ_rowF f.nums 1 0 0 (by decide) (by rw [hl]; decide) (by rw [hl]; decide)
  split
  · refine run_push _ _ 0 0 h0 ?_ (show (0 : Int) < 14 by decide) ?_ (show (14 : Int) ≤ 255 by decide) (by show 8 ≤ 200; decide)
    · have := rowF_len f.nums 1; omega
    · intro x hx
      have := rowF_mem f.nums 1 x hx
      rw [hl] at this
      dsimp only
      omega
  · rw [List.append_nil]; exact h0
theorem tailF_in (f : FX) : ∀ g ∈ tailF f, g = (14, f8 (Fl.plain f.x)) := by
  intro g hg
  unfold tailF at hg
  split at hg
  · simpa using hg
  · cases hg
theorem rowG_in (f : FX) : ∀ g ∈ rowG f, InB g.2 := by
  intro g hg
  rcases List.mem_append.1 hg with h | h
  · exact rowF_in _ _ g h
  · rw [tailF_in f g h]
    exact f8_in _
theorem rowG_small (f : FX) : Small (rowG f) := by
  intro g hg
  have hl := nums_len f
  rcases List.mem_append.1 hg with h | h
  · have := rowF_mem f.nums 1 g h
    rw [hl] at this
    exact ⟨by omega, by omega, by omega⟩
  · rw [tailF_in f g h]
    exact ⟨show (0 : Int) ≤ 14 by decide, show (14 : Int) ≤ 255 by decide, by show 8 ≤ 200; decide⟩
theorem rowG_len (f : FX) : (rowG f).length ≤ 14 := by
  have := rowF_len f.nums 1
  have hl := nums_len f
  unfold rowG tailF
  rw [List.length_append]
  split
  · rw [List.length_singleton]; omega
  · rw [List.length_nil]; omega
theorem encF_len (f : FX) : (encF f).length ≤ 154 := by
  have : ∀ (ns : List Int) (i : Int), (joinB (rowF i ns)).length ≤ 11 * ns.length := by
    intro ns
    induction ns with
    | nil => intro i; simp [rowF, joinB]
    | cons n ns ih =>
      intro i
      have := ih (i + 1)
      simp only [rowF]
      split
      · rw [List.length_cons]; omega
      · have hb := beF_len 8 n.toNat
        rw [joinB_cons]
        simp only [List.length_cons, List.length_append]
        omega
  have h := this f.nums 1
  have hl := nums_len f
  have e : (encF f).length = (joinB (rowF 1 f.nums)).length + (joinB (tailF f)).length := by
    unfold encF rowG joinB
    rw [List.flatMap_append, List.length_append]
  have h2 : (joinB (tailF f)).length ≤ 11 := by
    unfold tailF
    split
    · exact Nat.le_of_eq rfl
    · exact Nat.zero_le _
  omega
theorem encF_in (f : FX) : InB (encF f) := joinB_in (rowG_small f) (rowG_in f)
theorem rest_in : ∀ (l : List Int) (nm : List Int) (i : Int), restF nm i l = true → ∀ (j : Nat) (hj : j < l.length), i + j = 0 ∨ l[j] = 0 ∨ (i + j) ∈ nm
  | [], _, _, _, j, hj => by simp at hj
  | n :: l, nm, i, h, j, hj => by
    rw [rest_cons, Bool.and_eq_true] at h
    match j, hj with
    | 0, _ => simpa using of_decide_eq_true h.1
    | j + 1, hj =>
      have := rest_in l nm (i + 1) h.2 j (by simpa using hj)
      rw [show i + ((j + 1 : Nat) : Int) = i + 1 + (j : Int) by omega]
      simpa using this
theorem okF_kind {f : FX} (h : rightF f = true) : 1 ≤ f.k ∧ f.k ≤ 8 := by
  refine Classical.byContradiction fun g => ?_
  rw [right_far g] at h
  cases h
theorem seat_in {t h : Int} (g : seatX t h = true) : 0 ≤ t ∧ t ≤ 14 ∧ 0 ≤ h ∧ h ≤ 8 := by
  unfold seatX at g
  split at g
  · have := of_decide_eq_true g; omega
  · have := of_decide_eq_true g; omega
theorem rightA_in {n s : Int} (h : rightA n s = true) : 0 ≤ n ∧ n ≤ 3 ∧ 0 ≤ s ∧ s ≤ 999999 := by
  have := of_decide_eq_true h
  omega
/-- a right fact's numbers are small -/
theorem rightF_okn {f : FX} (h : rightF f = true) : ∀ x ∈ f.nums, 0 ≤ x ∧ x ≤ 999999 := by
  have hk := okF_kind h
  unfold rightF at h
  rw [Bool.and_eq_true, Bool.and_eq_true] at h
  obtain ⟨h1, h2, -⟩ := h
  have hr := rest_in _ _ _ h1
  obtain ⟨k, n, s, r, e, p, q, o, d, a, t, hh, c, x⟩ := f
  dsimp only at hk h2
  have g : ∀ (j : Nat) (hj : j < 13), (0 : Int) + j = 0 ∨ (FX.nums ⟨k, n, s, r, e, p, q, o, d, a, t, hh, c, x⟩)[j]'hj = 0 ∨ ((0 : Int) + j) ∈ namedF k := fun j hj => hr j hj
  have g1 := g 1 (by decide)
  have g2 := g 2 (by decide)
  have g3 := g 3 (by decide)
  have g4 := g 4 (by decide)
  have g5 := g 5 (by decide)
  have g6 := g 6 (by decide)
  have g7 := g 7 (by decide)
  have g8 := g 8 (by decide)
  have g9 := g 9 (by decide)
  have g10 := g 10 (by decide)
  have g11 := g 11 (by decide)
  have g12 := g 12 (by decide)
  clear g hr h1
  have hk2 : k = 1 ∨ k = 2 ∨ k = 3 ∨ k = 4 ∨ k = 5 ∨ k = 6 ∨ k = 7 ∨ k = 8 := by omega
  clear hk
  have A := @rightA_in n s
  have S := @seat_in t hh
  have X : rightX ⟨n, s, o, d, x⟩ = true → (0 ≤ n ∧ n ≤ 3 ∧ 0 ≤ s ∧ s ≤ 999999) ∧ 0 ≤ o ∧ o ≤ 2 ∧ 0 ≤ d ∧ d ≤ 3 := fun q => by
    unfold rightX outX at q
    simp only [Bool.and_eq_true, decide_eq_true_eq] at q
    exact ⟨rightA_in q.1, by omega⟩
  intro y hy
  simp only [FX.nums, List.mem_cons, List.not_mem_nil, or_false] at hy
  rcases hk2 with rfl | rfl | rfl | rfl | rfl | rfl | rfl | rfl <;> simp [namedF, FX.nums] at g1 g2 g3 g4 g5 g6 g7 g8 g9 g10 g11 g12 <;> simp only [okF, ctxF, Bool.and_eq_true, decide_eq_true_eq, if_pos, reduceIte, Int.reduceEq] at h2
  · have := X h2.1; rcases hy with rfl | rfl | rfl | rfl | rfl | rfl | rfl | rfl | rfl | rfl | rfl | rfl | rfl <;> omega
  · have := A h2.1; rcases hy with rfl | rfl | rfl | rfl | rfl | rfl | rfl | rfl | rfl | rfl | rfl | rfl | rfl <;> omega
  · have := A h2.1; have := S h2.2.2; rcases hy with rfl | rfl | rfl | rfl | rfl | rfl | rfl | rfl | rfl | rfl | rfl | rfl | rfl <;> omega
  · have := A h2.1; rcases hy with rfl | rfl | rfl | rfl | rfl | rfl | rfl | rfl | rfl | rfl | rfl | rfl | rfl <;> omega
  · have := A h2; rcases hy with rfl | rfl | rfl | rfl | rfl | rfl | rfl | rfl | rfl | rfl | rfl | rfl | rfl <;> omega
  · have := A h2.1; rcases hy with rfl | rfl | rfl | rfl | rfl | rfl | rfl | rfl | rfl | rfl | rfl | rfl | rfl <;> omega
  · rcases hy with rfl | rfl | rfl | rfl | rfl | rfl | rfl | rfl | rfl | rfl | rfl | rfl | rfl <;> omega
  · have := S h2.2; rcases hy with rfl | rfl | rfl | rfl | rfl | rfl | rfl | rfl | rfl | rfl | rfl | rfl | rfl <;> omega
theorem rightF_plain {f : FX} (h : rightF f = true) : Fl.plain f.x = f.x ∧ f.x < 18446744073709551616 := by
  unfold rightF at h
  rw [Bool.and_eq_true, Bool.and_eq_true] at h
  obtain ⟨-, h2, h3⟩ := h
  rcases of_decide_eq_true h3 with g | g
  · unfold okF at h2
    rw [if_pos g, Bool.and_eq_true] at h2
    exact rightX_plain h2.1
  · rw [g]; exact ⟨by decide, by decide⟩
theorem rightF_zero {f : FX} (h : rightF f = true) (hk : f.k ≠ 1) : f.x = 0 := by
  unfold rightF at h
  rw [Bool.and_eq_true, Bool.and_eq_true] at h
  exact (of_decide_eq_true h.2.2).resolve_left hk
/-- what is encoded is decoded to the same -/
theorem dec_encF {f : FX} (h : rightF f = true) : decG (encF f) = (0, f) := by
  have hs := split_join (rowG f) 0 16 0 (rowG_run f) (fun _ _ => Int.le_refl _) (by have := rowG_len f; omega) (rowG_in f)
  obtain ⟨p1, p2⟩ := rightF_plain h
  unfold decG encF
  rw [hs, if_neg (fun q => q rfl)]
  dsimp only
  unfold rowG
  have hl := nums_len f
  rw [putG_init _ _ _ _ (fun x hx => by
    have := rowF_mem f.nums 1 x hx
    rw [hl] at this
    omega)]
  have hp := put_backN 13 13 0 (List.replicate 13 0) f.nums rfl rfl rfl (rightF_okn h) (fun j _ => rep_get 13 j) rfl
  rw [List.drop_zero] at hp
  rw [show rowF (((0 : Nat) : Int) + 1) f.nums = rowF 1 f.nums from rfl] at hp
  rw [hp]
  dsimp only
  unfold tailF
  by_cases hk : f.k = 1
  · rw [if_pos hk, putG, if_pos rfl, p1, toFl_f8 f.x p2 p1]
    dsimp only
    rw [if_pos rfl, putG, finG, Option.getD_some, ofF_nums, if_pos ⟨by rw [decide_eq_true hk]; rfl, h⟩]
  · rw [if_neg hk, putG, finG, Option.getD_none]
    have e : ofF f.nums 0 = f := by rw [← rightF_zero h hk]; exact ofF_nums f
    rw [e, if_pos ⟨by rw [decide_eq_false hk]; rfl, h⟩]
theorem decG_wf {bs : List Int} : (decG bs).2.wf := by
  unfold decG
  split
  · exact noF_wf
  · unfold finG
    split
    · split
      · rename_i h
        exact (rightF_plain h.2).2
      · exact noF_wf
    · exact noF_wf
theorem finG_bad : ∀ o : Option (List Int × Option Nat), (finG o).1 ≠ 0 → (finG o).2 = noF
  | none, _ => rfl
  | some (l, o), h => by
    by_cases q : o.isSome = decide ((ofF l (o.getD 0)).k = 1) ∧ rightF (ofF l (o.getD 0)) = true
    · have e : finG (some (l, o)) = (0, ofF l (o.getD 0)) := if_pos q
      rw [e] at h
      exact absurd rfl h
    · have e : finG (some (l, o)) = (4, noF) := if_neg q
      rw [e]
theorem decG_bad {bs : List Int} (h : (decG bs).1 ≠ 0) : (decG bs).2 = noF := by
  unfold decG at h ⊢
  split
  · rfl
  · rename_i g
    rw [if_neg g] at h
    exact finG_bad _ h
open Go.RowKit Go.ChangeShapes Go.WideShapes

structure FacC (ads : List Addr) (w : World) : Prop where
  right : ∀ w1, Kp w w1 → ∀ f : FX, f.wf → Calls Tryz.prog 27 #[.agg f.cells] w1 fun e w' => e = .returned (.bool (rightF f)) ∧ Kp w1 w'
  encOk : ∀ w1, Kp w w1 → ∀ f : FX, rightF f = true → Calls Tryz.prog 48 #[.agg f.cells] w1 fun e w' => ∃ (a : Option Addr) (p : Nat), e = .returned (.tuple #[.slice a (encF f).length p, .nilIface]) ∧ (encF f).length ≤ p ∧ w'.ownsRow w1.heap.size 5 1 (.slice a (encF f).length p) (encF f).length ((encF f).map (Value.int .u8)) ∧ Kp w1 w'
  encBad : ∀ w1, Kp w w1 → ∀ f : FX, f.wf → rightF f = false → Calls Tryz.prog 48 #[.agg f.cells] w1 fun e w' => e = .returned (.tuple #[.slice none 0 0, errI ads 4]) ∧ Kp w1 w'
  dec : ∀ w1, Kp w w1 → ∀ (a : Option Addr) (p : Nat) (bs : List Int) (n : Nat), bs.length = n → n ≤ 1000 → InB bs → n ≤ p → SlB (.slice a n p) bs w1 → Calls Tryz.prog 49 #[.slice a n p] w1 fun e w' => e = .returned (.tuple #[.agg (decG bs).2.cells, errI ads (decG bs).1]) ∧ Kp w1 w'
  same : ∀ w1, Kp w w1 → ∀ f g : FX, f.wf → g.wf → Calls Tryz.prog 51 #[.agg f.cells, .agg g.cells] w1 fun e w' => e = .returned (.bool (sameF f g)) ∧ Kp w1 w'
theorem FacC.kp {ads : List Addr} {w w' : World} (C : FacC ads w) (hk : Kp w w') : FacC ads w' where
  right := fun w1 h => C.right w1 (Kp.trans hk h)
  encOk := fun w1 h => C.encOk w1 (Kp.trans hk h)
  encBad := fun w1 h => C.encBad w1 (Kp.trans hk h)
  dec := fun w1 h => C.dec w1 (Kp.trans hk h)
  same := fun w1 h => C.same w1 (Kp.trans hk h)
theorem errI_some14 (ads : List Addr) (k : Int) (h : k ≠ 0) : ∃ q, errI ads k = .iface 240 (.pointer q) := ⟨_, if_neg h⟩
theorem same_refl14 (c : FX) : sameF c c = true := by unfold sameF; simp
open Go.RowKit Go.ChangeShapes Go.WideShapes

theorem cells5 {b : Nat} {t : TypeId} {w : World} {x0 x1 x2 x3 x4 : Value} (h : w.heap[b]? = some (.cells #[x0, x1, x2, x3, x4] t (0, 0))) : w.cell? ⟨b, 0, none⟩ = some x0 ∧ w.cell? ⟨b, 1, none⟩ = some x1 ∧ w.cell? ⟨b, 2, none⟩ = some x2 ∧ w.cell? ⟨b, 3, none⟩ = some x3 ∧ w.cell? ⟨b, 4, none⟩ = some x4 := by
  refine ⟨?_, ?_, ?_, ?_, ?_⟩ <;> (unfold World.cell?; dsimp only; rw [h]; rfl)
open Go.RowKit Go.ChangeShapes Go.WideShapes

theorem store_fl (w : World) (a : Addr) (x : Nat) : (store a (.float .f64 x)).run Tryz.prog w = match w.cell? a with
      | some _ => if w.frozen? a then .halt (.unsupported (.unsafePointer "a write to bytes that a string shares")) w else .ok () (w.setCell a (.float .f64 x))
      | none => match w.farStore Tryz.prog a (.float .f64 x) (Mode.plain == .atomic) with
        | .ok (w', _) => .ok () w'
        | .error h => .halt h w := run_store Tryz.prog w a (.float .f64 x) .plain rfl
open Go.RowKit Go.ChangeShapes Go.WideShapes

theorem panic_some {P : Program} (t : TypeId) (v : Value) (w : World) : (Instr.panic (.iface t v)).run P w = .halt (.panic (.iface t v)) w := rfl
theorem idemand_t (v : Value) (w : World) : Calls Tryz.prog 173 #[.bool true, v] w fun e w' => e = .returned (.tuple #[]) ∧ w = w' := by
  go_enter Tryz.func173, Tryz.ntmps173
  go_wp2
  go_end0
  exact ⟨rfl, rfl⟩
theorem idemand_f (a : Addr) (w : World) : Calls Tryz.prog 173 #[.bool false, snt a] w fun e w' => e = .panicked [{ v := snt a, recovered := false }] ∧ w = w' := by
  have hpn := panic_some (P := Tryz.prog) 240 (.pointer (some a)) w
  go_enter Tryz.func173, Tryz.ntmps173
  go_wp2
  exact ⟨rfl, rfl, rfl⟩

theorem l0 : (strOfNums []).toList = [] := by rw [Lib.toList_data]; rfl
open Go.RowKit Go.ChangeShapes Go.WideShapes

/-- A LIST OF PLACES in memory. -/
def PlC (v : Value) (ps : List (Int × Int)) (w : World) : Prop :=
  ∃ g cap, v = .slice (some ⟨g, 0, none⟩) ps.length cap ∧ ∀ j, j < ps.length → w.cell? ⟨g, 2 * j, none⟩ = some (.string (strOfNums [(ps.getD j (0, 0)).1])) ∧ w.cell? ⟨g, 2 * j + 1, none⟩ = some (.int .i64 (ps.getD j (0, 0)).2)
theorem PlC.kp {v : Value} {ps : List (Int × Int)} {w w' : World} (h : PlC v ps w) (hk : Kp w w') : PlC v ps w' := by
  obtain ⟨g, cap, h1, h2⟩ := h
  exact ⟨g, cap, h1, fun j hj => ⟨kp_cell hk (h2 j hj).1, kp_cell hk (h2 j hj).2⟩⟩
def actL : List (Int × Int) := [(97, 4), (46, 1000000)]
theorem two_pl (w : World) (a b c d : Int) : PlC (.slice (some ⟨w.heap.size, 0, none⟩) 2 2) [(a, b), (c, d)] (w.alloc (.cells #[.string (strOfNums [a]), .int .i64 b, .string (strOfNums [c]), .int .i64 d] 222)) := by
  refine ⟨w.heap.size, 2, rfl, fun j hj => ?_⟩
  have hj1 : j < 2 := hj
  have hr := (MapKept.heap_alloc w (.cells #[.string (strOfNums [a]), .int .i64 b, .string (strOfNums [c]), .int .i64 d] 222)).1
  match j, hj1 with
  | 0, _ | 1, _ => constructor <;> (unfold World.cell?; dsimp only; rw [hr]; rfl)
theorem actPl_own (w : World) : Calls Tryz.prog 166 #[] w fun e w' => e = .returned (.slice (some ⟨w.heap.size, 0, none⟩) 2 2) ∧ w' = w.alloc (.cells #[.string (strOfNums [97]), .int .i64 4, .string (strOfNums [46]), .int .i64 1000000] 222) := by
  go_enter Tryz.func166, Tryz.ntmps166
  go_wp2
  go_ret
  exact ⟨rfl, rfl⟩
theorem actPl_any (w : World) : Calls Tryz.prog 166 #[] w fun e w' => ∃ v, e = .returned v ∧ PlC v actL w' ∧ Kp w w' := by
  refine (actPl_own w).mono ?_
  rintro e w' ⟨rfl, rfl⟩
  exact ⟨_, rfl, two_pl w 97 4 46 1000000, kp_alloc _ _⟩
open Go.RowKit Go.ChangeShapes Go.WideShapes

/-- the text of the first k places; have they one? -/
def wrU (ps : List (Int × Int)) (ns : List Int) : Nat → List Int
  | 0 => []
  | k + 1 => wrU ps ns k ++ ([(ps.getD k (0, 0)).1] ++ dec (ns.getD k 0).toNat)
def okU (ps : List (Int × Int)) (ns : List Int) : Nat → Bool
  | 0 => true
  | k + 1 => okU ps ns k && decide (0 ≤ ns.getD k 0 ∧ ns.getD k 0 < (ps.getD k (0, 0)).2)
theorem wrU_len (ps : List (Int × Int)) (ns : List Int) : ∀ k, (wrU ps ns k).length ≤ 9 * k
  | 0 => Nat.le_refl _
  | k + 1 => by
    have := wrU_len ps ns k
    have h := dec_len (ns.getD k 0).toNat
    simp only [wrU, List.length_append, List.length_cons, List.length_nil]
    omega
theorem okU_no {ps : List (Int × Int)} {ns : List Int} : ∀ (k d : Nat), okU ps ns k = false → okU ps ns (k + d) = false
  | _, 0, h => h
  | k, d + 1, h => by
    rw [← Nat.add_assoc, okU, okU_no k d h]
    rfl

set_option maxRecDepth 20000 in
set_option maxHeartbeats 4000000 in
theorem write1_any (ads : List Addr) (h0 : 0 < ads.length) (ps : List (Int × Int)) (ns : List Int) (m : Nat) (hm : ps.length = m) (hm2 : ns.length = m) (hm3 : m ≤ 3) (hb : ∀ j, j < m → (ps.getD j (0, 0)).2 ≤ 1000000)
    (B0 B1 : Nat) (gp cp gn cn : Nat) (w : World) (V : St ads w) (T : Tab w) (c0 : w.cell? ⟨B0, 0, none⟩ = some (.slice (some ⟨gp, 0, none⟩) m cp)) (c1 : w.cell? ⟨B1, 0, none⟩ = some (.slice (some ⟨gn, 0, none⟩) m cn))
    (hp : ∀ j, j < m → w.cell? ⟨gp, 2 * j, none⟩ = some (.string (strOfNums [(ps.getD j (0, 0)).1])) ∧ w.cell? ⟨gp, 2 * j + 1, none⟩ = some (.int .i64 (ps.getD j (0, 0)).2))
    (hn : ∀ j, j < m → w.cell? ⟨gn, j, none⟩ = some (.int .i64 (ns.getD j 0))) :
    Calls Tryz.prog 172 #[.pointer (some ⟨B0, 0, none⟩), .pointer (some ⟨B1, 0, none⟩)] w fun e w' =>
      ((okU ps ns m = true ∧ e = .returned (.string (strOfNums (wrU ps ns m)))) ∨ (okU ps ns m = false ∧ e = .panicked [{ v := snt (ads[0]'h0), recovered := false }])) ∧ Kp w w' := by
  have CE := fun w1 (hk : Kp w w1) => kp_cell hk (V.cell 0 (by decide))
  obtain ⟨a0, ha0⟩ : ∃ a, ads[0]'h0 = a := ⟨_, rfl⟩
  rw [ha0] at CE ⊢
  replace CE : ∀ w1, Kp w w1 → w1.cell? ⟨0, 0, none⟩ = some (snt a0) := CE
  have CE := Lib.hid CE
  have HT := Lib.hid T
  have HP := Lib.hid hp
  have HN := Lib.hid hn
  have HB := Lib.hid hb
  have C0 := Lib.hid c0
  have C1 := Lib.hid c1
  obtain ⟨L, hL⟩ : ∃ L : Int, (m : Int) = L := ⟨_, rfl⟩
  have HL := Lib.hid hL
  have HM := Lib.hid hm3
  have l3 : L ≤ 3 := by omega
  clear V T hp hn hb ha0 hm hm2 c1 hm3
  go_enter Tryz.func172, Tryz.ntmps172
  go_wp2
  go_loopw [3, 8] (fun u i wr => ∃ j : Nat, j ≤ m ∧ i = .int .i64 j ∧ u = .string (strOfNums (wrU ps ns j)) ∧ okU ps ns j = true ∧ Kp w wr) (fun _ i _ => m - (intOf i).toNat)
  case atStart => exact ⟨0, Nat.zero_le _, rfl, rfl, rfl, Kp.refl _⟩
  case round =>
    obtain ⟨j, hj, rfl, rfl, hok, hk⟩ := hrel
    have KR := Lib.hid hk
    have c0 := kp_cell hk C0.out
    have c1 := kp_cell hk C1.out
    obtain ⟨jj, hjj⟩ : ∃ jj : Int, (j : Int) = jj := ⟨_, rfl⟩
    rw [hjj]
    have hLL := HL.out
    by_cases hlt : j < m
    · have hjl : jj < L := by omega
      have hj0 : 0 ≤ jj := by omega
      obtain ⟨hp1, hp2⟩ := HP.out j hlt
      have hp1 := kp_cell hk hp1
      have hp2 := kp_cell hk hp2
      have hn1 := kp_cell hk (HN.out j hlt)
      have hb1 := HB.out j hlt
      have htn : jj.toNat = j := by omega
      obtain ⟨mk, hmk⟩ : ∃ s, strOfNums [(ps.getD j (0, 0)).1] = s := ⟨_, rfl⟩
      obtain ⟨bb, hbb⟩ : ∃ s, (ps.getD j (0, 0)).2 = s := ⟨_, rfl⟩
      obtain ⟨nv, hnv⟩ : ∃ s, ns.getD j 0 = s := ⟨_, rfl⟩
      obtain ⟨uu, huu⟩ : ∃ s, strOfNums (wrU ps ns j) = s := ⟨_, rfl⟩
      rw [hmk] at hp1
      rw [hbb] at hp2 hb1
      rw [hnv] at hn1
      rw [huu]
      replace hp1 : wr.cell? ⟨gp, jj.toNat * 2, none⟩ = some (.string mk) := by rw [htn, Nat.mul_comm]; exact hp1
      replace hp2 : wr.cell? ⟨gp, jj.toNat * 2 + 1, none⟩ = some (.int .i64 bb) := by rw [htn, Nat.mul_comm]; exact hp2
      replace hn1 : wr.cell? ⟨gn, jj.toNat, none⟩ = some (.int .i64 nv) := by rw [htn]; exact hn1
      have HJ := Lib.hid hjj
      have HK := Lib.hid hmk
      have HBB := Lib.hid hbb
      have HNV := Lib.hid hnv
      have HUU := Lib.hid huu
      have HOK := Lib.hid hok
      have HLT := Lib.hid hlt
      have HTN := Lib.hid htn
      clear hjj hmk hbb hnv huu hok hlt hk hj hLL htn
      go_wp2
      have k2 := kp_alloc wr (.cells #[.string mk, .int .i64 bb] 222)
      have hr2 := (MapKept.heap_alloc wr (.cells #[.string mk, .int .i64 bb] 222)).1
      obtain ⟨w2, hw2⟩ : ∃ w2, wr.alloc (.cells #[.string mk, .int .i64 bb] 222) = w2 := ⟨_, rfl⟩
      obtain ⟨p5, hp5⟩ : ∃ p, wr.heap.size = p := ⟨_, rfl⟩
      rw [hw2] at k2 hr2 ⊢
      rw [hp5] at hr2 ⊢
      have c12 := kp_cell k2 c1
      have n12 := kp_cell k2 hn1
      have f0 : w2.cell? ⟨p5, 0, none⟩ = some (.string mk) := by unfold World.cell?; dsimp only; rw [hr2]; rfl
      have f1 : w2.cell? ⟨p5, 1, none⟩ = some (.int .i64 bb) := by unfold World.cell?; dsimp only; rw [hr2]; rfl
      have ce := CE.out _ (Kp.trans KR.out k2)
      have c12' : w2.drew.cell? ⟨B1, 0, none⟩ = some (.slice (some ⟨gn, 0, none⟩) m cn) := c12
      have n12' : w2.drew.cell? ⟨gn, jj.toNat, none⟩ = some (.int .i64 nv) := n12
      have f0' : w2.drew.cell? ⟨p5, 0, none⟩ = some (.string mk) := f0
      have f1' : w2.drew.cell? ⟨p5, 1, none⟩ = some (.int .i64 bb) := f1
      have ce' : w2.drew.cell? ⟨0, 0, none⟩ = some (snt a0) := ce
      have K2 := Lib.hid (Kp.trans KR.out k2)
      clear hr2 hw2 hp5 k2 hp1 hp2 c0 c1 hn1
      by_cases hg : 0 ≤ nv ∧ nv < bb
      · have d1 : decide (0 ≤ nv) = true := decide_eq_true hg.1
        have d2 : decide (nv < bb) = true := decide_eq_true hg.2
        have HG := Lib.hid hg
        have g1 := hg.1
        have g2 := hg.2
        clear hg
        go_still_tail 15, (by kernel_rfl)
        change wpList _ _ _ _ _ w2.drew
        go_wp2_with (go_at_call 173; (with_reducible refine (idemand_t _ _).mono ?_); rintro e w' ⟨rfl, rfl⟩)
        obtain ⟨w3, hw3⟩ : ∃ w3, w2.drew = w3 := ⟨_, rfl⟩
        have K3 := Lib.hid (K2.out.drew)
        rw [hw3] at K3 c12' n12' f0' f1' ⊢
        clear c12 n12 f0 f1 ce ce' hw3 f1'
        have hd8 := dec_len nv.toNat
        have hmk1 : mk.size = 1 := by rw [← HK.out, strOfNums_size]; rfl
        have hu9 : uu.size ≤ 27 := by
          have h1 := wrU_len ps ns j
          have h2 := HM.out
          have h3 := HLT.out
          rw [← HUU.out, strOfNums_size]; omega
        have HI := fun w1 (hk : Kp w3 w1) => itoa_any nv.toNat (by omega) nv (by omega) w1 (HT.out.kp (Kp.trans K3.out hk))
        obtain ⟨dd, hdd⟩ : ∃ s, strOfNums (dec nv.toNat) = s := ⟨_, rfl⟩
        rw [hdd] at HI
        have HI := Lib.hid HI
        have hds : dd.size ≤ 8 := by rw [← hdd, strOfNums_size]; exact hd8
        obtain ⟨t1, ht1⟩ : ∃ s, mk ++ dd = s := ⟨_, rfl⟩
        obtain ⟨t2, ht2⟩ : ∃ s, uu ++ t1 = s := ⟨_, rfl⟩
        have HT2 := Lib.hid (show strOfNums (wrU ps ns (j + 1)) = t2 by
          rw [← ht2, ← ht1, ← HUU.out, ← HK.out, ← hdd, str_append, str_append, wrU, HNV.out])
        have ht1s : t1.size = mk.size + dd.size := by rw [← ht1, ByteArray.size_append]
        have HS1 := Lib.hid (show ¬ 9223372036854775807 < mk.size + dd.size by omega)
        have HS2 := Lib.hid (show ¬ 9223372036854775807 < uu.size + t1.size by omega)
        have HC1 := Lib.hid ht1
        have HC2 := Lib.hid ht2
        have HG9 := Lib.hid (show okU ps ns (j + 1) = true by rw [okU, HOK.out, HNV.out, HBB.out, decide_eq_true HG.out]; rfl)
        clear hd8 hmk1 hu9 hdd hds ht1 ht2 ht1s
        refine wp_region_held_drew (S := fun w' => Kp w3 w') (by kernel_rfl) ?_ (fun hHeld => ?_)
        · exact (Kp.refl w3).drew
        refine tkW ?_ 0 ?_ ?_; rotate_left
        · intro w hSw; go_simp; try rfl
        go_simp
        refine tkW ?_ 1 ?_ ?_; rotate_left
        · intro w hSw; go_simp; try rfl
        go_simp
        refine tkW ?_ 2 ?_ ?_; rotate_left
        · intro w hSw; have q := kp_cell hSw f0'; go_simp; try rfl
        go_simp
        refine tkW ?_ 3 ?_ ?_; rotate_left
        · intro w hSw; have q := kp_cell hSw c12'; go_simp; try rfl
        go_simp
        refine tkW ?_ 4 ?_ ?_; rotate_left
        · intro w hSw; go_simp; try rfl
        go_simp
        refine tkW ?_ 5 ?_ ?_; rotate_left
        · intro w hSw; go_simp; try rfl
        go_simp
        refine tkW ?_ 6 ?_ ?_; rotate_left
        · intro w hSw; have q := kp_cell hSw n12'; go_simp; try rfl
        go_simp
        refine wpAnyH_ready (rs := [7]) (by kernel_rfl) (by simp) ?_
        refine AllReadyH.cons rfl (fun K hK => ?_) AllReadyH.nil
        go_simp
        go_wp2_with (go_at_call 174; (with_reducible refine (HI.out _ hHeld).mono ?_); rintro e w4 ⟨rfl, hk4⟩; have K4 := Lib.hid (Kp.trans hHeld hk4); clear hk4)
        refine hK.out _ _ ?_ (fun hHeld => ?_)
        · exact K4.out
        clear hK K
        refine tkW ?_ 8 ?_ ?_; rotate_left
        · intro w hSw; go_simp; rw [if_neg HS1.out, HC1.out]
        go_simp
        refine tkW ?_ 9 ?_ ?_; rotate_left
        · intro w hSw; go_simp; rw [if_neg HS2.out, HC2.out]
        go_simp
        refine tkW ?_ 10 ?_ ?_; rotate_left
        · intro w hSw; go_simp; try rfl
        go_simp
        refine wpAnyH_done (by kernel_rfl) ?_ _
        go_wp2
        have hj1 : (j : Int) = jj := HJ.out
        have hlt1 : j < m := HLT.out
        refine ⟨⟨j + 1, hlt1, ?_, ?_, HG9.out, Kp.trans K3.out hHeld⟩, ?_⟩
        · rw [← hj1]; rfl
        · rw [HT2.out]
        · simp [intOf]; omega
      · have hno : okU ps ns m = false := by
          have e1 : okU ps ns (j + 1) = false := by
            rw [okU, HNV.out, HBB.out, decide_eq_false hg, Bool.and_false]
          have hlt1 : j < m := HLT.out
          have := okU_no (j + 1) (m - (j + 1)) e1
          rwa [show j + 1 + (m - (j + 1)) = m by omega] at this
        have HNO := Lib.hid hno
        clear hno
        by_cases g1 : 0 ≤ nv
        · have g2 : ¬ nv < bb := fun q => hg ⟨g1, q⟩
          have d1 : decide (0 ≤ nv) = true := decide_eq_true g1
          have d2 : decide (nv < bb) = false := decide_eq_false g2
          clear hg
          go_still_tail 15, (by kernel_rfl)
          change wpList _ _ _ _ _ w2.drew
          go_wp2_with (go_at_call 173; (with_reducible refine (idemand_f _ _).mono ?_); rintro e w' ⟨rfl, rfl⟩)
          exact ⟨rfl, .inr ⟨HNO.out, rfl⟩, K2.out.drew⟩
        · have d1 : decide (0 ≤ nv) = false := decide_eq_false g1
          clear hg
          refine wp_region_held_drew (S := fun w' => Kp w2 w') (by kernel_rfl) ?_ (fun hHeld => ?_)
          · exact (Kp.refl w2).drew
          refine tkW ?_ 0 ?_ ?_; rotate_left
          · intro w hSw; have q := kp_cell hSw c12; go_simp; try rfl
          go_simp
          refine tkW ?_ 1 ?_ ?_; rotate_left
          · intro w hSw; go_simp; try rfl
          go_simp
          refine tkW ?_ 2 ?_ ?_; rotate_left
          · intro w hSw; go_simp; try rfl
          go_simp
          refine tkW ?_ 3 ?_ ?_; rotate_left
          · intro w hSw; have q := kp_cell hSw n12; go_simp; try rfl
          go_simp
          refine tkW ?_ 4 ?_ ?_; rotate_left
          · intro w hSw; go_simp; try rfl
          go_simp
          refine tkW ?_ 5 ?_ ?_; rotate_left
          · intro w hSw; go_simp; try rfl
          go_simp
          refine skW 6 ?_
          go_simp
          refine skW 7 ?_
          go_simp
          refine skW 8 ?_
          go_simp
          refine skW 9 ?_
          go_simp
          refine skW 10 ?_
          go_simp
          refine skW 11 ?_
          go_simp
          refine skW 12 ?_
          go_simp
          refine tkW ?_ 13 ?_ ?_; rotate_left
          · intro w hSw; go_simp; try rfl
          go_simp
          refine tkW ?_ 14 ?_ ?_; rotate_left
          · intro w hSw; have q := CE.out _ (Kp.trans K2.out hSw); go_simp; try rfl
          go_simp
          refine wpAnyH_ready (rs := [15]) (by kernel_rfl) (by simp) ?_
          refine AllReadyH.cons rfl (fun K hK => ?_) AllReadyH.nil
          go_simp
          go_wp2_with (go_at_call 173; (with_reducible refine (idemand_f _ _).mono ?_); rintro e w' ⟨rfl, rfl⟩)
          exact ⟨rfl, .inr ⟨HNO.out, rfl⟩, Kp.trans K2.out hHeld⟩
    · have hjm : j = m := by omega
      have hjl : ¬ jj < L := by omega
      subst hjm
      have HOK := Lib.hid hok
      clear hjj hlt hk hj hok c0 c1 hLL
      go_wp2
      go_ret
      exact ⟨.inl ⟨HOK.out, rfl⟩, KR.out⟩
open Go.RowKit Go.Extern.Stop Go.Stop Go.Extern


theorem door_str_panic (ads : List Addr) (p q : Addr) (old : Value) (k : Nat) (hk : k < ads.length) (older : List PanicEntry) (w : World) (V : St ads w)
    (hp : w.cell? p = some (.bool true)) (hq : w.cell? q = some old) (hz : w.frozen? q = false) :
    CallsD Tryz.prog 175 #[.pointer (some p), .pointer (some q)] (.panicking ({ v := snt ads[k], recovered := false } :: older)) w fun e u' w' =>
      e = .returned (.tuple #[]) ∧ u' = .panicking ({ v := snt ads[k], recovered := true } :: older) ∧ ∃ w1, Kp w w1 ∧ w' = w1.setCell q (snt ads[k]) := by
  have hqb := old_of_cell hq
  have hn := errorOf_any ads w V k hk
  obtain ⟨a, ha⟩ : ∃ a, ads[k] = a := ⟨_, rfl⟩
  rw [ha] at hn ⊢
  clear ha V
  refine callsD_of_wpS Tryz.func175 rfl fun c₀ cs hu => ?_
  apply wpS_seq
  apply wpS_region
  simp [wpOpsS, go_sem, recoverD, hu, Tryz.ntmps175, Exit.thenS]
  refine wpS_of_wp ?_
  change Code.wp _ _ _ { tmps := #[.pointer (some p), .pointer (some q), snt a, snt a, undef, undef, undef], defers := [] } _
  have HN := Lib.hid hn
  have HU := Lib.hid hu
  clear hn hu
  go_wp2_with (go_at_call 82; (with_reducible refine HN.out.mono ?_); rintro e w1 ⟨rfl, hw⟩; have hq1 : w1.cell? q = some old := (by rw [Below.cell hw hqb]; exact hq); have hz1 : w1.frozen? q = false := (by rw [Below.frozen hw hqb]; exact hz))
  exact ⟨rfl, _, rfl, _, results_none rfl _ _ _, rfl, rfl, w1, hw, rfl⟩

theorem door_str_idle (p q : Addr) (w : World) (hp : w.cell? p = some (.bool false)) :
    CallsD Tryz.prog 175 #[.pointer (some p), .pointer (some q)] .returning w fun e u' w' => e = .returned (.tuple #[]) ∧ u' = .returning ∧ w' = w := by
  refine callsD_of_wpS Tryz.func175 rfl fun c₀ cs hu => ?_
  apply wpS_seq
  apply wpS_region
  simp [wpOpsS, go_sem, recoverD, hu, Tryz.ntmps175, Exit.thenS]
  refine wpS_of_wp ?_
  change Code.wp _ _ _ { tmps := #[.pointer (some p), .pointer (some q), .nilIface, .nilIface, undef, undef, undef], defers := [] } _
  go_wp2
  cases c₀
  simp only at hu
  subst hu
  exact ⟨rfl, _, rfl, _, results_none rfl _ _ _, rfl, rfl, rfl⟩


set_option maxRecDepth 20000 in
theorem try_str_ret (f : FuncId) (caps : Array Value) (w : World) (G : Value → World → World → Prop) (hf : ∀ w, (callFunc f caps).run Tryz.prog w = .ok (.enter f caps) w)
    (H : ∀ w1, Below w.heap.size w w1 → w1.heap.size = w.heap.size + 2 → Calls Tryz.prog f caps w1 fun e w2 => ∃ v, e = .returned v ∧ Past w.heap.size w1 w2 ∧ G v w1 w2) :
    Calls Tryz.prog 171 #[.func (.func f) #[] caps] w fun e w' => ∃ v, e = .returned (.tuple #[v, .nilIface]) ∧ ∃ w1 w2, Below w.heap.size w w1 ∧ w1.heap.size = w.heap.size + 2 ∧ G v w1 w2 ∧ Below w.heap.size w2 w' ∧ Aside w.heap.size w2 w' := by
  have hmf : ∀ (fn : Fn) (first cap : Array Value) (w : World), (Instr.makeFunc fn first cap).run Tryz.prog w = .ok (.func fn first cap) w := fun _ _ _ _ => rfl
  have hN : ((w.alloc (.cells #[.nilIface] 26)).alloc (.cells #[.bool true] 4)).heap[w.heap.size]? = some (.cells #[.nilIface] 26) := try_new0 _ _ _
  have hM : ((w.alloc (.cells #[.nilIface] 26)).alloc (.cells #[.bool true] 4)).heap[w.heap.size + 1]? = some (.cells #[.bool true] 4) := try_new1 _ _ _
  have hB : Below w.heap.size w ((w.alloc (.cells #[.nilIface] 26)).alloc (.cells #[.bool true] 4)) := ((Below.refl _ _).alloc (Nat.le_refl _) _).alloc (by simp) _
  have hS : ((w.alloc (.cells #[.nilIface] 26)).alloc (.cells #[.bool true] 4)).heap.size = w.heap.size + 2 := by simp
  have HH := Lib.hid H
  have HN := Lib.hid hN
  have HM := Lib.hid hM
  have HB := Lib.hid hB
  have HS := Lib.hid hS
  clear H hN hM hB hS
  go_enter_defers Tryz.func171, Tryz.ntmps171
  go_wp2
  with_reducible refine (HH.out _ HB.out HS.out).mono ?_
  rintro e w2 ⟨v, rfl, hP, hG⟩
  have e0 : w2.heap[w.heap.size]? = some (.cells #[.nilIface] 26) := (hP.2 _ (by omega) (by rw [HS.out]; omega)).trans HN.out
  have e1 : w2.heap[w.heap.size + 1]? = some (.cells #[.bool true] 4) := (hP.2 _ (by omega) (by rw [HS.out]; omega)).trans HM.out
  have c0 : w2.cell? ⟨w.heap.size, 0, none⟩ = some .nilIface := by simp [World.cell?, e0]
  have c1 : w2.cell? ⟨w.heap.size + 1, 0, none⟩ = some (.bool true) := by simp [World.cell?, e1]
  have z0 : w2.frozen? ⟨w.heap.size, 0, none⟩ = false := by simp [World.frozen?, e0]
  have z1 : w2.frozen? ⟨w.heap.size + 1, 0, none⟩ = false := by simp [World.frozen?, e1]
  clear e0 e1
  go_wp2
  refine leaves_cons (f := 175) (args := #[.pointer (some ⟨w.heap.size + 1, 0, none⟩), .pointer (some ⟨w.heap.size, 0, none⟩)]) (by simp) (by simp [go_sem]) ?_
  refine (door_str_idle _ _ _ (by simp [go_sem, c1])).mono ?_
  rintro e u' w3 ⟨rfl, rfl, rfl⟩
  simp [Leaves, settle, results, Tryz.results171, go_sem, c0]
  have hb := ((Below.refl w.heap.size w2).setCell (show w.heap.size ≤ w.heap.size + 1 by omega) (.bool false) (p := ⟨w.heap.size + 1, 0, none⟩)).setCell (show w.heap.size ≤ w.heap.size by omega) (.nilIface) (p := ⟨w.heap.size, 0, none⟩)
  exact ⟨_, HB.out, HS.out, _, hG, hb, Aside.below hb fun b h0 h1 => by rw [heap_setCell_other _ _ _ _ h0, heap_setCell_other _ _ _ _ h1]⟩

set_option maxRecDepth 20000 in
theorem try_str_panic (ads : List Addr) (k : Nat) (hk : k < ads.length) (f : FuncId) (caps : Array Value) (w : World) (G : World → World → Prop) (hf : ∀ w, (callFunc f caps).run Tryz.prog w = .ok (.enter f caps) w)
    (H : ∀ w1, Below w.heap.size w w1 → w1.heap.size = w.heap.size + 2 → Calls Tryz.prog f caps w1 fun e w2 => e = .panicked [{ v := snt ads[k], recovered := false }] ∧ St ads w2 ∧ Past w.heap.size w1 w2 ∧ G w1 w2) :
    Calls Tryz.prog 171 #[.func (.func f) #[] caps] w fun e w' => e = .returned (.tuple #[.string ⟨#[]⟩, snt ads[k]]) ∧ Mid w G w' := by
  have hmf : ∀ (fn : Fn) (first cap : Array Value) (w : World), (Instr.makeFunc fn first cap).run Tryz.prog w = .ok (.func fn first cap) w := fun _ _ _ _ => rfl
  have hN : ((w.alloc (.cells #[.nilIface] 26)).alloc (.cells #[.bool true] 4)).heap[w.heap.size]? = some (.cells #[.nilIface] 26) := try_new0 _ _ _
  have hM : ((w.alloc (.cells #[.nilIface] 26)).alloc (.cells #[.bool true] 4)).heap[w.heap.size + 1]? = some (.cells #[.bool true] 4) := try_new1 _ _ _
  have hB : Below w.heap.size w ((w.alloc (.cells #[.nilIface] 26)).alloc (.cells #[.bool true] 4)) := ((Below.refl _ _).alloc (Nat.le_refl _) _).alloc (by simp) _
  have hS : ((w.alloc (.cells #[.nilIface] 26)).alloc (.cells #[.bool true] 4)).heap.size = w.heap.size + 2 := by simp
  have HH := Lib.hid H
  have HN := Lib.hid hN
  have HM := Lib.hid hM
  have HB := Lib.hid hB
  have HS := Lib.hid hS
  clear H hN hM hB hS
  go_enter_defers Tryz.func171, Tryz.ntmps171
  go_wp2
  with_reducible refine (HH.out _ HB.out HS.out).mono ?_
  rintro e w2 ⟨rfl, hV, hP, hG⟩
  have e0 : w2.heap[w.heap.size]? = some (.cells #[.nilIface] 26) := (hP.2 _ (by omega) (by rw [HS.out]; omega)).trans HN.out
  have e1 : w2.heap[w.heap.size + 1]? = some (.cells #[.bool true] 4) := (hP.2 _ (by omega) (by rw [HS.out]; omega)).trans HM.out
  have c0 : w2.cell? ⟨w.heap.size, 0, none⟩ = some .nilIface := by simp [World.cell?, e0]
  have c1 : w2.cell? ⟨w.heap.size + 1, 0, none⟩ = some (.bool true) := by simp [World.cell?, e1]
  have z0 : w2.frozen? ⟨w.heap.size, 0, none⟩ = false := by simp [World.frozen?, e0]
  have hd := door_str_panic ads ⟨w.heap.size + 1, 0, none⟩ ⟨w.heap.size, 0, none⟩ .nilIface k hk [] w2 hV c1 c0 z0
  have hlt : w.heap.size < w2.heap.size := old_of_cell c0
  clear e0 e1
  refine leaves_cons (f := 175) (args := #[.pointer (some ⟨w.heap.size + 1, 0, none⟩), .pointer (some ⟨w.heap.size, 0, none⟩)]) (by simp) (by simp [go_sem]) ?_
  refine hd.mono ?_
  rintro e u' w3 ⟨rfl, rfl, w4, hw4, rfl⟩
  have c4 : w4.cell? ⟨w.heap.size, 0, none⟩ = some .nilIface := by rw [Below.cell hw4 hlt]; exact c0
  simp [Leaves, settle, results, Tryz.results171, go_sem, c4]
  exact ⟨_, _, HB.out, HS.out, hG, (Below.mono hw4 (by omega)).setCell (show w.heap.size ≤ w.heap.size by omega) _⟩


theorem try_str_val (f : FuncId) (caps : Array Value) (s : ByteArray) (w : World) (hf : ∀ w, (callFunc f caps).run Tryz.prog w = .ok (.enter f caps) w)
    (H : ∀ w1, Kp w w1 → Calls Tryz.prog f caps w1 fun e w2 => e = .returned (.string s) ∧ Kp w1 w2) :
    Calls Tryz.prog 171 #[.func (.func f) #[] caps] w fun e w' => e = .returned (.tuple #[.string s, .nilIface]) ∧ Kp w w' := by
  refine (try_str_ret f caps w (fun u w1 w2 => u = .string s ∧ Kp w1 w2) hf fun w1 hb _ => ?_).mono ?_
  · refine (H w1 hb).mono ?_
    rintro e w2 ⟨rfl, hk⟩
    exact ⟨_, rfl, past_of hk, rfl, hk⟩
  · rintro e w' ⟨u, rfl, w1, w2, hb, _, ⟨rfl, hk⟩, hb2, _⟩
    exact ⟨rfl, Below.trans (Kp.trans hb hk) hb2⟩

theorem try_str_err (ads : List Addr) (k : Nat) (hk : k < ads.length) (f : FuncId) (caps : Array Value) (w : World) (V : St ads w) (hf : ∀ w, (callFunc f caps).run Tryz.prog w = .ok (.enter f caps) w)
    (H : ∀ w1, Kp w w1 → Calls Tryz.prog f caps w1 fun e w2 => e = .panicked [{ v := snt ads[k], recovered := false }] ∧ Kp w1 w2) :
    Calls Tryz.prog 171 #[.func (.func f) #[] caps] w fun e w' => e = .returned (.tuple #[.string ⟨#[]⟩, snt ads[k]]) ∧ Kp w w' := by
  refine (try_str_panic ads k hk f caps w (fun w1 w2 => Kp w1 w2) hf fun w1 hb _ => ?_).mono ?_
  · refine (H w1 hb).mono ?_
    rintro e w2 ⟨rfl, hk2⟩
    exact ⟨rfl, V.below (Kp.trans hb hk2), past_of hk2, hk2⟩
  · rintro e w' ⟨rfl, w1, w2, hb, _, hk2, hb2⟩
    exact ⟨rfl, Below.trans (Kp.trans hb hk2) hb2⟩

end Go.Proofs.YtpemeenfhkgmpaaGreatDoor
