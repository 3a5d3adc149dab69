/-
  A NET's CODE KEEPS ITS CONTRACTS (own work): To: the letters as they are now.
-/
import Derived.Test.YtjffkfcokgcenaaDoorNtH
namespace Go.Proofs.YtjffkfcokgcenaaDoor
open Go.RowKit Go.Shelf Go.ChangeShapes Go.WideShapes
variable {w0 w w' W w3 : World} {q mb : Nat} {m : NetM} {v v' : Value} {ps ps' : List LtP} {ads : List Addr}

set_option maxRecDepth 100000 in
theorem cloneS_nil (w : World) : Calls Tryd.prog 31 #[.slice none 0 0] w fun r w' => r = .returned (.slice none 0 0) ∧ w = w' := by
  have hq : (binOp .eql 42 (.slice none 0 0) (.slice none 0 0)).run Tryd.prog w = .ok (.bool true) w := by
    rw [run_eql_nil_slice w 42 45 none 0 0 0 0 Tryd.underlying42]; rfl
  go_enter Tryd.func31, Tryd.ntmps31
  go_wp2
  go_ret
  exact ⟨rfl, rfl⟩
set_option maxRecDepth 100000 in
theorem cloneS_any {B n : Nat} (hl : n ≤ 1000) (h : w.ownsRow B 45 3 v n (pE.row ps)) : Calls Tryd.prog 31 #[v] w fun r w' => ∃ v', r = .returned v' ∧ w'.ownsRow w.heap.size 45 3 v' n (pE.row ps) ∧ Kp w w' := by
  rcases h.2 with ⟨rfl, rfl⟩ | ⟨g, cp, cur, rfl, hrest⟩
  · have hps : ps = [] := List.length_eq_zero_iff.1 (own_lenG (E := pE) (by decide) h)
    subst hps
    refine (cloneS_nil w).mono ?_
    rintro e w' ⟨rfl, rfl⟩
    exact ⟨_, rfl, World.ownsRow_nil _ _ _ _, Kp.refl _⟩
  · have hpl : ps.length = n := own_lenG (E := pE) (by decide) h
    have hq : (binOp .eql 42 (.slice (some ⟨g, 0, none⟩) n cp) (.slice none 0 0)).run Tryd.prog w = .ok (.bool false) w := by
      rw [Lib.run_eql_slice_nil w 42 45 (some ⟨g, 0, none⟩) n cp 0 0 Tryd.underlying42]; rfl
    have OW0 := Lib.hid (show (w.alloc (.cells #[] 45)).ownsRow w.heap.size 45 3 (.slice (some ⟨w.heap.size, 0, none⟩) 0 0) 0 (pE.row []) from ⟨by simp [EncG.row], Or.inr ⟨w.heap.size, 0, #[], rfl, Nat.le_refl _, (MapKept.heap_alloc w _).1, Nat.le_refl _, by omega, by simp, by simp [EncG.row]⟩⟩)
    have K0 := Lib.hid (kp_alloc w (.cells #[] 45))
    have PX := Lib.hid ((own_partG (E := pE) (by decide) h).kp K0.out)
    have HPL := Lib.hid (And.intro hpl hl)
    clear h hrest hpl hl
    go_enter Tryd.func31, Tryd.ntmps31
    go_wp2_with (at_builtin; refine wpList_append_rwG (E := pE) ty_lt (by decide) _ rfl _ _ rfl w.heap.size _ 0 [] rfl OW0.out _ ps rfl PX.out ?d1 ?d2 ?_)
    case d1 => have := HPL.out; omega
    case d2 => exact Below.size K0.out
    rintro v5 w5 ho hg hv
    rw [HPL.out.1] at ho
    obtain ⟨a5, c5, rfl⟩ := own_formG ho
    have FO := Lib.hid ho
    have FK := Lib.hid (show Kp w w5 from Below.grown K0.out hg (Below.size K0.out) (fun k hk => by have := (OW0.out.lt k hk).1; omega))
    clear ho hg hv
    go_wp2
    go_ret
    exact ⟨_, rfl, FO.out, FK.out⟩
/-- the letters to a node, one by one -/
theorem toM_nil (nd : Int) : toM [] nd = [] := rfl
theorem toM_succ {f : List LtM} {j : Nat} {x : LtM} (h : f[j]? = some x) (nd : Int) : toM (f.take (j + 1)) nd = toM (f.take j) nd ++ (if x.b = nd then [(j, x)] else []) := by
  have hl := (List.getElem?_eq_some_iff.1 h).1
  have hx := (List.getElem?_eq_some_iff.1 h).2
  rw [List.take_succ_eq_append_getElem hl, hx]
  unfold toM
  rw [List.zipIdx_append, List.map_append, List.filter_append]
  congr 1
  have e : 0 + (f.take j).length = j := by rw [List.length_take]; omega
  rw [e]
  by_cases hb : x.b = nd
  · simp [List.zipIdx, hb]
  · simp [List.zipIdx, hb]
/-- WHAT To HANDS OUT: whatever body it is given that goes on, and that lets alone what the walk has laid for itself -/
def SeqT (lb : Array Value) (Own : Nat → Prop) (f : List LtM) (nd : Int) (w' : World) : Prop :=
  ∀ (l : Nat) (J : List (Nat × LtM) → World → Prop) (Ws : World),
    (∀ rs W W', J rs W → Ws.heap.size ≤ W.heap.size → Below Ws.heap.size W W' → J rs W') →
    (∀ rs W, J rs W → ∀ b, Own b → W.heap[b]? = w'.heap[b]?) →
    (∀ j x o c W, f[j]? = some x → x.b = nd → J (toM (f.take j) nd) W → Ws.heap.size ≤ W.heap.size → SlB (.slice o x.d.length c) x.d W →
      YieldAt Fence.wide 2 Tryd.prog l #[.int .i64 (j : Nat), .agg #[.int .i64 x.a, .int .i64 x.b, .slice o x.d.length c]] W fun e W' => e = .returned (.bool true) ∧ J (toM (f.take (j + 1)) nd) W' ∧ W.heap.size ≤ W'.heap.size ∧ ∀ b, Ws.heap.size ≤ b → b < W.heap.size → W'.heap[b]? = W.heap[b]?) →
    J [] Ws → (∀ b, Own b → b < Ws.heap.size) →
    Calls Tryd.prog 32 (#[.func (.yield l) #[] #[]] ++ lb) Ws fun e W' => (∃ v, e = .returned v) ∧ J (toM f nd) W'
end Go.Proofs.YtjffkfcokgcenaaDoor
