/-
  THE WALK OF TablesLists (own work).
-/
import Derived.Test.YtghjnhdepeiloaaDoorTabC
import Derived.Test.YtghjnhdepeiloaaDoorTabE
import Derived.Test.YtghjnhdepeiloaaDoorSlN
import Derived.Test.YtghjnhdepeiloaaDoorAppI
import Derived.Test.YtghjnhdepeiloaaDoorTmeV
namespace Go.Proofs.YtghjnhdepeiloaaDoor
open Go.RowKit Go.ChangeShapes Go.WideShapes

theorem own_oldI {w : World} {base n : Nat} {e : TypeId} {v : Value} {xs : List Value} (h : w.ownsRow base e 1 v n xs) {b : Nat} (hb : v.ownBlock = some b) : b < w.heap.size := by
  rcases h.2 with ⟨rfl, _⟩ | ⟨g, cap, cur, rfl, _, hh, _⟩
  · simp [Value.ownBlock] at hb
  · simp [Value.ownBlock] at hb
    subst hb
    exact old_of_row hh
/-- three lists of the call's own, apart from one another -/
structure ThreeR (base : Nat) (x y z : Value) (a b c : List Int) (w : World) : Prop where
  ox : w.ownsRow base 3 1 x a.length (a.map (Value.int .i64))
  oy : w.ownsRow base 3 1 y b.length (b.map (Value.int .i64))
  oz : w.ownsRow base 3 1 z c.length (c.map (Value.int .i64))
  xy : ∀ k, x.ownBlock = some k → y.ownBlock ≠ some k
  xz : ∀ k, x.ownBlock = some k → z.ownBlock ≠ some k
  yz : ∀ k, y.ownBlock = some k → z.ownBlock ≠ some k
theorem ThreeR.kp {base : Nat} {x y z : Value} {a b c : List Int} {w w' : World} (h : ThreeR base x y z a b c w) (hk : Kp w w') : ThreeR base x y z a b c w' := ⟨own_kp h.ox hk, own_kp h.oy hk, own_kp h.oz hk, h.xy, h.xz, h.yz⟩
theorem ThreeR.rot {base : Nat} {x y z : Value} {a b c : List Int} {w : World} (h : ThreeR base x y z a b c w) : ThreeR base y z x b c a w := ⟨h.oy, h.oz, h.ox, h.yz, fun k q g => h.xy k g q, fun k q g => h.xz k g q⟩
theorem ThreeR.app {base : Nat} {x y z : Value} {a b c : List Int} {w w' : World} (h : ThreeR base x y z a b c w) {x' : Value} {n : Int} (ho : w'.ownsRow base 3 1 x' (a.length + 1) (a.map (Value.int .i64) ++ [.int .i64 n])) (hg : w.grownBy w' x.ownBlock) (hb : ∀ k, x'.ownBlock = some k → x.ownBlock = some k ∨ w.heap.size ≤ k) :
    ThreeR base x' y z (a ++ [n]) b c w' := by
  refine ⟨?_, own_asideI h.oy hg (fun k q g => h.xy k g q), own_asideI h.oz hg (fun k q g => h.xz k g q), fun k q g => ?_, fun k q g => ?_, h.yz⟩
  · rw [List.length_append, List.map_append]; exact ho
  · rcases hb k q with q2 | q2
    · exact h.xy k q2 g
    · have := own_oldI h.oy g; omega
  · rcases hb k q with q2 | q2
    · exact h.xz k q2 g
    · have := own_oldI h.oz g; omega
theorem allT_at : ∀ m ∈ List.range 19, allT[m]? = some ((m : Int) + 1) := by decide
theorem take_next (f : Int → Bool) (m : Nat) (hm : m < 19) (n : Int) (hn : (m : Int) + 1 = n) : (allT.take (m + 1)).filter f = (allT.take m).filter f ++ (if f n = true then [n] else []) := by
  rw [List.take_add_one, allT_at m (List.mem_range.2 hm), hn, List.filter_append]
  congr 1
  simp only [Option.toList_some, List.filter_cons, List.filter_nil]
theorem take_len (f : Int → Bool) (m : Nat) : ((allT.take m).filter f).length ≤ 19 := Nat.le_trans (List.length_filter_le _ _) (by rw [List.length_take]; exact Nat.min_le_right _ _)
theorem three_new (w : World) (e : TypeId) (he : e = 3) : ThreeR w.heap.size (.slice (some ⟨w.heap.size, 0, none⟩) 0 0) (.slice (some ⟨w.heap.size + 1, 0, none⟩) 0 0) (.slice (some ⟨w.heap.size + 1 + 1, 0, none⟩) 0 0) [] [] [] (((w.alloc (.cells #[] e)).alloc (.cells #[] e)).alloc (.cells #[] e)) := by
  subst he
  have k1 := kp_alloc (w.alloc (.cells #[] 3)) (.cells #[] 3)
  have k2 := kp_alloc ((w.alloc (.cells #[] 3)).alloc (.cells #[] 3)) (.cells #[] 3)
  have a0 := own_emptyI w 3
  have a1 := own_emptyI (w.alloc (.cells #[] 3)) 3
  have a2 := own_emptyI ((w.alloc (.cells #[] 3)).alloc (.cells #[] 3)) 3
  have s1 : (w.alloc (.cells #[] 3)).heap.size = w.heap.size + 1 := by simp
  have s2 : ((w.alloc (.cells #[] 3)).alloc (.cells #[] 3)).heap.size = w.heap.size + 1 + 1 := by simp
  rw [s1] at a1
  rw [s2] at a2
  refine ⟨own_kp a0 (Kp.trans k1 k2), own_mono (own_kp a1 k2) (by omega), own_mono a2 (by omega), fun k q g => ?_, fun k q g => ?_, fun k q g => ?_⟩ <;> (simp [Value.ownBlock] at q g; omega)
end Go.Proofs.YtghjnhdepeiloaaDoor
