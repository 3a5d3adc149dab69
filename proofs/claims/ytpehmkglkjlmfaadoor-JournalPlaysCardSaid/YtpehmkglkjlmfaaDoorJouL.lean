/-
  JOURNALS THAT LIVE (own work): the laws' own journals, whose power isn't told.
-/
import Derived.Test.YtpehmkglkjlmfaaDoorJouC
namespace Go.Proofs.YtpehmkglkjlmfaaDoor
open Go.RowKit

/-- a tape whose bytes are all sure and whose power isn't told -/
def liv (s : List Int) (room : Int) : TM := { sure := s, tail := [], room := room, left := -1, off := false }
theorem liv_new (room : Int) : newM room = liv [] room := rfl
theorem liv_all (s : List Int) (room : Int) : (liv s room).all = s := by show s ++ [] = s; rw [List.append_nil]
theorem crash_liv (s : List Int) (room n : Int) : crashM (liv s room) n = liv s room := by
  unfold crashM liv
  dsimp only
  rw [List.take_nil, List.append_nil]
theorem liv_ok {rs : List (List Int)} {room : Int} (ho : okRs rs) (hb : ∀ r ∈ rs, InB r) (h1 : (allF rs).length ≤ 65536) (h2 : 0 ≤ room) (h3 : room ≤ 65536) : Mok (liv (allF rs) room) :=
  ⟨allF_in hb ho, InB.nil, by show (allF rs).length + 0 ≤ 65536; omega, h2, h3, by show -1 ≤ -1; omega, by show -1 ≤ 9223372036854775807; omega⟩
theorem liv_ji {rs : List (List Int)} {room : Int} (ho : okRs rs) (hb : ∀ r ∈ rs, InB r) : JI ⟨rs, false⟩ (liv (allF rs) room) := ⟨ho, hb, rfl, fun _ => rfl⟩
theorem put_bad {rows rs : List (List Int)} {m : TM} (h : ¬ okRs rs) : putJ ⟨rows, false⟩ m rs = (4, ⟨rows, false⟩, m) := by
  unfold putJ
  rw [if_neg (by simp), if_pos h]
theorem comp_bad {rows rs : List (List Int)} {m : TM} (h : ¬ okRs rs) : compJ ⟨rows, false⟩ m rs = (4, ⟨rows, false⟩, m) := by
  unfold compJ
  rw [if_neg (by simp), if_pos h]
theorem step_liv (s : List Int) (t : List Int) (room : Int) : stepM { sure := s, tail := t, room := room, left := -1, off := false } = (0, { sure := s, tail := t, room := room, left := -1, off := false }) := by
  unfold stepM
  rw [if_neg (by simp), if_neg (by simp)]
theorem put_liv {rows rs : List (List Int)} {room : Int} (ho : okRs rs) (hr : ((allF rows).length : Int) + ((allF rs).length : Int) ≤ room) :
    putJ ⟨rows, false⟩ (liv (allF rows) room) rs = (0, ⟨rows ++ rs, false⟩, liv (allF (rows ++ rs)) room) := by
  unfold putJ
  rw [if_neg (by simp), if_neg (Decidable.not_not.2 ho)]
  by_cases h : rs = []
  · rw [if_pos h, h, List.append_nil]
  · rw [if_neg h]
    have ha : appM (liv (allF rows) room) (allF rs) = (0, { sure := allF rows, tail := allF rs, room := room, left := -1, off := false }) := by
      unfold appM liv
      dsimp only
      rw [if_neg (by simp; omega), step_liv]
      rw [if_pos rfl]
      rfl
    have hs : syncM { sure := allF rows, tail := allF rs, room := room, left := -1, off := false } = (0, liv (allF rows ++ allF rs) room) := by
      unfold syncM liv
      rw [step_liv]
      rw [if_pos rfl]
    rw [ha]
    dsimp only
    rw [if_pos rfl, hs, if_pos rfl, allF_app]
theorem open_liv {rs : List (List Int)} {room : Int} (ho : okRs rs) : openJ (liv (allF rs) room) = (0, liv (allF rs) room) ∧ opened (liv (allF rs) room) = ⟨rs, false⟩ := by
  have e : rdR (liv (allF rs) room).all = rs := by rw [liv_all, rd_self ho]
  refine ⟨?_, by unfold opened; rw [e]⟩
  unfold openJ cutN
  rw [e, liv_all, if_neg (by omega)]
variable {ads : List Addr} {R : Nat → TM → (Nat → Prop) → World → Prop} {J : Nat → Nat → JM → (Nat → Prop) → World → Prop} {W w w' : World} {q g : Nat} {j j' : JM} {m m' : TM} {OJ OJ' O O' : Nat → Prop}
/-- a journal of the law's own that lives and has these rows -/
abbrev JL (R : Nat → TM → (Nat → Prop) → World → Prop) (J : Nat → Nat → JM → (Nat → Prop) → World → Prop) (W : World) (q g : Nat) (room : Int) (rs : List (List Int)) (OJ O : Nat → Prop) (w : World) : Prop := JT R J W q g ⟨rs, false⟩ (liv (allF rs) room) OJ O w
/-- a tape that is opened: whatever it holds, if it can be cut -/
theorem JT.opened (T : TapC ads W R) (hk : Kp W w) (r0 : R g m O w) (hm : Mok m) (ht : m.tail = []) (h0 : (openJ m).1 = 0) {w' : World} {q : Nat} {OJ O' : Nat → Prop} (r : R g (openJ m).2 O' w') (jr : J q g (opened m) OJ w') (hd : ∀ b, OJ b → ¬ O' b) (ha : Asd O O' w w') : JT R J W q g (opened m) (openJ m).2 OJ O' w' :=
  have h := JI.opened hm ht h0
  ⟨jr, r, hd, h.2, h.1, ha.kp hk (fun b hb => (T.mem r0 b hb).1)⟩
end Go.Proofs.YtpehmkglkjlmfaaDoor
