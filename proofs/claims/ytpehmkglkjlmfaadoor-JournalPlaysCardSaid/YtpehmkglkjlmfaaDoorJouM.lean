/-
  A JOURNAL AS IT IS TOLD (own work): what it holds, what each call answers and makes of its tape.
-/
import Derived.Test.YtpehmkglkjlmfaaDoorJouF
import Derived.Test.YtpehmkglkjlmfaaDoorTapM
namespace Go.Proofs.YtpehmkglkjlmfaaDoor
open Go.RowKit

structure JM where
  rows : List (List Int)
  dead : Bool

def putJ (j : JM) (m : TM) (rs : List (List Int)) : Int × JM × TM :=
  if j.dead = true then (9, j, m) else if ¬ okRs rs then (4, j, m) else if rs = [] then (0, j, m)
  else if (appM m (allF rs)).1 = 0 then
    (if (syncM (appM m (allF rs)).2).1 = 0 then (0, { rows := j.rows ++ rs, dead := false }, (syncM (appM m (allF rs)).2).2)
     else (7, { j with dead := true }, (syncM (appM m (allF rs)).2).2))
  else ((appM m (allF rs)).1, { j with dead := decide ((appM m (allF rs)).1 = 7) }, (appM m (allF rs)).2)
def compJ (j : JM) (m : TM) (rs : List (List Int)) : Int × JM × TM :=
  if j.dead = true then (9, j, m) else if ¬ okRs rs then (4, j, m)
  else if (swapM m (allF rs)).1 = 0 then (0, { rows := rs, dead := false }, (swapM m (allF rs)).2)
  else ((swapM m (allF rs)).1, { j with dead := decide ((swapM m (allF rs)).1 = 7) }, (swapM m (allF rs)).2)
/-- how many bytes of the tape are rows -/
def cutN (m : TM) : Int := ((allF (rdR m.all)).length : Int)
def openJ (m : TM) : Int × TM :=
  if cutN m < (m.all.length : Int) then cutsM m (cutN m) else (0, m)
def opened (m : TM) : JM := { rows := rdR m.all, dead := false }

/-- A JOURNAL AND ITS TAPE, between calls: what is sure are its rows' frames; if it lives, there is no tail. -/
structure JI (j : JM) (m : TM) : Prop where
  ok : okRs j.rows
  inb : ∀ r ∈ j.rows, InB r
  sure : m.sure = allF j.rows
  tail : j.dead = false → m.tail = []

theorem JI.len {j : JM} {m : TM} (h : JI j m) (hm : Mok m) : (allF j.rows).length ≤ 65536 := by
  rw [← h.sure]; have := hm.len; omega
theorem JI.num {j : JM} {m : TM} (h : JI j m) (hm : Mok m) : j.rows.length ≤ 9362 := by
  have := h.len hm
  have := allF_ge h.ok
  omega
theorem JI.step {j : JM} {m : TM} (h : JI j m) : JI j (stepM m).2 := by
  obtain ⟨e1, e2, -⟩ := stepM_same m
  exact ⟨h.ok, h.inb, by rw [e1]; exact h.sure, fun q => by rw [e2]; exact h.tail q⟩
theorem JI.dead {j : JM} {m : TM} (h : JI j m) : JI { j with dead := true } m := ⟨h.ok, h.inb, h.sure, fun q => by cases q⟩
theorem JI.room {j : JM} {m : TM} (h : JI j m) (n : Int) : JI j (roomM m n).2 := by
  unfold roomM
  split
  · exact ⟨h.ok, h.inb, h.sure, h.tail⟩
  · exact h
theorem JI.arm {j : JM} {m : TM} (h : JI j m) (n : Int) : JI j (armM m n) := ⟨h.ok, h.inb, h.sure, h.tail⟩
theorem okRs_app {rs ss : List (List Int)} (h : okRs rs) (k : okRs ss) : okRs (rs ++ ss) := fun r hr => by
  rcases List.mem_append.1 hr with q | q
  · exact h r q
  · exact k r q
theorem inRs_app {rs ss : List (List Int)} (h : ∀ r ∈ rs, InB r) (k : ∀ r ∈ ss, InB r) : ∀ r ∈ rs ++ ss, InB r := fun r hr => by
  rcases List.mem_append.1 hr with q | q
  · exact h r q
  · exact k r q
theorem jm_eta {j : JM} (h : ¬ j.dead = true) : ({ j with dead := false } : JM) = j := by
  cases j; simp only [JM.mk.injEq, true_and] at h ⊢; revert h; cases ‹Bool› <;> simp
theorem JI.put {j : JM} {m : TM} (h : JI j m) (hm : Mok m) {rs : List (List Int)} (hb : ∀ r ∈ rs, InB r) : JI (putJ j m rs).2.1 (putJ j m rs).2.2 ∧ Mok (putJ j m rs).2.2 := by
  unfold putJ
  split
  · exact ⟨h, hm⟩
  rename_i hd
  split
  · exact ⟨h, hm⟩
  rename_i hok
  have hok := Decidable.not_not.1 hok
  split
  · exact ⟨h, hm⟩
  have hin := allF_in hb hok
  have ht := h.tail (by simpa using hd)
  split
  · rename_i h0
    have ha := hm.app hin
    have hs := ha.sync
    obtain ⟨f1, f2, -⟩ := stepM_same m
    have e1 : (appM m (allF rs)).2.sure = m.sure ∧ (appM m (allF rs)).2.tail = m.tail ++ allF rs := by
      unfold appM at h0 ⊢
      split at h0
      · cases h0
      rename_i g
      rw [if_neg g]
      split at h0
      · rename_i g2; rw [if_pos g2]; exact ⟨f1, rfl⟩
      · rename_i g2; exact absurd h0 g2
    split
    · rename_i h1
      refine ⟨⟨okRs_app h.ok hok, inRs_app h.inb hb, ?_, ?_⟩, hs⟩
      · show (syncM (appM m (allF rs)).2).2.sure = _
        unfold syncM at h1 ⊢
        split at h1
        · rename_i g; rw [if_pos g]
          show (appM m (allF rs)).2.sure ++ (appM m (allF rs)).2.tail = _
          rw [e1.1, e1.2, ht, h.sure, allF_app, List.nil_append]
        · rename_i g; exact absurd h1 g
      · intro _
        show (syncM (appM m (allF rs)).2).2.tail = _
        unfold syncM at h1 ⊢
        split at h1
        · rename_i g; rw [if_pos g]
        · rename_i g; exact absurd h1 g
    · rename_i h1
      refine ⟨⟨h.ok, h.inb, ?_, fun q => by cases q⟩, hs⟩
      show (syncM (appM m (allF rs)).2).2.sure = _
      unfold syncM at h1 ⊢
      split at h1
      · exact absurd rfl h1
      · rename_i g; rw [if_neg g, (stepM_same _).1, e1.1, h.sure]
  · rename_i h0
    have ha := hm.app hin
    refine ⟨?_, ha⟩
    unfold appM at h0 ⊢
    split
    · have e : (decide ((6 : Int) = 7)) = false := rfl
      dsimp only
      rw [e, jm_eta hd]
      exact h
    · rename_i g
      rw [if_neg g] at h0
      split at h0
      · exact absurd rfl h0
      · rename_i g2
        rw [if_neg g2]
        rcases stepM_two m with q | q
        · exact absurd q g2
        · rw [q]
          exact h.step.dead
theorem JI.comp {j : JM} {m : TM} (h : JI j m) (hm : Mok m) {rs : List (List Int)} (hb : ∀ r ∈ rs, InB r) : JI (compJ j m rs).2.1 (compJ j m rs).2.2 ∧ Mok (compJ j m rs).2.2 := by
  unfold compJ
  split
  · exact ⟨h, hm⟩
  rename_i hd
  split
  · exact ⟨h, hm⟩
  rename_i hok
  have hok := Decidable.not_not.1 hok
  have hin := allF_in hb hok
  have ha := hm.swap hin
  split
  · rename_i h0
    refine ⟨⟨hok, hb, ?_, fun _ => ?_⟩, ha⟩
    · show (swapM m (allF rs)).2.sure = _
      unfold swapM at h0 ⊢
      split at h0
      · cases h0
      rename_i g
      rw [if_neg g]
      split at h0
      · rename_i g2; rw [if_pos g2]
      · rename_i g2; exact absurd h0 g2
    · show (swapM m (allF rs)).2.tail = _
      unfold swapM at h0 ⊢
      split at h0
      · cases h0
      rename_i g
      rw [if_neg g]
      split at h0
      · rename_i g2; rw [if_pos g2]
      · rename_i g2; exact absurd h0 g2
  · rename_i h0
    refine ⟨?_, ha⟩
    unfold swapM at h0 ⊢
    split
    · have e : (decide ((6 : Int) = 7)) = false := rfl
      dsimp only
      rw [e, jm_eta hd]
      exact h
    · rename_i g
      rw [if_neg g] at h0
      split at h0
      · exact absurd rfl h0
      · rename_i g2
        rw [if_neg g2]
        rcases stepM_two m with q | q
        · exact absurd q g2
        · rw [q]
          exact h.step.dead
theorem cutN_le (m : TM) : 0 ≤ cutN m ∧ cutN m ≤ (m.all.length : Int) := by
  have := rd_le m.all
  unfold cutN
  omega
theorem JI.opened {m : TM} (hm : Mok m) (ht : m.tail = []) (h0 : (openJ m).1 = 0) : JI (opened m) (openJ m).2 ∧ Mok (openJ m).2 := by
  have hin : InB m.all := hm.bs.app hm.bt
  have hc := cutN_le m
  have hmk : Mok (openJ m).2 := by
    unfold openJ
    split
    · exact hm.cuts _
    · exact hm
  refine ⟨⟨rd_okRs _, rd_in hin, ?_, fun _ => ?_⟩, hmk⟩
  · unfold openJ at h0 ⊢
    split
    · rename_i g
      rw [if_pos g] at h0
      unfold cutsM at h0 ⊢
      split at h0
      · cases h0
      rename_i g2
      rw [if_neg g2]
      split at h0
      · rename_i g3
        rw [if_pos g3]
        show m.all.take (cutN m).toNat = _
        unfold cutN
        rw [Int.toNat_natCast]
        exact rd_take m.all
      · rename_i g3; exact absurd h0 g3
    · rename_i g
      have e := rd_take m.all
      have e2 : (allF (rdR m.all)).length = m.all.length := by unfold cutN at g hc; omega
      rw [e2, List.take_length] at e
      show m.sure = allF (rdR m.all)
      rw [← e]
      unfold TM.all
      rw [ht, List.append_nil]
  · unfold openJ at h0 ⊢
    split
    · rename_i g
      rw [if_pos g] at h0
      unfold cutsM at h0 ⊢
      split at h0
      · cases h0
      rename_i g2
      rw [if_neg g2]
      split at h0
      · rename_i g3; rw [if_pos g3]
      · rename_i g3; exact absurd h0 g3
    · exact ht
/-- behind a crash the tape can be opened -/
theorem open_crash (m : TM) (n : Int) : (openJ (crashM m n)).1 = 0 := by
  have hc := cutN_le (crashM m n)
  unfold openJ
  split
  · unfold cutsM
    rw [if_neg (by omega)]
    have : (stepM (crashM m n)).1 = 0 := by
      unfold stepM crashM
      rw [if_neg (by simp), if_neg (by simp)]
    rw [if_pos this]
  · rfl
theorem put_num (j : JM) (m : TM) (rs : List (List Int)) : 0 ≤ (putJ j m rs).1 ∧ (putJ j m rs).1 ≤ 14 := by
  have h : 0 ≤ (appM m (allF rs)).1 ∧ (appM m (allF rs)).1 ≤ 14 := by
    have := stepM_two m
    unfold appM
    split
    · dsimp only; decide
    · split
      · dsimp only; decide
      · omega
  unfold putJ
  repeat' (split <;> try (dsimp only; decide))
  exact h
theorem comp_num (j : JM) (m : TM) (rs : List (List Int)) : 0 ≤ (compJ j m rs).1 ∧ (compJ j m rs).1 ≤ 14 := by
  have h : 0 ≤ (swapM m (allF rs)).1 ∧ (swapM m (allF rs)).1 ≤ 14 := by
    have := stepM_two m
    unfold swapM
    split
    · dsimp only; decide
    · split
      · dsimp only; decide
      · omega
  unfold compJ
  repeat' (split <;> try (dsimp only; decide))
  exact h
end Go.Proofs.YtpehmkglkjlmfaaDoor
