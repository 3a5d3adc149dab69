/-
  JOURNALS WHOSE POWER GOES (own work): the calls, whatever the tape; slices of rows.
-/
import Derived.Test.YtpehmkglkjlmfaaDoorJouW
import Derived.Test.YtpehmkglkjlmfaaDoorAppS
import Derived.Test.YtpehmkglkjlmfaaDoorSlH
namespace Go.Proofs.YtpehmkglkjlmfaaDoor
open Go.RowKit Go.ChangeShapes Go.WideShapes

variable {ads : List Addr} {R : Nat → TM → (Nat → Prop) → World → Prop} {J : Nat → Nat → JM → (Nat → Prop) → World → Prop} {W w w' : World} {q g : Nat} {room : Int} {rows rs fs ss : List (List Int)} {OJ OJ' O O' P P' : Nat → Prop} {j : JM} {m : TM}

theorem JT.putC (T : TapC ads W R) (C : JouC ads W R J) (h : JT R J W q g j m OJ O w) {a : Option Addr} {n c : Nat} (hb : ∀ r ∈ rs, InB r ∧ r.length ≤ 100000) (s : Sfe (Un OJ O) (.slice a n c) rs w) (hn : rs.length = n) (hl : n ≤ 100) :
    Calls Tryd.prog 28 #[.pointer (some ⟨q, 0, none⟩), .slice a n c] w fun e w' => e = .returned (errI ads (putJ j m rs).1) ∧ ∃ OJ' O', JT R J W q g (putJ j m rs).2.1 (putJ j m rs).2.2 OJ' O' w' ∧ Asd (Un OJ O) (Un OJ' O') w w' := by
  have hi := h.inv.put h.ok (rs := rs) (fun r hr => (hb r hr).1)
  refine (C.put w h.kW q g _ OJ _ O h.jr h.r h.dis h.ok h.inv a n c rs s hn hl hb).mono ?_
  rintro e w' ⟨rfl, OJ', O', jr, r, hd, ha⟩
  exact ⟨rfl, OJ', O', h.call T C jr r hd hi.2 hi.1 ha, ha⟩
theorem JT.compC (T : TapC ads W R) (C : JouC ads W R J) (h : JT R J W q g j m OJ O w) {a : Option Addr} {n c : Nat} (hb : ∀ r ∈ rs, InB r ∧ r.length ≤ 100000) (s : Sfe (Un OJ O) (.slice a n c) rs w) (hn : rs.length = n) (hl : n ≤ 100) :
    Calls Tryd.prog 31 #[.pointer (some ⟨q, 0, none⟩), .slice a n c] w fun e w' => e = .returned (errI ads (compJ j m rs).1) ∧ ∃ OJ' O', JT R J W q g (compJ j m rs).2.1 (compJ j m rs).2.2 OJ' O' w' ∧ Asd (Un OJ O) (Un OJ' O') w w' := by
  have hi := h.inv.comp h.ok (rs := rs) (fun r hr => (hb r hr).1)
  refine (C.comp w h.kW q g _ OJ _ O h.jr h.r h.dis h.ok h.inv a n c rs s hn hl hb).mono ?_
  rintro e w' ⟨rfl, OJ', O', jr, r, hd, ha⟩
  exact ⟨rfl, OJ', O', h.call T C jr r hd hi.2 hi.1 ha, ha⟩
theorem JT.armC (T : TapC ads W R) (C : JouC ads W R J) (h : JT R J W q g j m OJ O w) (n : Int) (n0 : -9223372036854775808 ≤ n) (n1 : n ≤ 9223372036854775807) :
    Calls Tryd.prog 29 #[.pointer (some ⟨g, 0, none⟩), .int .i64 n] w fun e w' => e = .returned (.tuple #[]) ∧ ∃ O', JT R J W q g j (armM m n) OJ O' w' ∧ Asd O O' w w' := by
  refine (T.arm w h.kW g m O h.r h.ok n n0 n1).mono ?_
  rintro e w' ⟨rfl, O', r, ha⟩
  exact ⟨rfl, O', h.tape T C r (h.ok.arm n n1) (h.inv.arm n) ha, ha⟩
theorem JT.crashC (T : TapC ads W R) (h : JT R J W q g j m OJ O w) (n : Int) (n0 : -9223372036854775808 ≤ n) (n1 : n ≤ 9223372036854775807) :
    Calls Tryd.prog 30 #[.pointer (some ⟨g, 0, none⟩), .int .i64 n] w fun e w' => e = .returned (.tuple #[]) ∧ ∃ O', R g (crashM m n) O' w' ∧ Kp W w' ∧ Asd O O' w w' := by
  refine (T.crash w h.kW g m O h.r h.ok n n0 n1).mono ?_
  rintro e w' ⟨rfl, O', r, ha⟩
  exact ⟨rfl, O', r, ha.kp h.kW (fun b hb => (T.mem h.r b hb).1), ha⟩
theorem JT.openC (T : TapC ads W R) (C : JouC ads W R J) (hk : Kp W w) (r0 : R g m O w) (hm : Mok m) (ht : m.tail = []) (h0 : (openJ m).1 = 0) :
    Calls Tryd.prog 11 #[.pointer (some ⟨g, 0, none⟩)] w fun e w' => ∃ q OJ O', e = .returned (.tuple #[.pointer (some ⟨q, 0, none⟩), .nilIface]) ∧ JT R J W q g (Go.Proofs.YtpehmkglkjlmfaaDoor.opened m) (openJ m).2 OJ O' w' ∧ (∀ b, OJ b → w.heap.size ≤ b) ∧ Asd O O' w w' := by
  refine (C.open_ok w hk g _ O r0 hm h0).mono ?_
  rintro e w' ⟨q, OJ, O', rfl, r', jr, hn, hd, ha⟩
  exact ⟨q, OJ, O', rfl, JT.opened T hk r0 hm ht h0 r' jr hd ha, hn, ha⟩

/-- whatever is sure -/
theorem livs_ok {s : List Int} (hb : InB s) (h1 : s.length ≤ 65536) (h2 : 0 ≤ room) (h3 : room ≤ 65536) : Mok (liv s room) :=
  ⟨hb, InB.nil, by show s.length + 0 ≤ 65536; omega, h2, h3, by show -1 ≤ -1; omega, by show -1 ≤ 9223372036854775807; omega⟩
theorem open_livs (s : List Int) (room : Int) : openJ (liv s room) = (0, liv (allF (rdR s)) room) ∧ opened (liv s room) = ⟨rdR s, false⟩ := by
  refine ⟨?_, by unfold opened; rw [liv_all]⟩
  have h1 := rd_take s
  have h2 := rd_le s
  unfold openJ cutN
  rw [liv_all]
  by_cases h : ((allF (rdR s)).length : Int) < (s.length : Int)
  · rw [if_pos h]
    unfold cutsM
    rw [liv_all, if_neg (by omega)]
    have hs : stepM (liv s room) = (0, liv s room) := step_liv s [] room
    rw [hs, if_pos rfl, Int.toNat_natCast, h1]
    rfl
  · rw [if_neg h]
    have e : (allF (rdR s)).length = s.length := by omega
    rw [e, List.take_length] at h1
    rw [← h1]
theorem put_arm {fs ss : List (List Int)} {room : Int} (ho : okRs ss) (hne : ss ≠ []) (hr : ((allF fs).length : Int) + ((allF ss).length : Int) ≤ room) :
    putJ ⟨fs, false⟩ (armM (liv (allF fs) room) 1) ss = (7, ⟨fs, true⟩, { sure := allF fs, tail := allF ss, room := room, left := 0, off := true }) := by
  unfold putJ
  rw [if_neg (by simp), if_neg (Decidable.not_not.2 ho), if_neg hne]
  have ha : appM (armM (liv (allF fs) room) 1) (allF ss) = (0, { sure := allF fs, tail := allF ss, room := room, left := 0, off := false }) := by
    unfold appM armM liv stepM
    dsimp only
    rw [if_neg (by simp; omega)]
    simp
  have hs : syncM { sure := allF fs, tail := allF ss, room := room, left := 0, off := false } = (7, { sure := allF fs, tail := allF ss, room := room, left := 0, off := true }) := by
    unfold syncM stepM
    simp
  rw [ha]
  dsimp only
  rw [if_pos rfl, hs, if_neg (by dsimp only; decide)]
theorem put_arm_nil {fs : List (List Int)} {m : TM} : putJ ⟨fs, false⟩ m [] = (0, ⟨fs, false⟩, m) := by
  unfold putJ
  rw [if_neg (by simp), if_neg (Decidable.not_not.2 (show okRs [] from fun r hr => by cases hr)), if_pos rfl]
theorem crash_arm (s t : List Int) (room n : Int) : crashM { sure := s, tail := t, room := room, left := 0, off := true } n = liv (s ++ t.take n.toNat) room := rfl
/-- what is there behind a Put whose power went: the rows ahead, and a beginning of its own -/
theorem keeps_rows {fs ss : List (List Int)} (h1 : okRs fs) (h2 : okRs ss) (k : Nat) : ∃ jn, jn ≤ ss.length ∧ rdR (allF fs ++ (allF ss).take k) = fs ++ ss.take jn := by
  obtain ⟨jn, hj, e⟩ := rd_cut h2 k
  exact ⟨jn, hj, by rw [rd_all h1, e]⟩

theorem slbb_take {b off n c k : Nat} (h : SlBB (.slice (some ⟨b, off, none⟩) n c) rs w) (hk : k ≤ n) : SlBB (.slice (some ⟨b, off, none⟩) k c) (rs.take k) w := by
  rcases h with ⟨rfl, a, cap, hv, _⟩ | ⟨b', off', cap, h0, hv, hc⟩
  · injection hv with h1 h2 h3
    obtain rfl : k = 0 := by omega
    exact .inl ⟨by simp, _, _, rfl, fun e => by cases e⟩
  · injection hv with h1 h2 h3
    injection h1 with h1
    injection h1 with e1 e2 _
    subst e1 e2 h2 h3
    by_cases hz : k = 0
    · subst hz
      exact .inl ⟨by simp, _, _, rfl, fun e => by cases e⟩
    · have hl : (rs.take k).length = k := by rw [List.length_take]; omega
      refine .inr ⟨b, off, c, by omega, by rw [hl], fun j hj => ?_⟩
      have hj2 : j < rs.length := by omega
      rw [List.getElem_take]
      exact hc j hj2
theorem row_sz : ∀ w, (Go.sizeOf 46).run Tryd.prog w = .ok 1 w := by
  obtain ⟨i0, hi, -, hz1, -⟩ := info_parts info_rowT
  intro w
  simp [sizeOf, typeInfo, hi, hz1]
theorem row_elem : Tryd.prog.elem 42 = 46 := by simp [Program.elem, Tryd.underlying42]
theorem row_sl : Tryd.prog.underlying 42 = some (.slice (Tryd.prog.elem 42)) := by simp [Program.elem, Tryd.underlying42]
/-- a beginning of rows that are the law's own -/
theorem own_headR {base n k : Nat} {v : Value} {us : List Value} {mm : Int} (h : w.ownsRow base 46 1 v n us) (hv : Vals us rs w) (hk : k ≤ n) (hmm : (k : Int) = mm) :
    ∃ A C, (∀ w, (Instr.slice 42 v none (some (.int .i64 mm)) none).run Tryd.prog w = .ok (.slice A k C) w) ∧ SlBB (.slice A k C) (rs.take k) w := by
  have hs := own_slbb h hv
  have e : mm.toNat = k := by omega
  rcases h.2 with ⟨rfl, rfl⟩ | ⟨g, cap, cur, rfl, hg, hh, hnc, _⟩
  · obtain rfl : k = 0 := by omega
    refine ⟨none, 0, fun w => ?_, .inl ⟨by simp, _, _, rfl, fun _ => rfl⟩⟩
    rw [run_slice_h w 42 _ _ _ row_sl .i64 _ (by omega) (by omega), row_elem, row_sz]
    simp [Result.andThen, sliced, e]
  · refine ⟨_, _, fun w => ?_, slbb_take hs hk⟩
    rw [run_slice_h w 42 _ _ _ row_sl .i64 _ (by omega) (by omega), row_elem, row_sz]
    simp [Result.andThen, sliced, Addr.add, e]
end Go.Proofs.YtpehmkglkjlmfaaDoor
