/-
  liaisonnum.Bytes, liaisonnum.Kept (own work): a copy with marked room behind, and whether it stands as it stood.
-/
import Derived.Test.YtjffkfcokgcenaaDoorSlB
namespace Go.Proofs.YtjffkfcokgcenaaDoor
open Go.RowKit Go.ChangeShapes Go.WideShapes

def marks : List Int := [201, 202, 203, 204, 205, 206]
/-- A COPY WITH MARKED ROOM: the row g. -/
def Marked (g cap : Nat) (bs : List Int) (w : World) : Prop :=
  ∃ cur, w.heap[g]? = some (.cells cur 5 (0, 0)) ∧ cur.size = cap ∧ bs.length + 6 = cap ∧ cur.toList = (bs ++ marks).map (Value.int .u8)
theorem Marked.kp {g cap : Nat} {bs : List Int} {w w' : World} (h : Marked g cap bs w) (hk : Kp w w') : Marked g cap bs w' := by
  obtain ⟨cur, h1, h2⟩ := h
  exact ⟨cur, kp_row hk h1, h2⟩

set_option maxRecDepth 20000 in
theorem numBytes_any (a : Option Addr) (cap : Nat) (bs : List Int) (len : Nat) (hlen : bs.length = len) (hl : len ≤ 100000) (w : World) (hs : SlB (.slice a len cap) bs w) :
    Calls Tryd.prog 24 #[.slice a len cap] w fun e w' => e = .returned (.slice (some ⟨w.heap.size, 0, none⟩) len (len + 6)) ∧ Marked w.heap.size (len + 6) bs w' ∧ Kp w w' := by
  obtain ⟨i0, hi, hz0, hz1, hz2⟩ := info_parts info_byte
  have HS := Lib.hid hs
  have HI := Lib.hid (And.intro hz1 hz2)
  have HI2 := Lib.hid hi
  have HI3 := Lib.hid hz0
  have HL := Lib.hid hlen
  clear hs hlen hz1 hz2 hi hz0
  go_enter Tryd.func24, Tryd.ntmps24
  go_wp2_with (first | (refine wpList_make_own _ rfl _ _ 33 rfl w.heap.size 5 i0 (.int .u8 0) 1 Tryd.underlying33 HI2.out HI3.out HI.out.1 .i64 .i64 _ (len + 6) rfl rfl ?m1 ?m2 ?m3 ?m4 ?_))
  case m1 => omega
  case m2 => rw [HI.out.2]; omega
  case m3 => unfold maxLen; omega
  case m4 => exact Nat.le_refl _
  rintro w1 hown1 hgr1
  have K1 : Hid (Kp w w1) := Lib.hid ((Below.refl _ _).grown hgr1 (Nat.le_refl _) (fun k hk => by cases hk))
  have HS1 := Lib.hid (HS.out.kp K1.out)
  have OW1 := Lib.hid hown1
  clear hown1 hgr1
  go_wp2_with (at_builtin; refine wpList_append_fits_any _ rfl (.tmp 7) (.tmp 8) 33 rfl w.heap.size 5 i0 1 Tryd.underlying33 HI2.out HI.out.1 w.heap.size 0 (len + 6) _ rfl OW1.out a len cap (bs.map (Value.int .u8)) rfl ?c1 HS1.out.app.1 HS1.out.app.2 (bytes_one bs) ?c2 ?_)
  case c1 => rw [List.length_map, HL.out, Nat.mul_one]
  case c2 => omega
  rintro w2 hown2 hgr2
  have K2 : Hid (Kp w w2) := Lib.hid (Below.grown K1.out hgr2 (Below.size K1.out) (fun k hk => by injection hk with hk; omega))
  have OW2 := Lib.hid (own_kp hown2 (kp_alloc w2 (.cells #[.int .u8 201, .int .u8 202, .int .u8 203, .int .u8 204, .int .u8 205, .int .u8 206] 5)))
  have N2 : Hid ((w2.alloc (.cells #[.int .u8 201, .int .u8 202, .int .u8 203, .int .u8 204, .int .u8 205, .int .u8 206] 5)).heap[w2.heap.size]? = some (.cells #[.int .u8 201, .int .u8 202, .int .u8 203, .int .u8 204, .int .u8 205, .int .u8 206] 5 (0, 0))) := Lib.hid (MapKept.heap_alloc w2 _).1
  clear hown2 hgr2
  go_wp2_with (at_builtin; refine wpList_append_fits _ rfl (.tmp 9) (.tmp 10) 33 rfl w.heap.size 5 i0 1 Tryd.underlying33 HI2.out HI.out.1 w.heap.size _ (len + 6) _ rfl OW2.out ⟨w2.heap.size, 0, none⟩ 6 6 (marks.map (Value.int .u8)) rfl rfl ?d1 ?d2 ?d3 ?_)
  case d1 =>
    intro j u hj
    rw [add_plain]
    unfold World.cell?
    dsimp only
    rw [N2.out]
    have hj6 : j < 6 := by
      rcases Nat.lt_or_ge j 6 with q | q
      · exact q
      · rw [List.getElem?_eq_none (by simpa [marks] using q)] at hj; cases hj
    match j, hj6, hj with
    | 0, _, hj | 1, _, hj | 2, _, hj | 3, _, hj | 4, _, hj | 5, _, hj => simpa [marks] using hj
  case d2 => exact bytes_one marks
  case d3 => omega
  rintro w3 hown3 hgr3
  have K3 : Hid (Kp w w3) := Lib.hid (Below.grown (Kp.trans K2.out (kp_alloc w2 _)) hgr3 (by have := Below.size K2.out; simp; omega) (fun k hk => by injection hk with hk; omega))
  have OW3 := Lib.hid hown3
  clear hown3 hgr3
  go_wp2
  go_ret
  refine ⟨rfl, ?_, K3.out⟩
  obtain ⟨g, cap3, cur, hv, hg, hh, hnc, hcm, hcs, htk, hxl⟩ := own_form OW3.out (by intro h; cases h)
  injection hv with h1 h2 h3
  injection h1 with h1
  injection h1 with h1
  subst h1 h3
  refine ⟨cur, hh, hcs, by rw [HL.out], ?_⟩
  rw [List.map_append, ← htk, List.take_of_length_le]
  simp [hcs]

theorem Marked.sl {g cap : Nat} {bs : List Int} {w : World} (h : Marked g cap bs w) : SlB (.slice (some ⟨g, 0, none⟩) bs.length cap) bs w := by
  obtain ⟨cur, h1, h2, h3, h4⟩ := h
  by_cases h0 : bs.length = 0
  · left
    exact ⟨List.length_eq_zero_iff.1 h0, _, cap, by rw [h0], fun h => by cases h⟩
  · right
    refine ⟨g, 0, cap, by omega, rfl, fun j hj => ?_⟩
    unfold World.cell?
    dsimp only
    rw [h1]
    simp only [Option.isSome_none, Bool.false_eq_true, if_false, Nat.zero_add]
    have e : cur.toList[j]? = some (.int .u8 (bs.getD j 0)) := by
      rw [h4, List.getElem?_map, List.getElem?_append_left hj]
      simp [List.getD, hj]
    simpa using e
theorem Marked.mark {g cap : Nat} {bs : List Int} {w : World} (h : Marked g cap bs w) (j : Nat) (hj : j < 6) : w.cell? ⟨g, bs.length + j, none⟩ = some (.int .u8 (marks.getD j 0)) := by
  obtain ⟨cur, h1, h2, h3, h4⟩ := h
  unfold World.cell?
  dsimp only
  rw [h1]
  simp only [Option.isSome_none, Bool.false_eq_true, if_false]
  have hm : j < marks.length := hj
  have e : cur.toList[bs.length + j]? = some (.int .u8 (marks.getD j 0)) := by
    rw [h4, List.getElem?_map, List.getElem?_append_right (by omega)]
    simp [List.getD, hm]
  simpa using e
end Go.Proofs.YtjffkfcokgcenaaDoor
