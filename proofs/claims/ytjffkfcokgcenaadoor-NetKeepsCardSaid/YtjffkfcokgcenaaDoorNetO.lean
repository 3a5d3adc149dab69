/-
  NETS OF TWO NODES, as models (own work): letters from 0 to 1; moved there and back.
-/
import Derived.Test.YtjffkfcokgcenaaDoorNetE
namespace Go.Proofs.YtjffkfcokgcenaaDoor
open Go.RowKit Go.Shelf Go.ChangeShapes Go.WideShapes

/-- letters from 0 to 1 -/
def lt01 (d : List Int) : LtM := ⟨0, 1, d⟩
/-- a net of two nodes with such letters; is the way from 0 to 1 cut? -/
def gN (ds : List (List Int)) (c : Bool) (lost : Int) : NetM := ⟨2, ds.map lt01, [[false, c], [false, false]], lost⟩
theorem gN_new : NetM.new 2 = gN [] false 0 := rfl
theorem gN_put (ds : List (List Int)) (lost : Int) (d : List Int) (hl : ds.length < 64) (hd : d.length ≤ 1000) : (gN ds false lost).put (lt01 d) = ((true, 0), gN (ds ++ [d]) false lost) := by
  unfold NetM.put
  rw [if_neg (by show ¬ ((gN ds false lost).has 0 && (gN ds false lost).has 1) = false; simp [NetM.has, gN]), if_neg (by show ¬ 1000 < d.length; omega), if_neg (by show ¬ (gN ds false lost).isCut 0 1 = true; simp [NetM.isCut, gN]), if_neg (by show ¬ 63 < (ds.map lt01).length; rw [List.length_map]; omega)]
  show ((true, (0 : Int)), (⟨2, ds.map lt01 ++ [lt01 d], [[false, false], [false, false]], lost⟩ : NetM)) = _
  rw [show ds.map lt01 ++ [lt01 d] = (ds ++ [d]).map lt01 by simp]
  rfl
theorem gN_lose (ds : List (List Int)) (lost : Int) (d : List Int) (hd : d.length ≤ 1000) : (gN ds true lost).put (lt01 d) = ((false, 0), gN ds true (wrap64 (lost + 1))) := by
  unfold NetM.put
  rw [if_neg (by show ¬ ((gN ds true lost).has 0 && (gN ds true lost).has 1) = false; simp [NetM.has, gN]), if_neg (by show ¬ 1000 < d.length; omega), if_pos (by show (gN ds true lost).isCut 0 1 = true; simp [NetM.isCut, gN])]
  rfl
theorem gN_cut (ds : List (List Int)) (c is : Bool) (lost : Int) : (gN ds c lost).cutW 0 1 is = (0, gN ds is lost) := by
  unfold NetM.cutW
  rw [if_neg (by show ¬ ((gN ds c lost).has 0 && (gN ds c lost).has 1) = false; simp [NetM.has, gN])]
  rfl
theorem gN_there (ds : List (List Int)) (c : Bool) (lost : Int) (i : Int) (h0 : 0 ≤ i) (h1 : i.toNat < ds.length) : (gN ds c lost).there i = true := by
  simp [NetM.there, gN, h0]
  omega
theorem gN_getD (ds : List (List Int)) (c : Bool) (lost : Int) (i : Nat) (h1 : i < ds.length) : (gN ds c lost).f.getD i lt0 = lt01 ds[i] := by
  simp [gN, List.getD, h1]
theorem gN_take (ds : List (List Int)) (c : Bool) (lost : Int) (i : Int) (h0 : 0 ≤ i) (h1 : i.toNat < ds.length) : (gN ds c lost).take i = ((lt01 ds[i.toNat], 0), gN (ds.take i.toNat ++ ds.drop (i.toNat + 1)) c lost) := by
  unfold NetM.take
  rw [if_neg (by rw [gN_there ds c lost i h0 h1]; simp), gN_getD ds c lost _ h1]
  simp [NetM.but, gN, List.map_take, List.map_drop]
theorem gN_copy (ds : List (List Int)) (c : Bool) (lost : Int) (i : Int) (h0 : 0 ≤ i) (h1 : i.toNat < ds.length) (hl : ds.length < 64) : (gN ds c lost).copy i = (0, gN (ds ++ [ds[i.toNat]]) c lost) := by
  unfold NetM.copy
  rw [if_neg (by rw [gN_there ds c lost i h0 h1]; simp), if_neg (by show ¬ 63 < (ds.map lt01).length; rw [List.length_map]; omega), gN_getD ds c lost _ h1]
  simp [gN]
/-- one that is moved -/
def mvd (ds : List (List Int)) (i t : Nat) (x : List Int) : List (List Int) := (ds.take i ++ ds.drop (i + 1)).take t ++ x :: (ds.take i ++ ds.drop (i + 1)).drop t
theorem mvd_len {ds : List (List Int)} {i t : Nat} (x : List Int) (hi : i < ds.length) (_ht : t < ds.length) : (mvd ds i t x).length = ds.length := by
  unfold mvd
  simp only [List.length_append, List.length_take, List.length_cons, List.length_drop]
  omega
theorem but_len2 {ds : List (List Int)} {i : Nat} (hi : i < ds.length) : (ds.take i ++ ds.drop (i + 1)).length = ds.length - 1 := by
  simp only [List.length_append, List.length_take, List.length_drop]
  omega
theorem mvd_at {ds : List (List Int)} {i t : Nat} (x : List Int) (hi : i < ds.length) (ht : t < ds.length) : (mvd ds i t x)[t]? = some x := by
  have hb := but_len2 hi
  unfold mvd
  generalize ds.take i ++ ds.drop (i + 1) = b at hb
  rw [List.getElem?_append_right (by rw [List.length_take]; omega), List.length_take, show t - min t b.length = 0 by omega]
  rfl
theorem mvd_back {ds : List (List Int)} {i t : Nat} (hi : i < ds.length) (ht : t < ds.length) : mvd (mvd ds i t ds[i]) t i ds[i] = ds := by
  have hb := but_len2 hi
  have e1 : (mvd ds i t ds[i]).take t ++ (mvd ds i t ds[i]).drop (t + 1) = ds.take i ++ ds.drop (i + 1) := by
    unfold mvd
    generalize ds.take i ++ ds.drop (i + 1) = b at hb
    have hl : (b.take t).length = t := by rw [List.length_take]; omega
    rw [List.take_append_of_le_length (by omega), List.take_of_length_le (by omega : (b.take t).length ≤ t), List.drop_append, List.drop_of_length_le (by omega : (b.take t).length ≤ t + 1), hl, show t + 1 - t = 1 by omega]
    simp
  show ((mvd ds i t ds[i]).take t ++ (mvd ds i t ds[i]).drop (t + 1)).take i ++ ds[i] :: ((mvd ds i t ds[i]).take t ++ (mvd ds i t ds[i]).drop (t + 1)).drop i = ds
  rw [e1]
  have hl : (ds.take i).length = i := by rw [List.length_take]; omega
  rw [List.take_append_of_le_length (by omega), List.take_of_length_le (by omega : (ds.take i).length ≤ i), List.drop_append, List.drop_of_length_le (by omega : (ds.take i).length ≤ i), hl, show i - i = 0 by omega]
  simp
theorem gN_move (ds : List (List Int)) (c : Bool) (lost : Int) (i t : Int) (h0 : 0 ≤ i) (h1 : i.toNat < ds.length) (h2 : 0 ≤ t) (h3 : t.toNat < ds.length) : (gN ds c lost).move i t = (0, gN (mvd ds i.toNat t.toNat ds[i.toNat]) c lost) := by
  unfold NetM.move
  rw [if_neg (by rw [gN_there ds c lost i h0 h1, gN_there ds c lost t h2 h3]; simp), gN_getD ds c lost _ h1]
  simp [NetM.but, gN, mvd, List.map_take, List.map_drop]
theorem umod2_in (x n : Int) (h1 : 0 < n) (h2 : n ≤ 100000) : 0 ≤ wrap64 ((IntKind.u64.wrap x).tmod n) ∧ wrap64 ((IntKind.u64.wrap x).tmod n) < n := by
  have h0 : 0 ≤ IntKind.u64.wrap x := by
    simp only [IntKind.wrap, IntKind.signed, IntKind.bits]
    simp
    omega
  have h3 : (IntKind.u64.wrap x).tmod n = IntKind.u64.wrap x % n := Int.tmod_eq_emod_of_nonneg h0
  have h4 := Int.emod_nonneg (IntKind.u64.wrap x) (show n ≠ 0 by omega)
  have h5 := Int.emod_lt_of_pos (IntKind.u64.wrap x) h1
  have h6 : wrap64 ((IntKind.u64.wrap x).tmod n) = (IntKind.u64.wrap x).tmod n := by
    rw [h3]
    unfold wrap64
    omega
  rw [h6]
  exact ⟨by omega, by omega⟩
theorem wrap_i64N (z : Int) : IntKind.i64.wrap z = wrap64 z := by
  simp only [IntKind.wrap, IntKind.signed, IntKind.bits, wrap64]
  simp
  try omega
theorem u64_same (n : Int) (h0 : 0 ≤ n) (h1 : n ≤ 100000) : IntKind.u64.wrap n = n := by
  simp only [IntKind.wrap, IntKind.signed, IntKind.bits]
  simp
  omega
/-- a letter of those that were handed out -/
theorem Hand.at {B n : Nat} {ds : List (List Int)} {c : Bool} {lost : Int} {lv : Value} {ps : List LtP} {w : World} (h : Hand B (gN ds c lost).f lv ps w) (hn : ds.length = n) : ∃ la lc, lv = .slice la n lc ∧
    ∀ (k : Nat) (hk : k < ds.length), ∃ b o c', la = some ⟨b, 0, none⟩ ∧ ∀ w', Hand B (gN ds c lost).f lv ps w' → w'.cell? ⟨b, k * 3, none⟩ = some (.int .i64 0) ∧ w'.cell? ⟨b, k * 3 + 1, none⟩ = some (.int .i64 1) ∧ w'.cell? ⟨b, k * 3 + 2, none⟩ = some (.slice o ds[k].length c') ∧ SlB (.slice o ds[k].length c') ds[k] w' := by
  have hlen : (gN ds c lost).f.length = n := by show (ds.map lt01).length = n; rw [List.length_map]; exact hn
  have ho := h.own
  rw [hlen] at ho
  obtain ⟨la, lc, rfl⟩ := own_formG ho
  refine ⟨la, lc, rfl, fun k hk => ?_⟩
  have hpl : ps.length = n := own_lenG (E := pE) (by decide) ho
  have hkp : k < ps.length := by omega
  have hfs := h.fs
  have hpk : ps[k].l = lt01 ds[k] := by
    have e := congrArg (fun l => l[k]?) hfs
    simp only [List.getElem?_map, List.getElem?_eq_getElem hkp, Option.map_some] at e
    have e2 : (gN ds c lost).f[k]? = some (lt01 ds[k]) := by show (ds.map lt01)[k]? = _; rw [List.getElem?_map, List.getElem?_eq_getElem hk]; rfl
    rw [e2] at e
    exact Option.some.inj e
  rcases ho.2 with ⟨e, hz⟩ | ⟨b, cp, cur, e, hg, hh, hc, hm, hs, ht⟩
  · omega
  · injection e with e1 e2 e3
    have hv : ps[k].v = .slice ps[k].o ds[k].length ps[k].c := by unfold LtP.v; rw [hpk]; rfl
    refine ⟨b, ps[k].o, ps[k].c, e1, fun w' h' => ?_⟩
    have ho' := h'.own
    rw [hlen] at ho'
    have hd := (h'.dat ps[k] (List.getElem_mem hkp)).slb
    rw [hv, hpk] at hd
    obtain ⟨a2, cp2, e4, -, hc2⟩ := own_partG (E := pE) (by decide) ho'
    injection e4 with e5 _ _
    have hrow : ∀ (i : Nat) (u : Value), i < 3 → (pE.enc ps[k])[i]? = some u → w'.cell? ⟨b, k * 3 + i, none⟩ = some u := fun i u hi hu => by
      have h1 := row_at pE ps k hkp i hi
      have h2 := hc2 ⟨b, 0, none⟩ (by rw [← e5, e1]) (k * 3 + i) u (h1.trans hu)
      rw [add_plain, Nat.zero_add] at h2
      exact h2
    refine ⟨hrow 0 _ (by omega) ?_, hrow 1 _ (by omega) ?_, hrow 2 _ (by omega) ?_, hd⟩
    · show some (Value.int .i64 ps[k].l.a) = _; rw [hpk]; rfl
    · show some (Value.int .i64 ps[k].l.b) = _; rw [hpk]; rfl
    · show some ps[k].v = _; rw [hv]
end Go.Proofs.YtjffkfcokgcenaaDoor
