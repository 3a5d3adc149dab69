/-
  PARTS OF THIS PROOF (own work): JoinQ, SplQ, SplR, Enc8, Dec8, CisE, PvE, Val, Row.
-/
import Derived.Test.YtpemeenfhkgmpaaGreatDoorZs01
import Derived.Lib.SlBytesRow
import Derived.Lib.SmallJoins
import Derived.Recover
import Derived.Laws.Pointers
import Derived.Laws.Bits64b
import Derived.Lib.SliceRun
import Derived.OneCell
namespace Go.Proofs.YtpemeenfhkgmpaaGreatDoor
open Go.RowKit Go.ChangeShapes Go.WideShapes

/-- the bytes of one field, of a row -/
def fieldB (f : Int × List Int) : List Int := [f.1, 0, f.2.length] ++ f.2
def joinB (fs : List (Int × List Int)) : List Int := fs.flatMap fieldB
theorem joinB_next {fs : List (Int × List Int)} {j : Nat} (h : j < fs.length) : joinB (fs.take (j + 1)) = joinB (fs.take j) ++ fieldB fs[j] := by
  rw [List.take_add_one, List.getElem?_eq_getElem h]
  unfold joinB
  rw [List.flatMap_append]
  simp
def Small (fs : List (Int × List Int)) : Prop := ∀ f ∈ fs, 0 ≤ f.1 ∧ f.1 ≤ 255 ∧ f.2.length ≤ 200
open Go.RowKit Go.ChangeShapes Go.WideShapes

theorem byte_sz : ∀ w, (Go.sizeOf 5).run Tryz.prog w = .ok 1 w := by
  obtain ⟨i0, hi, -, hz1, -⟩ := info_parts info_byte
  intro w
  simp [sizeOf, typeInfo, hi, hz1]

open Go.RowKit Go.ChangeShapes Go.WideShapes

/-- WHAT THE BYTES SAY: the error's number, the fields; from the bytes bs on, the tag before: last, fields before: k. -/
def splitQ : Nat → List Int → Int → Nat → Int × List (Int × List Int)
  | 0, _, _, _ => (4, [])
  | f + 1, bs, last, k =>
    if bs.length = 0 then (0, [])
    else if bs.length < 3 then (2, [])
    else if bs.getD 0 0 ≤ last ∨ 200 < bs.getD 1 0 * 256 + bs.getD 2 0 ∨ k = 16 then (4, [])
    else if (bs.length : Int) - 3 < bs.getD 1 0 * 256 + bs.getD 2 0 then (2, [])
    else
      let r := splitQ f (bs.drop (3 + (bs.getD 1 0 * 256 + bs.getD 2 0).toNat)) (bs.getD 0 0) (k + 1)
      (r.1, (bs.getD 0 0, (bs.drop 3).take (bs.getD 1 0 * 256 + bs.getD 2 0).toNat) :: r.2)

/-- An append of the call's own row turns no block of another type; whatever the size. -/
theorem row_grows {w w' : World} {base n size : Nat} {e : TypeId} {v : Value} {xs : List Value} (hown : w.ownsRow base e size v n xs) (hgr : w.grownBy w' v.ownBlock) (b : Nat) (c : Array Value) (t : TypeId) (hb : w.heap[b]? = some (.cells c t (0, 0))) (ht : t ≠ e) :
    w'.heap[b]? = some (.cells c t (0, 0)) := by
  obtain ⟨-, hr⟩ := hown
  rcases hr with ⟨rfl, -⟩ | ⟨g, cap, cur, rfl, hg, hh, -⟩
  · rw [hgr.block b (old_of_row hb) (by simp [Value.ownBlock])]
    exact hb
  · rw [hgr.block b (old_of_row hb) ?_]
    · exact hb
    · intro q
      have : b = g := by simp [Value.ownBlock] at q; omega
      subst this
      rw [hh] at hb
      injection hb with hb
      injection hb with _ h2 _
      exact ht h2.symm
theorem own_grows {w w' : World} {base base' n m size : Nat} {e t : TypeId} {v d : Value} {xs ys : List Value} (hown : w.ownsRow base e size v n xs) (hgr : w.grownBy w' v.ownBlock) (hd : w.ownsRow base' t 1 d m ys) (ht : t ≠ e) : w'.ownsRow base' t 1 d m ys := by
  obtain ⟨h1, h2⟩ := hd
  refine ⟨h1, ?_⟩
  rcases h2 with h2 | ⟨g, cap, cur, hv, hg, hh, r⟩
  · exact Or.inl h2
  · exact Or.inr ⟨g, cap, cur, hv, hg, row_grows hown hgr g cur t hh ht, r⟩
theorem rows_kp {w0 w w' : World} {n size : Nat} {e : TypeId} {v : Value} {xs : List Value} (hown : w.ownsRow w0.heap.size e size v n xs) (hgr : w.grownBy w' v.ownBlock) (hk : Kp w0 w) : Kp w0 w' := by
  obtain ⟨-, hr⟩ := hown
  rcases hr with ⟨rfl, -⟩ | ⟨g, cap, cur, rfl, hg, hh, -⟩
  · exact Below.grown hk hgr (Below.size hk) (fun k hk' => by simp [Value.ownBlock] at hk')
  · exact Below.grown hk hgr (Below.size hk) (fun k hk' => by simp [Value.ownBlock] at hk'; omega)
/-- a field with the value of its data; the cells of such; the field -/
def cellQ (g : Int × List Int × Value) : List Value := [.int .i64 g.1, g.2.2]
def fldQ (g : Int × List Int × Value) : Int × List Int := (g.1, g.2.1)
theorem cellQ_at : ∀ (gs : List (Int × List Int × Value)) (j : Nat) (hj : j < gs.length), (gs.flatMap cellQ)[2 * j]? = some (.int .i64 gs[j].1) ∧ (gs.flatMap cellQ)[2 * j + 1]? = some gs[j].2.2
  | g :: gs, 0, _ => by simp [cellQ]
  | g :: gs, j + 1, hj => by
    have h := cellQ_at gs j (by simpa using hj)
    have e : 2 * (j + 1) = 2 * j + 2 := by omega
    have e2 : 2 * (j + 1) + 1 = 2 * j + 1 + 2 := by omega
    rw [e2, e]
    simpa [cellQ] using h
/-- THE DATA ARE ROWS OF THE CALL's OWN. -/
def OwnD (base : Nat) (gs : List (Int × List Int × Value)) (w : World) : Prop := ∀ g ∈ gs, w.ownsRow base 5 1 g.2.2 g.2.1.length (g.2.1.map (Value.int .u8)) ∧ InB g.2.1
theorem OwnD.kp {base : Nat} {gs : List (Int × List Int × Value)} {w w' : World} (h : OwnD base gs w) (hk : Kp w w') : OwnD base gs w' := fun g hg => ⟨own_kp (h g hg).1 hk, (h g hg).2⟩
theorem OwnD.grows {base b' n : Nat} {gs : List (Int × List Int × Value)} {w w' : World} {v : Value} {xs : List Value} (h : OwnD base gs w) (hown : w.ownsRow b' 122 2 v n xs) (hgr : w.grownBy w' v.ownBlock) : OwnD base gs w' :=
  fun g hg => ⟨own_grows hown hgr (h g hg).1 (by decide), (h g hg).2⟩
theorem own_slq {base base' n : Nat} {gs : List (Int × List Int × Value)} {w : World} {v : Value} (hn : gs.length = n) (h : w.ownsRow base 122 2 v n (gs.flatMap cellQ)) (hd : OwnD base' gs w) : SlQ v (gs.map fldQ) w := by
  subst hn
  obtain ⟨h1, h2⟩ := h
  rcases h2 with ⟨rfl, hn⟩ | ⟨g, cap, cur, rfl, hg, hh, hc, hm, hs, ht⟩
  · left
    have : gs = [] := List.length_eq_zero_iff.1 (by omega)
    subst this
    exact ⟨rfl, none, 0, rfl, fun _ => rfl⟩
  · by_cases h0 : gs.length = 0
    · left
      have : gs = [] := List.length_eq_zero_iff.1 h0
      subst this
      exact ⟨rfl, _, cap, rfl, fun h => by cases h⟩
    · right
      refine ⟨g, 0, cap, by simp; omega, by simp, fun j hj => ?_⟩
      have hj' : j < gs.length := by simpa using hj
      obtain ⟨q0, q1⟩ := cellQ_at gs j hj'
      rw [← ht] at q0 q1
      rw [List.getElem?_take, if_pos (by omega)] at q0 q1
      obtain ⟨d1, d2⟩ := hd gs[j] (List.getElem_mem _)
      have hsl := own_slb d1
      obtain ⟨a', c', he⟩ := hsl.form
      refine ⟨?_, gs[j].2.2, ?_, a', c', ?_, ?_, ?_⟩
      · unfold World.cell?
        dsimp only
        rw [hh]
        simp only [Option.isSome_none, Bool.false_eq_true, if_false, Nat.zero_add, Nat.mul_comm j 2]
        simpa [fldQ] using q0
      · unfold World.cell?
        dsimp only
        rw [hh]
        simp only [Option.isSome_none, Bool.false_eq_true, if_false, Nat.zero_add, Nat.mul_comm j 2]
        simpa using q1
      · simpa [fldQ] using he
      · simp only [List.getElem_map, fldQ]
        rw [← he]
        exact hsl
      · simpa [fldQ] using d2
theorem info_fieldT : (Tryz.prog.info? 122).map (fun i => (i.zero, i.size, i.bytes)) = some (some (.agg #[.int .i64 0, .slice none 0 0]), 2, 32) := by kernel_rfl
open Go.RowKit Go.ChangeShapes Go.WideShapes

/-- the fields of numbers, from tag i on -/
def rowF : Int → List Int → List (Int × List Int)
  | _, [] => []
  | i, n :: ns => if n = 0 then rowF (i + 1) ns else (i, beF 8 n.toNat) :: rowF (i + 1) ns
theorem rowF_snoc : ∀ (ns : List Int) (i x : Int), rowF i (ns ++ [x]) = rowF i ns ++ (if x = 0 then [] else [(i + ns.length, beF 8 x.toNat)])
  | [], i, x => by simp only [List.nil_append, rowF, List.length_nil]; split <;> simp
  | n :: ns, i, x => by
    have ih := rowF_snoc ns (i + 1) x
    have e : i + 1 + (ns.length : Int) = i + ((n :: ns).length : Nat) := by rw [List.length_cons]; omega
    rw [e] at ih
    simp only [List.cons_append, rowF, ih]
    split <;> simp
theorem rowF_len : ∀ (ns : List Int) (i : Int), (rowF i ns).length ≤ ns.length
  | [], _ => Nat.le_refl _
  | n :: ns, i => by
    have := rowF_len ns (i + 1)
    simp only [rowF]
    split <;> simp <;> omega
theorem rowF_mem : ∀ (ns : List Int) (i : Int), ∀ x ∈ rowF i ns, i ≤ x.1 ∧ x.1 < i + ns.length ∧ x.2.length ≤ 8 ∧ InB x.2
  | [], _, x, hx => by cases hx
  | n :: ns, i, x, hx => by
    simp only [rowF] at hx
    split at hx
    · have := rowF_mem ns (i + 1) x hx
      rw [List.length_cons]
      exact ⟨by omega, by omega, this.2.2⟩
    · rcases List.mem_cons.1 hx with rfl | hx
      · exact ⟨Int.le_refl _, by rw [List.length_cons]; dsimp only; omega, beF_len _ _, beF_inB _ _⟩
      · have := rowF_mem ns (i + 1) x hx
        rw [List.length_cons]
        exact ⟨by omega, by omega, this.2.2⟩
theorem enc_len {w : World} {base n : Nat} {e : TypeId} {v : Value} {xs : List Value} (h : w.ownsRow base e 1 v n xs) : ∃ a c, v = .slice a n c ∧ n ≤ c := by
  rcases h.2 with ⟨rfl, rfl⟩ | ⟨g, cap, cur, rfl, _, _, hc, _⟩
  · exact ⟨none, 0, rfl, Nat.le_refl _⟩
  · exact ⟨_, cap, rfl, hc⟩

open Go.RowKit Go.ChangeShapes Go.WideShapes

theorem splitQ_tags : ∀ (f : Nat) (bs : List Int) (last : Int) (k : Nat), InB bs → ∀ x ∈ (splitQ f bs last k).2, last < x.1 ∧ x.1 ≤ 255 ∧ x.2.length ≤ 200
  | 0, _, _, _, _, x, hx => by simp [splitQ] at hx
  | f + 1, bs, last, k, hb, x, hx => by
    rw [splitQ] at hx
    have gb : ∀ i, 0 ≤ bs.getD i 0 ∧ bs.getD i 0 < 256 := by
      intro i
      rcases Nat.lt_or_ge i bs.length with q | q
      · have := hb bs[i] (List.getElem_mem _)
        simpa [List.getD, q] using this
      · simp [List.getD, q]
    have b0 := gb 0
    split at hx
    · cases hx
    split at hx
    · cases hx
    split at hx
    · cases hx
    rename_i h3
    split at hx
    · cases hx
    dsimp only at hx
    rcases List.mem_cons.1 hx with rfl | hx
    · dsimp only
      refine ⟨by omega, by omega, ?_⟩
      rw [List.length_take]
      omega
    · have ih := splitQ_tags f _ (bs.getD 0 0) (k + 1) (fun y hy => hb y (List.mem_of_mem_drop hy)) x hx
      exact ⟨by omega, ih.2.1, ih.2.2⟩
theorem splitQ_len : ∀ (f : Nat) (bs : List Int) (last : Int) (k : Nat), (splitQ f bs last k).2.length ≤ f
  | 0, _, _, _ => by simp [splitQ]
  | f + 1, bs, last, k => by
    rw [splitQ]
    split
    · simp
    split
    · simp
    split
    · simp
    split
    · simp
    · simp only [List.length_cons]
      exact Nat.succ_le_succ (splitQ_len f _ _ _)
theorem splitQ_num : ∀ (f : Nat) (bs : List Int) (last : Int) (k : Nat), (splitQ f bs last k).1 = 0 ∨ (splitQ f bs last k).1 = 2 ∨ (splitQ f bs last k).1 = 4
  | 0, _, _, _ => .inr (.inr rfl)
  | f + 1, bs, last, k => by
    rw [splitQ]
    split
    · exact .inl rfl
    split
    · exact .inr (.inl rfl)
    split
    · exact .inr (.inr rfl)
    split
    · exact .inr (.inl rfl)
    · exact splitQ_num f _ _ _
open Go.RowKit Go.Extern.Stop Go.Stop Go.Extern

theorem isErrorE (v : Value) (w : World) : (Instr.typeAssert (.iface 240 v) 20 26 true).run Tryz.prog w = .ok (.tuple #[.iface 240 v, .bool true]) w := run_typeAssert_hasB Tryz.underlying26 (by kernel_rfl) v _ w

theorem is_door (w : World) :
    CallsD Tryz.prog 162 #[] .returning w fun e u' w' => e = .returned (.tuple #[]) ∧ u' = .returning ∧ w' = w := by
  refine callsD_of_wpS Tryz.func162 rfl fun c₀ cs hu => ?_
  apply wpS_region
  cases c₀
  simp_all [wpOpsS, go_sem, recoverD, Tryz.ntmps162, bodyPostS, results, Tryz.results162]

theorem cis_of {v t : Value} {b : Bool} {w : World} (h : Calls Tryz.prog 26 #[v, t] w fun e w' => e = .returned (.bool b) ∧ w = w') :
    Calls Tryz.prog 150 #[v, t] w fun e w' => e = .returned (.bool b) ∧ w = w' := by
  go_enter_defers Tryz.func150, Tryz.ntmps150
  go_wp2_with (go_at_call 26; (with_reducible refine h.mono ?_); rintro e w' ⟨rfl, rfl⟩)
  refine leaves_cons (f := 162) (args := #[]) (by simp) (by simp [go_sem]) ?_
  refine (is_door _).mono ?_
  rintro e u' w'' ⟨rfl, rfl, rfl⟩
  simp [Leaves, settle, results, Tryz.results150, go_sem]

open Go.RowKit Go.Extern.Stop Go.Stop Go.Extern


/-- catch.named: K is the first place of the table at which errors.Is says yes (14: none). -/
theorem named_gen (ads : List Addr) (w : World) (E : Errs gs14 ads w) (v r : Value) (K : Nat) (hK : K ≤ 14)
    (H0 : ∀ (j : Nat) (h : j < ads.length), j < K → ∀ w1, Kp w w1 → Calls Tryz.prog 150 #[v, snt ads[j]] w1 fun e w' => e = .returned (.bool false) ∧ w1 = w')
    (H1 : ∀ (h : K < ads.length), ∀ w1, Kp w w1 → Calls Tryz.prog 150 #[v, snt ads[K]] w1 fun e w' => e = .returned (.bool true) ∧ w1 = w')
    (hr : (∃ h : K < ads.length, r = snt ads[K]) ∨ (K = 14 ∧ ∃ h : 12 < ads.length, r = snt ads[12])) :
    Calls Tryz.prog 123 #[v] w fun e w' => e = .returned r ∧ Kp w w' := by
  match ads, E, H0, H1, hr with
  | [a0, a1, a2, a3, a4, a5, a6, a7, a8, a9, a10, a11, a12, a13], E, H0, H1, hr =>
    have c0 : w.cell? ⟨0, 0, none⟩ = some (.iface 240 (.pointer (some a0))) := E.cell 0 (by decide)
    have c1 : w.cell? ⟨1, 0, none⟩ = some (.iface 240 (.pointer (some a1))) := E.cell 1 (by decide)
    have c2 : w.cell? ⟨2, 0, none⟩ = some (.iface 240 (.pointer (some a2))) := E.cell 2 (by decide)
    have c3 : w.cell? ⟨3, 0, none⟩ = some (.iface 240 (.pointer (some a3))) := E.cell 3 (by decide)
    have c4 : w.cell? ⟨4, 0, none⟩ = some (.iface 240 (.pointer (some a4))) := E.cell 4 (by decide)
    have c5 : w.cell? ⟨5, 0, none⟩ = some (.iface 240 (.pointer (some a5))) := E.cell 5 (by decide)
    have c6 : w.cell? ⟨6, 0, none⟩ = some (.iface 240 (.pointer (some a6))) := E.cell 6 (by decide)
    have c7 : w.cell? ⟨7, 0, none⟩ = some (.iface 240 (.pointer (some a7))) := E.cell 7 (by decide)
    have c8 : w.cell? ⟨8, 0, none⟩ = some (.iface 240 (.pointer (some a8))) := E.cell 8 (by decide)
    have c9 : w.cell? ⟨9, 0, none⟩ = some (.iface 240 (.pointer (some a9))) := E.cell 9 (by decide)
    have c10 : w.cell? ⟨10, 0, none⟩ = some (.iface 240 (.pointer (some a10))) := E.cell 10 (by decide)
    have c11 : w.cell? ⟨11, 0, none⟩ = some (.iface 240 (.pointer (some a11))) := E.cell 11 (by decide)
    have c12 : w.cell? ⟨12, 0, none⟩ = some (.iface 240 (.pointer (some a12))) := E.cell 12 (by decide)
    have c13 : w.cell? ⟨13, 0, none⟩ = some (.iface 240 (.pointer (some a13))) := E.cell 13 (by decide)
    have hnew : Kp w (w.alloc (.cells #[.iface 240 (.pointer (some a0)), .iface 240 (.pointer (some a1)), .iface 240 (.pointer (some a2)), .iface 240 (.pointer (some a3)), .iface 240 (.pointer (some a4)), .iface 240 (.pointer (some a5)), .iface 240 (.pointer (some a6)), .iface 240 (.pointer (some a7)), .iface 240 (.pointer (some a8)), .iface 240 (.pointer (some a9)), .iface 240 (.pointer (some a10)), .iface 240 (.pointer (some a11)), .iface 240 (.pointer (some a12)), .iface 240 (.pointer (some a13))] 26)) := (Below.refl _ _).alloc (Nat.le_refl _) _
    have hlt : 12 < w.heap.size := E.old.1 12 (by decide)
    have c12' : (w.alloc (.cells #[.iface 240 (.pointer (some a0)), .iface 240 (.pointer (some a1)), .iface 240 (.pointer (some a2)), .iface 240 (.pointer (some a3)), .iface 240 (.pointer (some a4)), .iface 240 (.pointer (some a5)), .iface 240 (.pointer (some a6)), .iface 240 (.pointer (some a7)), .iface 240 (.pointer (some a8)), .iface 240 (.pointer (some a9)), .iface 240 (.pointer (some a10)), .iface 240 (.pointer (some a11)), .iface 240 (.pointer (some a12)), .iface 240 (.pointer (some a13))] 26)).cell? ⟨12, 0, none⟩ = some (.iface 240 (.pointer (some a12))) := by rw [Below.cell hnew hlt]; exact c12
    have HE := Lib.hid E
    have HR := Lib.hid hr
    have HH0 := Lib.hid H0
    have HH1 := Lib.hid H1
    have HN := Lib.hid hnew
    clear E hr H0 H1 hnew
    go_enter Tryz.func123, Tryz.ntmps123
    go_wp2
    go_loop [23] (fun i => ∃ j : Nat, j ≤ K ∧ i = .int .i64 j) (fun i => 14 - (intOf i).toNat)
    case atStart => exact ⟨0, Nat.zero_le _, rfl⟩
    case round =>
      obtain ⟨j, hj, rfl⟩ := hrel
      by_cases hj14 : j = 14
      · subst hj14
        obtain rfl : K = 14 := by omega
        go_wp2
        go_ret
        refine ⟨?_, HN.out⟩
        rcases HR.out with ⟨h, _⟩ | ⟨_, h, rfl⟩
        · exact absurd h (by simp)
        · rfl
      · have hj14' : j < 14 := by omega
        obtain ⟨x, hx⟩ : ∃ x, ([a0, a1, a2, a3, a4, a5, a6, a7, a8, a9, a10, a11, a12, a13] : List Addr)[j]'(by simpa using hj14') = x := ⟨_, rfl⟩
        have hel : (w.alloc (.cells #[.iface 240 (.pointer (some a0)), .iface 240 (.pointer (some a1)), .iface 240 (.pointer (some a2)), .iface 240 (.pointer (some a3)), .iface 240 (.pointer (some a4)), .iface 240 (.pointer (some a5)), .iface 240 (.pointer (some a6)), .iface 240 (.pointer (some a7)), .iface 240 (.pointer (some a8)), .iface 240 (.pointer (some a9)), .iface 240 (.pointer (some a10)), .iface 240 (.pointer (some a11)), .iface 240 (.pointer (some a12)), .iface 240 (.pointer (some a13))] 26)).cell? ⟨w.heap.size, j, none⟩ = some (.iface 240 (.pointer (some x))) := by
          rw [← hx]; exact cells_new w [a0, a1, a2, a3, a4, a5, a6, a7, a8, a9, a10, a11, a12, a13] 26 j (by simpa using hj14')
        by_cases hjk : j = K
        · subst hjk
          have h1 := HH1.out (by simpa using hj14') _ HN.out
          rw [hx] at h1
          have hrx : r = snt x := by
            rcases HR.out with ⟨h, rfl⟩ | ⟨h, _⟩
            · rw [hx]
            · exact absurd h (by omega)
          have HX := Lib.hid hx
          have HC := Lib.hid h1
          have HRX := Lib.hid hrx
          clear hx h1 hrx
          go_wp2_with (go_at_call 150; (with_reducible refine HC.out.mono ?_); rintro e w' ⟨rfl, rfl⟩)
          go_ret
          exact ⟨by rw [HRX.out]; rfl, HN.out⟩
        · have h0 := HH0.out j (by simpa using hj14') (by omega) _ HN.out
          rw [hx] at h0
          have HX := Lib.hid hx
          have HC := Lib.hid h0
          clear hx h0
          go_wp2_with (go_at_call 150; (with_reducible refine HC.out.mono ?_); rintro e w' ⟨rfl, rfl⟩)
          go_round
          case rel => exact ⟨j + 1, by omega, by go_num⟩
          case measure => simp [intOf]; omega

theorem named_any (ads : List Addr) (w : World) (V : St ads w) (k : Nat) (hk : k < ads.length) :
    Calls Tryz.prog 123 #[snt ads[k]] w fun e w' => e = .returned (snt ads[k]) ∧ Kp w w' := by
  have hl : ads.length = 14 := V.len
  refine named_gen ads w V _ _ k (by omega) (fun j hj hjk w1 hw => ?_) (fun _ w1 hw => ?_) (.inl ⟨hk, rfl⟩)
  · have V1 := V.below hw
    obtain ⟨ca, ta, ra⟩ := V1.row _ (List.getElem_mem hk)
    obtain ⟨cb, tb, rb⟩ := V1.row _ (List.getElem_mem hj)
    refine cis_of (is_other _ _ ca cb ta tb w1 (fun e => ?_) ra rb)
    exact List.pairwise_iff_getElem.1 V.nodup j k hj hk hjk e.symm
  · exact cis_of (is_same _ w1)

/-- catch.errorOf: A PANIC's ERROR. -/
theorem errorOf_any (ads : List Addr) (w : World) (V : St ads w) (k : Nat) (hk : k < ads.length) :
    Calls Tryz.prog 82 #[snt ads[k]] w fun e w' => e = .returned (snt ads[k]) ∧ Kp w w' := by
  have hn := named_any ads w V k hk
  obtain ⟨r, hr⟩ : ∃ r, ads[k] = r := ⟨_, rfl⟩
  rw [hr] at hn ⊢
  have HN := Lib.hid hn
  have ha := isErrorE (.pointer (some r)) w
  clear hn hr
  go_enter Tryz.func82, Tryz.ntmps82
  go_wp2_with (go_at_call 123; (with_reducible refine HN.out.mono ?_); rintro e w' ⟨rfl, hw⟩)
  go_ret
  exact ⟨rfl, hw⟩
open Go.RowKit Go.ChangeShapes Go.WideShapes

/-- A panic of the text's own, with an error. -/
theorem run_panic_some {P : Program} (t : TypeId) (v : Value) (w : World) : (Instr.panic (.iface t v)).run P w = .halt (.panic (.iface t v)) w := rfl

theorem demand_t (v : Value) (w : World) : Calls Tryz.prog 126 #[.bool true, v] w fun e w' => e = .returned (.tuple #[]) ∧ w = w' := by
  go_enter Tryz.func126, Tryz.ntmps126
  go_wp2
  go_end0
  exact ⟨rfl, rfl⟩

theorem demand_f (a : Addr) (w : World) : Calls Tryz.prog 126 #[.bool false, snt a] w fun e w' => e = .panicked [{ v := snt a, recovered := false }] ∧ w = w' := by
  have hpn := run_panic_some (P := Tryz.prog) 240 (.pointer (some a)) w
  go_enter Tryz.func126, Tryz.ntmps126
  go_wp2
  exact ⟨rfl, rfl, rfl⟩

theorem or8 {u c : Int} (hu : 0 ≤ u ∧ u < 72057594037927936) (hc : 0 ≤ c ∧ c < 256) : bits .or .u64 (u * 256) c = 256 * u + c := by
  obtain ⟨x, rfl⟩ : ∃ x : Nat, u = x := ⟨u.toNat, by omega⟩
  obtain ⟨y, rfl⟩ : ∃ y : Nat, c = y := ⟨c.toNat, by omega⟩
  have e : ((x : Int) * 256) = ((256 * x : Nat) : Int) := by omega
  rw [e, bits_or_u64_nat _ _ (by omega) (by omega)]
  have := Nat.two_pow_add_eq_or_of_lt (i := 8) (show y < 2 ^ 8 by omega) x
  rw [show (2 : Nat) ^ 8 = 256 from rfl] at this
  rw [← this]
  omega

set_option maxRecDepth 100000 in
theorem value_any (a : Option Addr) (cap : Nat) (bs : List Int) (len : Nat) (hlen : bs.length = len) (hl : len ≤ 8) (hb : InB bs) (w : World) (hs : SlB (.slice a len cap) bs w) :
    Calls Tryz.prog 135 #[.slice a len cap] w fun e w' => e = .returned (.int .u64 (beNum bs)) ∧ w = w' := by
  have hel : ∀ j (hj : j < bs.length), ∃ b off, a = some ⟨b, off, none⟩ ∧ w.cell? ⟨b, off + j, none⟩ = some (.int .u8 (bs.getD j 0)) := fun j hj => hs.at j hj
  have hr := beNum_range hb
  have hn := fun j (h : j < bs.length) => beNum_next h
  have HEL := Lib.hid hel
  have HR := Lib.hid hr
  have HNX := Lib.hid hn
  have HB := Lib.hid hb
  have HL := Lib.hid hlen
  clear hel hs hr hn hb hlen
  go_enter Tryz.func135, Tryz.ntmps135
  go_wp2
  go_loop [3, 8] (fun u i => ∃ j : Nat, j ≤ len ∧ i = .int .i64 j ∧ u = .int .u64 (beNum (bs.take j))) (fun _ i => len - (intOf i).toNat)
  case atStart => exact ⟨0, Nat.zero_le _, rfl, rfl⟩
  case round =>
    obtain ⟨j, hj, rfl, rfl⟩ := hrel
    obtain ⟨jj, hjj⟩ : ∃ jj : Int, (j : Int) = jj := ⟨_, rfl⟩
    obtain ⟨uu, huu⟩ : ∃ uu, beNum (bs.take j) = uu := ⟨_, rfl⟩
    rw [hjj, huu]
    have hl' := HL.out
    by_cases hlt : j < len
    · have hjl : j < bs.length := by omega
      obtain ⟨b2, off2, rfl, hc2⟩ := HEL.out j hjl
      have hnx := HNX.out j hjl
      have hbb := HB.out bs[j] (List.getElem_mem _)
      have hru := HR.out j (by omega)
      obtain ⟨y, hy⟩ : ∃ y, bs[j] = y := ⟨_, rfl⟩
      have hy2 : bs.getD j 0 = y := by simp [List.getD, hjl, hy]
      rw [hy2] at hc2
      rw [hy] at hnx hbb
      rw [huu] at hnx hru
      have hp7 : (256 : Int) ^ j ≤ 256 ^ 7 := p256_le (by omega)
      have e7 : (256 : Int) ^ 7 = 72057594037927936 := by decide
      have hub : 0 ≤ uu ∧ uu < 72057594037927936 := by omega
      have ej : jj.toNat = j := by omega
      rw [← ej] at hc2
      have hj0 : 0 ≤ jj := by omega
      have hltj : jj < len := by omega
      have hor := or8 hub hbb
      have HJ := Lib.hid hjj
      have HNXT := Lib.hid hnx
      clear hjj huu hnx hru hp7 e7 hy hy2 ej hlt hjl hl'
      go_wp2
      have hjj := HJ.out
      go_round
      case rel =>
        refine ⟨j + 1, by omega, by congr 1; omega, ?_⟩
        rw [HNXT.out]
      case measure => simp [intOf]; omega
    · obtain rfl : j = len := by omega
      have hex : ¬ jj < j := by omega
      have hful : bs.take j = bs := by rw [List.take_of_length_le]; omega
      rw [hful] at huu
      subst huu
      clear hjj hful hl'
      go_wp2
      go_ret
      exact ⟨rfl, rfl⟩

set_option maxRecDepth 20000 in
theorem clone_nil (w : World) : Calls Tryz.prog 136 #[.slice none 0 0] w fun e w' => e = .returned (.slice none 0 0) ∧ w = w' := by
  have hq : (binOp .eql 55 (.slice none 0 0) (.slice none 0 0)).run Tryz.prog w = .ok (.bool true) w := by
    rw [run_eql_nil_slice w 55 5 none 0 0 0 0 Tryz.underlying55]; rfl
  go_enter Tryz.func136, Tryz.ntmps136
  go_wp2
  go_ret
  exact ⟨rfl, rfl⟩

set_option maxRecDepth 20000 in
theorem clone_any (v : Value) (bs : List Int) (hl : bs.length ≤ 1000000) (w : World) (hs : SlB v bs w) :
    Calls Tryz.prog 136 #[v] w fun e w' => ∃ v', e = .returned v' ∧ w'.ownsRow w.heap.size 5 1 v' bs.length (bs.map (Value.int .u8)) ∧ Kp w w' := by
  obtain ⟨a, cap, rfl⟩ := hs.form
  cases a with
  | none =>
    obtain ⟨h0, rfl⟩ := hs.app.1 rfl
    have hbs : bs = [] := List.length_eq_zero_iff.1 h0
    subst hbs
    refine (clone_nil w).mono ?_
    rintro e w' ⟨rfl, rfl⟩
    exact ⟨_, rfl, ⟨by simp, .inl ⟨rfl, rfl⟩⟩, Kp.refl _⟩
  | some ad =>
    obtain ⟨len, hlen⟩ : ∃ n, bs.length = n := ⟨_, rfl⟩
    rw [hlen] at hs hl ⊢
    have OW0 := Lib.hid (own_empty w 5)
    have HS0 := Lib.hid (hs.kp (kp_alloc w (.cells #[] 5)))
    have K0 := Lib.hid (kp_alloc w (.cells #[] 5))
    have hq : (binOp .eql 55 (.slice (some ad) len cap) (.slice none 0 0)).run Tryz.prog w = .ok (.bool false) w := by
      rw [Lib.run_eql_slice_nil w 55 5 (some ad) len cap 0 0 Tryz.underlying55]; rfl
    clear hs
    go_enter Tryz.func136, Tryz.ntmps136
    go_wp2_with (at_builtin; refine wpList_append_slb _ rfl (.tmp 5) (.tmp 6) rfl w.heap.size _ _ _ rfl OW0.out (some ad) len cap bs rfl HS0.out ?d1 ?d2 ?_)
    case d1 => omega
    case d2 => exact Below.size K0.out
    rintro v5 w5 hown5 hgr5 -
    have kp5 : Kp w w5 := row_kp OW0.out hgr5 K0.out
    have HO := Lib.hid hown5
    have HK := Lib.hid kp5
    clear hown5 hgr5 kp5
    go_wp2
    go_ret
    refine ⟨_, rfl, ?_, HK.out⟩
    simpa using HO.out
open Go.RowKit Go.ChangeShapes Go.WideShapes

/-- A BOX OF AN INT. -/
abbrev boxI (x : Int) : Obj := .cells #[.int .i64 x] 3 (0, 0)

set_option maxRecDepth 20000 in
theorem newRow_any (w : World) :
    Calls Tryz.prog 130 #[] w fun e w' => e = .returned (.func (.func 151) #[] #[.pointer (some ⟨w.heap.size, 0, none⟩), .pointer (some ⟨w.heap.size + 1, 0, none⟩)]) ∧ w'.heap[w.heap.size]? = some (boxI 0) ∧ w'.heap[w.heap.size + 1]? = some (boxI 0) ∧ w'.heap.size = w.heap.size + 2 ∧ Kp w w' := by
  have hmf : ∀ (fn : Fn) (first cap : Array Value) (w : World), (Instr.makeFunc fn first cap).run Tryz.prog w = .ok (.func fn first cap) w := fun _ _ _ _ => rfl
  go_enter Tryz.func130, Tryz.ntmps130
  go_wp2
  go_ret
  refine ⟨rfl, ?_, ?_, ?_, ?_⟩
  · rw [Below.heap_alloc _ _ _ (by simp)]
    exact (MapKept.heap_alloc w _).1
  · have := (MapKept.heap_alloc (w.alloc (boxI 0)) (boxI 0)).1
    simpa using this
  · simp
  · exact Kp.trans (kp_alloc _ _) (kp_alloc _ _)

/-- MAY A FIELD STAND BEHIND k FIELDS, the last one's tag being last? -/
def mayQ (k : Nat) (last tag : Int) (n : Nat) : Prop := k < 16 ∧ last < tag ∧ tag ≤ 255 ∧ n ≤ 200
instance (k : Nat) (last tag : Int) (n : Nat) : Decidable (mayQ k last tag n) := by unfold mayQ; infer_instance
def runQ : Nat → Int → List (Int × List Int) → Bool
  | _, _, [] => true
  | k, last, f :: t => decide (mayQ k last f.1 f.2.length) && runQ (k + 1) f.1 t
theorem enter_t (ads : List Addr) (p q : Nat) (k : Nat) (kk last tag : Int) (n : Nat) (nn : Int) (hkk : (k : Int) = kk) (hnn : (n : Int) = nn) (w : World) (V : St ads w) (hp : w.heap[p]? = some (boxI kk)) (hq : w.heap[q]? = some (boxI last)) (hpq : p ≠ q) (hm : mayQ k last tag n) :
    Calls Tryz.prog 151 #[.int .i64 tag, .int .i64 nn, .pointer (some ⟨p, 0, none⟩), .pointer (some ⟨q, 0, none⟩)] w fun e w' => e = .returned (.tuple #[]) ∧ w' = (w.setCell ⟨p, 0, none⟩ (.int .i64 (kk + 1))).setCell ⟨q, 0, none⟩ (.int .i64 tag) := by
  have h14 : ads.length = 14 := V.len
  obtain ⟨e3, c3⟩ : ∃ e3, w.cell? ⟨3, 0, none⟩ = some (snt e3) := ⟨ads[3]'(by omega), V.cell 3 (by decide)⟩
  obtain ⟨h1, h2, h3, h4⟩ := hm
  have g1 : kk < 16 := by omega
  have g0 : 0 ≤ kk := by omega
  have g4 : nn ≤ 200 := by omega
  have cp := cell_of_one hp
  have cq := cell_of_one hq
  have zp := free_of_one hp
  have zq := free_of_one hq
  have cq' : (w.setCell ⟨p, 0, none⟩ (.int .i64 (kk + 1))).cell? ⟨q, 0, none⟩ = some (.int .i64 last) := cell_of_one (by rw [Below.heap_setCell _ _ _ _ (fun e => hpq e.symm)]; exact hq)
  have zq' : (w.setCell ⟨p, 0, none⟩ (.int .i64 (kk + 1))).frozen? ⟨q, 0, none⟩ = false := by rw [World.frozen?_setCell]; exact zq
  clear V h14
  go_enter Tryz.func151, Tryz.ntmps151
  go_wp2_with (go_at_call 126; (with_reducible refine (demand_t _ _).mono ?_); rintro e w' ⟨rfl, rfl⟩)
  go_end0
  exact ⟨rfl, rfl⟩

theorem enter_f (ads : List Addr) (h3' : 3 < ads.length) (p q : Nat) (k : Nat) (kk last tag : Int) (n : Nat) (nn : Int) (hkk : (k : Int) = kk) (hnn : (n : Int) = nn) (w : World) (V : St ads w) (hp : w.heap[p]? = some (boxI kk)) (hq : w.heap[q]? = some (boxI last)) (hm : ¬ mayQ k last tag n) :
    Calls Tryz.prog 151 #[.int .i64 tag, .int .i64 nn, .pointer (some ⟨p, 0, none⟩), .pointer (some ⟨q, 0, none⟩)] w fun e w' => e = .panicked [{ v := snt (ads[3]'h3'), recovered := false }] ∧ w = w' := by
  have c3 : w.cell? ⟨3, 0, none⟩ = some (snt (ads[3]'h3')) := V.cell 3 (by decide)
  obtain ⟨e3, he3⟩ : ∃ a, ads[3]'h3' = a := ⟨_, rfl⟩
  rw [he3] at c3 ⊢
  have cp := cell_of_one hp
  have cq := cell_of_one hq
  clear V he3
  by_cases h1 : kk < 16
  · have g1 : decide (kk < 16) = true := decide_eq_true h1
    by_cases h2 : last < tag
    · have g2 : decide (last < tag) = true := decide_eq_true h2
      by_cases h3 : tag ≤ 255
      · have g3 : decide (tag ≤ 255) = true := decide_eq_true h3
        have g4 : decide (nn ≤ 200) = false := decide_eq_false (fun h4 => hm ⟨by omega, h2, h3, by omega⟩)
        clear hm
        go_enter Tryz.func151, Tryz.ntmps151
        go_wp2_with (go_at_call 126; (with_reducible refine (demand_f _ _).mono ?_); rintro e w' ⟨rfl, rfl⟩)
        exact ⟨rfl, rfl, rfl⟩
      · have g3 : decide (tag ≤ 255) = false := decide_eq_false h3
        clear hm
        go_enter Tryz.func151, Tryz.ntmps151
        go_wp2_with (go_at_call 126; (with_reducible refine (demand_f _ _).mono ?_); rintro e w' ⟨rfl, rfl⟩)
        exact ⟨rfl, rfl, rfl⟩
    · have g2 : decide (last < tag) = false := decide_eq_false h2
      clear hm
      go_enter Tryz.func151, Tryz.ntmps151
      go_wp2_with (go_at_call 126; (with_reducible refine (demand_f _ _).mono ?_); rintro e w' ⟨rfl, rfl⟩)
      exact ⟨rfl, rfl, rfl⟩
  · have g1 : decide (kk < 16) = false := decide_eq_false h1
    clear hm
    go_enter Tryz.func151, Tryz.ntmps151
    go_wp2_with (go_at_call 126; (with_reducible refine (demand_f _ _).mono ?_); rintro e w' ⟨rfl, rfl⟩)
    exact ⟨rfl, rfl, rfl⟩
end Go.Proofs.YtpemeenfhkgmpaaGreatDoor
