/-
  SLICES OF FLOATS THAT CAME IN (own work): opened as a list of words; package floats' Least.
-/
import Derived.Test.YtanbeaebdingeaaDoorFy
import Derived.Test.YtanbeaebdingeaaDoorFz
import Derived.Deep.Slices
import Derived.ProofKit
namespace Go.Proofs.YtanbeaebdingeaaDoor
open Go.RowKit Go.ChangeShapes Go.WideShapes

/-- THE SLICE VALUE v READS AS THE WORDS bs. -/
def SlF (v : Value) (bs : List Nat) (w : World) : Prop :=
  (bs = [] ∧ ∃ a cap, v = .slice a 0 cap) ∨
  ∃ b off cap, 0 < bs.length ∧ v = .slice (some ⟨b, off, none⟩) bs.length cap ∧ ∀ j, j < bs.length → w.cell? ⟨b, off + j, none⟩ = some (.float .f64 (bs.getD j 0))

theorem SlF.below {v : Value} {bs : List Nat} {w w' : World} (h : SlF v bs w) (hb : Kp w w') : SlF v bs w' := by
  rcases h with h | ⟨b, off, cap, h0, h1, h2⟩
  · exact Or.inl h
  · refine Or.inr ⟨b, off, cap, h0, h1, fun j hj => ?_⟩
    have hlt : b < w.heap.size := by
      have := h2 j hj
      rcases Nat.lt_or_ge b w.heap.size with g | g
      · exact g
      · simp [World.cell?, Array.getElem?_eq_none g] at this
    rw [Below.cell hb (p := ⟨b, off + j, none⟩) hlt]; exact h2 j hj

theorem trod_float {H : Type} {enc : TypeId × Value → H} {P : Program} {w : World} {base : Nat} {spare : Nat → Bool} {held : Bool} {fuel : Nat} {t : TypeId} {cs : List Value} {x : DataW H × List MemPlace} {k : FloatKind}
    (ht : P.underlying t = some (.float k)) (h : DataW.trod enc P w base spare held fuel t cs = some x) : ∃ b, cs = [.float k b] ∧ x = (.lit (.float k b), []) ∧ (Lit.float k b).wf = true := by
  cases fuel with
  | zero => simp [DataW.trod] at h
  | succ n =>
    unfold DataW.trod at h
    rw [ht] at h
    split at h <;> simp_all

theorem open_floats {H : Type} {enc : TypeId × Value → H} {P : Program} {W : World} {r : Reach} {b0 : Nat} {t e : TypeId} {v : Value} {d : DataW H} {ps : List MemPlace}
    (ht : P.underlying t = some (.slice e)) (he : P.underlying e = some (.float .f64)) (hc : P.cellsOf e = 1) (hval : Value.okWide P W r b0 t v)
    (h : DataW.Trod enc P W 0 (fun _ => true) true t v d ps) : ∃ bs : List Nat, SlF v bs W ∧ (∀ b ∈ bs, b < 18446744073709551616) ∧ bs.length ≤ maxLen := by
  obtain ⟨a0, len0, cap0, rfl⟩ := okWide_slice ht hval
  obtain ⟨fuel, hf⟩ := h
  rcases Deep.open_slice1 ht hc hf with ⟨hcs, hx⟩ | ⟨a, len, cap, m, n, V, D, Pl, hcs, _, hl, hm, hmm, hx, hcell⟩
  · simp [Value.cells] at hcs
    obtain ⟨rfl, rfl, rfl⟩ := hcs
    exact ⟨[], Or.inl ⟨rfl, none, 0, rfl⟩, (fun b hb => by cases hb), by simp⟩
  · simp [Value.cells] at hcs
    obtain ⟨rfl, rfl, rfl⟩ := hcs
    simp only [if_true] at hmm
    have hel : ∀ i, i < len0 → ∃ b, V i = .float .f64 b ∧ b < 18446744073709551616 := by
      intro i hi
      obtain ⟨b, h1, _, h3⟩ := trod_float he (hcell i (by omega)).2
      exact ⟨b, by simpa using h1, by simpa [Lit.wf] using h3⟩
    let f : Nat → Nat := fun i => match V i with | .float _ b => b | _ => 0
    have hf' : ∀ i, i < len0 → V i = .float .f64 (f i) ∧ f i < 18446744073709551616 := by
      intro i hi
      obtain ⟨b, h1, h2⟩ := hel i hi
      have : f i = b := by show (match V i with | .float _ b => b | _ => 0) = b; rw [h1]
      rw [this]; exact ⟨h1, h2⟩
    refine ⟨(List.range len0).map f, ?_, ?_, by simp; omega⟩
    · by_cases h0 : len0 = 0
      · subst h0; exact Or.inl ⟨by simp, some a, cap0, rfl⟩
      · obtain ⟨b, off, spot⟩ := a
        have hspot : spot = none := by simpa [Addr.add] using World.cell?_spot (hcell 0 (by omega)).1
        subst hspot
        refine Or.inr ⟨b, off, cap0, by simp; omega, by simp, fun j hj => ?_⟩
        have hj' : j < len0 := by simpa using hj
        rw [← add_plain, (hcell j (by omega)).1, (hf' j hj').1]
        simp [List.getD, hj']
    · intro b hb
      obtain ⟨i, hi, rfl⟩ := List.mem_map.1 hb
      exact (hf' i (by simpa using hi)).2

/-- the first of a list -/
def lstep (acc x : Nat) : Nat := if Fl.ord x acc < 0 then x else acc
def lst (bs : List Nat) : Nat := bs.foldl lstep 9218868437227405312
theorem lst_lt {bs : List Nat} (h : ∀ b ∈ bs, b < 18446744073709551616) : lst bs < 18446744073709551616 := by
  unfold lst
  suffices ∀ acc, acc < 18446744073709551616 → bs.foldl lstep acc < 18446744073709551616 from this _ (by omega)
  induction bs with
  | nil => intro acc ha; exact ha
  | cons x xs ih =>
    intro acc ha
    refine ih (fun b hb => h b (List.mem_cons_of_mem _ hb)) _ ?_
    unfold lstep
    split
    · exact h x (List.mem_cons_self ..)
    · exact ha
theorem lst_take {bs : List Nat} {k : Nat} (h : k < bs.length) : lst (bs.take (k + 1)) = lstep (lst (bs.take k)) (bs.getD k 0) := by
  unfold lst
  rw [List.take_succ_eq_append_getElem h, List.foldl_append]
  simp [List.getD, h]

theorem least_nil (a : Option Addr) (cap : Nat) (w : World) :
    Calls Tryd.prog 39 #[.slice a 0 cap] w fun e w' => e = .returned (.float .f64 9218868437227405312) ∧ w = w' := by
  have hp : ∀ w, Calls Tryd.prog 55 #[.float .f64 9218868437227405312] w fun e w' => e = .returned (.float .f64 9218868437227405312) ∧ w = w' :=
    fun w => plain_any 9218868437227405312 w (by omega)
  go_enter Tryd.func39, Tryd.ntmps39
  go_wp2_with (first | (go_at_call 54; (with_reducible refine (inf_one _).mono ?_); rintro e w' ⟨rfl, rfl⟩))
  refine wp_loop_rounds 1 ?_
  rw [rounds_succ]
  go_wp2_with (go_at_call 55; (with_reducible refine (hp _).mono ?_); rintro e w' ⟨rfl, rfl⟩)
  go_ret
  exact ⟨rfl, rfl⟩

set_option maxHeartbeats 1000000 in
theorem least_some (b off cap : Nat) (bs : List Nat) (w : World) (hl : bs.length ≤ maxLen) (hb : ∀ x ∈ bs, x < 18446744073709551616)
    (hc : ∀ j, j < bs.length → w.cell? ⟨b, off + j, none⟩ = some (.float .f64 (bs.getD j 0))) :
    Calls Tryd.prog 39 #[.slice (some ⟨b, off, none⟩) bs.length cap] w fun e w' => e = .returned (.float .f64 (Fl.plain (lst bs))) ∧ w = w' := by
  obtain ⟨len, hlen⟩ : ∃ len, bs.length = len := ⟨_, rfl⟩
  rw [hlen] at hl hc ⊢
  unfold maxLen at hl
  have HC := Lib.hid hc
  have HB := Lib.hid hb
  have HL := Lib.hid hlen
  clear hc hb hlen
  go_enter Tryd.func39, Tryd.ntmps39
  go_wp2_with (first | (go_at_call 54; (with_reducible refine (inf_one _).mono ?_); rintro e w' ⟨rfl, rfl⟩))
  go_loop [3, 9] (fun x i => ∃ k : Nat, k ≤ len ∧ i = .int .i64 k ∧ x = .float .f64 (lst (bs.take k))) (fun _ i => len - (intOf i).toNat)
  case atStart => exact ⟨0, Nat.zero_le _, rfl, rfl⟩
  case round =>
    obtain ⟨k, hk, rfl, rfl⟩ := hrel
    obtain ⟨acc, ha⟩ : ∃ acc, lst (bs.take k) = acc := ⟨_, rfl⟩
    have hacc : acc < 18446744073709551616 := by rw [← ha]; exact lst_lt fun x hx => HB.out x (List.mem_of_mem_take hx)
    simp only [ha]
    by_cases hlt : k < len
    · obtain ⟨x, hx⟩ : ∃ x, bs.getD k 0 = x := ⟨_, rfl⟩
      have hxl : x < 18446744073709551616 := by
        rw [← hx]; refine HB.out _ ?_
        have : k < bs.length := by have := HL.out; omega
        simp [List.getD, this]
      have hcell : w.cell? ⟨b, off + k, none⟩ = some (.float .f64 x) := by rw [← hx]; exact HC.out k hlt
      have hstep : lst (bs.take (k + 1)) = lstep acc x := by rw [← ha, ← hx]; exact lst_take (by have := HL.out; omega)
      obtain ⟨v, hv⟩ : ∃ v, Fl.ord x acc = v := ⟨_, rfl⟩
      have o : ∀ w, Calls Tryd.prog 36 #[.float .f64 x, .float .f64 acc] w fun e w' => e = .returned (.int .i64 v) ∧ w = w' := by
        intro w; rw [← hv]; exact order_any x acc w hxl hacc
      have HS := Lib.hid hstep
      have HV := Lib.hid hv
      clear hstep hv hx ha hxl hacc
      by_cases hneg : v < 0
      all_goals
        go_wp2_with (go_at_call 36; (with_reducible refine (o _).mono ?_); rintro e w' ⟨rfl, rfl⟩)
        go_round
        case rel => exact ⟨k + 1, by omega, by go_num, by rw [HS.out]; unfold lstep; rw [HV.out]; first | rw [if_pos hneg] | rw [if_neg (show ¬ v < 0 by omega)]⟩
        case measure => simp [intOf]; omega
    · have hkk : k = len := by omega
      subst hkk
      have hall : lst bs = acc := by rw [← ha, List.take_of_length_le (by have := HL.out; omega)]
      have HA := Lib.hid hall
      clear hall ha hlt
      go_wp2_with (go_at_call 55; (with_reducible refine (plain_any acc _ hacc).mono ?_); rintro e w' ⟨rfl, rfl⟩)
      go_ret
      exact ⟨by rw [HA.out]; rfl, rfl⟩

theorem least_any (v : Value) (bs : List Nat) (w : World) (hs : SlF v bs w) (hl : bs.length ≤ maxLen) (hb : ∀ x ∈ bs, x < 18446744073709551616) :
    Calls Tryd.prog 39 #[v] w fun e w' => e = .returned (.float .f64 (Fl.plain (lst bs))) ∧ w = w' := by
  rcases hs with ⟨rfl, a, cap, rfl⟩ | ⟨b, off, cap, _, rfl, hc⟩
  · exact least_nil a cap w
  · exact least_some b off cap bs w hl hb hc
end Go.Proofs.YtanbeaebdingeaaDoor
