/- Parts of this proof (own work). -/
import Derived.Test.YtpemeenfhkgmpaaGreatDoorZf16
set_option maxRecDepth 100000
set_option maxHeartbeats 40000000
namespace Go.Proofs.YtpemeenfhkgmpaaGreatDoor
open Go.RowKit Go.ChangeShapes Go.WideShapes
structure EncG (α : Type) where
 enc : α → List Value
 k : Nat
 len : ∀ x, (enc x).length = k
 one : ∀ x, ∀ u ∈ enc x, u.oneCell' = true
section
variable {α : Type} (E : EncG α)
def EncG.row (f : List α) : List Value := f.flatMap E.enc
theorem row_len (f : List α) : (E.row f).length = f.length * E.k := by
 unfold EncG.row
 induction f with
 | nil => simp
 | cons g gs ih => rw [List.flatMap_cons, List.length_append, ih, E.len, List.length_cons, Nat.add_mul, Nat.one_mul, Nat.add_comm]
theorem row_app (f g : List α) : E.row (f ++ g) = E.row f ++ E.row g := by unfold EncG.row; rw [List.flatMap_append]
theorem row_at : ∀ (f : List α) (j : Nat) (hj : j < f.length) (i : Nat), i < E.k → (E.row f)[j * E.k + i]? = (E.enc f[j])[i]?
 | g :: gs, 0, _, i, hi => by
  show (E.row (g :: gs))[0 * E.k + i]? = (E.enc g)[i]?
  unfold EncG.row; rw [List.flatMap_cons, Nat.zero_mul, Nat.zero_add, List.getElem?_append_left (by rw [E.len]; exact hi)]
 | g :: gs, j + 1, hj, i, hi => by
  have hj' : j < gs.length := by simpa using hj
  have h := row_at gs j hj' i hi
  show (E.row (g :: gs))[(j + 1) * E.k + i]? = (E.enc gs[j])[i]?
  rw [← h]; unfold EncG.row; have e : (j + 1) * E.k + i = E.k + (j * E.k + i) := by rw [Nat.add_mul, Nat.one_mul]; omega
  rw [List.flatMap_cons, e, List.getElem?_append_right (by rw [E.len]; omega), E.len, Nat.add_sub_cancel_left]
theorem row_one (f : List α) : ∀ u ∈ E.row f, u.oneCell' = true := by
 intro u hu; obtain ⟨q, _, h⟩ := List.mem_flatMap.1 hu; exact E.one q u h
theorem row_drop (f : List α) (i : Nat) : E.row (f.drop i) = (E.row f).drop (i * E.k) := by
 by_cases h : i ≤ f.length
 ·have e : E.row f = E.row (f.take i) ++ E.row (f.drop i) := by rw [← row_app, List.take_append_drop]
  have hl : (E.row (f.take i)).length = i * E.k := by rw [row_len, List.length_take, Nat.min_eq_left h]
  have e2 := congrArg (List.drop (i * E.k)) e; rw [List.drop_append_of_le_length (by omega), List.drop_of_length_le (l := E.row (f.take i)) (by omega), List.nil_append] at e2; exact e2.symm
 ·rw [List.drop_of_length_le (by omega), List.drop_of_length_le (by rw [row_len]; exact Nat.mul_le_mul_right _ (by omega))]
  rfl
theorem row_take (f : List α) (i : Nat) : E.row (f.take i) = (E.row f).take (i * E.k) := by
 by_cases h : i ≤ f.length
 ·have e : E.row f = E.row (f.take i) ++ E.row (f.drop i) := by rw [← row_app, List.take_append_drop]
  have hl : (E.row (f.take i)).length = i * E.k := by rw [row_len, List.length_take, Nat.min_eq_left h]
  have e2 := congrArg (List.take (i * E.k)) e; rw [List.take_append_of_le_length (by omega), List.take_of_length_le (l := E.row (f.take i)) (by omega)] at e2; exact e2.symm
 ·rw [List.take_of_length_le (by omega), List.take_of_length_le (by rw [row_len]; exact Nat.mul_le_mul_right _ (by omega))]
def PartG (v : Value) (f : List α) (w : World) : Prop :=
 ∃ a cap, v = .slice a f.length cap ∧ (a = none → f.length = 0 ∧ cap = 0) ∧ ∀ ad, a = some ad → ∀ j u, (E.row f)[j]? = some u → w.cell? (ad.add j) = some u
variable {E}
theorem PartG.kp {v : Value} {f : List α} {w w' : World} (h : PartG E v f w) (hk : Kp w w') : PartG E v f w' := by
 obtain ⟨a, cap, h1, h2, h3⟩ := h; exact ⟨a, cap, h1, h2, fun ad e j u hj => kZ hk (h3 ad e j u hj)⟩
theorem own_lenG {w : World} {base n : Nat} {e : TypeId} {v : Value} {f : List α} (h0 : 0 < E.k) (h : w.ownsRow base e E.k v n (E.row f)) : f.length = n := by
 have := h.1; rw [row_len] at this; exact Nat.eq_of_mul_eq_mul_right h0 this
theorem qG {w : World} {base n : Nat} {e : TypeId} {v : Value} {f : List α} (h0 : 0 < E.k) (h : w.ownsRow base e E.k v n (E.row f)) : PartG E v f w := by
 have hn := own_lenG h0 h
 rcases h.2 with ⟨rfl, hz⟩ | ⟨g, cap, cur, rfl, hg, hh, hc, hm, hs, ht⟩
 ·exact ⟨none, 0, by rw [hn, hz], fun _ => ⟨by omega, rfl⟩, fun ad q => by cases q⟩
 ·refine ⟨some ⟨g, 0, none⟩, cap, by rw [hn], fun q => (by cases q), fun ad q j u hj => ?_⟩
  injection q with q
  subst q; exact h.cells rfl j u hj
theorem own_takeG {w : World} {base n g cap i : Nat} {e : TypeId} {f : List α} (h0 : 0 < E.k) (h : w.ownsRow base e E.k (.slice (some ⟨g, 0, none⟩) n cap) n (E.row f)) (hi : i ≤ n) : PartG E (.slice (some ⟨g, 0, none⟩) i cap) (f.take i) w := by
 have hn := own_lenG h0 h; refine ⟨some ⟨g, 0, none⟩, cap, by rw [List.length_take, Nat.min_eq_left (by omega)], fun q => (by cases q), fun ad q j u hj => ?_⟩
 injection q with q
 subst q; refine h.cells rfl j u ?_
 rw [row_take, List.getElem?_take] at hj
 split at hj
 ·exact hj
 ·cases hj
theorem own_dropG {w : World} {base n g cap i : Nat} {e : TypeId} {f : List α} (h0 : 0 < E.k) (h : w.ownsRow base e E.k (.slice (some ⟨g, 0, none⟩) n cap) n (E.row f)) (hi : i ≤ n) (ad : Addr) (had : i < n → ad = ⟨g, i * E.k, none⟩) (c : Nat) : PartG E (.slice (some ad) (n - i) c) (f.drop i) w := by
 have hn := own_lenG h0 h; refine ⟨some ad, c, by rw [List.length_drop, hn], fun q => (by cases q), fun a2 q j u hj => ?_⟩
 injection q with q
 subst q; have hlt : i < n := by
  rcases Nat.lt_or_ge i n with q | q
  ·exact q
  ·rw [List.drop_of_length_le (by omega)] at hj; simp [EncG.row] at hj
 rw [had hlt]; rw [row_drop, List.getElem?_drop] at hj; have := h.cells rfl (i * E.k + j) u hj; rw [Addr.add_lit] at this ⊢
 simpa using this
theorem bG {w : World} {base base' n k : Nat} {e : TypeId} {v : Value} {us : List Value} (h : w.ownsRow base e k v n us) (hb : base' ≤ base) : w.ownsRow base' e k v n us := by
 refine ⟨h.1, ?_⟩
 rcases h.2 with q | ⟨g', cap, cur, ee, hg, r⟩
 ·exact Or.inl q
 ·exact Or.inr ⟨g', cap, cur, ee, Nat.le_trans hb hg, r⟩
theorem sG {w w' : World} {base n k : Nat} {e : TypeId} {v : Value} {us : List Value} (h : w.ownsRow base e k v n us) (hb : ∀ b, v.ownBlock = some b → w'.heap[b]? = w.heap[b]?) : w'.ownsRow base e k v n us := by
 refine ⟨h.1, ?_⟩
 rcases h.2 with q | ⟨g', cap, cur, ee, hg, hh, r⟩
 ·exact Or.inl q
 ·exact Or.inr ⟨g', cap, cur, ee, hg, by rw [hb g' (by rw [ee]; rfl)]; exact hh, r⟩
theorem fG {w : World} {v : Value} {base n k : Nat} {e : TypeId} {us : List Value} (h : w.ownsRow base e k v n us) : ∃ a cp, v = .slice a n cp := by
 rcases h.2 with ⟨rfl, h0⟩ | ⟨g', cap, cur, rfl, _⟩
 ·exact ⟨none, 0, by rw [h0]⟩
 ·exact ⟨_, _, rfl⟩
theorem grown_anyG {w w' : World} {r : Option Nat} (h : w.grownBy w' none) : w.grownBy w' r := ⟨h.os, h.tape, h.output, h.size, fun k hk _ => h.block k hk (by simp)⟩
structure TyG (P : Program) (T e : TypeId) (k : Nat) (z : Value) (by' : Nat) : Prop where
 und : P.underlying T = some (.slice e)
 info : ∃ i0, P.info? e = some i0 ∧ i0.zero = some z ∧ i0.size = k ∧ i0.bytes = by'
 zc : z.cells.size = k
 le : by' ≤ 4096
theorem wpOp_of_listG {P : Program} {ops : Array Oper} {Q : Exit → Act → World → Prop} {K : Act → World → Prop} {i : Nat} {o : Oper} {a : Act} {w : World} (h0 : ops[i]? = some o) (h : wpList P ops (Exit.then K Q) [o] a w) : wpOp P ops Q i K a w := by
 unfold wpOp; simp only [h0]
 exact h
theorem AllReadyH.consLG {P : Program} {md : Region.Mode} {ops : Array Oper} {Q : Exit → Act → World → Prop} {S : World → Prop} {fuel : Nat} {listed : Array Bool} {a : Act} {w : World} {i : Nat} {o : Oper} {rs : List Nat} (ho : ops[i]? = some o)
  (h : ∀ K' : Act → World → Prop, Shut (∀ a w, S w → (S w → wpAnyH P md ops Q S fuel (listed.setIfInBounds i true) a w) → K' a w) → wpList P ops (Exit.then K' Q) [o] a w)
  (hs : AllReadyH P md ops Q S fuel listed a w rs) : AllReadyH P md ops Q S fuel listed a w (i :: rs) := fun j hj => by
 rcases List.mem_cons.1 hj with rfl | hj
 ·exact wpOp_of_listG ho (h _ (fun a w h1 h2 => ⟨h1, h2 h1⟩))
 ·exact hs j hj
theorem bytes_le {n by' : Nat} (h1 : n ≤ 1000000) (h2 : by' ≤ 4096) : n * by' ≤ 140737488355328 :=
 Nat.le_trans (Nat.mul_le_mul h1 h2) (by decide)
theorem aG {P : Program} {T e : TypeId} {z : Value} {by' : Nat} (ty : TyG P T e E.k z by') (h0 : 0 < E.k) (w : World) {ops : Array Oper} {rest : List Oper} {o : Oper} {a : Act} {Q : Exit → Act → World → Prop} (hgd : o.guard = none) (s x : Operand)
  (ho : o.op = .call { callee := .builtin .append, args := #[s, x], argTypes := #[T, T] })
  (base : Nat) (v : Value) (n : Nat) (xs : List α) (hs : a.eval s = v) (hown : w.ownsRow base e E.k v n (E.row xs))
  (u : Value) (f : List α) (hx : a.eval x = u) (hb : PartG E u f w) (h63 : n + f.length ≤ 1000000) (hbase : base ≤ w.heap.size)
  (h : ∀ v' w', w'.ownsRow base e E.k v' (n + f.length) (E.row (xs ++ f)) → w.grownBy w' v.ownBlock → (∀ b, v'.ownBlock = some b → v.ownBlock = some b ∨ w.heap.size ≤ b) → wpList P ops Q rest (a.put o.dst v') w') : wpList P ops Q (o :: rest) a w := by
 obtain ⟨i0, hi, hz0, hz1, hz2⟩ := ty.info; rw [row_app] at h; obtain ⟨ao, cap, rfl, hno, hc⟩ := hb; have hmax : n + f.length ≤ maxLen := by unfold maxLen; omega
 have hby := bytes_le h63 ty.le
 cases ao with
 | none =>
  obtain ⟨h1, rfl⟩ := hno rfl; have hf : f = [] := List.length_eq_zero_iff.1 h1; subst hf; exact wpList_append_own_none hgd s x T ho base e i0 E.k ty.und hi v n (E.row xs) hs hown hx (h v w (by simpa [EncG.row] using hown) ⟨rfl, rfl, rfl, Nat.le_refl _, fun _ _ _ => rfl⟩ (fun b q => .inl q))
 | some ad =>
  rcases hown.2 with ⟨rfl, rfl⟩ | ⟨g, cap2, cur, rfl, hg, hh, hnc, hcm, hcs, htk⟩
  ·have hxs : E.row xs = [] := List.length_eq_zero_iff.1 (by simpa using hown.1); rw [hxs] at h hown; refine wpList_append_own w hgd s x T ho w.heap.size e i0 z E.k by' ty.und hi hz0 hz1 hz2 ty.zc h0 (.slice none 0 0) 0 [] hs (World.ownsRow_nil w _ _ _) ad f.length cap (E.row f) hx (row_len E f) (hc ad rfl) (row_one E f) hmax hby (Nat.le_refl _) ?_
   intro v' w' h1 h2 _; exact h v' w' (bG h1 hbase) h2 (fun b q => .inr (h1.lt b q).1)
  ·by_cases hfit : n + f.length ≤ cap2
   ·refine wpList_append_fits w hgd s x T ho base e i0 E.k ty.und hi hz1 g n cap2 (E.row xs) hs hown ad f.length cap (E.row f) hx (row_len E f) (hc ad rfl) (row_one E f) hfit ?_
    intro w' h1 h2; exact h _ w' h1 h2 (fun b q => .inl q)
   ·have holds : ∀ b, (some ⟨g, 0, none⟩ : Option Addr) = some b → ∀ j u, (E.row xs)[j]? = some u → w.cell? (b.add j) = some u := by
     intro b e j u hj; injection e with e
     subst e; exact hown.cells rfl j u hj
    refine wpList_append_grows w hgd s x T ho e i0 z E.k by' ty.und hi hz0 hz1 hz2 ty.zc h0 (some ⟨g, 0, none⟩) n cap2 (E.row xs) hs (fun e => by cases e) hown.1 holds ad f.length cap (E.row f) hx (row_len E f) (hc ad rfl) (row_one E f) (by omega) hmax hby ?_
    intro v' w' h1 h2; exact h v' w' (bG h1 hbase) (grown_anyG h2) (fun b q => .inr (h1.lt b q).1)
theorem sl_headG {P : Program} {T e : TypeId} {k b n cp i : Nat} {ii : Int} (hu : P.underlying T = some (.slice e)) (hz : ∃ i0, P.info? e = some i0 ∧ i0.size = k) (hii : (i : Int) = ii) (hi : i ≤ n) (hnc : n ≤ cp) (w : World) :
  (Instr.slice T (.slice (some ⟨b, 0, none⟩) n cp) none (some (.int .i64 ii)) none).run P w = .ok (.slice (some ⟨b, 0, none⟩) i cp) w := by
 have he : P.elem T = e := by simp [Program.elem, hu]
 have hs : (Go.sizeOf e).run P w = .ok k w := by
  obtain ⟨i0, h1, h2⟩ := hz
  simp [sizeOf, typeInfo, h1, h2]
 rw [run_slice_h w T _ _ _ (by rw [hu, he]) .i64 _ (by omega) (by omega), he, hs]; have e : ii.toNat = i := by omega
 simp [Result.andThen, sliced, Addr.add, e]
theorem sl_tailG {P : Program} {T e : TypeId} {k b n cp i : Nat} {ii : Int} (hu : P.underlying T = some (.slice e)) (hz : ∃ i0, P.info? e = some i0 ∧ i0.size = k) (hii : (i : Int) = ii) (hi : i ≤ n) (w : World) :
  (Instr.slice T (.slice (some ⟨b, 0, none⟩) n cp) (some (.int .i64 ii)) none none).run P w = .ok (.slice (some ⟨b, if cp = i then 0 else i * k, none⟩) (n - i) (cp - i)) w := by
 have he : P.elem T = e := by simp [Program.elem, hu]
 have hs : (Go.sizeOf e).run P w = .ok k w := by
  obtain ⟨i0, h1, h2⟩ := hz
  simp [sizeOf, typeInfo, h1, h2]
 rw [run_slice_l w T _ _ _ (by rw [hu, he]) .i64 _ (by omega) (by omega), he, hs]; have e : ii.toNat = i := by omega
 simp [Result.andThen, sliced, Addr.add, e]
 split <;> simp <;> omega
end
open Go.RowKit
structure Asd (O O' : Nat → Prop) (w w' : World) : Prop where
 os : w'.os = w.os
 tape : w'.tape = w.tape
 output : w'.output = w.output
 size : w.heap.size ≤ w'.heap.size
 block : ∀ b, b < w.heap.size → ¬ O b → w'.heap[b]? = w.heap[b]?
 own : ∀ b, O' b → O b ∨ w.heap.size ≤ b
theorem Asd.kp {O O' : Nat → Prop} {W w w' : World} (h : Asd O O' w w') (hk : Kp W w) (hO : ∀ b, O b → W.heap.size ≤ b) : Kp W w' :=
 ⟨h.os.trans hk.os, h.tape.trans hk.tape, h.output.trans hk.output, Nat.le_trans (Below.size hk) h.size, fun b hb => by
  rw [h.block b (Nat.lt_of_lt_of_le hb (Below.size hk)) (fun q => absurd (hO b q) (by omega))]; exact Below.block hk b hb⟩
theorem Asd.trans {P P' P'' : Nat → Prop} {a b c : World} (h : Asd P P' a b) (k : Asd P' P'' b c) : Asd P P'' a c :=
 ⟨k.os.trans h.os, k.tape.trans h.tape, k.output.trans h.output, Nat.le_trans h.size k.size, fun i hi hn => by
  rw [k.block i (Nat.lt_of_lt_of_le hi h.size) (fun q => by rcases h.own i q with q | q; exact hn q; omega)]; exact h.block i hi hn, fun i q => by
  rcases k.own i q with q | q
  ·exact h.own i q
  ·exact .inr (Nat.le_trans h.size q)⟩
theorem Asd.of_kp (P : Nat → Prop) {w w' : World} (h : Kp w w') : Asd P P w w' := ⟨h.os, h.tape, h.output, Below.size h, fun b hb _ => Below.block h b hb, fun _ q => .inl q⟩
open Go.RowKit Go.ChangeShapes Go.WideShapes
theorem cU {b i : Nat} {t : TypeId} {w : World} {cs : Array Value} {x : Nat × Nat} {v : Value} (h : w.heap[b]? = some (.cells cs t x)) (hv : cs[i]? = some v) : w.cell? ⟨b, i, none⟩ = some v := by
 unfold World.cell?; dsimp only; rw [h]; exact hv
theorem fQ {b : Nat} {t : TypeId} {w : World} {cs : Array Value} (h : w.heap[b]? = some (.cells cs t (0, 0))) (i : Nat) : w.frozen? ⟨b, i, none⟩ = false := by
 unfold World.frozen?; dsimp only; rw [h]
 simp
theorem dQ {a b : World} (h : Kp a b) : Kp a b.drew := ⟨h.os, h.tape, h.output, h.size, h.block⟩
theorem asdQ {O : Nat → Prop} {g i : Nat} {w : World} (h : O g) (y : Value) : Asd O O w (w.setCell ⟨g, i, none⟩ y) where
 os := rfl
 tape := rfl
 output := rfl
 size := by simp
 block := fun b _ hn => bS _ _ _ _ (fun e => hn (by rw [e]; exact h))
 own := fun b q => .inl q
theorem own_kindQ {w : World} {B : Nat} {e : TypeId} {k n : Nat} {v : Value} {xs : List Value} (h : w.ownsRow B e k v n xs) (g : Nat) (hg : v.ownBlock = some g) : ∃ c, w.heap[g]? = some (.cells c e (0, 0)) := by
 rcases h.2 with ⟨rfl, _⟩ | ⟨g', cap, cur, rfl, _, hgg, _⟩
 ·simp [Value.ownBlock] at hg
 ·simp [Value.ownBlock] at hg
  subst hg; exact ⟨cur, hgg⟩
theorem aQ {w : World} {B B' : Nat} {e e' : TypeId} {k k' n n' : Nat} {v v' : Value} {xs xs' : List Value} (h : w.ownsRow B e k v n xs) (h' : w.ownsRow B' e' k' v' n' xs') (hne : e ≠ e') (b : Nat) (hb : v.ownBlock = some b) : v'.ownBlock ≠ some b := fun hb' => by
 obtain ⟨c, h1⟩ := own_kindQ h b hb; obtain ⟨c', h2⟩ := own_kindQ h' b hb'; rw [h1] at h2; injection h2 with h2
 injection h2 with _ h2 _
 exact hne h2
theorem cQ {α : Type} {E : EncG α} {w : World} {B : Nat} {e : TypeId} {v : Value} {f : List α} {n : Nat} (h : w.ownsRow B e E.k v n (E.row f)) (hn : f.length = n) {j : Nat} (hj : j < n) : ∃ g cp, v = .slice (some ⟨g, 0, none⟩) n cp ∧ n ≤ cp ∧ B ≤ g ∧ g < w.heap.size ∧ (∀ i, w.frozen? ⟨g, i, none⟩ = false) ∧ ∀ (i : Nat) (u : Value), i < E.k → (E.enc (f[j]'(by omega)))[i]? = some u → w.cell? ⟨g, j * E.k + i, none⟩ = some u := by
 subst hn
 rcases h.2 with ⟨rfl, h0⟩ | ⟨g, cp, cur, rfl, hg, hh, hc, _⟩
 ·omega
 ·refine ⟨g, cp, rfl, hc, hg, oZ hh, fun i => h.frozenAt i, fun i u hi hu => ?_⟩
  have := h.cells rfl (j * E.k + i) u (by rw [← hu]; exact row_at E f j hj i hi); rw [Addr.add_lit, Nat.zero_add] at this; exact this
theorem row_set1 {α : Type} (E : EncG α) : ∀ (f : List α) (i : Nat) (hi : i < f.length) (j : Nat) (_ : j < E.k) (y : Value) (x' : α) (_ : E.enc x' = (E.enc f[i]).set j y), (E.row f).set (i * E.k + j) y = E.row (f.set i x')
 | x :: f, 0, _, j, hj, y, x', hx => by
  show (E.row (x :: f)).set (0 * E.k + j) y = E.row (x' :: f)
  unfold EncG.row; rw [List.flatMap_cons, List.flatMap_cons, Nat.zero_mul, Nat.zero_add, List.set_append_left _ _ (by rw [E.len]; exact hj), hx]
  rfl
 | x :: f, i + 1, hi, j, hj, y, x', hx => by
  have ih := row_set1 E f i (by simpa using hi) j hj y x' hx; rw [List.set_cons_succ]; unfold EncG.row at ih ⊢; rw [List.flatMap_cons, List.flatMap_cons, ← ih, show (i + 1) * E.k + j = E.k + (i * E.k + j) by rw [Nat.add_mul, Nat.one_mul]; omega, List.set_append_right _ _ (by rw [E.len]; omega), E.len, Nat.add_sub_cancel_left]
structure AcG where
 (a : AcM) (o : Option Addr) (c : Nat)
def AcG.v (p : AcG) : Value := .slice p.o p.a.regs.length p.c
def acE : EncG AcG where
 enc p := [.int .i64 p.a.c.n, .int .i64 p.a.c.s, .int .i64 p.a.c.o, .int .i64 p.a.c.d, .float .f64 p.a.c.x, .int .i64 p.a.par, .int .i64 p.a.dec, p.v]
 k := 8
 len := fun _ => rfl
 one := by
  intro x u hu; simp only [List.mem_cons, List.not_mem_nil, or_false] at hu
  rcases hu with rfl | rfl | rfl | rfl | rfl | rfl | rfl | rfl <;> rfl
def paE : EncG PaM where
 enc p := [.int .i64 p.n, .int .i64 p.s, .int .i64 p.reg, .int .i64 p.z.p, .int .i64 p.z.e, .int .i64 p.z.s, .int .i64 p.z.h]
 k := 7
 len := fun _ => rfl
 one := by
  intro x u hu; simp only [List.mem_cons, List.not_mem_nil, or_false] at hu
  rcases hu with rfl | rfl | rfl | rfl | rfl | rfl | rfl <;> rfl
def rgE : EncG RgM where
 enc p := [.int .i64 p.node, .int .i64 p.part, .int .i64 p.z.p, .int .i64 p.z.e, .int .i64 p.z.s, .int .i64 p.z.h]
 k := 6
 len := fun _ => rfl
 one := by
  intro x u hu; simp only [List.mem_cons, List.not_mem_nil, or_false] at hu
  rcases hu with rfl | rfl | rfl | rfl | rfl | rfl <;> rfl
structure TyQ where
 (st ac pt rg : TypeId)
structure TyQ.Ok (T : TyQ) : Prop where
 sa : T.st ≠ T.ac
 sp : T.st ≠ T.pt
 sr : T.st ≠ T.rg
 ap : T.ac ≠ T.pt
 ar : T.ac ≠ T.rg
 pr : T.pt ≠ T.rg
structure GS (T : TyQ) (B q : Nat) (m : StM) (gs : List AcG) (va vp : Value) (w : World) : Prop where
 row : w.heap[q]? = some (.cells #[.int .i64 m.node, .int .i64 m.next, va, vp] T.st (0, 0))
 bq : B ≤ q
 acts : m.acts = gs.map AcG.a
 oa : w.ownsRow B T.ac 8 va gs.length (acE.row gs)
 op : w.ownsRow B T.pt 7 vp m.parts.length (paE.row m.parts)
 og : ∀ g ∈ gs, w.ownsRow B T.rg 6 g.v g.a.regs.length (rgE.row g.a.regs)
 dis : ∀ (i j : Nat) (g h : AcG), gs[i]? = some g → gs[j]? = some h → i ≠ j → ∀ b, g.v.ownBlock = some b → h.v.ownBlock ≠ some b
def Ow (q : Nat) (gs : List AcG) (va vp : Value) (b : Nat) : Prop := b = q ∨ va.ownBlock = some b ∨ vp.ownBlock = some b ∨ ∃ g ∈ gs, g.v.ownBlock = some b
section
variable {T : TyQ} {B q : Nat} {m : StM} {gs gs' : List AcG} {va vp va' vp' : Value} {w w' W w3 : World}
theorem GS.mem (h : GS T B q m gs va vp w) : ∀ b, Ow q gs va vp b → B ≤ b ∧ b < w.heap.size := by
 rintro b (rfl | hb | hb | ⟨g, hg, hb⟩)
 ·exact ⟨h.bq, oZ h.row⟩
 ·exact h.oa.lt b hb
 ·exact h.op.lt b hb
 ·exact (h.og g hg).lt b hb
theorem GS.stay (h : GS T B q m gs va vp w) (hb : ∀ b, Ow q gs va vp b → w'.heap[b]? = w.heap[b]?) : GS T B q m gs va vp w' where
 row := by rw [hb q (.inl rfl)]; exact h.row
 bq := h.bq
 acts := h.acts
 oa := sG h.oa (fun b e => hb b (.inr (.inl e)))
 op := sG h.op (fun b e => hb b (.inr (.inr (.inl e))))
 og := fun g hg => sG (h.og g hg) (fun b e => hb b (.inr (.inr (.inr ⟨g, hg, e⟩))))
 dis := h.dis
theorem GS.kp (h : GS T B q m gs va vp w) (hk : Kp w w') : GS T B q m gs va vp w' := h.stay fun b hb => Below.block hk b (h.mem b hb).2
theorem GS.base {B' : Nat} (h : GS T B q m gs va vp w) (hb : B' ≤ B) : GS T B' q m gs va vp w where
 row := h.row
 bq := Nat.le_trans hb h.bq
 acts := h.acts
 oa := bG h.oa hb
 op := bG h.op hb
 og := fun g hg => bG (h.og g hg) hb
 dis := h.dis
theorem GS.len (h : GS T B q m gs va vp w) : gs.length = m.acts.length := by rw [h.acts, List.length_map]
theorem GS.qa (h : GS T B q m gs va vp w) (ok : T.Ok) : va.ownBlock ≠ some q := fun e => by
 obtain ⟨c, hc⟩ := own_kindQ h.oa q e; rw [h.row] at hc; injection hc with hc; injection hc with _ hc _; exact ok.sa hc
theorem GS.qp (h : GS T B q m gs va vp w) (ok : T.Ok) : vp.ownBlock ≠ some q := fun e => by
 obtain ⟨c, hc⟩ := own_kindQ h.op q e; rw [h.row] at hc; injection hc with hc; injection hc with _ hc _; exact ok.sp hc
theorem GS.qg (h : GS T B q m gs va vp w) (ok : T.Ok) {g : AcG} (hg : g ∈ gs) : g.v.ownBlock ≠ some q := fun e => by
 obtain ⟨c, hc⟩ := own_kindQ (h.og g hg) q e; rw [h.row] at hc; injection hc with hc; injection hc with _ hc _; exact ok.sr hc
theorem GS.vForm (h : GS T B q m gs va vp w) : ∃ a cp, va = .slice a gs.length cp := fG h.oa
theorem GS.pForm (h : GS T B q m gs va vp w) : ∃ a cp, vp = .slice a m.parts.length cp := fG h.op
theorem GS.at (h : GS T B q m gs va vp w) {i : Nat} {a : AcM} (ha : m.acts[i]? = some a) : ∃ g, gs[i]? = some g ∧ g.a = a := by
 rw [h.acts, List.getElem?_map] at ha
 cases hg : gs[i]? with
 | none => rw [hg] at ha; cases ha
 | some g => rw [hg] at ha; exact ⟨g, rfl, by simpa using ha⟩
theorem GS.setNext (h : GS T B q m gs va vp w) (ok : T.Ok) (nx : Int) : GS T B q { m with next := nx } gs va vp (w.setCell ⟨q, 1, none⟩ (.int .i64 nx)) ∧ Asd (Ow q gs va vp) (Ow q gs va vp) w (w.setCell ⟨q, 1, none⟩ (.int .i64 nx)) := by
 have ne : ∀ (b : Nat), b ≠ q → (w.setCell ⟨q, 1, none⟩ (.int .i64 nx)).heap[b]? = w.heap[b]? := fun b hb => bS _ _ _ _ hb
 refine ⟨⟨(Joins.block_setCell h.row _).trans rfl, h.bq, h.acts, ?_, ?_, ?_, h.dis⟩, asdQ (.inl rfl) _⟩
 ·exact sG h.oa (fun b e => ne b (fun e2 => h.qa ok (e2 ▸ e)))
 ·exact sG h.op (fun b e => ne b (fun e2 => h.qp ok (e2 ▸ e)))
 ·exact fun g hg => sG (h.og g hg) (fun b e => ne b (fun e2 => h.qg ok hg (e2 ▸ e)))
theorem GS.repA (h : GS T B q m gs va vp w) (ok : T.Ok) (hk : Kp w W) (hg : W.grownBy w3 va.ownBlock) {L : Nat} (hL : gs'.length = L) (ho : w3.ownsRow B T.ac 8 va' L (acE.row gs'))
  (hb : ∀ b, va'.ownBlock = some b → va.ownBlock = some b ∨ w.heap.size ≤ b) (hs : ∀ g ∈ gs', g ∈ gs ∨ (g.a.regs = [] ∧ g.o = none ∧ g.c = 0))
  (hd : ∀ (i j : Nat) (g h : AcG), gs'[i]? = some g → gs'[j]? = some h → i ≠ j → ∀ b, g.v.ownBlock = some b → h.v.ownBlock ≠ some b) :
  GS T B q { m with acts := gs'.map AcG.a } gs' va' vp (w3.setCell ⟨q, 2, none⟩ va') ∧ Asd (Ow q gs va vp) (Ow q gs' va' vp) w (w3.setCell ⟨q, 2, none⟩ va') := by
 subst hL; have hsz := Below.size hk; have hlt := oZ h.row; have keep : ∀ b, b < w.heap.size → va.ownBlock ≠ some b → w3.heap[b]? = w.heap[b]? := fun b h1 h2 => by
  rw [hg.block b (by omega) (fun e => h2 e.symm)]; exact Below.block hk b h1
 have n6 : va'.ownBlock ≠ some q := fun e => (hb q e).elim (h.qa ok) (fun e => by omega)
 have r1 := (keep q hlt (h.qa ok)).trans h.row; have ne : ∀ (b : Nat), b ≠ q → (w3.setCell ⟨q, 2, none⟩ va').heap[b]? = w3.heap[b]? := fun b hb => bS _ _ _ _ hb
 have nv : ∀ g : AcG, g.a.regs = [] ∧ g.o = none ∧ g.c = 0 → g.v = .slice none 0 0 := fun g ⟨q1, q2, q3⟩ => by unfold AcG.v; rw [q1, q2, q3]; rfl
 refine ⟨⟨(Joins.block_setCell r1 _).trans rfl, h.bq, rfl, ?_, ?_, ?_, hd⟩, ?_⟩
 ·exact sG ho (fun b e => ne b (fun e2 => n6 (e2 ▸ e)))
 ·refine sG h.op (fun b e => ?_)
  have hb2 := h.op.lt b e; rw [ne b (fun e2 => h.qp ok (e2 ▸ e))]; exact keep b hb2.2 (fun e2 => aQ h.oa h.op ok.ap b e2 e)
 ·intro g hgm
  rcases hs g hgm with q1 | q1
  ·refine sG (h.og g q1) (fun b e => ?_)
   have hb2 := (h.og g q1).lt b e; rw [ne b (fun e2 => h.qg ok q1 (e2 ▸ e))]; exact keep b hb2.2 (fun e2 => aQ h.oa (h.og g q1) ok.ar b e2 e)
  ·rw [nv g q1, q1.1]; exact World.ownsRow_nil _ _ _ _
 ·refine ⟨hg.os.trans hk.os, hg.tape.trans hk.tape, hg.output.trans hk.output, by simpa using Nat.le_trans hsz hg.size, fun b hb2 hn => ?_, fun b e => ?_⟩
  ·rw [ne b (fun e => hn (.inl e))]; exact keep b hb2 (fun e => hn (.inr (.inl e)))
  ·rcases e with rfl | e | e | ⟨g, q1, e⟩
   ·exact .inl (.inl rfl)
   ·exact (hb b e).imp (fun e => .inr (.inl e)) id
   ·exact .inl (.inr (.inr (.inl e)))
   ·rcases hs g q1 with q2 | q2
    ·exact .inl (.inr (.inr (.inr ⟨g, q2, e⟩)))
    ·rw [nv g q2] at e
     cases e
theorem GS.repP (h : GS T B q m gs va vp w) (ok : T.Ok) (hk : Kp w W) (hg : W.grownBy w3 vp.ownBlock) {L : Nat} {ps : List PaM} (hL : ps.length = L) (ho : w3.ownsRow B T.pt 7 vp' L (paE.row ps))
  (hb : ∀ b, vp'.ownBlock = some b → vp.ownBlock = some b ∨ w.heap.size ≤ b) :
  GS T B q { m with parts := ps } gs va vp' (w3.setCell ⟨q, 3, none⟩ vp') ∧ Asd (Ow q gs va vp) (Ow q gs va vp') w (w3.setCell ⟨q, 3, none⟩ vp') := by
 subst hL; have hsz := Below.size hk; have hlt := oZ h.row; have keep : ∀ b, b < w.heap.size → vp.ownBlock ≠ some b → w3.heap[b]? = w.heap[b]? := fun b h1 h2 => by
  rw [hg.block b (by omega) (fun e => h2 e.symm)]; exact Below.block hk b h1
 have n6 : vp'.ownBlock ≠ some q := fun e => (hb q e).elim (h.qp ok) (fun e => by omega)
 have r1 := (keep q hlt (h.qp ok)).trans h.row; have ne : ∀ (b : Nat), b ≠ q → (w3.setCell ⟨q, 3, none⟩ vp').heap[b]? = w3.heap[b]? := fun b hb => bS _ _ _ _ hb
 refine ⟨⟨(Joins.block_setCell r1 _).trans rfl, h.bq, h.acts, ?_, ?_, ?_, h.dis⟩, ?_⟩
 ·refine sG h.oa (fun b e => ?_)
  have hb2 := h.oa.lt b e; rw [ne b (fun e2 => h.qa ok (e2 ▸ e))]; exact keep b hb2.2 (fun e2 => aQ h.oa h.op ok.ap b e e2)
 ·exact sG ho (fun b e => ne b (fun e2 => n6 (e2 ▸ e)))
 ·intro g hgm; refine sG (h.og g hgm) (fun b e => ?_)
  have hb2 := (h.og g hgm).lt b e; rw [ne b (fun e2 => h.qg ok hgm (e2 ▸ e))]; exact keep b hb2.2 (fun e2 => aQ h.op (h.og g hgm) ok.pr b e2 e)
 ·refine ⟨hg.os.trans hk.os, hg.tape.trans hk.tape, hg.output.trans hk.output, by simpa using Nat.le_trans hsz hg.size, fun b hb2 hn => ?_, fun b e => ?_⟩
  ·rw [ne b (fun e => hn (.inl e))]; exact keep b hb2 (fun e => hn (.inr (.inr (.inl e))))
  ·rcases e with rfl | e | e | e
   ·exact .inl (.inl rfl)
   ·exact .inl (.inr (.inl e))
   ·exact (hb b e).imp (fun e => .inr (.inr (.inl e))) id
   ·exact .inl (.inr (.inr (.inr e)))
theorem GS.setP {g n cp j i : Nat} {x x' : PaM} {y : Value} (h : GS T B q m gs va (.slice (some ⟨g, 0, none⟩) n cp) w) (ok : T.Ok) (hx : m.parts[j]? = some x) (hi : i < 7) (he : paE.enc x' = (paE.enc x).set i y) :
  GS T B q { m with parts := m.parts.set j x' } gs va (.slice (some ⟨g, 0, none⟩) n cp) (w.setCell ⟨g, j * 7 + i, none⟩ y) ∧ Asd (Ow q gs va (.slice (some ⟨g, 0, none⟩) n cp)) (Ow q gs va (.slice (some ⟨g, 0, none⟩) n cp)) w (w.setCell ⟨g, j * 7 + i, none⟩ y) := by
 obtain ⟨hj, hx⟩ := List.getElem?_eq_some_iff.1 hx; have ne : ∀ (b : Nat), b ≠ g → (w.setCell ⟨g, j * 7 + i, none⟩ y).heap[b]? = w.heap[b]? := fun b hb => bS _ _ _ _ hb
 have hn : m.parts.length = n := own_lenG (E := paE) (by decide) (by
  obtain ⟨a, c, e⟩ := fG h.op; injection e with _ e _
  rw [e]; exact h.op)
 subst hn; have hrow := row_set1 paE m.parts j hj i hi y x' (by rw [hx]; exact he); have o1 := (h.op.stored (j * 7 + i) y).1; rw [show (paE.row m.parts).set (j * 7 + i) y = paE.row (m.parts.set j x') from hrow] at o1; refine ⟨⟨?_, h.bq, h.acts, ?_, ?_, ?_, h.dis⟩, asdQ (.inr (.inr (.inl rfl))) _⟩
 ·rw [ne q (fun e => h.qp ok (by rw [e]; rfl))]; exact h.row
 ·exact sG h.oa (fun b e => ne b (fun e2 => aQ h.oa h.op ok.ap b e (by rw [e2]; rfl)))
 ·show World.ownsRow _ B T.pt 7 _ (m.parts.set j x').length _
  rw [List.length_set]; exact o1
 ·exact fun x hx => sG (h.og x hx) (fun b e => ne b (fun e2 => aQ h.op (h.og x hx) ok.pr b (by rw [e2]; rfl) e))
theorem set_at {α : Type} {l : List α} {i j : Nat} {x y : α} (h : (l.set i x)[j]? = some y) : (i = j ∧ y = x) ∨ (i ≠ j ∧ l[j]? = some y) := by
 rw [List.getElem?_set] at h
 by_cases e : i = j
 ·rw [if_pos e] at h
  split at h
  ·exact .inl ⟨e, by injection h with h; exact h.symm⟩
  ·cases h
 ·rw [if_neg e] at h; exact .inr ⟨e, h⟩
theorem dis_set {i : Nat} {g g' : AcG} (hd : ∀ (i j : Nat) (g h : AcG), gs[i]? = some g → gs[j]? = some h → i ≠ j → ∀ b, g.v.ownBlock = some b → h.v.ownBlock ≠ some b) (hg : gs[i]? = some g) {N : Nat} (hN : ∀ x ∈ gs, ∀ b, x.v.ownBlock = some b → b < N) (hb : ∀ b, g'.v.ownBlock = some b → g.v.ownBlock = some b ∨ N ≤ b) :
  ∀ (k j : Nat) (x y : AcG), (gs.set i g')[k]? = some x → (gs.set i g')[j]? = some y → k ≠ j → ∀ b, x.v.ownBlock = some b → y.v.ownBlock ≠ some b := by
 intro k j x y hx hy hkj b e1 e2
 rcases set_at hx with ⟨k1, k2⟩ | ⟨h1, hx2⟩
 ·rcases set_at hy with ⟨k3, k4⟩ | ⟨h2, hy2⟩
  ·exact hkj (k1.symm.trans k3)
  ·subst k2
   rcases hb b e1 with q | q
   ·exact hd i j g y hg hy2 (fun e => h2 e) b q e2
   ·have := hN y (List.mem_of_getElem? hy2) b e2; omega
 ·rcases set_at hy with ⟨k3, k4⟩ | ⟨h2, hy2⟩
  ·subst k4
   rcases hb b e2 with q | q
   ·exact hd k i x g hx2 hg (fun e => h1 e.symm) b e1 q
   ·have := hN x (List.mem_of_getElem? hx2) b e1; omega
  ·exact hd k j x y hx2 hy2 hkj b e1 e2
theorem GS.setA {g n cp j i : Nat} {x x' : AcG} {y : Value} (h : GS T B q m gs (.slice (some ⟨g, 0, none⟩) n cp) vp w) (ok : T.Ok) (hx : gs[j]? = some x) (hi : i < 8) (he : acE.enc x' = (acE.enc x).set i y) (hr : x'.a.regs = x.a.regs) (hv : x'.v = x.v) :
  GS T B q { m with acts := m.acts.set j x'.a } (gs.set j x') (.slice (some ⟨g, 0, none⟩) n cp) vp (w.setCell ⟨g, j * 8 + i, none⟩ y) ∧ Asd (Ow q gs (.slice (some ⟨g, 0, none⟩) n cp) vp) (Ow q (gs.set j x') (.slice (some ⟨g, 0, none⟩) n cp) vp) w (w.setCell ⟨g, j * 8 + i, none⟩ y) := by
 obtain ⟨hj, hx'⟩ := List.getElem?_eq_some_iff.1 hx; have ne : ∀ (b : Nat), b ≠ g → (w.setCell ⟨g, j * 8 + i, none⟩ y).heap[b]? = w.heap[b]? := fun b hb => bS _ _ _ _ hb
 have hn : gs.length = n := own_lenG (E := acE) (by decide) (by
  obtain ⟨a, c, e⟩ := fG h.oa; injection e with _ e _
  rw [e]; exact h.oa)
 subst hn; have hrow := row_set1 acE gs j hj i hi y x' (by rw [hx']; exact he); have o1 := (h.oa.stored (j * 8 + i) y).1; rw [show (acE.row gs).set (j * 8 + i) y = acE.row (gs.set j x') from hrow] at o1; have hmem : x ∈ gs := List.mem_of_getElem? hx; refine ⟨⟨?_, h.bq, ?_, ?_, ?_, ?_, ?_⟩, ?_⟩
 ·rw [ne q (fun e => h.qa ok (by rw [e]; rfl))]; exact h.row
 ·show m.acts.set j x'.a = _
  rw [h.acts, List.map_set]
 ·rw [List.length_set]; exact o1
 ·exact sG h.op (fun b e => ne b (fun e2 => aQ h.oa h.op ok.ap b (by rw [e2]; rfl) e))
 ·intro z hz; have : ∃ z0 ∈ gs, z.v = z0.v ∧ z.a.regs = z0.a.regs := by
   rcases mem_set hz with hz | rfl
   ·exact ⟨z, hz, rfl, rfl⟩
   ·exact ⟨x, hmem, hv, hr⟩
  obtain ⟨z0, hz0, e1, e2⟩ := this; rw [e1, e2]; exact sG (h.og z0 hz0) (fun b e => ne b (fun e3 => aQ h.oa (h.og z0 hz0) ok.ar b (by rw [e3]; rfl) e))
 ·exact dis_set h.dis hx (N := w.heap.size) (fun z hz b e => ((h.og z hz).lt b e).2) (fun b e => .inl (by rw [← hv]; exact e))
 ·refine ⟨rfl, rfl, rfl, by simp, fun b _ hn => ne b (fun e => hn (.inr (.inl (by rw [e]; rfl)))), fun b e => .inl ?_⟩
  rcases e with rfl | e | e | ⟨z, hz, e⟩
  ·exact .inl rfl
  ·exact .inr (.inl e)
  ·exact .inr (.inr (.inl e))
  ·rcases mem_set hz with hz | rfl
   ·exact .inr (.inr (.inr ⟨z, hz, e⟩))
   ·exact .inr (.inr (.inr ⟨x, hmem, by rw [← hv]; exact e⟩))
theorem GS.setR {gr cr j k i : Nat} {a : AcM} {r r' : RgM} {y : Value} (h : GS T B q m gs va vp w) (ok : T.Ok) (hx : gs[j]? = some ⟨a, some ⟨gr, 0, none⟩, cr⟩) (hk : a.regs[k]? = some r) (hi : i < 6) (he : rgE.enc r' = (rgE.enc r).set i y) :
  GS T B q { m with acts := m.acts.set j { a with regs := a.regs.set k r' } } (gs.set j ⟨{ a with regs := a.regs.set k r' }, some ⟨gr, 0, none⟩, cr⟩) va vp (w.setCell ⟨gr, k * 6 + i, none⟩ y) ∧ Asd (Ow q gs va vp) (Ow q (gs.set j ⟨{ a with regs := a.regs.set k r' }, some ⟨gr, 0, none⟩, cr⟩) va vp) w (w.setCell ⟨gr, k * 6 + i, none⟩ y) := by
 obtain ⟨hk2, hk'⟩ := List.getElem?_eq_some_iff.1 hk; have ne : ∀ (b : Nat), b ≠ gr → (w.setCell ⟨gr, k * 6 + i, none⟩ y).heap[b]? = w.heap[b]? := fun b hb => bS _ _ _ _ hb
 have hmem : (⟨a, some ⟨gr, 0, none⟩, cr⟩ : AcG) ∈ gs := List.mem_of_getElem? hx; have hO := h.og _ hmem; have hrow := row_set1 rgE a.regs k hk2 i hi y r' (by rw [hk']; exact he); have o1 := (World.ownsRow.stored (n := a.regs.length) (cap := cr) hO (k * 6 + i) y).1; rw [show (rgE.row a.regs).set (k * 6 + i) y = rgE.row (a.regs.set k r') from hrow] at o1; have hv : (⟨{ a with regs := a.regs.set k r' }, some ⟨gr, 0, none⟩, cr⟩ : AcG).v = .slice (some ⟨gr, 0, none⟩) a.regs.length cr := by
  unfold AcG.v; dsimp only; rw [List.length_set]
 have hob : (⟨{ a with regs := a.regs.set k r' }, some ⟨gr, 0, none⟩, cr⟩ : AcG).v.ownBlock = some gr := rfl; have hob2 : (⟨a, some ⟨gr, 0, none⟩, cr⟩ : AcG).v.ownBlock = some gr := rfl; obtain ⟨hj, hxj⟩ := List.getElem?_eq_some_iff.1 hx; have erow : acE.row (gs.set j ⟨{ a with regs := a.regs.set k r' }, some ⟨gr, 0, none⟩, cr⟩) = acE.row gs := by
  have := row_set1 acE gs j hj 7 (by decide) (.slice (some ⟨gr, 0, none⟩) a.regs.length cr) ⟨{ a with regs := a.regs.set k r' }, some ⟨gr, 0, none⟩, cr⟩ (by
   rw [hxj]; simp only [acE, AcG.v, List.length_set, List.set_cons_succ, List.set_cons_zero])
  rw [← this]
  apply List.ext_getElem?
  intro p; rw [List.getElem?_set]
  split
  ·rename_i e
   subst e
   split
   ·rw [row_at acE gs j hj 7 (by decide), hxj]
    rfl
   ·rename_i e
    exact absurd (by rw [row_len]; have : acE.k = 8 := rfl; rw [this]; omega) e
  ·rfl
 refine ⟨⟨?_, h.bq, ?_, ?_, ?_, ?_, ?_⟩, ?_⟩
 ·rw [ne q (fun e => h.qg ok hmem (by rw [e]; rfl))]; exact h.row
 ·show m.acts.set j _ = _
  rw [h.acts, List.map_set]
 ·rw [List.length_set, erow]; exact sG h.oa (fun b e => ne b (fun e2 => aQ h.oa hO ok.ar b e (by rw [e2]; rfl)))
 ·exact sG h.op (fun b e => ne b (fun e2 => aQ h.op hO ok.pr b e (by rw [e2]; rfl)))
 ·intro z hz; obtain ⟨p, hp⟩ := List.getElem?_of_mem hz
  rcases set_at hp with ⟨rfl, rfl⟩ | ⟨hne, hp⟩
  ·rw [hv]; dsimp only; rw [List.length_set]; exact o1
  ·exact sG (h.og z (List.mem_of_getElem? hp)) (fun b e => ne b (fun e2 => h.dis j p _ z hx hp hne gr hob2 (by rw [← e2]; exact e)))
 ·exact dis_set h.dis hx (N := w.heap.size) (fun z hz b e => ((h.og z hz).lt b e).2) (fun b e => .inl e)
 ·refine ⟨rfl, rfl, rfl, by simp, fun b _ hn => ne b (fun e => hn (.inr (.inr (.inr ⟨_, hmem, by rw [e]; rfl⟩)))), fun b e => .inl ?_⟩
  rcases e with rfl | e | e | ⟨z, hz, e⟩
  ·exact .inl rfl
  ·exact .inr (.inl e)
  ·exact .inr (.inr (.inl e))
  ·rcases mem_set hz with hz | rfl
   ·exact .inr (.inr (.inr ⟨z, hz, e⟩))
   ·exact .inr (.inr (.inr ⟨_, hmem, e⟩))
theorem GS.repR {ga n cp j L c' : Nat} {o' : Option Addr} {x : AcG} {rs : List RgM} (h : GS T B q m gs (.slice (some ⟨ga, 0, none⟩) n cp) vp w) (ok : T.Ok) (hx : gs[j]? = some x) (hk : Kp w W) (hg : W.grownBy w3 x.v.ownBlock) (hL : rs.length = L) (ho : w3.ownsRow B T.rg 6 (.slice o' L c') L (rgE.row rs))
  (hb : ∀ b, (Value.slice o' L c').ownBlock = some b → x.v.ownBlock = some b ∨ w.heap.size ≤ b) :
  GS T B q { m with acts := m.acts.set j { x.a with regs := rs } } (gs.set j ⟨{ x.a with regs := rs }, o', c'⟩) (.slice (some ⟨ga, 0, none⟩) n cp) vp (w3.setCell ⟨ga, j * 8 + 7, none⟩ (.slice o' L c')) ∧
   Asd (Ow q gs (.slice (some ⟨ga, 0, none⟩) n cp) vp) (Ow q (gs.set j ⟨{ x.a with regs := rs }, o', c'⟩) (.slice (some ⟨ga, 0, none⟩) n cp) vp) w (w3.setCell ⟨ga, j * 8 + 7, none⟩ (.slice o' L c')) := by
 subst hL; obtain ⟨hj, hxj⟩ := List.getElem?_eq_some_iff.1 hx; have hmem : x ∈ gs := List.mem_of_getElem? hx; have hO := h.og _ hmem; have hsz := Below.size hk; have hlt := oZ h.row; have keep : ∀ b, b < w.heap.size → x.v.ownBlock ≠ some b → w3.heap[b]? = w.heap[b]? := fun b h1 h2 => by
  rw [hg.block b (by omega) (fun e => h2 e.symm)]; exact Below.block hk b h1
 have hga := h.oa.lt ga rfl; have gaq : ga ≠ q := fun e => h.qa ok (by rw [e]; rfl)
 have gax : x.v.ownBlock ≠ some ga := fun e => aQ h.oa hO ok.ar ga rfl e
 have gav : (Value.slice o' rs.length c').ownBlock ≠ some ga := fun e => (hb ga e).elim gax (fun e => by omega)
 have ne : ∀ (b : Nat), b ≠ ga → (w3.setCell ⟨ga, j * 8 + 7, none⟩ (.slice o' rs.length c')).heap[b]? = w3.heap[b]? := fun b hb => bS _ _ _ _ hb
 have hn : gs.length = n := own_lenG (E := acE) (by decide) (by
  obtain ⟨a, c, e⟩ := fG h.oa; injection e with _ e _
  rw [e]; exact h.oa)
 subst hn; have hrow := row_set1 acE gs j hj 7 (by decide) (.slice o' rs.length c') ⟨{ x.a with regs := rs }, o', c'⟩ (by
  rw [hxj]; simp only [acE, AcG.v, List.set_cons_succ, List.set_cons_zero])
 have oa3 : w3.ownsRow B T.ac 8 (.slice (some ⟨ga, 0, none⟩) gs.length cp) gs.length (acE.row gs) := sG h.oa (fun b e => keep b (h.oa.lt b e).2 (fun e2 => aQ h.oa hO ok.ar b e e2)); have o1 := (oa3.stored (j * 8 + 7) (.slice o' rs.length c')).1; rw [show (acE.row gs).set (j * 8 + 7) (.slice o' rs.length c') = acE.row (gs.set j ⟨{ x.a with regs := rs }, o', c'⟩) from hrow] at o1; refine ⟨⟨?_, h.bq, ?_, ?_, ?_, ?_, ?_⟩, ?_⟩
 ·rw [ne q (fun e => gaq e.symm), keep q hlt (h.qg ok hmem)]; exact h.row
 ·show m.acts.set j _ = _
  rw [h.acts, List.map_set]
 ·rw [List.length_set]; exact o1
 ·refine sG h.op (fun b e => ?_)
  rw [ne b (fun e2 => aQ h.oa h.op ok.ap b (by rw [e2]; rfl) e)]; exact keep b (h.op.lt b e).2 (fun e2 => aQ h.op hO ok.pr b e e2)
 ·intro z hz; obtain ⟨p, hp⟩ := List.getElem?_of_mem hz
  rcases set_at hp with ⟨rfl, rfl⟩ | ⟨hne, hp⟩
  ·exact sG ho (fun b e => ne b (fun e2 => gav (by rw [← e2]; exact e)))
  ·have hz0 := List.mem_of_getElem? hp; refine sG (h.og z hz0) (fun b e => ?_)
   rw [ne b (fun e2 => aQ h.oa (h.og z hz0) ok.ar b (by rw [e2]; rfl) e)]; exact keep b ((h.og z hz0).lt b e).2 (fun e2 => h.dis j p _ z hx hp hne b e2 e)
 ·exact dis_set h.dis hx (N := w.heap.size) (fun z hz b e => ((h.og z hz).lt b e).2) (fun b e => hb b e)
 ·refine ⟨hg.os.trans hk.os, hg.tape.trans hk.tape, hg.output.trans hk.output, by simpa using Nat.le_trans hsz hg.size, fun b hb2 hn => ?_, fun b e => ?_⟩
  ·rw [ne b (fun e => hn (.inr (.inl (by rw [e]; rfl))))]; exact keep b hb2 (fun e => hn (.inr (.inr (.inr ⟨x, hmem, e⟩))))
  ·rcases e with rfl | e | e | ⟨z, hz, e⟩
   ·exact .inl (.inl rfl)
   ·exact .inl (.inr (.inl e))
   ·exact .inl (.inr (.inr (.inl e)))
   ·rcases mem_set hz with hz | rfl
    ·exact .inl (.inr (.inr (.inr ⟨z, hz, e⟩)))
    ·exact (hb b e).imp (fun e => .inr (.inr (.inr ⟨x, hmem, e⟩))) id
end
open Go.RowKit
def i64M (x : Int) : Prop := -9223372036854775808 ≤ x ∧ x ≤ 9223372036854775807
instance (x : Int) : Decidable (i64M x) := by unfold i64M; infer_instance
def seatV (z : SeatM) : Array Value := #[.int .i64 z.p, .int .i64 z.e, .int .i64 z.s, .int .i64 z.h]
def SeatM.ok (z : SeatM) : Prop := i64M z.p ∧ i64M z.e ∧ i64M z.s ∧ i64M z.h
def newS (p e : Int) : SeatM := if rightT p e = true then ⟨p, e, 1, 0⟩ else ⟨0, 0, 0, 0⟩
end Go.Proofs.YtpemeenfhkgmpaaGreatDoor
