/-
  WHAT PACKAGE journal ANSWERS (own work), as the laws of layer 7 want it: over whatever a journal is made of (J; its own blocks OJ), beside its tape (R, O).
-/
import Derived.Test.YtpehmkglkjlmfaaDoorJouM
import Derived.Test.YtpehmkglkjlmfaaDoorTapC
import Derived.Test.YtpehmkglkjlmfaaDoorSlBB
namespace Go.Proofs.YtpehmkglkjlmfaaDoor
open Go.RowKit

/-- A LIST OF ROWS THAT LIES APART from P's blocks. -/
def Sfe (P : Nat → Prop) (v : Value) (rs : List (List Int)) (w : World) : Prop := ∀ w', Asd P P w w' → SlBB v rs w'
theorem Asd.refl (P : Nat → Prop) (w : World) : Asd P P w w := ⟨rfl, rfl, rfl, Nat.le_refl _, fun _ _ _ => rfl, fun _ h => .inl h⟩
theorem Asd.trans {P P' P'' : Nat → Prop} {a b c : World} (h : Asd P P' a b) (k : Asd P' P'' b c) : Asd P P'' a c :=
  ⟨k.os.trans h.os, k.tape.trans h.tape, k.output.trans h.output, Nat.le_trans h.size k.size, fun i hi hn => by
    rw [k.block i (Nat.lt_of_lt_of_le hi h.size) (fun q => by rcases h.own i q with q | q; exact hn q; omega)]
    exact h.block i hi hn, fun i q => by
    rcases k.own i q with q | q
    · exact h.own i q
    · exact .inr (Nat.le_trans h.size q)⟩
theorem Asd.of_kp (P : Nat → Prop) {w w' : World} (h : Kp w w') : Asd P P w w' := ⟨h.os, h.tape, h.output, Below.size h, fun b hb _ => Below.block h b hb, fun _ q => .inl q⟩
theorem Asd.left {O O' P : Nat → Prop} {w w' : World} (h : Asd O O' w w') : Asd (fun b => P b ∨ O b) (fun b => P b ∨ O' b) w w' :=
  ⟨h.os, h.tape, h.output, h.size, fun b hb hn => h.block b hb (fun q => hn (.inr q)), fun b q => by
    rcases q with q | q
    · exact .inl (.inl q)
    · exact (h.own b q).imp .inr id⟩
theorem Sfe.now {P : Nat → Prop} {v : Value} {rs : List (List Int)} {w : World} (h : Sfe P v rs w) : SlBB v rs w := h w (Asd.refl P w)
theorem Sfe.on {P P' : Nat → Prop} {v : Value} {rs : List (List Int)} {w w' : World} (h : Sfe P v rs w) (ha : Asd P P' w w') : Sfe P' v rs w' := fun w2 hb =>
  h w2 (let t := ha.trans hb; ⟨t.os, t.tape, t.output, t.size, t.block, fun _ q => .inl q⟩)
theorem Sfe.kp {P : Nat → Prop} {v : Value} {rs : List (List Int)} {w w' : World} (h : Sfe P v rs w) (hk : Kp w w') : Sfe P v rs w' := h.on (Asd.of_kp P hk)
theorem Sfe.mono {P P' : Nat → Prop} {v : Value} {rs : List (List Int)} {w : World} (h : Sfe P v rs w) (hp : ∀ b, b < w.heap.size → P' b → P b) : Sfe P' v rs w := fun w2 hb =>
  h w2 ⟨hb.os, hb.tape, hb.output, hb.size, fun b hl hn => hb.block b hl (fun q => hn (hp b hl q)), fun _ q => .inl q⟩
/-- what was there ahead of a world -/
theorem Sfe.old {P : Nat → Prop} {v : Value} {rs : List (List Int)} {W w : World} (h : SlBB v rs W) (hk : Kp W w) (hP : ∀ b, P b → W.heap.size ≤ b) : Sfe P v rs w := fun _ hb =>
  h.kp (hb.kp hk hP)
/-- what was made behind a world at which P's blocks were all there -/
theorem Sfe.new {P : Nat → Prop} {v : Value} {rs : List (List Int)} {w : World} (h : SlBB v rs w) (hP : ∀ b, b < w.heap.size → ¬ P b) : Sfe P v rs w := fun _ hb =>
  h.kp ⟨hb.os, hb.tape, hb.output, hb.size, fun b hl => hb.block b hl (hP b hl)⟩

/-- rows that are handed out: each in a block made behind the world (base), whose cells may be written -/
def Out (base : Nat) (v : Value) (rs : List (List Int)) (w : World) : Prop :=
  ∀ (j : Nat) (h : j < rs.length), ∃ b off b' off' c n cap, v = .slice (some ⟨b, off, none⟩) n cap ∧ w.cell? ⟨b, off + j, none⟩ = some (.slice (some ⟨b', off', none⟩) rs[j].length c) ∧ b' ≠ b ∧ base ≤ b' ∧ base ≤ b ∧ (∀ i, w.frozen? ⟨b', i, none⟩ = false)

/-- PACKAGE journal's CONTRACTS behind a world. -/
structure JouC (ads : List Addr) (w0 : World) (R : Nat → TM → (Nat → Prop) → World → Prop) (J : Nat → Nat → JM → (Nat → Prop) → World → Prop) : Prop where
  stay : ∀ {q g j OJ w w'}, J q g j OJ w → w.heap.size ≤ w'.heap.size → (∀ b, OJ b → w'.heap[b]? = w.heap[b]?) → J q g j OJ w'
  mem : ∀ {q g j OJ w}, J q g j OJ w → ∀ b, OJ b → w0.heap.size ≤ b ∧ b < w.heap.size
  open_ok : ∀ w1, Kp w0 w1 → ∀ g m O, R g m O w1 → Mok m → (openJ m).1 = 0 → Calls Tryd.prog 11 #[.pointer (some ⟨g, 0, none⟩)] w1 fun e w' =>
    ∃ q OJ O', e = .returned (.tuple #[.pointer (some ⟨q, 0, none⟩), .nilIface]) ∧ R g (openJ m).2 O' w' ∧ J q g (opened m) OJ w' ∧ (∀ b, OJ b → w1.heap.size ≤ b) ∧ (∀ b, OJ b → ¬ O' b) ∧ Asd O O' w1 w'
  frame_ok : ∀ w1, Kp w0 w1 → ∀ a n c r, SlB (.slice a n c) r w1 → r.length = n → InB r → okR r → Calls Tryd.prog 22 #[.slice a n c] w1 fun e w' => ∃ v, e = .returned (.tuple #[v, .nilIface]) ∧ SlB v (frm r) w' ∧ Kp w1 w'
  frame_no : ∀ w1, Kp w0 w1 → ∀ a n c r, SlB (.slice a n c) r w1 → r.length = n → n ≤ 100000 → ¬ okR r → Calls Tryd.prog 22 #[.slice a n c] w1 fun e w' => ∃ v, e = .returned (.tuple #[v, errI ads 4]) ∧ SlB v [] w' ∧ Kp w1 w'
  put : ∀ w1, Kp w0 w1 → ∀ q g j OJ m O, J q g j OJ w1 → R g m O w1 → (∀ b, OJ b → ¬ O b) → Mok m → JI j m → ∀ a n c rs, Sfe (fun b => OJ b ∨ O b) (.slice a n c) rs w1 → rs.length = n → n ≤ 100 → (∀ r ∈ rs, InB r ∧ r.length ≤ 100000) →
    Calls Tryd.prog 28 #[.pointer (some ⟨q, 0, none⟩), .slice a n c] w1 fun e w' => e = .returned (errI ads (putJ j m rs).1) ∧ ∃ OJ' O', J q g (putJ j m rs).2.1 OJ' w' ∧ R g (putJ j m rs).2.2 O' w' ∧ (∀ b, OJ' b → ¬ O' b) ∧ Asd (fun b => OJ b ∨ O b) (fun b => OJ' b ∨ O' b) w1 w'
  comp : ∀ w1, Kp w0 w1 → ∀ q g j OJ m O, J q g j OJ w1 → R g m O w1 → (∀ b, OJ b → ¬ O b) → Mok m → JI j m → ∀ a n c rs, Sfe (fun b => OJ b ∨ O b) (.slice a n c) rs w1 → rs.length = n → n ≤ 100 → (∀ r ∈ rs, InB r ∧ r.length ≤ 100000) →
    Calls Tryd.prog 31 #[.pointer (some ⟨q, 0, none⟩), .slice a n c] w1 fun e w' => e = .returned (errI ads (compJ j m rs).1) ∧ ∃ OJ' O', J q g (compJ j m rs).2.1 OJ' w' ∧ R g (compJ j m rs).2.2 O' w' ∧ (∀ b, OJ' b → ¬ O' b) ∧ Asd (fun b => OJ b ∨ O b) (fun b => OJ' b ∨ O' b) w1 w'
  rows : ∀ w1, Kp w0 w1 → ∀ q g j OJ m O, J q g j OJ w1 → R g m O w1 → (∀ b, OJ b → ¬ O b) → Mok m → JI j m →
    Calls Tryd.prog 17 #[.pointer (some ⟨q, 0, none⟩)] w1 fun e w' => ∃ a c, e = .returned (.slice a j.rows.length c) ∧ SlBB (.slice a j.rows.length c) j.rows w' ∧ Out w1.heap.size (.slice a j.rows.length c) j.rows w' ∧ Kp w1 w'
  len : ∀ w1, Kp w0 w1 → ∀ q g j OJ m O, J q g j OJ w1 → R g m O w1 → (∀ b, OJ b → ¬ O b) → Mok m → JI j m → Calls Tryd.prog 18 #[.pointer (some ⟨q, 0, none⟩)] w1 fun e w' => e = .returned (.int .i64 j.rows.length) ∧ Kp w1 w'
  size : ∀ w1, Kp w0 w1 → ∀ q g j OJ m O, J q g j OJ w1 → R g m O w1 → (∀ b, OJ b → ¬ O b) → Mok m → JI j m → Calls Tryd.prog 19 #[.pointer (some ⟨q, 0, none⟩)] w1 fun e w' => e = .returned (.int .i64 (allF j.rows).length) ∧ Kp w1 w'
  dead : ∀ w1, Kp w0 w1 → ∀ q g j OJ m O, J q g j OJ w1 → R g m O w1 → (∀ b, OJ b → ¬ O b) → Mok m → JI j m → Calls Tryd.prog 20 #[.pointer (some ⟨q, 0, none⟩)] w1 fun e w' => e = .returned (.bool j.dead) ∧ Kp w1 w'

/-- A JOURNAL BESIDE ITS TAPE, in a world behind w0. -/
structure JT (R : Nat → TM → (Nat → Prop) → World → Prop) (J : Nat → Nat → JM → (Nat → Prop) → World → Prop) (w0 : World) (q g : Nat) (j : JM) (m : TM) (OJ O : Nat → Prop) (w : World) : Prop where
  jr : J q g j OJ w
  r : R g m O w
  dis : ∀ b, OJ b → ¬ O b
  ok : Mok m
  inv : JI j m
  kW : Kp w0 w
variable {ads : List Addr} {R : Nat → TM → (Nat → Prop) → World → Prop} {J : Nat → Nat → JM → (Nat → Prop) → World → Prop} {w0 w w' : World} {q g : Nat} {j j' : JM} {m m' : TM} {OJ OJ' O O' : Nat → Prop}
/-- its blocks -/
def Un (OJ O : Nat → Prop) : Nat → Prop := fun b => OJ b ∨ O b
theorem JT.mem (T : TapC ads w0 R) (C : JouC ads w0 R J) (h : JT R J w0 q g j m OJ O w) : ∀ b, Un OJ O b → w0.heap.size ≤ b ∧ b < w.heap.size := fun b hb => by
  rcases hb with hb | hb
  · exact C.mem h.jr b hb
  · exact T.mem h.r b hb
theorem JT.keep (T : TapC ads w0 R) (C : JouC ads w0 R J) (h : JT R J w0 q g j m OJ O w) (hk : Kp w0 w') (hs : w.heap.size ≤ w'.heap.size) (hb : ∀ b, Un OJ O b → w'.heap[b]? = w.heap[b]?) : JT R J w0 q g j m OJ O w' :=
  ⟨C.stay h.jr hs (fun b q => hb b (.inl q)), T.stay h.r hs (fun b q => hb b (.inr q)), h.dis, h.ok, h.inv, hk⟩
theorem JT.kp (T : TapC ads w0 R) (C : JouC ads w0 R J) (h : JT R J w0 q g j m OJ O w) (hk : Kp w w') : JT R J w0 q g j m OJ O w' :=
  h.keep T C (Kp.trans h.kW hk) (Below.size hk) (fun b hb => Below.block hk b (h.mem T C b hb).2)
/-- a call on the tape beside it -/
theorem JT.tape (T : TapC ads w0 R) (C : JouC ads w0 R J) (h : JT R J w0 q g j m OJ O w) (r : R g m' O' w') (ok : Mok m') (inv : JI j m') (ha : Asd O O' w w') : JT R J w0 q g j m' OJ O' w' :=
  ⟨C.stay h.jr ha.size (fun b hb => ha.block b (C.mem h.jr b hb).2 (h.dis b hb)), r, fun b hb hO => by
    rcases ha.own b hO with p | p
    · exact h.dis b hb p
    · exact absurd (C.mem h.jr b hb).2 (by omega), ok, inv, ha.kp h.kW (fun b hb => (T.mem h.r b hb).1)⟩
/-- a call on the journal -/
theorem JT.call (T : TapC ads w0 R) (C : JouC ads w0 R J) (h : JT R J w0 q g j m OJ O w) (jr : J q g j' OJ' w') (r : R g m' O' w') (dis : ∀ b, OJ' b → ¬ O' b) (ok : Mok m') (inv : JI j' m') (ha : Asd (Un OJ O) (Un OJ' O') w w') : JT R J w0 q g j' m' OJ' O' w' :=
  ⟨jr, r, dis, ok, inv, ha.kp h.kW (fun b hb => (h.mem T C b hb).1)⟩
end Go.Proofs.YtpehmkglkjlmfaaDoor
