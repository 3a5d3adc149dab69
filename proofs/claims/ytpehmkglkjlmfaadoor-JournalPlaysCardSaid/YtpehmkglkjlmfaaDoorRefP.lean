/-
  THE DOCUMENT's JOURNAL (own work): Put, Compact, Open.
-/
import Derived.Test.YtpehmkglkjlmfaaDoorMoj
namespace Go.Proofs.YtpehmkglkjlmfaaDoor
open Go.RowKit Go.ChangeShapes Go.WideShapes

/-- the document's journal's blocks and its tape's -/
def Om (gq gm : Nat) (v : Value) (E : Nat → Prop) : Nat → Prop := fun b => b = gm ∨ OMo gq v E b
/-- THE DOCUMENT's JOURNAL ON ITS TAPE. -/
structure DJ0 (W : World) (gq gm : Nat) (j : JM) (m : TM) (v : Value) (us : List Value) (E : Nat → Prop) (w : World) : Prop where
  mj : MoJ0 W.heap.size gq gm j v us E w
  mo : MoC gm m w
  ng : ¬ OMo gq v E gm
  gW : W.heap.size ≤ gm
  kW : Kp W w
def DJ (W : World) (gq gm : Nat) (j : JM) (m : TM) (OM : Nat → Prop) (w : World) : Prop := ∃ v us E, DJ0 W gq gm j m v us E w ∧ OM = Om gq gm v E
variable {W : World} {gq gm : Nat} {j j' : JM} {m m' : TM} {v v' : Value} {us us2 : List Value} {rs : List (List Int)} {E : Nat → Prop} {OM OM' : Nat → Prop} {w w' w4 w5 : World}
theorem DJ0.mem (h : DJ0 W gq gm j m v us E w) : ∀ b, Om gq gm v E b → W.heap.size ≤ b ∧ b < w.heap.size := fun b hb => by
  rcases hb with rfl | hb
  · exact ⟨h.gW, old_of_row h.mo⟩
  · exact h.mj.mem b hb
theorem DJ0.stay (h : DJ0 W gq gm j m v us E w) (hk : Kp W w') (hs : w.heap.size ≤ w'.heap.size) (hb : ∀ b, Om gq gm v E b → w'.heap[b]? = w.heap[b]?) : DJ0 W gq gm j m v us E w' :=
  ⟨h.mj.stay hs (fun b q => by
    rcases q with q | q
    · rw [Below.block hk b q, Below.block h.kW b q]
    · exact hb b (.inr q)), (hb gm (.inl rfl)).trans h.mo, h.ng, h.gW, hk⟩
theorem DJ0.kp (h : DJ0 W gq gm j m v us E w) (hk : Kp w w') : DJ0 W gq gm j m v us E w' := h.stay (Kp.trans h.kW hk) (Below.size hk) (fun b hb => Below.block hk b (h.mem b hb).2)
theorem DJ0.tape (h : DJ0 W gq gm j m v us E w) (hmo : MoC gm m' w') (hon : On gm w w') : DJ0 W gq gm j m' v us E w' := by
  have hk : Kp W w' := hon.kp h.kW (fun b hb => by rw [hb]; exact h.gW)
  refine ⟨h.mj.stay hon.size (fun b q => ?_), hmo, h.ng, h.gW, hk⟩
  rcases q with q | q
  · rw [Below.block hk b q, Below.block h.kW b q]
  · exact hon.block b (h.mj.mem b q).2 (fun e => h.ng (by rw [← e]; exact q))
theorem DJ0.dead (h : DJ0 W gq gm j m v us E w) : DJ0 W gq gm { j with dead := true } m v us E (w.setCell ⟨gq, 2, none⟩ (.bool true)) := by
  have hn : gm ≠ gq := fun e => h.ng (by rw [e]; exact .inl rfl)
  exact ⟨h.mj.dead, (Below.heap_setCell _ _ _ _ (fun q => hn q)).trans h.mo, h.ng, h.gW, Below.setCell h.kW (by show W.heap.size ≤ gq; exact h.mj.gB) _⟩
theorem DJ.mem (h : DJ W gq gm j m OM w) : ∀ b, OM b → W.heap.size ≤ b ∧ b < w.heap.size := by
  obtain ⟨v, us, E, h, rfl⟩ := h
  exact h.mem
theorem DJ.kW (h : DJ W gq gm j m OM w) : Kp W w := by
  obtain ⟨v, us, E, h, rfl⟩ := h
  exact h.kW
theorem DJ.stay (h : DJ W gq gm j m OM w) (hk : Kp W w') (hs : w.heap.size ≤ w'.heap.size) (hb : ∀ b, OM b → w'.heap[b]? = w.heap[b]?) : DJ W gq gm j m OM w' := by
  obtain ⟨v, us, E, h, rfl⟩ := h
  exact ⟨v, us, E, h.stay hk hs hb, rfl⟩
theorem DJ.kp (h : DJ W gq gm j m OM w) (hk : Kp w w') : DJ W gq gm j m OM w' := by
  obtain ⟨v, us, E, h, rfl⟩ := h
  exact ⟨v, us, E, h.kp hk, rfl⟩
theorem asd_kp {P : Nat → Prop} (h : Kp w w') : Asd P P w w' := Asd.of_kp P h
theorem asd_onG {P : Nat → Prop} {g : Nat} (h : On g w w') (hg : P g) : Asd P P w w' := ⟨h.os, h.tape, h.output, h.size, fun b hb hn => h.block b hb (fun e => hn (by rw [e]; exact hg)), fun _ q => .inl q⟩
theorem asd_set {P : Nat → Prop} {g i : Nat} {u : Value} (hg : P g) : Asd P P w (w.setCell ⟨g, i, none⟩ u) := ⟨rfl, rfl, rfl, by simp, fun b _ hn => Below.heap_setCell _ _ _ _ (fun e => hn (by have e2 : b = g := e; rw [e2]; exact hg)), fun _ q => .inl q⟩
theorem ValE.mono {E E2 : Nat → Prop} (h : ValE E us rs w) (he : ∀ b, E b → E2 b) : ValE E2 us rs w := fun w2 hb => h w2 (fun b q => hb b (he b q))
theorem ValE.old (h : Vals us rs W) (hk : Kp W w) : ValE (fun b => b < W.heap.size) us rs w := fun w2 hb => vals_heap h (fun b hl => by rw [hb b hl, Below.block hk b hl])
/-- rows behind its own -/
theorem dj_put (h : DJ0 W gq gm j m v us E w4) (hd : j.dead = false) (hv : Vals us2 rs W) (hown : w5.ownsRow W.heap.size 46 1 v' (j.rows.length + rs.length) (us ++ us2)) (hgr : w4.grownBy w5 v.ownBlock) (hbk : ∀ b, v'.ownBlock = some b → v.ownBlock = some b ∨ w4.heap.size ≤ b) :
    DJ0 W gq gm ⟨j.rows ++ rs, false⟩ m v' (us ++ us2) E (w5.setCell ⟨gq, 1, none⟩ v') ∧ Asd (Om gq gm v E) (Om gq gm v' E) w4 (w5.setCell ⟨gq, 1, none⟩ v') := by
  have hge : ∀ b, v.ownBlock = some b → W.heap.size ≤ b := fun b hb => own_blk h.mj.own hb
  have hW : ∀ b, b < W.heap.size → w5.heap[b]? = w4.heap[b]? := fun b hb => hgr.block b (Nat.lt_of_lt_of_le hb (Below.size h.kW)) (fun q => by have := hge b q.symm; omega)
  have k5 : Kp W w5 := ⟨hgr.os.trans h.kW.os, hgr.tape.trans h.kW.tape, hgr.output.trans h.kW.output, Nat.le_trans (Below.size h.kW) hgr.size, fun b hb => (hW b hb).trans (Below.block h.kW b hb)⟩
  have hE5 : ∀ b, E b → w5.heap[b]? = w4.heap[b]? := fun b hb => hgr.block b (h.mj.lt b hb).2.1 (fun q => (h.mj.lt b hb).2.2.1 q.symm)
  have hnm : gm ≠ gq := fun e => h.ng (by rw [e]; exact .inl rfl)
  have hvm : v'.ownBlock ≠ some gm := fun q => by
    rcases hbk gm q with p | p
    · exact h.ng (.inr (.inl p))
    · have := old_of_row h.mo; omega
  have hvq : v'.ownBlock ≠ some gq := fun q => by
    rcases hbk gq q with p | p
    · exact h.mj.ne p
    · have := old_of_row h.mj.row; omega
  have hval : ValE (fun b => b < W.heap.size ∨ E b) (us ++ us2) (j.rows ++ rs) w5 :=
    ((h.mj.val.to (fun b hb => hb.elim (hW b) (hE5 b))).app (ValE.old hv k5)).mono (fun b hb => hb.elim id .inl)
  have hl : rs.length = us2.length := hv.1.symm
  refine ⟨⟨?_, ?_, ?_, h.gW, Below.setCell k5 h.mj.gB _⟩, ?_⟩
  · refine h.mj.put hgr.size (hgr.block gq (old_of_row h.mj.row) (fun q => h.mj.ne q.symm)) (by rw [List.length_append]; exact hown) hval (fun b hb => ?_) hvq hd
    have h1 := h.mj.lt b hb
    refine ⟨h1.1, Nat.lt_of_lt_of_le h1.2.1 hgr.size, fun q => ?_, h1.2.2.2⟩
    rcases hbk b q with p | p
    · exact h1.2.2.1 p
    · omega
  · exact (Below.heap_setCell _ _ _ _ (fun q => hnm q)).trans ((hgr.block gm (old_of_row h.mo) (fun q => h.ng (.inr (.inl q.symm)))).trans h.mo)
  · rintro (q | q | q)
    · exact hnm q
    · exact hvm q
    · exact h.ng (.inr (.inr q))
  · have _u := hl
    clear _u
    refine ⟨hgr.os, hgr.tape, hgr.output, by simp; exact hgr.size, fun b hb hn => ?_, fun b hb => ?_⟩
    · rw [Below.heap_setCell _ _ _ _ (fun e => hn (.inr (.inl (show b = gq from e))))]
      exact hgr.block b hb (fun q => hn (.inr (.inr (.inl q.symm))))
    · rcases hb with q | q | q | q
      · exact .inl (.inl q)
      · exact .inl (.inr (.inl q))
      · exact (hbk b q).imp (fun p => .inr (.inr (.inl p))) id
      · exact .inl (.inr (.inr (.inr q)))
/-- other rows in the place of its own -/
theorem dj_comp (h : DJ0 W gq gm j m v us E w4) (hd : j.dead = false) (hv : Vals us2 rs W) (hown : w5.ownsRow w4.heap.size 46 1 v' rs.length us2) (hk : Kp w4 w5) :
    DJ0 W gq gm ⟨rs, false⟩ m v' us2 (fun _ => False) (w5.setCell ⟨gq, 1, none⟩ v') ∧ Asd (Om gq gm v E) (Om gq gm v' (fun _ => False)) w4 (w5.setCell ⟨gq, 1, none⟩ v') := by
  have k5 : Kp W w5 := Kp.trans h.kW hk
  have hnm : gm ≠ gq := fun e => h.ng (by rw [e]; exact .inl rfl)
  have hvm : v'.ownBlock ≠ some gm := fun q => by have := own_blk hown q; have := old_of_row h.mo; omega
  have hvq : v'.ownBlock ≠ some gq := fun q => by have := own_blk hown q; have := old_of_row h.mj.row; omega
  refine ⟨⟨?_, ?_, ?_, h.gW, Below.setCell k5 h.mj.gB _⟩, ?_⟩
  · exact h.mj.put (Below.size hk) (Below.block hk gq (old_of_row h.mj.row)) (own_mono hown (Below.size h.kW)) ((ValE.old hv k5).mono (fun b hb => .inl hb)) (fun b hb => hb.elim) hvq hd
  · exact (Below.heap_setCell _ _ _ _ (fun q => hnm q)).trans ((Below.block hk gm (old_of_row h.mo)).trans h.mo)
  · rintro (q | q | q)
    · exact hnm q
    · exact hvm q
    · exact q
  · refine ⟨hk.os, hk.tape, hk.output, by simp; exact Below.size hk, fun b hb hn => ?_, fun b hb => ?_⟩
    · rw [Below.heap_setCell _ _ _ _ (fun e => hn (.inr (.inl (show b = gq from e))))]
      exact Below.block hk b hb
    · rcases hb with q | q | q | q
      · exact .inl (.inl q)
      · exact .inl (.inr (.inl q))
      · exact .inr (own_blk hown q)
      · exact q.elim

set_option maxRecDepth 100000 in
set_option maxHeartbeats 4000000 in
theorem ref7_put_dead (a : Option Addr) (n c : Nat) (hs : SlBB (.slice a n c) rs W) (hn : rs.length = n) (hl : n ≤ 100) (hin : ∀ r ∈ rs, InB r ∧ r.length ≤ 100000) (hm : Mok m) (hnum : j.rows.length ≤ 100000) (h : DJ0 W gq gm j m v us E w) (hd : j.dead = true) :
    Calls Tryd.prog 39 #[.pointer (some ⟨gq, 0, none⟩), .slice a n c] w fun e w' => e = .returned (.int .i64 (putJ j m rs).1) ∧ ∃ OM', DJ W gq gm (putJ j m rs).2.1 (putJ j m rs).2.2 OM' w' ∧ Asd (Om gq gm v E) OM' w w' := by
  have H := Lib.hid h
  have c0 := h.mj.c0
  have c2 := h.mj.c2
  have z := h.mj.z
  have e : putJ j m rs = (9, j, m) := by unfold putJ; rw [if_pos hd]
  rw [e]
  rw [hd] at c2
  have _u := And.intro hs (And.intro hn (And.intro hl (And.intro hin (And.intro hm hnum))))
  clear _u h hd e hs hn hl hin hm hnum c0
  go_enter Tryd.func39, Tryd.ntmps39
  go_wp2
  go_ret
  exact ⟨rfl, _, ⟨v, us, E, H.out, rfl⟩, Asd.refl _ _⟩

set_option maxRecDepth 100000 in
set_option maxHeartbeats 4000000 in
theorem ref7_put_bad (a : Option Addr) (n c : Nat) (hs : SlBB (.slice a n c) rs W) (hn : rs.length = n) (hl : n ≤ 100) (hin : ∀ r ∈ rs, InB r ∧ r.length ≤ 100000) (hm : Mok m) (hnum : j.rows.length ≤ 100000) (h : DJ0 W gq gm j m v us E w) (hd : ¬ j.dead = true) (ho : ¬ okRs rs) :
    Calls Tryd.prog 39 #[.pointer (some ⟨gq, 0, none⟩), .slice a n c] w fun e w' => e = .returned (.int .i64 (putJ j m rs).1) ∧ ∃ OM', DJ W gq gm (putJ j m rs).2.1 (putJ j m rs).2.2 OM' w' ∧ Asd (Om gq gm v E) OM' w w' := by
  have H := Lib.hid h
  have c0 := h.mj.c0
  have c2 := h.mj.c2
  have z := h.mj.z
  have e : putJ j m rs = (4, j, m) := by unfold putJ; rw [if_neg hd, if_pos ho]
  rw [e]
  have hd2 : j.dead = false := by simpa using hd
  rw [hd2] at c2
  have _u := And.intro hm hnum
  have HALL := Lib.hid (fun w1 (hk : Kp W w1) => all7_any a n c rs hn (by omega) hin (fun k hk2 => by
    have h1 := allF_le hk2
    have h2 : (rs.take k).length ≤ n := by rw [List.length_take]; omega
    omega) w1 (hs.kp hk))
  have HNO := Lib.hid ho
  clear _u h hd hd2 e hs hn hl hin hm hnum ho c0
  go_enter Tryd.func39, Tryd.ntmps39
  go_wp2_with (go_at_call 15; (with_reducible refine (HALL.out _ H.out.kW).mono ?_); rintro e w2 ⟨hcase, hk⟩; have K2 := Lib.hid hk; have H2 := Lib.hid (H.out.kp hk); obtain ⟨-, rfl⟩ := hcase.resolve_left (fun q => HNO.out q.1); clear hk)
  go_ret
  exact ⟨rfl, _, ⟨v, us, E, H2.out, rfl⟩, Asd.of_kp _ K2.out⟩

set_option maxRecDepth 100000 in
set_option maxHeartbeats 4000000 in
theorem ref7_put_nil (a : Option Addr) (n c : Nat) (hs : SlBB (.slice a n c) rs W) (hn : rs.length = n) (hl : n ≤ 100) (hin : ∀ r ∈ rs, InB r ∧ r.length ≤ 100000) (hm : Mok m) (hnum : j.rows.length ≤ 100000) (h : DJ0 W gq gm j m v us E w) (hd : ¬ j.dead = true) (he : rs = []) :
    Calls Tryd.prog 39 #[.pointer (some ⟨gq, 0, none⟩), .slice a n c] w fun e w' => e = .returned (.int .i64 (putJ j m rs).1) ∧ ∃ OM', DJ W gq gm (putJ j m rs).2.1 (putJ j m rs).2.2 OM' w' ∧ Asd (Om gq gm v E) OM' w w' := by
  have H := Lib.hid h
  have c0 := h.mj.c0
  have c2 := h.mj.c2
  have z := h.mj.z
  have hok : okRs rs := by rw [he]; exact fun r hr => by cases hr
  have e : putJ j m rs = (0, j, m) := by unfold putJ; rw [if_neg hd, if_neg (Decidable.not_not.2 hok), if_pos he]
  rw [e]
  have hd2 : j.dead = false := by simpa using hd
  rw [hd2] at c2
  have _u := And.intro hm hnum
  have HALL := Lib.hid (fun w1 (hk : Kp W w1) => all7_any a n c rs hn (by omega) hin (fun k hk2 => by
    have h1 := allF_le hk2
    have h2 : (rs.take k).length ≤ n := by rw [List.length_take]; omega
    omega) w1 (hs.kp hk))
  have HOK := Lib.hid hok
  obtain rfl : n = 0 := by rw [← hn, he]; rfl
  clear _u h hd hd2 e hs hn hl hin hm hnum hok he c0
  go_enter Tryd.func39, Tryd.ntmps39
  go_wp2_with (go_at_call 15; (with_reducible refine (HALL.out _ H.out.kW).mono ?_); rintro e w2 ⟨hcase, hk⟩; have K2 := Lib.hid hk; have H2 := Lib.hid (H.out.kp hk); obtain ⟨-, v2, rfl, hown⟩ := hcase.resolve_right (fun q => q.1 HOK.out); have S2 := Lib.hid (own_slb hown); have C0 := Lib.hid H2.out.mj.c0; clear hk hown hcase)
  go_ret
  exact ⟨rfl, _, ⟨v, us, E, H2.out, rfl⟩, Asd.of_kp _ K2.out⟩

set_option maxRecDepth 100000 in
set_option maxHeartbeats 4000000 in
theorem ref7_put_full (a : Option Addr) (n c : Nat) (hs : SlBB (.slice a n c) rs W) (hn : rs.length = n) (hl : n ≤ 100) (hin : ∀ r ∈ rs, InB r ∧ r.length ≤ 100000) (hm : Mok m) (hnum : j.rows.length ≤ 100000) (h : DJ0 W gq gm j m v us E w) (hd : ¬ j.dead = true) (ho : okRs rs) (he : rs ≠ []) (h6 : (appM m (allF rs)).1 = 6) :
    Calls Tryd.prog 39 #[.pointer (some ⟨gq, 0, none⟩), .slice a n c] w fun e w' => e = .returned (.int .i64 (putJ j m rs).1) ∧ ∃ OM', DJ W gq gm (putJ j m rs).2.1 (putJ j m rs).2.2 OM' w' ∧ Asd (Om gq gm v E) OM' w w' := by
  have H := Lib.hid h
  have c0 := h.mj.c0
  have c2 := h.mj.c2
  have z := h.mj.z
  have e : putJ j m rs = (6, j, (appM m (allF rs)).2) := by
    unfold putJ
    rw [if_neg hd, if_neg (Decidable.not_not.2 ho), if_neg he, if_neg (by rw [h6]; decide), h6]
    have hj : ({ j with dead := decide ((6 : Int) = 7) } : JM) = j := jm_eta hd
    rw [hj]
  rw [e]
  have hnz : ¬ (n : Int) = 0 := by
    have : rs.length ≠ 0 := fun q => he (List.length_eq_zero_iff.1 q)
    omega
  have hd2 : j.dead = false := by simpa using hd
  rw [hd2] at c2
  have HALL := Lib.hid (fun w1 (hk : Kp W w1) => all7_any a n c rs hn (by omega) hin (fun k hk2 => by
    have h1 := allF_le hk2
    have h2 : (rs.take k).length ≤ n := by rw [List.length_take]; omega
    omega) w1 (hs.kp hk))
  have HOK := Lib.hid ho
  obtain ⟨bs, hbs⟩ : ∃ x, allF rs = x := ⟨_, rfl⟩
  have hbl : bs.length ≤ 100000 := by rw [← hbs]; have := allF_le ho; omega
  rw [hbs] at HALL
  have HAP := fun w1 (q : MoC gm m w1) => ref6_append gm m hm bs hbl w1 q
  obtain ⟨fv, hfv⟩ : ∃ x, strOfNums bs = x := ⟨_, rfl⟩
  have HFV := Lib.hid hfv
  rw [hfv] at HAP
  have HD := Lib.hid hd2
  have HNUM := Lib.hid hnum
  have HSW := Lib.hid hs
  have HN := Lib.hid hn
  rw [hbs] at h6
  simp only [h6] at HAP
  rw [hbs]
  have HAP := Lib.hid HAP
  clear h hd hd2 hs hn hl hin hm hnum ho hfv hbl hbs c0 he e h6
  go_enter Tryd.func39, Tryd.ntmps39
  go_wp2_with (go_at_call 15; (with_reducible refine (HALL.out _ H.out.kW).mono ?_); rintro e w2 ⟨hcase, hk⟩; have K2 := Lib.hid hk; have H2 := Lib.hid (H.out.kp hk); obtain ⟨-, v2, rfl, hown⟩ := hcase.resolve_right (fun q => q.1 HOK.out); have S2 := Lib.hid (own_slb hown); have OV2 := Lib.hid hown; have C0 := Lib.hid H2.out.mj.c0; clear hk hown hcase)
  refine wp_region_held_drew (S := fun w' => (∃ mx, DJ0 W gq gm j mx v us E w') ∧ SlB v2 bs w') (by kernel_rfl) ?_ (fun hHeld => ?_)
  · exact ⟨⟨_, H2.out.kp (Kp.refl w2).drew⟩, S2.out.kp (Kp.refl w2).drew⟩
  refine wpAnyH_take (i := 0) (v := ?_) rfl (by kernel_rfl) (by kernel_rfl) (by kernel_rfl) (fun _ _ _ h => h) (Or.inl ⟨by rfl, ?_⟩) (by assumption) ?_
  rotate_left
  · intro w hSw; go_simp; try with_reducible rfl
  go_simp
  refine wpAnyH_take (i := 1) (v := ?_) rfl (by kernel_rfl) (by kernel_rfl) (by kernel_rfl) (fun _ _ _ h => h) (Or.inl ⟨by rfl, ?_⟩) (by assumption) ?_
  rotate_left
  · intro w hSw; go_simp; try with_reducible rfl
  go_simp
  refine wpAnyH_take (i := 2) (v := ?_) rfl (by kernel_rfl) (by kernel_rfl) (by kernel_rfl) (fun _ _ _ h => h) (Or.inl ⟨by rfl, ?_⟩) (by assumption) ?_
  rotate_left
  · intro w hSw; go_simp; try with_reducible rfl
  go_simp
  refine wpAnyH_take (i := 3) (v := ?_) rfl (by kernel_rfl) (by kernel_rfl) (by kernel_rfl) (fun _ _ _ h => h) (Or.inl ⟨by rfl, ?_⟩) (by assumption) ?_
  rotate_left
  · intro w hSw; obtain ⟨⟨mx, hx⟩, -⟩ := hSw; have q := hx.mj.c0; go_simp; try with_reducible rfl
  go_simp
  refine wpAnyH_take (i := 4) (v := ?_) rfl (by kernel_rfl) (by kernel_rfl) (by kernel_rfl) (fun _ _ _ h => h) (Or.inl ⟨by rfl, ?_⟩) (by assumption) ?_
  rotate_left
  · intro w hSw; go_simp; try with_reducible rfl
  go_simp
  refine wpAnyH_take (i := 5) (v := ?_) rfl (by kernel_rfl) (by kernel_rfl) (by kernel_rfl) (fun _ _ _ h => h) (Or.inl ⟨by rfl, ?_⟩) (by assumption) ?_
  rotate_left
  · intro w hSw; have cv := conv_slb hSw.2; rw [HFV.out] at cv; go_simp; try with_reducible rfl
  go_simp
  refine wpAnyH_ready (rs := [6]) (by kernel_rfl) (by simp) ?_
  refine AllReadyH.cons rfl (fun K hK => ?_) AllReadyH.nil
  go_simp
  go_wp2_with (go_at_call 63; (with_reducible refine (HAP.out _ (H2.out.kp (Kp.refl w2).drew).mo).mono ?_); rintro e w3 ⟨rfl, hmo, hon⟩; have H3 := Lib.hid ((H2.out.kp (Kp.refl w2).drew).tape hmo hon); have A3 := Lib.hid ((Asd.of_kp (Om gq gm v E) (Kp.trans K2.out (Kp.refl w2).drew)).trans (asd_onG hon (.inl rfl))); have SV3 := Lib.hid (own_slb (own_stay2 (w' := w3) OV2.out (fun b hb => hon.block b (own_lt2 OV2.out hb) (fun q => by have h1 := own_blk OV2.out hb; have h2 := old_of_row H.out.mo; have q2 : b = gm := q; omega)))); have D0 := H3.out.mj.c0; have D1 := H3.out.mj.c1; have D2 := H3.out.mj.c2; have dz := H3.out.mj.z; clear hmo hon)
  refine hK.out _ _ ?_ (fun hHeld => ?_)
  · exact ⟨⟨_, H3.out⟩, SV3.out⟩
  clear hK K
  refine wpAnyH_take (i := 7) (v := ?_) rfl (by kernel_rfl) (by kernel_rfl) (by kernel_rfl) (fun _ _ _ h => h) (Or.inl ⟨by rfl, ?_⟩) (by assumption) ?_
  rotate_left
  · intro w hSw; go_simp; try with_reducible rfl
  go_simp
  refine wpAnyH_done (by kernel_rfl) ?_ _
  have D2' := D2
  rw [HD.out] at D2'
  go_wp2
  go_ret
  exact ⟨by first | rfl | simp, _, ⟨v, us, E, H3.out, rfl⟩, A3.out⟩

set_option maxRecDepth 100000 in
set_option maxHeartbeats 4000000 in
theorem ref7_put_pow (a : Option Addr) (n c : Nat) (hs : SlBB (.slice a n c) rs W) (hn : rs.length = n) (hl : n ≤ 100) (hin : ∀ r ∈ rs, InB r ∧ r.length ≤ 100000) (hm : Mok m) (hnum : j.rows.length ≤ 100000) (h : DJ0 W gq gm j m v us E w) (hd : ¬ j.dead = true) (ho : okRs rs) (he : rs ≠ []) (h6 : (appM m (allF rs)).1 = 7) :
    Calls Tryd.prog 39 #[.pointer (some ⟨gq, 0, none⟩), .slice a n c] w fun e w' => e = .returned (.int .i64 (putJ j m rs).1) ∧ ∃ OM', DJ W gq gm (putJ j m rs).2.1 (putJ j m rs).2.2 OM' w' ∧ Asd (Om gq gm v E) OM' w w' := by
  have H := Lib.hid h
  have c0 := h.mj.c0
  have c2 := h.mj.c2
  have z := h.mj.z
  have e : putJ j m rs = (7, { j with dead := true }, (appM m (allF rs)).2) := by
    unfold putJ
    rw [if_neg hd, if_neg (Decidable.not_not.2 ho), if_neg he, if_neg (by rw [h6]; decide), h6]
    rfl
  rw [e]
  have hnz : ¬ (n : Int) = 0 := by
    have : rs.length ≠ 0 := fun q => he (List.length_eq_zero_iff.1 q)
    omega
  have hd2 : j.dead = false := by simpa using hd
  rw [hd2] at c2
  have HALL := Lib.hid (fun w1 (hk : Kp W w1) => all7_any a n c rs hn (by omega) hin (fun k hk2 => by
    have h1 := allF_le hk2
    have h2 : (rs.take k).length ≤ n := by rw [List.length_take]; omega
    omega) w1 (hs.kp hk))
  have HOK := Lib.hid ho
  obtain ⟨bs, hbs⟩ : ∃ x, allF rs = x := ⟨_, rfl⟩
  have hbl : bs.length ≤ 100000 := by rw [← hbs]; have := allF_le ho; omega
  rw [hbs] at HALL
  have HAP := fun w1 (q : MoC gm m w1) => ref6_append gm m hm bs hbl w1 q
  obtain ⟨fv, hfv⟩ : ∃ x, strOfNums bs = x := ⟨_, rfl⟩
  have HFV := Lib.hid hfv
  rw [hfv] at HAP
  have HD := Lib.hid hd2
  have HNUM := Lib.hid hnum
  have HSW := Lib.hid hs
  have HN := Lib.hid hn
  rw [hbs] at h6
  simp only [h6] at HAP
  rw [hbs]
  have HAP := Lib.hid HAP
  clear h hd hd2 hs hn hl hin hm hnum ho hfv hbl hbs c0 he e h6
  go_enter Tryd.func39, Tryd.ntmps39
  go_wp2_with (go_at_call 15; (with_reducible refine (HALL.out _ H.out.kW).mono ?_); rintro e w2 ⟨hcase, hk⟩; have K2 := Lib.hid hk; have H2 := Lib.hid (H.out.kp hk); obtain ⟨-, v2, rfl, hown⟩ := hcase.resolve_right (fun q => q.1 HOK.out); have S2 := Lib.hid (own_slb hown); have OV2 := Lib.hid hown; have C0 := Lib.hid H2.out.mj.c0; clear hk hown hcase)
  refine wp_region_held_drew (S := fun w' => (∃ mx, DJ0 W gq gm j mx v us E w') ∧ SlB v2 bs w') (by kernel_rfl) ?_ (fun hHeld => ?_)
  · exact ⟨⟨_, H2.out.kp (Kp.refl w2).drew⟩, S2.out.kp (Kp.refl w2).drew⟩
  refine wpAnyH_take (i := 0) (v := ?_) rfl (by kernel_rfl) (by kernel_rfl) (by kernel_rfl) (fun _ _ _ h => h) (Or.inl ⟨by rfl, ?_⟩) (by assumption) ?_
  rotate_left
  · intro w hSw; go_simp; try with_reducible rfl
  go_simp
  refine wpAnyH_take (i := 1) (v := ?_) rfl (by kernel_rfl) (by kernel_rfl) (by kernel_rfl) (fun _ _ _ h => h) (Or.inl ⟨by rfl, ?_⟩) (by assumption) ?_
  rotate_left
  · intro w hSw; go_simp; try with_reducible rfl
  go_simp
  refine wpAnyH_take (i := 2) (v := ?_) rfl (by kernel_rfl) (by kernel_rfl) (by kernel_rfl) (fun _ _ _ h => h) (Or.inl ⟨by rfl, ?_⟩) (by assumption) ?_
  rotate_left
  · intro w hSw; go_simp; try with_reducible rfl
  go_simp
  refine wpAnyH_take (i := 3) (v := ?_) rfl (by kernel_rfl) (by kernel_rfl) (by kernel_rfl) (fun _ _ _ h => h) (Or.inl ⟨by rfl, ?_⟩) (by assumption) ?_
  rotate_left
  · intro w hSw; obtain ⟨⟨mx, hx⟩, -⟩ := hSw; have q := hx.mj.c0; go_simp; try with_reducible rfl
  go_simp
  refine wpAnyH_take (i := 4) (v := ?_) rfl (by kernel_rfl) (by kernel_rfl) (by kernel_rfl) (fun _ _ _ h => h) (Or.inl ⟨by rfl, ?_⟩) (by assumption) ?_
  rotate_left
  · intro w hSw; go_simp; try with_reducible rfl
  go_simp
  refine wpAnyH_take (i := 5) (v := ?_) rfl (by kernel_rfl) (by kernel_rfl) (by kernel_rfl) (fun _ _ _ h => h) (Or.inl ⟨by rfl, ?_⟩) (by assumption) ?_
  rotate_left
  · intro w hSw; have cv := conv_slb hSw.2; rw [HFV.out] at cv; go_simp; try with_reducible rfl
  go_simp
  refine wpAnyH_ready (rs := [6]) (by kernel_rfl) (by simp) ?_
  refine AllReadyH.cons rfl (fun K hK => ?_) AllReadyH.nil
  go_simp
  go_wp2_with (go_at_call 63; (with_reducible refine (HAP.out _ (H2.out.kp (Kp.refl w2).drew).mo).mono ?_); rintro e w3 ⟨rfl, hmo, hon⟩; have H3 := Lib.hid ((H2.out.kp (Kp.refl w2).drew).tape hmo hon); have A3 := Lib.hid ((Asd.of_kp (Om gq gm v E) (Kp.trans K2.out (Kp.refl w2).drew)).trans (asd_onG hon (.inl rfl))); have SV3 := Lib.hid (own_slb (own_stay2 (w' := w3) OV2.out (fun b hb => hon.block b (own_lt2 OV2.out hb) (fun q => by have h1 := own_blk OV2.out hb; have h2 := old_of_row H.out.mo; have q2 : b = gm := q; omega)))); have D0 := H3.out.mj.c0; have D1 := H3.out.mj.c1; have D2 := H3.out.mj.c2; have dz := H3.out.mj.z; clear hmo hon)
  refine hK.out _ _ ?_ (fun hHeld => ?_)
  · exact ⟨⟨_, H3.out⟩, SV3.out⟩
  clear hK K
  refine wpAnyH_take (i := 7) (v := ?_) rfl (by kernel_rfl) (by kernel_rfl) (by kernel_rfl) (fun _ _ _ h => h) (Or.inl ⟨by rfl, ?_⟩) (by assumption) ?_
  rotate_left
  · intro w hSw; go_simp; try with_reducible rfl
  go_simp
  refine wpAnyH_done (by kernel_rfl) ?_ _
  go_wp2
  go_ret
  exact ⟨by first | rfl | simp, _, ⟨v, us, E, H3.out.dead, rfl⟩, A3.out.trans (asd_set (.inr (.inl rfl)))⟩

set_option maxRecDepth 100000 in
set_option maxHeartbeats 4000000 in
theorem ref7_put_sp (a : Option Addr) (n c : Nat) (hs : SlBB (.slice a n c) rs W) (hn : rs.length = n) (hl : n ≤ 100) (hin : ∀ r ∈ rs, InB r ∧ r.length ≤ 100000) (hm : Mok m) (hnum : j.rows.length ≤ 100000) (h : DJ0 W gq gm j m v us E w) (hd : ¬ j.dead = true) (ho : okRs rs) (he : rs ≠ []) (h6 : (appM m (allF rs)).1 = 0) (h8 : (syncM (appM m (allF rs)).2).1 = 7) :
    Calls Tryd.prog 39 #[.pointer (some ⟨gq, 0, none⟩), .slice a n c] w fun e w' => e = .returned (.int .i64 (putJ j m rs).1) ∧ ∃ OM', DJ W gq gm (putJ j m rs).2.1 (putJ j m rs).2.2 OM' w' ∧ Asd (Om gq gm v E) OM' w w' := by
  have H := Lib.hid h
  have c0 := h.mj.c0
  have c2 := h.mj.c2
  have z := h.mj.z
  have e : putJ j m rs = (7, { j with dead := true }, (syncM (appM m (allF rs)).2).2) := by
    unfold putJ
    rw [if_neg hd, if_neg (Decidable.not_not.2 ho), if_neg he, if_pos h6, if_neg (by rw [h8]; decide)]
  rw [e]
  have hm1 : Mok (appM m (allF rs)).2 := hm.app (allF_in (fun r hr => (hin r hr).1) ho)
  have HSY := fun w1 (q : MoC gm (appM m (allF rs)).2 w1) => ref6_sync gm (appM m (allF rs)).2 hm1 w1 q
  simp only [h8] at HSY
  have hnz : ¬ (n : Int) = 0 := by
    have : rs.length ≠ 0 := fun q => he (List.length_eq_zero_iff.1 q)
    omega
  have hd2 : j.dead = false := by simpa using hd
  rw [hd2] at c2
  have HALL := Lib.hid (fun w1 (hk : Kp W w1) => all7_any a n c rs hn (by omega) hin (fun k hk2 => by
    have h1 := allF_le hk2
    have h2 : (rs.take k).length ≤ n := by rw [List.length_take]; omega
    omega) w1 (hs.kp hk))
  have HOK := Lib.hid ho
  obtain ⟨bs, hbs⟩ : ∃ x, allF rs = x := ⟨_, rfl⟩
  have hbl : bs.length ≤ 100000 := by rw [← hbs]; have := allF_le ho; omega
  rw [hbs] at HALL
  have HAP := fun w1 (q : MoC gm m w1) => ref6_append gm m hm bs hbl w1 q
  obtain ⟨fv, hfv⟩ : ∃ x, strOfNums bs = x := ⟨_, rfl⟩
  have HFV := Lib.hid hfv
  rw [hfv] at HAP
  have HD := Lib.hid hd2
  have HNUM := Lib.hid hnum
  have HSW := Lib.hid hs
  have HN := Lib.hid hn
  rw [hbs] at h6 HSY
  simp only [h6] at HAP
  rw [hbs]
  have HAP := Lib.hid HAP
  have HSY := Lib.hid HSY
  have hnn : n ≤ 100 := hl
  clear h hd hd2 hs hn hl hin hm hnum ho hfv hbl hbs c0 he e h6 h8 hm1
  go_enter Tryd.func39, Tryd.ntmps39
  go_wp2_with (go_at_call 15; (with_reducible refine (HALL.out _ H.out.kW).mono ?_); rintro e w2 ⟨hcase, hk⟩; have K2 := Lib.hid hk; have H2 := Lib.hid (H.out.kp hk); obtain ⟨-, v2, rfl, hown⟩ := hcase.resolve_right (fun q => q.1 HOK.out); have S2 := Lib.hid (own_slb hown); have OV2 := Lib.hid hown; have C0 := Lib.hid H2.out.mj.c0; clear hk hown hcase)
  refine wp_region_held_drew (S := fun w' => (∃ mx, DJ0 W gq gm j mx v us E w') ∧ SlB v2 bs w') (by kernel_rfl) ?_ (fun hHeld => ?_)
  · exact ⟨⟨_, H2.out.kp (Kp.refl w2).drew⟩, S2.out.kp (Kp.refl w2).drew⟩
  refine wpAnyH_take (i := 0) (v := ?_) rfl (by kernel_rfl) (by kernel_rfl) (by kernel_rfl) (fun _ _ _ h => h) (Or.inl ⟨by rfl, ?_⟩) (by assumption) ?_
  rotate_left
  · intro w hSw; go_simp; try with_reducible rfl
  go_simp
  refine wpAnyH_take (i := 1) (v := ?_) rfl (by kernel_rfl) (by kernel_rfl) (by kernel_rfl) (fun _ _ _ h => h) (Or.inl ⟨by rfl, ?_⟩) (by assumption) ?_
  rotate_left
  · intro w hSw; go_simp; try with_reducible rfl
  go_simp
  refine wpAnyH_take (i := 2) (v := ?_) rfl (by kernel_rfl) (by kernel_rfl) (by kernel_rfl) (fun _ _ _ h => h) (Or.inl ⟨by rfl, ?_⟩) (by assumption) ?_
  rotate_left
  · intro w hSw; go_simp; try with_reducible rfl
  go_simp
  refine wpAnyH_take (i := 3) (v := ?_) rfl (by kernel_rfl) (by kernel_rfl) (by kernel_rfl) (fun _ _ _ h => h) (Or.inl ⟨by rfl, ?_⟩) (by assumption) ?_
  rotate_left
  · intro w hSw; obtain ⟨⟨mx, hx⟩, -⟩ := hSw; have q := hx.mj.c0; go_simp; try with_reducible rfl
  go_simp
  refine wpAnyH_take (i := 4) (v := ?_) rfl (by kernel_rfl) (by kernel_rfl) (by kernel_rfl) (fun _ _ _ h => h) (Or.inl ⟨by rfl, ?_⟩) (by assumption) ?_
  rotate_left
  · intro w hSw; go_simp; try with_reducible rfl
  go_simp
  refine wpAnyH_take (i := 5) (v := ?_) rfl (by kernel_rfl) (by kernel_rfl) (by kernel_rfl) (fun _ _ _ h => h) (Or.inl ⟨by rfl, ?_⟩) (by assumption) ?_
  rotate_left
  · intro w hSw; have cv := conv_slb hSw.2; rw [HFV.out] at cv; go_simp; try with_reducible rfl
  go_simp
  refine wpAnyH_ready (rs := [6]) (by kernel_rfl) (by simp) ?_
  refine AllReadyH.cons rfl (fun K hK => ?_) AllReadyH.nil
  go_simp
  go_wp2_with (go_at_call 63; (with_reducible refine (HAP.out _ (H2.out.kp (Kp.refl w2).drew).mo).mono ?_); rintro e w3 ⟨rfl, hmo, hon⟩; have H3 := Lib.hid ((H2.out.kp (Kp.refl w2).drew).tape hmo hon); have A3 := Lib.hid ((Asd.of_kp (Om gq gm v E) (Kp.trans K2.out (Kp.refl w2).drew)).trans (asd_onG hon (.inl rfl))); have SV3 := Lib.hid (own_slb (own_stay2 (w' := w3) OV2.out (fun b hb => hon.block b (own_lt2 OV2.out hb) (fun q => by have h1 := own_blk OV2.out hb; have h2 := old_of_row H.out.mo; have q2 : b = gm := q; omega)))); have D0 := H3.out.mj.c0; have D1 := H3.out.mj.c1; have D2 := H3.out.mj.c2; have dz := H3.out.mj.z; clear hmo hon)
  refine hK.out _ _ ?_ (fun hHeld => ?_)
  · exact ⟨⟨_, H3.out⟩, SV3.out⟩
  clear hK K
  refine wpAnyH_take (i := 7) (v := ?_) rfl (by kernel_rfl) (by kernel_rfl) (by kernel_rfl) (fun _ _ _ h => h) (Or.inl ⟨by rfl, ?_⟩) (by assumption) ?_
  rotate_left
  · intro w hSw; go_simp; try with_reducible rfl
  go_simp
  refine wpAnyH_done (by kernel_rfl) ?_ _
  go_wp2_with (first | (go_at_call 64; (with_reducible refine (HSY.out _ H3.out.mo).mono ?_); rintro e w4 ⟨rfl, hmo, hon⟩; have H4 := Lib.hid (H3.out.tape hmo hon); have A4 := Lib.hid (A3.out.trans (asd_onG hon (.inl rfl))); have G1 := H4.out.mj.c1; have G2 := H4.out.mj.c2; have gz := H4.out.mj.z; clear hmo hon) | (at_builtin; refine wpList_append_rows _ rfl _ _ rfl W.heap.size v j.rows.length us rfl H4.out.mj.own a n c rs rfl HSW.out H4.out.kW ?d1 ?d2 ?_))
  go_ret
  exact ⟨by first | rfl | simp, _, ⟨v, us, E, H4.out.dead, rfl⟩, A4.out.trans (asd_set (.inr (.inl rfl)))⟩

set_option maxRecDepth 100000 in
set_option maxHeartbeats 4000000 in
theorem ref7_put_ok (a : Option Addr) (n c : Nat) (hs : SlBB (.slice a n c) rs W) (hn : rs.length = n) (hl : n ≤ 100) (hin : ∀ r ∈ rs, InB r ∧ r.length ≤ 100000) (hm : Mok m) (hnum : j.rows.length ≤ 100000) (h : DJ0 W gq gm j m v us E w) (hd : ¬ j.dead = true) (ho : okRs rs) (he : rs ≠ []) (h6 : (appM m (allF rs)).1 = 0) (h8 : (syncM (appM m (allF rs)).2).1 = 0) :
    Calls Tryd.prog 39 #[.pointer (some ⟨gq, 0, none⟩), .slice a n c] w fun e w' => e = .returned (.int .i64 (putJ j m rs).1) ∧ ∃ OM', DJ W gq gm (putJ j m rs).2.1 (putJ j m rs).2.2 OM' w' ∧ Asd (Om gq gm v E) OM' w w' := by
  have H := Lib.hid h
  have c0 := h.mj.c0
  have c2 := h.mj.c2
  have z := h.mj.z
  have e : putJ j m rs = (0, ⟨j.rows ++ rs, false⟩, (syncM (appM m (allF rs)).2).2) := by
    unfold putJ
    rw [if_neg hd, if_neg (Decidable.not_not.2 ho), if_neg he, if_pos h6, if_pos h8]
  rw [e]
  have hm1 : Mok (appM m (allF rs)).2 := hm.app (allF_in (fun r hr => (hin r hr).1) ho)
  have HSY := fun w1 (q : MoC gm (appM m (allF rs)).2 w1) => ref6_sync gm (appM m (allF rs)).2 hm1 w1 q
  simp only [h8] at HSY
  have hnz : ¬ (n : Int) = 0 := by
    have : rs.length ≠ 0 := fun q => he (List.length_eq_zero_iff.1 q)
    omega
  have hd2 : j.dead = false := by simpa using hd
  rw [hd2] at c2
  have HALL := Lib.hid (fun w1 (hk : Kp W w1) => all7_any a n c rs hn (by omega) hin (fun k hk2 => by
    have h1 := allF_le hk2
    have h2 : (rs.take k).length ≤ n := by rw [List.length_take]; omega
    omega) w1 (hs.kp hk))
  have HOK := Lib.hid ho
  obtain ⟨bs, hbs⟩ : ∃ x, allF rs = x := ⟨_, rfl⟩
  have hbl : bs.length ≤ 100000 := by rw [← hbs]; have := allF_le ho; omega
  rw [hbs] at HALL
  have HAP := fun w1 (q : MoC gm m w1) => ref6_append gm m hm bs hbl w1 q
  obtain ⟨fv, hfv⟩ : ∃ x, strOfNums bs = x := ⟨_, rfl⟩
  have HFV := Lib.hid hfv
  rw [hfv] at HAP
  have HD := Lib.hid hd2
  have HNUM := Lib.hid hnum
  have HSW := Lib.hid hs
  have HN := Lib.hid hn
  rw [hbs] at h6 HSY
  simp only [h6] at HAP
  rw [hbs]
  have HAP := Lib.hid HAP
  have HSY := Lib.hid HSY
  have hnn : n ≤ 100 := hl
  clear h hd hd2 hs hn hl hin hm hnum ho hfv hbl hbs c0 he e h6 h8 hm1
  go_enter Tryd.func39, Tryd.ntmps39
  go_wp2_with (go_at_call 15; (with_reducible refine (HALL.out _ H.out.kW).mono ?_); rintro e w2 ⟨hcase, hk⟩; have K2 := Lib.hid hk; have H2 := Lib.hid (H.out.kp hk); obtain ⟨-, v2, rfl, hown⟩ := hcase.resolve_right (fun q => q.1 HOK.out); have S2 := Lib.hid (own_slb hown); have OV2 := Lib.hid hown; have C0 := Lib.hid H2.out.mj.c0; clear hk hown hcase)
  refine wp_region_held_drew (S := fun w' => (∃ mx, DJ0 W gq gm j mx v us E w') ∧ SlB v2 bs w') (by kernel_rfl) ?_ (fun hHeld => ?_)
  · exact ⟨⟨_, H2.out.kp (Kp.refl w2).drew⟩, S2.out.kp (Kp.refl w2).drew⟩
  refine wpAnyH_take (i := 0) (v := ?_) rfl (by kernel_rfl) (by kernel_rfl) (by kernel_rfl) (fun _ _ _ h => h) (Or.inl ⟨by rfl, ?_⟩) (by assumption) ?_
  rotate_left
  · intro w hSw; go_simp; try with_reducible rfl
  go_simp
  refine wpAnyH_take (i := 1) (v := ?_) rfl (by kernel_rfl) (by kernel_rfl) (by kernel_rfl) (fun _ _ _ h => h) (Or.inl ⟨by rfl, ?_⟩) (by assumption) ?_
  rotate_left
  · intro w hSw; go_simp; try with_reducible rfl
  go_simp
  refine wpAnyH_take (i := 2) (v := ?_) rfl (by kernel_rfl) (by kernel_rfl) (by kernel_rfl) (fun _ _ _ h => h) (Or.inl ⟨by rfl, ?_⟩) (by assumption) ?_
  rotate_left
  · intro w hSw; go_simp; try with_reducible rfl
  go_simp
  refine wpAnyH_take (i := 3) (v := ?_) rfl (by kernel_rfl) (by kernel_rfl) (by kernel_rfl) (fun _ _ _ h => h) (Or.inl ⟨by rfl, ?_⟩) (by assumption) ?_
  rotate_left
  · intro w hSw; obtain ⟨⟨mx, hx⟩, -⟩ := hSw; have q := hx.mj.c0; go_simp; try with_reducible rfl
  go_simp
  refine wpAnyH_take (i := 4) (v := ?_) rfl (by kernel_rfl) (by kernel_rfl) (by kernel_rfl) (fun _ _ _ h => h) (Or.inl ⟨by rfl, ?_⟩) (by assumption) ?_
  rotate_left
  · intro w hSw; go_simp; try with_reducible rfl
  go_simp
  refine wpAnyH_take (i := 5) (v := ?_) rfl (by kernel_rfl) (by kernel_rfl) (by kernel_rfl) (fun _ _ _ h => h) (Or.inl ⟨by rfl, ?_⟩) (by assumption) ?_
  rotate_left
  · intro w hSw; have cv := conv_slb hSw.2; rw [HFV.out] at cv; go_simp; try with_reducible rfl
  go_simp
  refine wpAnyH_ready (rs := [6]) (by kernel_rfl) (by simp) ?_
  refine AllReadyH.cons rfl (fun K hK => ?_) AllReadyH.nil
  go_simp
  go_wp2_with (go_at_call 63; (with_reducible refine (HAP.out _ (H2.out.kp (Kp.refl w2).drew).mo).mono ?_); rintro e w3 ⟨rfl, hmo, hon⟩; have H3 := Lib.hid ((H2.out.kp (Kp.refl w2).drew).tape hmo hon); have A3 := Lib.hid ((Asd.of_kp (Om gq gm v E) (Kp.trans K2.out (Kp.refl w2).drew)).trans (asd_onG hon (.inl rfl))); have SV3 := Lib.hid (own_slb (own_stay2 (w' := w3) OV2.out (fun b hb => hon.block b (own_lt2 OV2.out hb) (fun q => by have h1 := own_blk OV2.out hb; have h2 := old_of_row H.out.mo; have q2 : b = gm := q; omega)))); have D0 := H3.out.mj.c0; have D1 := H3.out.mj.c1; have D2 := H3.out.mj.c2; have dz := H3.out.mj.z; clear hmo hon)
  refine hK.out _ _ ?_ (fun hHeld => ?_)
  · exact ⟨⟨_, H3.out⟩, SV3.out⟩
  clear hK K
  refine wpAnyH_take (i := 7) (v := ?_) rfl (by kernel_rfl) (by kernel_rfl) (by kernel_rfl) (fun _ _ _ h => h) (Or.inl ⟨by rfl, ?_⟩) (by assumption) ?_
  rotate_left
  · intro w hSw; go_simp; try with_reducible rfl
  go_simp
  refine wpAnyH_done (by kernel_rfl) ?_ _
  go_wp2_with (first | (go_at_call 64; (with_reducible refine (HSY.out _ H3.out.mo).mono ?_); rintro e w4 ⟨rfl, hmo, hon⟩; have H4 := Lib.hid (H3.out.tape hmo hon); have A4 := Lib.hid (A3.out.trans (asd_onG hon (.inl rfl))); have G1 := H4.out.mj.c1; have G2 := H4.out.mj.c2; have gz := H4.out.mj.z; clear hmo hon) | (at_builtin; refine wpList_append_rows _ rfl _ _ rfl W.heap.size v j.rows.length us rfl H4.out.mj.own a n c rs rfl HSW.out H4.out.kW ?d1 ?d2 ?_))
  case d1 => have := HNUM.out; omega
  case d2 => exact Below.size H4.out.kW
  intro us2 v5 w5 hv hown hgr hbk
  have hown2 := hown
  rw [← HN.out] at hown2
  have F := Lib.hid (dj_put H4.out HD.out hv hown2 hgr hbk)
  have E5 : w5.heap[gq]? = some (.cells #[.pointer (some ⟨gm, 0, none⟩), v, .bool j.dead] 50 (0, 0)) := (hgr.block gq (old_of_row H4.out.mj.row) (fun q => H4.out.mj.ne q.symm)).trans H4.out.mj.row
  have p0 : w5.cell? ⟨gq, 0, none⟩ = some (.pointer (some ⟨gm, 0, none⟩)) := by unfold World.cell?; dsimp only; rw [E5]; rfl
  have p1 : w5.cell? ⟨gq, 1, none⟩ = some v := by unfold World.cell?; dsimp only; rw [E5]; rfl
  have pz : ∀ i, w5.frozen? ⟨gq, i, none⟩ = false := fun i => by unfold World.frozen?; dsimp only; rw [E5]; simp
  obtain ⟨a5, n5, c5, rfl⟩ : ∃ a5 n5 c5, v5 = .slice a5 n5 c5 := by
    rcases hown.2 with ⟨rfl, q⟩ | ⟨gb, cap, cur, rfl, _⟩
    · exact ⟨none, 0, 0, rfl⟩
    · exact ⟨_, _, _, rfl⟩
  clear hown hown2 hgr hbk hv E5
  go_wp2
  go_ret
  exact ⟨by first | rfl | simp, _, ⟨_, _, _, F.out.1, rfl⟩, A4.out.trans F.out.2⟩

set_option maxRecDepth 100000 in
set_option maxHeartbeats 4000000 in
theorem ref7_comp_dead (a : Option Addr) (n c : Nat) (hs : SlBB (.slice a n c) rs W) (hn : rs.length = n) (hl : n ≤ 100) (hin : ∀ r ∈ rs, InB r ∧ r.length ≤ 100000) (hm : Mok m) (hnum : j.rows.length ≤ 100000) (h : DJ0 W gq gm j m v us E w) (hd : j.dead = true) :
    Calls Tryd.prog 40 #[.pointer (some ⟨gq, 0, none⟩), .slice a n c] w fun e w' => e = .returned (.int .i64 (compJ j m rs).1) ∧ ∃ OM', DJ W gq gm (compJ j m rs).2.1 (compJ j m rs).2.2 OM' w' ∧ Asd (Om gq gm v E) OM' w w' := by
  have H := Lib.hid h
  have c0 := h.mj.c0
  have c2 := h.mj.c2
  have z := h.mj.z
  have e : compJ j m rs = (9, j, m) := by unfold compJ; rw [if_pos hd]
  rw [e]
  rw [hd] at c2
  have _u := And.intro hs (And.intro hn (And.intro hl (And.intro hin (And.intro hm hnum))))
  clear _u h hd e hs hn hl hin hm hnum c0
  go_enter Tryd.func40, Tryd.ntmps40
  go_wp2
  go_ret
  exact ⟨rfl, _, ⟨v, us, E, H.out, rfl⟩, Asd.refl _ _⟩

set_option maxRecDepth 100000 in
set_option maxHeartbeats 4000000 in
theorem ref7_comp_bad (a : Option Addr) (n c : Nat) (hs : SlBB (.slice a n c) rs W) (hn : rs.length = n) (hl : n ≤ 100) (hin : ∀ r ∈ rs, InB r ∧ r.length ≤ 100000) (hm : Mok m) (hnum : j.rows.length ≤ 100000) (h : DJ0 W gq gm j m v us E w) (hd : ¬ j.dead = true) (ho : ¬ okRs rs) :
    Calls Tryd.prog 40 #[.pointer (some ⟨gq, 0, none⟩), .slice a n c] w fun e w' => e = .returned (.int .i64 (compJ j m rs).1) ∧ ∃ OM', DJ W gq gm (compJ j m rs).2.1 (compJ j m rs).2.2 OM' w' ∧ Asd (Om gq gm v E) OM' w w' := by
  have H := Lib.hid h
  have c0 := h.mj.c0
  have c2 := h.mj.c2
  have z := h.mj.z
  have e : compJ j m rs = (4, j, m) := by unfold compJ; rw [if_neg hd, if_pos ho]
  rw [e]
  have hd2 : j.dead = false := by simpa using hd
  rw [hd2] at c2
  have _u := And.intro hm hnum
  have HALL := Lib.hid (fun w1 (hk : Kp W w1) => all7_any a n c rs hn (by omega) hin (fun k hk2 => by
    have h1 := allF_le hk2
    have h2 : (rs.take k).length ≤ n := by rw [List.length_take]; omega
    omega) w1 (hs.kp hk))
  have HNO := Lib.hid ho
  clear _u h hd hd2 e hs hn hl hin hm hnum ho c0
  go_enter Tryd.func40, Tryd.ntmps40
  go_wp2_with (go_at_call 15; (with_reducible refine (HALL.out _ H.out.kW).mono ?_); rintro e w2 ⟨hcase, hk⟩; have K2 := Lib.hid hk; have H2 := Lib.hid (H.out.kp hk); obtain ⟨-, rfl⟩ := hcase.resolve_left (fun q => HNO.out q.1); clear hk)
  go_ret
  exact ⟨rfl, _, ⟨v, us, E, H2.out, rfl⟩, Asd.of_kp _ K2.out⟩

set_option maxRecDepth 100000 in
set_option maxHeartbeats 4000000 in
theorem ref7_comp_full (a : Option Addr) (n c : Nat) (hs : SlBB (.slice a n c) rs W) (hn : rs.length = n) (hl : n ≤ 100) (hin : ∀ r ∈ rs, InB r ∧ r.length ≤ 100000) (hm : Mok m) (hnum : j.rows.length ≤ 100000) (h : DJ0 W gq gm j m v us E w) (hd : ¬ j.dead = true) (ho : okRs rs) (h6 : (swapM m (allF rs)).1 = 6) :
    Calls Tryd.prog 40 #[.pointer (some ⟨gq, 0, none⟩), .slice a n c] w fun e w' => e = .returned (.int .i64 (compJ j m rs).1) ∧ ∃ OM', DJ W gq gm (compJ j m rs).2.1 (compJ j m rs).2.2 OM' w' ∧ Asd (Om gq gm v E) OM' w w' := by
  have H := Lib.hid h
  have c0 := h.mj.c0
  have c2 := h.mj.c2
  have z := h.mj.z
  have e : compJ j m rs = (6, j, (swapM m (allF rs)).2) := by
    unfold compJ
    rw [if_neg hd, if_neg (Decidable.not_not.2 ho), if_neg (by rw [h6]; decide), h6]
    have hj : ({ j with dead := decide ((6 : Int) = 7) } : JM) = j := jm_eta hd
    rw [hj]
  rw [e]
  have hd2 : j.dead = false := by simpa using hd
  rw [hd2] at c2
  have HALL := Lib.hid (fun w1 (hk : Kp W w1) => all7_any a n c rs hn (by omega) hin (fun k hk2 => by
    have h1 := allF_le hk2
    have h2 : (rs.take k).length ≤ n := by rw [List.length_take]; omega
    omega) w1 (hs.kp hk))
  have HOK := Lib.hid ho
  obtain ⟨bs, hbs⟩ : ∃ x, allF rs = x := ⟨_, rfl⟩
  have hbl : bs.length ≤ 100000 := by rw [← hbs]; have := allF_le ho; omega
  rw [hbs] at HALL
  have HAP := fun w1 (q : MoC gm m w1) => ref6_swap gm m hm bs hbl w1 q
  obtain ⟨fv, hfv⟩ : ∃ x, strOfNums bs = x := ⟨_, rfl⟩
  have HFV := Lib.hid hfv
  rw [hfv] at HAP
  have HD := Lib.hid hd2
  have HNUM := Lib.hid hnum
  have HSW := Lib.hid hs
  have HN := Lib.hid hn
  rw [hbs] at h6
  simp only [h6] at HAP
  rw [hbs]
  have HAP := Lib.hid HAP
  clear h hd hd2 hs hn hl hin hm hnum ho hfv hbl hbs c0 e h6
  go_enter Tryd.func40, Tryd.ntmps40
  go_wp2_with (go_at_call 15; (with_reducible refine (HALL.out _ H.out.kW).mono ?_); rintro e w2 ⟨hcase, hk⟩; have K2 := Lib.hid hk; have H2 := Lib.hid (H.out.kp hk); obtain ⟨-, v2, rfl, hown⟩ := hcase.resolve_right (fun q => q.1 HOK.out); have S2 := Lib.hid (own_slb hown); have OV2 := Lib.hid hown; have C0 := Lib.hid H2.out.mj.c0; clear hk hown hcase)
  refine wp_region_held_drew (S := fun w' => (∃ mx, DJ0 W gq gm j mx v us E w') ∧ SlB v2 bs w') (by kernel_rfl) ?_ (fun hHeld => ?_)
  · exact ⟨⟨_, H2.out.kp (Kp.refl w2).drew⟩, S2.out.kp (Kp.refl w2).drew⟩
  refine wpAnyH_take (i := 0) (v := ?_) rfl (by kernel_rfl) (by kernel_rfl) (by kernel_rfl) (fun _ _ _ h => h) (Or.inl ⟨by rfl, ?_⟩) (by assumption) ?_
  rotate_left
  · intro w hSw; go_simp; try with_reducible rfl
  go_simp
  refine wpAnyH_take (i := 1) (v := ?_) rfl (by kernel_rfl) (by kernel_rfl) (by kernel_rfl) (fun _ _ _ h => h) (Or.inl ⟨by rfl, ?_⟩) (by assumption) ?_
  rotate_left
  · intro w hSw; go_simp; try with_reducible rfl
  go_simp
  refine wpAnyH_take (i := 2) (v := ?_) rfl (by kernel_rfl) (by kernel_rfl) (by kernel_rfl) (fun _ _ _ h => h) (Or.inl ⟨by rfl, ?_⟩) (by assumption) ?_
  rotate_left
  · intro w hSw; go_simp; try with_reducible rfl
  go_simp
  refine wpAnyH_take (i := 3) (v := ?_) rfl (by kernel_rfl) (by kernel_rfl) (by kernel_rfl) (fun _ _ _ h => h) (Or.inl ⟨by rfl, ?_⟩) (by assumption) ?_
  rotate_left
  · intro w hSw; obtain ⟨⟨mx, hx⟩, -⟩ := hSw; have q := hx.mj.c0; go_simp; try with_reducible rfl
  go_simp
  refine wpAnyH_take (i := 4) (v := ?_) rfl (by kernel_rfl) (by kernel_rfl) (by kernel_rfl) (fun _ _ _ h => h) (Or.inl ⟨by rfl, ?_⟩) (by assumption) ?_
  rotate_left
  · intro w hSw; go_simp; try with_reducible rfl
  go_simp
  refine wpAnyH_take (i := 5) (v := ?_) rfl (by kernel_rfl) (by kernel_rfl) (by kernel_rfl) (fun _ _ _ h => h) (Or.inl ⟨by rfl, ?_⟩) (by assumption) ?_
  rotate_left
  · intro w hSw; have cv := conv_slb hSw.2; rw [HFV.out] at cv; go_simp; try with_reducible rfl
  go_simp
  refine wpAnyH_ready (rs := [6]) (by kernel_rfl) (by simp) ?_
  refine AllReadyH.cons rfl (fun K hK => ?_) AllReadyH.nil
  go_simp
  go_wp2_with (go_at_call 65; (with_reducible refine (HAP.out _ (H2.out.kp (Kp.refl w2).drew).mo).mono ?_); rintro e w3 ⟨rfl, hmo, hon⟩; have H3 := Lib.hid ((H2.out.kp (Kp.refl w2).drew).tape hmo hon); have A3 := Lib.hid ((Asd.of_kp (Om gq gm v E) (Kp.trans K2.out (Kp.refl w2).drew)).trans (asd_onG hon (.inl rfl))); have SV3 := Lib.hid (own_slb (own_stay2 (w' := w3) OV2.out (fun b hb => hon.block b (own_lt2 OV2.out hb) (fun q => by have h1 := own_blk OV2.out hb; have h2 := old_of_row H.out.mo; have q2 : b = gm := q; omega)))); have D0 := H3.out.mj.c0; have D1 := H3.out.mj.c1; have D2 := H3.out.mj.c2; have dz := H3.out.mj.z; clear hmo hon)
  refine hK.out _ _ ?_ (fun hHeld => ?_)
  · exact ⟨⟨_, H3.out⟩, SV3.out⟩
  clear hK K
  refine wpAnyH_take (i := 7) (v := ?_) rfl (by kernel_rfl) (by kernel_rfl) (by kernel_rfl) (fun _ _ _ h => h) (Or.inl ⟨by rfl, ?_⟩) (by assumption) ?_
  rotate_left
  · intro w hSw; go_simp; try with_reducible rfl
  go_simp
  refine wpAnyH_done (by kernel_rfl) ?_ _
  have D2' := D2
  rw [HD.out] at D2'
  go_wp2
  go_ret
  exact ⟨by first | rfl | simp, _, ⟨v, us, E, H3.out, rfl⟩, A3.out⟩

set_option maxRecDepth 100000 in
set_option maxHeartbeats 4000000 in
theorem ref7_comp_pow (a : Option Addr) (n c : Nat) (hs : SlBB (.slice a n c) rs W) (hn : rs.length = n) (hl : n ≤ 100) (hin : ∀ r ∈ rs, InB r ∧ r.length ≤ 100000) (hm : Mok m) (hnum : j.rows.length ≤ 100000) (h : DJ0 W gq gm j m v us E w) (hd : ¬ j.dead = true) (ho : okRs rs) (h6 : (swapM m (allF rs)).1 = 7) :
    Calls Tryd.prog 40 #[.pointer (some ⟨gq, 0, none⟩), .slice a n c] w fun e w' => e = .returned (.int .i64 (compJ j m rs).1) ∧ ∃ OM', DJ W gq gm (compJ j m rs).2.1 (compJ j m rs).2.2 OM' w' ∧ Asd (Om gq gm v E) OM' w w' := by
  have H := Lib.hid h
  have c0 := h.mj.c0
  have c2 := h.mj.c2
  have z := h.mj.z
  have e : compJ j m rs = (7, { j with dead := true }, (swapM m (allF rs)).2) := by
    unfold compJ
    rw [if_neg hd, if_neg (Decidable.not_not.2 ho), if_neg (by rw [h6]; decide), h6]
    rfl
  rw [e]
  have hd2 : j.dead = false := by simpa using hd
  rw [hd2] at c2
  have HALL := Lib.hid (fun w1 (hk : Kp W w1) => all7_any a n c rs hn (by omega) hin (fun k hk2 => by
    have h1 := allF_le hk2
    have h2 : (rs.take k).length ≤ n := by rw [List.length_take]; omega
    omega) w1 (hs.kp hk))
  have HOK := Lib.hid ho
  obtain ⟨bs, hbs⟩ : ∃ x, allF rs = x := ⟨_, rfl⟩
  have hbl : bs.length ≤ 100000 := by rw [← hbs]; have := allF_le ho; omega
  rw [hbs] at HALL
  have HAP := fun w1 (q : MoC gm m w1) => ref6_swap gm m hm bs hbl w1 q
  obtain ⟨fv, hfv⟩ : ∃ x, strOfNums bs = x := ⟨_, rfl⟩
  have HFV := Lib.hid hfv
  rw [hfv] at HAP
  have HD := Lib.hid hd2
  have HNUM := Lib.hid hnum
  have HSW := Lib.hid hs
  have HN := Lib.hid hn
  rw [hbs] at h6
  simp only [h6] at HAP
  rw [hbs]
  have HAP := Lib.hid HAP
  clear h hd hd2 hs hn hl hin hm hnum ho hfv hbl hbs c0 e h6
  go_enter Tryd.func40, Tryd.ntmps40
  go_wp2_with (go_at_call 15; (with_reducible refine (HALL.out _ H.out.kW).mono ?_); rintro e w2 ⟨hcase, hk⟩; have K2 := Lib.hid hk; have H2 := Lib.hid (H.out.kp hk); obtain ⟨-, v2, rfl, hown⟩ := hcase.resolve_right (fun q => q.1 HOK.out); have S2 := Lib.hid (own_slb hown); have OV2 := Lib.hid hown; have C0 := Lib.hid H2.out.mj.c0; clear hk hown hcase)
  refine wp_region_held_drew (S := fun w' => (∃ mx, DJ0 W gq gm j mx v us E w') ∧ SlB v2 bs w') (by kernel_rfl) ?_ (fun hHeld => ?_)
  · exact ⟨⟨_, H2.out.kp (Kp.refl w2).drew⟩, S2.out.kp (Kp.refl w2).drew⟩
  refine wpAnyH_take (i := 0) (v := ?_) rfl (by kernel_rfl) (by kernel_rfl) (by kernel_rfl) (fun _ _ _ h => h) (Or.inl ⟨by rfl, ?_⟩) (by assumption) ?_
  rotate_left
  · intro w hSw; go_simp; try with_reducible rfl
  go_simp
  refine wpAnyH_take (i := 1) (v := ?_) rfl (by kernel_rfl) (by kernel_rfl) (by kernel_rfl) (fun _ _ _ h => h) (Or.inl ⟨by rfl, ?_⟩) (by assumption) ?_
  rotate_left
  · intro w hSw; go_simp; try with_reducible rfl
  go_simp
  refine wpAnyH_take (i := 2) (v := ?_) rfl (by kernel_rfl) (by kernel_rfl) (by kernel_rfl) (fun _ _ _ h => h) (Or.inl ⟨by rfl, ?_⟩) (by assumption) ?_
  rotate_left
  · intro w hSw; go_simp; try with_reducible rfl
  go_simp
  refine wpAnyH_take (i := 3) (v := ?_) rfl (by kernel_rfl) (by kernel_rfl) (by kernel_rfl) (fun _ _ _ h => h) (Or.inl ⟨by rfl, ?_⟩) (by assumption) ?_
  rotate_left
  · intro w hSw; obtain ⟨⟨mx, hx⟩, -⟩ := hSw; have q := hx.mj.c0; go_simp; try with_reducible rfl
  go_simp
  refine wpAnyH_take (i := 4) (v := ?_) rfl (by kernel_rfl) (by kernel_rfl) (by kernel_rfl) (fun _ _ _ h => h) (Or.inl ⟨by rfl, ?_⟩) (by assumption) ?_
  rotate_left
  · intro w hSw; go_simp; try with_reducible rfl
  go_simp
  refine wpAnyH_take (i := 5) (v := ?_) rfl (by kernel_rfl) (by kernel_rfl) (by kernel_rfl) (fun _ _ _ h => h) (Or.inl ⟨by rfl, ?_⟩) (by assumption) ?_
  rotate_left
  · intro w hSw; have cv := conv_slb hSw.2; rw [HFV.out] at cv; go_simp; try with_reducible rfl
  go_simp
  refine wpAnyH_ready (rs := [6]) (by kernel_rfl) (by simp) ?_
  refine AllReadyH.cons rfl (fun K hK => ?_) AllReadyH.nil
  go_simp
  go_wp2_with (go_at_call 65; (with_reducible refine (HAP.out _ (H2.out.kp (Kp.refl w2).drew).mo).mono ?_); rintro e w3 ⟨rfl, hmo, hon⟩; have H3 := Lib.hid ((H2.out.kp (Kp.refl w2).drew).tape hmo hon); have A3 := Lib.hid ((Asd.of_kp (Om gq gm v E) (Kp.trans K2.out (Kp.refl w2).drew)).trans (asd_onG hon (.inl rfl))); have SV3 := Lib.hid (own_slb (own_stay2 (w' := w3) OV2.out (fun b hb => hon.block b (own_lt2 OV2.out hb) (fun q => by have h1 := own_blk OV2.out hb; have h2 := old_of_row H.out.mo; have q2 : b = gm := q; omega)))); have D0 := H3.out.mj.c0; have D1 := H3.out.mj.c1; have D2 := H3.out.mj.c2; have dz := H3.out.mj.z; clear hmo hon)
  refine hK.out _ _ ?_ (fun hHeld => ?_)
  · exact ⟨⟨_, H3.out⟩, SV3.out⟩
  clear hK K
  refine wpAnyH_take (i := 7) (v := ?_) rfl (by kernel_rfl) (by kernel_rfl) (by kernel_rfl) (fun _ _ _ h => h) (Or.inl ⟨by rfl, ?_⟩) (by assumption) ?_
  rotate_left
  · intro w hSw; go_simp; try with_reducible rfl
  go_simp
  refine wpAnyH_done (by kernel_rfl) ?_ _
  go_wp2
  go_ret
  exact ⟨by first | rfl | simp, _, ⟨v, us, E, H3.out.dead, rfl⟩, A3.out.trans (asd_set (.inr (.inl rfl)))⟩

set_option maxRecDepth 100000 in
set_option maxHeartbeats 4000000 in
theorem ref7_comp_ok (a : Option Addr) (n c : Nat) (hs : SlBB (.slice a n c) rs W) (hn : rs.length = n) (hl : n ≤ 100) (hin : ∀ r ∈ rs, InB r ∧ r.length ≤ 100000) (hm : Mok m) (hnum : j.rows.length ≤ 100000) (h : DJ0 W gq gm j m v us E w) (hd : ¬ j.dead = true) (ho : okRs rs) (h6 : (swapM m (allF rs)).1 = 0) :
    Calls Tryd.prog 40 #[.pointer (some ⟨gq, 0, none⟩), .slice a n c] w fun e w' => e = .returned (.int .i64 (compJ j m rs).1) ∧ ∃ OM', DJ W gq gm (compJ j m rs).2.1 (compJ j m rs).2.2 OM' w' ∧ Asd (Om gq gm v E) OM' w w' := by
  have H := Lib.hid h
  have c0 := h.mj.c0
  have c2 := h.mj.c2
  have z := h.mj.z
  have e : compJ j m rs = (0, ⟨rs, false⟩, (swapM m (allF rs)).2) := by
    unfold compJ
    rw [if_neg hd, if_neg (Decidable.not_not.2 ho), if_pos h6]
  rw [e]
  have hd2 : j.dead = false := by simpa using hd
  rw [hd2] at c2
  have HALL := Lib.hid (fun w1 (hk : Kp W w1) => all7_any a n c rs hn (by omega) hin (fun k hk2 => by
    have h1 := allF_le hk2
    have h2 : (rs.take k).length ≤ n := by rw [List.length_take]; omega
    omega) w1 (hs.kp hk))
  have HOK := Lib.hid ho
  obtain ⟨bs, hbs⟩ : ∃ x, allF rs = x := ⟨_, rfl⟩
  have hbl : bs.length ≤ 100000 := by rw [← hbs]; have := allF_le ho; omega
  rw [hbs] at HALL
  have HAP := fun w1 (q : MoC gm m w1) => ref6_swap gm m hm bs hbl w1 q
  obtain ⟨fv, hfv⟩ : ∃ x, strOfNums bs = x := ⟨_, rfl⟩
  have HFV := Lib.hid hfv
  rw [hfv] at HAP
  have HD := Lib.hid hd2
  have HNUM := Lib.hid hnum
  have HSW := Lib.hid hs
  have HN := Lib.hid hn
  rw [hbs] at h6
  simp only [h6] at HAP
  rw [hbs]
  have HAP := Lib.hid HAP
  have hnn : n ≤ 100 := hl
  clear h hd hd2 hs hn hl hin hm hnum ho hfv hbl hbs c0 e h6
  go_enter Tryd.func40, Tryd.ntmps40
  go_wp2_with (go_at_call 15; (with_reducible refine (HALL.out _ H.out.kW).mono ?_); rintro e w2 ⟨hcase, hk⟩; have K2 := Lib.hid hk; have H2 := Lib.hid (H.out.kp hk); obtain ⟨-, v2, rfl, hown⟩ := hcase.resolve_right (fun q => q.1 HOK.out); have S2 := Lib.hid (own_slb hown); have OV2 := Lib.hid hown; have C0 := Lib.hid H2.out.mj.c0; clear hk hown hcase)
  refine wp_region_held_drew (S := fun w' => (∃ mx, DJ0 W gq gm j mx v us E w') ∧ SlB v2 bs w') (by kernel_rfl) ?_ (fun hHeld => ?_)
  · exact ⟨⟨_, H2.out.kp (Kp.refl w2).drew⟩, S2.out.kp (Kp.refl w2).drew⟩
  refine wpAnyH_take (i := 0) (v := ?_) rfl (by kernel_rfl) (by kernel_rfl) (by kernel_rfl) (fun _ _ _ h => h) (Or.inl ⟨by rfl, ?_⟩) (by assumption) ?_
  rotate_left
  · intro w hSw; go_simp; try with_reducible rfl
  go_simp
  refine wpAnyH_take (i := 1) (v := ?_) rfl (by kernel_rfl) (by kernel_rfl) (by kernel_rfl) (fun _ _ _ h => h) (Or.inl ⟨by rfl, ?_⟩) (by assumption) ?_
  rotate_left
  · intro w hSw; go_simp; try with_reducible rfl
  go_simp
  refine wpAnyH_take (i := 2) (v := ?_) rfl (by kernel_rfl) (by kernel_rfl) (by kernel_rfl) (fun _ _ _ h => h) (Or.inl ⟨by rfl, ?_⟩) (by assumption) ?_
  rotate_left
  · intro w hSw; go_simp; try with_reducible rfl
  go_simp
  refine wpAnyH_take (i := 3) (v := ?_) rfl (by kernel_rfl) (by kernel_rfl) (by kernel_rfl) (fun _ _ _ h => h) (Or.inl ⟨by rfl, ?_⟩) (by assumption) ?_
  rotate_left
  · intro w hSw; obtain ⟨⟨mx, hx⟩, -⟩ := hSw; have q := hx.mj.c0; go_simp; try with_reducible rfl
  go_simp
  refine wpAnyH_take (i := 4) (v := ?_) rfl (by kernel_rfl) (by kernel_rfl) (by kernel_rfl) (fun _ _ _ h => h) (Or.inl ⟨by rfl, ?_⟩) (by assumption) ?_
  rotate_left
  · intro w hSw; go_simp; try with_reducible rfl
  go_simp
  refine wpAnyH_take (i := 5) (v := ?_) rfl (by kernel_rfl) (by kernel_rfl) (by kernel_rfl) (fun _ _ _ h => h) (Or.inl ⟨by rfl, ?_⟩) (by assumption) ?_
  rotate_left
  · intro w hSw; have cv := conv_slb hSw.2; rw [HFV.out] at cv; go_simp; try with_reducible rfl
  go_simp
  refine wpAnyH_ready (rs := [6]) (by kernel_rfl) (by simp) ?_
  refine AllReadyH.cons rfl (fun K hK => ?_) AllReadyH.nil
  go_simp
  go_wp2_with (go_at_call 65; (with_reducible refine (HAP.out _ (H2.out.kp (Kp.refl w2).drew).mo).mono ?_); rintro e w3 ⟨rfl, hmo, hon⟩; have H3 := Lib.hid ((H2.out.kp (Kp.refl w2).drew).tape hmo hon); have A3 := Lib.hid ((Asd.of_kp (Om gq gm v E) (Kp.trans K2.out (Kp.refl w2).drew)).trans (asd_onG hon (.inl rfl))); have SV3 := Lib.hid (own_slb (own_stay2 (w' := w3) OV2.out (fun b hb => hon.block b (own_lt2 OV2.out hb) (fun q => by have h1 := own_blk OV2.out hb; have h2 := old_of_row H.out.mo; have q2 : b = gm := q; omega)))); have D0 := H3.out.mj.c0; have D1 := H3.out.mj.c1; have D2 := H3.out.mj.c2; have dz := H3.out.mj.z; clear hmo hon)
  refine hK.out _ _ ?_ (fun hHeld => ?_)
  · exact ⟨⟨_, H3.out⟩, SV3.out⟩
  clear hK K
  refine wpAnyH_take (i := 7) (v := ?_) rfl (by kernel_rfl) (by kernel_rfl) (by kernel_rfl) (fun _ _ _ h => h) (Or.inl ⟨by rfl, ?_⟩) (by assumption) ?_
  rotate_left
  · intro w hSw; go_simp; try with_reducible rfl
  go_simp
  refine wpAnyH_done (by kernel_rfl) ?_ _
  have OW0 := Lib.hid (own_empty w3 46)
  have KW0 := Lib.hid (Kp.trans H3.out.kW (kp_alloc w3 (.cells #[] 46)))
  go_wp2_with (at_builtin; refine wpList_append_rows _ rfl _ _ rfl w3.heap.size _ 0 [] rfl OW0.out a n c rs rfl HSW.out KW0.out ?d1 ?d2 ?_)
  case d1 => omega
  case d2 => exact Below.size (kp_alloc _ _)
  intro us2 v5 w5 hv hown hgr _
  have K5 := row_kp OW0.out hgr (kp_alloc w3 (.cells #[] 46))
  have hown2 := hown
  rw [← HN.out] at hown2
  have F := Lib.hid (dj_comp H3.out HD.out hv hown2 K5)
  have E5 : w5.heap[gq]? = some (.cells #[.pointer (some ⟨gm, 0, none⟩), v, .bool j.dead] 50 (0, 0)) := (Below.block K5 gq (old_of_row H3.out.mj.row)).trans H3.out.mj.row
  have p0 : w5.cell? ⟨gq, 0, none⟩ = some (.pointer (some ⟨gm, 0, none⟩)) := by unfold World.cell?; dsimp only; rw [E5]; rfl
  have p1 : w5.cell? ⟨gq, 1, none⟩ = some v := by unfold World.cell?; dsimp only; rw [E5]; rfl
  have pz : ∀ i, w5.frozen? ⟨gq, i, none⟩ = false := fun i => by unfold World.frozen?; dsimp only; rw [E5]; simp
  obtain ⟨a5, n5, c5, rfl⟩ : ∃ a5 n5 c5, v5 = .slice a5 n5 c5 := by
    rcases hown.2 with ⟨rfl, q⟩ | ⟨gb, cap, cur, rfl, _⟩
    · exact ⟨none, 0, 0, rfl⟩
    · exact ⟨_, _, _, rfl⟩
  clear hown hown2 hgr hv E5 K5
  go_wp2
  go_ret
  exact ⟨by first | rfl | simp, _, ⟨_, _, _, F.out.1, rfl⟩, A3.out.trans F.out.2⟩

theorem put7_any (a : Option Addr) (n c : Nat) (hs : SlBB (.slice a n c) rs W) (hn : rs.length = n) (hl : n ≤ 100) (hin : ∀ r ∈ rs, InB r ∧ r.length ≤ 100000) (hm : Mok m) (hnum : j.rows.length ≤ 100000) (h : DJ W gq gm j m OM w) :
    Calls Tryd.prog 39 #[.pointer (some ⟨gq, 0, none⟩), .slice a n c] w fun e w' => e = .returned (.int .i64 (putJ j m rs).1) ∧ ∃ OM', DJ W gq gm (putJ j m rs).2.1 (putJ j m rs).2.2 OM' w' ∧ Asd OM OM' w w' := by
  obtain ⟨v, us, E, h0, rfl⟩ := h
  by_cases hd : j.dead = true
  · exact ref7_put_dead a n c hs hn hl hin hm hnum h0 hd
  by_cases ho : okRs rs
  · by_cases he : rs = []
    · exact ref7_put_nil a n c hs hn hl hin hm hnum h0 hd he
    · have h6 : (appM m (allF rs)).1 = 6 ∨ (appM m (allF rs)).1 = 7 ∨ (appM m (allF rs)).1 = 0 := by
        unfold appM
        split
        · exact .inl rfl
        · split
          · exact .inr (.inr rfl)
          · rcases stepM_two m with q | q
            · exact .inr (.inr q)
            · exact .inr (.inl q)
      rcases h6 with h6 | h6 | h6
      · exact ref7_put_full a n c hs hn hl hin hm hnum h0 hd ho he h6
      · exact ref7_put_pow a n c hs hn hl hin hm hnum h0 hd ho he h6
      · have h8 : (syncM (appM m (allF rs)).2).1 = 0 ∨ (syncM (appM m (allF rs)).2).1 = 7 := by
          unfold syncM
          split
          · exact .inl rfl
          · exact stepM_two _
        rcases h8 with h8 | h8
        · exact ref7_put_ok a n c hs hn hl hin hm hnum h0 hd ho he h6 h8
        · exact ref7_put_sp a n c hs hn hl hin hm hnum h0 hd ho he h6 h8
  · exact ref7_put_bad a n c hs hn hl hin hm hnum h0 hd ho
theorem comp7_any (a : Option Addr) (n c : Nat) (hs : SlBB (.slice a n c) rs W) (hn : rs.length = n) (hl : n ≤ 100) (hin : ∀ r ∈ rs, InB r ∧ r.length ≤ 100000) (hm : Mok m) (hnum : j.rows.length ≤ 100000) (h : DJ W gq gm j m OM w) :
    Calls Tryd.prog 40 #[.pointer (some ⟨gq, 0, none⟩), .slice a n c] w fun e w' => e = .returned (.int .i64 (compJ j m rs).1) ∧ ∃ OM', DJ W gq gm (compJ j m rs).2.1 (compJ j m rs).2.2 OM' w' ∧ Asd OM OM' w w' := by
  obtain ⟨v, us, E, h0, rfl⟩ := h
  by_cases hd : j.dead = true
  · exact ref7_comp_dead a n c hs hn hl hin hm hnum h0 hd
  by_cases ho : okRs rs
  · have h6 : (swapM m (allF rs)).1 = 6 ∨ (swapM m (allF rs)).1 = 7 ∨ (swapM m (allF rs)).1 = 0 := by
      unfold swapM
      split
      · exact .inl rfl
      · split
        · exact .inr (.inr rfl)
        · rcases stepM_two m with q | q
          · exact .inr (.inr q)
          · exact .inr (.inl q)
    rcases h6 with h6 | h6 | h6
    · exact ref7_comp_full a n c hs hn hl hin hm hnum h0 hd ho h6
    · exact ref7_comp_pow a n c hs hn hl hin hm hnum h0 hd ho h6
    · exact ref7_comp_ok a n c hs hn hl hin hm hnum h0 hd ho h6
  · exact ref7_comp_bad a n c hs hn hl hin hm hnum h0 hd ho

/-- the document's journal that is opened on its tape -/
theorem dj_open (hk : Kp W w) (hW : Kp W w4) (hmo : MoC gm m w4) (hgW : W.heap.size ≤ gm) (hgl : gm < w.heap.size) {us : List Value} (hs : w.heap.size ≤ w4.heap.size) (hown : w4.ownsRow w.heap.size 46 1 v rs.length us) (hval : ValE E us rs w4) (hE : ∀ b, E b → w.heap.size ≤ b ∧ b < w4.heap.size ∧ v.ownBlock ≠ some b) :
    DJ W w4.heap.size gm ⟨rs, false⟩ m (Om w4.heap.size gm v E) (w4.alloc (.cells #[.pointer (some ⟨gm, 0, none⟩), v, .bool false] 50 (0, 0))) := by
  have k := kp_alloc w4 (.cells #[.pointer (some ⟨gm, 0, none⟩), v, .bool false] 50 (0, 0))
  have hws := Below.size hk
  refine ⟨v, us, E, ⟨⟨(MapKept.heap_alloc w4 _).1, own_mono (own_kp hown k) hws, (hval.to (fun b hb => Below.block k b (hE b hb).2.1)).mono (fun b hb => .inr hb), fun b hb => ?_, fun q => ?_, Nat.le_trans hws hs⟩, kp_row k hmo, ?_, hgW, Kp.trans hW k⟩, rfl⟩
  · have h1 := hE b hb
    exact ⟨by omega, Nat.lt_of_lt_of_le h1.2.1 (Below.size k), h1.2.2, by omega⟩
  · have := own_lt2 hown q; omega
  · rintro (q | q | q)
    · omega
    · have := own_blk hown q; omega
    · have := (hE gm q).1; omega

/-- []byte(s) -/
theorem conv_bytes (w : World) (bs : List Int) (hb : InB bs) : ∃ cp w', (convert 9 46 (.string (strOfNums bs))).run Tryd.prog w = .ok (.slice (some ⟨w.heap.size, 0, none⟩) bs.length cp) w' ∧ bs.length ≤ cp ∧ SlB (.slice (some ⟨w.heap.size, 0, none⟩) bs.length cp) bs w' ∧ Kp w w' := by
  refine ⟨grownCap w (strOfNums bs).size 0 5, Lib.bytesWorld w 5 (strOfNums bs), ?_, ?_, ?_, ?_⟩
  · rw [Lib.run_convert_string_bytes w 9 46 5 (strOfNums bs) Tryd.underlying9 Tryd.underlying46 Tryd.underlying5, strOfNums_size]
  · have := grownCap_ge w (strOfNums bs).size 0 5
    rwa [strOfNums_size] at this ⊢
  · by_cases h0 : bs = []
    · subst h0
      exact .inl ⟨rfl, _, _, rfl, fun e => by cases e⟩
    · have hp : 0 < bs.length := by rcases bs with _ | _ <;> simp at h0 ⊢
      refine .inr ⟨w.heap.size, 0, _, hp, rfl, fun j hj => ?_⟩
      rw [Nat.zero_add, Lib.bytesWorld_cell w _ _ j (by rw [strOfNums_size]; exact hj), strOfNums_data]
      have hx := hb bs[j] (List.getElem_mem hj)
      simp [List.getD, hj]
      omega
  · exact ⟨rfl, rfl, rfl, by rw [Lib.bytesWorld_size]; omega, fun b hb => Lib.bytesWorld_at_old w _ _ b hb⟩

theorem dj_open2 (hk : Kp W w) (k3 : Kp w w4) (hgW : W.heap.size ≤ gm) (hgl : gm < w.heap.size) {us : List Value} {base : Nat} (hbase : w.heap.size ≤ base) (hown : w4.ownsRow base 46 1 v rs.length us) (hval : ValE E us rs w4) (hE : ∀ b, E b → base ≤ b ∧ b < w4.heap.size ∧ v.ownBlock ≠ some b) (hmo : MoC gm m w5) (hon : On gm w4 w5) :
    DJ W w5.heap.size gm ⟨rs, false⟩ m (Om w5.heap.size gm v E) (w5.alloc (.cells #[.pointer (some ⟨gm, 0, none⟩), v, .bool false] 50 (0, 0))) ∧ (∀ b, Om w5.heap.size gm v E b → b = gm ∨ w.heap.size ≤ b) ∧ Asd (fun b => b = gm) (Om w5.heap.size gm v E) w (w5.alloc (.cells #[.pointer (some ⟨gm, 0, none⟩), v, .bool false] 50 (0, 0))) := by
  have k4 : Kp W w4 := Kp.trans hk k3
  have k5 : Kp W w5 := hon.kp k4 (fun b hb => by rw [hb]; exact hgW)
  have hs3 := Below.size k3
  have hge : ∀ b, v.ownBlock = some b → base ≤ b ∧ b < w4.heap.size := fun b hb => ⟨own_blk hown hb, own_lt2 hown hb⟩
  have hown5 := own_stay2 (w' := w5) hown (fun b hb => hon.block b (hge b hb).2 (fun q => by have := (hge b hb).1; have q2 : b = gm := q; omega))
  have hval5 := hval.to (w' := w5) (fun b hb => hon.block b (hE b hb).2.1 (fun q => by have := (hE b hb).1; have q2 : b = gm := q; omega))
  have hfar : ∀ b, Om w5.heap.size gm v E b → b = gm ∨ w.heap.size ≤ b := fun b hb => by
    rcases hb with q | q | q | q
    · exact .inl q
    · have := hon.size; right; omega
    · have := (hge b q).1; right; omega
    · have := (hE b q).1; right; omega
  refine ⟨dj_open hk k5 hmo hgW hgl (Nat.le_trans hs3 hon.size) (own_mono hown5 hbase) hval5 (fun b hb => ?_), hfar, ⟨hon.os.trans k3.os, hon.tape.trans k3.tape, hon.output.trans k3.output, ?_, fun b hb hn => ?_, fun b hb => ?_⟩⟩
  · have h1 := hE b hb
    exact ⟨by omega, Nat.lt_of_lt_of_le h1.2.1 hon.size, h1.2.2⟩
  · have h1 := hon.size; have h2 := Below.size (kp_alloc w5 (.cells #[.pointer (some ⟨gm, 0, none⟩), v, .bool false] 50 (0, 0))); omega
  · rw [Below.block (kp_alloc w5 _) b (Nat.lt_of_lt_of_le hb (Nat.le_trans hs3 hon.size)), hon.block b (Nat.lt_of_lt_of_le hb hs3) hn]
    exact Below.block k3 b hb
  · exact hfar b hb

set_option maxRecDepth 100000 in
set_option maxHeartbeats 4000000 in
theorem open7_any (hm : Mok m) (h0 : (openJ m).1 = 0) (hk : Kp W w) (hmo : MoC gm m w) (hgW : W.heap.size ≤ gm) :
    Calls Tryd.prog 12 #[.pointer (some ⟨gm, 0, none⟩)] w fun e w' => ∃ gq OM, e = .returned (.tuple #[.pointer (some ⟨gq, 0, none⟩), .int .i64 0]) ∧ DJ W gq gm (opened m) (openJ m).2 OM w' ∧ (∀ b, OM b → b = gm ∨ w.heap.size ≤ b) ∧ Asd (fun b => b = gm) OM w w' := by
  have c0 := hmo.c0
  have c1 := hmo.c1
  have hln := hm.len
  have hin : InB m.all := hm.bs.app hm.bt
  have hal : m.all.length ≤ 65536 := by unfold TM.all; rw [List.length_append]; exact hln
  have hc := cutN_le m
  obtain ⟨sv, hsv⟩ : ∃ x, strOfNums m.sure = x := ⟨_, rfl⟩
  obtain ⟨tv, htv⟩ : ∃ x, strOfNums m.tail = x := ⟨_, rfl⟩
  obtain ⟨av, hav⟩ : ∃ x, strOfNums m.all = x := ⟨_, rfl⟩
  have HCT := Lib.hid (show sv ++ tv = av by rw [← hsv, ← htv, ← hav, TM.all, s6_append])
  have HSZ := Lib.hid (show ¬ 9223372036854775807 < sv.size + tv.size by rw [← hsv, ← htv, strOfNums_size, strOfNums_size]; omega)
  obtain ⟨al, hal2⟩ : ∃ x, m.all.length = x := ⟨_, rfl⟩
  obtain ⟨ll, hll⟩ : ∃ x : Int, (al : Int) = x := ⟨_, rfl⟩
  have avs : (av.size : Int) = ll := by rw [← hav, strOfNums_size, hal2, hll]
  rw [hsv] at c0
  rw [htv] at c1
  obtain ⟨cp, w2, hcv, hcp, hsl, hk2⟩ := conv_bytes w.drew m.all hin
  rw [hav, hal2] at hcv
  rw [hal2] at hcp hsl hal hc
  have HK2 := Lib.hid (show Kp w w2 from Kp.trans (Kp.refl w).drew hk2)
  have hsl2 : SlB (.slice (some ⟨w.heap.size, 0, none⟩) al cp) m.all w2 := hsl
  have HRE := read7_any (some ⟨w.heap.size, 0, none⟩) al cp m.all hal2 hcp (by omega) hin w2 hsl2
  have hgl : gm < w.heap.size := old_of_row hmo
  have HGL := Lib.hid hgl
  have HZ2 := Lib.hid (Below.size (show Kp w w2 from Kp.trans (Kp.refl w).drew hk2))
  obtain ⟨cn, hcn⟩ : ∃ x, cutN m = x := ⟨_, rfl⟩
  have hcn2 : ((allF (rdR m.all)).length : Int) = cn := hcn
  rw [hcn2] at HRE
  rw [hcn] at hc
  have HRE := Lib.hid HRE
  have HKW := Lib.hid hk
  have HMO := Lib.hid hmo
  have HGW := Lib.hid hgW
  have HOPN := Lib.hid (show opened m = ⟨rdR m.all, false⟩ from rfl)
  by_cases hlt : cn < ll
  · have e : openJ m = cutsM m cn := by unfold openJ; rw [hcn, hal2, hll, if_pos hlt]
    have HCU := fun w3 (q : MoC gm m w3) => ref6_cut gm m hm cn w3 q
    have hn0 : (cutsM m cn).1 = 0 := by rw [← e]; exact h0
    simp only [hn0] at HCU
    have HCU := Lib.hid HCU
    rw [e]
    clear hm h0 hk hmo hgW hln hin hal hsv htv hav hcp hsl hsl2 hgl hk2 hcn hcn2 hal2 e hn0 hc
    go_enter Tryd.func12, Tryd.ntmps12
    go_wp2
    refine wp_region_held_drew (S := fun w' => w'.cell? ⟨gm, 0, none⟩ = some (.string sv) ∧ w'.cell? ⟨gm, 1, none⟩ = some (.string tv)) (by kernel_rfl) ?_ (fun hHeld => ?_)
    · exact ⟨c0, c1⟩
    refine wpAnyH_take (i := 0) (v := ?_) rfl (by kernel_rfl) (by kernel_rfl) (by kernel_rfl) (fun _ _ _ h => h) (Or.inl ⟨by rfl, ?_⟩) (by assumption) ?_
    rotate_left
    · intro w hSw; go_simp; try with_reducible rfl
    go_simp
    refine wpAnyH_take (i := 1) (v := ?_) rfl (by kernel_rfl) (by kernel_rfl) (by kernel_rfl) (fun _ _ _ h => h) (Or.inl ⟨by rfl, ?_⟩) (by assumption) ?_
    rotate_left
    · intro w hSw; go_simp; try with_reducible rfl
    go_simp
    refine wpAnyH_take (i := 2) (v := ?_) rfl (by kernel_rfl) (by kernel_rfl) (by kernel_rfl) (fun _ _ _ h => h) (Or.inl ⟨by rfl, ?_⟩) (by assumption) ?_
    rotate_left
    · intro w hSw; go_simp; try with_reducible rfl
    go_simp
    refine wpAnyH_take (i := 3) (v := ?_) rfl (by kernel_rfl) (by kernel_rfl) (by kernel_rfl) (fun _ _ _ h => h) (Or.inl ⟨by rfl, ?_⟩) (by assumption) ?_
    rotate_left
    · intro w hSw; have q := hSw.1; go_simp; try with_reducible rfl
    go_simp
    refine wpAnyH_take (i := 4) (v := ?_) rfl (by kernel_rfl) (by kernel_rfl) (by kernel_rfl) (fun _ _ _ h => h) (Or.inl ⟨by rfl, ?_⟩) (by assumption) ?_
    rotate_left
    · intro w hSw; go_simp; try with_reducible rfl
    go_simp
    refine wpAnyH_take (i := 5) (v := ?_) rfl (by kernel_rfl) (by kernel_rfl) (by kernel_rfl) (fun _ _ _ h => h) (Or.inl ⟨by rfl, ?_⟩) (by assumption) ?_
    rotate_left
    · intro w hSw; go_simp; try with_reducible rfl
    go_simp
    refine wpAnyH_take (i := 6) (v := ?_) rfl (by kernel_rfl) (by kernel_rfl) (by kernel_rfl) (fun _ _ _ h => h) (Or.inl ⟨by rfl, ?_⟩) (by assumption) ?_
    rotate_left
    · intro w hSw; go_simp; try with_reducible rfl
    go_simp
    refine wpAnyH_take (i := 7) (v := ?_) rfl (by kernel_rfl) (by kernel_rfl) (by kernel_rfl) (fun _ _ _ h => h) (Or.inl ⟨by rfl, ?_⟩) (by assumption) ?_
    rotate_left
    · intro w hSw; have q := hSw.2; go_simp; try with_reducible rfl
    go_simp
    refine wpAnyH_take (i := 8) (v := ?_) rfl (by kernel_rfl) (by kernel_rfl) (by kernel_rfl) (fun _ _ _ h => h) (Or.inl ⟨by rfl, ?_⟩) (by assumption) ?_
    rotate_left
    · intro w hSw; go_simp; rw [if_neg HSZ.out, HCT.out]
    go_simp
    refine wpAnyH_take (i := 9) (v := ?_) rfl (by kernel_rfl) (by kernel_rfl) (by kernel_rfl) (fun _ _ _ h => h) (Or.inl ⟨by rfl, ?_⟩) (by assumption) ?_
    rotate_left
    · intro w hSw; go_simp; try with_reducible rfl
    go_simp
    refine wpAnyH_done (by kernel_rfl) ?_ _
    go_wp2_with (first
      | (go_at_call 27; (with_reducible refine HRE.out.mono ?_); rintro e w3 ⟨v3, us, E, rfl, hown, hval, hE, hk⟩; have K3 := Lib.hid (Kp.trans HK2.out hk); have OW := Lib.hid hown; have VE := Lib.hid hval; have HE := Lib.hid hE; have MO := Lib.hid (show MoC gm m w3 from kp_row K3.out HMO.out); have HV : ∃ a3 n3 c3, v3 = .slice a3 n3 c3 := (by rcases hown.2 with ⟨rfl, q⟩ | ⟨gb, cap, cur, rfl, _⟩; exact ⟨none, 0, 0, rfl⟩; exact ⟨_, _, _, rfl⟩); obtain ⟨a3, n3, c3, rfl⟩ := HV; clear hown hval hE hk)
      | (go_at_call 38; (with_reducible refine (HCU.out _ MO.out).mono ?_); rintro e w4 ⟨rfl, hmo, hon⟩; have MO4 := Lib.hid hmo; have ON := Lib.hid hon; clear hmo hon))
    go_ret2
    obtain ⟨f1, f2, f3⟩ := dj_open2 HKW.out K3.out HGW.out HGL.out HZ2.out OW.out VE.out HE.out MO4.out ON.out
    rw [HOPN.out]
    first | exact ⟨_, _, rfl, f1, f2, f3⟩ | exact ⟨_, _, ⟨rfl, rfl⟩, f1, f2, f3⟩
  · have e : openJ m = (0, m) := by unfold openJ; rw [hcn, hal2, hll, if_neg hlt]
    rw [e]
    clear hm h0 hk hmo hgW hln hin hal hsv htv hav hcp hsl hsl2 hgl hk2 hcn hcn2 hal2 e hc
    go_enter Tryd.func12, Tryd.ntmps12
    go_wp2
    refine wp_region_held_drew (S := fun w' => w'.cell? ⟨gm, 0, none⟩ = some (.string sv) ∧ w'.cell? ⟨gm, 1, none⟩ = some (.string tv)) (by kernel_rfl) ?_ (fun hHeld => ?_)
    · exact ⟨c0, c1⟩
    refine wpAnyH_take (i := 0) (v := ?_) rfl (by kernel_rfl) (by kernel_rfl) (by kernel_rfl) (fun _ _ _ h => h) (Or.inl ⟨by rfl, ?_⟩) (by assumption) ?_
    rotate_left
    · intro w hSw; go_simp; try with_reducible rfl
    go_simp
    refine wpAnyH_take (i := 1) (v := ?_) rfl (by kernel_rfl) (by kernel_rfl) (by kernel_rfl) (fun _ _ _ h => h) (Or.inl ⟨by rfl, ?_⟩) (by assumption) ?_
    rotate_left
    · intro w hSw; go_simp; try with_reducible rfl
    go_simp
    refine wpAnyH_take (i := 2) (v := ?_) rfl (by kernel_rfl) (by kernel_rfl) (by kernel_rfl) (fun _ _ _ h => h) (Or.inl ⟨by rfl, ?_⟩) (by assumption) ?_
    rotate_left
    · intro w hSw; go_simp; try with_reducible rfl
    go_simp
    refine wpAnyH_take (i := 3) (v := ?_) rfl (by kernel_rfl) (by kernel_rfl) (by kernel_rfl) (fun _ _ _ h => h) (Or.inl ⟨by rfl, ?_⟩) (by assumption) ?_
    rotate_left
    · intro w hSw; have q := hSw.1; go_simp; try with_reducible rfl
    go_simp
    refine wpAnyH_take (i := 4) (v := ?_) rfl (by kernel_rfl) (by kernel_rfl) (by kernel_rfl) (fun _ _ _ h => h) (Or.inl ⟨by rfl, ?_⟩) (by assumption) ?_
    rotate_left
    · intro w hSw; go_simp; try with_reducible rfl
    go_simp
    refine wpAnyH_take (i := 5) (v := ?_) rfl (by kernel_rfl) (by kernel_rfl) (by kernel_rfl) (fun _ _ _ h => h) (Or.inl ⟨by rfl, ?_⟩) (by assumption) ?_
    rotate_left
    · intro w hSw; go_simp; try with_reducible rfl
    go_simp
    refine wpAnyH_take (i := 6) (v := ?_) rfl (by kernel_rfl) (by kernel_rfl) (by kernel_rfl) (fun _ _ _ h => h) (Or.inl ⟨by rfl, ?_⟩) (by assumption) ?_
    rotate_left
    · intro w hSw; go_simp; try with_reducible rfl
    go_simp
    refine wpAnyH_take (i := 7) (v := ?_) rfl (by kernel_rfl) (by kernel_rfl) (by kernel_rfl) (fun _ _ _ h => h) (Or.inl ⟨by rfl, ?_⟩) (by assumption) ?_
    rotate_left
    · intro w hSw; have q := hSw.2; go_simp; try with_reducible rfl
    go_simp
    refine wpAnyH_take (i := 8) (v := ?_) rfl (by kernel_rfl) (by kernel_rfl) (by kernel_rfl) (fun _ _ _ h => h) (Or.inl ⟨by rfl, ?_⟩) (by assumption) ?_
    rotate_left
    · intro w hSw; go_simp; rw [if_neg HSZ.out, HCT.out]
    go_simp
    refine wpAnyH_take (i := 9) (v := ?_) rfl (by kernel_rfl) (by kernel_rfl) (by kernel_rfl) (fun _ _ _ h => h) (Or.inl ⟨by rfl, ?_⟩) (by assumption) ?_
    rotate_left
    · intro w hSw; go_simp; try with_reducible rfl
    go_simp
    refine wpAnyH_done (by kernel_rfl) ?_ _
    go_wp2_with (go_at_call 27; (with_reducible refine HRE.out.mono ?_); rintro e w3 ⟨v3, us, E, rfl, hown, hval, hE, hk⟩; have K3 := Lib.hid (Kp.trans HK2.out hk); have OW := Lib.hid hown; have VE := Lib.hid hval; have HE := Lib.hid hE; have MO := Lib.hid (show MoC gm m w3 from kp_row K3.out HMO.out); have HV : ∃ a3 n3 c3, v3 = .slice a3 n3 c3 := (by rcases hown.2 with ⟨rfl, q⟩ | ⟨gb, cap, cur, rfl, _⟩; exact ⟨none, 0, 0, rfl⟩; exact ⟨_, _, _, rfl⟩); obtain ⟨a3, n3, c3, rfl⟩ := HV; clear hown hval hE hk)
    go_ret2
    obtain ⟨f1, f2, f3⟩ := dj_open2 HKW.out K3.out HGW.out HGL.out HZ2.out OW.out VE.out HE.out MO.out (On.refl gm w3)
    rw [HOPN.out]
    first | exact ⟨_, _, rfl, f1, f2, f3⟩ | exact ⟨_, _, ⟨rfl, rfl⟩, f1, f2, f3⟩
end Go.Proofs.YtpehmkglkjlmfaaDoor
