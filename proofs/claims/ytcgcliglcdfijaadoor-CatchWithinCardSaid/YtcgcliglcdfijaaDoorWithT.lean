/-
  CatchWithin's OUTER ACTS (own work): each does a list of acts and counts how many panic.
-/
import Derived.Test.YtcgcliglcdfijaaDoorCallV
import Derived.Test.YtcgcliglcdfijaaDoorSlS
namespace Go.Proofs.YtcgcliglcdfijaaDoor
open Go.RowKit Go.Extern.Stop Go.Stop Go.Extern Go.ChangeShapes Go.WideShapes

/-- ALL BLOCKS BUT p AND q ARE AS THEY WERE. -/
structure Kb (p q : Nat) (w w' : World) : Prop where
  os : w'.os = w.os
  tape : w'.tape = w.tape
  output : w'.output = w.output
  size : w.heap.size ≤ w'.heap.size
  block : ∀ k, k < w.heap.size → k ≠ p → k ≠ q → w'.heap[k]? = w.heap[k]?

theorem Kb.of_kp {p q : Nat} {w w' : World} (h : Kp w w') : Kb p q w w' := ⟨h.os, h.tape, h.output, h.size, fun k hk _ _ => h.block k hk⟩
theorem Kb.trans {p q : Nat} {a b c : World} (h : Kb p q a b) (k : Kb p q b c) : Kb p q a c :=
  ⟨k.os.trans h.os, k.tape.trans h.tape, k.output.trans h.output, Nat.le_trans h.size k.size, fun i hi h1 h2 => (k.block i (Nat.lt_of_lt_of_le hi h.size) h1 h2).trans (h.block i hi h1 h2)⟩
theorem Kb.of_dw {p : Addr} {q : Nat} {c : Int} {w w' : World} (h : DW p c w w') : Kb p.block q w w' :=
  have hb : Below (w.setCell p (.int .i64 (wrap64 (c + 1)))).heap.size (w.setCell p (.int .i64 (wrap64 (c + 1)))) w' := h
  ⟨hb.os, hb.tape, hb.output, dw_size h, fun k hk h1 _ => by rw [Below.block h k (by rw [setCell_at]; exact hk)]; exact Below.heap_setCell _ _ _ _ h1⟩
theorem Kb.setCell {p q : Nat} {w w' : World} (h : Kb p q w w') (v : Value) : Kb p q w (w'.setCell ⟨q, 0, none⟩ v) :=
  ⟨h.os, h.tape, h.output, by rw [setCell_at]; exact h.size, fun k hk h1 h2 => by rw [Below.heap_setCell _ _ _ _ h2]; exact h.block k hk h1 h2⟩
theorem Kb.weak {p q : Nat} {w w' : World} (h : Kb p p w w') : Kb p q w w' := ⟨h.os, h.tape, h.output, h.size, fun k hk h1 _ => h.block k hk h1 h1⟩
theorem Kb.below {p q B : Nat} {w w' : World} (h : Kb p q w w') (hp : B ≤ p) (hq : B ≤ q) (hB : B ≤ w.heap.size) : Below B w w' :=
  ⟨h.os, h.tape, h.output, h.size, fun k hk => h.block k (by omega) (by omega) (by omega)⟩
theorem Kb.past {p q B : Nat} {w w' : World} (h : Kb p q w w') (hp : p < B) (hq : q < B) : Past B w w' := ⟨h.size, fun k hk hl => h.block k hl (by omega) (by omega)⟩
theorem Kb.cell {p q : Nat} {w w' : World} {a : Addr} {v : Value} (h : Kb p q w w') (h1 : a.block ≠ p) (h2 : a.block ≠ q) (hc : w.cell? a = some v) : w'.cell? a = some v := by
  rw [← hc]; exact World.cell?_of_block (h.block _ (old_of_cell hc) h1 h2)
theorem Kb.frozen {p q : Nat} {w w' : World} {a : Addr} {v : Value} (h : Kb p q w w') (h1 : a.block ≠ p) (h2 : a.block ≠ q) (hc : w.cell? a = some v) (hz : w.frozen? a = false) : w'.frozen? a = false := by
  rw [← hz]; exact World.frozen?_of_block (h.block _ (old_of_cell hc) h1 h2)

/-- catch.All over acts, and what it turns. -/
theorem all_acts2 (ads : List Addr) (s : Addr) (W0 : World) (pc : Addr) (q : Nat) (hp : W0.heap.size ≤ pc.block) (ns : List Nat) (hn21 : ∀ n ∈ ns, n ≤ 21) (hl : ns.length ≤ 1000) (v : Value) (xs : List Value) (hlen : xs.length = ns.length) (w : World) (hs : SlV v xs w) (hI : CInv ads s W0 pc ns xs w) :
    Calls Tryd.prog 14 #[v] w fun e w' => e = .returned (.tuple #[.int .i64 (cnt (ns.map num)), errV ads (fst1 (ns.map num))]) ∧ CInv ads s W0 pc ns xs w' ∧ Kb pc.block q w w' := by
  have hpc : pc.block < w.heap.size := by obtain ⟨c, hc⟩ := hI.2.1; exact old_of_cell hc
  refine (all_any ads hI.stb.st.len v xs w hs (by omega) (act_shape hlen.symm hI.2.2.2) (ns.map num) (by simp [hlen]) ?_ (fun _ w1 => CInv ads s W0 pc ns xs w1 ∧ Kb pc.block q w w1) (fun w1 h1 => ⟨hI.kp h1, Kb.of_kp h1⟩) ?_).mono ?_
  · intro k hk
    obtain ⟨n, _, rfl⟩ := List.mem_map.1 hk
    exact num_le n
  · intro j h h' w1 hsz hJ
    have hj : j < ns.length := by omega
    obtain ⟨hI', hK⟩ := hJ
    have V := hI'.stb
    have hI2 := hI'
    obtain ⟨-, ⟨c, hc⟩, hz, ha⟩ := hI'
    have hav := ha j ns[j] xs[j] (List.getElem?_eq_getElem hj) (List.getElem?_eq_getElem h)
    refine (run_act ads s W0.heap.size w1 V pc hp ns[j] (hn21 _ (List.getElem_mem _)) c xs[j] hav hc hz).mono ?_
    rintro e w' ⟨he, hw⟩
    refine ⟨by rw [he, List.getElem_map], ?_, ?_⟩
    · rcases hw with hw | hw
      · exact ⟨hI2.kp hw, hK.trans (Kb.of_kp hw)⟩
      · exact ⟨hI2.dw hp hw, hK.trans (Kb.of_dw hw)⟩
    · rcases hw with hw | hw
      · exact Past.of_kp hw
      · exact dw_past hw hpc
  · rintro e w' ⟨he, hi, _⟩
    exact ⟨he, hi⟩

/-- THE OUTER ACT of a list: it counts in the box q how many of its acts panic. -/
theorem within_do (ads : List Addr) (s : Addr) (W0 : World) (V0 : St ads (some s) W0) (p q kb : Nat) (hp : W0.heap.size ≤ p) (hpq : p < q) (ns : List Nat) (len : Nat) (hlen : ns.length = len) (hl : len ≤ 100) (hn21 : ∀ n ∈ ns, n ≤ 21) (a : Option Addr) (cap : Nat)
    (w : World) (hK : Below W0.heap.size W0 w) (ck : w.cell? ⟨kb, 0, none⟩ = some (.slice a len cap)) (hs : SlI (.slice a len cap) (ns.map fun (n : Nat) => (n : Int)) w)
    (c m : Int) (cp : w.cell? ⟨p, 0, none⟩ = some (.int .i64 c)) (zp : w.frozen? ⟨p, 0, none⟩ = false) (cq : w.cell? ⟨q, 0, none⟩ = some (.int .i64 m)) (zq : w.frozen? ⟨q, 0, none⟩ = false) :
    Calls Tryd.prog 27 #[.pointer (some ⟨kb, 0, none⟩), .pointer (some ⟨p, 0, none⟩), .pointer (some ⟨q, 0, none⟩)] w fun e w' => e = .returned (.tuple #[]) ∧
      Kb p q w w' ∧ (∃ c', w'.cell? ⟨p, 0, none⟩ = some (.int .i64 c')) ∧ w'.frozen? ⟨p, 0, none⟩ = false ∧ w'.cell? ⟨q, 0, none⟩ = some (.int .i64 (wrap64 (m + cnt (ns.map num)))) ∧ w'.frozen? ⟨q, 0, none⟩ = false := by
  have HACT := Lib.hid (acts_any a cap ns len hlen (by omega) w ⟨p, 0, none⟩ (old_of_cell cp) hs)
  obtain ⟨nn, hnn⟩ : ∃ nn : Int, ((cnt (ns.map num) : Nat) : Int) = nn := ⟨_, rfl⟩
  obtain ⟨r, hr⟩ : ∃ r, errV ads (fst1 (ns.map num)) = r := ⟨_, rfl⟩
  have hag : ∀ cs, r ≠ .agg cs := by rw [← hr]; exact errV_shape ads _
  have ALLC : ∀ v xs w0, xs.length = len → SlV v xs w0 → CInv ads s W0 ⟨p, 0, none⟩ ns xs w0 → Calls Tryd.prog 14 #[v] w0 fun e w' => e = .returned (.tuple #[.int .i64 nn, r]) ∧ CInv ads s W0 ⟨p, 0, none⟩ ns xs w' ∧ Kb p p w0 w' := by
    intro v xs w0 hx hs hI
    rw [← hnn, ← hr]
    exact all_acts2 ads s W0 _ p hp ns hn21 (by omega) v xs (by omega) w0 hs hI
  rw [hnn]
  have HALL := Lib.hid ALLC
  have HV0 := Lib.hid V0
  have HK := Lib.hid hK
  have HCP := Lib.hid cp
  have HZP := Lib.hid zp
  have HCQ := Lib.hid cq
  have HZQ := Lib.hid zq
  have hqp : q ≠ p := by omega
  clear ALLC V0 hK hnn hr hs cp zp cq zq hn21 hlen
  go_enter Tryd.func27, Tryd.ntmps27
  go_wp2_with (go_at_call 15; (with_reducible refine HACT.out.mono ?_); rintro e w5 ⟨v5, xs5, rfl, hs5, hx5, ha5, hk5⟩)
  have I5 : CInv ads s W0 ⟨p, 0, none⟩ ns xs5 w5 := ⟨⟨HV0.out, Below.trans HK.out (Below.mono hk5 (Below.size HK.out))⟩, ⟨c, kp_cell hk5 HCP.out⟩, kp_frozen hk5 HCP.out HZP.out, ha5⟩
  with_reducible refine (HALL.out v5 xs5 w5 hx5 hs5 I5).mono ?_
  rintro e w6 ⟨rfl, I6, K6⟩
  have c6 := K6.cell (a := ⟨q, 0, none⟩) hqp hqp (kp_cell hk5 HCQ.out)
  have z6 := K6.frozen (a := ⟨q, 0, none⟩) hqp hqp (kp_cell hk5 HCQ.out) (kp_frozen hk5 HCQ.out HZQ.out)
  have HI6 := Lib.hid I6
  have HK6 := Lib.hid K6
  have HK5 := Lib.hid hk5
  clear I6 K6 hk5 I5 hs5 ha5
  go_wp2
  go_end0
  obtain ⟨c', hc'⟩ := HI6.out.2.1
  refine ⟨rfl, ((Kb.of_kp HK5.out).trans HK6.out.weak).setCell _, ⟨c', ?_⟩, ?_, by simp [go_sem, c6], ?_⟩
  · rw [← hc']
    exact World.cell?_of_block (Below.heap_setCell _ _ _ _ (show p ≠ q by omega))
  · rw [World.frozen?_setCell]; exact HI6.out.2.2.1
  · rw [World.frozen?_setCell]; exact z6

/-! ### the outer acts, one by one -/
def cw (bs : List Int) : Nat := cnt ((bs.map (kz 22)).map num)
def wsum (bss : List (List Int)) : Nat := bss.foldl (fun a bs => a + cw bs) 0
theorem wsum_next {bss : List (List Int)} {j : Nat} (h : j < bss.length) : wsum (bss.take (j + 1)) = wsum (bss.take j) + cw bss[j] := by
  rw [List.take_add_one, List.getElem?_eq_getElem h]
  unfold wsum
  rw [List.foldl_append]
  rfl
theorem cnt_full (ks : List Nat) : cnt ks ≤ ks.length := by
  have := cnt_le ks ks.length (Nat.le_refl _)
  rwa [List.take_length] at this
theorem cw_le (bs : List Int) : cw bs ≤ bs.length := by
  have := cnt_full ((bs.map (kz 22)).map num)
  simpa [cw] using this
theorem wsum_le (bss : List (List Int)) (h20 : ∀ bs ∈ bss, bs.length ≤ 20) : ∀ j, j ≤ bss.length → wsum (bss.take j) ≤ 20 * j
  | 0, _ => by simp [wsum]
  | j + 1, h => by
    rw [wsum_next (by omega)]
    have h1 := wsum_le bss h20 j (by omega)
    have h2 := cw_le bss[j]
    have h3 := h20 bss[j] (List.getElem_mem _)
    omega

/-- THE VALUE v IS THE OUTER ACT of the list bs. -/
def ActW (w : World) (B p q : Nat) (bs : List Int) (v : Value) : Prop :=
  ∃ kb kv, v = .func (.func 27) #[] #[.pointer (some ⟨kb, 0, none⟩), .pointer (some ⟨p, 0, none⟩), .pointer (some ⟨q, 0, none⟩)] ∧ B ≤ kb ∧ w.heap[kb]? = some (.cells #[kv] 34 (0, 0)) ∧ kv ≠ .slice none 0 0 ∧ w.ownsRow B 3 1 kv bs.length (kindRow 22 bs)

theorem ActW.kp {w w' : World} {B p q : Nat} {bs : List Int} {v : Value} (h : ActW w B p q bs v) (hk : Kp w w') : ActW w' B p q bs v := by
  obtain ⟨kb, kv, h1, h2, h3, h4, h5⟩ := h
  exact ⟨kb, kv, h1, h2, by rw [Below.block hk kb (old_of_row h3)]; exact h3, h4, own_kp h5 hk⟩

theorem ActW.keep {w w' : World} {B p q : Nat} {bs : List Int} {v : Value} (h : ActW w B p q bs v) (keep : ∀ (b : Nat) (c : Array Value) (t : TypeId), B ≤ b → (t = 34 ∨ t = 3) → w.heap[b]? = some (.cells c t (0, 0)) → w'.heap[b]? = some (.cells c t (0, 0))) : ActW w' B p q bs v := by
  obtain ⟨kb, kv, h1, h2, h3, h4, h5, h6⟩ := h
  refine ⟨kb, kv, h1, h2, keep kb _ _ h2 (.inl rfl) h3, h4, h5, ?_⟩
  rcases h6 with h6 | ⟨g, cap, cur, hv, hg, hh, r⟩
  · exact .inl h6
  · exact .inr ⟨g, cap, cur, hv, hg, keep g _ _ hg (.inr rfl) hh, r⟩

theorem ActW.kb {w w' : World} {B p q : Nat} {bs : List Int} {v : Value} (h : ActW w B p q bs v) (hk : Kb p q w w') (hp : p < B) (hq : q < B) : ActW w' B p q bs v :=
  h.keep fun b c t hb _ hw => by rw [hk.block b (old_of_row hw) (by omega) (by omega)]; exact hw

/-- WHAT THE TWO BOXES HOLD. -/
def Box2 (p q : Nat) (m : Int) (w : World) : Prop :=
  (∃ c, w.cell? ⟨p, 0, none⟩ = some (.int .i64 c)) ∧ w.frozen? ⟨p, 0, none⟩ = false ∧ w.cell? ⟨q, 0, none⟩ = some (.int .i64 m) ∧ w.frozen? ⟨q, 0, none⟩ = false
theorem Box2.kp {p q : Nat} {m : Int} {w w' : World} (h : Box2 p q m w) (hk : Kp w w') : Box2 p q m w' := by
  obtain ⟨⟨c, hc⟩, h1, h2, h3⟩ := h
  exact ⟨⟨c, kp_cell hk hc⟩, kp_frozen hk hc h1, kp_cell hk h2, kp_frozen hk h2 h3⟩

theorem within_run (ads : List Addr) (s : Addr) (W0 : World) (V0 : St ads (some s) W0) (B p q : Nat) (hp : W0.heap.size ≤ p) (hpq : p < q) (bs : List Int) (hl : bs.length ≤ 20) (v : Value)
    (w : World) (hK : Below W0.heap.size W0 w) (hv : ActW w B p q bs v) (m : Int) (hb : Box2 p q m w) :
    Calls Tryd.prog 35 #[v] w fun e w' => e = .returned .nilIface ∧ Kb p q w w' ∧ Box2 p q (wrap64 (m + cw bs)) w' := by
  have hv0 := hv
  obtain ⟨kb, kv, rfl, hkb, hrow, hnn, hown⟩ := hv
  have hpl := old_of_cell hb.1.choose_spec
  have hql := old_of_cell hb.2.2.1
  have hpl' : p < w.heap.size := hpl
  have hql' : q < w.heap.size := hql
  have hsl : SlI kv ((bs.map (kz 22)).map fun (n : Nat) => (n : Int)) w := by
    rw [kindRow_sl] at hown
    exact own_sli hown
  obtain ⟨a, cap, hkv⟩ := hsl.form
  have hln : ((bs.map (kz 22)).map fun (n : Nat) => (n : Int)).length = bs.length := by simp
  rw [hln] at hkv
  subst hkv
  have ck : w.cell? ⟨kb, 0, none⟩ = some (.slice a bs.length cap) := by simp [World.cell?, hrow]
  have hn21 : ∀ n ∈ bs.map (kz 22), n ≤ 21 := by
    intro n hn
    obtain ⟨b, _, rfl⟩ := List.mem_map.1 hn
    have := (kz_spec 22 b (by decide) (by decide)).1
    omega
  have H : ∀ w1, Kp w w1 → Calls Tryd.prog 27 #[.pointer (some ⟨kb, 0, none⟩), .pointer (some ⟨p, 0, none⟩), .pointer (some ⟨q, 0, none⟩)] w1 fun e w2 => e = .returned (.tuple #[]) ∧ Past w.heap.size w1 w2 ∧ (Kb p q w1 w2 ∧ Box2 p q (wrap64 (m + cw bs)) w2) := by
    intro w1 h1
    obtain ⟨⟨c, b1⟩, b2, b3, b4⟩ := hb.kp h1
    refine (within_do ads s W0 V0 p q kb hp hpq (bs.map (kz 22)) bs.length (by simp) (by omega) hn21 a cap w1 (Below.trans hK (Below.mono h1 hK.size)) (kp_cell h1 ck) (hsl.kp h1) c m b1 b2 b3 b4).mono ?_
    rintro e w2 ⟨he, k1, k2, k3, k4, k5⟩
    exact ⟨he, k1.past hpl' hql', k1, k2, k3, k4, k5⟩
  refine (run_ret 27 _ w _ (fun w => by simp [go_sem]) H).mono ?_
  rintro e w' ⟨rfl, w1, w2, h1, ⟨k1, ⟨c, k2⟩, k3, k4, k5⟩, h3⟩
  refine ⟨rfl, ⟨(h3.os.trans k1.os).trans h1.os, (h3.tape.trans k1.tape).trans h1.tape, (h3.output.trans k1.output).trans h1.output, Nat.le_trans h1.size (Nat.le_trans k1.size h3.size), fun k hk e1 e2 => ?_⟩, ⟨c, below_cell h3 hpl k2⟩, by rw [Below.frozen h3 hpl]; exact k3, below_cell h3 hql k4, by rw [Below.frozen h3 hql]; exact k5⟩
  rw [h3.block k hk, k1.block k (Nat.lt_of_lt_of_le hk h1.size) e1 e2, h1.block k hk]

theorem cnt_zeros : ∀ n, cnt (List.replicate n 0) = 0
  | 0 => rfl
  | n + 1 => by
    have := cnt_zeros n
    simpa [List.replicate_succ, cnt] using this

/-- catch.All OVER THE OUTER ACTS. -/
theorem within_all (ads : List Addr) (s : Addr) (W0 : World) (V0 : St ads (some s) W0) (B p q : Nat) (hp : W0.heap.size ≤ p) (hpq : p < q) (hqB : q < B) (bss : List (List Int)) (hl : bss.length ≤ 20) (h20 : ∀ bs ∈ bss, bs.length ≤ 20) (v : Value) (xs : List Value) (hlen : xs.length = bss.length)
    (w : World) (hK : Below W0.heap.size W0 w) (hs : SlV v xs w) (hx : ∀ (i : Nat) (bs : List Int) (x : Value), bss[i]? = some bs → xs[i]? = some x → ActW w B p q bs x) (hb : Box2 p q 0 w) :
    Calls Tryd.prog 14 #[v] w fun e w' => e = .returned (.tuple #[.int .i64 0, .nilIface]) ∧ Kb p q w w' ∧ Box2 p q (wsum bss) w' := by
  have hpl : p < w.heap.size := old_of_cell hb.1.choose_spec
  have hql : q < w.heap.size := old_of_cell hb.2.2.1
  have hW0 := hK.size
  refine (all_any ads (V0.len) v xs w hs (by omega) ?_ (List.replicate bss.length 0) (by simp [hlen]) ?_ (fun j w1 => Kb p q w w1 ∧ Box2 p q (wsum (bss.take j)) w1) (fun w1 h1 => ⟨Kb.of_kp h1, hb.kp h1⟩) ?_).mono ?_
  · intro u hu
    obtain ⟨i, hi, rfl⟩ := List.getElem_of_mem hu
    have hi' : i < bss.length := by omega
    obtain ⟨kb, kv, e, _⟩ := hx i bss[i] xs[i] (List.getElem?_eq_getElem hi') (List.getElem?_eq_getElem hi)
    rw [e]
    exact ⟨rfl, fun cs h => by cases h⟩
  · intro k hk
    have := List.eq_of_mem_replicate hk
    omega
  · intro j h h' w1 hsz hJ
    obtain ⟨k1, b1⟩ := hJ
    have hj : j < bss.length := by omega
    have hav := (hx j bss[j] xs[j] (List.getElem?_eq_getElem hj) (List.getElem?_eq_getElem h)).kb k1 (by omega) hqB
    refine (within_run ads s W0 V0 B p q hp hpq bss[j] (h20 _ (List.getElem_mem _)) xs[j] w1 (Below.trans hK (k1.below hp (by omega) hW0)) hav _ b1).mono ?_
    rintro e w' ⟨he, k2, b2⟩
    refine ⟨by rw [he]; simp [errV], ⟨k1.trans k2, ?_⟩, k2.past hpl hql⟩
    have h1 := wsum_le bss h20 j (by omega)
    have h2 := cw_le bss[j]
    have h3 := h20 bss[j] (List.getElem_mem _)
    have e2 : wrap64 ((wsum (bss.take j) : Int) + (cw bss[j] : Int)) = ((wsum (bss.take (j + 1)) : Nat) : Int) := by
      rw [wsum_next hj]
      unfold wrap64
      omega
    rw [← e2]
    exact b2
  · rintro e w' ⟨he, ⟨k1, b1⟩, _⟩
    have hf : fst1 (List.replicate bss.length 0) = 0 := (cnt_fst _).1 (cnt_zeros _)
    rw [cnt_zeros, hf] at he
    rw [hlen, List.take_length] at b1
    exact ⟨he, k1, b1⟩
end Go.Proofs.YtcgcliglcdfijaaDoor
