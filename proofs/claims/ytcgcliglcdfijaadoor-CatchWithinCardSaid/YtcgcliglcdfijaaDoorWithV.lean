/-
  CatchWithin's WALK (own work).
-/
import Derived.Test.YtcgcliglcdfijaaDoorWithT
namespace Go.Proofs.YtcgcliglcdfijaaDoor
open Go.RowKit Go.Extern.Stop Go.Stop Go.Extern Go.ChangeShapes Go.WideShapes

theorem setCell_row0 {w : World} {b : Nat} {u v : Value} {t : TypeId} (h : w.heap[b]? = some (.cells #[u] t (0, 0))) : (w.setCell ⟨b, 0, none⟩ v).heap[b]? = some (.cells #[v] t (0, 0)) := by
  simp only [World.setCell, Array.getElem?_modify, if_true, h, Option.map_some]
  rfl
theorem own_set {w : World} {base n b : Nat} {v u : Value} {xs : List Value} {c : Array Value} (h : w.ownsRow base 3 1 v n xs) (hb : w.heap[b]? = some (.cells c 34 (0, 0))) : (w.setCell ⟨b, 0, none⟩ u).ownsRow base 3 1 v n xs := by
  obtain ⟨h1, h2⟩ := h
  refine ⟨h1, ?_⟩
  rcases h2 with h2 | ⟨g, cap, cur, hv, hg, hh, r⟩
  · exact .inl h2
  · refine .inr ⟨g, cap, cur, hv, hg, ?_, r⟩
    rw [Below.heap_setCell _ _ _ _ ?_]
    · exact hh
    · intro e
      have e' : g = b := e
      subst e'
      rw [hh] at hb
      injection hb with hb
      injection hb with _ h2 _
      exact absurd h2 (by decide)

/-- An append of ints of the call's own turns no block of another type, and none below. -/
theorem ints_grow {w w' : World} {base n : Nat} {v : Value} {xs : List Value} (hown : w.ownsRow base 3 1 v n xs) (hnn : v ≠ .slice none 0 0) (hgr : w.grownBy w' v.ownBlock) (b : Nat) (c : Array Value) (t : TypeId) (hb : w.heap[b]? = some (.cells c t (0, 0))) (ht : t ≠ 3) :
    w'.heap[b]? = some (.cells c t (0, 0)) := by
  obtain ⟨-, hr⟩ := hown
  obtain ⟨g, cap, cur, rfl, hg, hh, -⟩ := hr.resolve_left (fun h => hnn h.1)
  rw [hgr.block b (old_of_row hb) ?_]
  · exact hb
  · intro e
    have : b = g := by simp [Value.ownBlock] at e; omega
    subst this
    rw [hh] at hb
    injection hb with hb
    injection hb with _ h2 _
    exact ht h2.symm
theorem ints_kp {w0 w w' : World} {n : Nat} {v : Value} {xs : List Value} (hown : w.ownsRow w0.heap.size 3 1 v n xs) (hnn : v ≠ .slice none 0 0) (hgr : w.grownBy w' v.ownBlock) (hk : Kp w0 w) : Kp w0 w' := by
  obtain ⟨-, hr⟩ := hown
  obtain ⟨g, cap, cur, rfl, hg, hh, -⟩ := hr.resolve_left (fun h => hnn h.1)
  exact Below.grown hk hgr (Below.size hk) (fun k hk' => by simp [Value.ownBlock] at hk'; omega)

theorem actw_next {w1 w' : World} {B p q : Nat} {bss : List (List Int)} {xs : List Value} {u : Value} {bs : List Int} (h : ∀ (i : Nat) (b : List Int) (x : Value), bss[i]? = some b → xs[i]? = some x → ActW w1 B p q b x)
    (grow : ∀ (b : Nat) (c : Array Value) (t : TypeId), w1.heap[b]? = some (.cells c t (0, 0)) → t ≠ 1 → w'.heap[b]? = some (.cells c t (0, 0))) (hn : bss[xs.length]? = some bs) (hu : ActW w1 B p q bs u) :
    ∀ (i : Nat) (b : List Int) (x : Value), bss[i]? = some b → (xs ++ [u])[i]? = some x → ActW w' B p q b x := by
  have go : ∀ b x, ActW w1 B p q b x → ActW w' B p q b x := fun b x hx => hx.keep fun k c t _ ht hk => grow k c t hk (by rcases ht with rfl | rfl <;> decide)
  intro i b x hi hx
  rcases Nat.lt_or_ge i xs.length with hl | hl
  · rw [List.getElem?_append_left hl] at hx
    exact go b x (h i b x hi hx)
  · rw [List.getElem?_append_right hl] at hx
    have : i = xs.length := by
      rcases Nat.lt_or_ge xs.length i with q | q
      · have : 1 ≤ i - xs.length := by omega
        rw [List.getElem?_eq_none (by simpa using this)] at hx
        cases hx
      · omega
    subst this
    rw [Nat.sub_self] at hx
    obtain rfl : u = x := by simpa using hx
    obtain rfl : bs = b := by rw [hn] at hi; exact Option.some.inj hi
    exact go _ _ hu

theorem cw_next {l : List Int} {k : Nat} (h : k < l.length) : cw (l.take (k + 1)) = if num (kz 22 l[k]) = 0 then cw (l.take k) else cw (l.take k) + 1 := by
  have e : ∀ j, cw (l.take j) = cnt (((l.map (kz 22)).map num).take j) := by
    intro j
    simp only [cw, List.map_take]
  rw [e, e]
  have := cnt_next (ks := (l.map (kz 22)).map num) (j := k) (by simpa using h)
  simpa using this

theorem within_long (a : Option Addr) (cap len : Nat) (h20 : 20 < len) (w : World) (ads : List Addr) (so : Option Addr) (V : St ads so w) :
    Calls Tryd.prog 7 #[.slice a len cap] w fun e w' => e = .returned (.bool true) ∧ Kp w w' := by
  have HA := Lib.hid (alive_any ads so _ V)
  obtain ⟨ll, hll⟩ : ∃ ll : Int, (len : Int) = ll := ⟨_, rfl⟩
  have h : ll > 20 := by omega
  clear V
  go_enter Tryd.func7, Tryd.ntmps7
  go_wp2_with (go_at_call 8; (with_reducible refine HA.out.mono ?_); rintro e w1 ⟨rfl, hw1⟩)
  go_ret
  exact ⟨rfl, hw1⟩

set_option maxRecDepth 20000 in
set_option maxHeartbeats 8000000 in
theorem within_short (a : Option Addr) (cap : Nat) (bss : List (List Int)) (len : Nat) (hlen : bss.length = len) (h20 : len ≤ 20) (w : World) (hs : SlS (.slice a len cap) bss w) (ads : List Addr) (s : Addr) (V : St ads (some s) w) :
    Calls Tryd.prog 7 #[.slice a len cap] w fun e w' => e = .returned (.bool true) ∧ Kp w w' := by
  have hmf : ∀ (fn : Fn) (first cap : Array Value) (w : World), (Instr.makeFunc fn first cap).run Tryd.prog w = .ok (.func fn first cap) w := fun _ _ _ _ => rfl
  obtain ⟨i0, hi, hz0, hz1, hz2⟩ := info_parts info_int
  obtain ⟨i1, gi, gz0, gz1, gz2⟩ := info_parts info_fn
  have hel : ∀ wr, Kp w wr → ∀ j (hj : j < bss.length), ∃ b off, a = some ⟨b, off, none⟩ ∧ ∃ a' c, wr.cell? ⟨b, off + j, none⟩ = some (.slice a' bss[j].length c) ∧ SlI (.slice a' bss[j].length c) bss[j] wr := by
    intro wr hk j hj
    exact (hs.kp hk).at j hj
  have HEL := Lib.hid hel
  have HA := Lib.hid (alive_any ads (some s) _ V)
  have HI := Lib.hid (And.intro hz1 hz2)
  have HI2 := Lib.hid hi
  have HI3 := Lib.hid hz0
  have GI := Lib.hid (And.intro gz1 gz2)
  have GI2 := Lib.hid gi
  have GI3 := Lib.hid gz0
  have HLEN := Lib.hid hlen
  have HV := Lib.hid V
  clear V hs hel hlen hz1 hz2 hi hz0 gz1 gz2 gi gz0
  go_enter Tryd.func7, Tryd.ntmps7
  go_wp2_with (go_at_call 8; (with_reducible refine HA.out.mono ?_); rintro e w1 ⟨rfl, hw1⟩)
  have hs4 : ((w1.alloc (.cells #[.int .i64 0] 3)).alloc (.cells #[.int .i64 0] 3)).heap.size = w1.heap.size + 2 := by simp
  have k4 : Kp w1 ((w1.alloc (.cells #[.int .i64 0] 3)).alloc (.cells #[.int .i64 0] 3)) := Kp.trans (kp_alloc _ _) (kp_alloc _ _)
  have bx4 : Box2 w1.heap.size (w1.heap.size + 1) 0 ((w1.alloc (.cells #[.int .i64 0] 3)).alloc (.cells #[.int .i64 0] 3)) := by
    have e0 := try_new0 w1 (.cells #[.int .i64 0] 3) (.cells #[.int .i64 0] 3)
    have e1 := try_new1 w1 (.cells #[.int .i64 0] 3) (.cells #[.int .i64 0] 3)
    refine ⟨⟨0, ?_⟩, ?_, ?_, ?_⟩
    · unfold World.cell?; dsimp only; rw [e0]; rfl
    · unfold World.frozen?; dsimp only; rw [e0]; rfl
    · unfold World.cell?; dsimp only; rw [e1]; rfl
    · unfold World.frozen?; dsimp only; rw [e1]; rfl
  have W41 := Lib.hid hw1
  have K4 := Lib.hid (Kp.trans hw1 k4)
  obtain ⟨W4, hW4⟩ : ∃ W4, (w1.alloc (.cells #[.int .i64 0] 3)).alloc (.cells #[.int .i64 0] 3) = W4 := ⟨_, rfl⟩
  have OW0 := Lib.hid (own_empty ((w1.alloc (.cells #[.int .i64 0] 3)).alloc (.cells #[.int .i64 0] 3)) 1)
  have K5 := Lib.hid (kp_alloc ((w1.alloc (.cells #[.int .i64 0] 3)).alloc (.cells #[.int .i64 0] 3)) (.cells #[] 1))
  rw [hW4] at K4
  have K14 : Hid (Kp w1 W4) := Lib.hid (by rw [← hW4]; exact k4)
  rw [hW4] at hs4 bx4
  have OWS : Hid (((((w1.alloc (.cells #[.int .i64 0] 3)).alloc (.cells #[.int .i64 0] 3)).alloc (.cells #[] 1)).ownsRow W4.heap.size 1 1 (.slice (some ⟨w1.heap.size + 2, 0, none⟩) 0 0) 0 [])) := Lib.hid (by have := OW0.out; rw [hW4, hs4] at this; rw [hW4, hs4]; exact this)
  have K5' : Hid (Kp W4 (((w1.alloc (.cells #[.int .i64 0] 3)).alloc (.cells #[.int .i64 0] 3)).alloc (.cells #[] 1))) := Lib.hid (by have := K5.out; rw [hW4] at this; rw [hW4]; exact this)
  have HS4 := Lib.hid hs4
  have BX4 := Lib.hid bx4
  have HSW := Lib.hid (Below.size hw1)
  clear hw1 k4 hs4 bx4 OW0 K5 hW4
  go_loopw [5, 26] (fun out i wr => ∃ (j : Nat) (xs : List Value), j ≤ len ∧ i = .int .i64 j ∧ wr.ownsRow W4.heap.size 1 1 out j xs ∧ out ≠ .slice none 0 0 ∧ (∀ (i : Nat) (b : List Int) (x : Value), bss[i]? = some b → xs[i]? = some x → ActW wr W4.heap.size w1.heap.size (w1.heap.size + 1) b x) ∧ (∀ i (hi : i < j) (hi' : i < bss.length), bss[i].length ≤ 20) ∧ Kp W4 wr) (fun _ i _ => len - (intOf i).toNat)
  case atStart => exact ⟨0, [], Nat.zero_le _, rfl, OWS.out, (by intro h; cases h), (by intro i m x _ hx; simp at hx), (fun i hi => absurd hi (by omega)), K5'.out⟩
  case round =>
    obtain ⟨j, xs, hj, rfl, hown, hnn, hact, hsm, hkp⟩ := hrel
    obtain ⟨wo, rfl⟩ : ∃ wo, wo = wr := ⟨wr, rfl⟩
    have HXL : Hid (xs.length = j) := Lib.hid (by have := hown.1; omega)
    have HOW := Lib.hid hown
    have HNN := Lib.hid hnn
    have HACT := Lib.hid hact
    have HSM := Lib.hid hsm
    have HKP := Lib.hid hkp
    have KW := Lib.hid (Kp.trans K4.out hkp)
    have hln := HLEN.out
    clear hown hnn hact hsm hkp
    obtain ⟨jj, hjj⟩ : ∃ jj : Int, (j : Int) = jj := ⟨_, rfl⟩
    rw [hjj]
    by_cases hlt : j < len
    · have hjn : j < bss.length := by omega
      obtain ⟨b, off, rfl, a2, c2, hc, hsl⟩ := HEL.out wo KW.out j hjn
      obtain ⟨l, hl⟩ : ∃ l, bss[j] = l := ⟨_, rfl⟩
      rw [hl] at hc hsl
      have HLN : Hid (bss[xs.length]? = some l) := Lib.hid (by rw [HXL.out, List.getElem?_eq_getElem hjn, hl])
      have HLJ : Hid (∀ i (hi : i < j + 1) (hi' : i < bss.length), l.length ≤ 20 → bss[i].length ≤ 20) := Lib.hid (by
        intro i hi hi' h
        by_cases e : i = j
        · subst e; rw [hl]; exact h
        · exact HSM.out i (by omega) hi')
      obtain ⟨n, hn⟩ : ∃ n, l.length = n := ⟨_, rfl⟩
      have HN := Lib.hid hn
      rw [hn] at hc hsl
      have ej : jj.toNat = j := by omega
      rw [← ej] at hc
      have hj0 : 0 ≤ jj := by omega
      have hltj : jj < len := by omega
      have HJ := Lib.hid hjj
      have HSL := Lib.hid hsl
      obtain ⟨nn, hnn⟩ : ∃ nn : Int, (n : Int) = nn := ⟨_, rfl⟩
      clear hjj ej hl hn hsl hlt
      by_cases hn20 : n ≤ 20
      · clear hnn
        have KI := Lib.hid (Kp.trans (kp_alloc wo (.cells #[] 3)) (kp_alloc (wo.alloc (.cells #[] 3)) (.cells #[.slice (some ⟨wo.heap.size, 0, none⟩) 0 0] 34)))
        have OWI := Lib.hid (own_kp (own_empty wo 3) (kp_alloc (wo.alloc (.cells #[] 3)) (.cells #[.slice (some ⟨wo.heap.size, 0, none⟩) 0 0] 34)))
        have ROWI := Lib.hid (try_new1 wo (.cells #[] 3) (.cells #[.slice (some ⟨wo.heap.size, 0, none⟩) 0 0] 34))
        have HSR := Lib.hid (Below.size HKP.out)
        go_wp2
        go_loopw [36] (fun i wr => ∃ (k : Nat) (kv : Value), k ≤ n ∧ i = .int .i64 k ∧ wr.heap[wo.heap.size + 1]? = some (.cells #[kv] 34 (0, 0)) ∧ wr.ownsRow wo.heap.size 3 1 kv k (kindRow 22 (l.take k)) ∧ kv ≠ .slice none 0 0 ∧ Kp wo wr) (fun i _ => n - (intOf i).toNat)
        case atStart => exact ⟨0, _, Nat.zero_le _, rfl, ROWI.out, OWI.out, (by intro h; cases h), KI.out⟩
        case round =>
          obtain ⟨k, kv, hk, rfl, hrow, hown, hnn, hki⟩ := hrel
          have hown0 := hown
          obtain ⟨hxl, hr⟩ := hown
          obtain ⟨g, cap', cur, rfl, hg, hh, hnc, hcm, hcs, htk⟩ := hr.resolve_left (fun h => hnn h.1)
          have HO := Lib.hid hown0
          have HR := Lib.hid hrow
          have HKI := Lib.hid hki
          have HNK := Lib.hid hnn
          have HSI := Lib.hid (Below.size hki)
          have cb : wr.cell? ⟨wo.heap.size + 1, 0, none⟩ = some (.slice (some ⟨g, 0, none⟩) k cap') := by simp [World.cell?, hrow]
          have hln2 := HN.out
          clear hxl hr hown0 hg hh hnc hcm hcs htk hrow hki hnn
          obtain ⟨k2, hk2⟩ : ∃ k2 : Int, (k : Int) = k2 := ⟨_, rfl⟩
          rw [hk2]
          by_cases hkn : k < n
          · have hkl : k < l.length := by omega
            obtain ⟨b3, off3, rfl, hc3⟩ := (HSL.out.kp HKI.out).at k hkl
            have hkr := kindRow_next 22 hkl
            obtain ⟨nb, hnb⟩ : ∃ nb, l[k] = nb := ⟨_, rfl⟩
            have hnb2 : l.getD k 0 = nb := by simp [List.getD, hkl, hnb]
            rw [hnb2] at hc3
            rw [hnb] at hkr
            obtain ⟨hk22, hkey⟩ := kz_spec 22 nb (by decide) (by decide)
            obtain ⟨kk, hkk⟩ : ∃ kk : Int, ((kz 22 nb : Nat) : Int) = kk := ⟨_, rfl⟩
            rw [hkk] at hkey hkr
            have hkey' : wrap64 ((IntKind.u64.wrap nb).tmod 22) = kk := hkey
            have ek : k2.toNat = k := by omega
            rw [← ek] at hc3
            have hk0 : 0 ≤ k2 := by omega
            have hltk : k2 < n := by omega
            have HK2 := Lib.hid hk2
            have HKR := Lib.hid hkr
            have W2 := kp_alloc wr (.cells #[.int .i64 kk] 3)
            have OW2 := Lib.hid (own_kp HO.out W2)
            have HEL2 := Lib.hid (box_cell wr (.int .i64 kk) 3)
            have HW := Lib.hid W2
            clear hk2 ek hkk hnb hnb2 hkn hkr hkey W2 hk22 hkl
            go_wp2_with (at_builtin; refine wpList_append_own _ rfl _ _ 34 rfl wo.heap.size 3 i0 (.int .i64 0) 1 8 Tryd.underlying34 HI2.out HI3.out HI.out.1 HI.out.2 rfl (by decide) _ _ _ rfl OW2.out ⟨wr.heap.size, 0, none⟩ 1 1 [.int .i64 kk] rfl ?c1 ?c2 ?c3 ?c4 ?c5 ?c6 ?_)
            case c1 => rfl
            case c2 =>
              intro i u hi
              match i, hi with
              | 0, hi => simp at hi; subst hi; rw [add_plain]; exact HEL2.out
            case c3 => intro u hu; simp at hu; subst hu; rfl
            case c4 => unfold maxLen; omega
            case c5 => omega
            case c6 => have := HSI.out; simp; omega
            rintro v' w5 hown5 hgr hnil
            have hnn5 : v' ≠ .slice none 0 0 := by first | exact hnil | exact (fun h => HNK.out (hnil.1 h).1)
            have row5 : w5.heap[wo.heap.size + 1]? = some (.cells #[.slice (some ⟨g, 0, none⟩) k cap'] 34 (0, 0)) := ints_grow OW2.out HNK.out hgr _ _ _ (by rw [Below.block HW.out _ (old_of_row HR.out)]; exact HR.out) (by decide)
            have kp5 : Kp wo w5 := ints_kp OW2.out HNK.out hgr (Kp.trans HKI.out HW.out)
            have own5 : w5.ownsRow wo.heap.size 3 1 v' (k + 1) (kindRow 22 (l.take (k + 1))) := by rw [HKR.out]; exact hown5
            have own6 := own5
            obtain ⟨-, hr5⟩ := own6
            obtain ⟨g5, cap5, cur5, rfl, -⟩ := hr5.resolve_left (fun h => hnn5 h.1)
            have c5 : w5.cell? ⟨wo.heap.size + 1, 0, none⟩ = some (.slice (some ⟨g, 0, none⟩) k cap') := by simp [World.cell?, row5]
            have z5 : w5.frozen? ⟨wo.heap.size + 1, 0, none⟩ = false := by simp [World.frozen?, row5]
            have ROW5 := Lib.hid row5
            have KP5 := Lib.hid kp5
            have OWN5 := Lib.hid own5
            have NN5 := Lib.hid hnn5
            clear row5 kp5 own5 hnn5 hown5 hgr hnil hr5
            go_wp2
            have hkj := HK2.out
            go_roundw
            case rel => exact ⟨k + 1, _, by omega, by congr 1; omega, setCell_row0 ROW5.out, own_set OWN5.out ROW5.out, NN5.out, Below.setCell KP5.out (show wo.heap.size ≤ wo.heap.size + 1 by omega) _⟩
            case measure => simp [intOf]; omega
          · obtain rfl : k = n := by omega
            have hex2 : ¬ k2 < k := by omega
            have hful2 : l.take k = l := by rw [List.take_of_length_le]; omega
            have ho := HO.out
            rw [hful2] at ho
            have HOL := Lib.hid ho
            have HWI := Lib.hid (kp_alloc wr (.cells #[.func (.func 27) #[] #[.pointer (some ⟨wo.heap.size + 1, 0, none⟩), .pointer (some ⟨w1.heap.size, 0, none⟩), .pointer (some ⟨w1.heap.size + 1, 0, none⟩)]] 1))
            have OWO := Lib.hid (own_kp (own_kp HOW.out HKI.out) (kp_alloc wr (.cells #[.func (.func 27) #[] #[.pointer (some ⟨wo.heap.size + 1, 0, none⟩), .pointer (some ⟨w1.heap.size, 0, none⟩), .pointer (some ⟨w1.heap.size + 1, 0, none⟩)]] 1)))
            have ELO := Lib.hid (box_cell wr (.func (.func 27) #[] #[.pointer (some ⟨wo.heap.size + 1, 0, none⟩), .pointer (some ⟨w1.heap.size, 0, none⟩), .pointer (some ⟨w1.heap.size + 1, 0, none⟩)]) 1)
            clear ho hful2 hk2
            go_wp2_with (at_builtin; refine wpList_append_own _ rfl _ _ 36 rfl W4.heap.size 1 i1 .nilFunc 1 8 Tryd.underlying36 GI2.out GI3.out GI.out.1 GI.out.2 rfl (by decide) _ _ _ rfl OWO.out ⟨wr.heap.size, 0, none⟩ 1 1 [.func (.func 27) #[] #[.pointer (some ⟨wo.heap.size + 1, 0, none⟩), .pointer (some ⟨w1.heap.size, 0, none⟩), .pointer (some ⟨w1.heap.size + 1, 0, none⟩)]] rfl ?d1 ?d2 ?d3 ?d4 ?d5 ?d6 ?_)
            case d3 => first | rfl | (intro u hu; simp at hu; subst hu; rfl)
            case d4 => unfold maxLen; omega
            case d5 => omega
            case d6 => have := HSR.out; have := HSI.out; simp; omega
            rintro v' w5 hown5 hgr hnil
            have hnn5 : v' ≠ .slice none 0 0 := by first | exact hnil | exact (fun h => HNN.out (hnil.1 h).1)
            have grow := acts_grow OWO.out HNN.out hgr
            have kp5 : Kp W4 w5 := acts_kp OWO.out HNN.out hgr (Kp.trans (Kp.trans HKP.out HKI.out) HWI.out)
            have newact : ActW (wr.alloc (.cells #[.func (.func 27) #[] #[.pointer (some ⟨wo.heap.size + 1, 0, none⟩), .pointer (some ⟨w1.heap.size, 0, none⟩), .pointer (some ⟨w1.heap.size + 1, 0, none⟩)]] 1)) W4.heap.size w1.heap.size (w1.heap.size + 1) l (.func (.func 27) #[] #[.pointer (some ⟨wo.heap.size + 1, 0, none⟩), .pointer (some ⟨w1.heap.size, 0, none⟩), .pointer (some ⟨w1.heap.size + 1, 0, none⟩)]) :=
              ⟨wo.heap.size + 1, _, rfl, (by have := HSR.out; omega), (by rw [Below.block HWI.out _ (old_of_row HR.out)]; exact HR.out), HNK.out, (by rw [HN.out]; exact own_mono (own_kp HOL.out HWI.out) HSR.out)⟩
            have act5 := actw_next (fun i b x h1 h2 => ((HACT.out i b x h1 h2).kp HKI.out).kp HWI.out) grow HLN.out newact
            have own5 : w5.ownsRow W4.heap.size 1 1 v' (j + 1) (xs ++ [.func (.func 27) #[] #[.pointer (some ⟨wo.heap.size + 1, 0, none⟩), .pointer (some ⟨w1.heap.size, 0, none⟩), .pointer (some ⟨w1.heap.size + 1, 0, none⟩)]]) := hown5
            have HO5 := Lib.hid own5
            have HN5 := Lib.hid hnn5
            have HA5 := Lib.hid act5
            have HK5 := Lib.hid kp5
            clear own5 hnn5 act5 kp5 newact grow hown5 hgr hnil
            go_wp2
            have hjj := HJ.out
            go_roundw
            case rel => exact ⟨j + 1, _, by omega, by congr 1; omega, HO5.out, HN5.out, HA5.out, (fun i hi hi' => HLJ.out i hi hi' (by have := HN.out; omega)), HK5.out⟩
            case measure => simp [intOf]; omega
      · have hb20 : ¬ nn ≤ 20 := by omega
        have hb21 : nn > 20 := by omega
        clear hn20
        go_wp2
        go_ret
        exact ⟨rfl, KW.out⟩
    · obtain rfl : j = len := by omega
      have hex : ¬ jj < j := by omega
      have SLV := row_slv HOW.out HNN.out
      obtain ⟨-, hr⟩ := HOW.out
      obtain ⟨g, cap', cur, rfl, -⟩ := hr.resolve_left (fun h => HNN.out h.1)
      have h20b : ∀ bs ∈ bss, bs.length ≤ 20 := by
        intro bs hb
        obtain ⟨i, hi, rfl⟩ := List.getElem_of_mem hb
        exact HSM.out i (by omega) hi
      have hs4 := HS4.out
      have ALLC : Calls Tryd.prog 14 #[.slice (some ⟨g, 0, none⟩) j cap'] wo fun e w' => e = .returned (.tuple #[.int .i64 0, .nilIface]) ∧ Kb w1.heap.size (w1.heap.size + 1) wo w' ∧ Box2 w1.heap.size (w1.heap.size + 1) (wsum bss) w' :=
        within_all ads s w1 (HV.out.kp W41.out) W4.heap.size w1.heap.size (w1.heap.size + 1) (Nat.le_refl _) (by omega) (by omega) bss (by omega) h20b _ xs (by rw [HXL.out]; omega) wo (Kp.trans K14.out HKP.out) SLV HACT.out (BX4.out.kp HKP.out)
      obtain ⟨ws, hws⟩ : ∃ ws : Int, ((wsum bss : Nat) : Int) = ws := ⟨_, rfl⟩
      rw [hws] at ALLC
      have HWS := Lib.hid hws
      have HALL := Lib.hid ALLC
      have H20B := Lib.hid h20b
      clear SLV hr h20b ALLC hjj hws hs4
      go_wp2_with (go_at_call 14; (with_reducible refine HALL.out.mono ?_); rintro e w6 ⟨rfl, hk6, hb6⟩)
      have K6 : Hid (Kp w w6) := Lib.hid (Below.trans KW.out (hk6.below (B := w.heap.size) HSW.out (by have := HSW.out; omega) (Below.size KW.out)))
      have cq := hb6.2.2.1
      have HL6 := Lib.hid (HEL.out w6 K6.out)
      have HCQ := Lib.hid cq
      clear hk6 hb6 cq
      have hlj : bss.length = j := HLEN.out
      have hlj2 := Lib.hid hlj
      clear hlj
      go_loop [13, 60] (fun c i => ∃ j2 : Nat, j2 ≤ j ∧ i = .int .i64 j2 ∧ c = .int .i64 ((wsum (bss.take j2) : Nat) : Int)) (fun _ i => j - (intOf i).toNat)
      case atStart => exact ⟨0, Nat.zero_le _, rfl, rfl⟩
      case round =>
        obtain ⟨j2, hj2, rfl, rfl⟩ := hrel
        obtain ⟨cc, hcc⟩ : ∃ cc : Int, ((wsum (bss.take j2) : Nat) : Int) = cc := ⟨_, rfl⟩
        obtain ⟨i2, hi2⟩ : ∃ i2 : Int, (j2 : Int) = i2 := ⟨_, rfl⟩
        rw [hcc, hi2]
        have hbj := hlj2.out
        by_cases hlt : j2 < j
        · have hjn : j2 < bss.length := by omega
          obtain ⟨b, off, rfl, a2, c2, hc, hsl⟩ := HL6.out j2 hjn
          have hwn := wsum_next hjn
          have hwl := wsum_le bss H20B.out j2 (by omega)
          have hl20 := H20B.out bss[j2] (List.getElem_mem _)
          obtain ⟨l, hl⟩ : ∃ l, bss[j2] = l := ⟨_, rfl⟩
          rw [hl] at hc hsl hwn hl20
          obtain ⟨n, hn⟩ : ∃ n, l.length = n := ⟨_, rfl⟩
          have HN := Lib.hid hn
          rw [hn] at hc hsl hl20
          have ej : i2.toNat = j2 := by omega
          rw [← ej] at hc
          have hj0 : 0 ≤ i2 := by omega
          have hltj : i2 < j := by omega
          have hcb : 0 ≤ cc ∧ cc ≤ 400 := by omega
          have HJ := Lib.hid hi2
          have HC := Lib.hid hcc
          have HW := Lib.hid hwn
          have HSL := Lib.hid hsl
          clear hi2 ej hl hn hsl hlt hcc hwn hwl hbj
          go_wp2
          go_loop [13, 66] (fun c i => ∃ k : Nat, k ≤ n ∧ i = .int .i64 k ∧ c = .int .i64 (cc + ((cw (l.take k) : Nat) : Int))) (fun _ i => n - (intOf i).toNat)
          case atStart => exact ⟨0, Nat.zero_le _, rfl, by simp [cw, cnt]⟩
          case round =>
            obtain ⟨k, hk, rfl, rfl⟩ := hrel
            obtain ⟨dd, hdd⟩ : ∃ dd : Int, cc + ((cw (l.take k) : Nat) : Int) = dd := ⟨_, rfl⟩
            obtain ⟨k2, hk2⟩ : ∃ k2 : Int, (k : Int) = k2 := ⟨_, rfl⟩
            rw [hdd, hk2]
            have hln2 := HN.out
            by_cases hkn : k < n
            · have hkl : k < l.length := by omega
              obtain ⟨b3, off3, rfl, hc3⟩ := HSL.out.at k hkl
              have hcn := cw_next hkl
              have hcl : cw (l.take k) ≤ k := by
                have := cw_le (l.take k)
                simp at this
                omega
              obtain ⟨nb, hnb⟩ : ∃ nb, l[k] = nb := ⟨_, rfl⟩
              have hnb2 : l.getD k 0 = nb := by simp [List.getD, hkl, hnb]
              rw [hnb2] at hc3
              rw [hnb] at hcn
              obtain ⟨hk22, hkey⟩ := kz_spec 22 nb (by decide) (by decide)
              obtain ⟨kk, hkk⟩ : ∃ kk : Int, ((kz 22 nb : Nat) : Int) = kk := ⟨_, rfl⟩
              rw [hkk] at hkey
              have hkey' : wrap64 ((IntKind.u64.wrap nb).tmod 22) = kk := hkey
              have RR : ∀ w, Calls Tryd.prog 12 #[.int .i64 kk] w fun e w' => e = .returned (.int .i64 (num (kz 22 nb) : Int)) ∧ w = w' := by
                intro w; rw [← ek_num]; exact refErr_any _ (by omega) kk hkk w
              obtain ⟨ee, hee⟩ : ∃ ee : Int, ((num (kz 22 nb) : Nat) : Int) = ee := ⟨_, rfl⟩
              rw [hee] at RR
              have HR := Lib.hid RR
              have HEE := Lib.hid hee
              have ek2 : k2.toNat = k := by omega
              rw [← ek2] at hc3
              have hk0 : 0 ≤ k2 := by omega
              have hltk : k2 < n := by omega
              have hdb : 0 ≤ dd ∧ dd ≤ 500 := by omega
              have HK2 := Lib.hid hk2
              have HD := Lib.hid hdd
              have HCN := Lib.hid hcn
              clear hk2 ek2 hkk hnb hnb2 hkn hkey hk22 hkl RR hee hdd hcn hcl
              by_cases h0 : ee = 0
              · have HE0 := Lib.hid h0
                subst h0
                go_wp2_with (go_at_call 12; (with_reducible refine (HR.out _).mono ?_); rintro e w' ⟨rfl, rfl⟩)
                have h1 := HK2.out
                have h3 : cw (l.take (k + 1)) = cw (l.take k) := by have := HCN.out; rw [if_pos (by have := HEE.out; omega)] at this; exact this
                go_round
                case rel => exact ⟨k + 1, by omega, by congr 1; omega, by rw [h3, HD.out]⟩
                case measure => simp [intOf]; omega
              · have hb : (ee != 0) = true := by simp; exact h0
                have H0 := Lib.hid h0
                go_wp2_with (go_at_call 12; (with_reducible refine (HR.out _).mono ?_); rintro e w' ⟨rfl, rfl⟩)
                have h1 := HK2.out
                have h2 := HD.out
                have h3 : cw (l.take (k + 1)) = cw (l.take k) + 1 := by have := HCN.out; rw [if_neg (by have := HEE.out; have := H0.out; omega)] at this; exact this
                go_round
                case rel => exact ⟨k + 1, by omega, by congr 1; omega, by rw [h3]; congr 1; omega⟩
                case measure => simp [intOf]; omega
            · obtain rfl : k = n := by omega
              have hex2 : ¬ k2 < k := by omega
              have hful2 : l.take k = l := by rw [List.take_of_length_le]; omega
              rw [hful2] at hdd
              have HD := Lib.hid hdd
              clear hdd hk2 hful2
              go_wp2
              have h1 := HJ.out
              have h2 := HC.out
              have h4 := HD.out
              go_round
              case rel => exact ⟨j2 + 1, by omega, by congr 1; omega, by rw [HW.out]; congr 1; omega⟩
              case measure => simp [intOf]; omega
        · obtain rfl : j2 = j := by omega
          have hex2 : ¬ i2 < j2 := by omega
          have hful : bss.take j2 = bss := by rw [List.take_of_length_le]; omega
          rw [hful, HWS.out] at hcc
          subst hcc
          have cq := HCQ.out
          clear hi2 hful hbj
          go_wp2_with (go_at_call 13; (with_reducible refine (num_nil _).mono ?_); rintro e w' ⟨rfl, rfl⟩)
          go_ret
          exact ⟨rfl, K6.out⟩
end Go.Proofs.YtcgcliglcdfijaaDoor
