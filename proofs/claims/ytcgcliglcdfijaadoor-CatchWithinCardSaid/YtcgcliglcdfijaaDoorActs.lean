/-
  THE LAW's LISTS OF ACTS (own work): 'acts' at whatever kinds; catch.run of an act.
-/
import Derived.Test.YtcgcliglcdfijaaDoorAllV
namespace Go.Proofs.YtcgcliglcdfijaaDoor
open Go.RowKit Go.Extern.Stop Go.Stop Go.Extern Go.ChangeShapes Go.WideShapes

/-- THE VALUE v IS AN ACT OF KIND k, that counts at pc. -/
def ActV (w : World) (pc : Addr) (k : Nat) (v : Value) : Prop :=
  (k = 21 ∧ v = .nilFunc) ∨
  (k ≠ 21 ∧ ∃ b pb, v = .func (.func 36) #[] #[.pointer (some ⟨b, 0, none⟩), .pointer (some ⟨pb, 0, none⟩)] ∧ pc.block < b ∧ w.heap[b]? = some (.cells #[.int .i64 k] 3 (0, 0)) ∧
    pc.block < pb ∧ w.heap[pb]? = some (.cells #[.pointer (some pc)] 25 (0, 0)))

theorem old_of_row {w : World} {b : Nat} {o : Obj} (h : w.heap[b]? = some o) : b < w.heap.size := by
  rcases Nat.lt_or_ge b w.heap.size with g | g
  · exact g
  · simp [Array.getElem?_eq_none g] at h

theorem ActV.kp {w w' : World} {pc : Addr} {k : Nat} {v : Value} (h : ActV w pc k v) (hk : Kp w w') : ActV w' pc k v := by
  rcases h with h | ⟨h, b, pb, h1, h2, h3, h4, h5⟩
  · exact .inl h
  · exact .inr ⟨h, b, pb, h1, h2, by rw [Below.block hk b (old_of_row h3)]; exact h3, h4, by rw [Below.block hk pb (old_of_row h5)]; exact h5⟩

/-- What is behind an append of the call's own row: every block of another type of elements is as it was. -/
theorem acts_grow {w w' : World} {base n : Nat} {v : Value} {xs : List Value} (hown : w.ownsRow base 1 1 v n xs) (hnn : v ≠ .slice none 0 0) (hgr : w.grownBy w' v.ownBlock) (b : Nat) (c : Array Value) (t : TypeId) (hb : w.heap[b]? = some (.cells c t (0, 0))) (ht : t ≠ 1) :
    w'.heap[b]? = some (.cells c t (0, 0)) := by
  obtain ⟨-, hr⟩ := hown
  obtain ⟨g, cap, cur, rfl, hg, hh, -⟩ := hr.resolve_left (fun h => hnn h.1)
  rw [hgr.block b (old_of_row hb) ?_]
  · exact hb
  · intro e
    have : b = g := by simp [Value.ownBlock] at e; omega
    subst this
    rw [hh] at hb
    injection hb with hb
    injection hb with _ h2 _
    exact ht h2.symm

theorem acts_kp {w0 w w' : World} {n : Nat} {v : Value} {xs : List Value} (hown : w.ownsRow w0.heap.size 1 1 v n xs) (hnn : v ≠ .slice none 0 0) (hgr : w.grownBy w' v.ownBlock) (hk : Kp w0 w) : Kp w0 w' := by
  obtain ⟨-, hr⟩ := hown
  obtain ⟨g, cap, cur, rfl, hg, hh, -⟩ := hr.resolve_left (fun h => hnn h.1)
  exact Below.grown hk hgr (Below.size hk) (fun k hk' => by simp [Value.ownBlock] at hk'; omega)

theorem acts_next {w w1 w' : World} {pc : Addr} {ns : List Nat} {xs : List Value} {u : Value} {k : Nat} (h : ∀ (i m : Nat) (x : Value), ns[i]? = some m → xs[i]? = some x → ActV w pc m x) (hk : Kp w w1)
    (grow : ∀ (b : Nat) (c : Array Value) (t : TypeId), w1.heap[b]? = some (.cells c t (0, 0)) → t ≠ 1 → w'.heap[b]? = some (.cells c t (0, 0))) (hn : ns[xs.length]? = some k) (hu : ActV w1 pc k u) :
    ∀ (i m : Nat) (x : Value), ns[i]? = some m → (xs ++ [u])[i]? = some x → ActV w' pc m x := by
  have go : ∀ m x, ActV w1 pc m x → ActV w' pc m x := by
    intro m x hx
    rcases hx with hx | ⟨h0, b, pb, h1, h2, h3, h4, h5⟩
    · exact .inl hx
    · exact .inr ⟨h0, b, pb, h1, h2, grow b _ _ h3 (by decide), h4, grow pb _ _ h5 (by decide)⟩
  intro i m x hi hx
  rcases Nat.lt_or_ge i xs.length with hl | hl
  · rw [List.getElem?_append_left hl] at hx
    exact go m x ((h i m x hi hx).kp hk)
  · rw [List.getElem?_append_right hl] at hx
    have : i = xs.length := by
      rcases Nat.lt_or_ge xs.length i with q | q
      · have : 1 ≤ i - xs.length := by omega
        rw [List.getElem?_eq_none (by simpa using this)] at hx
        cases hx
      · omega
    subst this
    rw [Nat.sub_self] at hx
    obtain rfl : u = x := by simpa using hx
    obtain rfl : k = m := by rw [hn] at hi; exact Option.some.inj hi
    exact go _ _ hu

theorem acts_new {w0 wr : World} {pc : Addr} {k : Nat} {kk : Int} {e : Obj} (h21 : kk ≠ 21) (hkk : (k : Int) = kk) (hpc : pc.block < w0.heap.size) (hpb : wr.heap[w0.heap.size]? = some (.cells #[.pointer (some pc)] 25 (0, 0))) :
    ActV ((wr.alloc (.cells #[.int .i64 kk] 3)).alloc e) pc k (.func (.func 36) #[] #[.pointer (some ⟨wr.heap.size, 0, none⟩), .pointer (some ⟨w0.heap.size, 0, none⟩)]) := by
  have hlt := old_of_row hpb
  refine .inr ⟨by omega, _, _, rfl, by show pc.block < wr.heap.size; omega, ?_, hpc, ?_⟩
  · rw [hkk]; exact try_new0 _ _ _
  · rw [Below.block (kp_alloc _ e) _ (by simp; omega), Below.block (kp_alloc wr _) _ hlt]; exact hpb

set_option maxRecDepth 20000 in
set_option maxHeartbeats 2000000 in
theorem acts_any (a : Option Addr) (cap : Nat) (ns : List Nat) (len : Nat) (hlen : ns.length = len) (hl : len ≤ 1000) (w : World) (pc : Addr) (hpc : pc.block < w.heap.size) (hs : SlI (.slice a len cap) (ns.map fun (n : Nat) => (n : Int)) w) :
    Calls Tryd.prog 15 #[.slice a len cap, .pointer (some pc)] w fun e w' => ∃ v' xs, e = .returned v' ∧ SlV v' xs w' ∧ xs.length = len ∧ (∀ (i m : Nat) (x : Value), ns[i]? = some m → xs[i]? = some x → ActV w' pc m x) ∧ Kp w w' := by
  have hmf : ∀ (fn : Fn) (first cap : Array Value) (w : World), (Instr.makeFunc fn first cap).run Tryd.prog w = .ok (.func fn first cap) w := fun _ _ _ _ => rfl
  obtain ⟨i0, hi, hz0, hz1, hz2⟩ := info_parts info_fn
  have hel : ∀ wr, Kp w wr → ∀ j (hj : j < ns.length), ∃ b off, a = some ⟨b, off, none⟩ ∧ wr.cell? ⟨b, off + j, none⟩ = some (.int .i64 (ns[j] : Int)) := by
    intro wr hk j hj
    obtain ⟨b, off, h1, h2⟩ := (hs.kp hk).at j (by simpa using hj)
    refine ⟨b, off, h1, ?_⟩
    rw [h2]
    simp [List.getD, hj]
  have HEL := Lib.hid hel
  have HI := Lib.hid (And.intro hz1 hz2)
  have HI2 := Lib.hid hi
  have HI3 := Lib.hid hz0
  have HPC := Lib.hid hpc
  have HLEN := Lib.hid hlen
  have B1 := kp_alloc w (.cells #[.pointer (some pc)] 25)
  have B2 := kp_alloc (w.alloc (.cells #[.pointer (some pc)] 25)) (.cells #[] 1)
  have OW0 := Lib.hid (own_mono (base' := w.heap.size) (own_empty (w.alloc (.cells #[.pointer (some pc)] 25)) 1) (Below.size B1))
  have hrow0 : (w.alloc (.cells #[.pointer (some pc)] 25)).heap[w.heap.size]? = some (.cells #[.pointer (some pc)] 25 (0, 0)) := (MapKept.heap_alloc w _).1
  have ROW0 := Lib.hid (show ((w.alloc (.cells #[.pointer (some pc)] 25)).alloc (.cells #[] 1)).heap[w.heap.size]? = some (.cells #[.pointer (some pc)] 25 (0, 0)) by rw [Below.block B2 _ (by simp)]; exact hrow0)
  have K0 := Lib.hid (Kp.trans B1 B2)
  have hs1 : (w.alloc (.cells #[.pointer (some pc)] 25)).heap.size = w.heap.size + 1 := by simp
  rw [hs1] at OW0
  clear hel hz1 hz2 hi hz0 hpc hlen hs B1 B2 hrow0 hs1
  go_enter Tryd.func15, Tryd.ntmps15
  go_wp2
  go_loopw [5, 11] (fun out i wr => ∃ (j : Nat) (xs : List Value), j ≤ len ∧ i = .int .i64 j ∧ wr.ownsRow w.heap.size 1 1 out j xs ∧ out ≠ .slice none 0 0 ∧ (∀ (i m : Nat) (x : Value), ns[i]? = some m → xs[i]? = some x → ActV wr pc m x) ∧ Kp w wr ∧ wr.heap[w.heap.size]? = some (.cells #[.pointer (some pc)] 25 (0, 0))) (fun _ i _ => len - (intOf i).toNat)
  case atStart => exact ⟨0, [], Nat.zero_le _, rfl, OW0.out, (by intro h; cases h), (by intro i m x _ hx; simp at hx), K0.out, ROW0.out⟩
  case round =>
    obtain ⟨j, xs, hj, rfl, hown, hnn, hact, hkp, hpb⟩ := hrel
    have hxl : xs.length = j := by have := hown.1; omega
    have HXL := Lib.hid hxl
    have HOW := Lib.hid hown
    have HNN := Lib.hid hnn
    have HACT := Lib.hid hact
    have HKP := Lib.hid hkp
    have HPB := Lib.hid hpb
    have HSZ := Lib.hid (old_of_row hpb)
    have hln := HLEN.out
    clear hown hnn hact hkp hpb hxl
    obtain ⟨jj, hjj⟩ : ∃ jj : Int, (j : Int) = jj := ⟨_, rfl⟩
    rw [hjj]
    by_cases hlt : j < len
    · have hjn : j < ns.length := by omega
      obtain ⟨b, off, rfl, hc⟩ := HEL.out wr HKP.out j hjn
      obtain ⟨k, hk⟩ : ∃ k, ns[j] = k := ⟨_, rfl⟩
      rw [hk] at hc
      obtain ⟨kk, hkk⟩ : ∃ kk : Int, (k : Int) = kk := ⟨_, rfl⟩
      have ej : jj.toNat = j := by omega
      rw [hkk, ← ej] at hc
      have HLN : Hid (ns[xs.length]? = some k) := Lib.hid (by rw [HXL.out, List.getElem?_eq_getElem hjn, hk])
      have hj0 : 0 ≤ jj := by omega
      have hltj : jj < len := by omega
      have HJ := Lib.hid hjj
      have HKK := Lib.hid hkk
      clear hjj ej hkk hk hlt
      by_cases h21 : kk = 21
      · subst h21
        have W2 := kp_alloc wr (.cells #[.int .i64 21] 3)
        have W3 := kp_alloc (wr.alloc (.cells #[.int .i64 21] 3)) (.cells #[.nilFunc] 1)
        have hs1 : (wr.alloc (.cells #[.int .i64 21] 3)).heap.size = wr.heap.size + 1 := by simp
        have OW2 := Lib.hid (own_kp (own_kp HOW.out W2) W3)
        have BX := Lib.hid (box_cell wr (.int .i64 21) 3)
        have EL := box_cell (wr.alloc (.cells #[.int .i64 21] 3)) (.nilFunc) 1
        rw [hs1] at EL
        have HEL2 := Lib.hid EL
        have HW := Lib.hid (Kp.trans W2 W3)
        have b0 := BX.out
        clear W2 W3 hs1 EL
        go_wp2_with (at_builtin; refine wpList_append_own _ rfl _ _ 36 rfl w.heap.size 1 i0 .nilFunc 1 8 Tryd.underlying36 HI2.out HI3.out HI.out.1 HI.out.2 rfl (by decide) _ _ _ rfl OW2.out ⟨wr.heap.size + 1, 0, none⟩ 1 1 [.nilFunc] rfl ?c1 ?c2 ?c3 ?c4 ?c5 ?c6 ?_)
        case c1 => rfl
        case c2 =>
          intro i u hi
          match i, hi with
          | 0, hi => simp at hi; subst hi; rw [add_plain]; exact HEL2.out
        case c3 => intro u hu; simp at hu; subst hu; rfl
        case c4 => unfold maxLen; omega
        case c5 => omega
        case c6 => have := HSZ.out; simp; omega
        rintro v' w5 hown5 hgr hnil
        have hjj := HJ.out
        have hnn5 : v' ≠ .slice none 0 0 := by first | exact hnil | exact (fun h => HNN.out (hnil.1 h).1)
        have hk5 := HKP.out
        have grow := acts_grow (OW2.out) HNN.out hgr
        have kp5 : Kp w w5 := acts_kp OW2.out HNN.out hgr (Kp.trans hk5 HW.out)
        have act5 := acts_next (pc := pc) HACT.out HW.out grow (HLN.out) (.inl ⟨by have := HKK.out; omega, rfl⟩)
        have pb5 : w5.heap[w.heap.size]? = some (.cells #[.pointer (some pc)] 25 (0, 0)) := grow w.heap.size _ _ (by rw [Below.block HW.out _ HSZ.out]; exact HPB.out) (by decide)
        have own5 : w5.ownsRow w.heap.size 1 1 v' (j + 1) (xs ++ [.nilFunc]) := hown5
        go_wp2
        go_roundw
        case rel => exact ⟨j + 1, xs ++ [.nilFunc], by omega, by congr 1; omega, own5, hnn5, act5, kp5, pb5⟩
        case measure => simp [intOf]; omega

      · have hne : (kk == 21) = false := by simp; exact h21
        have W2 := kp_alloc wr (.cells #[.int .i64 kk] 3)
        have W3 := kp_alloc (wr.alloc (.cells #[.int .i64 kk] 3)) (.cells #[.func (.func 36) #[] #[.pointer (some ⟨wr.heap.size, 0, none⟩), .pointer (some ⟨w.heap.size, 0, none⟩)]] 1)
        have hs1 : (wr.alloc (.cells #[.int .i64 kk] 3)).heap.size = wr.heap.size + 1 := by simp
        have OW2 := Lib.hid (own_kp (own_kp HOW.out W2) W3)
        have BX := Lib.hid (box_cell wr (.int .i64 kk) 3)
        have EL := box_cell (wr.alloc (.cells #[.int .i64 kk] 3)) (.func (.func 36) #[] #[.pointer (some ⟨wr.heap.size, 0, none⟩), .pointer (some ⟨w.heap.size, 0, none⟩)]) 1
        rw [hs1] at EL
        have HEL2 := Lib.hid EL
        have HW := Lib.hid (Kp.trans W2 W3)
        have b0 := BX.out
        clear W2 W3 hs1 EL
        go_wp2_with (at_builtin; refine wpList_append_own _ rfl _ _ 36 rfl w.heap.size 1 i0 .nilFunc 1 8 Tryd.underlying36 HI2.out HI3.out HI.out.1 HI.out.2 rfl (by decide) _ _ _ rfl OW2.out ⟨wr.heap.size + 1, 0, none⟩ 1 1 [.func (.func 36) #[] #[.pointer (some ⟨wr.heap.size, 0, none⟩), .pointer (some ⟨w.heap.size, 0, none⟩)]] rfl ?c1 ?c2 ?c3 ?c4 ?c5 ?c6 ?_)
        case c1 => rfl
        case c2 =>
          intro i u hi
          match i, hi with
          | 0, hi => simp at hi; subst hi; rw [add_plain]; exact HEL2.out
        case c3 => intro u hu; simp at hu; subst hu; rfl
        case c4 => unfold maxLen; omega
        case c5 => omega
        case c6 => have := HSZ.out; simp; omega
        rintro v' w5 hown5 hgr hnil
        have hjj := HJ.out
        have hnn5 : v' ≠ .slice none 0 0 := by first | exact hnil | exact (fun h => HNN.out (hnil.1 h).1)
        have hk5 := HKP.out
        have grow := acts_grow (OW2.out) HNN.out hgr
        have kp5 : Kp w w5 := acts_kp OW2.out HNN.out hgr (Kp.trans hk5 HW.out)
        have act5 := acts_next (pc := pc) HACT.out HW.out grow (HLN.out) (acts_new h21 HKK.out HPC.out HPB.out)
        have pb5 : w5.heap[w.heap.size]? = some (.cells #[.pointer (some pc)] 25 (0, 0)) := grow w.heap.size _ _ (by rw [Below.block HW.out _ HSZ.out]; exact HPB.out) (by decide)
        have own5 : w5.ownsRow w.heap.size 1 1 v' (j + 1) (xs ++ [.func (.func 36) #[] #[.pointer (some ⟨wr.heap.size, 0, none⟩), .pointer (some ⟨w.heap.size, 0, none⟩)]]) := hown5
        go_wp2
        go_roundw
        case rel => exact ⟨j + 1, xs ++ [.func (.func 36) #[] #[.pointer (some ⟨wr.heap.size, 0, none⟩), .pointer (some ⟨w.heap.size, 0, none⟩)]], by omega, by congr 1; omega, own5, hnn5, act5, kp5, pb5⟩
        case measure => simp [intOf]; omega

    · obtain rfl : j = len := by omega
      have hex : ¬ jj < j := by omega
      clear hjj
      go_wp2
      go_ret
      exact ⟨_, rfl, xs, row_slv HOW.out HNN.out, HXL.out, HACT.out, HKP.out⟩
end Go.Proofs.YtcgcliglcdfijaaDoor
