/-
  PARTS OF THIS PROOF (own work): Val, FlB, FlQ, Dig, Len, NumF, ToNum, RefQ, Row, JoinF, JoinG, Take, FltF.
-/
import Derived.Test.YtahdoniggipmmaaGreatDoorPkA
import Derived.Test.YtahdoniggipmmaaGreatDoorPkD
import Derived.Laws.Bits64b
import Derived.Lib.SliceRun
import Derived.Test.YtahdoniggipmmaaGreatDoorPkB
import Derived.WalkLawsBesides
import Derived.Laws.BitsAllLaws
import Derived.Laws.Externs
import Derived.Lib.Hide
import Derived.Laws.OwnMore
import Derived.Shelf.Small.Bits
import Derived.Ground.NamesProg
import Derived.Test.YtahdoniggipmmaaGreatDoorProg
import Derived.Lib.ItoaNum
import Derived.BigQuiet
import Derived.StillTailTactics
import Derived.Deep.RegionWith
import Derived.OneCell

namespace Go.Proofs.YtahdoniggipmmaaGreatDoor
open Go.RowKit Go.ChangeShapes Go.WideShapes

/-- A panic of the text's own, with an error. -/
theorem run_panic_some {P : Program} (t : TypeId) (v : Value) (w : World) : (Instr.panic (.iface t v)).run P w = .halt (.panic (.iface t v)) w := rfl

theorem demand_t (v : Value) (w : World) : Calls Tryz.prog 60 #[.bool true, v] w fun e w' => e = .returned (.tuple #[]) ∧ w = w' := by
  go_enter Tryz.func60, Tryz.ntmps60
  go_wp2
  go_end0
  exact ⟨rfl, rfl⟩

theorem demand_f (a : Addr) (w : World) : Calls Tryz.prog 60 #[.bool false, snt a] w fun e w' => e = .panicked [{ v := snt a, recovered := false }] ∧ w = w' := by
  have hpn := run_panic_some (P := Tryz.prog) 166 (.pointer (some a)) w
  go_enter Tryz.func60, Tryz.ntmps60
  go_wp2
  exact ⟨rfl, rfl, rfl⟩

theorem or8 {u c : Int} (hu : 0 ≤ u ∧ u < 72057594037927936) (hc : 0 ≤ c ∧ c < 256) : bits .or .u64 (u * 256) c = 256 * u + c := by
  obtain ⟨x, rfl⟩ : ∃ x : Nat, u = x := ⟨u.toNat, by omega⟩
  obtain ⟨y, rfl⟩ : ∃ y : Nat, c = y := ⟨c.toNat, by omega⟩
  have e : ((x : Int) * 256) = ((256 * x : Nat) : Int) := by omega
  rw [e, bits_or_u64_nat _ _ (by omega) (by omega)]
  have := Nat.two_pow_add_eq_or_of_lt (i := 8) (show y < 2 ^ 8 by omega) x
  rw [show (2 : Nat) ^ 8 = 256 from rfl] at this
  rw [← this]
  omega

set_option maxRecDepth 100000 in
theorem value_any (a : Option Addr) (cap : Nat) (bs : List Int) (len : Nat) (hlen : bs.length = len) (hl : len ≤ 8) (hb : InB bs) (w : World) (hs : SlB (.slice a len cap) bs w) :
    Calls Tryz.prog 76 #[.slice a len cap] w fun e w' => e = .returned (.int .u64 (beNum bs)) ∧ w = w' := by
  have hel : ∀ j (hj : j < bs.length), ∃ b off, a = some ⟨b, off, none⟩ ∧ w.cell? ⟨b, off + j, none⟩ = some (.int .u8 (bs.getD j 0)) := fun j hj => hs.at j hj
  have hr := beNum_range hb
  have hn := fun j (h : j < bs.length) => beNum_next h
  have HEL := Lib.hid hel
  have HR := Lib.hid hr
  have HNX := Lib.hid hn
  have HB := Lib.hid hb
  have HL := Lib.hid hlen
  clear hel hs hr hn hb hlen
  go_enter Tryz.func76, Tryz.ntmps76
  go_wp2
  go_loop [3, 8] (fun u i => ∃ j : Nat, j ≤ len ∧ i = .int .i64 j ∧ u = .int .u64 (beNum (bs.take j))) (fun _ i => len - (intOf i).toNat)
  case atStart => exact ⟨0, Nat.zero_le _, rfl, rfl⟩
  case round =>
    obtain ⟨j, hj, rfl, rfl⟩ := hrel
    obtain ⟨jj, hjj⟩ : ∃ jj : Int, (j : Int) = jj := ⟨_, rfl⟩
    obtain ⟨uu, huu⟩ : ∃ uu, beNum (bs.take j) = uu := ⟨_, rfl⟩
    rw [hjj, huu]
    have hl' := HL.out
    by_cases hlt : j < len
    · have hjl : j < bs.length := by omega
      obtain ⟨b2, off2, rfl, hc2⟩ := HEL.out j hjl
      have hnx := HNX.out j hjl
      have hbb := HB.out bs[j] (List.getElem_mem _)
      have hru := HR.out j (by omega)
      obtain ⟨y, hy⟩ : ∃ y, bs[j] = y := ⟨_, rfl⟩
      have hy2 : bs.getD j 0 = y := by simp [List.getD, hjl, hy]
      rw [hy2] at hc2
      rw [hy] at hnx hbb
      rw [huu] at hnx hru
      have hp7 : (256 : Int) ^ j ≤ 256 ^ 7 := p256_le (by omega)
      have e7 : (256 : Int) ^ 7 = 72057594037927936 := by decide
      have hub : 0 ≤ uu ∧ uu < 72057594037927936 := by omega
      have ej : jj.toNat = j := by omega
      rw [← ej] at hc2
      have hj0 : 0 ≤ jj := by omega
      have hltj : jj < len := by omega
      have hor := or8 hub hbb
      have HJ := Lib.hid hjj
      have HNXT := Lib.hid hnx
      clear hjj huu hnx hru hp7 e7 hy hy2 ej hlt hjl hl'
      go_wp2
      have hjj := HJ.out
      go_round
      case rel =>
        refine ⟨j + 1, by omega, by congr 1; omega, ?_⟩
        rw [HNXT.out]
      case measure => simp [intOf]; omega
    · obtain rfl : j = len := by omega
      have hex : ¬ jj < j := by omega
      have hful : bs.take j = bs := by rw [List.take_of_length_le]; omega
      rw [hful] at huu
      subst huu
      clear hjj hful hl'
      go_wp2
      go_ret
      exact ⟨rfl, rfl⟩

set_option maxRecDepth 20000 in
theorem clone_nil (w : World) : Calls Tryz.prog 77 #[.slice none 0 0] w fun e w' => e = .returned (.slice none 0 0) ∧ w = w' := by
  have hq : (binOp .eql 29 (.slice none 0 0) (.slice none 0 0)).run Tryz.prog w = .ok (.bool true) w := by
    rw [run_eql_nil_slice w 29 5 none 0 0 0 0 Tryz.underlying29]; rfl
  go_enter Tryz.func77, Tryz.ntmps77
  go_wp2
  go_ret
  exact ⟨rfl, rfl⟩

set_option maxRecDepth 20000 in
theorem clone_any (v : Value) (bs : List Int) (hl : bs.length ≤ 1000000) (w : World) (hs : SlB v bs w) :
    Calls Tryz.prog 77 #[v] w fun e w' => ∃ v', e = .returned v' ∧ w'.ownsRow w.heap.size 5 1 v' bs.length (bs.map (Value.int .u8)) ∧ Kp w w' := by
  obtain ⟨a, cap, rfl⟩ := hs.form
  cases a with
  | none =>
    obtain ⟨h0, rfl⟩ := hs.app.1 rfl
    have hbs : bs = [] := List.length_eq_zero_iff.1 h0
    subst hbs
    refine (clone_nil w).mono ?_
    rintro e w' ⟨rfl, rfl⟩
    exact ⟨_, rfl, ⟨by simp, .inl ⟨rfl, rfl⟩⟩, Kp.refl _⟩
  | some ad =>
    obtain ⟨len, hlen⟩ : ∃ n, bs.length = n := ⟨_, rfl⟩
    rw [hlen] at hs hl ⊢
    have OW0 := Lib.hid (own_empty w 5)
    have HS0 := Lib.hid (hs.kp (kp_alloc w (.cells #[] 5)))
    have K0 := Lib.hid (kp_alloc w (.cells #[] 5))
    have hq : (binOp .eql 29 (.slice (some ad) len cap) (.slice none 0 0)).run Tryz.prog w = .ok (.bool false) w := by
      rw [Lib.run_eql_slice_nil w 29 5 (some ad) len cap 0 0 Tryz.underlying29]; rfl
    clear hs
    go_enter Tryz.func77, Tryz.ntmps77
    go_wp2_with (at_builtin; refine wpList_append_slb _ rfl (.tmp 5) (.tmp 6) rfl w.heap.size _ _ _ rfl OW0.out (some ad) len cap bs rfl HS0.out ?d1 ?d2 ?_)
    case d1 => omega
    case d2 => exact Below.size K0.out
    rintro v5 w5 hown5 hgr5 -
    have kp5 : Kp w w5 := row_kp OW0.out hgr5 K0.out
    have HO := Lib.hid hown5
    have HK := Lib.hid kp5
    clear hown5 hgr5 kp5
    go_wp2
    go_ret
    refine ⟨_, rfl, ?_, HK.out⟩
    simpa using HO.out
end Go.Proofs.YtahdoniggipmmaaGreatDoor

namespace Go.Proofs.YtahdoniggipmmaaGreatDoor
open Go.RowKit

theorem bits_any (b : Nat) (w : World) (hb : b < 18446744073709551616) :
    Calls Tryz.prog 55 #[.float .f64 b] w fun e w' => e = .returned (.int .u64 (Fl.plain b)) ∧ w = w' := by
  have e1 := ext_bits
  go_enter Tryz.func55, Tryz.ntmps55
  go_wp2_with (go_at_call 85; (with_reducible refine (plain_any _ _ hb).mono ?_); rintro e w' ⟨rfl, rfl⟩)
  go_ret
  exact ⟨rfl, rfl⟩
end Go.Proofs.YtahdoniggipmmaaGreatDoor

namespace Go.Proofs.YtahdoniggipmmaaGreatDoor
open Go.RowKit Go.ChangeShapes Go.WideShapes

/-- the i-th byte of a number from the low end; the eight of a word, the high one first -/
def fb (n i : Nat) : Int := ((n / 256 ^ i % 256 : Nat) : Int)
def f8 (n : Nat) : List Int := [fb n 7, fb n 6, fb n 5, fb n 4, fb n 3, fb n 2, fb n 1, fb n 0]

set_option maxRecDepth 100000 in
set_option maxHeartbeats 2000000 in
theorem refFloat_own (b : Nat) (hb : b < 18446744073709551616) (w : World) :
    Calls Tryz.prog 46 #[.float .f64 b] w fun e w' => ∃ v, e = .returned v ∧ w'.ownsRow w.heap.size 5 1 v 8 ((f8 (Fl.plain b)).map (Value.int .u8)) ∧ Kp w w' := by
  obtain ⟨i0, hi, hz0, hz1, hz2⟩ := info_parts info_byte
  obtain ⟨p, hp⟩ : ∃ p, Fl.plain b = p := ⟨_, rfl⟩
  obtain ⟨pp, hpp⟩ : ∃ pp : Int, (p : Int) = pp := ⟨_, rfl⟩
  have RB : ∀ w, Calls Tryz.prog 49 #[.float .f64 b] w fun e w' => e = .returned (.int .u64 pp) ∧ w = w' := by
    intro w; rw [← hpp, ← hp]; exact refBits_any b w hb
  rw [hp]
  have HR := Lib.hid RB
  have HP := Lib.hid hpp
  have HI := Lib.hid (And.intro hz1 hz2)
  have HI2 := Lib.hid hi
  have HI3 := Lib.hid hz0
  have OW0 := Lib.hid (own_empty w 5)
  have K0 := Lib.hid (kp_alloc w (.cells #[] 5))
  clear RB hb hp hpp hi hz0 hz1 hz2
  go_enter Tryz.func46, Tryz.ntmps46
  go_wp2_with (go_at_call 49; (with_reducible refine (HR.out _).mono ?_); rintro e w' ⟨rfl, rfl⟩)
  refine wp_loop_rounds 9 ?_
  rw [rounds_succ]
  go_wp2_with (at_builtin; refine wpList_append_own _ rfl (.tmp 13) (.tmp 20) 29 rfl w.heap.size 5 i0 (.int .u8 0) 1 1 Tryz.underlying29 HI2.out HI3.out HI.out.1 HI.out.2 rfl (by decide) _ _ _ rfl (own_kp OW0.out (kp_alloc (w.alloc (.cells #[] 5)) (.cells #[.int .u8 (pp / 72057594037927936 % 256)] 5))) ⟨w.heap.size + 1, 0, none⟩ 1 1 [.int .u8 (pp / 72057594037927936 % 256)] rfl ?a1 ?a2 ?a3 ?a4 ?a5 ?a6 ?_)
  case a1 => rfl
  case a2 =>
    intro i u hi
    match i, hi with
    | 0, hi => simp at hi; subst hi; rw [add_plain]; simp
  case a3 => intro u hu; simp at hu; subst hu; rfl
  case a4 => unfold maxLen; omega
  case a5 => omega
  case a6 => have := Below.size K0.out; simp at this ⊢; omega
  rintro v1 w1 ho hg -
  have K1 := Lib.hid (row_kp (own_kp OW0.out (kp_alloc (w.alloc (.cells #[] 5)) (.cells #[.int .u8 (pp / 72057594037927936 % 256)] 5))) hg (Kp.trans K0.out (kp_alloc (w.alloc (.cells #[] 5)) (.cells #[.int .u8 (pp / 72057594037927936 % 256)] 5))))
  have OW1 := Lib.hid ho
  clear ho hg
  go_wp2
  rw [rounds_succ]
  go_wp2_with (at_builtin; refine wpList_append_own _ rfl (.tmp 13) (.tmp 20) 29 rfl w.heap.size 5 i0 (.int .u8 0) 1 1 Tryz.underlying29 HI2.out HI3.out HI.out.1 HI.out.2 rfl (by decide) _ _ _ rfl (own_kp OW1.out (kp_alloc w1 (.cells #[.int .u8 (pp / 281474976710656 % 256)] 5))) ⟨w1.heap.size, 0, none⟩ 1 1 [.int .u8 (pp / 281474976710656 % 256)] rfl ?a1 ?a2 ?a3 ?a4 ?a5 ?a6 ?_)
  case a1 => rfl
  case a2 =>
    intro i u hi
    match i, hi with
    | 0, hi => simp at hi; subst hi; rw [add_plain]; exact box_cell _ _ _
  case a3 => intro u hu; simp at hu; subst hu; rfl
  case a4 => unfold maxLen; omega
  case a5 => omega
  case a6 => have := Below.size K1.out; simp at this ⊢; omega
  rintro v2 w2 ho hg -
  have K2 := Lib.hid (row_kp (own_kp OW1.out (kp_alloc w1 (.cells #[.int .u8 (pp / 281474976710656 % 256)] 5))) hg (Kp.trans K1.out (kp_alloc w1 (.cells #[.int .u8 (pp / 281474976710656 % 256)] 5))))
  have OW2 := Lib.hid ho
  clear ho hg
  go_wp2
  rw [rounds_succ]
  go_wp2_with (at_builtin; refine wpList_append_own _ rfl (.tmp 13) (.tmp 20) 29 rfl w.heap.size 5 i0 (.int .u8 0) 1 1 Tryz.underlying29 HI2.out HI3.out HI.out.1 HI.out.2 rfl (by decide) _ _ _ rfl (own_kp OW2.out (kp_alloc w2 (.cells #[.int .u8 (pp / 1099511627776 % 256)] 5))) ⟨w2.heap.size, 0, none⟩ 1 1 [.int .u8 (pp / 1099511627776 % 256)] rfl ?a1 ?a2 ?a3 ?a4 ?a5 ?a6 ?_)
  case a1 => rfl
  case a2 =>
    intro i u hi
    match i, hi with
    | 0, hi => simp at hi; subst hi; rw [add_plain]; exact box_cell _ _ _
  case a3 => intro u hu; simp at hu; subst hu; rfl
  case a4 => unfold maxLen; omega
  case a5 => omega
  case a6 => have := Below.size K2.out; simp at this ⊢; omega
  rintro v3 w3 ho hg -
  have K3 := Lib.hid (row_kp (own_kp OW2.out (kp_alloc w2 (.cells #[.int .u8 (pp / 1099511627776 % 256)] 5))) hg (Kp.trans K2.out (kp_alloc w2 (.cells #[.int .u8 (pp / 1099511627776 % 256)] 5))))
  have OW3 := Lib.hid ho
  clear ho hg
  go_wp2
  rw [rounds_succ]
  go_wp2_with (at_builtin; refine wpList_append_own _ rfl (.tmp 13) (.tmp 20) 29 rfl w.heap.size 5 i0 (.int .u8 0) 1 1 Tryz.underlying29 HI2.out HI3.out HI.out.1 HI.out.2 rfl (by decide) _ _ _ rfl (own_kp OW3.out (kp_alloc w3 (.cells #[.int .u8 (pp / 4294967296 % 256)] 5))) ⟨w3.heap.size, 0, none⟩ 1 1 [.int .u8 (pp / 4294967296 % 256)] rfl ?a1 ?a2 ?a3 ?a4 ?a5 ?a6 ?_)
  case a1 => rfl
  case a2 =>
    intro i u hi
    match i, hi with
    | 0, hi => simp at hi; subst hi; rw [add_plain]; exact box_cell _ _ _
  case a3 => intro u hu; simp at hu; subst hu; rfl
  case a4 => unfold maxLen; omega
  case a5 => omega
  case a6 => have := Below.size K3.out; simp at this ⊢; omega
  rintro v4 w4 ho hg -
  have K4 := Lib.hid (row_kp (own_kp OW3.out (kp_alloc w3 (.cells #[.int .u8 (pp / 4294967296 % 256)] 5))) hg (Kp.trans K3.out (kp_alloc w3 (.cells #[.int .u8 (pp / 4294967296 % 256)] 5))))
  have OW4 := Lib.hid ho
  clear ho hg
  go_wp2
  rw [rounds_succ]
  go_wp2_with (at_builtin; refine wpList_append_own _ rfl (.tmp 13) (.tmp 20) 29 rfl w.heap.size 5 i0 (.int .u8 0) 1 1 Tryz.underlying29 HI2.out HI3.out HI.out.1 HI.out.2 rfl (by decide) _ _ _ rfl (own_kp OW4.out (kp_alloc w4 (.cells #[.int .u8 (pp / 16777216 % 256)] 5))) ⟨w4.heap.size, 0, none⟩ 1 1 [.int .u8 (pp / 16777216 % 256)] rfl ?a1 ?a2 ?a3 ?a4 ?a5 ?a6 ?_)
  case a1 => rfl
  case a2 =>
    intro i u hi
    match i, hi with
    | 0, hi => simp at hi; subst hi; rw [add_plain]; exact box_cell _ _ _
  case a3 => intro u hu; simp at hu; subst hu; rfl
  case a4 => unfold maxLen; omega
  case a5 => omega
  case a6 => have := Below.size K4.out; simp at this ⊢; omega
  rintro v5 w5 ho hg -
  have K5 := Lib.hid (row_kp (own_kp OW4.out (kp_alloc w4 (.cells #[.int .u8 (pp / 16777216 % 256)] 5))) hg (Kp.trans K4.out (kp_alloc w4 (.cells #[.int .u8 (pp / 16777216 % 256)] 5))))
  have OW5 := Lib.hid ho
  clear ho hg
  go_wp2
  rw [rounds_succ]
  go_wp2_with (at_builtin; refine wpList_append_own _ rfl (.tmp 13) (.tmp 20) 29 rfl w.heap.size 5 i0 (.int .u8 0) 1 1 Tryz.underlying29 HI2.out HI3.out HI.out.1 HI.out.2 rfl (by decide) _ _ _ rfl (own_kp OW5.out (kp_alloc w5 (.cells #[.int .u8 (pp / 65536 % 256)] 5))) ⟨w5.heap.size, 0, none⟩ 1 1 [.int .u8 (pp / 65536 % 256)] rfl ?a1 ?a2 ?a3 ?a4 ?a5 ?a6 ?_)
  case a1 => rfl
  case a2 =>
    intro i u hi
    match i, hi with
    | 0, hi => simp at hi; subst hi; rw [add_plain]; exact box_cell _ _ _
  case a3 => intro u hu; simp at hu; subst hu; rfl
  case a4 => unfold maxLen; omega
  case a5 => omega
  case a6 => have := Below.size K5.out; simp at this ⊢; omega
  rintro v6 w6 ho hg -
  have K6 := Lib.hid (row_kp (own_kp OW5.out (kp_alloc w5 (.cells #[.int .u8 (pp / 65536 % 256)] 5))) hg (Kp.trans K5.out (kp_alloc w5 (.cells #[.int .u8 (pp / 65536 % 256)] 5))))
  have OW6 := Lib.hid ho
  clear ho hg
  go_wp2
  rw [rounds_succ]
  go_wp2_with (at_builtin; refine wpList_append_own _ rfl (.tmp 13) (.tmp 20) 29 rfl w.heap.size 5 i0 (.int .u8 0) 1 1 Tryz.underlying29 HI2.out HI3.out HI.out.1 HI.out.2 rfl (by decide) _ _ _ rfl (own_kp OW6.out (kp_alloc w6 (.cells #[.int .u8 (pp / 256 % 256)] 5))) ⟨w6.heap.size, 0, none⟩ 1 1 [.int .u8 (pp / 256 % 256)] rfl ?a1 ?a2 ?a3 ?a4 ?a5 ?a6 ?_)
  case a1 => rfl
  case a2 =>
    intro i u hi
    match i, hi with
    | 0, hi => simp at hi; subst hi; rw [add_plain]; exact box_cell _ _ _
  case a3 => intro u hu; simp at hu; subst hu; rfl
  case a4 => unfold maxLen; omega
  case a5 => omega
  case a6 => have := Below.size K6.out; simp at this ⊢; omega
  rintro v7 w7 ho hg -
  have K7 := Lib.hid (row_kp (own_kp OW6.out (kp_alloc w6 (.cells #[.int .u8 (pp / 256 % 256)] 5))) hg (Kp.trans K6.out (kp_alloc w6 (.cells #[.int .u8 (pp / 256 % 256)] 5))))
  have OW7 := Lib.hid ho
  clear ho hg
  go_wp2
  rw [rounds_succ]
  go_wp2_with (at_builtin; refine wpList_append_own _ rfl (.tmp 13) (.tmp 20) 29 rfl w.heap.size 5 i0 (.int .u8 0) 1 1 Tryz.underlying29 HI2.out HI3.out HI.out.1 HI.out.2 rfl (by decide) _ _ _ rfl (own_kp OW7.out (kp_alloc w7 (.cells #[.int .u8 (pp % 256)] 5))) ⟨w7.heap.size, 0, none⟩ 1 1 [.int .u8 (pp % 256)] rfl ?a1 ?a2 ?a3 ?a4 ?a5 ?a6 ?_)
  case a1 => rfl
  case a2 =>
    intro i u hi
    match i, hi with
    | 0, hi => simp at hi; subst hi; rw [add_plain]; exact box_cell _ _ _
  case a3 => intro u hu; simp at hu; subst hu; rfl
  case a4 => unfold maxLen; omega
  case a5 => omega
  case a6 => have := Below.size K7.out; simp at this ⊢; omega
  rintro v8 w8 ho hg -
  have K8 := Lib.hid (row_kp (own_kp OW7.out (kp_alloc w7 (.cells #[.int .u8 (pp % 256)] 5))) hg (Kp.trans K7.out (kp_alloc w7 (.cells #[.int .u8 (pp % 256)] 5))))
  have OW8 := Lib.hid ho
  clear ho hg
  go_wp2
  rw [rounds_succ]
  go_wp2
  go_ret
  refine ⟨_, rfl, ?_, K8.out⟩
  have e : f8 p = [pp / 72057594037927936 % 256, pp / 281474976710656 % 256, pp / 1099511627776 % 256, pp / 4294967296 % 256, pp / 16777216 % 256, pp / 65536 % 256, pp / 256 % 256, pp % 256] := by
    have := HP.out
    subst this
    simp [f8, fb]
  rw [e]
  exact OW8.out
theorem refFloat_any (b : Nat) (hb : b < 18446744073709551616) (w : World) :
    Calls Tryz.prog 46 #[.float .f64 b] w fun e w' => ∃ v, e = .returned v ∧ SlB v (f8 (Fl.plain b)) w' ∧ Kp w w' :=
  (refFloat_own b hb w).mono (by
    rintro e w' ⟨v, rfl, ho, hk⟩
    exact ⟨v, rfl, own_slb ho, hk⟩)

/-- WHAT ToFloat ANSWERS: the word, the error's number. -/
def toFl (bs : List Int) : Nat × Int := if bs.length = 8 ∧ Fl.plain (beNum bs).toNat = (beNum bs).toNat then ((beNum bs).toNat, 0) else (0, 4)

set_option maxRecDepth 100000 in
set_option maxHeartbeats 1000000 in
theorem refToFloat_any (a : Option Addr) (cap : Nat) (bs : List Int) (len : Nat) (hlen : bs.length = len) (hl : len ≤ 100000) (hb : InB bs) (w : World) (hs : SlB (.slice a len cap) bs w) :
    Calls Tryz.prog 51 #[.slice a len cap] w fun e w' => e = .returned (.tuple #[.float .f64 (toFl bs).1, .int .i64 (toFl bs).2]) ∧ w = w' := by
  by_cases h8 : len = 8
  · subst h8
    have hel : ∀ j (hj : j < bs.length), ∃ b off, a = some ⟨b, off, none⟩ ∧ w.cell? ⟨b, off + j, none⟩ = some (.int .u8 (bs.getD j 0)) := fun j hj => hs.at j hj
    have hr := beNum_range hb
    have hn := fun j (h : j < bs.length) => beNum_next h
    obtain ⟨F, hF⟩ : ∃ F, beNum bs = F := ⟨_, rfl⟩
    have hF64 : 0 ≤ F ∧ F < 18446744073709551616 := by
      have h := hr bs.length (Nat.le_refl _)
      rw [List.take_length, hF] at h
      have hp8 : (256 : Int) ^ bs.length ≤ 256 ^ 8 := p256_le (by omega)
      have e8 : (256 : Int) ^ 8 = 18446744073709551616 := by decide
      omega
    obtain ⟨N, hN⟩ : ∃ N, F.toNat = N := ⟨_, rfl⟩
    have hN64 : N < 18446744073709551616 := by omega
    obtain ⟨PP, hPP⟩ : ∃ PP : Int, ((Fl.plain N : Nat) : Int) = PP := ⟨_, rfl⟩
    have RB : ∀ w, Calls Tryz.prog 49 #[.float .f64 N] w fun e w' => e = .returned (.int .u64 PP) ∧ w = w' := by
      intro w; rw [← hPP]; exact refBits_any N w hN64
    have hret : toFl bs = if PP = F then (N, 0) else (0, 4) := by
      unfold toFl
      rw [hF, hN]
      by_cases q : PP = F
      · rw [if_pos q, if_pos ⟨hlen, by omega⟩]
      · rw [if_neg q, if_neg (fun h => q (by have := h.2; omega))]
    obtain ⟨ret, hr2⟩ : ∃ ret, toFl bs = ret := ⟨_, rfl⟩
    rw [hr2] at hret ⊢
    have e1 : ∀ w, (callFunc 83 #[.int .u64 F]).run Tryz.prog w = .ok (.value (.float .f64 N)) w := by
      intro w; rw [← hN]; exact ext_fromI F w
    have HEL := Lib.hid hel
    have HR := Lib.hid hr
    have HNX := Lib.hid hn
    have HB := Lib.hid hb
    have HF := Lib.hid hF
    have HL := Lib.hid hlen
    have HRET := Lib.hid hret
    have HRB := Lib.hid RB
    clear hel hs hr hn hb hF hlen hN hN64 hPP RB hret hr2
    go_enter Tryz.func51, Tryz.ntmps51
    go_wp2
    go_loop [4, 13] (fun u i => ∃ j : Nat, j ≤ 8 ∧ i = .int .i64 j ∧ u = .int .u64 (beNum (bs.take j))) (fun _ i => 8 - (intOf i).toNat)
    case atStart => exact ⟨0, Nat.zero_le _, rfl, rfl⟩
    case round =>
      obtain ⟨j, hj, rfl, rfl⟩ := hrel
      obtain ⟨jj, hjj⟩ : ∃ jj : Int, (j : Int) = jj := ⟨_, rfl⟩
      obtain ⟨uu, huu⟩ : ∃ uu, beNum (bs.take j) = uu := ⟨_, rfl⟩
      rw [hjj, huu]
      have hl := HL.out
      by_cases hlt : j < 8
      · have hjl : j < bs.length := by omega
        obtain ⟨b2, off2, rfl, hc2⟩ := HEL.out j hjl
        have hnx := HNX.out j hjl
        have hbb := HB.out bs[j] (List.getElem_mem _)
        have hru := HR.out j (by omega)
        obtain ⟨y, hy⟩ : ∃ y, bs[j] = y := ⟨_, rfl⟩
        have hy2 : bs.getD j 0 = y := by simp [List.getD, hjl, hy]
        rw [hy2] at hc2
        rw [hy] at hnx hbb
        rw [huu] at hnx hru
        have hp7 : (256 : Int) ^ j ≤ 256 ^ 7 := p256_le (by omega)
        have e7 : (256 : Int) ^ 7 = 72057594037927936 := by decide
        have hub : 0 ≤ uu ∧ uu < 72057594037927936 := by omega
        have ej : jj.toNat = j := by omega
        rw [← ej] at hc2
        have hj0 : 0 ≤ jj := by omega
        have hltj : jj < 8 := by omega
        have HJ := Lib.hid hjj
        have HNXT := Lib.hid hnx
        clear hjj huu hnx hru hp7 e7 hy hy2 ej hlt hjl hl
        go_wp2
        have hjj := HJ.out
        go_round
        case rel =>
          refine ⟨j + 1, by omega, by congr 1; omega, ?_⟩
          rw [HNXT.out]
        case measure => simp [intOf]; omega
      · obtain rfl : j = 8 := by omega
        have hex : ¬ jj < 8 := by omega
        have hful : bs.take 8 = bs := by rw [List.take_of_length_le]; omega
        rw [hful, HF.out] at huu
        subst huu
        clear hful hl
        by_cases hq : PP = F
        · obtain rfl : ret = (N, 0) := by rw [HRET.out, if_pos hq]
          have hb : (PP != F) = false := by simp; exact hq
          clear hq
          go_wp2_with (go_at_call 49; (with_reducible refine (HRB.out _).mono ?_); rintro e w' ⟨rfl, rfl⟩)
          go_ret2
          exact ⟨rfl, rfl⟩
        · obtain rfl : ret = (0, 4) := by rw [HRET.out, if_neg hq]
          have hb : (PP != F) = true := by simp; exact hq
          go_wp2_with (go_at_call 49; (with_reducible refine (HRB.out _).mono ?_); rintro e w' ⟨rfl, rfl⟩)
          go_ret2
          exact ⟨rfl, rfl⟩
  · have e : toFl bs = (0, 4) := by unfold toFl; rw [if_neg (fun h => h8 (by omega))]
    rw [e]
    obtain ⟨ll, hll⟩ : ∃ ll : Int, (len : Int) = ll := ⟨_, rfl⟩
    have hne : (ll != 8) = true := by simp; omega
    clear e hs hb
    go_enter Tryz.func51, Tryz.ntmps51
    go_wp2
    go_ret2
    exact ⟨rfl, rfl⟩
end Go.Proofs.YtahdoniggipmmaaGreatDoor

namespace Go.Proofs.YtahdoniggipmmaaGreatDoor
open Go.RowKit Go.ChangeShapes Go.WideShapes

/-- the n lowest bytes of x, the high one first; those that are laid behind i rounds -/
def digB (x n : Nat) : List Int := (List.range n).map fun p => fb x (n - 1 - p)
def digP (x n i : Nat) : List Value := (List.range n).map fun p => Value.int .u8 (if n - 1 - p < i then fb x (n - 1 - p) else 0)
theorem digP_len (x n i : Nat) : (digP x n i).length = n := by simp [digP]
theorem digP_full (x n : Nat) : digP x n n = (digB x n).map (Value.int .u8) := by
  unfold digP digB
  rw [List.map_map]
  refine List.map_congr_left fun p hp => ?_
  have := List.mem_range.1 hp
  simp only [Function.comp]
  rw [if_pos (by omega)]
theorem digP_next (x n i : Nat) (h : i < n) : (digP x n i).set (n - 1 - i) (.int .u8 (fb x i)) = digP x n (i + 1) := by
  refine List.ext_getElem (by simp [digP]) fun p h1 h2 => ?_
  have hp : p < n := by simpa [digP] using h2
  rw [List.getElem_set]
  split
  · rename_i e
    subst e
    have q : n - 1 - (n - 1 - i) = i := by omega
    simp [digP, q]
  · rename_i e
    simp only [digP, List.getElem_map, List.getElem_range]
    congr 1
    by_cases g : n - 1 - p < i
    · rw [if_pos g, if_pos (by omega)]
    · rw [if_neg g, if_neg (by omega)]

theorem shr_fb (x j : Nat) : (x : Int) / 2 ^ (8 * (j : Int)).toNat % 256 = fb x j := by
  have e : (8 * (j : Int)).toNat = 8 * j := by omega
  rw [e]
  have e2 : (2 : Int) ^ (8 * j) = ((256 ^ j : Nat) : Int) := by
    rw [Int.natCast_pow, show ((256 : Nat) : Int) = 2 ^ 8 from rfl, ← Int.pow_mul]
  rw [e2]
  unfold fb
  omega

theorem made_rep (z : Value) (n : Nat) : (madeCells #[z] n).toList = List.replicate n z := by
  rw [List.eq_replicate_iff]
  refine ⟨by simp [madeCells], fun b hb => ?_⟩
  simp [madeCells] at hb
  obtain ⟨p, _, h⟩ := hb
  rw [← h]
  simp [Nat.mod_one]

set_option maxRecDepth 100000 in
set_option maxHeartbeats 2000000 in
theorem digits_any (x n : Nat) (hx : x < 18446744073709551616) (hn : n ≤ 8) (xx nn : Int) (hxx : (x : Int) = xx) (hnn : (n : Int) = nn) (w : World) :
    Calls Tryz.prog 61 #[.int .u64 xx, .int .i64 nn] w fun e w' => e = .returned (.slice (some ⟨w.heap.size, 0, none⟩) n n) ∧ w'.ownsRow w.heap.size 5 1 (.slice (some ⟨w.heap.size, 0, none⟩) n n) n ((digB x n).map (Value.int .u8)) ∧ Kp w w' := by
  obtain ⟨i0, hi, hz0, hz1, hz2⟩ := info_parts info_byte
  have hfull := digP_full x n
  have hxb : 0 ≤ xx ∧ xx < 18446744073709551616 := by omega
  have hnb : 0 ≤ nn ∧ nn ≤ 8 := by omega
  have HI := Lib.hid (And.intro hz1 hz2)
  have HI2 := Lib.hid hi
  have HI3 := Lib.hid hz0
  have HF := Lib.hid hfull
  have HX := Lib.hid hxx
  have HN := Lib.hid hnn
  clear hz1 hz2 hi hz0 hfull hxx hnn hx
  go_enter Tryz.func61, Tryz.ntmps61
  go_wp2_with (first | (refine wpList_make_full _ rfl _ _ 29 rfl w.heap.size 5 i0 (.int .u8 0) 1 Tryz.underlying29 HI2.out HI3.out HI.out.1 .i64 .i64 _ _ n rfl rfl ?m1 ?m2 ?m3 ?m4 ?m5 ?_))
  case m1 => exact HN.out.symm
  case m2 => exact HN.out.symm
  case m3 => rw [HI.out.2]; omega
  case m4 => unfold maxLen; omega
  case m5 => exact Nat.le_refl _
  rintro w1 hown1 hgr1
  have K1 : Hid (Kp w w1) := Lib.hid ((Below.refl _ _).grown hgr1 (Nat.le_refl _) (fun k hk => by cases hk))
  have h0 : w1.ownsRow w.heap.size 5 1 (.slice (some ⟨w.heap.size, 0, none⟩) n n) n (digP x n 0) := by
    have e : (madeCells #[.int .u8 0] n).toList = digP x n 0 := by
      have e1 : digP x n 0 = List.replicate n (.int .u8 0) := by
        unfold digP
        rw [List.eq_replicate_iff]
        refine ⟨by simp, fun b hb => ?_⟩
        obtain ⟨p, _, rfl⟩ := List.mem_map.1 hb
        simp
      rw [e1]
      exact made_rep _ _
    rw [← e]; exact hown1
  have OW1 := Lib.hid h0
  clear hown1 hgr1 h0
  go_wp2
  go_loopw [11] (fun i wr => ∃ j : Nat, j ≤ n ∧ i = .int .i64 j ∧ Kp w wr ∧ wr.ownsRow w.heap.size 5 1 (.slice (some ⟨w.heap.size, 0, none⟩) n n) n (digP x n j)) (fun i _ => n - (intOf i).toNat)
  case atStart => exact ⟨0, Nat.zero_le _, rfl, K1.out, OW1.out⟩
  case round =>
    obtain ⟨j, hj, rfl, hk, hown⟩ := hrel
    have HK := Lib.hid hk
    have HO := Lib.hid hown
    clear hk hown
    obtain ⟨jj, hjj⟩ : ∃ jj : Int, (j : Int) = jj := ⟨_, rfl⟩
    rw [hjj]
    have hnl := HN.out
    by_cases hlt : j < n
    · obtain ⟨pp, hpp⟩ : ∃ pp : Nat, n - 1 - j = pp := ⟨_, rfl⟩
      have hpn : pp < n := by omega
      have hc : wr.cell? ⟨w.heap.size, pp, none⟩ = some (.int .u8 0) := by
        rw [HO.out.cellAt pp (by omega)]
        have hl : pp < (digP x n j).length := by rw [digP_len]; exact hpn
        rw [List.getElem?_eq_getElem hl]
        simp only [digP, List.getElem_map, List.getElem_range]
        rw [if_neg (by omega)]
      have hz := HO.out.frozenAt pp
      have hst := (HO.out.stored pp (.int .u8 (fb x j)))
      rw [← hpp, digP_next x n j hlt, hpp] at hst
      have HST := Lib.hid hst.1
      have HGR := Lib.hid (Below.grown HK.out hst.2 (Below.size HK.out) (fun k hk => by injection hk with hk; omega))
      obtain ⟨fx, hfx⟩ : ∃ fx, fb x j = fx := ⟨_, rfl⟩
      rw [hfx] at HST HGR
      have HFX := Lib.hid hfx
      obtain ⟨qq, hqq⟩ : ∃ qq : Int, (pp : Int) = qq := ⟨_, rfl⟩
      have e1 : qq.toNat = pp := by omega
      have hdiff : nn - 1 - jj = qq := by omega
      have hq0 : 0 ≤ qq := by omega
      have hqn : qq < n := by omega
      have hltj : jj < n := by omega
      rw [← e1] at hc hz
      have HJ := Lib.hid hjj
      have HE1 := Lib.hid e1
      have hj8 : 0 ≤ jj ∧ jj < 8 := by omega
      clear hst hfx hjj hqq e1 hpp hpn hnl hlt
      go_wp2
      have hval : xx / 2 ^ (8 * jj).toNat % 256 = fx := by rw [← HFX.out, ← HX.out, ← HJ.out]; exact shr_fb x j
      rw [hval, HE1.out]
      have hjj := HJ.out
      go_roundw
      case rel => exact ⟨j + 1, by omega, by congr 1; omega, HGR.out, HST.out⟩
      case measure => simp [intOf]; omega
    · obtain rfl : j = n := by omega
      have hex : ¬ jj < j := by omega
      have HO2 := HO.out
      rw [HF.out] at HO2
      have HO3 := Lib.hid HO2
      clear HO2 hjj hnl hlt
      go_wp2
      go_ret
      exact ⟨rfl, HO3.out, HK.out⟩
end Go.Proofs.YtahdoniggipmmaaGreatDoor

namespace Go.Proofs
open Go.Shelf
def Tryz.lays129_ren : Go.Shelf.Ren := ⟨fun | 129 => 62 | n => n, fun | 53 => 73 | 3 => 3 | 4 => 4 | 46 => 52 | 5 => 5 | 9 => 9 | n => n, fun | n => n⟩
theorem Tryz.lays129 : Go.Proofs.Lays.n129 Tryz.prog Tryz.lays129_ren := {
  mixed := by kernel_rfl
  f129 := Tryz.func62.trans (congrArg some (by kernel_rfl))
  t3 := Tryz.underlying3
  a3 := Tryz.isAgg3
  z3 := Tryz.sizeOf3
  v3 := Tryz.zeroValue3
  t4 := Tryz.underlying4
  a4 := Tryz.isAgg4
  z4 := Tryz.sizeOf4
  v4 := Tryz.zeroValue4
  t5 := Tryz.underlying5
  a5 := Tryz.isAgg5
  z5 := Tryz.sizeOf5
  v5 := Tryz.zeroValue5
  t9 := Tryz.underlying9
  a9 := Tryz.isAgg9
  z9 := Tryz.sizeOf9
  v9 := Tryz.zeroValue9
  t46 := Tryz.underlying52
  a46 := Tryz.isAgg52
  z46 := Tryz.sizeOf52
  v46 := Tryz.zeroValue52
  t53 := Tryz.underlying73
  a53 := Tryz.isAgg73
  z53 := Tryz.sizeOf73
  v53 := Tryz.zeroValue73 }
end Go.Proofs

namespace Go.Proofs.YtahdoniggipmmaaGreatDoor
open Go.RowKit Go.ChangeShapes Go.WideShapes

/-- as many bytes as a number has -/
def nb (x : Nat) : Nat := (Lib.bitLen x + 7) / 8
theorem nb_zero : nb 0 = 0 := by decide
theorem nb_next (x : Nat) (h0 : x ≠ 0) (h : x < 18446744073709551616) : nb x = nb (x / 256) + 1 := by
  unfold nb
  rcases Nat.lt_or_ge x 256 with g | g
  · have e : x / 256 = 0 := by omega
    have h1 := Lib.bitLenAux_bounds 64 x h h0
    have h2 := Lib.bitLen_le8 ⟨x, g⟩
    have e0 : Lib.bitLen 0 = 0 := by decide
    rw [e, e0]
    unfold Lib.bitLen at h2 ⊢
    simp only at h2
    omega
  · rw [Lib.bitLen_shift8 x g h]
    omega
theorem nb_le (x : Nat) (h : x < 18446744073709551616) : nb x ≤ 8 := by
  unfold nb
  have := Lib.bitLen_le x 64 (by decide) h
  omega
theorem digB_next (x m : Nat) : digB x (m + 1) = digB (x / 256) m ++ [((x % 256 : Nat) : Int)] := by
  unfold digB
  rw [List.range_succ, List.map_append]
  congr 1
  · refine List.map_congr_left fun p hp => ?_
    have hp' := List.mem_range.1 hp
    have e : m + 1 - 1 - p = (m - 1 - p) + 1 := by omega
    rw [e]
    unfold fb
    rw [Nat.pow_succ, Nat.mul_comm, Nat.div_div_eq_div_mul]
  · simp [fb]
theorem beF_dig (k : Nat) : ∀ x, x < 256 ^ k → x < 18446744073709551616 → beF k x = digB x (nb x) := by
  induction k with
  | zero =>
    intro x h _
    obtain rfl : x = 0 := by simpa using h
    rfl
  | succ k ih =>
    intro x h h64
    by_cases h0 : x = 0
    · subst h0
      rfl
    · rw [beF, if_neg h0, nb_next x h0 h64, digB_next, ih (x / 256) (by rw [Nat.pow_succ] at h; omega) (by omega)]

theorem len64_any (x : Nat) (h : x < 18446744073709551616) (xx : Int) (hxx : (x : Int) = xx) (w : World) :
    Calls Tryz.prog 62 #[.int .u64 xx] w fun e w' => e = .returned (.int .i64 (Lib.bitLen x)) ∧ w = w' := by
  have t := Any.bits_Len64 Tryz.lays129 xx w (by omega) (by omega)
  have e : xx.toNat = x := by omega
  rw [e] at t
  refine t.mono ?_
  rintro e w' ⟨h1, h2⟩
  exact ⟨h1, h2.symm⟩

theorem number1_err (ads : List Addr) (h0 : 0 < ads.length) (p : Addr) (n : Int) (hn : n < 0) (w : World) (V : St ads w) (hp : w.cell? p = some (.int .i64 n)) :
    Calls Tryz.prog 59 #[.pointer (some p)] w fun e w' => e = .panicked [{ v := snt ads[0], recovered := false }] ∧ Kp w w' := by
  have c0 : w.cell? ⟨1, 0, none⟩ = some (snt ads[0]) := V.cell 0 (by decide)
  obtain ⟨a, ha⟩ : ∃ a, ads[0] = a := ⟨_, rfl⟩
  rw [ha] at c0 ⊢
  have hn' : ¬ n ≥ 0 := by omega
  clear ha V
  go_enter Tryz.func59, Tryz.ntmps59
  go_wp2_with (go_at_call 60; (with_reducible refine (demand_f _ _).mono ?_); rintro e w' ⟨rfl, rfl⟩)
  exact ⟨rfl, rfl, Kp.refl _⟩

set_option maxRecDepth 20000 in
theorem number1_any (ads : List Addr) (p : Addr) (n : Nat) (hn : n < 9223372036854775808) (nn : Int) (hnn : (n : Int) = nn) (w : World) (V : St ads w) (hp : w.cell? p = some (.int .i64 nn)) :
    Calls Tryz.prog 59 #[.pointer (some p)] w fun e w' => ∃ v, e = .returned v ∧ w'.ownsRow w.heap.size 5 1 v (beF 8 n).length ((beF 8 n).map (Value.int .u8)) ∧ Kp w w' := by
  have hl : 0 < ads.length := by have := V.len; simp [gs14] at this; omega
  have c0 : w.cell? ⟨1, 0, none⟩ = some (snt ads[0]) := V.cell 0 (by decide)
  have n64 : n < 18446744073709551616 := by omega
  have hd : ∀ w, Calls Tryz.prog 61 #[.int .u64 nn, .int .i64 (nb n)] w _ := fun w => digits_any n (nb n) n64 (nb_le n n64) nn _ hnn rfl w
  have hlen : ∀ w, Calls Tryz.prog 62 #[.int .u64 nn] w _ := fun w => len64_any n n64 nn hnn w
  have hb : (Lib.bitLen n) ≤ 64 := Lib.bitLen_le n 64 (by decide) n64
  obtain ⟨L, hL⟩ : ∃ L : Int, (Lib.bitLen n : Int) = L := ⟨_, rfl⟩
  have hq : (L + 7).tdiv 8 = (nb n : Int) := by
    rw [Int.tdiv_eq_ediv_of_nonneg (by omega)]
    unfold nb
    omega
  have hlb : 0 ≤ L ∧ L ≤ 64 := by omega
  simp only [hL] at hlen
  have hbe := beF_dig 8 n n64 n64
  have hdl : (digB n (nb n)).length = nb n := by simp [digB]
  rw [hbe, hdl]
  obtain ⟨nbn, hnb⟩ : ∃ k : Int, (nb n : Int) = k := ⟨_, rfl⟩
  simp only [hnb] at hd hq
  have n0 : 0 ≤ nn ∧ nn < 9223372036854775808 := by omega
  have hnb8 : 0 ≤ nbn ∧ nbn ≤ 8 := by have := nb_le n n64; omega
  have HD := Lib.hid hd
  have HLN := Lib.hid hlen
  clear hd hlen hbe hdl hb hL hnn hnb V n64 hn
  go_enter Tryz.func59, Tryz.ntmps59
  go_wp2_with (first | (go_at_call 60; (with_reducible refine (demand_t _ _).mono ?_); rintro e w' ⟨rfl, rfl⟩) | (go_at_call 62; (with_reducible refine (HLN.out _).mono ?_); rintro e w' ⟨rfl, rfl⟩) | (go_at_call 61; (with_reducible refine (HD.out _).mono ?_); rintro e w' ⟨rfl, ho, hk⟩; have HO := Lib.hid ho; have HK := Lib.hid hk; clear ho hk))
  go_ret
  exact ⟨_, rfl, HO.out, HK.out⟩

theorem number_err (ads : List Addr) (h0 : 0 < ads.length) (n : Int) (hn : n < 0) (w : World) (V : St ads w) :
    Calls Tryz.prog 25 #[.int .i64 n] w fun e w' => e = .returned (.tuple #[.slice none 0 0, snt ads[0]]) ∧ Kp w w' := by
  have hmf : ∀ (fn : Fn) (first cap : Array Value) (w : World), (Instr.makeFunc fn first cap).run Tryz.prog w = .ok (.func fn first cap) w := fun _ _ _ _ => rfl
  have kb := kp_alloc w (.cells #[.int .i64 n] 3)
  have hc := box_cell w (.int .i64 n) 3
  have HT := Lib.hid (try_bytes_err ads 0 h0 59 #[.pointer (some ⟨w.heap.size, 0, none⟩)] (w.alloc (.cells #[.int .i64 n] 3)) (V.below kb) (by intro w; simp [go_sem]) fun w1 h1 => number1_err ads h0 _ n hn w1 (V.below (Kp.trans kb h1)) (kp_cell h1 hc))
  have KB := Lib.hid kb
  clear kb hc V
  go_enter Tryz.func25, Tryz.ntmps25
  go_wp2_with (go_at_call 20; (with_reducible refine HT.out.mono ?_); rintro e w' ⟨rfl, hk⟩; have HK := Lib.hid hk; clear hk)
  go_ret2
  exact ⟨rfl, Kp.trans KB.out HK.out⟩

theorem number_any (ads : List Addr) (n : Nat) (hn : n < 9223372036854775808) (nn : Int) (hnn : (n : Int) = nn) (w : World) (V : St ads w) :
    Calls Tryz.prog 25 #[.int .i64 nn] w fun e w' => ∃ v, e = .returned (.tuple #[v, .nilIface]) ∧ w'.ownsRow w.heap.size 5 1 v (beF 8 n).length ((beF 8 n).map (Value.int .u8)) ∧ Kp w w' := by
  have hmf : ∀ (fn : Fn) (first cap : Array Value) (w : World), (Instr.makeFunc fn first cap).run Tryz.prog w = .ok (.func fn first cap) w := fun _ _ _ _ => rfl
  have kb := kp_alloc w (.cells #[.int .i64 nn] 3)
  have hc := box_cell w (.int .i64 nn) 3
  have HT := Lib.hid (try_bytes_own 59 #[.pointer (some ⟨w.heap.size, 0, none⟩)] (beF 8 n) (w.alloc (.cells #[.int .i64 nn] 3)) (by intro w; simp [go_sem]) fun w1 h1 => number1_any ads _ n hn nn hnn w1 (V.below (Kp.trans kb h1)) (kp_cell h1 hc))
  have KB := Lib.hid kb
  clear kb hc V hn
  go_enter Tryz.func25, Tryz.ntmps25
  go_wp2_with (go_at_call 20; (with_reducible refine HT.out.mono ?_); rintro e w' ⟨v, rfl, ho, hk⟩; have HK := Lib.hid hk; have HO := Lib.hid ho; clear hk ho)
  go_ret2
  exact ⟨_, rfl, own_mono HO.out (Below.size KB.out), Kp.trans KB.out HK.out⟩
end Go.Proofs.YtahdoniggipmmaaGreatDoor

namespace Go.Proofs.YtahdoniggipmmaaGreatDoor
open Go.RowKit Go.ChangeShapes Go.WideShapes

set_option maxRecDepth 20000 in
theorem toNumber1_form (ads : List Addr) (p : Addr) (a : Option Addr) (cap : Nat) (bs : List Int) (len : Nat) (hlen : bs.length = len) (h3 : 3 < ads.length) (hz : 0 < bs.length ∧ bs.getD 0 0 = 0) (w : World) (V : St ads w) (hp : w.cell? p = some (.slice a len cap)) (hs : SlB (.slice a len cap) bs w) :
    Calls Tryz.prog 95 #[.pointer (some p)] w fun e w' => e = .panicked [{ v := snt ads[3], recovered := false }] ∧ Kp w w' := by
  have c3 : w.cell? ⟨0, 0, none⟩ = some (snt ads[3]) := V.cell 3 (by decide)
  obtain ⟨e3, he3⟩ : ∃ a, ads[3] = a := ⟨_, rfl⟩
  rw [he3] at c3 ⊢
  obtain ⟨ll, hll⟩ : ∃ ll : Int, (len : Int) = ll := ⟨_, rfl⟩
  obtain ⟨b, off, rfl, hc⟩ := hs.at 0 hz.1
  rw [hz.2, Nat.add_zero] at hc
  have hd : (ll == 0) = false := by simp; omega
  have hpos : 0 < len := by omega
  have hposI : 0 < ll := by omega
  have KD := Lib.hid (Kp.refl w).drew
  clear hs hz hlen V he3
  go_enter Tryz.func95, Tryz.ntmps95
  go_wp2
  go_still_tail 10, (by kernel_rfl)
  change wpList _ _ _ _ _ w.drew
  go_wp2_with (go_at_call 60; (with_reducible refine (demand_f _ _).mono ?_); rintro e w' ⟨rfl, rfl⟩)
  exact ⟨rfl, rfl, KD.out⟩

/-- the first byte isn't 0 -/
def Lead (a : Option Addr) (len : Nat) (w : World) : Prop := len = 0 ∨ ∃ b off x, a = some ⟨b, off, none⟩ ∧ w.cell? ⟨b, off, none⟩ = some (.int .u8 x) ∧ (x != 0) = true ∧ 0 < len
theorem lead_of {a : Option Addr} {cap : Nat} {bs : List Int} {len : Nat} {w : World} (hlen : bs.length = len) (hs : SlB (.slice a len cap) bs w) (hz : ¬(0 < bs.length ∧ bs.getD 0 0 = 0)) : Lead a len w := by
  rcases Nat.eq_zero_or_pos len with q | q
  · exact .inl q
  · obtain ⟨b, off, h1, h2⟩ := hs.at 0 (by omega)
    rw [Nat.add_zero] at h2
    refine .inr ⟨b, off, _, h1, h2, ?_, q⟩
    simp only [bne_iff_ne, ne_eq]
    exact fun h => hz ⟨by omega, h⟩

set_option maxRecDepth 20000 in
theorem toNumber1_long (ads : List Addr) (p : Addr) (a : Option Addr) (cap len : Nat) (h8 : 8 < len) (h0 : 0 < ads.length) (w : World) (V : St ads w) (hp : w.cell? p = some (.slice a len cap)) (hz : Lead a len w) :
    Calls Tryz.prog 95 #[.pointer (some p)] w fun e w' => e = .panicked [{ v := snt (ads[0]'h0), recovered := false }] ∧ Kp w w' := by
  have h14 : ads.length = 14 := V.len
  obtain ⟨e3, c3⟩ : ∃ e3, w.cell? ⟨0, 0, none⟩ = some (snt e3) := ⟨ads[3]'(by omega), V.cell 3 (by decide)⟩
  have c0 : w.cell? ⟨1, 0, none⟩ = some (snt (ads[0]'h0)) := V.cell 0 (by decide)
  obtain ⟨e0, he0⟩ : ∃ a, ads[0]'h0 = a := ⟨_, rfl⟩
  rw [he0] at c0 ⊢
  obtain ⟨ll, hll⟩ : ∃ ll : Int, (len : Int) = ll := ⟨_, rfl⟩
  rcases hz with q | ⟨b, off, x, rfl, hc, hx, hpos⟩
  · omega
  have hd : (ll == 0) = false := by simp; omega
  have hle : decide (ll ≤ 8) = false := decide_eq_false (by omega)
  have hposI : 0 < ll := by omega
  have c0' : w.drew.cell? ⟨1, 0, none⟩ = some (snt e0) := c0
  have hp' : w.drew.cell? p = some (.slice (some ⟨b, off, none⟩) len cap) := hp
  have KD := Lib.hid (Kp.refl w).drew
  clear V he0 h14
  go_enter Tryz.func95, Tryz.ntmps95
  go_wp2
  go_still_tail 10, (by kernel_rfl)
  change wpList _ _ _ _ _ w.drew
  go_wp2_with (first | (go_at_call 60; (with_reducible refine (demand_t _ _).mono ?_); rintro e w' ⟨rfl, rfl⟩) | (go_at_call 60; (with_reducible refine (demand_f _ _).mono ?_); rintro e w' ⟨rfl, rfl⟩))
  exact ⟨rfl, rfl, KD.out⟩

set_option maxRecDepth 20000 in
theorem toNumber1_big (ads : List Addr) (p : Addr) (a : Option Addr) (cap : Nat) (bs : List Int) (len : Nat) (hlen : bs.length = len) (h8 : len ≤ 8) (hb : InB bs) (hbig : 9223372036854775807 < beNum bs) (h0 : 0 < ads.length) (w : World) (V : St ads w) (hp : w.cell? p = some (.slice a len cap)) (hs : SlB (.slice a len cap) bs w) (hz : Lead a len w) :
    Calls Tryz.prog 95 #[.pointer (some p)] w fun e w' => e = .panicked [{ v := snt (ads[0]'h0), recovered := false }] ∧ Kp w w' := by
  have h14 : ads.length = 14 := V.len
  obtain ⟨e3, c3⟩ : ∃ e3, w.cell? ⟨0, 0, none⟩ = some (snt e3) := ⟨ads[3]'(by omega), V.cell 3 (by decide)⟩
  have c0 : w.cell? ⟨1, 0, none⟩ = some (snt (ads[0]'h0)) := V.cell 0 (by decide)
  obtain ⟨e0, he0⟩ : ∃ a, ads[0]'h0 = a := ⟨_, rfl⟩
  rw [he0] at c0 ⊢
  have hv := fun w1 (hk : Kp w w1) => value_any a cap bs len hlen h8 hb w1 (hs.kp hk)
  obtain ⟨F, hF⟩ : ∃ F, beNum bs = F := ⟨_, rfl⟩
  simp only [hF] at hv
  rw [hF] at hbig
  have HV := Lib.hid hv
  have hle : decide (F ≤ 9223372036854775807) = false := decide_eq_false (by omega)
  obtain ⟨ll, hll⟩ : ∃ ll : Int, (len : Int) = ll := ⟨_, rfl⟩
  rcases hz with q | ⟨b, off, x, rfl, hc, hx, hpos⟩
  · subst q
    have hb0 : bs = [] := List.length_eq_zero_iff.1 hlen
    subst hb0
    have : F = 0 := by rw [← hF]; rfl
    omega
  have hd : (ll == 0) = false := by simp; omega
  have hle8 : ll ≤ 8 := by omega
  have hposI : 0 < ll := by omega
  have c0' : w.drew.cell? ⟨1, 0, none⟩ = some (snt e0) := c0
  have hp' : w.drew.cell? p = some (.slice (some ⟨b, off, none⟩) len cap) := hp
  have KD := Lib.hid (Kp.refl w).drew
  clear V he0 h14 hv hF hs hb hbig
  go_enter Tryz.func95, Tryz.ntmps95
  go_wp2
  go_still_tail 10, (by kernel_rfl)
  change wpList _ _ _ _ _ w.drew
  go_wp2_with (first | (go_at_call 60; (with_reducible refine (demand_t _ _).mono ?_); rintro e w' ⟨rfl, rfl⟩) | (go_at_call 60; (with_reducible refine (demand_f _ _).mono ?_); rintro e w' ⟨rfl, rfl⟩) | (go_at_call 76; (with_reducible refine (HV.out _ KD.out).mono ?_); rintro e w' ⟨rfl, rfl⟩))
  exact ⟨rfl, rfl, KD.out⟩

set_option maxRecDepth 20000 in
theorem toNumber1_ok (ads : List Addr) (p : Addr) (a : Option Addr) (cap : Nat) (bs : List Int) (len : Nat) (hlen : bs.length = len) (h8 : len ≤ 8) (hb : InB bs) (hsm : beNum bs ≤ 9223372036854775807) (w : World) (V : St ads w) (hp : w.cell? p = some (.slice a len cap)) (hs : SlB (.slice a len cap) bs w) (hz : Lead a len w) :
    Calls Tryz.prog 95 #[.pointer (some p)] w fun e w' => e = .returned (.int .i64 (beNum bs)) ∧ Kp w w' := by
  have h14 : ads.length = 14 := V.len
  obtain ⟨e3, c3⟩ : ∃ e3, w.cell? ⟨0, 0, none⟩ = some (snt e3) := ⟨ads[3]'(by omega), V.cell 3 (by decide)⟩
  obtain ⟨e0, c0⟩ : ∃ e0, w.cell? ⟨1, 0, none⟩ = some (snt e0) := ⟨ads[0]'(by omega), V.cell 0 (by decide)⟩
  have hv := fun w1 (hk : Kp w w1) => value_any a cap bs len hlen h8 hb w1 (hs.kp hk)
  have hr := beNum_range hb bs.length (Nat.le_refl _)
  rw [List.take_length] at hr
  obtain ⟨F, hF⟩ : ∃ F, beNum bs = F := ⟨_, rfl⟩
  simp only [hF] at hv hr ⊢
  rw [hF] at hsm
  have hF0 : 0 ≤ F := hr.1
  have HV := Lib.hid hv
  obtain ⟨ll, hll⟩ : ∃ ll : Int, (len : Int) = ll := ⟨_, rfl⟩
  have hle8 : ll ≤ 8 := by omega
  have c0' : w.drew.cell? ⟨1, 0, none⟩ = some (snt e0) := c0
  have KD := Lib.hid (Kp.refl w).drew
  have hp' : w.drew.cell? p = some (.slice a len cap) := hp
  clear V h14 hv hF hs hb hr
  rcases hz with q | ⟨b, off, x, rfl, hc, hx, hpos⟩
  · subst q
    have hd : ll = 0 := by omega
    subst hd
    go_enter Tryz.func95, Tryz.ntmps95
    go_wp2
    go_still_tail 10, (by kernel_rfl)
    change wpList _ _ _ _ _ w.drew
    go_wp2_with (first | (go_at_call 60; (with_reducible refine (demand_t _ _).mono ?_); rintro e w' ⟨rfl, rfl⟩) | (go_at_call 76; (with_reducible refine (HV.out _ KD.out).mono ?_); rintro e w' ⟨rfl, rfl⟩))
    go_ret
    exact ⟨rfl, KD.out⟩
  · have hd : (ll == 0) = false := by simp; omega
    have hposI : 0 < ll := by omega
    go_enter Tryz.func95, Tryz.ntmps95
    go_wp2
    go_still_tail 10, (by kernel_rfl)
    change wpList _ _ _ _ _ w.drew
    go_wp2_with (first | (go_at_call 60; (with_reducible refine (demand_t _ _).mono ?_); rintro e w' ⟨rfl, rfl⟩) | (go_at_call 76; (with_reducible refine (HV.out _ KD.out).mono ?_); rintro e w' ⟨rfl, rfl⟩))
    go_ret
    exact ⟨rfl, KD.out⟩

/-- THE ERROR of a number: 0 none. -/
def errN (ads : List Addr) (k : Int) : Value := if k = 0 then .nilIface else (ads[k.toNat - 1]?.map snt).getD .nilIface

theorem toNumber_err (ads : List Addr) (k : Nat) (hk : k < ads.length) (a : Option Addr) (cap len : Nat) (w : World) (V : St ads w)
    (H : ∀ w1, Kp w w1 → w1.cell? ⟨w.heap.size, 0, none⟩ = some (.slice a len cap) → Calls Tryz.prog 95 #[.pointer (some ⟨w.heap.size, 0, none⟩)] w1 fun e w' => e = .panicked [{ v := snt (ads[k]'hk), recovered := false }] ∧ Kp w1 w') :
    Calls Tryz.prog 81 #[.slice a len cap] w fun e w' => e = .returned (.tuple #[.int .i64 0, snt (ads[k]'hk)]) ∧ Kp w w' := by
  have hmf : ∀ (fn : Fn) (first cap : Array Value) (w : World), (Instr.makeFunc fn first cap).run Tryz.prog w = .ok (.func fn first cap) w := fun _ _ _ _ => rfl
  have kb := kp_alloc w (.cells #[.slice a len cap] 29)
  have hc := box_cell w (.slice a len cap) 29
  have HT := Lib.hid (try_int_err ads k hk 95 #[.pointer (some ⟨w.heap.size, 0, none⟩)] (w.alloc (.cells #[.slice a len cap] 29)) (V.below kb) (by intro w; simp [go_sem]) fun w1 h1 => H w1 (Kp.trans kb h1) (kp_cell h1 hc))
  have KB := Lib.hid kb
  clear kb hc V H
  go_enter Tryz.func81, Tryz.ntmps81
  go_wp2_with (go_at_call 94; (with_reducible refine HT.out.mono ?_); rintro e w' ⟨rfl, hk⟩; have HK := Lib.hid hk; clear hk)
  go_ret2
  exact ⟨rfl, Kp.trans KB.out HK.out⟩

theorem toNumber_val (x : Int) (a : Option Addr) (cap len : Nat) (w : World)
    (H : ∀ w1, Kp w w1 → w1.cell? ⟨w.heap.size, 0, none⟩ = some (.slice a len cap) → Calls Tryz.prog 95 #[.pointer (some ⟨w.heap.size, 0, none⟩)] w1 fun e w' => e = .returned (.int .i64 x) ∧ Kp w1 w') :
    Calls Tryz.prog 81 #[.slice a len cap] w fun e w' => e = .returned (.tuple #[.int .i64 x, .nilIface]) ∧ Kp w w' := by
  have hmf : ∀ (fn : Fn) (first cap : Array Value) (w : World), (Instr.makeFunc fn first cap).run Tryz.prog w = .ok (.func fn first cap) w := fun _ _ _ _ => rfl
  have kb := kp_alloc w (.cells #[.slice a len cap] 29)
  have hc := box_cell w (.slice a len cap) 29
  have HT := Lib.hid (try_int_val 95 #[.pointer (some ⟨w.heap.size, 0, none⟩)] x (w.alloc (.cells #[.slice a len cap] 29)) (by intro w; simp [go_sem]) fun w1 h1 => H w1 (Kp.trans kb h1) (kp_cell h1 hc))
  have KB := Lib.hid kb
  clear kb hc H
  go_enter Tryz.func81, Tryz.ntmps81
  go_wp2_with (go_at_call 94; (with_reducible refine HT.out.mono ?_); rintro e w' ⟨rfl, hk⟩; have HK := Lib.hid hk; clear hk)
  go_ret2
  exact ⟨rfl, Kp.trans KB.out HK.out⟩

theorem toNumber_any (ads : List Addr) (a : Option Addr) (cap : Nat) (bs : List Int) (len : Nat) (hlen : bs.length = len) (hb : InB bs) (w : World) (V : St ads w) (hs : SlB (.slice a len cap) bs w) :
    Calls Tryz.prog 81 #[.slice a len cap] w fun e w' => e = .returned (.tuple #[.int .i64 (toNum bs).1, errN ads (toNum bs).2]) ∧ Kp w w' := by
  have h14 : ads.length = 14 := V.len
  have h0 : 0 < ads.length := by omega
  have h3 : 3 < ads.length := by omega
  have e1 : errN ads 1 = snt (ads[0]'h0) := by unfold errN; simp [List.getElem?_eq_getElem h0]
  have e4 : errN ads 4 = snt (ads[3]'h3) := by unfold errN; simp [List.getElem?_eq_getElem h3]
  unfold toNum
  split
  · rename_i hz
    simp only [e4]
    exact toNumber_err ads 3 h3 a cap len w V fun w1 hk hc => toNumber1_form ads _ a cap bs len hlen h3 hz w1 (V.below hk) hc (hs.kp hk)
  · rename_i hz
    split
    · simp only [e1]
      exact toNumber_err ads 0 h0 a cap len w V fun w1 hk hc => toNumber1_long ads _ a cap len (by omega) h0 w1 (V.below hk) hc (lead_of hlen (hs.kp hk) hz)
    · rename_i h8
      split
      · rename_i hbig
        simp only [e1]
        exact toNumber_err ads 0 h0 a cap len w V fun w1 hk hc => toNumber1_big ads _ a cap bs len hlen (by omega) hb hbig h0 w1 (V.below hk) hc (hs.kp hk) (lead_of hlen (hs.kp hk) hz)
      · rename_i hbig
        exact toNumber_val (beNum bs) a cap len w fun w1 hk hc => toNumber1_ok ads _ a cap bs len hlen (by omega) hb (by omega) w1 (V.below hk) hc (hs.kp hk) (lead_of hlen (hs.kp hk) hz)
end Go.Proofs.YtahdoniggipmmaaGreatDoor

namespace Go.Proofs.YtahdoniggipmmaaGreatDoor
open Go.RowKit Go.ChangeShapes Go.WideShapes

theorem find_hit (tag : Int) : ∀ (fs : List (Int × List Int)) (j : Nat) (h : j < fs.length), (∀ i (_ : i < j) (hi' : i < fs.length), fs[i].1 ≠ tag) → fs[j].1 = tag → (fs.find? fun f => f.1 == tag) = some fs[j]
  | [], _, h, _, _ => absurd h (by simp)
  | x :: t, 0, _, _, hx => by
    have : (x.1 == tag) = true := by simpa using hx
    rw [List.find?_cons, this]
    rfl
  | x :: t, j + 1, h, hz, hx => by
    have h0 : (x.1 == tag) = false := by
      have := hz 0 (by omega) (by simp)
      simpa using this
    rw [List.find?_cons, h0]
    exact find_hit tag t j (by simpa using h) (fun i hi hi' => hz (i + 1) (by omega) (by simpa using hi')) hx
theorem find_miss (tag : Int) : ∀ (fs : List (Int × List Int)), (∀ i (hi' : i < fs.length), fs[i].1 ≠ tag) → (fs.find? fun f => f.1 == tag) = none
  | [], _ => rfl
  | x :: t, hz => by
    have h0 : (x.1 == tag) = false := by
      have := hz 0 (by simp)
      simpa using this
    rw [List.find?_cons, h0]
    exact find_miss tag t (fun i hi' => hz (i + 1) (by simpa using hi'))

/-- WHAT Find ANSWERS. -/
def FindP (fs : List (Int × List Int)) (tag : Int) (e : Ending) (w : World) : Prop :=
  match (fs.find? fun f => f.1 == tag) with
  | some f => ∃ d, e = .returned (.tuple #[d, .bool true]) ∧ DatB d f.2 w
  | none => e = .returned (.tuple #[.slice none 0 0, .bool false])

/-- IS A ROW RIGHT? -/
def rightQ : Int → List (Int × List Int) → Bool
  | _, [] => true
  | last, f :: t => decide (1 ≤ f.1 ∧ f.1 ≤ 255 ∧ f.2.length ≤ 200 ∧ last < f.1) && rightQ f.1 t

end Go.Proofs.YtahdoniggipmmaaGreatDoor

namespace Go.Proofs.YtahdoniggipmmaaGreatDoor
open Go.RowKit Go.ChangeShapes Go.WideShapes

/-- A BOX OF AN INT. -/
abbrev boxI (x : Int) : Obj := .cells #[.int .i64 x] 3 (0, 0)

set_option maxRecDepth 20000 in
theorem newRow_any (w : World) :
    Calls Tryz.prog 64 #[] w fun e w' => e = .returned (.func (.func 87) #[] #[.pointer (some ⟨w.heap.size, 0, none⟩), .pointer (some ⟨w.heap.size + 1, 0, none⟩)]) ∧ w'.heap[w.heap.size]? = some (boxI 0) ∧ w'.heap[w.heap.size + 1]? = some (boxI 0) ∧ w'.heap.size = w.heap.size + 2 ∧ Kp w w' := by
  have hmf : ∀ (fn : Fn) (first cap : Array Value) (w : World), (Instr.makeFunc fn first cap).run Tryz.prog w = .ok (.func fn first cap) w := fun _ _ _ _ => rfl
  go_enter Tryz.func64, Tryz.ntmps64
  go_wp2
  go_ret
  refine ⟨rfl, ?_, ?_, ?_, ?_⟩
  · rw [Below.heap_alloc _ _ _ (by simp)]
    exact (MapKept.heap_alloc w _).1
  · have := (MapKept.heap_alloc (w.alloc (boxI 0)) (boxI 0)).1
    simpa using this
  · simp
  · exact Kp.trans (kp_alloc _ _) (kp_alloc _ _)

/-- MAY A FIELD STAND BEHIND k FIELDS, the last one's tag being last? -/
def mayQ (k : Nat) (last tag : Int) (n : Nat) : Prop := k < 16 ∧ last < tag ∧ tag ≤ 255 ∧ n ≤ 200
instance (k : Nat) (last tag : Int) (n : Nat) : Decidable (mayQ k last tag n) := by unfold mayQ; infer_instance
def runQ : Nat → Int → List (Int × List Int) → Bool
  | _, _, [] => true
  | k, last, f :: t => decide (mayQ k last f.1 f.2.length) && runQ (k + 1) f.1 t
theorem runQ_right : ∀ (fs : List (Int × List Int)) (k : Nat) (last : Int), k ≤ 16 → 0 ≤ last → runQ k last fs = (decide (k + fs.length ≤ 16) && rightQ last fs)
  | [], k, last, hk, _ => by simp [runQ, rightQ, hk]
  | f :: t, k, last, hk, hl => by
    unfold runQ rightQ
    by_cases h : mayQ k last f.1 f.2.length
    · obtain ⟨h1, h2, h3, h4⟩ := h
      rw [decide_eq_true ⟨h1, h2, h3, h4⟩, decide_eq_true (show 1 ≤ f.1 ∧ f.1 ≤ 255 ∧ f.2.length ≤ 200 ∧ last < f.1 from ⟨by omega, h3, h4, h2⟩), Bool.true_and, Bool.true_and, runQ_right t (k + 1) f.1 (by omega) (by omega)]
      congr 2
      simp only [List.length_cons, eq_iff_iff]
      omega
    · rw [decide_eq_false h, Bool.false_and]
      by_cases h1 : k + (f :: t).length ≤ 16
      · rw [decide_eq_true h1, Bool.true_and, decide_eq_false, Bool.false_and]
        rintro ⟨g1, g2, g3, g4⟩
        simp at h1
        exact h ⟨by omega, g4, g2, g3⟩
      · rw [decide_eq_false h1, Bool.false_and]

theorem enter_t (ads : List Addr) (p q : Nat) (k : Nat) (kk last tag : Int) (n : Nat) (nn : Int) (hkk : (k : Int) = kk) (hnn : (n : Int) = nn) (w : World) (V : St ads w) (hp : w.heap[p]? = some (boxI kk)) (hq : w.heap[q]? = some (boxI last)) (hpq : p ≠ q) (hm : mayQ k last tag n) :
    Calls Tryz.prog 87 #[.int .i64 tag, .int .i64 nn, .pointer (some ⟨p, 0, none⟩), .pointer (some ⟨q, 0, none⟩)] w fun e w' => e = .returned (.tuple #[]) ∧ w' = (w.setCell ⟨p, 0, none⟩ (.int .i64 (kk + 1))).setCell ⟨q, 0, none⟩ (.int .i64 tag) := by
  have h14 : ads.length = 14 := V.len
  obtain ⟨e3, c3⟩ : ∃ e3, w.cell? ⟨0, 0, none⟩ = some (snt e3) := ⟨ads[3]'(by omega), V.cell 3 (by decide)⟩
  obtain ⟨h1, h2, h3, h4⟩ := hm
  have g1 : kk < 16 := by omega
  have g0 : 0 ≤ kk := by omega
  have g4 : nn ≤ 200 := by omega
  have cp := cell_of_one hp
  have cq := cell_of_one hq
  have zp := free_of_one hp
  have zq := free_of_one hq
  have cq' : (w.setCell ⟨p, 0, none⟩ (.int .i64 (kk + 1))).cell? ⟨q, 0, none⟩ = some (.int .i64 last) := cell_of_one (by rw [Below.heap_setCell _ _ _ _ (fun e => hpq e.symm)]; exact hq)
  have zq' : (w.setCell ⟨p, 0, none⟩ (.int .i64 (kk + 1))).frozen? ⟨q, 0, none⟩ = false := by rw [World.frozen?_setCell]; exact zq
  clear V h14
  go_enter Tryz.func87, Tryz.ntmps87
  go_wp2_with (go_at_call 60; (with_reducible refine (demand_t _ _).mono ?_); rintro e w' ⟨rfl, rfl⟩)
  go_end0
  exact ⟨rfl, rfl⟩

theorem enter_f (ads : List Addr) (h3' : 3 < ads.length) (p q : Nat) (k : Nat) (kk last tag : Int) (n : Nat) (nn : Int) (hkk : (k : Int) = kk) (hnn : (n : Int) = nn) (w : World) (V : St ads w) (hp : w.heap[p]? = some (boxI kk)) (hq : w.heap[q]? = some (boxI last)) (hm : ¬ mayQ k last tag n) :
    Calls Tryz.prog 87 #[.int .i64 tag, .int .i64 nn, .pointer (some ⟨p, 0, none⟩), .pointer (some ⟨q, 0, none⟩)] w fun e w' => e = .panicked [{ v := snt (ads[3]'h3'), recovered := false }] ∧ w = w' := by
  have c3 : w.cell? ⟨0, 0, none⟩ = some (snt (ads[3]'h3')) := V.cell 3 (by decide)
  obtain ⟨e3, he3⟩ : ∃ a, ads[3]'h3' = a := ⟨_, rfl⟩
  rw [he3] at c3 ⊢
  have cp := cell_of_one hp
  have cq := cell_of_one hq
  clear V he3
  by_cases h1 : kk < 16
  · have g1 : decide (kk < 16) = true := decide_eq_true h1
    by_cases h2 : last < tag
    · have g2 : decide (last < tag) = true := decide_eq_true h2
      by_cases h3 : tag ≤ 255
      · have g3 : decide (tag ≤ 255) = true := decide_eq_true h3
        have g4 : decide (nn ≤ 200) = false := decide_eq_false (fun h4 => hm ⟨by omega, h2, h3, by omega⟩)
        clear hm
        go_enter Tryz.func87, Tryz.ntmps87
        go_wp2_with (go_at_call 60; (with_reducible refine (demand_f _ _).mono ?_); rintro e w' ⟨rfl, rfl⟩)
        exact ⟨rfl, rfl, rfl⟩
      · have g3 : decide (tag ≤ 255) = false := decide_eq_false h3
        clear hm
        go_enter Tryz.func87, Tryz.ntmps87
        go_wp2_with (go_at_call 60; (with_reducible refine (demand_f _ _).mono ?_); rintro e w' ⟨rfl, rfl⟩)
        exact ⟨rfl, rfl, rfl⟩
    · have g2 : decide (last < tag) = false := decide_eq_false h2
      clear hm
      go_enter Tryz.func87, Tryz.ntmps87
      go_wp2_with (go_at_call 60; (with_reducible refine (demand_f _ _).mono ?_); rintro e w' ⟨rfl, rfl⟩)
      exact ⟨rfl, rfl, rfl⟩
  · have g1 : decide (kk < 16) = false := decide_eq_false h1
    clear hm
    go_enter Tryz.func87, Tryz.ntmps87
    go_wp2_with (go_at_call 60; (with_reducible refine (demand_f _ _).mono ?_); rintro e w' ⟨rfl, rfl⟩)
    exact ⟨rfl, rfl, rfl⟩
end Go.Proofs.YtahdoniggipmmaaGreatDoor

namespace Go.Proofs.YtahdoniggipmmaaGreatDoor
open Go.RowKit Go.ChangeShapes Go.WideShapes

/-- An append of the call's own row turns no block below its base. -/
theorem box_grow {w w' : World} {base n size : Nat} {e : TypeId} {v : Value} {xs : List Value} {o : Obj} {b : Nat} (hown : w.ownsRow base e size v n xs) (hgr : w.grownBy w' v.ownBlock) (hb : w.heap[b]? = some o) (hlt : b < base) : w'.heap[b]? = some o := by
  obtain ⟨-, hr⟩ := hown
  rcases hr with ⟨rfl, -⟩ | ⟨g, cap, cur, rfl, hg, hh, -⟩
  · rw [hgr.block b (old_of_row hb) (by simp [Value.ownBlock])]; exact hb
  · rw [hgr.block b (old_of_row hb) (by intro q; simp [Value.ownBlock] at q; omega)]; exact hb

theorem dig2 (n : Nat) (h : n ≤ 200) : digB n 2 = [0, (n : Int)] := by
  unfold digB fb
  simp [List.range_succ]
  omega

theorem cell_two0 {w : World} {b : Nat} {x y : Value} {t : TypeId} {f : Nat × Nat} (h : w.heap[b]? = some (.cells #[x, y] t f)) : w.cell? ⟨b, 0, none⟩ = some x := by
  unfold World.cell?; dsimp only; rw [h]; rfl
theorem cell_two1 {w : World} {b : Nat} {x y : Value} {t : TypeId} {f : Nat × Nat} (h : w.heap[b]? = some (.cells #[x, y] t f)) : w.cell? ⟨b, 1, none⟩ = some y := by
  unfold World.cell?; dsimp only; rw [h]; rfl

theorem own_nil (w : World) (base : Nat) (e : TypeId) : w.ownsRow base e 1 (.slice none 0 0) 0 [] := ⟨by simp, .inl ⟨rfl, rfl⟩⟩

set_option maxRecDepth 20000 in
set_option maxHeartbeats 2000000 in
theorem join1_any (ads : List Addr) (h3' : 3 < ads.length) (p : Addr) (a : Option Addr) (cap : Nat) (fs : List (Int × List Int)) (len : Nat) (hlen : fs.length = len) (hl : len ≤ 100000) (w : World) (V : St ads w) (hp : w.cell? p = some (.slice a len cap)) (hs : SlQ (.slice a len cap) fs w) :
    Calls Tryz.prog 63 #[.pointer (some p)] w fun e w' => ((runQ 0 0 fs = true ∧ ∃ v, e = .returned v ∧ w'.ownsRow w.heap.size 5 1 v (joinB fs).length ((joinB fs).map (Value.int .u8))) ∨ (runQ 0 0 fs = false ∧ e = .panicked [{ v := snt (ads[3]'h3'), recovered := false }])) ∧ Kp w w' := by
  have hel : ∀ wr, Kp w wr → ∀ j (hj : j < fs.length), ∃ b off, a = some ⟨b, off, none⟩ ∧ wr.cell? ⟨b, off + j * 2, none⟩ = some (.int .i64 fs[j].1) ∧ ∃ a' c, wr.cell? ⟨b, off + j * 2 + 1, none⟩ = some (.slice a' fs[j].2.length c) ∧ SlB (.slice a' fs[j].2.length c) fs[j].2 wr ∧ InB fs[j].2 :=
    fun wr hk j hj => (hs.kp hk).at j hj
  obtain ⟨i0, hi, hz0, hz1, hz2⟩ := info_parts info_byte
  have HI := Lib.hid (And.intro hz1 hz2)
  have HI2 := Lib.hid hi
  have HI3 := Lib.hid hz0
  have HEL := Lib.hid hel
  have HL := Lib.hid hlen
  have HV := Lib.hid V
  obtain ⟨R, hR⟩ : ∃ R, runQ 0 0 fs = R := ⟨_, rfl⟩
  rw [hR]
  have HR := Lib.hid hR
  obtain ⟨ea, hea⟩ : ∃ ea, ads[3]'h3' = ea := ⟨_, rfl⟩
  rw [hea]
  have HEA := Lib.hid hea
  clear hel hs hlen hz1 hz2 hi hz0 V hR hea
  go_enter Tryz.func63, Tryz.ntmps63
  go_wp2_with (go_at_call 64; (with_reducible refine (newRow_any _).mono ?_); rintro e w1 ⟨rfl, hp1, hq1, hsz1, hk1⟩; have hpp := kp_cell hk1 hp; have HP1 := Lib.hid hp1; have HQ1 := Lib.hid hq1; have HS1 := Lib.hid hsz1; have HK1 := Lib.hid hk1; clear hp1 hq1 hsz1 hk1)
  go_loopw [2, 9] (fun v i wr => ∃ (j : Nat) (last : Int), j ≤ len ∧ j ≤ 16 ∧ i = .int .i64 j ∧ Kp w wr ∧ w1.heap.size ≤ wr.heap.size ∧ wr.heap[w.heap.size]? = some (boxI j) ∧ wr.heap[w.heap.size + 1]? = some (boxI last) ∧ (joinB (fs.take j)).length ≤ 203 * j ∧ 0 ≤ last ∧ R = runQ j last (fs.drop j) ∧ wr.ownsRow w1.heap.size 5 1 v (joinB (fs.take j)).length ((joinB (fs.take j)).map (Value.int .u8))) (fun _ i _ => len - (intOf i).toNat)
  case atStart => exact ⟨0, 0, Nat.zero_le _, by omega, rfl, HK1.out, Nat.le_refl _, HP1.out, HQ1.out, by simp [joinB], Int.le_refl _, by rw [← HR.out]; rfl, own_nil _ _ _⟩
  case round =>
    obtain ⟨j, last, hj, hj16, rfl, hk, hw1, hbp, hbq, hjb, hlast, hRj, hown⟩ := hrel
    have HK := Lib.hid hk
    have HOW := Lib.hid hown
    have HBP := Lib.hid hbp
    have HBQ := Lib.hid hbq
    have HW1 := Lib.hid hw1
    have HJB := Lib.hid hjb
    have hln := HL.out
    clear hk hown hbp hbq hw1 hjb
    obtain ⟨jj, hjj⟩ : ∃ jj : Int, (j : Int) = jj := ⟨_, rfl⟩
    rw [hjj]
    by_cases hlt : j < len
    · have hjl : j < fs.length := by omega
      obtain ⟨b, off, rfl, c0, a1, k1, c1, h1, h2⟩ := HEL.out w (Kp.refl _) j hjl
      have c0 := kp_cell HK.out c0
      have c1 := kp_cell HK.out c1
      rw [List.drop_eq_getElem_cons hjl, runQ] at hRj
      have hjn := joinB_next hjl
      obtain ⟨tj, htj⟩ : ∃ tj, fs[j].1 = tj := ⟨_, rfl⟩
      obtain ⟨bs, hbs⟩ : ∃ bs, fs[j].2 = bs := ⟨_, rfl⟩
      have hfb : fieldB fs[j] = [tj, 0, (bs.length : Int)] ++ bs := by simp only [fieldB, htj, hbs]
      rw [htj] at c0 hRj
      rw [hbs] at c1 h1 hRj
      rw [hfb] at hjn
      obtain ⟨n1, hn1⟩ : ∃ n1, bs.length = n1 := ⟨_, rfl⟩
      rw [hn1] at c1 h1 hRj hjn
      obtain ⟨jb, hjbe⟩ : ∃ jb, joinB (fs.take j) = jb := ⟨_, rfl⟩
      rw [hjbe] at HOW hjn HJB
      obtain ⟨m1, hm1⟩ : ∃ m1 : Int, (n1 : Int) = m1 := ⟨_, rfl⟩
      have ej : jj.toNat = j := by omega
      rw [← ej] at c0 c1
      have hj0 : 0 ≤ jj := by omega
      have hltj : jj < len := by omega
      have HJ := Lib.hid hjj
      have HJN := Lib.hid hjn
      have HN1 := Lib.hid hn1
      have HB1 := Lib.hid h1
      have KF := Lib.hid (kp_alloc wr (.cells #[.int .i64 tj, .slice a1 n1 k1] 64))
      have BF : Hid ((wr.alloc (.cells #[.int .i64 tj, .slice a1 n1 k1] 64)).heap[wr.heap.size]? = some (.cells #[.int .i64 tj, .slice a1 n1 k1] 64 (0, 0))) := Lib.hid (MapKept.heap_alloc wr _).1
      by_cases hm : mayQ j last tj n1
      · rw [decide_eq_true hm, Bool.true_and] at hRj
        have het := enter_t ads w.heap.size (w.heap.size + 1) j jj last tj n1 m1 HJ.out hm1 (wr.alloc (.cells #[.int .i64 tj, .slice a1 n1 k1] 64)) (HV.out.below (Kp.trans HK.out KF.out)) (kp_row KF.out (by rw [← HJ.out]; exact HBP.out)) (kp_row KF.out HBQ.out) (by omega) hm
        have hent : Calls Tryz.prog 87 #[.int .i64 tj, .int .i64 m1, .pointer (some ⟨w.heap.size, 0, none⟩), .pointer (some ⟨w.heap.size + 1, 0, none⟩)] (wr.alloc (.cells #[.int .i64 tj, .slice a1 n1 k1] 64)) fun e w' => e = .returned (.tuple #[]) ∧ Kp w w' ∧ w1.heap.size ≤ w'.heap.size ∧ w'.heap[w.heap.size]? = some (boxI (jj + 1)) ∧ w'.heap[w.heap.size + 1]? = some (boxI tj) ∧ w'.heap[wr.heap.size]? = some (.cells #[.int .i64 tj, .slice a1 n1 k1] 64 (0, 0)) ∧ w'.ownsRow w1.heap.size 5 1 u2 jb.length (jb.map (Value.int .u8)) := by
          refine het.mono ?_
          rintro e w' ⟨rfl, rfl⟩
          have hs1 := HS1.out
          have hww := HW1.out
          have r1 := one_setCell (u := .int .i64 (jj + 1)) (kp_row KF.out (show wr.heap[w.heap.size]? = some (boxI jj) by rw [← HJ.out]; exact HBP.out))
          refine ⟨rfl, ((Kp.trans HK.out KF.out).setCell (show w.heap.size ≤ w.heap.size by omega) _).setCell (show w.heap.size ≤ w.heap.size + 1 by omega) _, ?_, ?_, ?_, ?_, ?_⟩
          · simp; omega
          · rw [Below.heap_setCell _ _ _ _ (by simp)]; exact r1
          · exact one_setCell (by rw [Below.heap_setCell _ _ _ _ (by simp)]; exact kp_row KF.out HBQ.out)
          · rw [Below.heap_setCell _ _ _ _ (by simp; omega), Below.heap_setCell _ _ _ _ (by simp; omega)]; exact BF.out
          · exact ownsRow_setCell_below (ownsRow_setCell_below (own_kp HOW.out KF.out) (show w.heap.size < w1.heap.size by omega) _) (show w.heap.size + 1 < w1.heap.size by omega) _
        have HET := Lib.hid hent
        obtain ⟨g1, g2, g3, g4⟩ := hm
        have HRJ := Lib.hid hRj
        have q4 : 0 ≤ tj ∧ tj ≤ 255 := by omega
        have q3 : 0 ≤ m1 ∧ m1 ≤ 200 := by omega
        have HDG := Lib.hid (fun w => digits_any n1 2 (by omega) (by omega) m1 2 hm1 rfl w)
        have HD2 := Lib.hid (dig2 n1 g4)
        clear het hent hRj hjj ej htj hn1 hbs hfb h1 h2 hln hlt hjn hjbe
        go_wp2_with (first | (go_at_call 87; (with_reducible refine HET.out.mono ?_); rintro e wE ⟨rfl, hkE, hwE, hpE, hqE, hfE, hoE⟩; have KE := Lib.hid hkE; have WE := Lib.hid hwE; have PE := Lib.hid hpE; have QE := Lib.hid hqE; have FE := Lib.hid hfE; have cf0 := cell_two0 hfE; have cf1 := cell_two1 hfE; have KA := Lib.hid (kp_alloc wE (.cells #[.int .u8 tj] 5)); have WB := Lib.hid (own_kp hoE KA.out); have NB := Lib.hid (box_cell wE (.int .u8 tj) 5); have KB := Lib.hid (Kp.trans hkE KA.out); clear hkE hwE hpE hqE hfE hoE) | (at_builtin; refine wpList_append_own _ rfl (.tmp 20) (.tmp 24) 29 rfl w1.heap.size 5 i0 (.int .u8 0) 1 1 Tryz.underlying29 HI2.out HI3.out HI.out.1 HI.out.2 rfl (by decide) _ _ _ rfl WB.out ⟨wE.heap.size, 0, none⟩ 1 1 [.int .u8 tj] rfl ?c1 ?c2 ?c3 ?c4 ?c5 ?c6 ?_))
        case c1 => rfl
        case c2 =>
          intro i u hi
          match i, hi with
          | 0, hi => simp at hi; subst hi; rw [add_plain]; exact NB.out
        case c3 => intro u hu; simp at hu; subst hu; rfl
        case c4 => have := HJB.out; unfold maxLen; omega
        case c5 => have := HJB.out; omega
        case c6 => have := Below.size KA.out; have := WE.out; omega
        rintro v5 w5 hown5 hgr5 -
        have hbase : w.heap.size ≤ w1.heap.size := by have := HS1.out; omega
        have kp5 : Kp w w5 := row_kp (own_mono WB.out hbase) hgr5 KB.out
        have b5p := box_grow WB.out hgr5 (kp_row KA.out PE.out) (by have := HS1.out; omega)
        have b5q := box_grow WB.out hgr5 (kp_row KA.out QE.out) (by have := HS1.out; omega)
        have b5f := row_grow WB.out hgr5 _ _ _ (kp_row KA.out FE.out) (by decide)
        have s5 : w1.heap.size ≤ w5.heap.size := by have := hgr5.size; have := Below.size KA.out; have := WE.out; omega
        have OW5 := Lib.hid hown5
        have KP5 := Lib.hid kp5
        have B5P := Lib.hid b5p
        have B5Q := Lib.hid b5q
        have B5F := Lib.hid b5f
        have S5 := Lib.hid s5
        have cg1 := cell_two1 b5f
        clear hown5 hgr5 kp5 b5p b5q b5f s5 cf0 cf1
        go_wp2_with (first | (go_at_call 61; (with_reducible refine (HDG.out _).mono ?_); rintro e w6 ⟨rfl, ho6, hk6⟩; have K6 := Lib.hid hk6; have hs6 := own_slb ho6; rw [HD2.out] at hs6; have S6 := Lib.hid hs6; have OW6 := Lib.hid (own_kp OW5.out hk6); have cg2 := kp_cell hk6 cg1; clear ho6 hk6 hs6) | (at_builtin; refine wpList_append_slb _ rfl (.tmp 26) (.tmp 31) rfl w1.heap.size _ _ _ rfl OW6.out (some ⟨w5.heap.size, 0, none⟩) 2 2 [0, (n1 : Int)] rfl S6.out ?d1 ?d2 ?_))
        case d1 => have := HJB.out; omega
        case d2 => have := Below.size K6.out; have := S5.out; omega
        rintro v7 w7 hown7 hgr7 -
        have hbase : w.heap.size ≤ w1.heap.size := by have := HS1.out; omega
        have kp7 : Kp w w7 := row_kp (own_mono OW6.out hbase) hgr7 (Kp.trans KP5.out K6.out)
        have b7p := box_grow OW6.out hgr7 (kp_row K6.out B5P.out) (by have := HS1.out; omega)
        have b7q := box_grow OW6.out hgr7 (kp_row K6.out B5Q.out) (by have := HS1.out; omega)
        have b7f := row_grow OW6.out hgr7 _ _ _ (kp_row K6.out B5F.out) (by decide)
        have s7 : w1.heap.size ≤ w7.heap.size := by have := hgr7.size; have := Below.size K6.out; have := S5.out; omega
        have OW7 := Lib.hid hown7
        have KP7 := Lib.hid kp7
        have B7P := Lib.hid b7p
        have B7Q := Lib.hid b7q
        have S7 := Lib.hid s7
        have ch1 := cell_two1 b7f
        have HB7 := Lib.hid (HB1.out.kp kp7)
        clear hown7 hgr7 kp7 b7p b7q b7f s7 cg1 cg2
        go_wp2_with (at_builtin; refine wpList_append_slb _ rfl (.tmp 33) (.tmp 35) rfl w1.heap.size _ _ _ rfl OW7.out a1 n1 k1 bs rfl HB7.out ?e1 ?e2 ?_)
        case e1 => have := HJB.out; omega
        case e2 => exact S7.out
        rintro v8 w8 hown8 hgr8 -
        have hbase : w.heap.size ≤ w1.heap.size := by have := HS1.out; omega
        have kp8 : Kp w w8 := row_kp (own_mono OW7.out hbase) hgr8 KP7.out
        have b8p := box_grow OW7.out hgr8 B7P.out (by have := HS1.out; omega)
        have b8q := box_grow OW7.out hgr8 B7Q.out (by have := HS1.out; omega)
        have s8 : w1.heap.size ≤ w8.heap.size := by have := hgr8.size; have := S7.out; omega
        have hjl8 : (joinB (fs.take (j + 1))).length = jb.length + 1 + 2 + n1 := by rw [HJN.out]; simp [HN1.out]; omega
        have own8 : w8.ownsRow w1.heap.size 5 1 v8 (joinB (fs.take (j + 1))).length ((joinB (fs.take (j + 1))).map (Value.int .u8)) := by
          rw [hjl8, HJN.out]
          have e2 : (jb ++ ([tj, 0, (n1 : Int)] ++ bs)).map (Value.int .u8) = jb.map (Value.int .u8) ++ .int .u8 tj :: .int .u8 0 :: .int .u8 m1 :: bs.map (Value.int .u8) := by simp [hm1]
          rw [e2]
          exact hown8
        have hlen8 : (joinB (fs.take (j + 1))).length ≤ 203 * (j + 1) := by have := HJB.out; omega
        have O8 := Lib.hid own8
        have K8 := Lib.hid kp8
        have B8P := Lib.hid b8p
        have B8Q := Lib.hid b8q
        have S8 := Lib.hid s8
        have L8 := Lib.hid hlen8
        clear own8 kp8 b8p b8q s8 hjl8 hlen8 hown8 hgr8 ch1
        go_wp2
        have hjj := HJ.out
        go_roundw
        case rel =>
          have e1 : ((j + 1 : Nat) : Int) = jj + 1 := by omega
          exact ⟨j + 1, tj, by omega, by omega, by rw [e1], K8.out, S8.out, by rw [e1]; exact B8P.out, B8Q.out, L8.out, q4.1, HRJ.out, O8.out⟩
        case measure => simp [intOf]; omega
      · rw [decide_eq_false hm, Bool.false_and] at hRj
        have hef := enter_f ads h3' w.heap.size (w.heap.size + 1) j jj last tj n1 m1 HJ.out hm1 (wr.alloc (.cells #[.int .i64 tj, .slice a1 n1 k1] 64)) (HV.out.below (Kp.trans HK.out KF.out)) (kp_row KF.out (by rw [← HJ.out]; exact HBP.out)) (kp_row KF.out HBQ.out) hm
        rw [HEA.out] at hef
        have HEF := Lib.hid hef
        have HRJ := Lib.hid hRj
        clear hef hRj hjj ej htj hn1 hbs hfb h1 h2 hln hlt hjn hjbe hm
        go_wp2_with (go_at_call 87; (with_reducible refine HEF.out.mono ?_); rintro e wE ⟨rfl, rfl⟩)
        exact ⟨rfl, .inr ⟨HRJ.out, rfl⟩, Kp.trans HK.out KF.out⟩
    · obtain rfl : j = len := by omega
      have hex : ¬ jj < j := by omega
      have hful : fs.take j = fs := by rw [List.take_of_length_le]; omega
      have hdr : fs.drop j = [] := by rw [List.drop_of_length_le]; omega
      have ho := HOW.out
      rw [hful] at ho
      rw [hdr, runQ] at hRj
      have HO := Lib.hid ho
      have HRJ := Lib.hid hRj
      clear hjj hful ho hdr hRj hln hlt
      go_wp2
      go_ret
      have hbase : w.heap.size ≤ w1.heap.size := by have := HS1.out; omega
      exact ⟨.inl ⟨HRJ.out, _, rfl, own_mono HO.out hbase⟩, HK.out⟩
end Go.Proofs.YtahdoniggipmmaaGreatDoor

namespace Go.Proofs.YtahdoniggipmmaaGreatDoor
open Go.RowKit Go.ChangeShapes Go.WideShapes

theorem join_ok (ads : List Addr) (a : Option Addr) (cap : Nat) (fs : List (Int × List Int)) (len : Nat) (hlen : fs.length = len) (hl : len ≤ 100000) (w : World) (V : St ads w) (hs : SlQ (.slice a len cap) fs w) (hr : runQ 0 0 fs = true) :
    Calls Tryz.prog 27 #[.slice a len cap] w fun e w' => ∃ v, e = .returned (.tuple #[v, .nilIface]) ∧ w'.ownsRow w.heap.size 5 1 v (joinB fs).length ((joinB fs).map (Value.int .u8)) ∧ Kp w w' := by
  have hmf : ∀ (fn : Fn) (first cap : Array Value) (w : World), (Instr.makeFunc fn first cap).run Tryz.prog w = .ok (.func fn first cap) w := fun _ _ _ _ => rfl
  have h3 : 3 < ads.length := by rw [V.len]; decide
  have kb := kp_alloc w (.cells #[.slice a len cap] 56)
  have hc := box_cell w (.slice a len cap) 56
  have HT := Lib.hid (try_bytes_own 63 #[.pointer (some ⟨w.heap.size, 0, none⟩)] (joinB fs) (w.alloc (.cells #[.slice a len cap] 56)) (by intro w; simp [go_sem]) fun w1 h1 => by
    refine (join1_any ads h3 ⟨w.heap.size, 0, none⟩ a cap fs len hlen hl w1 (V.below (Kp.trans kb h1)) (kp_cell h1 hc) (hs.kp (Kp.trans kb h1))).mono ?_
    rintro e w2 ⟨⟨_, v, rfl, ho⟩ | ⟨hf, _⟩, hk⟩
    · exact ⟨v, rfl, ho, hk⟩
    · rw [hr] at hf; cases hf)
  have KB := Lib.hid kb
  clear kb hc V hs hl hr
  go_enter Tryz.func27, Tryz.ntmps27
  go_wp2_with (go_at_call 20; (with_reducible refine HT.out.mono ?_); rintro e w' ⟨v, rfl, ho, hk⟩; have HK := Lib.hid hk; have HO := Lib.hid ho; clear hk ho)
  go_ret2
  exact ⟨_, rfl, own_mono HO.out (Below.size KB.out), Kp.trans KB.out HK.out⟩

theorem join_err (ads : List Addr) (h3 : 3 < ads.length) (a : Option Addr) (cap : Nat) (fs : List (Int × List Int)) (len : Nat) (hlen : fs.length = len) (hl : len ≤ 100000) (w : World) (V : St ads w) (hs : SlQ (.slice a len cap) fs w) (hr : runQ 0 0 fs = false) :
    Calls Tryz.prog 27 #[.slice a len cap] w fun e w' => e = .returned (.tuple #[.slice none 0 0, snt (ads[3]'h3)]) ∧ Kp w w' := by
  have hmf : ∀ (fn : Fn) (first cap : Array Value) (w : World), (Instr.makeFunc fn first cap).run Tryz.prog w = .ok (.func fn first cap) w := fun _ _ _ _ => rfl
  have kb := kp_alloc w (.cells #[.slice a len cap] 56)
  have hc := box_cell w (.slice a len cap) 56
  have HT := Lib.hid (try_bytes_err ads 3 h3 63 #[.pointer (some ⟨w.heap.size, 0, none⟩)] (w.alloc (.cells #[.slice a len cap] 56)) (V.below kb) (by intro w; simp [go_sem]) fun w1 h1 => by
    refine (join1_any ads h3 ⟨w.heap.size, 0, none⟩ a cap fs len hlen hl w1 (V.below (Kp.trans kb h1)) (kp_cell h1 hc) (hs.kp (Kp.trans kb h1))).mono ?_
    rintro e w2 ⟨⟨hf, _⟩ | ⟨_, rfl⟩, hk⟩
    · rw [hr] at hf; cases hf
    · exact ⟨rfl, hk⟩)
  have KB := Lib.hid kb
  clear kb hc V hs hl hr
  go_enter Tryz.func27, Tryz.ntmps27
  go_wp2_with (go_at_call 20; (with_reducible refine HT.out.mono ?_); rintro e w' ⟨rfl, hk⟩; have HK := Lib.hid hk; clear hk)
  go_ret2
  exact ⟨rfl, Kp.trans KB.out HK.out⟩
end Go.Proofs.YtahdoniggipmmaaGreatDoor

namespace Go.Proofs.YtahdoniggipmmaaGreatDoor
open Go.RowKit Go.ChangeShapes Go.WideShapes

theorem slb_take {b off n c m : Nat} {bs : List Int} {w : World} (h : SlB (.slice (some ⟨b, off, none⟩) n c) bs w) (hm : m ≤ n) : SlB (.slice (some ⟨b, off, none⟩) m c) (bs.take m) w := by
  have hl := h.len
  rcases Nat.eq_zero_or_pos m with rfl | hp
  · exact .inl ⟨by simp, _, c, rfl, fun h => by cases h⟩
  · rcases h with ⟨rfl, _⟩ | ⟨b', off', c', h0, hv, hc⟩
    · simp at hl; omega
    · injection hv with h1 h2 h3
      injection h1 with h1
      injection h1 with h4 h5
      subst h4 h5
      have hml : (bs.take m).length = m := by simp; omega
      refine .inr ⟨b, off, c, by omega, by rw [hml], fun j hj => ?_⟩
      rw [hc j (by omega)]
      simp [List.getD, show j < m by omega]
theorem slb_drop {b off n c m : Nat} {bs : List Int} {w : World} (h : SlB (.slice (some ⟨b, off, none⟩) n c) bs w) (hm : m ≤ n) (hnc : n ≤ c) : SlB (.slice (some ⟨b, if c = m then off else off + m, none⟩) (n - m) (c - m)) (bs.drop m) w := by
  have hl := h.len
  rcases Nat.eq_zero_or_pos (n - m) with hz | hp
  · rw [hz]
    exact .inl ⟨by rw [List.drop_of_length_le]; omega, _, _, rfl, fun h => by cases h⟩
  · have hcm : ¬ c = m := by omega
    rw [if_neg hcm]
    rcases h with ⟨rfl, _⟩ | ⟨b', off', c', h0, hv, hc⟩
    · simp at hl; omega
    · injection hv with h1 h2 h3
      injection h1 with h1
      injection h1 with h4 h5
      subst h4 h5
      have hml : (bs.drop m).length = n - m := by simp; omega
      refine .inr ⟨b, off + m, c - m, by omega, by rw [hml], fun j hj => ?_⟩
      rw [Nat.add_assoc, hc (m + j) (by omega)]
      simp [List.getD, List.getElem?_drop]

theorem byte_elem : Tryz.prog.elem 29 = 5 := by simp [Program.elem, Tryz.underlying29]
theorem byte_sl : Tryz.prog.underlying 29 = some (.slice (Tryz.prog.elem 29)) := by simp [Program.elem, Tryz.underlying29]
theorem run_head {b off n c m : Nat} {mm : Int} (hmm : (m : Int) = mm) (hm : m ≤ n) (hnc : n ≤ c) (w : World) :
    (Instr.slice 29 (.slice (some ⟨b, off, none⟩) n c) none (some (.int .i64 mm)) none).run Tryz.prog w = .ok (.slice (some ⟨b, off, none⟩) m c) w := by
  rw [run_slice_h w 29 _ _ _ byte_sl .i64 _ (by omega) (by omega), byte_elem, byte_sz]
  have e : mm.toNat = m := by omega
  simp [Result.andThen, sliced, Addr.add, e]
theorem run_tail {b off n c m : Nat} {mm : Int} (hmm : (m : Int) = mm) (hm : m ≤ n) (w : World) :
    (Instr.slice 29 (.slice (some ⟨b, off, none⟩) n c) (some (.int .i64 mm)) none none).run Tryz.prog w = .ok (.slice (some ⟨b, if c = m then off else off + m, none⟩) (n - m) (c - m)) w := by
  rw [run_slice_l w 29 _ _ _ byte_sl .i64 _ (by omega) (by omega), byte_elem, byte_sz]
  have e : mm.toNat = m := by omega
  simp [Result.andThen, sliced, Addr.add, e]
  split <;> simp

/-- A BOX OF A SLICE OF BYTES. -/
abbrev boxS (v : Value) : Obj := .cells #[v] 29 (0, 0)

theorem take_ok (ads : List Addr) (p b off n c m : Nat) (mm : Int) (hmm : (m : Int) = mm) (hm : m ≤ n) (hnc : n ≤ c) (w : World) (V : St ads w) (hp : w.heap[p]? = some (boxS (.slice (some ⟨b, off, none⟩) n c))) :
    Calls Tryz.prog 75 #[.int .i64 mm, .pointer (some ⟨p, 0, none⟩)] w fun e w' => e = .returned (.slice (some ⟨b, off, none⟩) m c) ∧ w' = w.setCell ⟨p, 0, none⟩ (.slice (some ⟨b, if c = m then off else off + m, none⟩) (n - m) (c - m)) := by
  have h14 : ads.length = 14 := V.len
  obtain ⟨e1, c1⟩ : ∃ e1, w.cell? ⟨2, 0, none⟩ = some (snt e1) := ⟨ads[1]'(by omega), V.cell 1 (by decide)⟩
  have cp := cell_of_one hp
  have zp := free_of_one hp
  have s1 := fun w => run_head (b := b) (off := off) hmm hm hnc w
  have s2 := fun w => run_tail (b := b) (off := off) (c := c) hmm hm w
  obtain ⟨o2, ho2⟩ : ∃ o2, (if c = m then off else off + m) = o2 := ⟨_, rfl⟩
  obtain ⟨n2, hn2⟩ : ∃ n2, n - m = n2 := ⟨_, rfl⟩
  obtain ⟨c2, hc2⟩ : ∃ c2, c - m = c2 := ⟨_, rfl⟩
  rw [ho2, hn2, hc2] at s2 ⊢
  have hle : mm ≤ n := by omega
  clear V h14 ho2 hn2 hc2 hmm hm hnc
  go_enter Tryz.func75, Tryz.ntmps75
  go_wp2_with (go_at_call 60; (with_reducible refine (demand_t _ _).mono ?_); rintro e w' ⟨rfl, rfl⟩)
  go_ret
  exact ⟨rfl, rfl⟩

theorem take_short (ads : List Addr) (h1 : 1 < ads.length) (p : Nat) (a : Option Addr) (n c m : Nat) (mm : Int) (hmm : (m : Int) = mm) (hm : n < m) (w : World) (V : St ads w) (hp : w.heap[p]? = some (boxS (.slice a n c))) :
    Calls Tryz.prog 75 #[.int .i64 mm, .pointer (some ⟨p, 0, none⟩)] w fun e w' => e = .panicked [{ v := snt (ads[1]'h1), recovered := false }] ∧ w = w' := by
  have c1 : w.cell? ⟨2, 0, none⟩ = some (snt (ads[1]'h1)) := V.cell 1 (by decide)
  obtain ⟨e1, he1⟩ : ∃ a, ads[1]'h1 = a := ⟨_, rfl⟩
  rw [he1] at c1 ⊢
  have cp := cell_of_one hp
  have hle : decide (mm ≤ n) = false := decide_eq_false (by omega)
  clear V he1 hmm hm
  go_enter Tryz.func75, Tryz.ntmps75
  go_wp2_with (go_at_call 60; (with_reducible refine (demand_f _ _).mono ?_); rintro e w' ⟨rfl, rfl⟩)
  exact ⟨rfl, rfl, rfl⟩
end Go.Proofs.YtahdoniggipmmaaGreatDoor

namespace Go.Proofs.YtahdoniggipmmaaGreatDoor
open Go.RowKit Go.ChangeShapes Go.WideShapes

theorem dig8 (n : Nat) : digB n 8 = f8 n := by
  unfold digB f8
  simp [List.range_succ]

theorem float_any (b : Nat) (hb : b < 18446744073709551616) (w : World) :
    Calls Tryz.prog 26 #[.float .f64 b] w fun e w' => ∃ v, e = .returned v ∧ w'.ownsRow w.heap.size 5 1 v 8 ((f8 (Fl.plain b)).map (Value.int .u8)) ∧ Kp w w' := by
  have hp := Fl.plain_lt hb
  have HB := Lib.hid (fun w => bits_any b w hb)
  have HD := Lib.hid (fun w => digits_any (Fl.plain b) 8 hp (by omega) (Fl.plain b) 8 rfl rfl w)
  have HE := Lib.hid (dig8 (Fl.plain b))
  clear hb hp
  go_enter Tryz.func26, Tryz.ntmps26
  go_wp2_with (first | (go_at_call 55; (with_reducible refine (HB.out _).mono ?_); rintro e w' ⟨rfl, rfl⟩) | (go_at_call 61; (with_reducible refine (HD.out _).mono ?_); rintro e w' ⟨rfl, ho, hk⟩; rw [HE.out] at ho; have HO := Lib.hid ho; have HK := Lib.hid hk; clear ho hk))
  go_ret
  exact ⟨_, rfl, HO.out, HK.out⟩

theorem from_any (F : Int) (N : Nat) (hN : F.toNat = N) (h64 : N < 18446744073709551616) (w : World) :
    Calls Tryz.prog 80 #[.int .u64 F] w fun e w' => e = .returned (.float .f64 (Fl.plain N)) ∧ w = w' := by
  have e1 : ∀ w, (callFunc 83 #[.int .u64 F]).run Tryz.prog w = .ok (.value (.float .f64 N)) w := by
    intro w; rw [← hN]; exact ext_fromI F w
  have HP := Lib.hid (fun w => plain_any N w h64)
  clear h64 hN
  go_enter Tryz.func80, Tryz.ntmps80
  go_wp2_with (go_at_call 85; (with_reducible refine (HP.out _).mono ?_); rintro e w' ⟨rfl, rfl⟩)
  go_ret
  exact ⟨rfl, rfl⟩

theorem plain_nan : Fl.isNan 9221120237041090561 = true := by decide +kernel
theorem plain_zero : Fl.isNan 0 = false := by decide +kernel
theorem plain_idem (b : Nat) : Fl.plain (Fl.plain b) = Fl.plain b := by
  unfold Fl.plain
  by_cases h : Fl.isNan b = true
  · rw [if_pos h, if_pos plain_nan]
  · rw [if_neg h]
    by_cases h2 : b = 9223372036854775808
    · rw [if_pos h2, if_neg (by rw [plain_zero]; decide), if_neg (by decide)]
    · rw [if_neg h2, if_neg h, if_neg h2]

theorem toFloat1_len (ads : List Addr) (h3' : 3 < ads.length) (p : Addr) (a : Option Addr) (cap len : Nat) (h8 : len ≠ 8) (w : World) (V : St ads w) (hp : w.cell? p = some (.slice a len cap)) :
    Calls Tryz.prog 79 #[.pointer (some p)] w fun e w' => e = .panicked [{ v := snt (ads[3]'h3'), recovered := false }] ∧ Kp w w' := by
  have c3 : w.cell? ⟨0, 0, none⟩ = some (snt (ads[3]'h3')) := V.cell 3 (by decide)
  obtain ⟨e3, he3⟩ : ∃ a, ads[3]'h3' = a := ⟨_, rfl⟩
  rw [he3] at c3 ⊢
  obtain ⟨ll, hll⟩ : ∃ ll : Int, (len : Int) = ll := ⟨_, rfl⟩
  have hd : (ll == 8) = false := by simp; omega
  clear V he3 h8
  go_enter Tryz.func79, Tryz.ntmps79
  go_wp2_with (go_at_call 60; (with_reducible refine (demand_f _ _).mono ?_); rintro e w' ⟨rfl, rfl⟩)
  exact ⟨rfl, rfl, Kp.refl _⟩

theorem calls_flip {P : Program} {f : FuncId} {args : Array Value} {w : World} {v : Value} (h : Calls P f args w fun e w' => e = .returned v ∧ w = w') : Calls P f args w fun e w' => e = .returned v ∧ w' = w :=
  h.mono fun _ _ h => ⟨h.1, h.2.symm⟩

set_option maxRecDepth 20000 in
theorem toFloat1_any (ads : List Addr) (h3' : 3 < ads.length) (p : Addr) (a : Option Addr) (cap : Nat) (bs : List Int) (hlen : bs.length = 8) (hb : InB bs) (w : World) (V : St ads w) (hp : w.cell? p = some (.slice a 8 cap)) (hs : SlB (.slice a 8 cap) bs w) :
    Calls Tryz.prog 79 #[.pointer (some p)] w fun e w' => ((Fl.plain (beNum bs).toNat = (beNum bs).toNat ∧ e = .returned (.float .f64 (beNum bs).toNat)) ∨ (Fl.plain (beNum bs).toNat ≠ (beNum bs).toNat ∧ e = .panicked [{ v := snt (ads[3]'h3'), recovered := false }])) ∧ Kp w w' := by
  have c3 : w.cell? ⟨0, 0, none⟩ = some (snt (ads[3]'h3')) := V.cell 3 (by decide)
  obtain ⟨e3, he3⟩ : ∃ a, ads[3]'h3' = a := ⟨_, rfl⟩
  rw [he3] at c3 ⊢
  have hr := beNum_range hb 8 (by omega)
  rw [show bs.take 8 = bs from List.take_of_length_le (by omega), show (256 : Int) ^ 8 = 18446744073709551616 from by decide] at hr
  have hv := fun w1 (hk : Kp w w1) => value_any a cap bs 8 hlen (by omega) hb w1 (hs.kp hk)
  obtain ⟨F, hF⟩ : ∃ F, beNum bs = F := ⟨_, rfl⟩
  simp only [hF] at hv hr ⊢
  obtain ⟨N, hN⟩ : ∃ N, F.toNat = N := ⟨_, rfl⟩
  rw [hN]
  have h64 : N < 18446744073709551616 := by omega
  have HV := Lib.hid hv
  have HF := Lib.hid (fun w => from_any F N hN h64 w)
  have hpl := Fl.plain_lt h64
  have hbt : ∀ w, Calls Tryz.prog 55 #[.float .f64 (Fl.plain N)] w fun e w' => e = .returned (.int .u64 (Fl.plain N)) ∧ w = w' := by
    intro w
    have := bits_any (Fl.plain N) w hpl
    rw [plain_idem] at this
    exact this
  obtain ⟨PP, hPP⟩ : ∃ PP : Int, ((Fl.plain N : Nat) : Int) = PP := ⟨_, rfl⟩
  simp only [hPP] at hbt
  have HB := Lib.hid hbt
  have KD := Lib.hid (Kp.refl w).drew
  have hp' : w.drew.cell? p = some (.slice a 8 cap) := hp
  have hc' : w.drew.cell? ⟨0, 0, none⟩ = some (snt e3) := c3
  by_cases hq : Fl.plain N = N
  · have hbq : (PP == F) = true := by simp; omega
    have HQ := Lib.hid hq
    clear V he3 hr hv hF hN hpl hbt hPP hs hb hlen hq h64
    go_enter Tryz.func79, Tryz.ntmps79
    go_wp2_with (first | (go_at_call 60; (with_reducible refine (demand_t _ _).mono ?_); rintro e w' ⟨rfl, rfl⟩) | (go_at_call 76; (with_reducible refine (HV.out _ (Kp.refl _)).mono ?_); rintro e w' ⟨rfl, rfl⟩) | (go_at_call 80; (with_reducible refine (HF.out _).mono ?_); rintro e w' ⟨rfl, rfl⟩))
    refine wp_region_still_tail 6 (by kernel_rfl) (by kernel_rfl) ?_
    simp only [List.take_succ_cons, List.take_zero, List.drop_succ_cons, List.drop_zero]
    still_step
    still_call (calls_flip (HB.out _))
    still_step
    still_call (calls_flip (HV.out _ KD.out))
    still_step
    still_step
    refine wpStill_nil ?_
    change wpList _ _ _ _ _ w.drew
    go_wp2_with (go_at_call 60; (with_reducible refine (demand_t _ _).mono ?_); rintro e w' ⟨rfl, rfl⟩)
    go_ret
    exact ⟨.inl ⟨HQ.out, by rw [HQ.out]; rfl⟩, KD.out⟩
  · have hbq : (PP == F) = false := by simp; omega
    have HQ := Lib.hid hq
    clear V he3 hr hv hF hN hpl hbt hPP hs hb hlen hq h64
    go_enter Tryz.func79, Tryz.ntmps79
    go_wp2_with (first | (go_at_call 60; (with_reducible refine (demand_t _ _).mono ?_); rintro e w' ⟨rfl, rfl⟩) | (go_at_call 76; (with_reducible refine (HV.out _ (Kp.refl _)).mono ?_); rintro e w' ⟨rfl, rfl⟩) | (go_at_call 80; (with_reducible refine (HF.out _).mono ?_); rintro e w' ⟨rfl, rfl⟩))
    refine wp_region_still_tail 6 (by kernel_rfl) (by kernel_rfl) ?_
    simp only [List.take_succ_cons, List.take_zero, List.drop_succ_cons, List.drop_zero]
    still_step
    still_call (calls_flip (HB.out _))
    still_step
    still_call (calls_flip (HV.out _ KD.out))
    still_step
    still_step
    refine wpStill_nil ?_
    change wpList _ _ _ _ _ w.drew
    go_wp2_with (go_at_call 60; (with_reducible refine (demand_f _ _).mono ?_); rintro e w' ⟨rfl, rfl⟩)
    exact ⟨rfl, .inr ⟨HQ.out, rfl⟩, KD.out⟩

theorem toFloat_err (ads : List Addr) (k : Nat) (hk : k < ads.length) (a : Option Addr) (cap len : Nat) (w : World) (V : St ads w)
    (H : ∀ w1, Kp w w1 → w1.cell? ⟨w.heap.size, 0, none⟩ = some (.slice a len cap) → Calls Tryz.prog 79 #[.pointer (some ⟨w.heap.size, 0, none⟩)] w1 fun e w' => e = .panicked [{ v := snt (ads[k]'hk), recovered := false }] ∧ Kp w1 w') :
    Calls Tryz.prog 43 #[.slice a len cap] w fun e w' => e = .returned (.tuple #[.float .f64 0, snt (ads[k]'hk)]) ∧ Kp w w' := by
  have hmf : ∀ (fn : Fn) (first cap : Array Value) (w : World), (Instr.makeFunc fn first cap).run Tryz.prog w = .ok (.func fn first cap) w := fun _ _ _ _ => rfl
  have kb := kp_alloc w (.cells #[.slice a len cap] 29)
  have hc := box_cell w (.slice a len cap) 29
  have HT := Lib.hid (try_f64_err ads k hk 79 #[.pointer (some ⟨w.heap.size, 0, none⟩)] (w.alloc (.cells #[.slice a len cap] 29)) (V.below kb) (by intro w; simp [go_sem]) fun w1 h1 => H w1 (Kp.trans kb h1) (kp_cell h1 hc))
  have KB := Lib.hid kb
  clear kb hc V H
  go_enter Tryz.func43, Tryz.ntmps43
  go_wp2_with (go_at_call 78; (with_reducible refine HT.out.mono ?_); rintro e w' ⟨rfl, hk⟩; have HK := Lib.hid hk; clear hk)
  go_ret2
  exact ⟨rfl, Kp.trans KB.out HK.out⟩

theorem toFloat_val (x : Nat) (a : Option Addr) (cap len : Nat) (w : World)
    (H : ∀ w1, Kp w w1 → w1.cell? ⟨w.heap.size, 0, none⟩ = some (.slice a len cap) → Calls Tryz.prog 79 #[.pointer (some ⟨w.heap.size, 0, none⟩)] w1 fun e w' => e = .returned (.float .f64 x) ∧ Kp w1 w') :
    Calls Tryz.prog 43 #[.slice a len cap] w fun e w' => e = .returned (.tuple #[.float .f64 x, .nilIface]) ∧ Kp w w' := by
  have hmf : ∀ (fn : Fn) (first cap : Array Value) (w : World), (Instr.makeFunc fn first cap).run Tryz.prog w = .ok (.func fn first cap) w := fun _ _ _ _ => rfl
  have kb := kp_alloc w (.cells #[.slice a len cap] 29)
  have hc := box_cell w (.slice a len cap) 29
  have HT := Lib.hid (try_f64_val 79 #[.pointer (some ⟨w.heap.size, 0, none⟩)] x (w.alloc (.cells #[.slice a len cap] 29)) (by intro w; simp [go_sem]) fun w1 h1 => H w1 (Kp.trans kb h1) (kp_cell h1 hc))
  have KB := Lib.hid kb
  clear kb hc H
  go_enter Tryz.func43, Tryz.ntmps43
  go_wp2_with (go_at_call 78; (with_reducible refine HT.out.mono ?_); rintro e w' ⟨rfl, hk⟩; have HK := Lib.hid hk; clear hk)
  go_ret2
  exact ⟨rfl, Kp.trans KB.out HK.out⟩

theorem toFloat_any (ads : List Addr) (h3 : 3 < ads.length) (a : Option Addr) (cap : Nat) (bs : List Int) (len : Nat) (hlen : bs.length = len) (hb : InB bs) (w : World) (V : St ads w) (hs : SlB (.slice a len cap) bs w) :
    Calls Tryz.prog 43 #[.slice a len cap] w fun e w' => ((toFl bs).2 = 0 ∧ e = .returned (.tuple #[.float .f64 (toFl bs).1, .nilIface]) ∨ (toFl bs).2 = 4 ∧ (toFl bs).1 = 0 ∧ e = .returned (.tuple #[.float .f64 0, snt (ads[3]'h3)])) ∧ Kp w w' := by
  by_cases h8 : len = 8
  · subst h8
    have H := fun w1 (hk : Kp w w1) (hc : w1.cell? ⟨w.heap.size, 0, none⟩ = some (.slice a 8 cap)) => toFloat1_any ads h3 _ a cap bs hlen hb w1 (V.below hk) hc (hs.kp hk)
    by_cases hq : Fl.plain (beNum bs).toNat = (beNum bs).toNat
    · have e : toFl bs = ((beNum bs).toNat, 0) := by unfold toFl; rw [if_pos ⟨hlen, hq⟩]
      rw [e]
      refine (toFloat_val (beNum bs).toNat a cap 8 w fun w1 hk hc => (H w1 hk hc).mono ?_).mono ?_
      · rintro e w2 ⟨⟨_, rfl⟩ | ⟨h, _⟩, hk2⟩
        · exact ⟨rfl, hk2⟩
        · exact absurd hq h
      · rintro e w2 ⟨rfl, hk2⟩
        exact ⟨.inl ⟨rfl, rfl⟩, hk2⟩
    · have e : toFl bs = (0, 4) := by unfold toFl; rw [if_neg (fun h => hq h.2)]
      rw [e]
      refine (toFloat_err ads 3 h3 a cap 8 w V fun w1 hk hc => (H w1 hk hc).mono ?_).mono ?_
      · rintro e w2 ⟨⟨h, _⟩ | ⟨_, rfl⟩, hk2⟩
        · exact absurd h hq
        · exact ⟨rfl, hk2⟩
      · rintro e w2 ⟨rfl, hk2⟩
        exact ⟨.inr ⟨rfl, rfl, rfl⟩, hk2⟩
  · have e : toFl bs = (0, 4) := by unfold toFl; rw [if_neg (fun h => h8 (by omega))]
    rw [e]
    refine (toFloat_err ads 3 h3 a cap len w V fun w1 hk hc => toFloat1_len ads h3 _ a cap len h8 w1 (V.below hk) hc).mono ?_
    rintro e w2 ⟨rfl, hk2⟩
    exact ⟨.inr ⟨rfl, rfl, rfl⟩, hk2⟩
end Go.Proofs.YtahdoniggipmmaaGreatDoor

