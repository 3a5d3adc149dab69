/-
  PACKAGE fields' SMALL FUNCTIONS (own work): demand, value; bytes.Clone.
-/
import Derived.Test.YtfealdllicicnaaDoorRefN
import Derived.Test.YtfealdllicicnaaDoorAppB
import Derived.Test.YtfealdllicicnaaDoorPvE
import Derived.Laws.Bits64b
import Derived.Lib.SliceRun
namespace Go.Proofs.YtfealdllicicnaaDoor
open Go.RowKit Go.ChangeShapes Go.WideShapes

/-- A panic of the text's own, with an error. -/
theorem run_panic_some {P : Program} (t : TypeId) (v : Value) (w : World) : (Instr.panic (.iface t v)).run P w = .halt (.panic (.iface t v)) w := rfl

theorem demand_t (v : Value) (w : World) : Calls Tryd.prog 43 #[.bool true, v] w fun e w' => e = .returned (.tuple #[]) ∧ w = w' := by
  go_enter Tryd.func43, Tryd.ntmps43
  go_wp2
  go_end0
  exact ⟨rfl, rfl⟩

theorem demand_f (a : Addr) (w : World) : Calls Tryd.prog 43 #[.bool false, snt a] w fun e w' => e = .panicked [{ v := snt a, recovered := false }] ∧ w = w' := by
  have hpn := run_panic_some (P := Tryd.prog) 104 (.pointer (some a)) w
  go_enter Tryd.func43, Tryd.ntmps43
  go_wp2
  exact ⟨rfl, rfl, rfl⟩

theorem or8 {u c : Int} (hu : 0 ≤ u ∧ u < 72057594037927936) (hc : 0 ≤ c ∧ c < 256) : bits .or .u64 (u * 256) c = 256 * u + c := by
  obtain ⟨x, rfl⟩ : ∃ x : Nat, u = x := ⟨u.toNat, by omega⟩
  obtain ⟨y, rfl⟩ : ∃ y : Nat, c = y := ⟨c.toNat, by omega⟩
  have e : ((x : Int) * 256) = ((256 * x : Nat) : Int) := by omega
  rw [e, bits_or_u64_nat _ _ (by omega) (by omega)]
  have := Nat.two_pow_add_eq_or_of_lt (i := 8) (show y < 2 ^ 8 by omega) x
  rw [show (2 : Nat) ^ 8 = 256 from rfl] at this
  rw [← this]
  omega

set_option maxRecDepth 100000 in
theorem value_any (a : Option Addr) (cap : Nat) (bs : List Int) (len : Nat) (hlen : bs.length = len) (hl : len ≤ 8) (hb : InB bs) (w : World) (hs : SlB (.slice a len cap) bs w) :
    Calls Tryd.prog 44 #[.slice a len cap] w fun e w' => e = .returned (.int .u64 (beNum bs)) ∧ w = w' := by
  have hel : ∀ j (hj : j < bs.length), ∃ b off, a = some ⟨b, off, none⟩ ∧ w.cell? ⟨b, off + j, none⟩ = some (.int .u8 (bs.getD j 0)) := fun j hj => hs.at j hj
  have hr := beNum_range hb
  have hn := fun j (h : j < bs.length) => beNum_next h
  have HEL := Lib.hid hel
  have HR := Lib.hid hr
  have HNX := Lib.hid hn
  have HB := Lib.hid hb
  have HL := Lib.hid hlen
  clear hel hs hr hn hb hlen
  go_enter Tryd.func44, Tryd.ntmps44
  go_wp2
  go_loop [3, 8] (fun u i => ∃ j : Nat, j ≤ len ∧ i = .int .i64 j ∧ u = .int .u64 (beNum (bs.take j))) (fun _ i => len - (intOf i).toNat)
  case atStart => exact ⟨0, Nat.zero_le _, rfl, rfl⟩
  case round =>
    obtain ⟨j, hj, rfl, rfl⟩ := hrel
    obtain ⟨jj, hjj⟩ : ∃ jj : Int, (j : Int) = jj := ⟨_, rfl⟩
    obtain ⟨uu, huu⟩ : ∃ uu, beNum (bs.take j) = uu := ⟨_, rfl⟩
    rw [hjj, huu]
    have hl' := HL.out
    by_cases hlt : j < len
    · have hjl : j < bs.length := by omega
      obtain ⟨b2, off2, rfl, hc2⟩ := HEL.out j hjl
      have hnx := HNX.out j hjl
      have hbb := HB.out bs[j] (List.getElem_mem _)
      have hru := HR.out j (by omega)
      obtain ⟨y, hy⟩ : ∃ y, bs[j] = y := ⟨_, rfl⟩
      have hy2 : bs.getD j 0 = y := by simp [List.getD, hjl, hy]
      rw [hy2] at hc2
      rw [hy] at hnx hbb
      rw [huu] at hnx hru
      have hp7 : (256 : Int) ^ j ≤ 256 ^ 7 := p256_le (by omega)
      have e7 : (256 : Int) ^ 7 = 72057594037927936 := by decide
      have hub : 0 ≤ uu ∧ uu < 72057594037927936 := by omega
      have ej : jj.toNat = j := by omega
      rw [← ej] at hc2
      have hj0 : 0 ≤ jj := by omega
      have hltj : jj < len := by omega
      have hor := or8 hub hbb
      have HJ := Lib.hid hjj
      have HNXT := Lib.hid hnx
      clear hjj huu hnx hru hp7 e7 hy hy2 ej hlt hjl hl'
      go_wp2
      have hjj := HJ.out
      go_round
      case rel =>
        refine ⟨j + 1, by omega, by congr 1; omega, ?_⟩
        rw [HNXT.out]
      case measure => simp [intOf]; omega
    · obtain rfl : j = len := by omega
      have hex : ¬ jj < j := by omega
      have hful : bs.take j = bs := by rw [List.take_of_length_le]; omega
      rw [hful] at huu
      subst huu
      clear hjj hful hl'
      go_wp2
      go_ret
      exact ⟨rfl, rfl⟩

set_option maxRecDepth 20000 in
theorem clone_nil (w : World) : Calls Tryd.prog 34 #[.slice none 0 0] w fun e w' => e = .returned (.slice none 0 0) ∧ w = w' := by
  have hq : (binOp .eql 25 (.slice none 0 0) (.slice none 0 0)).run Tryd.prog w = .ok (.bool true) w := by
    rw [run_eql_nil_slice w 25 5 none 0 0 0 0 Tryd.underlying25]; rfl
  go_enter Tryd.func34, Tryd.ntmps34
  go_wp2
  go_ret
  exact ⟨rfl, rfl⟩

set_option maxRecDepth 20000 in
theorem clone_any (v : Value) (bs : List Int) (hl : bs.length ≤ 1000000) (w : World) (hs : SlB v bs w) :
    Calls Tryd.prog 34 #[v] w fun e w' => ∃ v', e = .returned v' ∧ w'.ownsRow w.heap.size 5 1 v' bs.length (bs.map (Value.int .u8)) ∧ Kp w w' := by
  obtain ⟨a, cap, rfl⟩ := hs.form
  cases a with
  | none =>
    obtain ⟨h0, rfl⟩ := hs.app.1 rfl
    have hbs : bs = [] := List.length_eq_zero_iff.1 h0
    subst hbs
    refine (clone_nil w).mono ?_
    rintro e w' ⟨rfl, rfl⟩
    exact ⟨_, rfl, ⟨by simp, .inl ⟨rfl, rfl⟩⟩, Kp.refl _⟩
  | some ad =>
    obtain ⟨len, hlen⟩ : ∃ n, bs.length = n := ⟨_, rfl⟩
    rw [hlen] at hs hl ⊢
    have OW0 := Lib.hid (own_empty w 5)
    have HS0 := Lib.hid (hs.kp (kp_alloc w (.cells #[] 5)))
    have K0 := Lib.hid (kp_alloc w (.cells #[] 5))
    have hq : (binOp .eql 25 (.slice (some ad) len cap) (.slice none 0 0)).run Tryd.prog w = .ok (.bool false) w := by
      rw [Lib.run_eql_slice_nil w 25 5 (some ad) len cap 0 0 Tryd.underlying25]; rfl
    clear hs
    go_enter Tryd.func34, Tryd.ntmps34
    go_wp2_with (at_builtin; refine wpList_append_slb _ rfl (.tmp 5) (.tmp 6) rfl w.heap.size _ _ _ rfl OW0.out (some ad) len cap bs rfl HS0.out ?d1 ?d2 ?_)
    case d1 => omega
    case d2 => exact Below.size K0.out
    rintro v5 w5 hown5 hgr5 -
    have kp5 : Kp w w5 := row_kp OW0.out hgr5 K0.out
    have HO := Lib.hid hown5
    have HK := Lib.hid kp5
    clear hown5 hgr5 kp5
    go_wp2
    go_ret
    refine ⟨_, rfl, ?_, HK.out⟩
    simpa using HO.out
end Go.Proofs.YtfealdllicicnaaDoor
