/-
  THE WALK OF FloatsTurned (own work).
-/
import Derived.Test.YtcfjecllfghkbaaDoorRows
import Derived.Test.YtcfjecllfghkbaaDoorSl
import Derived.Test.YtcfjecllfghkbaaDoorOwn
import Derived.Test.YtcfjecllfghkbaaDoorLaid
import Derived.BigQuiet
import Derived.Deep.QuietTactic
namespace Go.Proofs.YtcfjecllfghkbaaDoor
open Go.RowKit

theorem place_lstep (acc x : Nat) : Fl.place (lstep acc x) = min (Fl.place acc) (Fl.place x) := by
  unfold lstep
  have := Fl.cmpN_spec (Fl.place x) (Fl.place acc)
  unfold Fl.ord
  split <;> omega
theorem le_fold (c : Nat) (bs : List Nat) : ∀ acc, c ≤ Fl.place (bs.foldl lstep acc) ↔ c ≤ Fl.place acc ∧ ∀ x ∈ bs, c ≤ Fl.place x := by
  induction bs with
  | nil => intro acc; simp
  | cons y ys ih =>
    intro acc
    rw [List.foldl_cons, ih, place_lstep]
    simp only [List.mem_cons, forall_eq_or_imp]
    constructor
    · rintro ⟨h1, h2⟩; exact ⟨by omega, by omega, h2⟩
    · rintro ⟨h1, h2, h3⟩; exact ⟨by omega, h3⟩
theorem le_lst (c : Nat) (bs : List Nat) : c ≤ Fl.place (lst bs) ↔ c ≤ Fl.place 9218868437227405312 ∧ ∀ x ∈ bs, c ≤ Fl.place x := le_fold c bs _
theorem place_inf : Fl.place 9218868437227405312 = 18442240474082181120 := by kernel_rfl
theorem lst_notNan (bs : List Nat) : Fl.isNan (lst bs) = false := by
  cases h : Fl.isNan (lst bs)
  · rfl
  · exfalso
    have h1 := (le_lst (Fl.place (lst bs)) bs).1 (Nat.le_refl _)
    rw [place_inf] at h1
    have h2 : Fl.place (lst bs) = 18446744073709551615 := by unfold Fl.place; rw [if_pos h]
    omega
theorem lst_same {bs cs : List Nat} (hb : ∀ x ∈ bs, x < 18446744073709551616) (hc : ∀ x ∈ cs, x < 18446744073709551616) (h : ∀ x, x ∈ bs ↔ x ∈ cs) : lst bs = lst cs := by
  have e : Fl.place (lst bs) = Fl.place (lst cs) := by
    apply Nat.le_antisymm
    · have := (le_lst (Fl.place (lst bs)) bs).1 (Nat.le_refl _)
      exact (le_lst _ cs).2 ⟨this.1, fun x hx => this.2 x ((h x).2 hx)⟩
    · have := (le_lst (Fl.place (lst cs)) cs).1 (Nat.le_refl _)
      exact (le_lst _ bs).2 ⟨this.1, fun x hx => this.2 x ((h x).1 hx)⟩
  rcases Fl.place_inj (lst_lt hb) (lst_lt hc) e with ⟨hn, _⟩ | h'
  · rw [lst_notNan] at hn; cases hn
  · exact h'
theorem plain_mono {x y : Nat} (hy : y < 18446744073709551616) (nx : Fl.isNan x = false) (ny : Fl.isNan y = false) (h : Fl.place x ≤ Fl.place y) : Fl.ord (Fl.plain x) (Fl.plain y) ≤ 0 := by
  have key : Fl.place (Fl.plain x) ≤ Fl.place (Fl.plain y) := by
    have p0 : Fl.place 0 = 9223372036854775808 := by kernel_rfl
    have pm : Fl.place 9223372036854775808 = 9223372036854775807 := by kernel_rfl
    unfold Fl.plain
    rw [nx, ny]
    simp only [Bool.false_eq_true, if_false]
    by_cases gx : x = 9223372036854775808
    · rw [if_pos gx]
      by_cases gy : y = 9223372036854775808
      · rw [if_pos gy]; exact Nat.le_refl _
      · rw [if_neg gy, p0]
        rw [gx, pm] at h
        have hne : Fl.place y ≠ 9223372036854775807 := by
          intro e
          rcases Fl.place_inj hy (show 9223372036854775808 < 18446744073709551616 by omega) (e.trans pm.symm) with ⟨hn, _⟩ | h'
          · rw [ny] at hn; cases hn
          · exact gy h'
        omega
    · rw [if_neg gx]
      by_cases gy : y = 9223372036854775808
      · rw [if_pos gy, p0]; rw [gy, pm] at h; omega
      · rw [if_neg gy]; exact h
  have := Fl.cmpN_spec (Fl.place (Fl.plain x)) (Fl.place (Fl.plain y))
  unfold Fl.ord
  omega

theorem info_f : (Tryd.prog.info? 22).map (fun i => (i.zero, i.size, i.bytes)) = some (some (.float .f64 0), 1, 8) := by kernel_rfl

theorem own_slf {w : World} {base n : Nat} {v : Value} {bs : List Nat} (h : w.ownsRow base 22 1 v n (bs.map (Value.float .f64))) : SlF v bs w := by
  obtain ⟨h1, h2⟩ := h
  have hlen : bs.length = n := by simpa using h1
  rcases h2 with ⟨rfl, hn⟩ | ⟨g, cap, cur, rfl, hg, hh, hc, hm, hs, ht⟩
  · left
    exact ⟨List.length_eq_zero_iff.1 (by omega), none, 0, rfl⟩
  · by_cases h0 : n = 0
    · left
      subst h0
      exact ⟨List.length_eq_zero_iff.1 (by omega), _, cap, rfl⟩
    · right
      refine ⟨g, 0, cap, by omega, by rw [hlen], fun j hj => ?_⟩
      unfold World.cell?
      dsimp only
      rw [hh]
      simp only [Option.isSome_none, Bool.false_eq_true, if_false, Nat.zero_add]
      have : (cur.toList.take (n * 1))[j]? = some (.float .f64 (bs.getD j 0)) := by
        rw [ht]; simp [List.getD, hj]
      rw [List.getElem?_take, Nat.mul_one, if_pos (by omega)] at this
      simpa using this

def revL (bs : List Nat) (k : Nat) : List Value := (bs.reverse.take k).map (Value.float .f64)
def IdxIs (j : Nat) (i : Value) : Prop := (j = 0 ∧ i = .int .i64 (-1)) ∨ ∃ q : Nat, j = q + 1 ∧ i = .int .i64 q
theorem rev_take {bs : List Nat} {q : Nat} (h : q < bs.length) : bs.reverse.take (bs.length - q) = bs.reverse.take (bs.length - (q + 1)) ++ [bs.getD q 0] := by
  rw [show bs.length - q = (bs.length - (q + 1)) + 1 by omega, List.take_succ_eq_append_getElem (by simp; omega)]
  congr 2
  rw [List.getElem_reverse]
  simp [List.getD, h]
  congr 1; omega
theorem q_of {P : Program} {f : FuncId} {args : Array Value} {w : World} {n : Nat} {v : Value} (h : Calls P f args (w.drewN n) fun e w' => e = .returned v ∧ w.drewN n = w') :
    Calls P f args (w.drewN n) fun e w'' => e = .returned v ∧ ∃ m, w'' = w.drewN m := Calls.quiet_of_same (h.mono fun _ _ ⟨a, b⟩ => ⟨a, b.symm⟩)
theorem Kp.drewN {a b : World} (h : Kp a b) (n : Nat) : Kp a (b.drewN n) := ⟨h.os, h.tape, h.output, h.size, h.block⟩

theorem turned_long (a : Option Addr) (len cap x y : Nat) (w : World) (h : 300 < len) :
    Calls Tryd.prog 9 #[.slice a len cap, .float .f64 x, .float .f64 y] w fun e w' => e = .returned (.bool true) ∧ w = w' := by
  obtain ⟨n, hn⟩ : ∃ n : Int, (len : Int) = n := ⟨_, rfl⟩
  have h' : 300 < n := by omega
  clear h
  go_enter Tryd.func9, Tryd.ntmps9
  go_wp2_with (first | (go_at_call 10; (with_reducible refine (alive_any _).mono ?_); rintro e w' ⟨rfl, rfl⟩))
  go_ret
  exact ⟨rfl, rfl⟩

set_option maxRecDepth 100000 in
set_option maxHeartbeats 4000000 in
theorem turned_ok (ao : Option Addr) (cap : Nat) (bs : List Nat) (x y r : Nat) (vv : Int) (w : World) (h300 : bs.length ≤ 300) (hb : ∀ x ∈ bs, x < 18446744073709551616) (hx : x < 18446744073709551616)
    (hs : SlF (.slice ao bs.length cap) bs w)
    (lt1 : ∀ w1, Kp w w1 → Calls Tryd.prog 29 #[.float .f64 x, .float .f64 y] w1 fun e w' => e = .returned (.tuple #[.float .f64 r, .nilIface]) ∧ Kp w1 w')
    (lt2 : ∀ w1, Kp w w1 → Calls Tryd.prog 29 #[.float .f64 y, .float .f64 x] w1 fun e w' => e = .returned (.tuple #[.float .f64 r, .nilIface]) ∧ Kp w1 w')
    (ho : ∀ w, Calls Tryd.prog 11 #[.float .f64 (Fl.plain (lst (bs.reverse ++ [x]))), .float .f64 (Fl.plain (lst bs))] w fun e w' => e = .returned (.int .i64 vv) ∧ w = w')
    (hvv : vv ≤ 0) :
    Calls Tryd.prog 9 #[.slice ao bs.length cap, .float .f64 x, .float .f64 y] w fun e w' => e = .returned (.bool true) ∧ Below w.heap.size w w' := by
  obtain ⟨i0, hi, hz0, hz1, hz2⟩ := info_parts info_f
  have hrev : bs.reverse.take bs.length = bs.reverse := by rw [List.take_of_length_le (by simp)]
  have lsty : ∀ w1, Kp w w1 → Calls Tryd.prog 26 #[.slice ao bs.length cap] w1 fun e w' => e = .returned (.float .f64 (Fl.plain (lst bs))) ∧ w1 = w' := by
    intro w1 hk
    exact least_any _ bs w1 (hs.below hk) (by unfold maxLen; omega) hb
  have lstr : ∀ w1 v, w1.ownsRow w.heap.size 22 1 v bs.length (revL bs bs.length) → Calls Tryd.prog 26 #[v] w1 fun e w' => e = .returned (.float .f64 (Fl.plain (lst bs))) ∧ w1 = w' := by
    intro w1 v hown
    rw [lst_same (cs := bs.reverse) hb (fun x hx => hb x (List.mem_reverse.1 hx)) (fun x => List.mem_reverse.symm)]
    unfold revL at hown
    rw [hrev] at hown
    exact least_any v bs.reverse w1 (own_slf hown) (by unfold maxLen; simp; omega) (fun x hx => hb x (List.mem_reverse.1 hx))
  have lstm : ∀ w1 v, w1.ownsRow w.heap.size 22 1 v (bs.length + 1) (revL bs bs.length ++ [.float .f64 x]) → Calls Tryd.prog 26 #[v] w1 fun e w' => e = .returned (.float .f64 (Fl.plain (lst (bs.reverse ++ [x])))) ∧ w1 = w' := by
    intro w1 v hown
    unfold revL at hown
    rw [hrev] at hown
    refine least_any v (bs.reverse ++ [x]) w1 (own_slf (n := bs.length + 1) (base := w.heap.size) (by simpa using hown)) (by unfold maxLen; simp; omega) ?_
    intro z hz
    rcases List.mem_append.1 hz with h | h
    · exact hb z (List.mem_reverse.1 h)
    · simp at h; subst h; exact hx
  have hel : ∀ wr, Kp w wr → ∀ j, j < bs.length → ∃ b off, ao = some ⟨b, off, none⟩ ∧ wr.cell? ⟨b, off + j, none⟩ = some (.float .f64 (bs.getD j 0)) := by
    intro wr hk j hj
    rcases hs.below hk with ⟨hz, _⟩ | ⟨b, off, cap', _, hv, hcc⟩
    · rw [hz] at hj; cases hj
    · injection hv with hv1 _ _
      exact ⟨b, off, hv1, hcc j hj⟩
  have hrt : ∀ q, q < bs.length → revL bs (bs.length - q) = revL bs (bs.length - (q + 1)) ++ [.float .f64 (bs.getD q 0)] := by
    intro q h; unfold revL; rw [rev_take h, List.map_append]; rfl
  clear hrev
  obtain ⟨pl, hpl⟩ : ∃ pl, Fl.plain (lst bs) = pl := ⟨_, rfl⟩
  obtain ⟨pm, hpm⟩ : ∃ pm, Fl.plain (lst (bs.reverse ++ [x])) = pm := ⟨_, rfl⟩
  obtain ⟨len, hlen⟩ : ∃ len, bs.length = len := ⟨_, rfl⟩
  rw [hpl] at lsty lstr ho
  rw [hpm] at lstm ho
  rw [hlen] at h300 lsty lstr lstm hel hrt ⊢
  have HEL := Lib.hid hel
  have HRT := Lib.hid hrt
  have LSR := Lib.hid lstr
  have LSM := Lib.hid lstm
  have LSY := Lib.hid lsty
  have L1 := Lib.hid lt1
  have L2 := Lib.hid lt2
  have HI := Lib.hid (And.intro hz1 hz2)
  have HI2 := Lib.hid hi
  have HI3 := Lib.hid hz0
  clear hs hb hx hel hrt lstr lstm lsty lt1 lt2 hz1 hz2 hi hz0 hpl hpm hlen
  have own0 : (w.alloc (.cells #[] 22)).ownsRow w.heap.size 22 1 (.slice (some ⟨w.heap.size, 0, none⟩) 0 0) 0 [] :=
    ⟨by simp, Or.inr ⟨w.heap.size, 0, #[], rfl, Nat.le_refl _, (MapKept.heap_alloc w _).1, Nat.le_refl _, by omega, by simp, by simp⟩⟩
  have kp0 : Kp w (w.alloc (.cells #[] 22)) := (Below.refl _ _).alloc (Nat.le_refl _) _
  have ix0 : IdxIs len (.int .i64 ((len : Int) - 1)) := by
    by_cases hz : len = 0
    · exact Or.inl ⟨hz, by subst hz; rfl⟩
    · have e : ((len - 1 : Nat) : Int) = (len : Int) - 1 := by omega
      exact Or.inr ⟨len - 1, by omega, by rw [e]⟩
  have IX0 := Lib.hid ix0
  clear ix0
  have OWN0 := Lib.hid own0
  have KP0 := Lib.hid kp0
  clear own0 kp0
  go_enter Tryd.func9, Tryd.ntmps9
  go_wp2_with (first | (go_at_call 10; (with_reducible refine (alive_any _).mono ?_); rintro e w' ⟨rfl, rfl⟩))
  go_loopw [7, 8] (fun v i wr => ∃ j : Nat, j ≤ len ∧ IdxIs j i ∧ wr.ownsRow w.heap.size 22 1 v (len - j) (revL bs (len - j)) ∧ v ≠ .slice none 0 0 ∧ Kp w wr)
    (fun _ i _ => (intOf i + 1).toNat)
  case atStart => exact ⟨len, Nat.le_refl _, IX0.out, by rw [Nat.sub_self]; exact OWN0.out, (by intro h; cases h), KP0.out⟩
  case round =>
    obtain ⟨j, hj, hidx, hown, hnn, hkp⟩ := hrel
    rcases hidx with ⟨hj0, rfl⟩ | ⟨p, hjp, rfl⟩
    · subst hj0
      rw [Nat.sub_zero] at hown
      have OW := Lib.hid hown
      have NN := Lib.hid hnn
      have KP := Lib.hid hkp
      clear hown hnn hkp
      go_wp2_with (first | (go_at_call 26; (with_reducible refine (LSY.out _ KP.out).mono ?_); rintro e w' ⟨rfl, rfl⟩) | (go_at_call 29; (with_reducible refine (L1.out _ KP.out).mono ?_); rintro e w2 ⟨rfl, k2⟩) | (go_at_call 29; (with_reducible refine (L2.out _ (Kp.trans KP.out k2)).mono ?_); rintro e w3 ⟨rfl, k3⟩) | (at_builtin; refine wpList_append_twice _ rfl _ _ 37 rfl w.heap.size 22 i0 (.float .f64 0) 8 Tryd.underlying37 HI2.out HI3.out HI.out.1 HI.out.2 rfl _ _ _ rfl ((own_kp (own_kp OW.out k2) k3).alloc _) NN.out ⟨w3.heap.size, 0, none⟩ 1 (.float .f64 x) rfl ?c1 rfl ?c3 ?c4 ?c5 ?_))
      case c1 => rw [World.cell?_alloc_at _ _ _ _ rfl]; rfl
      case c3 => unfold maxLen; omega
      case c4 => omega
      case c5 => have := KP.out.size; have := k2.size; have := k3.size; simp; omega
      · intro v4 w4 own4 old4 nn4 hbel4
        have kp4 : Kp w w4 := Below.trans (Below.alloc (Kp.trans KP.out (Kp.trans k2 k3)) (by have := KP.out.size; have := k2.size; have := k3.size; omega) _) hbel4
        have O4 := Lib.hid own4
        have P4 := Lib.hid old4
        have KP4 := Lib.hid kp4
        clear own4 old4 nn4 hbel4 kp4
        go_wp2_with (first | (go_at_call 26; (with_reducible refine (LSM.out _ _ O4.out).mono ?_); rintro e w' ⟨rfl, rfl⟩))
        have hd : decide (vv ≤ 0) = true := decide_eq_true hvv
        go_quiet ((first | (go_at_call 31; exact q_of (raw_any _ _)) | (go_at_call 26; exact q_of (LSR.out _ _ P4.out)) | (go_at_call 11; exact q_of (ho _))))
        go_wp2
        go_ret
        exact ⟨rfl, Kp.drewN KP4.out _⟩
    · subst hjp
      have hp : p < len := by omega
      obtain ⟨u, hu⟩ : ∃ u, bs.getD p 0 = u := ⟨_, rfl⟩
      obtain ⟨b, off, rfl, hcx⟩ := HEL.out wr hkp p hp
      rw [hu] at hcx
      have hrt := HRT.out p hp
      rw [hu] at hrt
      have HR := Lib.hid hrt
      have hsz := hkp.size
      have KP := Lib.hid hkp
      clear hrt hu hkp
      go_wp2_with (at_builtin; refine wpList_append_twice _ rfl _ _ 37 rfl w.heap.size 22 i0 (.float .f64 0) 8 Tryd.underlying37 HI2.out HI3.out HI.out.1 HI.out.2 rfl _ _ _ rfl (hown.alloc _) hnn ⟨wr.heap.size, 0, none⟩ 1 (.float .f64 u) rfl ?c1 rfl ?c3 ?c4 ?c5 ?_)
      case c1 => rw [World.cell?_alloc_at _ _ _ _ rfl]; rfl
      case c3 => unfold maxLen; omega
      case c4 => omega
      case c5 => simp; omega
      · intro v' w1 own' _ nn' hbel
        have kp1 : Kp w w1 := Below.trans (Below.alloc KP.out hsz _) hbel
        have own2 : w1.ownsRow w.heap.size 22 1 v' (len - p) (revL bs (len - p)) := by
          rw [HR.out]
          have : len - (p + 1) + 1 = len - p := by omega
          rw [this] at own'
          exact own'
        have hix : IdxIs p (.int .i64 ((p : Int) - 1)) := by
          by_cases hp0 : p = 0
          · exact Or.inl ⟨hp0, by subst hp0; rfl⟩
          · have e : ((p - 1 : Nat) : Int) = (p : Int) - 1 := by omega
            exact Or.inr ⟨p - 1, by omega, by rw [e]⟩
        clear own' hown hcx hbel hsz
        go_wp2
        go_roundw
        case rel => exact ⟨p, by omega, hix, own2, nn', kp1⟩
        case measure => first | (simp [intOf]; done) | (simp [intOf]; omega)
set_option maxRecDepth 100000 in
set_option maxHeartbeats 4000000 in
theorem turned_err (ao : Option Addr) (cap : Nat) (bs : List Nat) (x y r : Nat) (pa : Addr) (vv : Int) (w : World) (h300 : bs.length ≤ 300) (hb : ∀ x ∈ bs, x < 18446744073709551616) (hx : x < 18446744073709551616)
    (hs : SlF (.slice ao bs.length cap) bs w)
    (lt1 : ∀ w1, Kp w w1 → Calls Tryd.prog 29 #[.float .f64 x, .float .f64 y] w1 fun e w' => e = .returned (.tuple #[.float .f64 r, .iface 72 (.pointer (some pa))]) ∧ Kp w1 w')
    (lt2 : ∀ w1, Kp w w1 → Calls Tryd.prog 29 #[.float .f64 y, .float .f64 x] w1 fun e w' => e = .returned (.tuple #[.float .f64 r, .iface 72 (.pointer (some pa))]) ∧ Kp w1 w')
    (ho : ∀ w, Calls Tryd.prog 11 #[.float .f64 (Fl.plain (lst (bs.reverse ++ [x]))), .float .f64 (Fl.plain (lst bs))] w fun e w' => e = .returned (.int .i64 vv) ∧ w = w')
    (hvv : vv ≤ 0) :
    Calls Tryd.prog 9 #[.slice ao bs.length cap, .float .f64 x, .float .f64 y] w fun e w' => e = .returned (.bool true) ∧ Below w.heap.size w w' := by
  obtain ⟨i0, hi, hz0, hz1, hz2⟩ := info_parts info_f
  have hrev : bs.reverse.take bs.length = bs.reverse := by rw [List.take_of_length_le (by simp)]
  have lsty : ∀ w1, Kp w w1 → Calls Tryd.prog 26 #[.slice ao bs.length cap] w1 fun e w' => e = .returned (.float .f64 (Fl.plain (lst bs))) ∧ w1 = w' := by
    intro w1 hk
    exact least_any _ bs w1 (hs.below hk) (by unfold maxLen; omega) hb
  have lstr : ∀ w1 v, w1.ownsRow w.heap.size 22 1 v bs.length (revL bs bs.length) → Calls Tryd.prog 26 #[v] w1 fun e w' => e = .returned (.float .f64 (Fl.plain (lst bs))) ∧ w1 = w' := by
    intro w1 v hown
    rw [lst_same (cs := bs.reverse) hb (fun x hx => hb x (List.mem_reverse.1 hx)) (fun x => List.mem_reverse.symm)]
    unfold revL at hown
    rw [hrev] at hown
    exact least_any v bs.reverse w1 (own_slf hown) (by unfold maxLen; simp; omega) (fun x hx => hb x (List.mem_reverse.1 hx))
  have lstm : ∀ w1 v, w1.ownsRow w.heap.size 22 1 v (bs.length + 1) (revL bs bs.length ++ [.float .f64 x]) → Calls Tryd.prog 26 #[v] w1 fun e w' => e = .returned (.float .f64 (Fl.plain (lst (bs.reverse ++ [x])))) ∧ w1 = w' := by
    intro w1 v hown
    unfold revL at hown
    rw [hrev] at hown
    refine least_any v (bs.reverse ++ [x]) w1 (own_slf (n := bs.length + 1) (base := w.heap.size) (by simpa using hown)) (by unfold maxLen; simp; omega) ?_
    intro z hz
    rcases List.mem_append.1 hz with h | h
    · exact hb z (List.mem_reverse.1 h)
    · simp at h; subst h; exact hx
  have hel : ∀ wr, Kp w wr → ∀ j, j < bs.length → ∃ b off, ao = some ⟨b, off, none⟩ ∧ wr.cell? ⟨b, off + j, none⟩ = some (.float .f64 (bs.getD j 0)) := by
    intro wr hk j hj
    rcases hs.below hk with ⟨hz, _⟩ | ⟨b, off, cap', _, hv, hcc⟩
    · rw [hz] at hj; cases hj
    · injection hv with hv1 _ _
      exact ⟨b, off, hv1, hcc j hj⟩
  have hrt : ∀ q, q < bs.length → revL bs (bs.length - q) = revL bs (bs.length - (q + 1)) ++ [.float .f64 (bs.getD q 0)] := by
    intro q h; unfold revL; rw [rev_take h, List.map_append]; rfl
  clear hrev
  obtain ⟨pl, hpl⟩ : ∃ pl, Fl.plain (lst bs) = pl := ⟨_, rfl⟩
  obtain ⟨pm, hpm⟩ : ∃ pm, Fl.plain (lst (bs.reverse ++ [x])) = pm := ⟨_, rfl⟩
  obtain ⟨len, hlen⟩ : ∃ len, bs.length = len := ⟨_, rfl⟩
  rw [hpl] at lsty lstr ho
  rw [hpm] at lstm ho
  rw [hlen] at h300 lsty lstr lstm hel hrt ⊢
  have HEL := Lib.hid hel
  have HRT := Lib.hid hrt
  have LSR := Lib.hid lstr
  have LSM := Lib.hid lstm
  have LSY := Lib.hid lsty
  have L1 := Lib.hid lt1
  have L2 := Lib.hid lt2
  have HI := Lib.hid (And.intro hz1 hz2)
  have HI2 := Lib.hid hi
  have HI3 := Lib.hid hz0
  clear hs hb hx hel hrt lstr lstm lsty lt1 lt2 hz1 hz2 hi hz0 hpl hpm hlen
  have own0 : (w.alloc (.cells #[] 22)).ownsRow w.heap.size 22 1 (.slice (some ⟨w.heap.size, 0, none⟩) 0 0) 0 [] :=
    ⟨by simp, Or.inr ⟨w.heap.size, 0, #[], rfl, Nat.le_refl _, (MapKept.heap_alloc w _).1, Nat.le_refl _, by omega, by simp, by simp⟩⟩
  have kp0 : Kp w (w.alloc (.cells #[] 22)) := (Below.refl _ _).alloc (Nat.le_refl _) _
  have ix0 : IdxIs len (.int .i64 ((len : Int) - 1)) := by
    by_cases hz : len = 0
    · exact Or.inl ⟨hz, by subst hz; rfl⟩
    · have e : ((len - 1 : Nat) : Int) = (len : Int) - 1 := by omega
      exact Or.inr ⟨len - 1, by omega, by rw [e]⟩
  have IX0 := Lib.hid ix0
  clear ix0
  have OWN0 := Lib.hid own0
  have KP0 := Lib.hid kp0
  clear own0 kp0
  have hif : Tryd.prog.isIface 29 = true := by kernel_rfl
  go_enter Tryd.func9, Tryd.ntmps9
  go_wp2_with (first | (go_at_call 10; (with_reducible refine (alive_any _).mono ?_); rintro e w' ⟨rfl, rfl⟩))
  go_loopw [7, 8] (fun v i wr => ∃ j : Nat, j ≤ len ∧ IdxIs j i ∧ wr.ownsRow w.heap.size 22 1 v (len - j) (revL bs (len - j)) ∧ v ≠ .slice none 0 0 ∧ Kp w wr)
    (fun _ i _ => (intOf i + 1).toNat)
  case atStart => exact ⟨len, Nat.le_refl _, IX0.out, by rw [Nat.sub_self]; exact OWN0.out, (by intro h; cases h), KP0.out⟩
  case round =>
    obtain ⟨j, hj, hidx, hown, hnn, hkp⟩ := hrel
    rcases hidx with ⟨hj0, rfl⟩ | ⟨p, hjp, rfl⟩
    · subst hj0
      rw [Nat.sub_zero] at hown
      have OW := Lib.hid hown
      have NN := Lib.hid hnn
      have KP := Lib.hid hkp
      clear hown hnn hkp
      go_wp2_with (first | (go_at_call 26; (with_reducible refine (LSY.out _ KP.out).mono ?_); rintro e w' ⟨rfl, rfl⟩) | (go_at_call 29; (with_reducible refine (L1.out _ KP.out).mono ?_); rintro e w2 ⟨rfl, k2⟩) | (go_at_call 29; (with_reducible refine (L2.out _ (Kp.trans KP.out k2)).mono ?_); rintro e w3 ⟨rfl, k3⟩) | (at_builtin; refine wpList_append_twice _ rfl _ _ 37 rfl w.heap.size 22 i0 (.float .f64 0) 8 Tryd.underlying37 HI2.out HI3.out HI.out.1 HI.out.2 rfl _ _ _ rfl ((own_kp (own_kp OW.out k2) k3).alloc _) NN.out ⟨w3.heap.size, 0, none⟩ 1 (.float .f64 x) rfl ?c1 rfl ?c3 ?c4 ?c5 ?_))
      case c1 => rw [World.cell?_alloc_at _ _ _ _ rfl]; rfl
      case c3 => unfold maxLen; omega
      case c4 => omega
      case c5 => have := KP.out.size; have := k2.size; have := k3.size; simp; omega
      · intro v4 w4 own4 old4 nn4 hbel4
        have kp4 : Kp w w4 := Below.trans (Below.alloc (Kp.trans KP.out (Kp.trans k2 k3)) (by have := KP.out.size; have := k2.size; have := k3.size; omega) _) hbel4
        have O4 := Lib.hid own4
        have P4 := Lib.hid old4
        have KP4 := Lib.hid kp4
        clear own4 old4 nn4 hbel4 kp4
        go_wp2_with (first | (go_at_call 26; (with_reducible refine (LSM.out _ _ O4.out).mono ?_); rintro e w' ⟨rfl, rfl⟩))
        have hd : decide (vv ≤ 0) = true := decide_eq_true hvv
        go_quiet ((first | (go_at_call 31; exact q_of (raw_any _ _)) | (go_at_call 26; exact q_of (LSR.out _ _ P4.out)) | (go_at_call 11; exact q_of (ho _))))
        go_wp2
        go_ret
        exact ⟨rfl, Kp.drewN KP4.out _⟩
    · subst hjp
      have hp : p < len := by omega
      obtain ⟨u, hu⟩ : ∃ u, bs.getD p 0 = u := ⟨_, rfl⟩
      obtain ⟨b, off, rfl, hcx⟩ := HEL.out wr hkp p hp
      rw [hu] at hcx
      have hrt := HRT.out p hp
      rw [hu] at hrt
      have HR := Lib.hid hrt
      have hsz := hkp.size
      have KP := Lib.hid hkp
      clear hrt hu hkp
      go_wp2_with (at_builtin; refine wpList_append_twice _ rfl _ _ 37 rfl w.heap.size 22 i0 (.float .f64 0) 8 Tryd.underlying37 HI2.out HI3.out HI.out.1 HI.out.2 rfl _ _ _ rfl (hown.alloc _) hnn ⟨wr.heap.size, 0, none⟩ 1 (.float .f64 u) rfl ?c1 rfl ?c3 ?c4 ?c5 ?_)
      case c1 => rw [World.cell?_alloc_at _ _ _ _ rfl]; rfl
      case c3 => unfold maxLen; omega
      case c4 => omega
      case c5 => simp; omega
      · intro v' w1 own' _ nn' hbel
        have kp1 : Kp w w1 := Below.trans (Below.alloc KP.out hsz _) hbel
        have own2 : w1.ownsRow w.heap.size 22 1 v' (len - p) (revL bs (len - p)) := by
          rw [HR.out]
          have : len - (p + 1) + 1 = len - p := by omega
          rw [this] at own'
          exact own'
        have hix : IdxIs p (.int .i64 ((p : Int) - 1)) := by
          by_cases hp0 : p = 0
          · exact Or.inl ⟨hp0, by subst hp0; rfl⟩
          · have e : ((p - 1 : Nat) : Int) = (p : Int) - 1 := by omega
            exact Or.inr ⟨p - 1, by omega, by rw [e]⟩
        clear own' hown hcx hbel hsz
        go_wp2
        go_roundw
        case rel => exact ⟨p, by omega, hix, own2, nn', kp1⟩
        case measure => first | (simp [intOf]; done) | (simp [intOf]; omega)
theorem floatsTurned_walk (v : Value) (bs : List Nat) (x y : Nat) (W : World) (hs : SlF v bs W) (hb : ∀ x ∈ bs, x < 18446744073709551616) (_hl : bs.length ≤ maxLen) (hx : x < 18446744073709551616) (hy : y < 18446744073709551616)
    (hL : laidMetH Tryd.prog Rows.floatsTurnedRow.laid W) :
    Calls Tryd.prog 9 #[v, .float .f64 x, .float .f64 y] W fun e w' => e = .returned (.bool true) ∧ Below W.heap.size W w' := by
  obtain ⟨ads, E⟩ := errs2_of_laid rfl hL
  obtain ⟨ao, cap, rfl⟩ : ∃ ao cap, v = .slice ao bs.length cap := by
    rcases hs with ⟨rfl, a, cap, rfl⟩ | ⟨b, off, cap, _, rfl, _⟩
    · exact ⟨a, cap, rfl⟩
    · exact ⟨_, cap, rfl⟩
  by_cases h : bs.length ≤ 300
  · have hm : ∀ z ∈ bs.reverse ++ [x], z < 18446744073709551616 := by
      intro z hz
      rcases List.mem_append.1 hz with h | h
      · exact hb z (List.mem_reverse.1 h)
      · simp at h; subst h; exact hx
    have hle : Fl.place (lst (bs.reverse ++ [x])) ≤ Fl.place (lst bs) := by
      have := (le_lst (Fl.place (lst (bs.reverse ++ [x]))) (bs.reverse ++ [x])).1 (Nat.le_refl _)
      exact (le_lst _ bs).2 ⟨this.1, fun z hz => this.2 z (List.mem_append_left _ (List.mem_reverse.2 hz))⟩
    have ho := fun w => order_any (Fl.plain (lst (bs.reverse ++ [x]))) (Fl.plain (lst bs)) w (Fl.plain_lt (lst_lt hm)) (Fl.plain_lt (lst_lt hb))
    have hv := plain_mono (lst_lt hb) (lst_notNan _) (lst_notNan _) hle
    by_cases hd : Fl.dl x = false ∨ Fl.dl y = false
    · refine turned_err ao cap bs x y 0 (ads[1]'(by have : ads.length = 2 := E.len; omega)) _ W h hb hx hs (fun w1 hk => ?_) (fun w1 hk => ?_) ho hv
      · exact later_err x y _ w1 hx hy hd ((Kp.errs hk E).cell 1 (by decide))
      · exact later_err y x _ w1 hy hx hd.symm ((Kp.errs hk E).cell 1 (by decide))
    · have da : Fl.dl x = true := by cases g : Fl.dl x; exact absurd (Or.inl g) hd; rfl
      have db : Fl.dl y = true := by cases g : Fl.dl y; exact absurd (Or.inr g) hd; rfl
      obtain ⟨r, hr, _⟩ := Fl.add_delay da db
      refine turned_ok ao cap bs x y r _ W h hb hx hs (fun w1 _ => ?_) (fun w1 _ => ?_) ho hv
      · exact (later_ok x y r w1 da db hr).mono fun e w' ⟨h1, h2⟩ => ⟨h1, Kp.of_eq h2⟩
      · exact (later_ok y x r w1 db da (by rw [Fl.add_comm]; exact hr)).mono fun e w' ⟨h1, h2⟩ => ⟨h1, Kp.of_eq h2⟩
  · exact (turned_long ao bs.length cap x y W (by omega)).mono fun e w' ⟨h1, h2⟩ => ⟨h1, Kp.of_eq h2⟩

end Go.Proofs.YtcfjecllfghkbaaDoor
