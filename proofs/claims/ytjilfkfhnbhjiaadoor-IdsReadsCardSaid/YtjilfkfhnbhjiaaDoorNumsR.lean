/-
  liaisonref05.Numbers, the law's told (own work).
-/
import Derived.Test.YtjilfkfhnbhjiaaDoorReadW
import Derived.Test.YtjilfkfhnbhjiaaDoorStE
import Derived.Laws.OwnMore
namespace Go.Proofs.YtjilfkfhnbhjiaaDoor
open Go.RowKit Go.ChangeShapes Go.WideShapes

def allL : List Int → List Int → Bool
  | x :: xs, y :: ys => decide (x < y) && allL xs ys
  | _, _ => true
/-- A TEXT's NUMBERS by a pattern, each below its limit; else the error's number. -/
def numM (S P lims : List Int) : List Int × Int :=
  match readM S P 0 [] with
  | none => ([], 4)
  | some (l, b) => if b = S.length then (if allL l lims = true then (l, 0) else ([], 1)) else ([], 4)
theorem allL_at : ∀ (l lims : List Int) (j : Nat) (h : j < l.length) (h2 : j < lims.length), allL (l.drop j) (lims.drop j) = (decide (l[j] < lims[j]) && allL (l.drop (j + 1)) (lims.drop (j + 1))) := by
  intro l lims j h h2
  rw [List.drop_eq_getElem_cons h, List.drop_eq_getElem_cons h2]
  rfl
theorem own_gi {w : World} {base n : Nat} {e : TypeId} {v : Value} {xs : List Value} (h : w.ownsRow base e 1 v n xs) (hn : 0 < n) : ∃ g cap, v = .slice (some ⟨g, 0, none⟩) n cap := by
  rcases h.2 with ⟨rfl, rfl⟩ | ⟨g, cap, cur, rfl, hg, _, hc, _⟩
  · omega
  · exact ⟨g, cap, rfl⟩
theorem own_form0 {w : World} {base n : Nat} {e : TypeId} {v : Value} {xs : List Value} (h : w.ownsRow base e 1 v n xs) : ∃ a cap, v = .slice a n cap := by
  rcases h.2 with ⟨rfl, rfl⟩ | ⟨g, cap, cur, rfl, hg, _, hc, _⟩
  · exact ⟨none, 0, rfl⟩
  · exact ⟨_, cap, rfl⟩

set_option maxRecDepth 20000 in
set_option maxHeartbeats 1000000 in
theorem numbers_any (s p : ByteArray) (hs : s.size ≤ 1000) (hp : p.size ≤ 100) (g : Nat) (cap : Nat) (lims : List Int) (n : Nat) (hn : lims.length = n) (hcnt : (strB p).count 35 = n) (w : World) (hc : ∀ (j : Nat) (h : j < lims.length), w.cell? ⟨g, j, none⟩ = some (.int .i64 lims[j])) :
    Calls Tryd.prog 23 #[.string s, .string p, .slice (some ⟨g, 0, none⟩) n cap] w fun e w' =>
      ∃ v, e = .returned (.tuple #[v, .int .i64 (numM (strB s) (strB p) lims).2]) ∧ w'.ownsRow w.heap.size 3 1 v (numM (strB s) (strB p) lims).1.length ((numM (strB s) (strB p) lims).1.map (Value.int .i64)) ∧ Kp w w' := by
  have HRD := read_any s p hs hp w
  have hsl := strB_len s
  cases hR : readM (strB s) (strB p) 0 [] with
  | none =>
    have e0 : numM (strB s) (strB p) lims = ([], 4) := by unfold numM; rw [hR]
    rw [e0]
    simp only [hR] at HRD
    have HRD := Lib.hid HRD
    clear hR e0 hc hcnt hn hsl hs hp
    go_enter Tryd.func23, Tryd.ntmps23
    go_wp2_with (go_at_call 31; (with_reducible refine HRD.out.mono ?_); rintro e w1 ⟨rfl, hk1⟩; have K1 := Lib.hid hk1; clear hk1)
    go_ret2
    exact ⟨_, rfl, ⟨rfl, .inl ⟨rfl, rfl⟩⟩, K1.out⟩
  | some q =>
    obtain ⟨l, b⟩ := q
    have hll := readM_len _ _ _ hR
    rw [hcnt] at hll
    have hn100 : n ≤ 100 := by have h1 := List.count_le_length (a := (35 : Int)) (l := strB p); rw [hcnt, strB_len] at h1; omega
    simp only [List.length_nil, Nat.zero_add] at hll
    simp only [hR] at HRD
    by_cases hb : b = s.size
    · have e0 : numM (strB s) (strB p) lims = if allL l lims = true then (l, 0) else ([], 1) := by unfold numM; rw [hR]; simp only [hsl, hb, if_true]
      rw [e0]
      rw [decide_eq_true hb] at HRD
      obtain ⟨A, hA⟩ : ∃ A, allL l lims = A := ⟨_, rfl⟩
      rw [hA]
      have HRD := Lib.hid HRD
      have HA := Lib.hid hA
      have HC := Lib.hid hc
      have HLL := Lib.hid (And.intro hll hn)
      obtain ⟨nl, hnl⟩ : ∃ k, l.length = k := ⟨_, rfl⟩
      rw [hnl] at HRD
      have HNL := Lib.hid hnl
      clear hR e0 hc hcnt hsl hs hp hb hll hA hnl hn
      go_enter Tryd.func23, Tryd.ntmps23
      go_wp2_with (go_at_call 31; (with_reducible refine HRD.out.mono ?_); rintro e w1 ⟨⟨v1, rfl, ho1⟩, hk1⟩; have K1 := Lib.hid hk1; have O1 := Lib.hid ho1; obtain ⟨a1, c1, rfl⟩ := own_form0 ho1; clear hk1 ho1)
      go_loop [22] (fun i => ∃ j : Nat, j ≤ nl ∧ i = .int .i64 j ∧ allL (l.drop j) (lims.drop j) = A) (fun i => nl - (intOf i).toNat)
      case atStart => exact ⟨0, Nat.zero_le _, rfl, HA.out⟩
      case round =>
        obtain ⟨j, hj, rfl, hal⟩ := hrel
        obtain ⟨jj, hjj⟩ : ∃ q : Int, (j : Int) = q := ⟨_, rfl⟩
        rw [hjj]
        have hll := HLL.out
        have hnl := HNL.out
        by_cases hlt : j < nl
        · have hjl : j < l.length := by omega
          have hjm : j < lims.length := by omega
          rw [allL_at l lims j hjl hjm] at hal
          obtain ⟨g1, cap1, hv⟩ := own_gi O1.out (by omega)
          injection hv with hv1 _ hv3
          subst hv1 hv3
          have cx := O1.out.cellAt j (by omega)
          rw [List.getElem?_map, List.getElem?_eq_getElem hjl] at cx
          have cy := kp_cell K1.out (HC.out j hjm)
          obtain ⟨x, hx⟩ : ∃ x, l[j] = x := ⟨_, rfl⟩
          obtain ⟨y, hy⟩ : ∃ x, lims[j] = x := ⟨_, rfl⟩
          rw [hx] at cx hal
          rw [hy] at cy hal
          simp only [Option.map_some] at cx
          have ej : jj.toNat = j := by omega
          rw [← ej] at cx cy
          have j0 : 0 ≤ jj := by omega
          have j1 : jj < nl := by omega
          have j2 : jj < n := by omega
          have j3 : jj ≤ 100 := by omega
          by_cases hlim : x < y
          · rw [decide_eq_true hlim, Bool.true_and] at hal
            have HN := Lib.hid (And.intro hal (And.intro hjj hlt))
            have hng : ¬ x ≥ y := by omega
            clear hal hjj hlt hjl hjm hx hy ej hll hnl hlim
            go_wp2
            obtain ⟨hal, hjj, hlt⟩ := HN.out
            go_round
            case rel => exact ⟨j + 1, by omega, by congr 1; omega, hal⟩
            case measure => simp [intOf]; omega
          · rw [decide_eq_false hlim, Bool.false_and] at hal
            subst hal
            have hng : x ≥ y := by omega
            clear hjj hlt hjl hjm hx hy ej hll hnl hlim
            go_wp2
            go_ret2
            exact ⟨_, rfl, ⟨rfl, .inl ⟨rfl, rfl⟩⟩, K1.out⟩
        · obtain rfl : j = nl := by omega
          have hex : ¬ jj < j := by omega
          have hA : A = true := by
            rw [← hal, List.drop_of_length_le (by omega)]
            unfold allL
            rfl
          subst hA
          have O2 : Hid (w1.ownsRow w.heap.size 3 1 (.slice a1 j c1) l.length (l.map (Value.int .i64))) := Lib.hid (by rw [hnl]; exact O1.out)
          clear hal hjj hlt hll hnl
          go_wp2
          go_ret2
          exact ⟨_, rfl, O2.out, K1.out⟩
    · have e0 : numM (strB s) (strB p) lims = ([], 4) := by unfold numM; rw [hR]; simp only [hsl, hb, if_false]
      rw [e0]
      rw [decide_eq_false hb] at HRD
      have HRD := Lib.hid HRD
      clear hR e0 hc hcnt hn hsl hs hp hll hb
      go_enter Tryd.func23, Tryd.ntmps23
      go_wp2_with (go_at_call 31; (with_reducible refine HRD.out.mono ?_); rintro e w1 ⟨⟨v1, rfl, ho1⟩, hk1⟩; have K1 := Lib.hid hk1; clear hk1 ho1)
      go_ret2
      exact ⟨_, rfl, ⟨rfl, .inl ⟨rfl, rfl⟩⟩, K1.out⟩

set_option maxRecDepth 20000 in
/-- told, of what has a text -/
theorem told_t (s : ByteArray) (w : World) : Calls Tryd.prog 18 #[.string s, .nilIface, .string s, .bool true] w fun e w' => e = .returned (.bool true) ∧ Kp w w' := by
  go_enter Tryd.func18, Tryd.ntmps18
  go_wp2
  go_ret
  exact ⟨by simp, Kp.refl _⟩
set_option maxRecDepth 20000 in
/-- told, of what has none -/
theorem told_f (ads : List Addr) (h0 : 0 < ads.length) (t : ByteArray) (w : World) (V : St ads w) : Calls Tryd.prog 18 #[.string ⟨#[]⟩, snt (ads[0]'h0), .string t, .bool false] w fun e w' => e = .returned (.bool true) ∧ Kp w w' := by
  have HN := num_err ads w V 0 (by decide) h0
  have e1 : (((0 : Nat) : Int) + 1) = 1 := rfl
  rw [e1] at HN
  obtain ⟨e0, he0⟩ : ∃ e, ads[0]'h0 = e := ⟨_, rfl⟩
  rw [he0] at HN ⊢
  have HN := Lib.hid HN
  clear V he0
  go_enter Tryd.func18, Tryd.ntmps18
  go_wp2_with (go_at_call 24; (with_reducible refine HN.out.mono ?_); rintro e w1 ⟨rfl, hk1⟩; have K1 := Lib.hid hk1; clear hk1)
  go_ret
  exact ⟨rfl, K1.out⟩
end Go.Proofs.YtjilfkfhnbhjiaaDoor
