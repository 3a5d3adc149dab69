/-
  CatchGoes' WALK (own work).
-/
import Derived.Test.YtcgcliglcdfijaaDoorTriesV
import Derived.Test.YtcgcliglcdfijaaDoorSlI
namespace Go.Proofs.YtcgcliglcdfijaaDoor
open Go.RowKit Go.Extern.Stop Go.Stop Go.Extern

theorem Pv.setCell {ads : List Addr} {so : Option Addr} {w : World} {v : Value} {k : Nat} (h : Pv ads so w v k) (b : Nat) (x : Value) : Pv ads so (w.setCell ⟨b, 0, none⟩ x) v k := by
  rcases h with h | ⟨h, s, pb, h1, h2, h3⟩ | h
  · exact .inl h
  · refine .inr (.inl ⟨h, s, pb, h1, h2, ?_⟩)
    rw [World.cell?_setCell_other]
    · exact h3
    · simp
  · exact .inr (.inr h)

theorem goes_door (b : Nat) (u : FrameMode) (c : Int) (w : World) (hc : w.cell? ⟨b, 0, none⟩ = some (.int .i64 c)) (hz : w.frozen? ⟨b, 0, none⟩ = false) :
    CallsD Tryd.prog 26 #[.pointer (some ⟨b, 0, none⟩)] u w fun e u' w' => u' = u ∧ (e = .returned (.tuple #[]) ∧ w' = w.setCell ⟨b, 0, none⟩ (.int .i64 (wrap64 (c + 1)))) := by
  go_enter_d Tryd.func26, Tryd.ntmps26
  go_wp2
  go_end0
  exact ⟨rfl, rfl⟩

set_option maxRecDepth 20000 in
theorem goes_do (ads : List Addr) (s : Addr) (B : Nat) (w : World) (V : StB ads (some s) B w) (be : Nat) (pk pc : Addr) (hp : B ≤ pc.block) (k : Nat) (hk : k ≤ 20) (n c c0 : Int) (hn : (k : Int) = n)
    (ck : w.cell? pk = some (.int .i64 n)) (cc : w.cell? pc = some (.int .i64 c0)) (zc : w.frozen? pc = false) (ce : w.cell? ⟨be, 0, none⟩ = some (.int .i64 c)) (ze : w.frozen? ⟨be, 0, none⟩ = false) (hne : be ≠ pc.block) :
    Calls Tryd.prog 25 #[.pointer (some ⟨be, 0, none⟩), .pointer (some pk), .pointer (some pc)] w fun e w' => Fin ads (some s) (.bool true) k e w' ∧ ∃ wm, DW pc c0 w wm ∧ w' = wm.setCell ⟨be, 0, none⟩ (.int .i64 (wrap64 (c + 1))) := by
  have hd := does_any ads s B w V pc hp c0 cc zc k hk n hn
  have hmf : ∀ (fn : Fn) (first cap : Array Value) (w : World), (Instr.makeFunc fn first cap).run Tryd.prog w = .ok (.func fn first cap) w := fun _ _ _ _ => rfl
  have fz : ∀ wm, DW pc c0 w wm → wm.frozen? ⟨be, 0, none⟩ = false := by
    intro wm h
    have e : (w.setCell pc (.int .i64 (wrap64 (c0 + 1)))).heap[be]? = w.heap[be]? := Below.heap_setCell _ _ _ _ hne
    have h1 : (w.setCell pc (.int .i64 (wrap64 (c0 + 1)))).frozen? ⟨be, 0, none⟩ = false := by rw [World.frozen?_setCell]; exact ze
    have h2 : (w.setCell pc (.int .i64 (wrap64 (c0 + 1)))).cell? ⟨be, 0, none⟩ = some (.int .i64 c) := by rw [← ce]; exact World.cell?_of_block e
    exact kp_frozen h h2 h1
  have FZ := Lib.hid fz
  have CE : ∀ wm, DW pc c0 w wm → wm.cell? ⟨be, 0, none⟩ = some (.int .i64 c) := fun wm h => dw_other h hne ce
  have HCE := Lib.hid CE
  rcases Nat.eq_zero_or_pos k with rfl | h0
  · have HD := Lib.hid hd
    clear hd V hn fz CE ce ze
    go_enter_defers Tryd.func25, Tryd.ntmps25
    go_wp2_with (go_at_call 10; (with_reducible refine HD.out.mono ?_); rintro e wm ⟨he, hw⟩; obtain rfl : e = .returned (.tuple #[]) := he)
    refine leaves_cons (f := 26) (args := #[.pointer (some ⟨be, 0, none⟩)]) (by simp) (by simp [go_sem]) ?_
    refine (goes_door be _ c wm (HCE.out wm hw) (FZ.out wm hw)).mono ?_
    rintro e u' w3 ⟨rfl, rfl, rfl⟩
    simp [Leaves, settle, results, Tryd.results25, go_sem]
    exact ⟨rfl, wm, hw, rfl⟩
  · have hd' : Calls Tryd.prog 10 #[.int .i64 n, .pointer (some pc)] w fun e w' => ∃ v, e = .panicked [{ v, recovered := false }] ∧ Pv ads (some s) w' v (idx k) ∧ DW pc c0 w w' := by
      refine hd.mono ?_
      rintro e w' ⟨he, hw⟩
      simp only [Fin] at he
      rw [if_neg (by omega)] at he
      obtain ⟨v, h1, h2⟩ := he
      exact ⟨v, h1, h2, hw⟩
    have HD := Lib.hid hd'
    clear hd hd' V fz CE ce ze
    go_enter_defers Tryd.func25, Tryd.ntmps25
    go_wp2_with (go_at_call 10; (with_reducible refine HD.out.mono ?_); rintro e wm ⟨v, rfl, hv, hw⟩)
    refine leaves_cons (f := 26) (args := #[.pointer (some ⟨be, 0, none⟩)]) (by simp) (by simp [go_sem]) ?_
    refine (goes_door be _ c wm (HCE.out wm hw) (FZ.out wm hw)).mono ?_
    rintro e u' w3 ⟨rfl, rfl, rfl⟩
    simp [Leaves, settle]
    refine ⟨?_, wm, hw, rfl⟩
    simp only [Fin]
    rw [if_neg (by omega)]
    exact ⟨v, rfl, hv.setCell _ _⟩

theorem goes_try (ads : List Addr) (s : Addr) (B : Nat) (w : World) (V : StB ads (some s) B w) (be : Nat) (hbe : B ≤ be) (pk pc : Addr) (hp : B ≤ pc.block) (k : Nat) (hk : k ≤ 20) (n c c0 : Int) (hn : (k : Int) = n)
    (ck : w.cell? pk = some (.int .i64 n)) (cc : w.cell? pc = some (.int .i64 c0)) (zc : w.frozen? pc = false) (ce : w.cell? ⟨be, 0, none⟩ = some (.int .i64 c)) (ze : w.frozen? ⟨be, 0, none⟩ = false) (hne : be ≠ pc.block) :
    Calls Tryd.prog 24 #[.func (.func 25) #[] #[.pointer (some ⟨be, 0, none⟩), .pointer (some pk), .pointer (some pc)]] w fun e w' =>
      ∃ b r, e = .returned (.tuple #[.bool b, r]) ∧ Below B w w' ∧ w'.cell? ⟨be, 0, none⟩ = some (.int .i64 (wrap64 (c + 1))) ∧ w'.frozen? ⟨be, 0, none⟩ = false := by
  have hB := V.le
  have hl := V.st.len
  have hbl := old_of_cell ce
  have H : ∀ w1, Below w.heap.size w w1 → Calls Tryd.prog 25 #[.pointer (some ⟨be, 0, none⟩), .pointer (some pk), .pointer (some pc)] w1 fun e w2 => Fin ads (some s) (.bool true) k e w2 ∧ ∃ wm, DW pc c0 w1 wm ∧ w2 = wm.setCell ⟨be, 0, none⟩ (.int .i64 (wrap64 (c + 1))) := fun w1 h1 =>
    goes_do ads s B w1 (V.below (Below.mono h1 hB)) be pk pc hp k hk n c c0 hn (kp_cell h1 ck) (kp_cell h1 cc) (kp_frozen h1 cc zc) (kp_cell h1 ce) (kp_frozen h1 ce ze) hne
  let G : World → World → Prop := fun w1 w2 => Below B w1 w2 ∧ w2.cell? ⟨be, 0, none⟩ = some (.int .i64 (wrap64 (c + 1))) ∧ w2.frozen? ⟨be, 0, none⟩ = false
  have gg : ∀ w1 w2, Below w.heap.size w w1 → (∃ wm, DW pc c0 w1 wm ∧ w2 = wm.setCell ⟨be, 0, none⟩ (.int .i64 (wrap64 (c + 1)))) → Past w.heap.size w1 w2 ∧ G w1 w2 := by
    rintro w1 w2 h1 ⟨wm, hw, rfl⟩
    have ce1 := dw_other hw hne (kp_cell h1 ce)
    have hb := dw_below hw hp (Nat.le_trans hB h1.size)
    have hpa := dw_past (B := w.heap.size) hw (old_of_cell cc)
    refine ⟨⟨by rw [setCell_at]; exact hpa.1, fun b hb1 hb2 => ?_⟩, hb.setCell hbe _, by simp [go_sem, ce1], ?_⟩
    · rw [Below.heap_setCell _ _ _ _ (show b ≠ be by have : be < w.heap.size := hbl; omega)]
      exact hpa.2 b hb1 hb2
    · rw [World.frozen?_setCell]
      have e : (w1.setCell pc (.int .i64 (wrap64 (c0 + 1)))).heap[be]? = w1.heap[be]? := Below.heap_setCell _ _ _ _ hne
      have h2 : (w1.setCell pc (.int .i64 (wrap64 (c0 + 1)))).cell? ⟨be, 0, none⟩ = some (.int .i64 c) := by rw [← kp_cell h1 ce]; exact World.cell?_of_block e
      exact kp_frozen hw h2 (by rw [World.frozen?_setCell]; exact kp_frozen h1 ce ze)
  have fin : ∀ w', Mid w G w' → Below B w w' ∧ w'.cell? ⟨be, 0, none⟩ = some (.int .i64 (wrap64 (c + 1))) ∧ w'.frozen? ⟨be, 0, none⟩ = false := by
    rintro w' ⟨w1, w2, h1, ⟨g1, g2, g3⟩, h3⟩
    exact ⟨((Below.mono h1 hB).trans g1).trans (Below.mono h3 hB), below_cell h3 hbl g2, by rw [Below.frozen h3 hbl]; exact g3⟩
  rcases Nat.eq_zero_or_pos k with rfl | h0
  · refine (try_bool_ret 25 _ true w G (fun w => by simp [go_sem]) fun w1 h1 => (H w1 h1).mono ?_).mono ?_
    · rintro e w2 ⟨he, hw⟩
      exact ⟨he, gg w1 w2 h1 hw⟩
    · rintro e w' ⟨rfl, hm⟩
      exact ⟨_, _, rfl, fin w' hm⟩
  · have hki : idx k < ads.length := by simp only [idx]; split <;> omega
    refine (try_bool_panic ads (some s) (idx k) hki 25 _ w G (fun w => by simp [go_sem]) fun w1 h1 => (H w1 h1).mono ?_).mono ?_
    · rintro e w2 ⟨he, hw⟩
      have hg := gg w1 w2 h1 hw
      simp only [Fin] at he
      rw [if_neg (by omega)] at he
      obtain ⟨v, h2, h3⟩ := he
      exact ⟨⟨v, h2, h3, ((V.below (Below.mono h1 hB)).below hg.2.1).st⟩, hg⟩
    · rintro e w' ⟨rfl, hm⟩
      exact ⟨_, _, rfl, fin w' hm⟩
end Go.Proofs.YtcgcliglcdfijaaDoor
