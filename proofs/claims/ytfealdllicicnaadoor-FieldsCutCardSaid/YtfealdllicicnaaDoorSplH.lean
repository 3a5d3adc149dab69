/-
  fields.Split (own work): the whole call.
-/
import Derived.Test.YtfealdllicicnaaDoorSplG
import Derived.Test.YtfealdllicicnaaDoorSplT
namespace Go.Proofs.YtfealdllicicnaaDoor
open Go.RowKit Go.ChangeShapes Go.WideShapes

theorem ownD_aside {w w' : World} {B base : Nat} {gs : List (Int × List Int × Value)} (h : OwnD base gs w) (ha : Aside B w w') (hb : B + 2 ≤ base) : OwnD base gs w' :=
  fun g hg => ⟨own_aside (h g hg).1 ha hb, (h g hg).2⟩

theorem split_any (ads : List Addr) (h1 : 1 < ads.length) (h3 : 3 < ads.length) (a : Option Addr) (cap : Nat) (bs : List Int) (len : Nat) (hlen : bs.length = len) (hl : len ≤ 1000000) (hlc : len ≤ cap) (hb : InB bs) (w : World) (V : St ads w) (hs : SlB (.slice a len cap) bs w) :
    Calls Tryd.prog 16 #[.slice a len cap] w fun e w' =>
      (((splitQ 17 bs 0 0).1 = 0 ∧ ∃ v, e = .returned (.tuple #[v, .nilIface]) ∧ SlQ v (splitQ 17 bs 0 0).2 w') ∨
       ((splitQ 17 bs 0 0).1 = 2 ∧ e = .returned (.tuple #[.slice none 0 0, snt (ads[1]'h1)])) ∨ ((splitQ 17 bs 0 0).1 = 4 ∧ e = .returned (.tuple #[.slice none 0 0, snt (ads[3]'h3)]))) ∧ Kp w w' := by
  have hmf : ∀ (fn : Fn) (first cap : Array Value) (w : World), (Instr.makeFunc fn first cap).run Tryd.prog w = .ok (.func fn first cap) w := fun _ _ _ _ => rfl
  have kb := kp_alloc w (.cells #[.slice a len cap] 25)
  have hbx : (w.alloc (boxS (.slice a len cap))).heap[w.heap.size]? = some (boxS (.slice a len cap)) := (MapKept.heap_alloc w _).1
  have hsz : (w.alloc (.cells #[.slice a len cap] 25)).heap.size = w.heap.size + 1 := by simp
  obtain ⟨RES, hres⟩ : ∃ RES, splitQ 17 bs 0 0 = RES := ⟨_, rfl⟩
  have HB := fun w1 (hk : Kp (w.alloc (.cells #[.slice a len cap] 25)) w1) => split1_any ads h1 h3 w a cap bs len hlen hl hlc hb hs V w1 (Kp.trans kb hk) (kp_row hk hbx)
  rw [hres] at HB ⊢
  have hf : ∀ w, (callFunc 41 #[.pointer (some ⟨w.heap.size, 0, none⟩)]).run Tryd.prog w = .ok (.enter 41 #[.pointer (some ⟨w.heap.size, 0, none⟩)]) w := by intro w; simp [go_sem]
  have KB := Lib.hid kb
  have HSZ := Lib.hid hsz
  have cases3 : RES.1 = 0 ∨ RES.1 = 2 ∨ RES.1 = 4 := by
    have := (HB _ (Kp.refl _)) []
    obtain ⟨e, w', fr, ⟨h, -⟩, -⟩ := this
    rcases h with ⟨h, -⟩ | ⟨h, -⟩ | ⟨h, -⟩
    · exact .inl h
    · exact .inr (.inl h)
    · exact .inr (.inr h)
  rcases cases3 with h0 | h0 | h0
  · have HT : Calls Tryd.prog 40 #[.func (.func 41) #[] #[.pointer (some ⟨w.heap.size, 0, none⟩)]] (w.alloc (.cells #[.slice a len cap] 25)) fun e w' => ∃ v, e = .returned (.tuple #[v, .nilIface]) ∧ SlQ v RES.2 w' ∧ Below w.heap.size w w' := by
      refine (try_fields_ret 41 _ _ (fun v w1 w2 => ∃ gs, RES.2 = gs.map fldQ ∧ w2.ownsRow w1.heap.size 63 2 v gs.length (gs.flatMap cellQ) ∧ OwnD w1.heap.size gs w2 ∧ Kp w w2) (by intro w; simp [go_sem]) fun w1 hb1 hs1 => ?_).mono ?_
      · refine (HB w1 hb1).mono ?_
        rintro e w2 ⟨h, hk, hkb⟩
        rcases h with ⟨_, v, gs, rfl, h2, ho, hd⟩ | ⟨h, _⟩ | ⟨h, _⟩
        · exact ⟨v, rfl, hkb.past (by rw [HSZ.out]; omega), gs, h2, ho, hd, hk⟩
        · rw [h0] at h; cases h
        · rw [h0] at h; cases h
      · rintro e w' ⟨v, rfl, w1, w2, hb1, hs1, ⟨gs, h2, ho, hd, hk⟩, hb2, ha⟩
        refine ⟨v, rfl, ?_, ?_⟩
        · rw [h2]
          exact own_slq rfl (own_aside ho ha (by omega)) (ownD_aside hd ha (by omega))
        · exact Below.trans hk (Below.mono hb2 (by rw [HSZ.out]; omega))
    have HTT := Lib.hid HT
    clear HT HB kb hbx hsz hs V
    go_enter Tryd.func16, Tryd.ntmps16
    go_wp2_with (go_at_call 40; (with_reducible refine HTT.out.mono ?_); rintro e w' ⟨v, rfl, ho, hk⟩; have HK := Lib.hid hk; have HO := Lib.hid ho; clear hk ho)
    go_ret2
    exact ⟨.inl ⟨h0, _, rfl, HO.out⟩, HK.out⟩
  · have HT : Calls Tryd.prog 40 #[.func (.func 41) #[] #[.pointer (some ⟨w.heap.size, 0, none⟩)]] (w.alloc (.cells #[.slice a len cap] 25)) fun e w' => e = .returned (.tuple #[.slice none 0 0, snt (ads[1]'h1)]) ∧ Below w.heap.size w w' := by
      refine (try_fields_panic ads 1 h1 41 _ _ (fun w1 w2 => Kp w w2) (by intro w; simp [go_sem]) fun w1 hb1 hs1 => ?_).mono ?_
      · refine (HB w1 hb1).mono ?_
        rintro e w2 ⟨h, hk, hkb⟩
        rcases h with ⟨h, _⟩ | ⟨_, rfl⟩ | ⟨h, _⟩
        · rw [h0] at h; cases h
        · exact ⟨rfl, V.below hk, hkb.past (by rw [HSZ.out]; omega), hk⟩
        · rw [h0] at h; cases h
      · rintro e w' ⟨rfl, w1, w2, hb1, hs1, hk, hb2⟩
        exact ⟨rfl, Below.trans hk (Below.mono hb2 (by rw [HSZ.out]; omega))⟩
    have HTT := Lib.hid HT
    clear HT HB kb hbx hsz hs V
    go_enter Tryd.func16, Tryd.ntmps16
    go_wp2_with (go_at_call 40; (with_reducible refine HTT.out.mono ?_); rintro e w' ⟨rfl, hk⟩; have HK := Lib.hid hk; clear hk)
    go_ret2
    exact ⟨.inr (.inl ⟨h0, rfl⟩), HK.out⟩
  · have HT : Calls Tryd.prog 40 #[.func (.func 41) #[] #[.pointer (some ⟨w.heap.size, 0, none⟩)]] (w.alloc (.cells #[.slice a len cap] 25)) fun e w' => e = .returned (.tuple #[.slice none 0 0, snt (ads[3]'h3)]) ∧ Below w.heap.size w w' := by
      refine (try_fields_panic ads 3 h3 41 _ _ (fun w1 w2 => Kp w w2) (by intro w; simp [go_sem]) fun w1 hb1 hs1 => ?_).mono ?_
      · refine (HB w1 hb1).mono ?_
        rintro e w2 ⟨h, hk, hkb⟩
        rcases h with ⟨h, _⟩ | ⟨h, _⟩ | ⟨_, rfl⟩
        · rw [h0] at h; cases h
        · rw [h0] at h; cases h
        · exact ⟨rfl, V.below hk, hkb.past (by rw [HSZ.out]; omega), hk⟩
      · rintro e w' ⟨rfl, w1, w2, hb1, hs1, hk, hb2⟩
        exact ⟨rfl, Below.trans hk (Below.mono hb2 (by rw [HSZ.out]; omega))⟩
    have HTT := Lib.hid HT
    clear HT HB kb hbx hsz hs V
    go_enter Tryd.func16, Tryd.ntmps16
    go_wp2_with (go_at_call 40; (with_reducible refine HTT.out.mono ?_); rintro e w' ⟨rfl, hk⟩; have HK := Lib.hid hk; clear hk)
    go_ret2
    exact ⟨.inr (.inr ⟨h0, rfl⟩), HK.out⟩
end Go.Proofs.YtfealdllicicnaaDoor
