/- Parts of this proof (own work). -/
import Derived.Test.YtpemeenfhkgmpaaGreatDoorZf08
set_option maxRecDepth 100000
set_option maxHeartbeats 40000000
namespace Go.Proofs.YtpemeenfhkgmpaaGreatDoor
open Go.RowKit Go.ChangeShapes Go.WideShapes
theorem split_own (ads : List Addr) (h1 : 1 < ads.length) (h3 : 3 < ads.length) (a : Option Addr) (cap : Nat) (bs : List Int) (len : Nat) (hlen : bs.length = len) (hl : len ≤ 1000000) (hlc : len ≤ cap) (hb : InB bs) (w : World) (V : St ads w) (hs : SlB (.slice a len cap) bs w) (h0 : (splitQ 17 bs 0 0).1 = 0) :
  Calls Tryz.prog 94 #[.slice a len cap] w fun e w' => ∃ v gs, e = .returned (.tuple #[v, .nilIface]) ∧ (splitQ 17 bs 0 0).2 = gs.map fldQ ∧ w'.ownsRow w.heap.size 122 2 v gs.length (gs.flatMap cellQ) ∧ OwnD w.heap.size gs w' ∧ Kp w w' := by
 have hmf : ∀ (fn : Fn) (first cap : Array Value) (w : World), (Instr.makeFunc fn first cap).run Tryz.prog w = .ok (.func fn first cap) w := fun _ _ _ _ => rfl
 have kb := kA w (.cells #[.slice a len cap] 55); have hbx : (w.alloc (boxS (.slice a len cap))).heap[w.heap.size]? = some (boxS (.slice a len cap)) := (mH w _)
 have hsz : (w.alloc (.cells #[.slice a len cap] 55)).heap.size = w.heap.size + 1 := by simp
 obtain ⟨RES, hres⟩ : ∃ RES, splitQ 17 bs 0 0 = RES := ⟨_, rfl⟩
 have HB := fun w1 (hk : Kp (w.alloc (.cells #[.slice a len cap] 55)) w1) => split1_any ads h1 h3 w a cap bs len hlen hl hlc hb hs V w1 (kT kb hk) (rZ hk hbx)
 rw [hres] at HB h0 ⊢; have hf : ∀ w, (callFunc 133 #[.pointer (some ⟨w.heap.size, 0, none⟩)]).run Tryz.prog w = .ok (.enter 133 #[.pointer (some ⟨w.heap.size, 0, none⟩)]) w := by intro w; simp [go_sem]
 obtain ⟨KB, HSZ⟩ := hD2 kb hsz; have HT : Calls Tryz.prog 132 #[.func (.func 133) #[] #[.pointer (some ⟨w.heap.size, 0, none⟩)]] (w.alloc (.cells #[.slice a len cap] 55)) fun e w' => ∃ v gs, e = .returned (.tuple #[v, .nilIface]) ∧ RES.2 = gs.map fldQ ∧ w'.ownsRow w.heap.size 122 2 v gs.length (gs.flatMap cellQ) ∧ OwnD w.heap.size gs w' ∧ Below w.heap.size w w' := by
  refine (try_fields_ret 133 _ _ (fun v w1 w2 => ∃ gs, RES.2 = gs.map fldQ ∧ w2.ownsRow w1.heap.size 122 2 v gs.length (gs.flatMap cellQ) ∧ OwnD w1.heap.size gs w2 ∧ Kp w w2) (by intro w; simp [go_sem]) fun w1 hb1 hs1 => ?_).mono ?_
  ·refine (HB w1 hb1).mono ?_
   rintro e w2 ⟨h, hk, hkb⟩
   rcases h with ⟨_, v, gs, rfl, h2, ho, hd⟩ | ⟨h, _⟩ | ⟨h, _⟩
   ·exact ⟨v, rfl, hkb.past (by rw [HSZ.out]; omega), gs, h2, ho, hd, hk⟩
   ·rw [h0] at h; cases h
   ·rw [h0] at h; cases h
  ·rintro e w' ⟨v, rfl, w1, w2, hb1, hs1, ⟨gs, h2, ho, hd, hk⟩, hb2, ha⟩; have hle : w.heap.size ≤ w1.heap.size := by have := HSZ.out; omega
   refine ⟨v, gs, rfl, h2, own_mono (own_aside ho ha (by omega)) hle, fun g hg => ⟨own_mono ((ownD_aside hd ha (by omega)) g hg).1 hle, (hd g hg).2⟩, ?_⟩
   exact Below.trans hk (Below.mono hb2 (by rw [HSZ.out]; omega))
 have HTT := hD HT; clear HT HB kb hbx hsz hs V; go_enter Tryz.func94, Tryz.ntmps94; go_wp2_with (go_at_call 132; (with_reducible refine HTT.out.mono ?_); rintro e w' ⟨v, gs, rfl, h2, ho, hd, hk⟩; obtain ⟨HK, HO, HD, H2⟩ := hD4 hk ho hd h2; clear hk ho hd h2)
 go_ret2
 exact ⟨_, gs, rfl, H2.out, HO.out, HD.out, HK.out⟩
open Go.RowKit Go.Extern.Stop Go.Stop Go.Extern
theorem set_fct {b : Nat} {t : TypeId} {w : World} {x0 x1 x2 x3 x4 x5 x6 x7 x8 x9 x10 x11 x12 x13 : Value} (y0 y1 y2 y3 y4 y5 y6 y7 y8 y9 y10 y11 y12 y13 : Value) (h : w.heap[b]? = some (.cells #[x0, x1, x2, x3, x4, x5, x6, x7, x8, x9, x10, x11, x12, x13] t (0, 0))) : ((((((((((((((w.setCell ⟨b, 0, none⟩ y0).setCell ⟨b, 1, none⟩ y1).setCell ⟨b, 2, none⟩ y2).setCell ⟨b, 3, none⟩ y3).setCell ⟨b, 4, none⟩ y4).setCell ⟨b, 5, none⟩ y5).setCell ⟨b, 6, none⟩ y6).setCell ⟨b, 7, none⟩ y7).setCell ⟨b, 8, none⟩ y8).setCell ⟨b, 9, none⟩ y9).setCell ⟨b, 10, none⟩ y10).setCell ⟨b, 11, none⟩ y11).setCell ⟨b, 12, none⟩ y12).setCell ⟨b, 13, none⟩ y13).heap[b]? = some (.cells #[y0, y1, y2, y3, y4, y5, y6, y7, y8, y9, y10, y11, y12, y13] t (0, 0)) := by
 have h1 : (w.setCell ⟨b, 0, none⟩ y0).heap[b]? = some (.cells #[y0, x1, x2, x3, x4, x5, x6, x7, x8, x9, x10, x11, x12, x13] t (0, 0)) := (Joins.block_setCell h _).trans rfl; have h2 : ((w.setCell ⟨b, 0, none⟩ y0).setCell ⟨b, 1, none⟩ y1).heap[b]? = some (.cells #[y0, y1, x2, x3, x4, x5, x6, x7, x8, x9, x10, x11, x12, x13] t (0, 0)) := (Joins.block_setCell h1 _).trans rfl; have h3 : (((w.setCell ⟨b, 0, none⟩ y0).setCell ⟨b, 1, none⟩ y1).setCell ⟨b, 2, none⟩ y2).heap[b]? = some (.cells #[y0, y1, y2, x3, x4, x5, x6, x7, x8, x9, x10, x11, x12, x13] t (0, 0)) := (Joins.block_setCell h2 _).trans rfl; have h4 : ((((w.setCell ⟨b, 0, none⟩ y0).setCell ⟨b, 1, none⟩ y1).setCell ⟨b, 2, none⟩ y2).setCell ⟨b, 3, none⟩ y3).heap[b]? = some (.cells #[y0, y1, y2, y3, x4, x5, x6, x7, x8, x9, x10, x11, x12, x13] t (0, 0)) := (Joins.block_setCell h3 _).trans rfl; have h5 : (((((w.setCell ⟨b, 0, none⟩ y0).setCell ⟨b, 1, none⟩ y1).setCell ⟨b, 2, none⟩ y2).setCell ⟨b, 3, none⟩ y3).setCell ⟨b, 4, none⟩ y4).heap[b]? = some (.cells #[y0, y1, y2, y3, y4, x5, x6, x7, x8, x9, x10, x11, x12, x13] t (0, 0)) := (Joins.block_setCell h4 _).trans rfl
 have h6 : ((((((w.setCell ⟨b, 0, none⟩ y0).setCell ⟨b, 1, none⟩ y1).setCell ⟨b, 2, none⟩ y2).setCell ⟨b, 3, none⟩ y3).setCell ⟨b, 4, none⟩ y4).setCell ⟨b, 5, none⟩ y5).heap[b]? = some (.cells #[y0, y1, y2, y3, y4, y5, x6, x7, x8, x9, x10, x11, x12, x13] t (0, 0)) := (Joins.block_setCell h5 _).trans rfl; have h7 : (((((((w.setCell ⟨b, 0, none⟩ y0).setCell ⟨b, 1, none⟩ y1).setCell ⟨b, 2, none⟩ y2).setCell ⟨b, 3, none⟩ y3).setCell ⟨b, 4, none⟩ y4).setCell ⟨b, 5, none⟩ y5).setCell ⟨b, 6, none⟩ y6).heap[b]? = some (.cells #[y0, y1, y2, y3, y4, y5, y6, x7, x8, x9, x10, x11, x12, x13] t (0, 0)) := (Joins.block_setCell h6 _).trans rfl; have h8 : ((((((((w.setCell ⟨b, 0, none⟩ y0).setCell ⟨b, 1, none⟩ y1).setCell ⟨b, 2, none⟩ y2).setCell ⟨b, 3, none⟩ y3).setCell ⟨b, 4, none⟩ y4).setCell ⟨b, 5, none⟩ y5).setCell ⟨b, 6, none⟩ y6).setCell ⟨b, 7, none⟩ y7).heap[b]? = some (.cells #[y0, y1, y2, y3, y4, y5, y6, y7, x8, x9, x10, x11, x12, x13] t (0, 0)) := (Joins.block_setCell h7 _).trans rfl
 have h9 : (((((((((w.setCell ⟨b, 0, none⟩ y0).setCell ⟨b, 1, none⟩ y1).setCell ⟨b, 2, none⟩ y2).setCell ⟨b, 3, none⟩ y3).setCell ⟨b, 4, none⟩ y4).setCell ⟨b, 5, none⟩ y5).setCell ⟨b, 6, none⟩ y6).setCell ⟨b, 7, none⟩ y7).setCell ⟨b, 8, none⟩ y8).heap[b]? = some (.cells #[y0, y1, y2, y3, y4, y5, y6, y7, y8, x9, x10, x11, x12, x13] t (0, 0)) := (Joins.block_setCell h8 _).trans rfl; have h10 : ((((((((((w.setCell ⟨b, 0, none⟩ y0).setCell ⟨b, 1, none⟩ y1).setCell ⟨b, 2, none⟩ y2).setCell ⟨b, 3, none⟩ y3).setCell ⟨b, 4, none⟩ y4).setCell ⟨b, 5, none⟩ y5).setCell ⟨b, 6, none⟩ y6).setCell ⟨b, 7, none⟩ y7).setCell ⟨b, 8, none⟩ y8).setCell ⟨b, 9, none⟩ y9).heap[b]? = some (.cells #[y0, y1, y2, y3, y4, y5, y6, y7, y8, y9, x10, x11, x12, x13] t (0, 0)) := (Joins.block_setCell h9 _).trans rfl; have h11 : (((((((((((w.setCell ⟨b, 0, none⟩ y0).setCell ⟨b, 1, none⟩ y1).setCell ⟨b, 2, none⟩ y2).setCell ⟨b, 3, none⟩ y3).setCell ⟨b, 4, none⟩ y4).setCell ⟨b, 5, none⟩ y5).setCell ⟨b, 6, none⟩ y6).setCell ⟨b, 7, none⟩ y7).setCell ⟨b, 8, none⟩ y8).setCell ⟨b, 9, none⟩ y9).setCell ⟨b, 10, none⟩ y10).heap[b]? = some (.cells #[y0, y1, y2, y3, y4, y5, y6, y7, y8, y9, y10, x11, x12, x13] t (0, 0)) := (Joins.block_setCell h10 _).trans rfl
 have h12 : ((((((((((((w.setCell ⟨b, 0, none⟩ y0).setCell ⟨b, 1, none⟩ y1).setCell ⟨b, 2, none⟩ y2).setCell ⟨b, 3, none⟩ y3).setCell ⟨b, 4, none⟩ y4).setCell ⟨b, 5, none⟩ y5).setCell ⟨b, 6, none⟩ y6).setCell ⟨b, 7, none⟩ y7).setCell ⟨b, 8, none⟩ y8).setCell ⟨b, 9, none⟩ y9).setCell ⟨b, 10, none⟩ y10).setCell ⟨b, 11, none⟩ y11).heap[b]? = some (.cells #[y0, y1, y2, y3, y4, y5, y6, y7, y8, y9, y10, y11, x12, x13] t (0, 0)) := (Joins.block_setCell h11 _).trans rfl; have h13 : (((((((((((((w.setCell ⟨b, 0, none⟩ y0).setCell ⟨b, 1, none⟩ y1).setCell ⟨b, 2, none⟩ y2).setCell ⟨b, 3, none⟩ y3).setCell ⟨b, 4, none⟩ y4).setCell ⟨b, 5, none⟩ y5).setCell ⟨b, 6, none⟩ y6).setCell ⟨b, 7, none⟩ y7).setCell ⟨b, 8, none⟩ y8).setCell ⟨b, 9, none⟩ y9).setCell ⟨b, 10, none⟩ y10).setCell ⟨b, 11, none⟩ y11).setCell ⟨b, 12, none⟩ y12).heap[b]? = some (.cells #[y0, y1, y2, y3, y4, y5, y6, y7, y8, y9, y10, y11, y12, x13] t (0, 0)) := (Joins.block_setCell h12 _).trans rfl
 have h14 : ((((((((((((((w.setCell ⟨b, 0, none⟩ y0).setCell ⟨b, 1, none⟩ y1).setCell ⟨b, 2, none⟩ y2).setCell ⟨b, 3, none⟩ y3).setCell ⟨b, 4, none⟩ y4).setCell ⟨b, 5, none⟩ y5).setCell ⟨b, 6, none⟩ y6).setCell ⟨b, 7, none⟩ y7).setCell ⟨b, 8, none⟩ y8).setCell ⟨b, 9, none⟩ y9).setCell ⟨b, 10, none⟩ y10).setCell ⟨b, 11, none⟩ y11).setCell ⟨b, 12, none⟩ y12).setCell ⟨b, 13, none⟩ y13).heap[b]? = some (.cells #[y0, y1, y2, y3, y4, y5, y6, y7, y8, y9, y10, y11, y12, y13] t (0, 0)) := (Joins.block_setCell h13 _).trans rfl; exact h14
theorem door_fct_panic (ads : List Addr) (p q : Addr) (old : Value) (k : Nat) (hk : k < ads.length) (older : List PanicEntry) (w : World) (V : St ads w)
  (hp : w.cell? p = some (.bool true)) (hq : w.cell? q = some old) (hz : w.frozen? q = false) :
  CallsD Tryz.prog 131 #[.pointer (some p), .pointer (some q)] (.panicking ({ v := snt ads[k], recovered := false } :: older)) w fun e u' w' =>
   e = .returned (.tuple #[]) ∧ u' = .panicking ({ v := snt ads[k], recovered := true } :: older) ∧ ∃ w1, Kp w w1 ∧ w' = w1.setCell q (snt ads[k]) := by
 have hqb := old_of_cell hq; have hn := errorOf_any ads w V k hk; obtain ⟨a, ha⟩ : ∃ a, ads[k] = a := ⟨_, rfl⟩
 rw [ha] at hn ⊢; clear ha V; refine callsD_of_wpS Tryz.func131 rfl fun c₀ cs hu => ?_
 apply wpS_seq
 apply wpS_region
 simp [wpOpsS, go_sem, recoverD, hu, Tryz.ntmps131, Exit.thenS]
 refine wpS_of_wp ?_
 change Code.wp _ _ _ { tmps := #[.pointer (some p), .pointer (some q), snt a, snt a, undef, undef, undef], defers := [] } _
 obtain ⟨HN, HU⟩ := hD2 hn hu; clear hn hu; go_wp2_with (go_at_call 82; (with_reducible refine HN.out.mono ?_); rintro e w1 ⟨rfl, hw⟩; have hq1 : w1.cell? q = some old := (by rw [Below.cell hw hqb]; exact hq); have hz1 : w1.frozen? q = false := (by rw [Below.frozen hw hqb]; exact hz))
 exact ⟨rfl, _, rfl, _, results_none rfl _ _ _, rfl, rfl, w1, hw, rfl⟩
theorem door_fct_idle (p q : Addr) (w : World) (hp : w.cell? p = some (.bool false)) :
  CallsD Tryz.prog 131 #[.pointer (some p), .pointer (some q)] .returning w fun e u' w' => e = .returned (.tuple #[]) ∧ u' = .returning ∧ w' = w := by
 refine callsD_of_wpS Tryz.func131 rfl fun c₀ cs hu => ?_
 apply wpS_seq
 apply wpS_region
 simp [wpOpsS, go_sem, recoverD, hu, Tryz.ntmps131, Exit.thenS]
 refine wpS_of_wp ?_
 change Code.wp _ _ _ { tmps := #[.pointer (some p), .pointer (some q), .nilIface, .nilIface, undef, undef, undef], defers := [] } _
 go_wp2
 cases c₀
 simp only at hu
 subst hu; exact ⟨rfl, _, rfl, _, results_none rfl _ _ _, rfl, rfl, rfl⟩
theorem try_fct_ret (f : FuncId) (caps : Array Value) (x0 : Int) (x1 : Int) (x2 : Int) (x3 : Int) (x4 : Int) (x5 : Int) (x6 : Int) (x7 : Int) (x8 : Int) (x9 : Int) (x10 : Int) (x11 : Int) (x12 : Int) (x13 : Nat) (w : World) (G : World → World → Prop) (hf : ∀ w, (callFunc f caps).run Tryz.prog w = .ok (.enter f caps) w)
  (H : ∀ w1, Below w.heap.size w w1 → w1.heap.size = w.heap.size + 3 → Calls Tryz.prog f caps w1 fun e w2 => e = .returned (.agg #[x0, x1, x2, x3, x4, x5, x6, x7, x8, x9, x10, x11, x12, x13]) ∧ Past w.heap.size w1 w2 ∧ G w1 w2) :
  Calls Tryz.prog 91 #[.func (.func f) #[] caps] w fun e w' => e = .returned (.tuple #[.agg #[x0, x1, x2, x3, x4, x5, x6, x7, x8, x9, x10, x11, x12, x13], .nilIface]) ∧ ∃ w1 w2, Below w.heap.size w w1 ∧ w1.heap.size = w.heap.size + 3 ∧ G w1 w2 ∧ Below w.heap.size w2 w' := by
 have hmf : ∀ (fn : Fn) (first cap : Array Value) (w : World), (Instr.makeFunc fn first cap).run Tryz.prog w = .ok (.func fn first cap) w := fun _ _ _ _ => rfl
 have hA : (((w.alloc (.cells #[(0:Int), (0:Int), (0:Int), (0:Int), (0:Int), (0:Int), (0:Int), (0:Int), (0:Int), (0:Int), (0:Int), (0:Int), (0:Int), .float .f64 0] 39)).alloc (.cells #[.nilIface] 26)).alloc (.cells #[.bool true] 4)).heap[w.heap.size]? = some (.cells #[(0:Int), (0:Int), (0:Int), (0:Int), (0:Int), (0:Int), (0:Int), (0:Int), (0:Int), (0:Int), (0:Int), (0:Int), (0:Int), .float .f64 0] 39) := by
  rw [Below.heap_alloc _ _ _ (by simp; omega), Below.heap_alloc _ _ _ (by simp)]; exact (mH w _)
 have hN : (((w.alloc (.cells #[(0:Int), (0:Int), (0:Int), (0:Int), (0:Int), (0:Int), (0:Int), (0:Int), (0:Int), (0:Int), (0:Int), (0:Int), (0:Int), .float .f64 0] 39)).alloc (.cells #[.nilIface] 26)).alloc (.cells #[.bool true] 4)).heap[w.heap.size + 1]? = some (.cells #[.nilIface] 26) := by
  have := try_new0 (w.alloc (.cells #[(0:Int), (0:Int), (0:Int), (0:Int), (0:Int), (0:Int), (0:Int), (0:Int), (0:Int), (0:Int), (0:Int), (0:Int), (0:Int), .float .f64 0] 39)) (.cells #[.nilIface] 26) (.cells #[.bool true] 4); rwa [show (w.alloc (.cells #[(0:Int), (0:Int), (0:Int), (0:Int), (0:Int), (0:Int), (0:Int), (0:Int), (0:Int), (0:Int), (0:Int), (0:Int), (0:Int), .float .f64 0] 39)).heap.size = w.heap.size + 1 by simp] at this
 have hM : (((w.alloc (.cells #[(0:Int), (0:Int), (0:Int), (0:Int), (0:Int), (0:Int), (0:Int), (0:Int), (0:Int), (0:Int), (0:Int), (0:Int), (0:Int), .float .f64 0] 39)).alloc (.cells #[.nilIface] 26)).alloc (.cells #[.bool true] 4)).heap[w.heap.size + 1 + 1]? = some (.cells #[.bool true] 4) := by
  have := try_new1 (w.alloc (.cells #[(0:Int), (0:Int), (0:Int), (0:Int), (0:Int), (0:Int), (0:Int), (0:Int), (0:Int), (0:Int), (0:Int), (0:Int), (0:Int), .float .f64 0] 39)) (.cells #[.nilIface] 26) (.cells #[.bool true] 4); rwa [show (w.alloc (.cells #[(0:Int), (0:Int), (0:Int), (0:Int), (0:Int), (0:Int), (0:Int), (0:Int), (0:Int), (0:Int), (0:Int), (0:Int), (0:Int), .float .f64 0] 39)).heap.size + 1 = w.heap.size + 1 + 1 by simp] at this
 have hB : Below w.heap.size w (((w.alloc (.cells #[(0:Int), (0:Int), (0:Int), (0:Int), (0:Int), (0:Int), (0:Int), (0:Int), (0:Int), (0:Int), (0:Int), (0:Int), (0:Int), .float .f64 0] 39)).alloc (.cells #[.nilIface] 26)).alloc (.cells #[.bool true] 4)) := (((Below.refl _ _).alloc (Nat.le_refl _) _).alloc (by simp) _).alloc (by have h1 := Below.size (kA w (.cells #[(0:Int), (0:Int), (0:Int), (0:Int), (0:Int), (0:Int), (0:Int), (0:Int), (0:Int), (0:Int), (0:Int), (0:Int), (0:Int), .float .f64 0] 39)); have h2 := Below.size (kA (w.alloc (.cells #[(0:Int), (0:Int), (0:Int), (0:Int), (0:Int), (0:Int), (0:Int), (0:Int), (0:Int), (0:Int), (0:Int), (0:Int), (0:Int), .float .f64 0] 39)) (.cells #[.nilIface] 26)); omega) _; have hS : (((w.alloc (.cells #[(0:Int), (0:Int), (0:Int), (0:Int), (0:Int), (0:Int), (0:Int), (0:Int), (0:Int), (0:Int), (0:Int), (0:Int), (0:Int), .float .f64 0] 39)).alloc (.cells #[.nilIface] 26)).alloc (.cells #[.bool true] 4)).heap.size = w.heap.size + 3 := by simp
 obtain ⟨HH, HA, HN, HM, HB, HS⟩ := hD6 H hA hN hM hB hS; clear H hA hN hM hB hS; have hsf := sF; go_enter_defers Tryz.func91, Tryz.ntmps91
 go_wp2
 with_reducible refine (HH.out _ HB.out HS.out).mono ?_
 rintro e w2 ⟨rfl, hP, hG⟩; have eA : w2.heap[w.heap.size]? = some (.cells #[(0:Int), (0:Int), (0:Int), (0:Int), (0:Int), (0:Int), (0:Int), (0:Int), (0:Int), (0:Int), (0:Int), (0:Int), (0:Int), .float .f64 0] 39) := (hP.2 _ (by omega) (by rw [HS.out]; omega)).trans HA.out; have e0 : w2.heap[w.heap.size + 1]? = some (.cells #[.nilIface] 26) := (hP.2 _ (by omega) (by rw [HS.out]; omega)).trans HN.out; have e1 : w2.heap[w.heap.size + 1 + 1]? = some (.cells #[.bool true] 4) := (hP.2 _ (by omega) (by rw [HS.out]; omega)).trans HM.out; have a0 : w2.cell? ⟨w.heap.size, 0, none⟩ = some (.int .i64 0) := by simp [World.cell?, eA]
 have a1 : w2.cell? ⟨w.heap.size, 1, none⟩ = some (.int .i64 0) := by simp [World.cell?, eA]
 have a2 : w2.cell? ⟨w.heap.size, 2, none⟩ = some (.int .i64 0) := by simp [World.cell?, eA]
 have a3 : w2.cell? ⟨w.heap.size, 3, none⟩ = some (.int .i64 0) := by simp [World.cell?, eA]
 have a4 : w2.cell? ⟨w.heap.size, 4, none⟩ = some (.int .i64 0) := by simp [World.cell?, eA]
 have a5 : w2.cell? ⟨w.heap.size, 5, none⟩ = some (.int .i64 0) := by simp [World.cell?, eA]
 have a6 : w2.cell? ⟨w.heap.size, 6, none⟩ = some (.int .i64 0) := by simp [World.cell?, eA]
 have a7 : w2.cell? ⟨w.heap.size, 7, none⟩ = some (.int .i64 0) := by simp [World.cell?, eA]
 have a8 : w2.cell? ⟨w.heap.size, 8, none⟩ = some (.int .i64 0) := by simp [World.cell?, eA]
 have a9 : w2.cell? ⟨w.heap.size, 9, none⟩ = some (.int .i64 0) := by simp [World.cell?, eA]
 have a10 : w2.cell? ⟨w.heap.size, 10, none⟩ = some (.int .i64 0) := by simp [World.cell?, eA]
 have a11 : w2.cell? ⟨w.heap.size, 11, none⟩ = some (.int .i64 0) := by simp [World.cell?, eA]
 have a12 : w2.cell? ⟨w.heap.size, 12, none⟩ = some (.int .i64 0) := by simp [World.cell?, eA]
 have a13 : w2.cell? ⟨w.heap.size, 13, none⟩ = some (.float .f64 0) := by simp [World.cell?, eA]
 have zA : ∀ i, w2.frozen? ⟨w.heap.size, i, none⟩ = false := fun i => by simp [World.frozen?, eA]
 have c0 : w2.cell? ⟨w.heap.size + 1, 0, none⟩ = some .nilIface := by simp [World.cell?, e0]
 have c1 : w2.cell? ⟨w.heap.size + 1 + 1, 0, none⟩ = some (.bool true) := by simp [World.cell?, e1]
 have z0 : w2.frozen? ⟨w.heap.size + 1, 0, none⟩ = false := by simp [World.frozen?, e0]
 have z1 : w2.frozen? ⟨w.heap.size + 1 + 1, 0, none⟩ = false := by simp [World.frozen?, e1]
 obtain ⟨e0, eA⟩ := hD2 e0 eA; clear e1; go_wp2; refine leaves_cons (f := 131) (args := #[.pointer (some ⟨w.heap.size + 1 + 1, 0, none⟩), .pointer (some ⟨w.heap.size + 1, 0, none⟩)]) (by simp) (by simp [go_sem]) ?_
 refine (door_fct_idle _ _ _ (by simp [go_sem, c1])).mono ?_
 rintro e u' w3 ⟨rfl, rfl, hw3⟩; have hzA : w3.heap[w.heap.size]? = some (.cells #[x0, x1, x2, x3, x4, x5, x6, x7, x8, x9, x10, x11, x12, x13] 39) := by
  rw [hw3, bS _ _ _ _ (by simp)]; refine set_fct (x0 := .int .i64 x0) (x1 := .int .i64 x1) (x2 := .int .i64 x2) (x3 := .int .i64 x3) (x4 := .int .i64 x4) (x5 := .int .i64 x5) (x6 := .int .i64 x6) (x7 := .int .i64 x7) (x8 := .int .i64 x8) (x9 := .int .i64 x9) (x10 := .int .i64 x10) (x11 := .int .i64 x11) (x12 := .int .i64 x12) (x13 := .float .f64 x13) (.int .i64 x0) (.int .i64 x1) (.int .i64 x2) (.int .i64 x3) (.int .i64 x4) (.int .i64 x5) (.int .i64 x6) (.int .i64 x7) (.int .i64 x8) (.int .i64 x9) (.int .i64 x10) (.int .i64 x11) (.int .i64 x12) (.float .f64 x13) ?_
  rw [bS _ _ _ _ (by simp; omega)]; exact set_fct (.int .i64 x0) (.int .i64 x1) (.int .i64 x2) (.int .i64 x3) (.int .i64 x4) (.int .i64 x5) (.int .i64 x6) (.int .i64 x7) (.int .i64 x8) (.int .i64 x9) (.int .i64 x10) (.int .i64 x11) (.int .i64 x12) (.float .f64 x13) eA.out
 have hzE : w3.heap[w.heap.size + 1]? = some (.cells #[.nilIface] 26) := by
  rw [hw3]; refine (Joins.block_setCell (cs := #[.nilIface]) (t := 26) (fr := (0, 0)) ?_ _).trans rfl
  rw [bS _ _ _ _ (by simp), bS _ _ _ _ (by simp), bS _ _ _ _ (by simp), bS _ _ _ _ (by simp), bS _ _ _ _ (by simp), bS _ _ _ _ (by simp), bS _ _ _ _ (by simp), bS _ _ _ _ (by simp), bS _ _ _ _ (by simp), bS _ _ _ _ (by simp), bS _ _ _ _ (by simp), bS _ _ _ _ (by simp), bS _ _ _ _ (by simp), bS _ _ _ _ (by simp), bS _ _ _ _ (by simp), bS _ _ _ _ (by simp), bS _ _ _ _ (by simp), bS _ _ _ _ (by simp), bS _ _ _ _ (by simp), bS _ _ _ _ (by simp), bS _ _ _ _ (by simp), bS _ _ _ _ (by simp), bS _ _ _ _ (by simp), bS _ _ _ _ (by simp), bS _ _ _ _ (by simp), bS _ _ _ _ (by simp), bS _ _ _ _ (by simp), bS _ _ _ _ (by simp), bS _ _ _ _ (by simp)]; exact e0.out
 have hk3 : Below w.heap.size w2 w3 := by
  rw [hw3]; refine Below.setCell ?_ (by simp) _
  refine Below.setCell ?_ (by simp) _
  refine Below.setCell ?_ (by simp) _
  refine Below.setCell ?_ (by simp) _
  refine Below.setCell ?_ (by simp) _
  refine Below.setCell ?_ (by simp) _
  refine Below.setCell ?_ (by simp) _
  refine Below.setCell ?_ (by simp) _
  refine Below.setCell ?_ (by simp) _
  refine Below.setCell ?_ (by simp) _
  refine Below.setCell ?_ (by simp) _
  refine Below.setCell ?_ (by simp) _
  refine Below.setCell ?_ (by simp) _
  refine Below.setCell ?_ (by simp) _
  refine Below.setCell ?_ (by simp) _
  refine Below.setCell ?_ (by simp; omega) _
  refine Below.setCell ?_ (by simp) _
  refine Below.setCell ?_ (by simp) _
  refine Below.setCell ?_ (by simp) _
  refine Below.setCell ?_ (by simp) _
  refine Below.setCell ?_ (by simp) _
  refine Below.setCell ?_ (by simp) _
  refine Below.setCell ?_ (by simp) _
  refine Below.setCell ?_ (by simp) _
  refine Below.setCell ?_ (by simp) _
  refine Below.setCell ?_ (by simp) _
  refine Below.setCell ?_ (by simp) _
  refine Below.setCell ?_ (by simp) _
  refine Below.setCell ?_ (by simp) _
  refine Below.setCell ?_ (by simp) _
  exact Below.refl _ _
 have b0 : w3.cell? ⟨w.heap.size, 0, none⟩ = some (.int .i64 x0) := by simp [World.cell?, hzA]
 have b1 : w3.cell? ⟨w.heap.size, 1, none⟩ = some (.int .i64 x1) := by simp [World.cell?, hzA]
 have b2 : w3.cell? ⟨w.heap.size, 2, none⟩ = some (.int .i64 x2) := by simp [World.cell?, hzA]
 have b3 : w3.cell? ⟨w.heap.size, 3, none⟩ = some (.int .i64 x3) := by simp [World.cell?, hzA]
 have b4 : w3.cell? ⟨w.heap.size, 4, none⟩ = some (.int .i64 x4) := by simp [World.cell?, hzA]
 have b5 : w3.cell? ⟨w.heap.size, 5, none⟩ = some (.int .i64 x5) := by simp [World.cell?, hzA]
 have b6 : w3.cell? ⟨w.heap.size, 6, none⟩ = some (.int .i64 x6) := by simp [World.cell?, hzA]
 have b7 : w3.cell? ⟨w.heap.size, 7, none⟩ = some (.int .i64 x7) := by simp [World.cell?, hzA]
 have b8 : w3.cell? ⟨w.heap.size, 8, none⟩ = some (.int .i64 x8) := by simp [World.cell?, hzA]
 have b9 : w3.cell? ⟨w.heap.size, 9, none⟩ = some (.int .i64 x9) := by simp [World.cell?, hzA]
 have b10 : w3.cell? ⟨w.heap.size, 10, none⟩ = some (.int .i64 x10) := by simp [World.cell?, hzA]
 have b11 : w3.cell? ⟨w.heap.size, 11, none⟩ = some (.int .i64 x11) := by simp [World.cell?, hzA]
 have b12 : w3.cell? ⟨w.heap.size, 12, none⟩ = some (.int .i64 x12) := by simp [World.cell?, hzA]
 have b13 : w3.cell? ⟨w.heap.size, 13, none⟩ = some (.float .f64 x13) := by simp [World.cell?, hzA]
 have bE : w3.cell? ⟨w.heap.size + 1, 0, none⟩ = some .nilIface := by simp [World.cell?, hzE]
 clear hw3
 simp [Leaves, settle, results, Tryz.results91, go_sem, b0, b1, b2, b3, b4, b5, b6, b7, b8, b9, b10, b11, b12, b13, bE]
 exact ⟨_, HB.out, HS.out, _, hG, hk3⟩
theorem try_fct_panic (ads : List Addr) (k : Nat) (hk : k < ads.length) (f : FuncId) (caps : Array Value) (w : World) (G : World → World → Prop) (hf : ∀ w, (callFunc f caps).run Tryz.prog w = .ok (.enter f caps) w)
  (H : ∀ w1, Below w.heap.size w w1 → w1.heap.size = w.heap.size + 3 → Calls Tryz.prog f caps w1 fun e w2 => e = .panicked [{ v := snt ads[k], recovered := false }] ∧ St ads w2 ∧ Past w.heap.size w1 w2 ∧ G w1 w2) :
  Calls Tryz.prog 91 #[.func (.func f) #[] caps] w fun e w' => e = .returned (.tuple #[.agg #[(0:Int), (0:Int), (0:Int), (0:Int), (0:Int), (0:Int), (0:Int), (0:Int), (0:Int), (0:Int), (0:Int), (0:Int), (0:Int), .float .f64 0], snt ads[k]]) ∧ ∃ w1 w2, Below w.heap.size w w1 ∧ w1.heap.size = w.heap.size + 3 ∧ G w1 w2 ∧ Below w.heap.size w2 w' := by
 have hmf : ∀ (fn : Fn) (first cap : Array Value) (w : World), (Instr.makeFunc fn first cap).run Tryz.prog w = .ok (.func fn first cap) w := fun _ _ _ _ => rfl
 have hA : (((w.alloc (.cells #[(0:Int), (0:Int), (0:Int), (0:Int), (0:Int), (0:Int), (0:Int), (0:Int), (0:Int), (0:Int), (0:Int), (0:Int), (0:Int), .float .f64 0] 39)).alloc (.cells #[.nilIface] 26)).alloc (.cells #[.bool true] 4)).heap[w.heap.size]? = some (.cells #[(0:Int), (0:Int), (0:Int), (0:Int), (0:Int), (0:Int), (0:Int), (0:Int), (0:Int), (0:Int), (0:Int), (0:Int), (0:Int), .float .f64 0] 39) := by
  rw [Below.heap_alloc _ _ _ (by simp; omega), Below.heap_alloc _ _ _ (by simp)]; exact (mH w _)
 have hN : (((w.alloc (.cells #[(0:Int), (0:Int), (0:Int), (0:Int), (0:Int), (0:Int), (0:Int), (0:Int), (0:Int), (0:Int), (0:Int), (0:Int), (0:Int), .float .f64 0] 39)).alloc (.cells #[.nilIface] 26)).alloc (.cells #[.bool true] 4)).heap[w.heap.size + 1]? = some (.cells #[.nilIface] 26) := by
  have := try_new0 (w.alloc (.cells #[(0:Int), (0:Int), (0:Int), (0:Int), (0:Int), (0:Int), (0:Int), (0:Int), (0:Int), (0:Int), (0:Int), (0:Int), (0:Int), .float .f64 0] 39)) (.cells #[.nilIface] 26) (.cells #[.bool true] 4); rwa [show (w.alloc (.cells #[(0:Int), (0:Int), (0:Int), (0:Int), (0:Int), (0:Int), (0:Int), (0:Int), (0:Int), (0:Int), (0:Int), (0:Int), (0:Int), .float .f64 0] 39)).heap.size = w.heap.size + 1 by simp] at this
 have hM : (((w.alloc (.cells #[(0:Int), (0:Int), (0:Int), (0:Int), (0:Int), (0:Int), (0:Int), (0:Int), (0:Int), (0:Int), (0:Int), (0:Int), (0:Int), .float .f64 0] 39)).alloc (.cells #[.nilIface] 26)).alloc (.cells #[.bool true] 4)).heap[w.heap.size + 1 + 1]? = some (.cells #[.bool true] 4) := by
  have := try_new1 (w.alloc (.cells #[(0:Int), (0:Int), (0:Int), (0:Int), (0:Int), (0:Int), (0:Int), (0:Int), (0:Int), (0:Int), (0:Int), (0:Int), (0:Int), .float .f64 0] 39)) (.cells #[.nilIface] 26) (.cells #[.bool true] 4); rwa [show (w.alloc (.cells #[(0:Int), (0:Int), (0:Int), (0:Int), (0:Int), (0:Int), (0:Int), (0:Int), (0:Int), (0:Int), (0:Int), (0:Int), (0:Int), .float .f64 0] 39)).heap.size + 1 = w.heap.size + 1 + 1 by simp] at this
 have hB : Below w.heap.size w (((w.alloc (.cells #[(0:Int), (0:Int), (0:Int), (0:Int), (0:Int), (0:Int), (0:Int), (0:Int), (0:Int), (0:Int), (0:Int), (0:Int), (0:Int), .float .f64 0] 39)).alloc (.cells #[.nilIface] 26)).alloc (.cells #[.bool true] 4)) := (((Below.refl _ _).alloc (Nat.le_refl _) _).alloc (by simp) _).alloc (by have h1 := Below.size (kA w (.cells #[(0:Int), (0:Int), (0:Int), (0:Int), (0:Int), (0:Int), (0:Int), (0:Int), (0:Int), (0:Int), (0:Int), (0:Int), (0:Int), .float .f64 0] 39)); have h2 := Below.size (kA (w.alloc (.cells #[(0:Int), (0:Int), (0:Int), (0:Int), (0:Int), (0:Int), (0:Int), (0:Int), (0:Int), (0:Int), (0:Int), (0:Int), (0:Int), .float .f64 0] 39)) (.cells #[.nilIface] 26)); omega) _; have hS : (((w.alloc (.cells #[(0:Int), (0:Int), (0:Int), (0:Int), (0:Int), (0:Int), (0:Int), (0:Int), (0:Int), (0:Int), (0:Int), (0:Int), (0:Int), .float .f64 0] 39)).alloc (.cells #[.nilIface] 26)).alloc (.cells #[.bool true] 4)).heap.size = w.heap.size + 3 := by simp
 obtain ⟨HH, HA, HN, HM, HB, HS⟩ := hD6 H hA hN hM hB hS; clear H hA hN hM hB hS; have hsf := sF; go_enter_defers Tryz.func91, Tryz.ntmps91
 go_wp2
 with_reducible refine (HH.out _ HB.out HS.out).mono ?_
 rintro e w2 ⟨rfl, hV, hP, hG⟩; have eA : w2.heap[w.heap.size]? = some (.cells #[(0:Int), (0:Int), (0:Int), (0:Int), (0:Int), (0:Int), (0:Int), (0:Int), (0:Int), (0:Int), (0:Int), (0:Int), (0:Int), .float .f64 0] 39) := (hP.2 _ (by omega) (by rw [HS.out]; omega)).trans HA.out; have e0 : w2.heap[w.heap.size + 1]? = some (.cells #[.nilIface] 26) := (hP.2 _ (by omega) (by rw [HS.out]; omega)).trans HN.out; have e1 : w2.heap[w.heap.size + 1 + 1]? = some (.cells #[.bool true] 4) := (hP.2 _ (by omega) (by rw [HS.out]; omega)).trans HM.out; have a0 : w2.cell? ⟨w.heap.size, 0, none⟩ = some (.int .i64 0) := by simp [World.cell?, eA]
 have a1 : w2.cell? ⟨w.heap.size, 1, none⟩ = some (.int .i64 0) := by simp [World.cell?, eA]
 have a2 : w2.cell? ⟨w.heap.size, 2, none⟩ = some (.int .i64 0) := by simp [World.cell?, eA]
 have a3 : w2.cell? ⟨w.heap.size, 3, none⟩ = some (.int .i64 0) := by simp [World.cell?, eA]
 have a4 : w2.cell? ⟨w.heap.size, 4, none⟩ = some (.int .i64 0) := by simp [World.cell?, eA]
 have a5 : w2.cell? ⟨w.heap.size, 5, none⟩ = some (.int .i64 0) := by simp [World.cell?, eA]
 have a6 : w2.cell? ⟨w.heap.size, 6, none⟩ = some (.int .i64 0) := by simp [World.cell?, eA]
 have a7 : w2.cell? ⟨w.heap.size, 7, none⟩ = some (.int .i64 0) := by simp [World.cell?, eA]
 have a8 : w2.cell? ⟨w.heap.size, 8, none⟩ = some (.int .i64 0) := by simp [World.cell?, eA]
 have a9 : w2.cell? ⟨w.heap.size, 9, none⟩ = some (.int .i64 0) := by simp [World.cell?, eA]
 have a10 : w2.cell? ⟨w.heap.size, 10, none⟩ = some (.int .i64 0) := by simp [World.cell?, eA]
 have a11 : w2.cell? ⟨w.heap.size, 11, none⟩ = some (.int .i64 0) := by simp [World.cell?, eA]
 have a12 : w2.cell? ⟨w.heap.size, 12, none⟩ = some (.int .i64 0) := by simp [World.cell?, eA]
 have a13 : w2.cell? ⟨w.heap.size, 13, none⟩ = some (.float .f64 0) := by simp [World.cell?, eA]
 have zA : ∀ i, w2.frozen? ⟨w.heap.size, i, none⟩ = false := fun i => by simp [World.frozen?, eA]
 have c0 : w2.cell? ⟨w.heap.size + 1, 0, none⟩ = some .nilIface := by simp [World.cell?, e0]
 have c1 : w2.cell? ⟨w.heap.size + 1 + 1, 0, none⟩ = some (.bool true) := by simp [World.cell?, e1]
 have z0 : w2.frozen? ⟨w.heap.size + 1, 0, none⟩ = false := by simp [World.frozen?, e0]
 have hd := door_fct_panic ads ⟨w.heap.size + 1 + 1, 0, none⟩ ⟨w.heap.size + 1, 0, none⟩ .nilIface k hk [] w2 hV c1 c0 z0; have hltA : w.heap.size < w2.heap.size := oZ eA; have hlt : w.heap.size + 1 < w2.heap.size := old_of_cell c0; clear e0 e1; refine leaves_cons (f := 131) (args := #[.pointer (some ⟨w.heap.size + 1 + 1, 0, none⟩), .pointer (some ⟨w.heap.size + 1, 0, none⟩)]) (by simp) (by simp [go_sem]) ?_
 refine hd.mono ?_
 rintro e u' w3 ⟨rfl, rfl, w4, hw4, rfl⟩; have c4 : w4.cell? ⟨w.heap.size + 1, 0, none⟩ = some .nilIface := by rw [Below.cell hw4 hlt]; exact c0
 have eA4 : w4.heap[w.heap.size]? = some (.cells #[(0:Int), (0:Int), (0:Int), (0:Int), (0:Int), (0:Int), (0:Int), (0:Int), (0:Int), (0:Int), (0:Int), (0:Int), (0:Int), .float .f64 0] 39) := by rw [Below.block hw4 _ hltA]; exact eA
 have b0 : w4.cell? ⟨w.heap.size, 0, none⟩ = some (.int .i64 0) := by simp [World.cell?, eA4]
 have b1 : w4.cell? ⟨w.heap.size, 1, none⟩ = some (.int .i64 0) := by simp [World.cell?, eA4]
 have b2 : w4.cell? ⟨w.heap.size, 2, none⟩ = some (.int .i64 0) := by simp [World.cell?, eA4]
 have b3 : w4.cell? ⟨w.heap.size, 3, none⟩ = some (.int .i64 0) := by simp [World.cell?, eA4]
 have b4 : w4.cell? ⟨w.heap.size, 4, none⟩ = some (.int .i64 0) := by simp [World.cell?, eA4]
 have b5 : w4.cell? ⟨w.heap.size, 5, none⟩ = some (.int .i64 0) := by simp [World.cell?, eA4]
 have b6 : w4.cell? ⟨w.heap.size, 6, none⟩ = some (.int .i64 0) := by simp [World.cell?, eA4]
 have b7 : w4.cell? ⟨w.heap.size, 7, none⟩ = some (.int .i64 0) := by simp [World.cell?, eA4]
 have b8 : w4.cell? ⟨w.heap.size, 8, none⟩ = some (.int .i64 0) := by simp [World.cell?, eA4]
 have b9 : w4.cell? ⟨w.heap.size, 9, none⟩ = some (.int .i64 0) := by simp [World.cell?, eA4]
 have b10 : w4.cell? ⟨w.heap.size, 10, none⟩ = some (.int .i64 0) := by simp [World.cell?, eA4]
 have b11 : w4.cell? ⟨w.heap.size, 11, none⟩ = some (.int .i64 0) := by simp [World.cell?, eA4]
 have b12 : w4.cell? ⟨w.heap.size, 12, none⟩ = some (.int .i64 0) := by simp [World.cell?, eA4]
 have b13 : w4.cell? ⟨w.heap.size, 13, none⟩ = some (.float .f64 0) := by simp [World.cell?, eA4]
 have c5 : (w4.setCell ⟨w.heap.size + 1, 0, none⟩ (snt ads[k])).cell? ⟨w.heap.size + 1, 0, none⟩ = some (snt ads[k]) := by simp [go_sem, c4]
 have d0 : (w4.setCell ⟨w.heap.size + 1, 0, none⟩ (snt ads[k])).cell? ⟨w.heap.size, 0, none⟩ = some (.int .i64 0) := by simp [go_sem, b0]
 have d1 : (w4.setCell ⟨w.heap.size + 1, 0, none⟩ (snt ads[k])).cell? ⟨w.heap.size, 1, none⟩ = some (.int .i64 0) := by simp [go_sem, b1]
 have d2 : (w4.setCell ⟨w.heap.size + 1, 0, none⟩ (snt ads[k])).cell? ⟨w.heap.size, 2, none⟩ = some (.int .i64 0) := by simp [go_sem, b2]
 have d3 : (w4.setCell ⟨w.heap.size + 1, 0, none⟩ (snt ads[k])).cell? ⟨w.heap.size, 3, none⟩ = some (.int .i64 0) := by simp [go_sem, b3]
 have d4 : (w4.setCell ⟨w.heap.size + 1, 0, none⟩ (snt ads[k])).cell? ⟨w.heap.size, 4, none⟩ = some (.int .i64 0) := by simp [go_sem, b4]
 have d5 : (w4.setCell ⟨w.heap.size + 1, 0, none⟩ (snt ads[k])).cell? ⟨w.heap.size, 5, none⟩ = some (.int .i64 0) := by simp [go_sem, b5]
 have d6 : (w4.setCell ⟨w.heap.size + 1, 0, none⟩ (snt ads[k])).cell? ⟨w.heap.size, 6, none⟩ = some (.int .i64 0) := by simp [go_sem, b6]
 have d7 : (w4.setCell ⟨w.heap.size + 1, 0, none⟩ (snt ads[k])).cell? ⟨w.heap.size, 7, none⟩ = some (.int .i64 0) := by simp [go_sem, b7]
 have d8 : (w4.setCell ⟨w.heap.size + 1, 0, none⟩ (snt ads[k])).cell? ⟨w.heap.size, 8, none⟩ = some (.int .i64 0) := by simp [go_sem, b8]
 have d9 : (w4.setCell ⟨w.heap.size + 1, 0, none⟩ (snt ads[k])).cell? ⟨w.heap.size, 9, none⟩ = some (.int .i64 0) := by simp [go_sem, b9]
 have d10 : (w4.setCell ⟨w.heap.size + 1, 0, none⟩ (snt ads[k])).cell? ⟨w.heap.size, 10, none⟩ = some (.int .i64 0) := by simp [go_sem, b10]
 have d11 : (w4.setCell ⟨w.heap.size + 1, 0, none⟩ (snt ads[k])).cell? ⟨w.heap.size, 11, none⟩ = some (.int .i64 0) := by simp [go_sem, b11]
 have d12 : (w4.setCell ⟨w.heap.size + 1, 0, none⟩ (snt ads[k])).cell? ⟨w.heap.size, 12, none⟩ = some (.int .i64 0) := by simp [go_sem, b12]
 have d13 : (w4.setCell ⟨w.heap.size + 1, 0, none⟩ (snt ads[k])).cell? ⟨w.heap.size, 13, none⟩ = some (.float .f64 0) := by simp [go_sem, b13]
 have hk5 : Below w.heap.size w2 (w4.setCell ⟨w.heap.size + 1, 0, none⟩ (snt ads[k])) := (Below.mono hw4 (by omega)).setCell (show w.heap.size ≤ w.heap.size + 1 by omega) _; obtain ⟨w5, hw5⟩ : ∃ w5, w4.setCell ⟨w.heap.size + 1, 0, none⟩ (snt ads[k]) = w5 := ⟨_, rfl⟩
 rw [hw5] at c5 d0 d1 d2 d3 d4 d5 d6 d7 d8 d9 d10 d11 d12 d13 hk5 ⊢
 simp [Leaves, settle, results, Tryz.results91, go_sem, c5, d0, d1, d2, d3, d4, d5, d6, d7, d8, d9, d10, d11, d12, d13]
 exact ⟨_, HB.out, HS.out, _, hG, hk5⟩
theorem try_fct_val (f : FuncId) (caps : Array Value) (x0 : Int) (x1 : Int) (x2 : Int) (x3 : Int) (x4 : Int) (x5 : Int) (x6 : Int) (x7 : Int) (x8 : Int) (x9 : Int) (x10 : Int) (x11 : Int) (x12 : Int) (x13 : Nat) (w : World) (hf : ∀ w, (callFunc f caps).run Tryz.prog w = .ok (.enter f caps) w)
  (H : ∀ w1, Kp w w1 → Calls Tryz.prog f caps w1 fun e w2 => e = .returned (.agg #[x0, x1, x2, x3, x4, x5, x6, x7, x8, x9, x10, x11, x12, x13]) ∧ Kp w1 w2) :
  Calls Tryz.prog 91 #[.func (.func f) #[] caps] w fun e w' => e = .returned (.tuple #[.agg #[x0, x1, x2, x3, x4, x5, x6, x7, x8, x9, x10, x11, x12, x13], .nilIface]) ∧ Kp w w' := by
 refine (try_fct_ret f caps x0 x1 x2 x3 x4 x5 x6 x7 x8 x9 x10 x11 x12 x13 w (fun w1 w2 => Kp w1 w2) hf fun w1 hb _ => ?_).mono ?_
 ·refine (H w1 hb).mono ?_
  rintro e w2 ⟨rfl, hk⟩; exact ⟨rfl, past_of hk, hk⟩
 ·rintro e w' ⟨rfl, w1, w2, hb, _, hk, hb2⟩; exact ⟨rfl, Below.trans (kT hb hk) hb2⟩
theorem try_fct_err (ads : List Addr) (k : Nat) (hk : k < ads.length) (f : FuncId) (caps : Array Value) (w : World) (V : St ads w) (hf : ∀ w, (callFunc f caps).run Tryz.prog w = .ok (.enter f caps) w)
  (H : ∀ w1, Kp w w1 → Calls Tryz.prog f caps w1 fun e w2 => e = .panicked [{ v := snt ads[k], recovered := false }] ∧ Kp w1 w2) :
  Calls Tryz.prog 91 #[.func (.func f) #[] caps] w fun e w' => e = .returned (.tuple #[.agg #[(0:Int), (0:Int), (0:Int), (0:Int), (0:Int), (0:Int), (0:Int), (0:Int), (0:Int), (0:Int), (0:Int), (0:Int), (0:Int), .float .f64 0], snt ads[k]]) ∧ Kp w w' := by
 refine (try_fct_panic ads k hk f caps w (fun w1 w2 => Kp w1 w2) hf fun w1 hb _ => ?_).mono ?_
 ·refine (H w1 hb).mono ?_
  rintro e w2 ⟨rfl, hk2⟩; exact ⟨rfl, V.below (kT hb hk2), past_of hk2, hk2⟩
 ·rintro e w' ⟨rfl, w1, w2, hb, _, hk2, hb2⟩; exact ⟨rfl, Below.trans (kT hb hk2) hb2⟩
end Go.Proofs.YtpemeenfhkgmpaaGreatDoor
