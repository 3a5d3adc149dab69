/-
  PARTS OF THIS PROOF (own work): LsM.
-/
import Derived.Test.YtpemeenfhkgmpaaGreatDoorZb30
import Derived.Test.YtpemeenfhkgmpaaGreatDoorZb03
namespace Go.Proofs.YtpemeenfhkgmpaaGreatDoor
open Go.RowKit Go.ChangeShapes Go.WideShapes

variable {w0 w w' W w3 : World} {B q : Nat} {m : StM} {gs : List AcG} {va vp : Value}

variable {ads : List Addr}
theorem eq_nilF (w : World) : (binOp .eql 1 .nilFunc .nilFunc).run Tryz.prog w = .ok (.bool true) w := by kernel_rfl
theorem eq_funF (f : FuncId) (caps : Array Value) (w : World) : (binOp .eql 1 (.func (.func f) #[] caps) .nilFunc).run Tryz.prog w = .ok (.bool false) w := by kernel_rfl
set_option maxRecDepth 100000 in
set_option maxHeartbeats 2000000 in
theorem lsChange1 (E : EP [0, 3, 4, 8, 13] ads w) (Hs : GS tyL B q m gs va vp w) (ok : OkS m) (fn fs fr fe fp fq fo fd fa ft fh fc : Int) (fx : Nat) (hR : rightF (⟨1, fn, fs, fr, fe, fp, fq, fo, fd, fa, ft, fh, fc, fx⟩ : FX) = true) : Calls Tryz.prog 28 #[.pointer (some ⟨q, 0, none⟩), .agg #[.int .i64 1, .int .i64 fn, .int .i64 fs, .int .i64 fr, .int .i64 fe, .int .i64 fp, .int .i64 fq, .int .i64 fo, .int .i64 fd, .int .i64 fa, .int .i64 ft, .int .i64 fh, .int .i64 fc, .float .f64 fx]] w fun r w' => (doS m (⟨1, fn, fs, fr, fe, fp, fq, fo, fd, fa, ft, fh, fc, fx⟩ : FX) = none ∧ r = .returned .nilFunc ∧ Kp w w') ∨ (∃ m2, doS m (⟨1, fn, fs, fr, fe, fp, fq, fo, fd, fa, ft, fh, fc, fx⟩ : FX) = some m2 ∧ ∃ caps, r = .returned (.func (.func 107) #[] caps) ∧ Kp w w' ∧ Calls Tryz.prog 107 caps w' fun r w3 => r = .returned (.tuple #[]) ∧ ∃ gs' va' vp', GS tyL B q m2 gs' va' vp' w3 ∧ Asd (Ow q gs va vp) (Ow q gs' va' vp') w' w3) := by
  have k1 := kp_alloc w (.cells #[.int .i64 1, .int .i64 fn, .int .i64 fs, .int .i64 fr, .int .i64 fe, .int .i64 fp, .int .i64 fq, .int .i64 fo, .int .i64 fd, .int .i64 fa, .int .i64 ft, .int .i64 fh, .int .i64 fc, .float .f64 fx] 39)
  obtain ⟨f0, f1, f2, f3, f4, f5, f6, f7, f8, f9, f10, f11, f12, f13⟩ := cells14 (MapKept.heap_alloc w (.cells #[.int .i64 1, .int .i64 fn, .int .i64 fs, .int .i64 fr, .int .i64 fe, .int .i64 fp, .int .i64 fq, .int .i64 fo, .int .i64 fd, .int .i64 fa, .int .i64 ft, .int .i64 fh, .int .i64 fc, .float .f64 fx] 39)).1
  obtain ⟨W, hW⟩ : ∃ W, w.alloc (.cells #[.int .i64 1, .int .i64 fn, .int .i64 fs, .int .i64 fr, .int .i64 fe, .int .i64 fp, .int .i64 fq, .int .i64 fo, .int .i64 fd, .int .i64 fa, .int .i64 ft, .int .i64 fh, .int .i64 fc, .float .f64 fx] 39) = W := ⟨_, rfl⟩
  rw [hW] at k1 f0 f1 f2 f3 f4 f5 f6 f7 f8 f9 f10 f11 f12 f13
  have HK := Lib.hid (lsOpened (E.kp k1) (Hs.kp k1) ok fn fs fr fe fp fq fo fd fa ft fh fc fx hR)
  have K1 := Lib.hid k1
  clear E Hs ok hR k1
  go_enter Tryz.func28, Tryz.ntmps28
  go_wp2_with (go_at_call 65; (with_reducible refine HK.out.mono ?_); rintro e' w2 hd; rcases hd with ⟨hd, rfl, hk⟩ | ⟨m2, hd, caps, rfl, hk, hc⟩)
  · go_ret
    exact .inl ⟨hd, rfl, Kp.trans K1.out hk⟩
  · go_ret
    exact .inr ⟨m2, hd, caps, rfl, Kp.trans K1.out hk, hc⟩
set_option maxRecDepth 100000 in
set_option maxHeartbeats 2000000 in
theorem lsChange2 (E : EP [0, 3, 4, 8, 13] ads w) (Hs : GS tyL B q m gs va vp w) (ok : OkS m) (fn fs fr fe fp fq fo fd fa ft fh fc : Int) (fx : Nat) (hR : rightF (⟨2, fn, fs, fr, fe, fp, fq, fo, fd, fa, ft, fh, fc, fx⟩ : FX) = true) : Calls Tryz.prog 28 #[.pointer (some ⟨q, 0, none⟩), .agg #[.int .i64 2, .int .i64 fn, .int .i64 fs, .int .i64 fr, .int .i64 fe, .int .i64 fp, .int .i64 fq, .int .i64 fo, .int .i64 fd, .int .i64 fa, .int .i64 ft, .int .i64 fh, .int .i64 fc, .float .f64 fx]] w fun r w' => (doS m (⟨2, fn, fs, fr, fe, fp, fq, fo, fd, fa, ft, fh, fc, fx⟩ : FX) = none ∧ r = .returned .nilFunc ∧ Kp w w') ∨ (∃ m2, doS m (⟨2, fn, fs, fr, fe, fp, fq, fo, fd, fa, ft, fh, fc, fx⟩ : FX) = some m2 ∧ ∃ caps, r = .returned (.func (.func 111) #[] caps) ∧ Kp w w' ∧ Calls Tryz.prog 111 caps w' fun r w3 => r = .returned (.tuple #[]) ∧ ∃ gs' va' vp', GS tyL B q m2 gs' va' vp' w3 ∧ Asd (Ow q gs va vp) (Ow q gs' va' vp') w' w3) := by
  have k1 := kp_alloc w (.cells #[.int .i64 2, .int .i64 fn, .int .i64 fs, .int .i64 fr, .int .i64 fe, .int .i64 fp, .int .i64 fq, .int .i64 fo, .int .i64 fd, .int .i64 fa, .int .i64 ft, .int .i64 fh, .int .i64 fc, .float .f64 fx] 39)
  obtain ⟨f0, f1, f2, f3, f4, f5, f6, f7, f8, f9, f10, f11, f12, f13⟩ := cells14 (MapKept.heap_alloc w (.cells #[.int .i64 2, .int .i64 fn, .int .i64 fs, .int .i64 fr, .int .i64 fe, .int .i64 fp, .int .i64 fq, .int .i64 fo, .int .i64 fd, .int .i64 fa, .int .i64 ft, .int .i64 fh, .int .i64 fc, .float .f64 fx] 39)).1
  obtain ⟨W, hW⟩ : ∃ W, w.alloc (.cells #[.int .i64 2, .int .i64 fn, .int .i64 fs, .int .i64 fr, .int .i64 fe, .int .i64 fp, .int .i64 fq, .int .i64 fo, .int .i64 fd, .int .i64 fa, .int .i64 ft, .int .i64 fh, .int .i64 fc, .float .f64 fx] 39) = W := ⟨_, rfl⟩
  rw [hW] at k1 f0 f1 f2 f3 f4 f5 f6 f7 f8 f9 f10 f11 f12 f13
  have HK := Lib.hid (lsEnrolled (E.kp k1) (Hs.kp k1) ok fn fs fr fe fp fq fo fd fa ft fh fc fx hR)
  have K1 := Lib.hid k1
  clear E Hs ok hR k1
  go_enter Tryz.func28, Tryz.ntmps28
  go_wp2_with (go_at_call 66; (with_reducible refine HK.out.mono ?_); rintro e' w2 hd; rcases hd with ⟨hd, rfl, hk⟩ | ⟨m2, hd, caps, rfl, hk, hc⟩)
  · go_ret
    exact .inl ⟨hd, rfl, Kp.trans K1.out hk⟩
  · go_ret
    exact .inr ⟨m2, hd, caps, rfl, Kp.trans K1.out hk, hc⟩
set_option maxRecDepth 100000 in
set_option maxHeartbeats 2000000 in
theorem lsChange3 (E : EP [0, 3, 4, 8, 13] ads w) (Hs : GS tyL B q m gs va vp w) (ok : OkS m) (fn fs fr fe fp fq fo fd fa ft fh fc : Int) (fx : Nat) (hR : rightF (⟨3, fn, fs, fr, fe, fp, fq, fo, fd, fa, ft, fh, fc, fx⟩ : FX) = true) : Calls Tryz.prog 28 #[.pointer (some ⟨q, 0, none⟩), .agg #[.int .i64 3, .int .i64 fn, .int .i64 fs, .int .i64 fr, .int .i64 fe, .int .i64 fp, .int .i64 fq, .int .i64 fo, .int .i64 fd, .int .i64 fa, .int .i64 ft, .int .i64 fh, .int .i64 fc, .float .f64 fx]] w fun r w' => (doS m (⟨3, fn, fs, fr, fe, fp, fq, fo, fd, fa, ft, fh, fc, fx⟩ : FX) = none ∧ r = .returned .nilFunc ∧ Kp w w') ∨ (∃ m2, doS m (⟨3, fn, fs, fr, fe, fp, fq, fo, fd, fa, ft, fh, fc, fx⟩ : FX) = some m2 ∧ ∃ caps, r = .returned (.func (.func 149) #[] caps) ∧ Kp w w' ∧ Calls Tryz.prog 149 caps w' fun r w3 => r = .returned (.tuple #[]) ∧ ∃ gs' va' vp', GS tyL B q m2 gs' va' vp' w3 ∧ Asd (Ow q gs va vp) (Ow q gs' va' vp') w' w3) := by
  have k1 := kp_alloc w (.cells #[.int .i64 3, .int .i64 fn, .int .i64 fs, .int .i64 fr, .int .i64 fe, .int .i64 fp, .int .i64 fq, .int .i64 fo, .int .i64 fd, .int .i64 fa, .int .i64 ft, .int .i64 fh, .int .i64 fc, .float .f64 fx] 39)
  obtain ⟨f0, f1, f2, f3, f4, f5, f6, f7, f8, f9, f10, f11, f12, f13⟩ := cells14 (MapKept.heap_alloc w (.cells #[.int .i64 3, .int .i64 fn, .int .i64 fs, .int .i64 fr, .int .i64 fe, .int .i64 fp, .int .i64 fq, .int .i64 fo, .int .i64 fd, .int .i64 fa, .int .i64 ft, .int .i64 fh, .int .i64 fc, .float .f64 fx] 39)).1
  obtain ⟨W, hW⟩ : ∃ W, w.alloc (.cells #[.int .i64 3, .int .i64 fn, .int .i64 fs, .int .i64 fr, .int .i64 fe, .int .i64 fp, .int .i64 fq, .int .i64 fo, .int .i64 fd, .int .i64 fa, .int .i64 ft, .int .i64 fh, .int .i64 fc, .float .f64 fx] 39) = W := ⟨_, rfl⟩
  rw [hW] at k1 f0 f1 f2 f3 f4 f5 f6 f7 f8 f9 f10 f11 f12 f13
  have HK := Lib.hid (lsSeated (E.kp k1) (Hs.kp k1) ok fn fs fr fe fp fq fo fd fa ft fh fc fx hR)
  have K1 := Lib.hid k1
  clear E Hs ok hR k1
  go_enter Tryz.func28, Tryz.ntmps28
  go_wp2_with (go_at_call 67; (with_reducible refine HK.out.mono ?_); rintro e' w2 hd; rcases hd with ⟨hd, rfl, hk⟩ | ⟨m2, hd, caps, rfl, hk, hc⟩)
  · go_ret
    exact .inl ⟨hd, rfl, Kp.trans K1.out hk⟩
  · go_ret
    exact .inr ⟨m2, hd, caps, rfl, Kp.trans K1.out hk, hc⟩
set_option maxRecDepth 100000 in
set_option maxHeartbeats 2000000 in
theorem lsChange4 (E : EP [0, 3, 4, 8, 13] ads w) (Hs : GS tyL B q m gs va vp w) (ok : OkS m) (fn fs fr fe fp fq fo fd fa ft fh fc : Int) (fx : Nat) (hR : rightF (⟨4, fn, fs, fr, fe, fp, fq, fo, fd, fa, ft, fh, fc, fx⟩ : FX) = true) : Calls Tryz.prog 28 #[.pointer (some ⟨q, 0, none⟩), .agg #[.int .i64 4, .int .i64 fn, .int .i64 fs, .int .i64 fr, .int .i64 fe, .int .i64 fp, .int .i64 fq, .int .i64 fo, .int .i64 fd, .int .i64 fa, .int .i64 ft, .int .i64 fh, .int .i64 fc, .float .f64 fx]] w fun r w' => (doS m (⟨4, fn, fs, fr, fe, fp, fq, fo, fd, fa, ft, fh, fc, fx⟩ : FX) = none ∧ r = .returned .nilFunc ∧ Kp w w') ∨ (∃ m2, doS m (⟨4, fn, fs, fr, fe, fp, fq, fo, fd, fa, ft, fh, fc, fx⟩ : FX) = some m2 ∧ ∃ caps, r = .returned (.func (.func 114) #[] caps) ∧ Kp w w' ∧ Calls Tryz.prog 114 caps w' fun r w3 => r = .returned (.tuple #[]) ∧ ∃ gs' va' vp', GS tyL B q m2 gs' va' vp' w3 ∧ Asd (Ow q gs va vp) (Ow q gs' va' vp') w' w3) := by
  have k1 := kp_alloc w (.cells #[.int .i64 4, .int .i64 fn, .int .i64 fs, .int .i64 fr, .int .i64 fe, .int .i64 fp, .int .i64 fq, .int .i64 fo, .int .i64 fd, .int .i64 fa, .int .i64 ft, .int .i64 fh, .int .i64 fc, .float .f64 fx] 39)
  obtain ⟨f0, f1, f2, f3, f4, f5, f6, f7, f8, f9, f10, f11, f12, f13⟩ := cells14 (MapKept.heap_alloc w (.cells #[.int .i64 4, .int .i64 fn, .int .i64 fs, .int .i64 fr, .int .i64 fe, .int .i64 fp, .int .i64 fq, .int .i64 fo, .int .i64 fd, .int .i64 fa, .int .i64 ft, .int .i64 fh, .int .i64 fc, .float .f64 fx] 39)).1
  obtain ⟨W, hW⟩ : ∃ W, w.alloc (.cells #[.int .i64 4, .int .i64 fn, .int .i64 fs, .int .i64 fr, .int .i64 fe, .int .i64 fp, .int .i64 fq, .int .i64 fo, .int .i64 fd, .int .i64 fa, .int .i64 ft, .int .i64 fh, .int .i64 fc, .float .f64 fx] 39) = W := ⟨_, rfl⟩
  rw [hW] at k1 f0 f1 f2 f3 f4 f5 f6 f7 f8 f9 f10 f11 f12 f13
  have HK := Lib.hid (lsDecided (E.kp k1) (Hs.kp k1) ok fn fs fr fe fp fq fo fd fa ft fh fc fx hR)
  have K1 := Lib.hid k1
  clear E Hs ok hR k1
  go_enter Tryz.func28, Tryz.ntmps28
  go_wp2_with (go_at_call 68; (with_reducible refine HK.out.mono ?_); rintro e' w2 hd; rcases hd with ⟨hd, rfl, hk⟩ | ⟨m2, hd, caps, rfl, hk, hc⟩)
  · go_ret
    exact .inl ⟨hd, rfl, Kp.trans K1.out hk⟩
  · go_ret
    exact .inr ⟨m2, hd, caps, rfl, Kp.trans K1.out hk, hc⟩
set_option maxRecDepth 100000 in
set_option maxHeartbeats 2000000 in
theorem lsChange5 (E : EP [0, 3, 4, 8, 13] ads w) (Hs : GS tyL B q m gs va vp w) (ok : OkS m) (fn fs fr fe fp fq fo fd fa ft fh fc : Int) (fx : Nat) (hR : rightF (⟨5, fn, fs, fr, fe, fp, fq, fo, fd, fa, ft, fh, fc, fx⟩ : FX) = true) : Calls Tryz.prog 28 #[.pointer (some ⟨q, 0, none⟩), .agg #[.int .i64 5, .int .i64 fn, .int .i64 fs, .int .i64 fr, .int .i64 fe, .int .i64 fp, .int .i64 fq, .int .i64 fo, .int .i64 fd, .int .i64 fa, .int .i64 ft, .int .i64 fh, .int .i64 fc, .float .f64 fx]] w fun r w' => (doS m (⟨5, fn, fs, fr, fe, fp, fq, fo, fd, fa, ft, fh, fc, fx⟩ : FX) = none ∧ r = .returned .nilFunc ∧ Kp w w') ∨ (∃ m2, doS m (⟨5, fn, fs, fr, fe, fp, fq, fo, fd, fa, ft, fh, fc, fx⟩ : FX) = some m2 ∧ ∃ caps, r = .returned (.func (.func 116) #[] caps) ∧ Kp w w' ∧ Calls Tryz.prog 116 caps w' fun r w3 => r = .returned (.tuple #[]) ∧ ∃ gs' va' vp', GS tyL B q m2 gs' va' vp' w3 ∧ Asd (Ow q gs va vp) (Ow q gs' va' vp') w' w3) := by
  have k1 := kp_alloc w (.cells #[.int .i64 5, .int .i64 fn, .int .i64 fs, .int .i64 fr, .int .i64 fe, .int .i64 fp, .int .i64 fq, .int .i64 fo, .int .i64 fd, .int .i64 fa, .int .i64 ft, .int .i64 fh, .int .i64 fc, .float .f64 fx] 39)
  obtain ⟨f0, f1, f2, f3, f4, f5, f6, f7, f8, f9, f10, f11, f12, f13⟩ := cells14 (MapKept.heap_alloc w (.cells #[.int .i64 5, .int .i64 fn, .int .i64 fs, .int .i64 fr, .int .i64 fe, .int .i64 fp, .int .i64 fq, .int .i64 fo, .int .i64 fd, .int .i64 fa, .int .i64 ft, .int .i64 fh, .int .i64 fc, .float .f64 fx] 39)).1
  obtain ⟨W, hW⟩ : ∃ W, w.alloc (.cells #[.int .i64 5, .int .i64 fn, .int .i64 fs, .int .i64 fr, .int .i64 fe, .int .i64 fp, .int .i64 fq, .int .i64 fo, .int .i64 fd, .int .i64 fa, .int .i64 ft, .int .i64 fh, .int .i64 fc, .float .f64 fx] 39) = W := ⟨_, rfl⟩
  rw [hW] at k1 f0 f1 f2 f3 f4 f5 f6 f7 f8 f9 f10 f11 f12 f13
  have HK := Lib.hid (lsForgot (E.kp k1) (Hs.kp k1) ok fn fs fr fe fp fq fo fd fa ft fh fc fx hR)
  have K1 := Lib.hid k1
  clear E Hs ok hR k1
  go_enter Tryz.func28, Tryz.ntmps28
  go_wp2_with (go_at_call 69; (with_reducible refine HK.out.mono ?_); rintro e' w2 hd; rcases hd with ⟨hd, rfl, hk⟩ | ⟨m2, hd, caps, rfl, hk, hc⟩)
  · go_ret
    exact .inl ⟨hd, rfl, Kp.trans K1.out hk⟩
  · go_ret
    exact .inr ⟨m2, hd, caps, rfl, Kp.trans K1.out hk, hc⟩
set_option maxRecDepth 100000 in
set_option maxHeartbeats 2000000 in
theorem lsChange6 (E : EP [0, 3, 4, 8, 13] ads w) (Hs : GS tyL B q m gs va vp w) (ok : OkS m) (fn fs fr fe fp fq fo fd fa ft fh fc : Int) (fx : Nat) (hR : rightF (⟨6, fn, fs, fr, fe, fp, fq, fo, fd, fa, ft, fh, fc, fx⟩ : FX) = true) : Calls Tryz.prog 28 #[.pointer (some ⟨q, 0, none⟩), .agg #[.int .i64 6, .int .i64 fn, .int .i64 fs, .int .i64 fr, .int .i64 fe, .int .i64 fp, .int .i64 fq, .int .i64 fo, .int .i64 fd, .int .i64 fa, .int .i64 ft, .int .i64 fh, .int .i64 fc, .float .f64 fx]] w fun r w' => (doS m (⟨6, fn, fs, fr, fe, fp, fq, fo, fd, fa, ft, fh, fc, fx⟩ : FX) = none ∧ r = .returned .nilFunc ∧ Kp w w') ∨ (∃ m2, doS m (⟨6, fn, fs, fr, fe, fp, fq, fo, fd, fa, ft, fh, fc, fx⟩ : FX) = some m2 ∧ ∃ caps, r = .returned (.func (.func 119) #[] caps) ∧ Kp w w' ∧ Calls Tryz.prog 119 caps w' fun r w3 => r = .returned (.tuple #[]) ∧ ∃ gs' va' vp', GS tyL B q m2 gs' va' vp' w3 ∧ Asd (Ow q gs va vp) (Ow q gs' va' vp') w' w3) := by
  have k1 := kp_alloc w (.cells #[.int .i64 6, .int .i64 fn, .int .i64 fs, .int .i64 fr, .int .i64 fe, .int .i64 fp, .int .i64 fq, .int .i64 fo, .int .i64 fd, .int .i64 fa, .int .i64 ft, .int .i64 fh, .int .i64 fc, .float .f64 fx] 39)
  obtain ⟨f0, f1, f2, f3, f4, f5, f6, f7, f8, f9, f10, f11, f12, f13⟩ := cells14 (MapKept.heap_alloc w (.cells #[.int .i64 6, .int .i64 fn, .int .i64 fs, .int .i64 fr, .int .i64 fe, .int .i64 fp, .int .i64 fq, .int .i64 fo, .int .i64 fd, .int .i64 fa, .int .i64 ft, .int .i64 fh, .int .i64 fc, .float .f64 fx] 39)).1
  obtain ⟨W, hW⟩ : ∃ W, w.alloc (.cells #[.int .i64 6, .int .i64 fn, .int .i64 fs, .int .i64 fr, .int .i64 fe, .int .i64 fp, .int .i64 fq, .int .i64 fo, .int .i64 fd, .int .i64 fa, .int .i64 ft, .int .i64 fh, .int .i64 fc, .float .f64 fx] 39) = W := ⟨_, rfl⟩
  rw [hW] at k1 f0 f1 f2 f3 f4 f5 f6 f7 f8 f9 f10 f11 f12 f13
  have HK := Lib.hid (lsJoined (E.kp k1) (Hs.kp k1) ok fn fs fr fe fp fq fo fd fa ft fh fc fx hR)
  have K1 := Lib.hid k1
  clear E Hs ok hR k1
  go_enter Tryz.func28, Tryz.ntmps28
  go_wp2_with (go_at_call 70; (with_reducible refine HK.out.mono ?_); rintro e' w2 hd; rcases hd with ⟨hd, rfl, hk⟩ | ⟨m2, hd, caps, rfl, hk, hc⟩)
  · go_ret
    exact .inl ⟨hd, rfl, Kp.trans K1.out hk⟩
  · go_ret
    exact .inr ⟨m2, hd, caps, rfl, Kp.trans K1.out hk, hc⟩
set_option maxRecDepth 100000 in
set_option maxHeartbeats 2000000 in
theorem lsChange7 (E : EP [0, 3, 4, 8, 13] ads w) (Hs : GS tyL B q m gs va vp w) (ok : OkS m) (fn fs fr fe fp fq fo fd fa ft fh fc : Int) (fx : Nat) (hR : rightF (⟨7, fn, fs, fr, fe, fp, fq, fo, fd, fa, ft, fh, fc, fx⟩ : FX) = true) : Calls Tryz.prog 28 #[.pointer (some ⟨q, 0, none⟩), .agg #[.int .i64 7, .int .i64 fn, .int .i64 fs, .int .i64 fr, .int .i64 fe, .int .i64 fp, .int .i64 fq, .int .i64 fo, .int .i64 fd, .int .i64 fa, .int .i64 ft, .int .i64 fh, .int .i64 fc, .float .f64 fx]] w fun r w' => (doS m (⟨7, fn, fs, fr, fe, fp, fq, fo, fd, fa, ft, fh, fc, fx⟩ : FX) = none ∧ r = .returned .nilFunc ∧ Kp w w') ∨ (∃ m2, doS m (⟨7, fn, fs, fr, fe, fp, fq, fo, fd, fa, ft, fh, fc, fx⟩ : FX) = some m2 ∧ ∃ caps, r = .returned (.func (.func 120) #[] caps) ∧ Kp w w' ∧ Calls Tryz.prog 120 caps w' fun r w3 => r = .returned (.tuple #[]) ∧ ∃ gs' va' vp', GS tyL B q m2 gs' va' vp' w3 ∧ Asd (Ow q gs va vp) (Ow q gs' va' vp') w' w3) := by
  have k1 := kp_alloc w (.cells #[.int .i64 7, .int .i64 fn, .int .i64 fs, .int .i64 fr, .int .i64 fe, .int .i64 fp, .int .i64 fq, .int .i64 fo, .int .i64 fd, .int .i64 fa, .int .i64 ft, .int .i64 fh, .int .i64 fc, .float .f64 fx] 39)
  obtain ⟨f0, f1, f2, f3, f4, f5, f6, f7, f8, f9, f10, f11, f12, f13⟩ := cells14 (MapKept.heap_alloc w (.cells #[.int .i64 7, .int .i64 fn, .int .i64 fs, .int .i64 fr, .int .i64 fe, .int .i64 fp, .int .i64 fq, .int .i64 fo, .int .i64 fd, .int .i64 fa, .int .i64 ft, .int .i64 fh, .int .i64 fc, .float .f64 fx] 39)).1
  obtain ⟨W, hW⟩ : ∃ W, w.alloc (.cells #[.int .i64 7, .int .i64 fn, .int .i64 fs, .int .i64 fr, .int .i64 fe, .int .i64 fp, .int .i64 fq, .int .i64 fo, .int .i64 fd, .int .i64 fa, .int .i64 ft, .int .i64 fh, .int .i64 fc, .float .f64 fx] 39) = W := ⟨_, rfl⟩
  rw [hW] at k1 f0 f1 f2 f3 f4 f5 f6 f7 f8 f9 f10 f11 f12 f13
  have HK := Lib.hid (lsPlaced (E.kp k1) (Hs.kp k1) ok fn fs fr fe fp fq fo fd fa ft fh fc fx hR)
  have K1 := Lib.hid k1
  clear E Hs ok hR k1
  go_enter Tryz.func28, Tryz.ntmps28
  go_wp2_with (go_at_call 71; (with_reducible refine HK.out.mono ?_); rintro e' w2 hd; rcases hd with ⟨hd, rfl, hk⟩ | ⟨m2, hd, caps, rfl, hk, hc⟩)
  · go_ret
    exact .inl ⟨hd, rfl, Kp.trans K1.out hk⟩
  · go_ret
    exact .inr ⟨m2, hd, caps, rfl, Kp.trans K1.out hk, hc⟩
set_option maxRecDepth 100000 in
set_option maxHeartbeats 2000000 in
theorem lsChange8 (E : EP [0, 3, 4, 8, 13] ads w) (Hs : GS tyL B q m gs va vp w) (ok : OkS m) (fn fs fr fe fp fq fo fd fa ft fh fc : Int) (fx : Nat) (hR : rightF (⟨8, fn, fs, fr, fe, fp, fq, fo, fd, fa, ft, fh, fc, fx⟩ : FX) = true) : Calls Tryz.prog 28 #[.pointer (some ⟨q, 0, none⟩), .agg #[.int .i64 8, .int .i64 fn, .int .i64 fs, .int .i64 fr, .int .i64 fe, .int .i64 fp, .int .i64 fq, .int .i64 fo, .int .i64 fd, .int .i64 fa, .int .i64 ft, .int .i64 fh, .int .i64 fc, .float .f64 fx]] w fun r w' => (doS m (⟨8, fn, fs, fr, fe, fp, fq, fo, fd, fa, ft, fh, fc, fx⟩ : FX) = none ∧ r = .returned .nilFunc ∧ Kp w w') ∨ (∃ m2, doS m (⟨8, fn, fs, fr, fe, fp, fq, fo, fd, fa, ft, fh, fc, fx⟩ : FX) = some m2 ∧ ∃ caps, r = .returned (.func (.func 149) #[] caps) ∧ Kp w w' ∧ Calls Tryz.prog 149 caps w' fun r w3 => r = .returned (.tuple #[]) ∧ ∃ gs' va' vp', GS tyL B q m2 gs' va' vp' w3 ∧ Asd (Ow q gs va vp) (Ow q gs' va' vp') w' w3) := by
  have k1 := kp_alloc w (.cells #[.int .i64 8, .int .i64 fn, .int .i64 fs, .int .i64 fr, .int .i64 fe, .int .i64 fp, .int .i64 fq, .int .i64 fo, .int .i64 fd, .int .i64 fa, .int .i64 ft, .int .i64 fh, .int .i64 fc, .float .f64 fx] 39)
  obtain ⟨f0, f1, f2, f3, f4, f5, f6, f7, f8, f9, f10, f11, f12, f13⟩ := cells14 (MapKept.heap_alloc w (.cells #[.int .i64 8, .int .i64 fn, .int .i64 fs, .int .i64 fr, .int .i64 fe, .int .i64 fp, .int .i64 fq, .int .i64 fo, .int .i64 fd, .int .i64 fa, .int .i64 ft, .int .i64 fh, .int .i64 fc, .float .f64 fx] 39)).1
  obtain ⟨W, hW⟩ : ∃ W, w.alloc (.cells #[.int .i64 8, .int .i64 fn, .int .i64 fs, .int .i64 fr, .int .i64 fe, .int .i64 fp, .int .i64 fq, .int .i64 fo, .int .i64 fd, .int .i64 fa, .int .i64 ft, .int .i64 fh, .int .i64 fc, .float .f64 fx] 39) = W := ⟨_, rfl⟩
  rw [hW] at k1 f0 f1 f2 f3 f4 f5 f6 f7 f8 f9 f10 f11 f12 f13
  have HK := Lib.hid (lsTurned (E.kp k1) (Hs.kp k1) ok fn fs fr fe fp fq fo fd fa ft fh fc fx hR)
  have K1 := Lib.hid k1
  clear E Hs ok hR k1
  go_enter Tryz.func28, Tryz.ntmps28
  go_wp2_with (go_at_call 72; (with_reducible refine HK.out.mono ?_); rintro e' w2 hd; rcases hd with ⟨hd, rfl, hk⟩ | ⟨m2, hd, caps, rfl, hk, hc⟩)
  · go_ret
    exact .inl ⟨hd, rfl, Kp.trans K1.out hk⟩
  · go_ret
    exact .inr ⟨m2, hd, caps, rfl, Kp.trans K1.out hk, hc⟩
set_option maxRecDepth 100000 in
theorem lsApply_no (C : FacC ads w) (E : EP [0, 3, 4, 8, 13] ads w) (Hs : GS tyL B q m gs va vp w) (f : FX) (hwf : f.wf) (hR : rightF f = false) : Calls Tryz.prog 11 #[.pointer (some ⟨q, 0, none⟩), .agg f.cells] w fun r w' => r = .returned (errI ads (applyQ m f).1) ∧ ∃ gs' va' vp', GS tyL B q (applyQ m f).2 gs' va' vp' w' ∧ Asd (Ow q gs va vp) (Ow q gs' va' vp') w w' := by
  have hri := fun w1 (hk : Kp w w1) => C.right w1 hk f hwf
  rw [applyQ_bad hR]
  rw [hR] at hri
  have ce : w.cell? ⟨3, 0, none⟩ = some (errI ads 4) := E.cell 3 (by decide)
  obtain ⟨er, her⟩ : ∃ x, errI ads 4 = x := ⟨_, rfl⟩
  rw [show ((4, m) : Int × StM).1 = 4 from rfl, her]
  rw [her] at ce
  obtain ⟨fk, fn, fs, fr, fe, fp, fq, fo, fd, fa, ft, fh, fc, fx⟩ := f
  dsimp only [FX.cells] at hri ⊢
  have HRI := Lib.hid hri
  have HS := Lib.hid Hs
  have k1 := kp_alloc w (.cells #[.int .i64 fk, .int .i64 fn, .int .i64 fs, .int .i64 fr, .int .i64 fe, .int .i64 fp, .int .i64 fq, .int .i64 fo, .int .i64 fd, .int .i64 fa, .int .i64 ft, .int .i64 fh, .int .i64 fc, .float .f64 fx] 39)
  obtain ⟨f0, f1, f2, f3, f4, f5, f6, f7, f8, f9, f10, f11, f12, f13⟩ := cells14 (MapKept.heap_alloc w (.cells #[.int .i64 fk, .int .i64 fn, .int .i64 fs, .int .i64 fr, .int .i64 fe, .int .i64 fp, .int .i64 fq, .int .i64 fo, .int .i64 fd, .int .i64 fa, .int .i64 ft, .int .i64 fh, .int .i64 fc, .float .f64 fx] 39)).1
  obtain ⟨W, hW⟩ : ∃ W, w.alloc (.cells #[.int .i64 fk, .int .i64 fn, .int .i64 fs, .int .i64 fr, .int .i64 fe, .int .i64 fp, .int .i64 fq, .int .i64 fo, .int .i64 fd, .int .i64 fa, .int .i64 ft, .int .i64 fh, .int .i64 fc, .float .f64 fx] 39) = W := ⟨_, rfl⟩
  rw [hW] at k1 f0 f1 f2 f3 f4 f5 f6 f7 f8 f9 f10 f11 f12 f13
  have K1 := Lib.hid k1
  have CE := Lib.hid ce
  clear C E Hs hwf hR hri k1 ce her
  go_enter Tryz.func11, Tryz.ntmps11
  go_wp2_with (go_at_call 27; (with_reducible refine (HRI.out _ K1.out).mono ?_); rintro e' w1 ⟨rfl, hk1⟩; have ce := kp_cell (Kp.trans K1.out hk1) CE.out; have K2 := Lib.hid (Kp.trans K1.out hk1); clear hk1)
  go_ret
  exact ⟨rfl, gs, va, vp, HS.out.kp K2.out, Asd.of_kp _ K2.out⟩
set_option maxRecDepth 100000 in
set_option maxHeartbeats 2000000 in
theorem lsApply1 (C : FacC ads w) (E : EP [0, 3, 4, 8, 13] ads w) (Hs : GS tyL B q m gs va vp w) (ok : OkS m) (fn fs fr fe fp fq fo fd fa ft fh fc : Int) (fx : Nat) (hR : rightF (⟨1, fn, fs, fr, fe, fp, fq, fo, fd, fa, ft, fh, fc, fx⟩ : FX) = true) : Calls Tryz.prog 11 #[.pointer (some ⟨q, 0, none⟩), .agg #[.int .i64 1, .int .i64 fn, .int .i64 fs, .int .i64 fr, .int .i64 fe, .int .i64 fp, .int .i64 fq, .int .i64 fo, .int .i64 fd, .int .i64 fa, .int .i64 ft, .int .i64 fh, .int .i64 fc, .float .f64 fx]] w fun r w' => r = .returned (errI ads (applyQ m (⟨1, fn, fs, fr, fe, fp, fq, fo, fd, fa, ft, fh, fc, fx⟩ : FX)).1) ∧ ∃ gs' va' vp', GS tyL B q (applyQ m (⟨1, fn, fs, fr, fe, fp, fq, fo, fd, fa, ft, fh, fc, fx⟩ : FX)).2 gs' va' vp' w' ∧ Asd (Ow q gs va vp) (Ow q gs' va' vp') w w' := by
  have hwf : FX.wf (⟨1, fn, fs, fr, fe, fp, fq, fo, fd, fa, ft, fh, fc, fx⟩ : FX) := right_wf hR
  have hri := fun w1 (hk : Kp w w1) => C.right w1 hk (⟨1, fn, fs, fr, fe, fp, fq, fo, fd, fa, ft, fh, fc, fx⟩ : FX) hwf
  rw [hR] at hri
  dsimp only [FX.cells] at hri
  have HRI := Lib.hid hri
  have ce : w.cell? ⟨8, 0, none⟩ = some (errI ads 9) := E.cell 8 (by decide)
  have HCH := Lib.hid (fun w1 (hk : Kp w w1) => lsChange1 (E.kp hk) (Hs.kp hk) ok fn fs fr fe fp fq fo fd fa ft fh fc fx hR)
  obtain ⟨AQ, hAQ⟩ : ∃ x, applyQ m (⟨1, fn, fs, fr, fe, fp, fq, fo, fd, fa, ft, fh, fc, fx⟩ : FX) = x := ⟨_, rfl⟩
  rw [hAQ]
  have hno : doS m (⟨1, fn, fs, fr, fe, fp, fq, fo, fd, fa, ft, fh, fc, fx⟩ : FX) = none → AQ = (9, m) := fun h => by rw [← hAQ]; exact applyQ_none hR h
  have hyes : ∀ m2, doS m (⟨1, fn, fs, fr, fe, fp, fq, fo, fd, fa, ft, fh, fc, fx⟩ : FX) = some m2 → AQ = (0, m2) := fun m2 h => by rw [← hAQ]; exact applyQ_some hR h
  have HNO := Lib.hid hno
  have HYES := Lib.hid hyes
  have HS := Lib.hid Hs
  have k1 := kp_alloc w (.cells #[.int .i64 1, .int .i64 fn, .int .i64 fs, .int .i64 fr, .int .i64 fe, .int .i64 fp, .int .i64 fq, .int .i64 fo, .int .i64 fd, .int .i64 fa, .int .i64 ft, .int .i64 fh, .int .i64 fc, .float .f64 fx] 39)
  obtain ⟨f0, f1, f2, f3, f4, f5, f6, f7, f8, f9, f10, f11, f12, f13⟩ := cells14 (MapKept.heap_alloc w (.cells #[.int .i64 1, .int .i64 fn, .int .i64 fs, .int .i64 fr, .int .i64 fe, .int .i64 fp, .int .i64 fq, .int .i64 fo, .int .i64 fd, .int .i64 fa, .int .i64 ft, .int .i64 fh, .int .i64 fc, .float .f64 fx] 39)).1
  obtain ⟨W, hW⟩ : ∃ W, w.alloc (.cells #[.int .i64 1, .int .i64 fn, .int .i64 fs, .int .i64 fr, .int .i64 fe, .int .i64 fp, .int .i64 fq, .int .i64 fo, .int .i64 fd, .int .i64 fa, .int .i64 ft, .int .i64 fh, .int .i64 fc, .float .f64 fx] 39) = W := ⟨_, rfl⟩
  rw [hW] at k1 f0 f1 f2 f3 f4 f5 f6 f7 f8 f9 f10 f11 f12 f13
  have K1 := Lib.hid k1
  obtain ⟨er, her⟩ : ∃ x, errI ads 9 = x := ⟨_, rfl⟩
  rw [her] at ce
  have HER := Lib.hid her
  have CE := Lib.hid ce
  have hnn := eq_nilF
  have hnf := eq_funF
  clear C E Hs ok hwf hR hri hAQ hno hyes k1 her ce
  go_enter Tryz.func11, Tryz.ntmps11
  go_wp2_with (first | (go_at_call 27; (with_reducible refine (HRI.out _ K1.out).mono ?_); rintro e' w1 ⟨rfl, hk1⟩; have K2 := Lib.hid (Kp.trans K1.out hk1); have f0 := kp_cell hk1 f0; have f1 := kp_cell hk1 f1; have f2 := kp_cell hk1 f2; have f3 := kp_cell hk1 f3; have f4 := kp_cell hk1 f4; have f5 := kp_cell hk1 f5; have f6 := kp_cell hk1 f6; have f7 := kp_cell hk1 f7; have f8 := kp_cell hk1 f8; have f9 := kp_cell hk1 f9; have f10 := kp_cell hk1 f10; have f11 := kp_cell hk1 f11; have f12 := kp_cell hk1 f12; have f13 := kp_cell hk1 f13; clear hk1) | (go_at_call 28; (with_reducible refine (HCH.out _ K2.out).mono ?_); rintro e' w2 hd; rcases hd with ⟨hd, rfl, hk⟩ | ⟨m2, hd, caps, rfl, hk, hc⟩ <;> (have K3 := Lib.hid (Kp.trans K2.out hk); have ce := kp_cell K3.out CE.out; have HD := Lib.hid hd; clear hd hk)))
  · go_wp2
    go_ret
    rw [HNO.out HD.out]
    exact ⟨congrArg Ending.returned HER.out.symm, gs, va, vp, HS.out.kp K3.out, Asd.of_kp _ K3.out⟩
  · have HC := Lib.hid hc
    clear hc
    go_wp2_with (go_at_call 107; (with_reducible refine HC.out.mono ?_); rintro e' w5 ⟨rfl, gs2, va2, vp2, hg, ha⟩; have G5 := Lib.hid hg; have A5 := Lib.hid ha; clear hg ha)
    go_ret
    rw [HYES.out m2 HD.out]
    exact ⟨rfl, gs2, va2, vp2, G5.out, (Asd.of_kp _ K3.out).trans A5.out⟩
set_option maxRecDepth 100000 in
set_option maxHeartbeats 2000000 in
theorem lsApply2 (C : FacC ads w) (E : EP [0, 3, 4, 8, 13] ads w) (Hs : GS tyL B q m gs va vp w) (ok : OkS m) (fn fs fr fe fp fq fo fd fa ft fh fc : Int) (fx : Nat) (hR : rightF (⟨2, fn, fs, fr, fe, fp, fq, fo, fd, fa, ft, fh, fc, fx⟩ : FX) = true) : Calls Tryz.prog 11 #[.pointer (some ⟨q, 0, none⟩), .agg #[.int .i64 2, .int .i64 fn, .int .i64 fs, .int .i64 fr, .int .i64 fe, .int .i64 fp, .int .i64 fq, .int .i64 fo, .int .i64 fd, .int .i64 fa, .int .i64 ft, .int .i64 fh, .int .i64 fc, .float .f64 fx]] w fun r w' => r = .returned (errI ads (applyQ m (⟨2, fn, fs, fr, fe, fp, fq, fo, fd, fa, ft, fh, fc, fx⟩ : FX)).1) ∧ ∃ gs' va' vp', GS tyL B q (applyQ m (⟨2, fn, fs, fr, fe, fp, fq, fo, fd, fa, ft, fh, fc, fx⟩ : FX)).2 gs' va' vp' w' ∧ Asd (Ow q gs va vp) (Ow q gs' va' vp') w w' := by
  have hwf : FX.wf (⟨2, fn, fs, fr, fe, fp, fq, fo, fd, fa, ft, fh, fc, fx⟩ : FX) := right_wf hR
  have hri := fun w1 (hk : Kp w w1) => C.right w1 hk (⟨2, fn, fs, fr, fe, fp, fq, fo, fd, fa, ft, fh, fc, fx⟩ : FX) hwf
  rw [hR] at hri
  dsimp only [FX.cells] at hri
  have HRI := Lib.hid hri
  have ce : w.cell? ⟨8, 0, none⟩ = some (errI ads 9) := E.cell 8 (by decide)
  have HCH := Lib.hid (fun w1 (hk : Kp w w1) => lsChange2 (E.kp hk) (Hs.kp hk) ok fn fs fr fe fp fq fo fd fa ft fh fc fx hR)
  obtain ⟨AQ, hAQ⟩ : ∃ x, applyQ m (⟨2, fn, fs, fr, fe, fp, fq, fo, fd, fa, ft, fh, fc, fx⟩ : FX) = x := ⟨_, rfl⟩
  rw [hAQ]
  have hno : doS m (⟨2, fn, fs, fr, fe, fp, fq, fo, fd, fa, ft, fh, fc, fx⟩ : FX) = none → AQ = (9, m) := fun h => by rw [← hAQ]; exact applyQ_none hR h
  have hyes : ∀ m2, doS m (⟨2, fn, fs, fr, fe, fp, fq, fo, fd, fa, ft, fh, fc, fx⟩ : FX) = some m2 → AQ = (0, m2) := fun m2 h => by rw [← hAQ]; exact applyQ_some hR h
  have HNO := Lib.hid hno
  have HYES := Lib.hid hyes
  have HS := Lib.hid Hs
  have k1 := kp_alloc w (.cells #[.int .i64 2, .int .i64 fn, .int .i64 fs, .int .i64 fr, .int .i64 fe, .int .i64 fp, .int .i64 fq, .int .i64 fo, .int .i64 fd, .int .i64 fa, .int .i64 ft, .int .i64 fh, .int .i64 fc, .float .f64 fx] 39)
  obtain ⟨f0, f1, f2, f3, f4, f5, f6, f7, f8, f9, f10, f11, f12, f13⟩ := cells14 (MapKept.heap_alloc w (.cells #[.int .i64 2, .int .i64 fn, .int .i64 fs, .int .i64 fr, .int .i64 fe, .int .i64 fp, .int .i64 fq, .int .i64 fo, .int .i64 fd, .int .i64 fa, .int .i64 ft, .int .i64 fh, .int .i64 fc, .float .f64 fx] 39)).1
  obtain ⟨W, hW⟩ : ∃ W, w.alloc (.cells #[.int .i64 2, .int .i64 fn, .int .i64 fs, .int .i64 fr, .int .i64 fe, .int .i64 fp, .int .i64 fq, .int .i64 fo, .int .i64 fd, .int .i64 fa, .int .i64 ft, .int .i64 fh, .int .i64 fc, .float .f64 fx] 39) = W := ⟨_, rfl⟩
  rw [hW] at k1 f0 f1 f2 f3 f4 f5 f6 f7 f8 f9 f10 f11 f12 f13
  have K1 := Lib.hid k1
  obtain ⟨er, her⟩ : ∃ x, errI ads 9 = x := ⟨_, rfl⟩
  rw [her] at ce
  have HER := Lib.hid her
  have CE := Lib.hid ce
  have hnn := eq_nilF
  have hnf := eq_funF
  clear C E Hs ok hwf hR hri hAQ hno hyes k1 her ce
  go_enter Tryz.func11, Tryz.ntmps11
  go_wp2_with (first | (go_at_call 27; (with_reducible refine (HRI.out _ K1.out).mono ?_); rintro e' w1 ⟨rfl, hk1⟩; have K2 := Lib.hid (Kp.trans K1.out hk1); have f0 := kp_cell hk1 f0; have f1 := kp_cell hk1 f1; have f2 := kp_cell hk1 f2; have f3 := kp_cell hk1 f3; have f4 := kp_cell hk1 f4; have f5 := kp_cell hk1 f5; have f6 := kp_cell hk1 f6; have f7 := kp_cell hk1 f7; have f8 := kp_cell hk1 f8; have f9 := kp_cell hk1 f9; have f10 := kp_cell hk1 f10; have f11 := kp_cell hk1 f11; have f12 := kp_cell hk1 f12; have f13 := kp_cell hk1 f13; clear hk1) | (go_at_call 28; (with_reducible refine (HCH.out _ K2.out).mono ?_); rintro e' w2 hd; rcases hd with ⟨hd, rfl, hk⟩ | ⟨m2, hd, caps, rfl, hk, hc⟩ <;> (have K3 := Lib.hid (Kp.trans K2.out hk); have ce := kp_cell K3.out CE.out; have HD := Lib.hid hd; clear hd hk)))
  · go_wp2
    go_ret
    rw [HNO.out HD.out]
    exact ⟨congrArg Ending.returned HER.out.symm, gs, va, vp, HS.out.kp K3.out, Asd.of_kp _ K3.out⟩
  · have HC := Lib.hid hc
    clear hc
    go_wp2_with (go_at_call 111; (with_reducible refine HC.out.mono ?_); rintro e' w5 ⟨rfl, gs2, va2, vp2, hg, ha⟩; have G5 := Lib.hid hg; have A5 := Lib.hid ha; clear hg ha)
    go_ret
    rw [HYES.out m2 HD.out]
    exact ⟨rfl, gs2, va2, vp2, G5.out, (Asd.of_kp _ K3.out).trans A5.out⟩
set_option maxRecDepth 100000 in
set_option maxHeartbeats 2000000 in
theorem lsApply3 (C : FacC ads w) (E : EP [0, 3, 4, 8, 13] ads w) (Hs : GS tyL B q m gs va vp w) (ok : OkS m) (fn fs fr fe fp fq fo fd fa ft fh fc : Int) (fx : Nat) (hR : rightF (⟨3, fn, fs, fr, fe, fp, fq, fo, fd, fa, ft, fh, fc, fx⟩ : FX) = true) : Calls Tryz.prog 11 #[.pointer (some ⟨q, 0, none⟩), .agg #[.int .i64 3, .int .i64 fn, .int .i64 fs, .int .i64 fr, .int .i64 fe, .int .i64 fp, .int .i64 fq, .int .i64 fo, .int .i64 fd, .int .i64 fa, .int .i64 ft, .int .i64 fh, .int .i64 fc, .float .f64 fx]] w fun r w' => r = .returned (errI ads (applyQ m (⟨3, fn, fs, fr, fe, fp, fq, fo, fd, fa, ft, fh, fc, fx⟩ : FX)).1) ∧ ∃ gs' va' vp', GS tyL B q (applyQ m (⟨3, fn, fs, fr, fe, fp, fq, fo, fd, fa, ft, fh, fc, fx⟩ : FX)).2 gs' va' vp' w' ∧ Asd (Ow q gs va vp) (Ow q gs' va' vp') w w' := by
  have hwf : FX.wf (⟨3, fn, fs, fr, fe, fp, fq, fo, fd, fa, ft, fh, fc, fx⟩ : FX) := right_wf hR
  have hri := fun w1 (hk : Kp w w1) => C.right w1 hk (⟨3, fn, fs, fr, fe, fp, fq, fo, fd, fa, ft, fh, fc, fx⟩ : FX) hwf
  rw [hR] at hri
  dsimp only [FX.cells] at hri
  have HRI := Lib.hid hri
  have ce : w.cell? ⟨8, 0, none⟩ = some (errI ads 9) := E.cell 8 (by decide)
  have HCH := Lib.hid (fun w1 (hk : Kp w w1) => lsChange3 (E.kp hk) (Hs.kp hk) ok fn fs fr fe fp fq fo fd fa ft fh fc fx hR)
  obtain ⟨AQ, hAQ⟩ : ∃ x, applyQ m (⟨3, fn, fs, fr, fe, fp, fq, fo, fd, fa, ft, fh, fc, fx⟩ : FX) = x := ⟨_, rfl⟩
  rw [hAQ]
  have hno : doS m (⟨3, fn, fs, fr, fe, fp, fq, fo, fd, fa, ft, fh, fc, fx⟩ : FX) = none → AQ = (9, m) := fun h => by rw [← hAQ]; exact applyQ_none hR h
  have hyes : ∀ m2, doS m (⟨3, fn, fs, fr, fe, fp, fq, fo, fd, fa, ft, fh, fc, fx⟩ : FX) = some m2 → AQ = (0, m2) := fun m2 h => by rw [← hAQ]; exact applyQ_some hR h
  have HNO := Lib.hid hno
  have HYES := Lib.hid hyes
  have HS := Lib.hid Hs
  have k1 := kp_alloc w (.cells #[.int .i64 3, .int .i64 fn, .int .i64 fs, .int .i64 fr, .int .i64 fe, .int .i64 fp, .int .i64 fq, .int .i64 fo, .int .i64 fd, .int .i64 fa, .int .i64 ft, .int .i64 fh, .int .i64 fc, .float .f64 fx] 39)
  obtain ⟨f0, f1, f2, f3, f4, f5, f6, f7, f8, f9, f10, f11, f12, f13⟩ := cells14 (MapKept.heap_alloc w (.cells #[.int .i64 3, .int .i64 fn, .int .i64 fs, .int .i64 fr, .int .i64 fe, .int .i64 fp, .int .i64 fq, .int .i64 fo, .int .i64 fd, .int .i64 fa, .int .i64 ft, .int .i64 fh, .int .i64 fc, .float .f64 fx] 39)).1
  obtain ⟨W, hW⟩ : ∃ W, w.alloc (.cells #[.int .i64 3, .int .i64 fn, .int .i64 fs, .int .i64 fr, .int .i64 fe, .int .i64 fp, .int .i64 fq, .int .i64 fo, .int .i64 fd, .int .i64 fa, .int .i64 ft, .int .i64 fh, .int .i64 fc, .float .f64 fx] 39) = W := ⟨_, rfl⟩
  rw [hW] at k1 f0 f1 f2 f3 f4 f5 f6 f7 f8 f9 f10 f11 f12 f13
  have K1 := Lib.hid k1
  obtain ⟨er, her⟩ : ∃ x, errI ads 9 = x := ⟨_, rfl⟩
  rw [her] at ce
  have HER := Lib.hid her
  have CE := Lib.hid ce
  have hnn := eq_nilF
  have hnf := eq_funF
  clear C E Hs ok hwf hR hri hAQ hno hyes k1 her ce
  go_enter Tryz.func11, Tryz.ntmps11
  go_wp2_with (first | (go_at_call 27; (with_reducible refine (HRI.out _ K1.out).mono ?_); rintro e' w1 ⟨rfl, hk1⟩; have K2 := Lib.hid (Kp.trans K1.out hk1); have f0 := kp_cell hk1 f0; have f1 := kp_cell hk1 f1; have f2 := kp_cell hk1 f2; have f3 := kp_cell hk1 f3; have f4 := kp_cell hk1 f4; have f5 := kp_cell hk1 f5; have f6 := kp_cell hk1 f6; have f7 := kp_cell hk1 f7; have f8 := kp_cell hk1 f8; have f9 := kp_cell hk1 f9; have f10 := kp_cell hk1 f10; have f11 := kp_cell hk1 f11; have f12 := kp_cell hk1 f12; have f13 := kp_cell hk1 f13; clear hk1) | (go_at_call 28; (with_reducible refine (HCH.out _ K2.out).mono ?_); rintro e' w2 hd; rcases hd with ⟨hd, rfl, hk⟩ | ⟨m2, hd, caps, rfl, hk, hc⟩ <;> (have K3 := Lib.hid (Kp.trans K2.out hk); have ce := kp_cell K3.out CE.out; have HD := Lib.hid hd; clear hd hk)))
  · go_wp2
    go_ret
    rw [HNO.out HD.out]
    exact ⟨congrArg Ending.returned HER.out.symm, gs, va, vp, HS.out.kp K3.out, Asd.of_kp _ K3.out⟩
  · have HC := Lib.hid hc
    clear hc
    go_wp2_with (go_at_call 149; (with_reducible refine HC.out.mono ?_); rintro e' w5 ⟨rfl, gs2, va2, vp2, hg, ha⟩; have G5 := Lib.hid hg; have A5 := Lib.hid ha; clear hg ha)
    go_ret
    rw [HYES.out m2 HD.out]
    exact ⟨rfl, gs2, va2, vp2, G5.out, (Asd.of_kp _ K3.out).trans A5.out⟩
set_option maxRecDepth 100000 in
set_option maxHeartbeats 2000000 in
theorem lsApply4 (C : FacC ads w) (E : EP [0, 3, 4, 8, 13] ads w) (Hs : GS tyL B q m gs va vp w) (ok : OkS m) (fn fs fr fe fp fq fo fd fa ft fh fc : Int) (fx : Nat) (hR : rightF (⟨4, fn, fs, fr, fe, fp, fq, fo, fd, fa, ft, fh, fc, fx⟩ : FX) = true) : Calls Tryz.prog 11 #[.pointer (some ⟨q, 0, none⟩), .agg #[.int .i64 4, .int .i64 fn, .int .i64 fs, .int .i64 fr, .int .i64 fe, .int .i64 fp, .int .i64 fq, .int .i64 fo, .int .i64 fd, .int .i64 fa, .int .i64 ft, .int .i64 fh, .int .i64 fc, .float .f64 fx]] w fun r w' => r = .returned (errI ads (applyQ m (⟨4, fn, fs, fr, fe, fp, fq, fo, fd, fa, ft, fh, fc, fx⟩ : FX)).1) ∧ ∃ gs' va' vp', GS tyL B q (applyQ m (⟨4, fn, fs, fr, fe, fp, fq, fo, fd, fa, ft, fh, fc, fx⟩ : FX)).2 gs' va' vp' w' ∧ Asd (Ow q gs va vp) (Ow q gs' va' vp') w w' := by
  have hwf : FX.wf (⟨4, fn, fs, fr, fe, fp, fq, fo, fd, fa, ft, fh, fc, fx⟩ : FX) := right_wf hR
  have hri := fun w1 (hk : Kp w w1) => C.right w1 hk (⟨4, fn, fs, fr, fe, fp, fq, fo, fd, fa, ft, fh, fc, fx⟩ : FX) hwf
  rw [hR] at hri
  dsimp only [FX.cells] at hri
  have HRI := Lib.hid hri
  have ce : w.cell? ⟨8, 0, none⟩ = some (errI ads 9) := E.cell 8 (by decide)
  have HCH := Lib.hid (fun w1 (hk : Kp w w1) => lsChange4 (E.kp hk) (Hs.kp hk) ok fn fs fr fe fp fq fo fd fa ft fh fc fx hR)
  obtain ⟨AQ, hAQ⟩ : ∃ x, applyQ m (⟨4, fn, fs, fr, fe, fp, fq, fo, fd, fa, ft, fh, fc, fx⟩ : FX) = x := ⟨_, rfl⟩
  rw [hAQ]
  have hno : doS m (⟨4, fn, fs, fr, fe, fp, fq, fo, fd, fa, ft, fh, fc, fx⟩ : FX) = none → AQ = (9, m) := fun h => by rw [← hAQ]; exact applyQ_none hR h
  have hyes : ∀ m2, doS m (⟨4, fn, fs, fr, fe, fp, fq, fo, fd, fa, ft, fh, fc, fx⟩ : FX) = some m2 → AQ = (0, m2) := fun m2 h => by rw [← hAQ]; exact applyQ_some hR h
  have HNO := Lib.hid hno
  have HYES := Lib.hid hyes
  have HS := Lib.hid Hs
  have k1 := kp_alloc w (.cells #[.int .i64 4, .int .i64 fn, .int .i64 fs, .int .i64 fr, .int .i64 fe, .int .i64 fp, .int .i64 fq, .int .i64 fo, .int .i64 fd, .int .i64 fa, .int .i64 ft, .int .i64 fh, .int .i64 fc, .float .f64 fx] 39)
  obtain ⟨f0, f1, f2, f3, f4, f5, f6, f7, f8, f9, f10, f11, f12, f13⟩ := cells14 (MapKept.heap_alloc w (.cells #[.int .i64 4, .int .i64 fn, .int .i64 fs, .int .i64 fr, .int .i64 fe, .int .i64 fp, .int .i64 fq, .int .i64 fo, .int .i64 fd, .int .i64 fa, .int .i64 ft, .int .i64 fh, .int .i64 fc, .float .f64 fx] 39)).1
  obtain ⟨W, hW⟩ : ∃ W, w.alloc (.cells #[.int .i64 4, .int .i64 fn, .int .i64 fs, .int .i64 fr, .int .i64 fe, .int .i64 fp, .int .i64 fq, .int .i64 fo, .int .i64 fd, .int .i64 fa, .int .i64 ft, .int .i64 fh, .int .i64 fc, .float .f64 fx] 39) = W := ⟨_, rfl⟩
  rw [hW] at k1 f0 f1 f2 f3 f4 f5 f6 f7 f8 f9 f10 f11 f12 f13
  have K1 := Lib.hid k1
  obtain ⟨er, her⟩ : ∃ x, errI ads 9 = x := ⟨_, rfl⟩
  rw [her] at ce
  have HER := Lib.hid her
  have CE := Lib.hid ce
  have hnn := eq_nilF
  have hnf := eq_funF
  clear C E Hs ok hwf hR hri hAQ hno hyes k1 her ce
  go_enter Tryz.func11, Tryz.ntmps11
  go_wp2_with (first | (go_at_call 27; (with_reducible refine (HRI.out _ K1.out).mono ?_); rintro e' w1 ⟨rfl, hk1⟩; have K2 := Lib.hid (Kp.trans K1.out hk1); have f0 := kp_cell hk1 f0; have f1 := kp_cell hk1 f1; have f2 := kp_cell hk1 f2; have f3 := kp_cell hk1 f3; have f4 := kp_cell hk1 f4; have f5 := kp_cell hk1 f5; have f6 := kp_cell hk1 f6; have f7 := kp_cell hk1 f7; have f8 := kp_cell hk1 f8; have f9 := kp_cell hk1 f9; have f10 := kp_cell hk1 f10; have f11 := kp_cell hk1 f11; have f12 := kp_cell hk1 f12; have f13 := kp_cell hk1 f13; clear hk1) | (go_at_call 28; (with_reducible refine (HCH.out _ K2.out).mono ?_); rintro e' w2 hd; rcases hd with ⟨hd, rfl, hk⟩ | ⟨m2, hd, caps, rfl, hk, hc⟩ <;> (have K3 := Lib.hid (Kp.trans K2.out hk); have ce := kp_cell K3.out CE.out; have HD := Lib.hid hd; clear hd hk)))
  · go_wp2
    go_ret
    rw [HNO.out HD.out]
    exact ⟨congrArg Ending.returned HER.out.symm, gs, va, vp, HS.out.kp K3.out, Asd.of_kp _ K3.out⟩
  · have HC := Lib.hid hc
    clear hc
    go_wp2_with (go_at_call 114; (with_reducible refine HC.out.mono ?_); rintro e' w5 ⟨rfl, gs2, va2, vp2, hg, ha⟩; have G5 := Lib.hid hg; have A5 := Lib.hid ha; clear hg ha)
    go_ret
    rw [HYES.out m2 HD.out]
    exact ⟨rfl, gs2, va2, vp2, G5.out, (Asd.of_kp _ K3.out).trans A5.out⟩
set_option maxRecDepth 100000 in
set_option maxHeartbeats 2000000 in
theorem lsApply5 (C : FacC ads w) (E : EP [0, 3, 4, 8, 13] ads w) (Hs : GS tyL B q m gs va vp w) (ok : OkS m) (fn fs fr fe fp fq fo fd fa ft fh fc : Int) (fx : Nat) (hR : rightF (⟨5, fn, fs, fr, fe, fp, fq, fo, fd, fa, ft, fh, fc, fx⟩ : FX) = true) : Calls Tryz.prog 11 #[.pointer (some ⟨q, 0, none⟩), .agg #[.int .i64 5, .int .i64 fn, .int .i64 fs, .int .i64 fr, .int .i64 fe, .int .i64 fp, .int .i64 fq, .int .i64 fo, .int .i64 fd, .int .i64 fa, .int .i64 ft, .int .i64 fh, .int .i64 fc, .float .f64 fx]] w fun r w' => r = .returned (errI ads (applyQ m (⟨5, fn, fs, fr, fe, fp, fq, fo, fd, fa, ft, fh, fc, fx⟩ : FX)).1) ∧ ∃ gs' va' vp', GS tyL B q (applyQ m (⟨5, fn, fs, fr, fe, fp, fq, fo, fd, fa, ft, fh, fc, fx⟩ : FX)).2 gs' va' vp' w' ∧ Asd (Ow q gs va vp) (Ow q gs' va' vp') w w' := by
  have hwf : FX.wf (⟨5, fn, fs, fr, fe, fp, fq, fo, fd, fa, ft, fh, fc, fx⟩ : FX) := right_wf hR
  have hri := fun w1 (hk : Kp w w1) => C.right w1 hk (⟨5, fn, fs, fr, fe, fp, fq, fo, fd, fa, ft, fh, fc, fx⟩ : FX) hwf
  rw [hR] at hri
  dsimp only [FX.cells] at hri
  have HRI := Lib.hid hri
  have ce : w.cell? ⟨8, 0, none⟩ = some (errI ads 9) := E.cell 8 (by decide)
  have HCH := Lib.hid (fun w1 (hk : Kp w w1) => lsChange5 (E.kp hk) (Hs.kp hk) ok fn fs fr fe fp fq fo fd fa ft fh fc fx hR)
  obtain ⟨AQ, hAQ⟩ : ∃ x, applyQ m (⟨5, fn, fs, fr, fe, fp, fq, fo, fd, fa, ft, fh, fc, fx⟩ : FX) = x := ⟨_, rfl⟩
  rw [hAQ]
  have hno : doS m (⟨5, fn, fs, fr, fe, fp, fq, fo, fd, fa, ft, fh, fc, fx⟩ : FX) = none → AQ = (9, m) := fun h => by rw [← hAQ]; exact applyQ_none hR h
  have hyes : ∀ m2, doS m (⟨5, fn, fs, fr, fe, fp, fq, fo, fd, fa, ft, fh, fc, fx⟩ : FX) = some m2 → AQ = (0, m2) := fun m2 h => by rw [← hAQ]; exact applyQ_some hR h
  have HNO := Lib.hid hno
  have HYES := Lib.hid hyes
  have HS := Lib.hid Hs
  have k1 := kp_alloc w (.cells #[.int .i64 5, .int .i64 fn, .int .i64 fs, .int .i64 fr, .int .i64 fe, .int .i64 fp, .int .i64 fq, .int .i64 fo, .int .i64 fd, .int .i64 fa, .int .i64 ft, .int .i64 fh, .int .i64 fc, .float .f64 fx] 39)
  obtain ⟨f0, f1, f2, f3, f4, f5, f6, f7, f8, f9, f10, f11, f12, f13⟩ := cells14 (MapKept.heap_alloc w (.cells #[.int .i64 5, .int .i64 fn, .int .i64 fs, .int .i64 fr, .int .i64 fe, .int .i64 fp, .int .i64 fq, .int .i64 fo, .int .i64 fd, .int .i64 fa, .int .i64 ft, .int .i64 fh, .int .i64 fc, .float .f64 fx] 39)).1
  obtain ⟨W, hW⟩ : ∃ W, w.alloc (.cells #[.int .i64 5, .int .i64 fn, .int .i64 fs, .int .i64 fr, .int .i64 fe, .int .i64 fp, .int .i64 fq, .int .i64 fo, .int .i64 fd, .int .i64 fa, .int .i64 ft, .int .i64 fh, .int .i64 fc, .float .f64 fx] 39) = W := ⟨_, rfl⟩
  rw [hW] at k1 f0 f1 f2 f3 f4 f5 f6 f7 f8 f9 f10 f11 f12 f13
  have K1 := Lib.hid k1
  obtain ⟨er, her⟩ : ∃ x, errI ads 9 = x := ⟨_, rfl⟩
  rw [her] at ce
  have HER := Lib.hid her
  have CE := Lib.hid ce
  have hnn := eq_nilF
  have hnf := eq_funF
  clear C E Hs ok hwf hR hri hAQ hno hyes k1 her ce
  go_enter Tryz.func11, Tryz.ntmps11
  go_wp2_with (first | (go_at_call 27; (with_reducible refine (HRI.out _ K1.out).mono ?_); rintro e' w1 ⟨rfl, hk1⟩; have K2 := Lib.hid (Kp.trans K1.out hk1); have f0 := kp_cell hk1 f0; have f1 := kp_cell hk1 f1; have f2 := kp_cell hk1 f2; have f3 := kp_cell hk1 f3; have f4 := kp_cell hk1 f4; have f5 := kp_cell hk1 f5; have f6 := kp_cell hk1 f6; have f7 := kp_cell hk1 f7; have f8 := kp_cell hk1 f8; have f9 := kp_cell hk1 f9; have f10 := kp_cell hk1 f10; have f11 := kp_cell hk1 f11; have f12 := kp_cell hk1 f12; have f13 := kp_cell hk1 f13; clear hk1) | (go_at_call 28; (with_reducible refine (HCH.out _ K2.out).mono ?_); rintro e' w2 hd; rcases hd with ⟨hd, rfl, hk⟩ | ⟨m2, hd, caps, rfl, hk, hc⟩ <;> (have K3 := Lib.hid (Kp.trans K2.out hk); have ce := kp_cell K3.out CE.out; have HD := Lib.hid hd; clear hd hk)))
  · go_wp2
    go_ret
    rw [HNO.out HD.out]
    exact ⟨congrArg Ending.returned HER.out.symm, gs, va, vp, HS.out.kp K3.out, Asd.of_kp _ K3.out⟩
  · have HC := Lib.hid hc
    clear hc
    go_wp2_with (go_at_call 116; (with_reducible refine HC.out.mono ?_); rintro e' w5 ⟨rfl, gs2, va2, vp2, hg, ha⟩; have G5 := Lib.hid hg; have A5 := Lib.hid ha; clear hg ha)
    go_ret
    rw [HYES.out m2 HD.out]
    exact ⟨rfl, gs2, va2, vp2, G5.out, (Asd.of_kp _ K3.out).trans A5.out⟩
set_option maxRecDepth 100000 in
set_option maxHeartbeats 2000000 in
theorem lsApply6 (C : FacC ads w) (E : EP [0, 3, 4, 8, 13] ads w) (Hs : GS tyL B q m gs va vp w) (ok : OkS m) (fn fs fr fe fp fq fo fd fa ft fh fc : Int) (fx : Nat) (hR : rightF (⟨6, fn, fs, fr, fe, fp, fq, fo, fd, fa, ft, fh, fc, fx⟩ : FX) = true) : Calls Tryz.prog 11 #[.pointer (some ⟨q, 0, none⟩), .agg #[.int .i64 6, .int .i64 fn, .int .i64 fs, .int .i64 fr, .int .i64 fe, .int .i64 fp, .int .i64 fq, .int .i64 fo, .int .i64 fd, .int .i64 fa, .int .i64 ft, .int .i64 fh, .int .i64 fc, .float .f64 fx]] w fun r w' => r = .returned (errI ads (applyQ m (⟨6, fn, fs, fr, fe, fp, fq, fo, fd, fa, ft, fh, fc, fx⟩ : FX)).1) ∧ ∃ gs' va' vp', GS tyL B q (applyQ m (⟨6, fn, fs, fr, fe, fp, fq, fo, fd, fa, ft, fh, fc, fx⟩ : FX)).2 gs' va' vp' w' ∧ Asd (Ow q gs va vp) (Ow q gs' va' vp') w w' := by
  have hwf : FX.wf (⟨6, fn, fs, fr, fe, fp, fq, fo, fd, fa, ft, fh, fc, fx⟩ : FX) := right_wf hR
  have hri := fun w1 (hk : Kp w w1) => C.right w1 hk (⟨6, fn, fs, fr, fe, fp, fq, fo, fd, fa, ft, fh, fc, fx⟩ : FX) hwf
  rw [hR] at hri
  dsimp only [FX.cells] at hri
  have HRI := Lib.hid hri
  have ce : w.cell? ⟨8, 0, none⟩ = some (errI ads 9) := E.cell 8 (by decide)
  have HCH := Lib.hid (fun w1 (hk : Kp w w1) => lsChange6 (E.kp hk) (Hs.kp hk) ok fn fs fr fe fp fq fo fd fa ft fh fc fx hR)
  obtain ⟨AQ, hAQ⟩ : ∃ x, applyQ m (⟨6, fn, fs, fr, fe, fp, fq, fo, fd, fa, ft, fh, fc, fx⟩ : FX) = x := ⟨_, rfl⟩
  rw [hAQ]
  have hno : doS m (⟨6, fn, fs, fr, fe, fp, fq, fo, fd, fa, ft, fh, fc, fx⟩ : FX) = none → AQ = (9, m) := fun h => by rw [← hAQ]; exact applyQ_none hR h
  have hyes : ∀ m2, doS m (⟨6, fn, fs, fr, fe, fp, fq, fo, fd, fa, ft, fh, fc, fx⟩ : FX) = some m2 → AQ = (0, m2) := fun m2 h => by rw [← hAQ]; exact applyQ_some hR h
  have HNO := Lib.hid hno
  have HYES := Lib.hid hyes
  have HS := Lib.hid Hs
  have k1 := kp_alloc w (.cells #[.int .i64 6, .int .i64 fn, .int .i64 fs, .int .i64 fr, .int .i64 fe, .int .i64 fp, .int .i64 fq, .int .i64 fo, .int .i64 fd, .int .i64 fa, .int .i64 ft, .int .i64 fh, .int .i64 fc, .float .f64 fx] 39)
  obtain ⟨f0, f1, f2, f3, f4, f5, f6, f7, f8, f9, f10, f11, f12, f13⟩ := cells14 (MapKept.heap_alloc w (.cells #[.int .i64 6, .int .i64 fn, .int .i64 fs, .int .i64 fr, .int .i64 fe, .int .i64 fp, .int .i64 fq, .int .i64 fo, .int .i64 fd, .int .i64 fa, .int .i64 ft, .int .i64 fh, .int .i64 fc, .float .f64 fx] 39)).1
  obtain ⟨W, hW⟩ : ∃ W, w.alloc (.cells #[.int .i64 6, .int .i64 fn, .int .i64 fs, .int .i64 fr, .int .i64 fe, .int .i64 fp, .int .i64 fq, .int .i64 fo, .int .i64 fd, .int .i64 fa, .int .i64 ft, .int .i64 fh, .int .i64 fc, .float .f64 fx] 39) = W := ⟨_, rfl⟩
  rw [hW] at k1 f0 f1 f2 f3 f4 f5 f6 f7 f8 f9 f10 f11 f12 f13
  have K1 := Lib.hid k1
  obtain ⟨er, her⟩ : ∃ x, errI ads 9 = x := ⟨_, rfl⟩
  rw [her] at ce
  have HER := Lib.hid her
  have CE := Lib.hid ce
  have hnn := eq_nilF
  have hnf := eq_funF
  clear C E Hs ok hwf hR hri hAQ hno hyes k1 her ce
  go_enter Tryz.func11, Tryz.ntmps11
  go_wp2_with (first | (go_at_call 27; (with_reducible refine (HRI.out _ K1.out).mono ?_); rintro e' w1 ⟨rfl, hk1⟩; have K2 := Lib.hid (Kp.trans K1.out hk1); have f0 := kp_cell hk1 f0; have f1 := kp_cell hk1 f1; have f2 := kp_cell hk1 f2; have f3 := kp_cell hk1 f3; have f4 := kp_cell hk1 f4; have f5 := kp_cell hk1 f5; have f6 := kp_cell hk1 f6; have f7 := kp_cell hk1 f7; have f8 := kp_cell hk1 f8; have f9 := kp_cell hk1 f9; have f10 := kp_cell hk1 f10; have f11 := kp_cell hk1 f11; have f12 := kp_cell hk1 f12; have f13 := kp_cell hk1 f13; clear hk1) | (go_at_call 28; (with_reducible refine (HCH.out _ K2.out).mono ?_); rintro e' w2 hd; rcases hd with ⟨hd, rfl, hk⟩ | ⟨m2, hd, caps, rfl, hk, hc⟩ <;> (have K3 := Lib.hid (Kp.trans K2.out hk); have ce := kp_cell K3.out CE.out; have HD := Lib.hid hd; clear hd hk)))
  · go_wp2
    go_ret
    rw [HNO.out HD.out]
    exact ⟨congrArg Ending.returned HER.out.symm, gs, va, vp, HS.out.kp K3.out, Asd.of_kp _ K3.out⟩
  · have HC := Lib.hid hc
    clear hc
    go_wp2_with (go_at_call 119; (with_reducible refine HC.out.mono ?_); rintro e' w5 ⟨rfl, gs2, va2, vp2, hg, ha⟩; have G5 := Lib.hid hg; have A5 := Lib.hid ha; clear hg ha)
    go_ret
    rw [HYES.out m2 HD.out]
    exact ⟨rfl, gs2, va2, vp2, G5.out, (Asd.of_kp _ K3.out).trans A5.out⟩
set_option maxRecDepth 100000 in
set_option maxHeartbeats 2000000 in
theorem lsApply7 (C : FacC ads w) (E : EP [0, 3, 4, 8, 13] ads w) (Hs : GS tyL B q m gs va vp w) (ok : OkS m) (fn fs fr fe fp fq fo fd fa ft fh fc : Int) (fx : Nat) (hR : rightF (⟨7, fn, fs, fr, fe, fp, fq, fo, fd, fa, ft, fh, fc, fx⟩ : FX) = true) : Calls Tryz.prog 11 #[.pointer (some ⟨q, 0, none⟩), .agg #[.int .i64 7, .int .i64 fn, .int .i64 fs, .int .i64 fr, .int .i64 fe, .int .i64 fp, .int .i64 fq, .int .i64 fo, .int .i64 fd, .int .i64 fa, .int .i64 ft, .int .i64 fh, .int .i64 fc, .float .f64 fx]] w fun r w' => r = .returned (errI ads (applyQ m (⟨7, fn, fs, fr, fe, fp, fq, fo, fd, fa, ft, fh, fc, fx⟩ : FX)).1) ∧ ∃ gs' va' vp', GS tyL B q (applyQ m (⟨7, fn, fs, fr, fe, fp, fq, fo, fd, fa, ft, fh, fc, fx⟩ : FX)).2 gs' va' vp' w' ∧ Asd (Ow q gs va vp) (Ow q gs' va' vp') w w' := by
  have hwf : FX.wf (⟨7, fn, fs, fr, fe, fp, fq, fo, fd, fa, ft, fh, fc, fx⟩ : FX) := right_wf hR
  have hri := fun w1 (hk : Kp w w1) => C.right w1 hk (⟨7, fn, fs, fr, fe, fp, fq, fo, fd, fa, ft, fh, fc, fx⟩ : FX) hwf
  rw [hR] at hri
  dsimp only [FX.cells] at hri
  have HRI := Lib.hid hri
  have ce : w.cell? ⟨8, 0, none⟩ = some (errI ads 9) := E.cell 8 (by decide)
  have HCH := Lib.hid (fun w1 (hk : Kp w w1) => lsChange7 (E.kp hk) (Hs.kp hk) ok fn fs fr fe fp fq fo fd fa ft fh fc fx hR)
  obtain ⟨AQ, hAQ⟩ : ∃ x, applyQ m (⟨7, fn, fs, fr, fe, fp, fq, fo, fd, fa, ft, fh, fc, fx⟩ : FX) = x := ⟨_, rfl⟩
  rw [hAQ]
  have hno : doS m (⟨7, fn, fs, fr, fe, fp, fq, fo, fd, fa, ft, fh, fc, fx⟩ : FX) = none → AQ = (9, m) := fun h => by rw [← hAQ]; exact applyQ_none hR h
  have hyes : ∀ m2, doS m (⟨7, fn, fs, fr, fe, fp, fq, fo, fd, fa, ft, fh, fc, fx⟩ : FX) = some m2 → AQ = (0, m2) := fun m2 h => by rw [← hAQ]; exact applyQ_some hR h
  have HNO := Lib.hid hno
  have HYES := Lib.hid hyes
  have HS := Lib.hid Hs
  have k1 := kp_alloc w (.cells #[.int .i64 7, .int .i64 fn, .int .i64 fs, .int .i64 fr, .int .i64 fe, .int .i64 fp, .int .i64 fq, .int .i64 fo, .int .i64 fd, .int .i64 fa, .int .i64 ft, .int .i64 fh, .int .i64 fc, .float .f64 fx] 39)
  obtain ⟨f0, f1, f2, f3, f4, f5, f6, f7, f8, f9, f10, f11, f12, f13⟩ := cells14 (MapKept.heap_alloc w (.cells #[.int .i64 7, .int .i64 fn, .int .i64 fs, .int .i64 fr, .int .i64 fe, .int .i64 fp, .int .i64 fq, .int .i64 fo, .int .i64 fd, .int .i64 fa, .int .i64 ft, .int .i64 fh, .int .i64 fc, .float .f64 fx] 39)).1
  obtain ⟨W, hW⟩ : ∃ W, w.alloc (.cells #[.int .i64 7, .int .i64 fn, .int .i64 fs, .int .i64 fr, .int .i64 fe, .int .i64 fp, .int .i64 fq, .int .i64 fo, .int .i64 fd, .int .i64 fa, .int .i64 ft, .int .i64 fh, .int .i64 fc, .float .f64 fx] 39) = W := ⟨_, rfl⟩
  rw [hW] at k1 f0 f1 f2 f3 f4 f5 f6 f7 f8 f9 f10 f11 f12 f13
  have K1 := Lib.hid k1
  obtain ⟨er, her⟩ : ∃ x, errI ads 9 = x := ⟨_, rfl⟩
  rw [her] at ce
  have HER := Lib.hid her
  have CE := Lib.hid ce
  have hnn := eq_nilF
  have hnf := eq_funF
  clear C E Hs ok hwf hR hri hAQ hno hyes k1 her ce
  go_enter Tryz.func11, Tryz.ntmps11
  go_wp2_with (first | (go_at_call 27; (with_reducible refine (HRI.out _ K1.out).mono ?_); rintro e' w1 ⟨rfl, hk1⟩; have K2 := Lib.hid (Kp.trans K1.out hk1); have f0 := kp_cell hk1 f0; have f1 := kp_cell hk1 f1; have f2 := kp_cell hk1 f2; have f3 := kp_cell hk1 f3; have f4 := kp_cell hk1 f4; have f5 := kp_cell hk1 f5; have f6 := kp_cell hk1 f6; have f7 := kp_cell hk1 f7; have f8 := kp_cell hk1 f8; have f9 := kp_cell hk1 f9; have f10 := kp_cell hk1 f10; have f11 := kp_cell hk1 f11; have f12 := kp_cell hk1 f12; have f13 := kp_cell hk1 f13; clear hk1) | (go_at_call 28; (with_reducible refine (HCH.out _ K2.out).mono ?_); rintro e' w2 hd; rcases hd with ⟨hd, rfl, hk⟩ | ⟨m2, hd, caps, rfl, hk, hc⟩ <;> (have K3 := Lib.hid (Kp.trans K2.out hk); have ce := kp_cell K3.out CE.out; have HD := Lib.hid hd; clear hd hk)))
  · go_wp2
    go_ret
    rw [HNO.out HD.out]
    exact ⟨congrArg Ending.returned HER.out.symm, gs, va, vp, HS.out.kp K3.out, Asd.of_kp _ K3.out⟩
  · have HC := Lib.hid hc
    clear hc
    go_wp2_with (go_at_call 120; (with_reducible refine HC.out.mono ?_); rintro e' w5 ⟨rfl, gs2, va2, vp2, hg, ha⟩; have G5 := Lib.hid hg; have A5 := Lib.hid ha; clear hg ha)
    go_ret
    rw [HYES.out m2 HD.out]
    exact ⟨rfl, gs2, va2, vp2, G5.out, (Asd.of_kp _ K3.out).trans A5.out⟩
set_option maxRecDepth 100000 in
set_option maxHeartbeats 2000000 in
theorem lsApply8 (C : FacC ads w) (E : EP [0, 3, 4, 8, 13] ads w) (Hs : GS tyL B q m gs va vp w) (ok : OkS m) (fn fs fr fe fp fq fo fd fa ft fh fc : Int) (fx : Nat) (hR : rightF (⟨8, fn, fs, fr, fe, fp, fq, fo, fd, fa, ft, fh, fc, fx⟩ : FX) = true) : Calls Tryz.prog 11 #[.pointer (some ⟨q, 0, none⟩), .agg #[.int .i64 8, .int .i64 fn, .int .i64 fs, .int .i64 fr, .int .i64 fe, .int .i64 fp, .int .i64 fq, .int .i64 fo, .int .i64 fd, .int .i64 fa, .int .i64 ft, .int .i64 fh, .int .i64 fc, .float .f64 fx]] w fun r w' => r = .returned (errI ads (applyQ m (⟨8, fn, fs, fr, fe, fp, fq, fo, fd, fa, ft, fh, fc, fx⟩ : FX)).1) ∧ ∃ gs' va' vp', GS tyL B q (applyQ m (⟨8, fn, fs, fr, fe, fp, fq, fo, fd, fa, ft, fh, fc, fx⟩ : FX)).2 gs' va' vp' w' ∧ Asd (Ow q gs va vp) (Ow q gs' va' vp') w w' := by
  have hwf : FX.wf (⟨8, fn, fs, fr, fe, fp, fq, fo, fd, fa, ft, fh, fc, fx⟩ : FX) := right_wf hR
  have hri := fun w1 (hk : Kp w w1) => C.right w1 hk (⟨8, fn, fs, fr, fe, fp, fq, fo, fd, fa, ft, fh, fc, fx⟩ : FX) hwf
  rw [hR] at hri
  dsimp only [FX.cells] at hri
  have HRI := Lib.hid hri
  have ce : w.cell? ⟨8, 0, none⟩ = some (errI ads 9) := E.cell 8 (by decide)
  have HCH := Lib.hid (fun w1 (hk : Kp w w1) => lsChange8 (E.kp hk) (Hs.kp hk) ok fn fs fr fe fp fq fo fd fa ft fh fc fx hR)
  obtain ⟨AQ, hAQ⟩ : ∃ x, applyQ m (⟨8, fn, fs, fr, fe, fp, fq, fo, fd, fa, ft, fh, fc, fx⟩ : FX) = x := ⟨_, rfl⟩
  rw [hAQ]
  have hno : doS m (⟨8, fn, fs, fr, fe, fp, fq, fo, fd, fa, ft, fh, fc, fx⟩ : FX) = none → AQ = (9, m) := fun h => by rw [← hAQ]; exact applyQ_none hR h
  have hyes : ∀ m2, doS m (⟨8, fn, fs, fr, fe, fp, fq, fo, fd, fa, ft, fh, fc, fx⟩ : FX) = some m2 → AQ = (0, m2) := fun m2 h => by rw [← hAQ]; exact applyQ_some hR h
  have HNO := Lib.hid hno
  have HYES := Lib.hid hyes
  have HS := Lib.hid Hs
  have k1 := kp_alloc w (.cells #[.int .i64 8, .int .i64 fn, .int .i64 fs, .int .i64 fr, .int .i64 fe, .int .i64 fp, .int .i64 fq, .int .i64 fo, .int .i64 fd, .int .i64 fa, .int .i64 ft, .int .i64 fh, .int .i64 fc, .float .f64 fx] 39)
  obtain ⟨f0, f1, f2, f3, f4, f5, f6, f7, f8, f9, f10, f11, f12, f13⟩ := cells14 (MapKept.heap_alloc w (.cells #[.int .i64 8, .int .i64 fn, .int .i64 fs, .int .i64 fr, .int .i64 fe, .int .i64 fp, .int .i64 fq, .int .i64 fo, .int .i64 fd, .int .i64 fa, .int .i64 ft, .int .i64 fh, .int .i64 fc, .float .f64 fx] 39)).1
  obtain ⟨W, hW⟩ : ∃ W, w.alloc (.cells #[.int .i64 8, .int .i64 fn, .int .i64 fs, .int .i64 fr, .int .i64 fe, .int .i64 fp, .int .i64 fq, .int .i64 fo, .int .i64 fd, .int .i64 fa, .int .i64 ft, .int .i64 fh, .int .i64 fc, .float .f64 fx] 39) = W := ⟨_, rfl⟩
  rw [hW] at k1 f0 f1 f2 f3 f4 f5 f6 f7 f8 f9 f10 f11 f12 f13
  have K1 := Lib.hid k1
  obtain ⟨er, her⟩ : ∃ x, errI ads 9 = x := ⟨_, rfl⟩
  rw [her] at ce
  have HER := Lib.hid her
  have CE := Lib.hid ce
  have hnn := eq_nilF
  have hnf := eq_funF
  clear C E Hs ok hwf hR hri hAQ hno hyes k1 her ce
  go_enter Tryz.func11, Tryz.ntmps11
  go_wp2_with (first | (go_at_call 27; (with_reducible refine (HRI.out _ K1.out).mono ?_); rintro e' w1 ⟨rfl, hk1⟩; have K2 := Lib.hid (Kp.trans K1.out hk1); have f0 := kp_cell hk1 f0; have f1 := kp_cell hk1 f1; have f2 := kp_cell hk1 f2; have f3 := kp_cell hk1 f3; have f4 := kp_cell hk1 f4; have f5 := kp_cell hk1 f5; have f6 := kp_cell hk1 f6; have f7 := kp_cell hk1 f7; have f8 := kp_cell hk1 f8; have f9 := kp_cell hk1 f9; have f10 := kp_cell hk1 f10; have f11 := kp_cell hk1 f11; have f12 := kp_cell hk1 f12; have f13 := kp_cell hk1 f13; clear hk1) | (go_at_call 28; (with_reducible refine (HCH.out _ K2.out).mono ?_); rintro e' w2 hd; rcases hd with ⟨hd, rfl, hk⟩ | ⟨m2, hd, caps, rfl, hk, hc⟩ <;> (have K3 := Lib.hid (Kp.trans K2.out hk); have ce := kp_cell K3.out CE.out; have HD := Lib.hid hd; clear hd hk)))
  · go_wp2
    go_ret
    rw [HNO.out HD.out]
    exact ⟨congrArg Ending.returned HER.out.symm, gs, va, vp, HS.out.kp K3.out, Asd.of_kp _ K3.out⟩
  · have HC := Lib.hid hc
    clear hc
    go_wp2_with (go_at_call 149; (with_reducible refine HC.out.mono ?_); rintro e' w5 ⟨rfl, gs2, va2, vp2, hg, ha⟩; have G5 := Lib.hid hg; have A5 := Lib.hid ha; clear hg ha)
    go_ret
    rw [HYES.out m2 HD.out]
    exact ⟨rfl, gs2, va2, vp2, G5.out, (Asd.of_kp _ K3.out).trans A5.out⟩
theorem lsApply_any (C : FacC ads w) (E : EP [0, 3, 4, 8, 13] ads w) (Hs : GS tyL B q m gs va vp w) (ok : OkS m) (f : FX) (hwf : f.wf) : Calls Tryz.prog 11 #[.pointer (some ⟨q, 0, none⟩), .agg f.cells] w fun r w' => r = .returned (errI ads (applyQ m f).1) ∧ ∃ gs' va' vp', GS tyL B q (applyQ m f).2 gs' va' vp' w' ∧ Asd (Ow q gs va vp) (Ow q gs' va' vp') w w' := by
  cases hR : rightF f with
  | false => exact lsApply_no C E Hs f hwf hR
  | true =>
    have hk := kind_of hR
    obtain ⟨k, fn, fs, fr, fe, fp, fq, fo, fd, fa, ft, fh, fc, fx⟩ := f
    dsimp only at hk
    have : k = 1 ∨ k = 2 ∨ k = 3 ∨ k = 4 ∨ k = 5 ∨ k = 6 ∨ k = 7 ∨ k = 8 := by omega
    rcases this with rfl | rfl | rfl | rfl | rfl | rfl | rfl | rfl
    · exact lsApply1 C E Hs ok fn fs fr fe fp fq fo fd fa ft fh fc fx hR
    · exact lsApply2 C E Hs ok fn fs fr fe fp fq fo fd fa ft fh fc fx hR
    · exact lsApply3 C E Hs ok fn fs fr fe fp fq fo fd fa ft fh fc fx hR
    · exact lsApply4 C E Hs ok fn fs fr fe fp fq fo fd fa ft fh fc fx hR
    · exact lsApply5 C E Hs ok fn fs fr fe fp fq fo fd fa ft fh fc fx hR
    · exact lsApply6 C E Hs ok fn fs fr fe fp fq fo fd fa ft fh fc fx hR
    · exact lsApply7 C E Hs ok fn fs fr fe fp fq fo fd fa ft fh fc fx hR
    · exact lsApply8 C E Hs ok fn fs fr fe fp fq fo fd fa ft fh fc fx hR
end Go.Proofs.YtpemeenfhkgmpaaGreatDoor
