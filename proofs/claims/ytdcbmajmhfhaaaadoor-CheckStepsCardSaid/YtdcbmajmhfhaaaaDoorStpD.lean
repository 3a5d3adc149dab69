/-
  CheckSteps' LAST REGION (own work): four boxes are made and four calls go, in whatever order the draw allows: a state for each set of boxes made and number of calls gone.
-/
import Derived.Test.YtdcbmajmhfhaaaaDoorStpV
namespace Go.Proofs.YtdcbmajmhfhaaaaDoor
open Go.RowKit Go.ChangeShapes Go.WideShapes

abbrev ops18 : Array Oper := #[{ dst := some 68, op := Go.Op.move (Go.Operand.tmp 7), type := 25, pos := "extra.go:24", after := #[], guard := none },
    { dst := some 69, op := Go.Op.move (Go.Operand.tmp 0), type := 24, pos := "extra.go:24", after := #[], guard := none },
    { dst := some 70, op := Go.Op.buildSlice 22 1 #[(0, Go.Operand.tmp 69)], type := 22, pos := "extra.go:24", after := #[{ on := 1, ground := Go.Ground.data }], guard := none },
    { dst := some 71, op := Go.Op.call { callee := Go.Callee.value (Go.Operand.func 9), args := #[Go.Operand.tmp 70], argTypes := #[22] }, type := 25, pos := "extra.go:24", after := #[{ on := 2, ground := Go.Ground.data }], guard := none },
    { dst := some 72, op := Go.Op.binOp Go.BinOp.eql 25 (Go.Operand.tmp 68) (Go.Operand.tmp 71) 25, type := 4, pos := "extra.go:24", after := #[{ on := 0, ground := Go.Ground.data }, { on := 3, ground := Go.Ground.data }], guard := none },
    { dst := some 73, op := Go.Op.move (Go.Operand.tmp 72), type := 4, pos := "extra.go:24", after := #[{ on := 4, ground := Go.Ground.data }, { on := 3, ground := Go.Ground.chain }], guard := none },
    { dst := some 74, op := Go.Op.move (Go.Operand.tmp 11), type := 24, pos := "extra.go:24", after := #[{ on := 5, ground := Go.Ground.guard }], guard := some (5, true) },
    { dst := some 75, op := Go.Op.buildSlice 22 1 #[(0, Go.Operand.tmp 74)], type := 22, pos := "extra.go:24", after := #[{ on := 6, ground := Go.Ground.data }, { on := 5, ground := Go.Ground.guard }], guard := some (5, true) },
    { dst := some 76, op := Go.Op.call { callee := Go.Callee.value (Go.Operand.func 9), args := #[Go.Operand.tmp 75], argTypes := #[22] }, type := 25, pos := "extra.go:24", after := #[{ on := 7, ground := Go.Ground.data }, { on := 5, ground := Go.Ground.chain }, { on := 5, ground := Go.Ground.guard }], guard := some (5, true) },
    { dst := some 77, op := Go.Op.move (Go.Operand.tmp 0), type := 24, pos := "extra.go:24", after := #[{ on := 5, ground := Go.Ground.guard }], guard := some (5, true) },
    { dst := some 78, op := Go.Op.move (Go.Operand.tmp 10), type := 3, pos := "extra.go:24", after := #[{ on := 5, ground := Go.Ground.guard }], guard := some (5, true) },
    { dst := some 79, op := Go.Op.slice 24 (Go.Operand.tmp 77) none (some (Go.Operand.tmp 78)) none, type := 24, pos := "extra.go:24", after := #[{ on := 9, ground := Go.Ground.data }, { on := 10, ground := Go.Ground.data }, { on := 5, ground := Go.Ground.guard }], guard := some (5, true) },
    { dst := some 80, op := Go.Op.buildSlice 22 1 #[(0, Go.Operand.tmp 79)], type := 22, pos := "extra.go:24", after := #[{ on := 11, ground := Go.Ground.data }, { on := 5, ground := Go.Ground.guard }], guard := some (5, true) },
    { dst := some 81, op := Go.Op.call { callee := Go.Callee.value (Go.Operand.func 9), args := #[Go.Operand.tmp 80], argTypes := #[22] }, type := 25, pos := "extra.go:24", after := #[{ on := 12, ground := Go.Ground.data }, { on := 8, ground := Go.Ground.chain }, { on := 5, ground := Go.Ground.guard }], guard := some (5, true) },
    { dst := some 82, op := Go.Op.move (Go.Operand.tmp 1), type := 24, pos := "extra.go:24", after := #[{ on := 5, ground := Go.Ground.guard }], guard := some (5, true) },
    { dst := some 83, op := Go.Op.move (Go.Operand.tmp 10), type := 3, pos := "extra.go:24", after := #[{ on := 5, ground := Go.Ground.guard }], guard := some (5, true) },
    { dst := some 84, op := Go.Op.slice 24 (Go.Operand.tmp 82) none (some (Go.Operand.tmp 83)) none, type := 24, pos := "extra.go:24", after := #[{ on := 14, ground := Go.Ground.data }, { on := 15, ground := Go.Ground.data }, { on := 5, ground := Go.Ground.guard }], guard := some (5, true) },
    { dst := some 85, op := Go.Op.buildSlice 22 1 #[(0, Go.Operand.tmp 84)], type := 22, pos := "extra.go:24", after := #[{ on := 16, ground := Go.Ground.data }, { on := 5, ground := Go.Ground.guard }], guard := some (5, true) },
    { dst := some 86, op := Go.Op.call { callee := Go.Callee.value (Go.Operand.func 9), args := #[Go.Operand.tmp 85], argTypes := #[22] }, type := 25, pos := "extra.go:24", after := #[{ on := 17, ground := Go.Ground.data }, { on := 13, ground := Go.Ground.chain }, { on := 5, ground := Go.Ground.guard }], guard := some (5, true) },
    { dst := some 87, op := Go.Op.binOp Go.BinOp.xor 25 (Go.Operand.tmp 81) (Go.Operand.tmp 86) 25, type := 25, pos := "extra.go:24", after := #[{ on := 13, ground := Go.Ground.data }, { on := 18, ground := Go.Ground.data }, { on := 5, ground := Go.Ground.guard }], guard := some (5, true) },
    { dst := some 88, op := Go.Op.move (Go.Operand.tmp 2), type := 24, pos := "extra.go:24", after := #[{ on := 5, ground := Go.Ground.guard }], guard := some (5, true) },
    { dst := some 89, op := Go.Op.move (Go.Operand.tmp 10), type := 3, pos := "extra.go:24", after := #[{ on := 5, ground := Go.Ground.guard }], guard := some (5, true) },
    { dst := some 90, op := Go.Op.slice 24 (Go.Operand.tmp 88) none (some (Go.Operand.tmp 89)) none, type := 24, pos := "extra.go:24", after := #[{ on := 20, ground := Go.Ground.data }, { on := 21, ground := Go.Ground.data }, { on := 5, ground := Go.Ground.guard }], guard := some (5, true) },
    { dst := some 91, op := Go.Op.buildSlice 22 1 #[(0, Go.Operand.tmp 90)], type := 22, pos := "extra.go:24", after := #[{ on := 22, ground := Go.Ground.data }, { on := 5, ground := Go.Ground.guard }], guard := some (5, true) },
    { dst := some 92, op := Go.Op.call { callee := Go.Callee.value (Go.Operand.func 9), args := #[Go.Operand.tmp 91], argTypes := #[22] }, type := 25, pos := "extra.go:24", after := #[{ on := 23, ground := Go.Ground.data }, { on := 18, ground := Go.Ground.chain }, { on := 5, ground := Go.Ground.guard }], guard := some (5, true) },
    { dst := some 93, op := Go.Op.binOp Go.BinOp.xor 25 (Go.Operand.tmp 87) (Go.Operand.tmp 92) 25, type := 25, pos := "extra.go:24", after := #[{ on := 19, ground := Go.Ground.data }, { on := 24, ground := Go.Ground.data }, { on := 5, ground := Go.Ground.guard }], guard := some (5, true) },
    { dst := some 94, op := Go.Op.binOp Go.BinOp.eql 25 (Go.Operand.tmp 76) (Go.Operand.tmp 93) 25, type := 4, pos := "extra.go:24", after := #[{ on := 8, ground := Go.Ground.data }, { on := 25, ground := Go.Ground.data }, { on := 5, ground := Go.Ground.guard }], guard := some (5, true) },
    { dst := some 95, op := Go.Op.pick (Go.Operand.tmp 73) (Go.Operand.tmp 94) (Go.Operand.const (Go.Value.bool false)), type := 4, pos := "extra.go:24", after := #[{ on := 5, ground := Go.Ground.data }, { on := 26, ground := Go.Ground.data }], guard := none },
    { dst := some 6, op := Go.Op.assign (Go.Operand.tmp 95), type := 4, pos := "extra.go:24", after := #[{ on := 27, ground := Go.Ground.data }, { on := 24, ground := Go.Ground.chain }, { on := 0, ground := Go.Ground.phase }, { on := 1, ground := Go.Ground.phase }, { on := 2, ground := Go.Ground.phase }, { on := 3, ground := Go.Ground.phase }, { on := 4, ground := Go.Ground.phase }, { on := 5, ground := Go.Ground.phase }, { on := 6, ground := Go.Ground.phase }, { on := 7, ground := Go.Ground.phase }, { on := 8, ground := Go.Ground.phase }, { on := 9, ground := Go.Ground.phase }, { on := 10, ground := Go.Ground.phase }, { on := 11, ground := Go.Ground.phase }, { on := 12, ground := Go.Ground.phase }, { on := 13, ground := Go.Ground.phase }, { on := 14, ground := Go.Ground.phase }, { on := 15, ground := Go.Ground.phase }, { on := 16, ground := Go.Ground.phase }, { on := 17, ground := Go.Ground.phase }, { on := 18, ground := Go.Ground.phase }, { on := 19, ground := Go.Ground.phase }, { on := 20, ground := Go.Ground.phase }, { on := 21, ground := Go.Ground.phase }, { on := 22, ground := Go.Ground.phase }, { on := 23, ground := Go.Ground.phase }, { on := 24, ground := Go.Ground.phase }, { on := 25, ground := Go.Ground.phase }, { on := 26, ground := Go.Ground.phase }, { on := 27, ground := Go.Ground.phase }], guard := none }]

set_option maxRecDepth 100000 in
set_option maxHeartbeats 8000000 in
theorem steps_any {Q : Exit → Act → World → Prop} (hpan : ∀ c a (d : Tmp) v w, Q (.panic c) (Act.put a (some d) v) w → Q (.panic c) a w) {x0 x1 x2 x3 x4 x5 x6 x7 x8 x9 x10 x11 x12 x13 x14 x15 x16 x17 x18 x19 x20 x21 x22 x23 x24 x25 x26 x27 x28 x29 x30 x31 x32 x33 x34 x35 x36 x37 x38 x39 x40 x41 x42 x43 x44 x45 x46 x47 x48 x49 x50 x51 x52 x53 x54 x55 x56 x57 x58 x59 x60 x61 x62 x63 x64 x65 x66 x67 x68 x69 x70 x71 x72 x75 x76 x77 x78 x80 x81 x82 x83 x85 x86 x87 x88 x89 x91 x92 x93 x94 x95 : Value}
    {a1 a2 a3 a4 : Option Addr} {n1 n2 n3 n4 c1 c2 c3 c4 : Nat} {y1 y2 y3 y4 p : Int} {wd : World} {R1 R2 R3 R4 : Value → World → Prop}
    (kp1 : ∀ v w w', R1 v w → Kp w w' → R1 v w') (mk1 : ∀ w', Kp wd w' → R1 (.slice (some ⟨w'.heap.size, 0, none⟩) 1 1) (w'.alloc (.cells #[.slice a1 n1 c1] 24))) (call1 : ∀ v w', Kp wd w' → R1 v w' → Calls Tryd.prog 9 #[v] w' fun e w'' => e = .returned (.int .u32 y1) ∧ w' = w'')
    (kp2 : ∀ v w w', R2 v w → Kp w w' → R2 v w') (mk2 : ∀ w', Kp wd w' → R2 (.slice (some ⟨w'.heap.size, 0, none⟩) 1 1) (w'.alloc (.cells #[.slice a2 n2 c2] 24))) (call2 : ∀ v w', Kp wd w' → R2 v w' → Calls Tryd.prog 9 #[v] w' fun e w'' => e = .returned (.int .u32 y2) ∧ w' = w'')
    (kp3 : ∀ v w w', R3 v w → Kp w w' → R3 v w') (mk3 : ∀ w', Kp wd w' → R3 (.slice (some ⟨w'.heap.size, 0, none⟩) 1 1) (w'.alloc (.cells #[.slice a3 n3 c3] 24))) (call3 : ∀ v w', Kp wd w' → R3 v w' → Calls Tryd.prog 9 #[v] w' fun e w'' => e = .returned (.int .u32 y3) ∧ w' = w'')
    (kp4 : ∀ v w w', R4 v w → Kp w w' → R4 v w') (mk4 : ∀ w', Kp wd w' → R4 (.slice (some ⟨w'.heap.size, 0, none⟩) 1 1) (w'.alloc (.cells #[.slice a4 n4 c4] 24))) (call4 : ∀ v w', Kp wd w' → R4 v w' → Calls Tryd.prog 9 #[v] w' fun e w'' => e = .returned (.int .u32 y4) ∧ w' = w'')
    (e1 : bits .xor .u32 y2 y3 = p) (e2 : bits .xor .u32 p y4 = y1)
    (hQ : ∀ (v1 v2 v3 v4 : Value) (w' : World), Kp wd w' → Q .normal { tmps := #[x0, x1, x2, x3, x4, x5, .bool true, x7, x8, x9, x10, x11, x12, x13, x14, x15, x16, x17, x18, x19, x20, x21, x22, x23, x24, x25, x26, x27, x28, x29, x30, x31, x32, x33, x34, x35, x36, x37, x38, x39, x40, x41, x42, x43, x44, x45, x46, x47, x48, x49, x50, x51, x52, x53, x54, x55, x56, x57, x58, x59, x60, x61, x62, x63, x64, x65, x66, x67, x68, x69, x70, x71, x72, .bool true, .slice a1 n1 c1, v1, .int .u32 y1, x77, x78, .slice a2 n2 c2, v2, .int .u32 y2, x82, x83, .slice a3 n3 c3, v3, .int .u32 y3, .int .u32 p, x88, x89, .slice a4 n4 c4, v4, .int .u32 y4, .int .u32 y1, .bool true, .bool true], defers := [] } w') :
    wpAny Tryd.prog .any ops18 Q 13 #[true, true, true, true, true, true, true, false, false, true, true, true, false, false, true, true, true, false, false, false, true, true, true, false, false, false, false, false, false] { tmps := #[x0, x1, x2, x3, x4, x5, x6, x7, x8, x9, x10, x11, x12, x13, x14, x15, x16, x17, x18, x19, x20, x21, x22, x23, x24, x25, x26, x27, x28, x29, x30, x31, x32, x33, x34, x35, x36, x37, x38, x39, x40, x41, x42, x43, x44, x45, x46, x47, x48, x49, x50, x51, x52, x53, x54, x55, x56, x57, x58, x59, x60, x61, x62, x63, x64, x65, x66, x67, x68, x69, x70, x71, x72, .bool true, .slice a1 n1 c1, x75, x76, x77, x78, .slice a2 n2 c2, x80, x81, x82, x83, .slice a3 n3 c3, x85, x86, x87, x88, x89, .slice a4 n4 c4, x91, x92, x93, x94, x95], defers := [] } wd := by
  have hyy : (y1 == y1) = true := by simp
  have KP1 := Lib.hid kp1
  have MK1 := Lib.hid mk1
  have CL1 := Lib.hid call1
  have KP2 := Lib.hid kp2
  have MK2 := Lib.hid mk2
  have CL2 := Lib.hid call2
  have KP3 := Lib.hid kp3
  have MK3 := Lib.hid mk3
  have CL3 := Lib.hid call3
  have KP4 := Lib.hid kp4
  have MK4 := Lib.hid mk4
  have CL4 := Lib.hid call4
  have HQ := Lib.hid hQ
  have HP := Lib.hid hpan
  clear kp1 mk1 call1 kp2 mk2 call2 kp3 mk3 call3 kp4 mk4 call4 hQ
  have st_1234_4 : ∀ (v1 : Value) (v2 : Value) (v3 : Value) (v4 : Value) (w' : World), Kp wd w' → wpAny Tryd.prog .any ops18 Q 4 #[true, true, true, true, true, true, true, true, true, true, true, true, true, true, true, true, true, true, true, true, true, true, true, true, true, false, false, false, false] { tmps := #[x0, x1, x2, x3, x4, x5, x6, x7, x8, x9, x10, x11, x12, x13, x14, x15, x16, x17, x18, x19, x20, x21, x22, x23, x24, x25, x26, x27, x28, x29, x30, x31, x32, x33, x34, x35, x36, x37, x38, x39, x40, x41, x42, x43, x44, x45, x46, x47, x48, x49, x50, x51, x52, x53, x54, x55, x56, x57, x58, x59, x60, x61, x62, x63, x64, x65, x66, x67, x68, x69, x70, x71, x72, .bool true, .slice a1 n1 c1, v1, .int .u32 y1, x77, x78, .slice a2 n2 c2, v2, .int .u32 y2, x82, x83, .slice a3 n3 c3, v3, .int .u32 y3, .int .u32 p, x88, x89, .slice a4 n4 c4, v4, .int .u32 y4, x93, x94, x95], defers := [] } w' := by
    intro v1 v2 v3 v4 w' hk 
    refine wpAny_take (i := 25) (v := ?_) rfl (by kernel_rfl) (by kernel_rfl) (by kernel_rfl) (fun c a w h => HP.out c a _ _ w h) (Or.inl ⟨by rfl, ?_⟩) ?_
    rotate_left
    · intro w; go_simp; try with_reducible rfl
    go_simp
    refine wpAny_take (i := 26) (v := ?_) rfl (by kernel_rfl) (by kernel_rfl) (by kernel_rfl) (fun c a w h => HP.out c a _ _ w h) (Or.inl ⟨by rfl, ?_⟩) ?_
    rotate_left
    · intro w; go_simp; try with_reducible rfl
    go_simp
    refine wpAny_take (i := 27) (v := ?_) rfl (by kernel_rfl) (by kernel_rfl) (by kernel_rfl) (fun c a w h => HP.out c a _ _ w h) (Or.inl ⟨by rfl, ?_⟩) ?_
    rotate_left
    · intro w; go_simp; try with_reducible rfl
    go_simp
    refine wpAny_take (i := 28) (v := ?_) rfl (by kernel_rfl) (by kernel_rfl) (by kernel_rfl) (fun c a w h => HP.out c a _ _ w h) (Or.inl ⟨by rfl, ?_⟩) ?_
    rotate_left
    · intro w; go_simp; try with_reducible rfl
    go_simp
    refine wpAny_done (by kernel_rfl) ?_ _
    all_goals exact HQ.out v1 v2 v3 v4 w' hk
  have st_1234_3 : ∀ (v1 : Value) (v2 : Value) (v3 : Value) (v4 : Value) (w' : World), Kp wd w' → R4 v4 w' → wpAny Tryd.prog .any ops18 Q 5 #[true, true, true, true, true, true, true, true, true, true, true, true, true, true, true, true, true, true, true, true, true, true, true, true, false, false, false, false, false] { tmps := #[x0, x1, x2, x3, x4, x5, x6, x7, x8, x9, x10, x11, x12, x13, x14, x15, x16, x17, x18, x19, x20, x21, x22, x23, x24, x25, x26, x27, x28, x29, x30, x31, x32, x33, x34, x35, x36, x37, x38, x39, x40, x41, x42, x43, x44, x45, x46, x47, x48, x49, x50, x51, x52, x53, x54, x55, x56, x57, x58, x59, x60, x61, x62, x63, x64, x65, x66, x67, x68, x69, x70, x71, x72, .bool true, .slice a1 n1 c1, v1, .int .u32 y1, x77, x78, .slice a2 n2 c2, v2, .int .u32 y2, x82, x83, .slice a3 n3 c3, v3, .int .u32 y3, .int .u32 p, x88, x89, .slice a4 n4 c4, v4, x92, x93, x94, x95], defers := [] } w' := by
    intro v1 v2 v3 v4 w' hk r4
    refine wpAny_ready (rs := [24]) (by kernel_rfl) (by simp) ?_
    refine (AllReady.cons rfl (fun K hK => ?_) AllReady.nil)
    · go_simp
      go_wp2_with (go_at_call 9; (with_reducible refine (CL4.out _ _ hk r4).mono ?_); rintro e w3 ⟨rfl, rfl⟩)
      all_goals exact st_1234_4 _ _ _ _ _ hk 
  have st_1234_2 : ∀ (v1 : Value) (v2 : Value) (v3 : Value) (v4 : Value) (w' : World), Kp wd w' → R3 v3 w' → R4 v4 w' → wpAny Tryd.prog .any ops18 Q 7 #[true, true, true, true, true, true, true, true, true, true, true, true, true, true, true, true, true, true, false, false, true, true, true, true, false, false, false, false, false] { tmps := #[x0, x1, x2, x3, x4, x5, x6, x7, x8, x9, x10, x11, x12, x13, x14, x15, x16, x17, x18, x19, x20, x21, x22, x23, x24, x25, x26, x27, x28, x29, x30, x31, x32, x33, x34, x35, x36, x37, x38, x39, x40, x41, x42, x43, x44, x45, x46, x47, x48, x49, x50, x51, x52, x53, x54, x55, x56, x57, x58, x59, x60, x61, x62, x63, x64, x65, x66, x67, x68, x69, x70, x71, x72, .bool true, .slice a1 n1 c1, v1, .int .u32 y1, x77, x78, .slice a2 n2 c2, v2, .int .u32 y2, x82, x83, .slice a3 n3 c3, v3, x86, x87, x88, x89, .slice a4 n4 c4, v4, x92, x93, x94, x95], defers := [] } w' := by
    intro v1 v2 v3 v4 w' hk r3 r4
    refine wpAny_ready (rs := [18]) (by kernel_rfl) (by simp) ?_
    refine (AllReady.cons rfl (fun K hK => ?_) AllReady.nil)
    · go_simp
      go_wp2_with (go_at_call 9; (with_reducible refine (CL3.out _ _ hk r3).mono ?_); rintro e w3 ⟨rfl, rfl⟩)
      refine wpAny_take (i := 19) (v := ?_) rfl (by kernel_rfl) (by kernel_rfl) (by kernel_rfl) (fun c a w h => HP.out c a _ _ w h) (Or.inl ⟨by rfl, ?_⟩) ?_
      rotate_left
      · intro w; go_simp; try with_reducible rfl
      go_simp
      all_goals exact st_1234_3 _ _ _ _ _ hk r4
  have st_123_3 : ∀ (v1 : Value) (v2 : Value) (v3 : Value) (w' : World), Kp wd w' → wpAny Tryd.prog .any ops18 Q 6 #[true, true, true, true, true, true, true, true, true, true, true, true, true, true, true, true, true, true, true, true, true, true, true, false, false, false, false, false, false] { tmps := #[x0, x1, x2, x3, x4, x5, x6, x7, x8, x9, x10, x11, x12, x13, x14, x15, x16, x17, x18, x19, x20, x21, x22, x23, x24, x25, x26, x27, x28, x29, x30, x31, x32, x33, x34, x35, x36, x37, x38, x39, x40, x41, x42, x43, x44, x45, x46, x47, x48, x49, x50, x51, x52, x53, x54, x55, x56, x57, x58, x59, x60, x61, x62, x63, x64, x65, x66, x67, x68, x69, x70, x71, x72, .bool true, .slice a1 n1 c1, v1, .int .u32 y1, x77, x78, .slice a2 n2 c2, v2, .int .u32 y2, x82, x83, .slice a3 n3 c3, v3, .int .u32 y3, .int .u32 p, x88, x89, .slice a4 n4 c4, x91, x92, x93, x94, x95], defers := [] } w' := by
    intro v1 v2 v3 w' hk 
    refine wpAny_ready (rs := [23]) (by kernel_rfl) (by simp) ?_
    refine (AllReady.cons rfl (fun K hK => ?_) AllReady.nil)
    · go_simp
      refine hK _ _ ?_
      clear hK K
      all_goals exact st_1234_3 _ _ _ _ _ (Kp.trans hk (kp_alloc _ _)) (MK4.out w' hk)
  have st_1234_1 : ∀ (v1 : Value) (v2 : Value) (v3 : Value) (v4 : Value) (w' : World), Kp wd w' → R2 v2 w' → R3 v3 w' → R4 v4 w' → wpAny Tryd.prog .any ops18 Q 8 #[true, true, true, true, true, true, true, true, true, true, true, true, true, false, true, true, true, true, false, false, true, true, true, true, false, false, false, false, false] { tmps := #[x0, x1, x2, x3, x4, x5, x6, x7, x8, x9, x10, x11, x12, x13, x14, x15, x16, x17, x18, x19, x20, x21, x22, x23, x24, x25, x26, x27, x28, x29, x30, x31, x32, x33, x34, x35, x36, x37, x38, x39, x40, x41, x42, x43, x44, x45, x46, x47, x48, x49, x50, x51, x52, x53, x54, x55, x56, x57, x58, x59, x60, x61, x62, x63, x64, x65, x66, x67, x68, x69, x70, x71, x72, .bool true, .slice a1 n1 c1, v1, .int .u32 y1, x77, x78, .slice a2 n2 c2, v2, x81, x82, x83, .slice a3 n3 c3, v3, x86, x87, x88, x89, .slice a4 n4 c4, v4, x92, x93, x94, x95], defers := [] } w' := by
    intro v1 v2 v3 v4 w' hk r2 r3 r4
    refine wpAny_ready (rs := [13]) (by kernel_rfl) (by simp) ?_
    refine (AllReady.cons rfl (fun K hK => ?_) AllReady.nil)
    · go_simp
      go_wp2_with (go_at_call 9; (with_reducible refine (CL2.out _ _ hk r2).mono ?_); rintro e w3 ⟨rfl, rfl⟩)
      all_goals exact st_1234_2 _ _ _ _ _ hk r3 r4
  have st_123_2 : ∀ (v1 : Value) (v2 : Value) (v3 : Value) (w' : World), Kp wd w' → R3 v3 w' → wpAny Tryd.prog .any ops18 Q 8 #[true, true, true, true, true, true, true, true, true, true, true, true, true, true, true, true, true, true, false, false, true, true, true, false, false, false, false, false, false] { tmps := #[x0, x1, x2, x3, x4, x5, x6, x7, x8, x9, x10, x11, x12, x13, x14, x15, x16, x17, x18, x19, x20, x21, x22, x23, x24, x25, x26, x27, x28, x29, x30, x31, x32, x33, x34, x35, x36, x37, x38, x39, x40, x41, x42, x43, x44, x45, x46, x47, x48, x49, x50, x51, x52, x53, x54, x55, x56, x57, x58, x59, x60, x61, x62, x63, x64, x65, x66, x67, x68, x69, x70, x71, x72, .bool true, .slice a1 n1 c1, v1, .int .u32 y1, x77, x78, .slice a2 n2 c2, v2, .int .u32 y2, x82, x83, .slice a3 n3 c3, v3, x86, x87, x88, x89, .slice a4 n4 c4, x91, x92, x93, x94, x95], defers := [] } w' := by
    intro v1 v2 v3 w' hk r3
    refine wpAny_ready (rs := [18, 23]) (by kernel_rfl) (by simp) ?_
    refine (AllReady.cons rfl (fun K hK => ?_) (AllReady.cons rfl (fun K hK => ?_) AllReady.nil))
    · go_simp
      go_wp2_with (go_at_call 9; (with_reducible refine (CL3.out _ _ hk r3).mono ?_); rintro e w3 ⟨rfl, rfl⟩)
      refine wpAny_take (i := 19) (v := ?_) rfl (by kernel_rfl) (by kernel_rfl) (by kernel_rfl) (fun c a w h => HP.out c a _ _ w h) (Or.inl ⟨by rfl, ?_⟩) ?_
      rotate_left
      · intro w; go_simp; try with_reducible rfl
      go_simp
      all_goals exact st_123_3 _ _ _ _ hk 
    · go_simp
      refine hK _ _ ?_
      clear hK K
      all_goals exact st_1234_2 _ _ _ _ _ (Kp.trans hk (kp_alloc _ _)) (KP3.out _ _ _ r3 (kp_alloc _ _)) (MK4.out w' hk)
  have st_124_2 : ∀ (v1 : Value) (v2 : Value) (v4 : Value) (w' : World), Kp wd w' → R4 v4 w' → wpAny Tryd.prog .any ops18 Q 8 #[true, true, true, true, true, true, true, true, true, true, true, true, true, true, true, true, true, false, false, false, true, true, true, true, false, false, false, false, false] { tmps := #[x0, x1, x2, x3, x4, x5, x6, x7, x8, x9, x10, x11, x12, x13, x14, x15, x16, x17, x18, x19, x20, x21, x22, x23, x24, x25, x26, x27, x28, x29, x30, x31, x32, x33, x34, x35, x36, x37, x38, x39, x40, x41, x42, x43, x44, x45, x46, x47, x48, x49, x50, x51, x52, x53, x54, x55, x56, x57, x58, x59, x60, x61, x62, x63, x64, x65, x66, x67, x68, x69, x70, x71, x72, .bool true, .slice a1 n1 c1, v1, .int .u32 y1, x77, x78, .slice a2 n2 c2, v2, .int .u32 y2, x82, x83, .slice a3 n3 c3, x85, x86, x87, x88, x89, .slice a4 n4 c4, v4, x92, x93, x94, x95], defers := [] } w' := by
    intro v1 v2 v4 w' hk r4
    refine wpAny_ready (rs := [17]) (by kernel_rfl) (by simp) ?_
    refine (AllReady.cons rfl (fun K hK => ?_) AllReady.nil)
    · go_simp
      refine hK _ _ ?_
      clear hK K
      all_goals exact st_1234_2 _ _ _ _ _ (Kp.trans hk (kp_alloc _ _)) (MK3.out w' hk) (KP4.out _ _ _ r4 (kp_alloc _ _))
  have st_1234_0 : ∀ (v1 : Value) (v2 : Value) (v3 : Value) (v4 : Value) (w' : World), Kp wd w' → R1 v1 w' → R2 v2 w' → R3 v3 w' → R4 v4 w' → wpAny Tryd.prog .any ops18 Q 9 #[true, true, true, true, true, true, true, true, false, true, true, true, true, false, true, true, true, true, false, false, true, true, true, true, false, false, false, false, false] { tmps := #[x0, x1, x2, x3, x4, x5, x6, x7, x8, x9, x10, x11, x12, x13, x14, x15, x16, x17, x18, x19, x20, x21, x22, x23, x24, x25, x26, x27, x28, x29, x30, x31, x32, x33, x34, x35, x36, x37, x38, x39, x40, x41, x42, x43, x44, x45, x46, x47, x48, x49, x50, x51, x52, x53, x54, x55, x56, x57, x58, x59, x60, x61, x62, x63, x64, x65, x66, x67, x68, x69, x70, x71, x72, .bool true, .slice a1 n1 c1, v1, x76, x77, x78, .slice a2 n2 c2, v2, x81, x82, x83, .slice a3 n3 c3, v3, x86, x87, x88, x89, .slice a4 n4 c4, v4, x92, x93, x94, x95], defers := [] } w' := by
    intro v1 v2 v3 v4 w' hk r1 r2 r3 r4
    refine wpAny_ready (rs := [8]) (by kernel_rfl) (by simp) ?_
    refine (AllReady.cons rfl (fun K hK => ?_) AllReady.nil)
    · go_simp
      go_wp2_with (go_at_call 9; (with_reducible refine (CL1.out _ _ hk r1).mono ?_); rintro e w3 ⟨rfl, rfl⟩)
      all_goals exact st_1234_1 _ _ _ _ _ hk r2 r3 r4
  have st_123_1 : ∀ (v1 : Value) (v2 : Value) (v3 : Value) (w' : World), Kp wd w' → R2 v2 w' → R3 v3 w' → wpAny Tryd.prog .any ops18 Q 9 #[true, true, true, true, true, true, true, true, true, true, true, true, true, false, true, true, true, true, false, false, true, true, true, false, false, false, false, false, false] { tmps := #[x0, x1, x2, x3, x4, x5, x6, x7, x8, x9, x10, x11, x12, x13, x14, x15, x16, x17, x18, x19, x20, x21, x22, x23, x24, x25, x26, x27, x28, x29, x30, x31, x32, x33, x34, x35, x36, x37, x38, x39, x40, x41, x42, x43, x44, x45, x46, x47, x48, x49, x50, x51, x52, x53, x54, x55, x56, x57, x58, x59, x60, x61, x62, x63, x64, x65, x66, x67, x68, x69, x70, x71, x72, .bool true, .slice a1 n1 c1, v1, .int .u32 y1, x77, x78, .slice a2 n2 c2, v2, x81, x82, x83, .slice a3 n3 c3, v3, x86, x87, x88, x89, .slice a4 n4 c4, x91, x92, x93, x94, x95], defers := [] } w' := by
    intro v1 v2 v3 w' hk r2 r3
    refine wpAny_ready (rs := [13, 23]) (by kernel_rfl) (by simp) ?_
    refine (AllReady.cons rfl (fun K hK => ?_) (AllReady.cons rfl (fun K hK => ?_) AllReady.nil))
    · go_simp
      go_wp2_with (go_at_call 9; (with_reducible refine (CL2.out _ _ hk r2).mono ?_); rintro e w3 ⟨rfl, rfl⟩)
      all_goals exact st_123_2 _ _ _ _ hk r3
    · go_simp
      refine hK _ _ ?_
      clear hK K
      all_goals exact st_1234_1 _ _ _ _ _ (Kp.trans hk (kp_alloc _ _)) (KP2.out _ _ _ r2 (kp_alloc _ _)) (KP3.out _ _ _ r3 (kp_alloc _ _)) (MK4.out w' hk)
  have st_124_1 : ∀ (v1 : Value) (v2 : Value) (v4 : Value) (w' : World), Kp wd w' → R2 v2 w' → R4 v4 w' → wpAny Tryd.prog .any ops18 Q 9 #[true, true, true, true, true, true, true, true, true, true, true, true, true, false, true, true, true, false, false, false, true, true, true, true, false, false, false, false, false] { tmps := #[x0, x1, x2, x3, x4, x5, x6, x7, x8, x9, x10, x11, x12, x13, x14, x15, x16, x17, x18, x19, x20, x21, x22, x23, x24, x25, x26, x27, x28, x29, x30, x31, x32, x33, x34, x35, x36, x37, x38, x39, x40, x41, x42, x43, x44, x45, x46, x47, x48, x49, x50, x51, x52, x53, x54, x55, x56, x57, x58, x59, x60, x61, x62, x63, x64, x65, x66, x67, x68, x69, x70, x71, x72, .bool true, .slice a1 n1 c1, v1, .int .u32 y1, x77, x78, .slice a2 n2 c2, v2, x81, x82, x83, .slice a3 n3 c3, x85, x86, x87, x88, x89, .slice a4 n4 c4, v4, x92, x93, x94, x95], defers := [] } w' := by
    intro v1 v2 v4 w' hk r2 r4
    refine wpAny_ready (rs := [13, 17]) (by kernel_rfl) (by simp) ?_
    refine (AllReady.cons rfl (fun K hK => ?_) (AllReady.cons rfl (fun K hK => ?_) AllReady.nil))
    · go_simp
      go_wp2_with (go_at_call 9; (with_reducible refine (CL2.out _ _ hk r2).mono ?_); rintro e w3 ⟨rfl, rfl⟩)
      all_goals exact st_124_2 _ _ _ _ hk r4
    · go_simp
      refine hK _ _ ?_
      clear hK K
      all_goals exact st_1234_1 _ _ _ _ _ (Kp.trans hk (kp_alloc _ _)) (KP2.out _ _ _ r2 (kp_alloc _ _)) (MK3.out w' hk) (KP4.out _ _ _ r4 (kp_alloc _ _))
  have st_134_1 : ∀ (v1 : Value) (v3 : Value) (v4 : Value) (w' : World), Kp wd w' → R3 v3 w' → R4 v4 w' → wpAny Tryd.prog .any ops18 Q 9 #[true, true, true, true, true, true, true, true, true, true, true, true, false, false, true, true, true, true, false, false, true, true, true, true, false, false, false, false, false] { tmps := #[x0, x1, x2, x3, x4, x5, x6, x7, x8, x9, x10, x11, x12, x13, x14, x15, x16, x17, x18, x19, x20, x21, x22, x23, x24, x25, x26, x27, x28, x29, x30, x31, x32, x33, x34, x35, x36, x37, x38, x39, x40, x41, x42, x43, x44, x45, x46, x47, x48, x49, x50, x51, x52, x53, x54, x55, x56, x57, x58, x59, x60, x61, x62, x63, x64, x65, x66, x67, x68, x69, x70, x71, x72, .bool true, .slice a1 n1 c1, v1, .int .u32 y1, x77, x78, .slice a2 n2 c2, x80, x81, x82, x83, .slice a3 n3 c3, v3, x86, x87, x88, x89, .slice a4 n4 c4, v4, x92, x93, x94, x95], defers := [] } w' := by
    intro v1 v3 v4 w' hk r3 r4
    refine wpAny_ready (rs := [12]) (by kernel_rfl) (by simp) ?_
    refine (AllReady.cons rfl (fun K hK => ?_) AllReady.nil)
    · go_simp
      refine hK _ _ ?_
      clear hK K
      all_goals exact st_1234_1 _ _ _ _ _ (Kp.trans hk (kp_alloc _ _)) (MK2.out w' hk) (KP3.out _ _ _ r3 (kp_alloc _ _)) (KP4.out _ _ _ r4 (kp_alloc _ _))
  have st_12_2 : ∀ (v1 : Value) (v2 : Value) (w' : World), Kp wd w' → wpAny Tryd.prog .any ops18 Q 9 #[true, true, true, true, true, true, true, true, true, true, true, true, true, true, true, true, true, false, false, false, true, true, true, false, false, false, false, false, false] { tmps := #[x0, x1, x2, x3, x4, x5, x6, x7, x8, x9, x10, x11, x12, x13, x14, x15, x16, x17, x18, x19, x20, x21, x22, x23, x24, x25, x26, x27, x28, x29, x30, x31, x32, x33, x34, x35, x36, x37, x38, x39, x40, x41, x42, x43, x44, x45, x46, x47, x48, x49, x50, x51, x52, x53, x54, x55, x56, x57, x58, x59, x60, x61, x62, x63, x64, x65, x66, x67, x68, x69, x70, x71, x72, .bool true, .slice a1 n1 c1, v1, .int .u32 y1, x77, x78, .slice a2 n2 c2, v2, .int .u32 y2, x82, x83, .slice a3 n3 c3, x85, x86, x87, x88, x89, .slice a4 n4 c4, x91, x92, x93, x94, x95], defers := [] } w' := by
    intro v1 v2 w' hk 
    refine wpAny_ready (rs := [17, 23]) (by kernel_rfl) (by simp) ?_
    refine (AllReady.cons rfl (fun K hK => ?_) (AllReady.cons rfl (fun K hK => ?_) AllReady.nil))
    · go_simp
      refine hK _ _ ?_
      clear hK K
      all_goals exact st_123_2 _ _ _ _ (Kp.trans hk (kp_alloc _ _)) (MK3.out w' hk)
    · go_simp
      refine hK _ _ ?_
      clear hK K
      all_goals exact st_124_2 _ _ _ _ (Kp.trans hk (kp_alloc _ _)) (MK4.out w' hk)
  have st_123_0 : ∀ (v1 : Value) (v2 : Value) (v3 : Value) (w' : World), Kp wd w' → R1 v1 w' → R2 v2 w' → R3 v3 w' → wpAny Tryd.prog .any ops18 Q 10 #[true, true, true, true, true, true, true, true, false, true, true, true, true, false, true, true, true, true, false, false, true, true, true, false, false, false, false, false, false] { tmps := #[x0, x1, x2, x3, x4, x5, x6, x7, x8, x9, x10, x11, x12, x13, x14, x15, x16, x17, x18, x19, x20, x21, x22, x23, x24, x25, x26, x27, x28, x29, x30, x31, x32, x33, x34, x35, x36, x37, x38, x39, x40, x41, x42, x43, x44, x45, x46, x47, x48, x49, x50, x51, x52, x53, x54, x55, x56, x57, x58, x59, x60, x61, x62, x63, x64, x65, x66, x67, x68, x69, x70, x71, x72, .bool true, .slice a1 n1 c1, v1, x76, x77, x78, .slice a2 n2 c2, v2, x81, x82, x83, .slice a3 n3 c3, v3, x86, x87, x88, x89, .slice a4 n4 c4, x91, x92, x93, x94, x95], defers := [] } w' := by
    intro v1 v2 v3 w' hk r1 r2 r3
    refine wpAny_ready (rs := [8, 23]) (by kernel_rfl) (by simp) ?_
    refine (AllReady.cons rfl (fun K hK => ?_) (AllReady.cons rfl (fun K hK => ?_) AllReady.nil))
    · go_simp
      go_wp2_with (go_at_call 9; (with_reducible refine (CL1.out _ _ hk r1).mono ?_); rintro e w3 ⟨rfl, rfl⟩)
      all_goals exact st_123_1 _ _ _ _ hk r2 r3
    · go_simp
      refine hK _ _ ?_
      clear hK K
      all_goals exact st_1234_0 _ _ _ _ _ (Kp.trans hk (kp_alloc _ _)) (KP1.out _ _ _ r1 (kp_alloc _ _)) (KP2.out _ _ _ r2 (kp_alloc _ _)) (KP3.out _ _ _ r3 (kp_alloc _ _)) (MK4.out w' hk)
  have st_124_0 : ∀ (v1 : Value) (v2 : Value) (v4 : Value) (w' : World), Kp wd w' → R1 v1 w' → R2 v2 w' → R4 v4 w' → wpAny Tryd.prog .any ops18 Q 10 #[true, true, true, true, true, true, true, true, false, true, true, true, true, false, true, true, true, false, false, false, true, true, true, true, false, false, false, false, false] { tmps := #[x0, x1, x2, x3, x4, x5, x6, x7, x8, x9, x10, x11, x12, x13, x14, x15, x16, x17, x18, x19, x20, x21, x22, x23, x24, x25, x26, x27, x28, x29, x30, x31, x32, x33, x34, x35, x36, x37, x38, x39, x40, x41, x42, x43, x44, x45, x46, x47, x48, x49, x50, x51, x52, x53, x54, x55, x56, x57, x58, x59, x60, x61, x62, x63, x64, x65, x66, x67, x68, x69, x70, x71, x72, .bool true, .slice a1 n1 c1, v1, x76, x77, x78, .slice a2 n2 c2, v2, x81, x82, x83, .slice a3 n3 c3, x85, x86, x87, x88, x89, .slice a4 n4 c4, v4, x92, x93, x94, x95], defers := [] } w' := by
    intro v1 v2 v4 w' hk r1 r2 r4
    refine wpAny_ready (rs := [8, 17]) (by kernel_rfl) (by simp) ?_
    refine (AllReady.cons rfl (fun K hK => ?_) (AllReady.cons rfl (fun K hK => ?_) AllReady.nil))
    · go_simp
      go_wp2_with (go_at_call 9; (with_reducible refine (CL1.out _ _ hk r1).mono ?_); rintro e w3 ⟨rfl, rfl⟩)
      all_goals exact st_124_1 _ _ _ _ hk r2 r4
    · go_simp
      refine hK _ _ ?_
      clear hK K
      all_goals exact st_1234_0 _ _ _ _ _ (Kp.trans hk (kp_alloc _ _)) (KP1.out _ _ _ r1 (kp_alloc _ _)) (KP2.out _ _ _ r2 (kp_alloc _ _)) (MK3.out w' hk) (KP4.out _ _ _ r4 (kp_alloc _ _))
  have st_134_0 : ∀ (v1 : Value) (v3 : Value) (v4 : Value) (w' : World), Kp wd w' → R1 v1 w' → R3 v3 w' → R4 v4 w' → wpAny Tryd.prog .any ops18 Q 10 #[true, true, true, true, true, true, true, true, false, true, true, true, false, false, true, true, true, true, false, false, true, true, true, true, false, false, false, false, false] { tmps := #[x0, x1, x2, x3, x4, x5, x6, x7, x8, x9, x10, x11, x12, x13, x14, x15, x16, x17, x18, x19, x20, x21, x22, x23, x24, x25, x26, x27, x28, x29, x30, x31, x32, x33, x34, x35, x36, x37, x38, x39, x40, x41, x42, x43, x44, x45, x46, x47, x48, x49, x50, x51, x52, x53, x54, x55, x56, x57, x58, x59, x60, x61, x62, x63, x64, x65, x66, x67, x68, x69, x70, x71, x72, .bool true, .slice a1 n1 c1, v1, x76, x77, x78, .slice a2 n2 c2, x80, x81, x82, x83, .slice a3 n3 c3, v3, x86, x87, x88, x89, .slice a4 n4 c4, v4, x92, x93, x94, x95], defers := [] } w' := by
    intro v1 v3 v4 w' hk r1 r3 r4
    refine wpAny_ready (rs := [8, 12]) (by kernel_rfl) (by simp) ?_
    refine (AllReady.cons rfl (fun K hK => ?_) (AllReady.cons rfl (fun K hK => ?_) AllReady.nil))
    · go_simp
      go_wp2_with (go_at_call 9; (with_reducible refine (CL1.out _ _ hk r1).mono ?_); rintro e w3 ⟨rfl, rfl⟩)
      all_goals exact st_134_1 _ _ _ _ hk r3 r4
    · go_simp
      refine hK _ _ ?_
      clear hK K
      all_goals exact st_1234_0 _ _ _ _ _ (Kp.trans hk (kp_alloc _ _)) (KP1.out _ _ _ r1 (kp_alloc _ _)) (MK2.out w' hk) (KP3.out _ _ _ r3 (kp_alloc _ _)) (KP4.out _ _ _ r4 (kp_alloc _ _))
  have st_234_0 : ∀ (v2 : Value) (v3 : Value) (v4 : Value) (w' : World), Kp wd w' → R2 v2 w' → R3 v3 w' → R4 v4 w' → wpAny Tryd.prog .any ops18 Q 10 #[true, true, true, true, true, true, true, false, false, true, true, true, true, false, true, true, true, true, false, false, true, true, true, true, false, false, false, false, false] { tmps := #[x0, x1, x2, x3, x4, x5, x6, x7, x8, x9, x10, x11, x12, x13, x14, x15, x16, x17, x18, x19, x20, x21, x22, x23, x24, x25, x26, x27, x28, x29, x30, x31, x32, x33, x34, x35, x36, x37, x38, x39, x40, x41, x42, x43, x44, x45, x46, x47, x48, x49, x50, x51, x52, x53, x54, x55, x56, x57, x58, x59, x60, x61, x62, x63, x64, x65, x66, x67, x68, x69, x70, x71, x72, .bool true, .slice a1 n1 c1, x75, x76, x77, x78, .slice a2 n2 c2, v2, x81, x82, x83, .slice a3 n3 c3, v3, x86, x87, x88, x89, .slice a4 n4 c4, v4, x92, x93, x94, x95], defers := [] } w' := by
    intro v2 v3 v4 w' hk r2 r3 r4
    refine wpAny_ready (rs := [7]) (by kernel_rfl) (by simp) ?_
    refine (AllReady.cons rfl (fun K hK => ?_) AllReady.nil)
    · go_simp
      refine hK _ _ ?_
      clear hK K
      all_goals exact st_1234_0 _ _ _ _ _ (Kp.trans hk (kp_alloc _ _)) (MK1.out w' hk) (KP2.out _ _ _ r2 (kp_alloc _ _)) (KP3.out _ _ _ r3 (kp_alloc _ _)) (KP4.out _ _ _ r4 (kp_alloc _ _))
  have st_12_1 : ∀ (v1 : Value) (v2 : Value) (w' : World), Kp wd w' → R2 v2 w' → wpAny Tryd.prog .any ops18 Q 10 #[true, true, true, true, true, true, true, true, true, true, true, true, true, false, true, true, true, false, false, false, true, true, true, false, false, false, false, false, false] { tmps := #[x0, x1, x2, x3, x4, x5, x6, x7, x8, x9, x10, x11, x12, x13, x14, x15, x16, x17, x18, x19, x20, x21, x22, x23, x24, x25, x26, x27, x28, x29, x30, x31, x32, x33, x34, x35, x36, x37, x38, x39, x40, x41, x42, x43, x44, x45, x46, x47, x48, x49, x50, x51, x52, x53, x54, x55, x56, x57, x58, x59, x60, x61, x62, x63, x64, x65, x66, x67, x68, x69, x70, x71, x72, .bool true, .slice a1 n1 c1, v1, .int .u32 y1, x77, x78, .slice a2 n2 c2, v2, x81, x82, x83, .slice a3 n3 c3, x85, x86, x87, x88, x89, .slice a4 n4 c4, x91, x92, x93, x94, x95], defers := [] } w' := by
    intro v1 v2 w' hk r2
    refine wpAny_ready (rs := [13, 17, 23]) (by kernel_rfl) (by simp) ?_
    refine (AllReady.cons rfl (fun K hK => ?_) (AllReady.cons rfl (fun K hK => ?_) (AllReady.cons rfl (fun K hK => ?_) AllReady.nil)))
    · go_simp
      go_wp2_with (go_at_call 9; (with_reducible refine (CL2.out _ _ hk r2).mono ?_); rintro e w3 ⟨rfl, rfl⟩)
      all_goals exact st_12_2 _ _ _ hk 
    · go_simp
      refine hK _ _ ?_
      clear hK K
      all_goals exact st_123_1 _ _ _ _ (Kp.trans hk (kp_alloc _ _)) (KP2.out _ _ _ r2 (kp_alloc _ _)) (MK3.out w' hk)
    · go_simp
      refine hK _ _ ?_
      clear hK K
      all_goals exact st_124_1 _ _ _ _ (Kp.trans hk (kp_alloc _ _)) (KP2.out _ _ _ r2 (kp_alloc _ _)) (MK4.out w' hk)
  have st_13_1 : ∀ (v1 : Value) (v3 : Value) (w' : World), Kp wd w' → R3 v3 w' → wpAny Tryd.prog .any ops18 Q 10 #[true, true, true, true, true, true, true, true, true, true, true, true, false, false, true, true, true, true, false, false, true, true, true, false, false, false, false, false, false] { tmps := #[x0, x1, x2, x3, x4, x5, x6, x7, x8, x9, x10, x11, x12, x13, x14, x15, x16, x17, x18, x19, x20, x21, x22, x23, x24, x25, x26, x27, x28, x29, x30, x31, x32, x33, x34, x35, x36, x37, x38, x39, x40, x41, x42, x43, x44, x45, x46, x47, x48, x49, x50, x51, x52, x53, x54, x55, x56, x57, x58, x59, x60, x61, x62, x63, x64, x65, x66, x67, x68, x69, x70, x71, x72, .bool true, .slice a1 n1 c1, v1, .int .u32 y1, x77, x78, .slice a2 n2 c2, x80, x81, x82, x83, .slice a3 n3 c3, v3, x86, x87, x88, x89, .slice a4 n4 c4, x91, x92, x93, x94, x95], defers := [] } w' := by
    intro v1 v3 w' hk r3
    refine wpAny_ready (rs := [12, 23]) (by kernel_rfl) (by simp) ?_
    refine (AllReady.cons rfl (fun K hK => ?_) (AllReady.cons rfl (fun K hK => ?_) AllReady.nil))
    · go_simp
      refine hK _ _ ?_
      clear hK K
      all_goals exact st_123_1 _ _ _ _ (Kp.trans hk (kp_alloc _ _)) (MK2.out w' hk) (KP3.out _ _ _ r3 (kp_alloc _ _))
    · go_simp
      refine hK _ _ ?_
      clear hK K
      all_goals exact st_134_1 _ _ _ _ (Kp.trans hk (kp_alloc _ _)) (KP3.out _ _ _ r3 (kp_alloc _ _)) (MK4.out w' hk)
  have st_14_1 : ∀ (v1 : Value) (v4 : Value) (w' : World), Kp wd w' → R4 v4 w' → wpAny Tryd.prog .any ops18 Q 10 #[true, true, true, true, true, true, true, true, true, true, true, true, false, false, true, true, true, false, false, false, true, true, true, true, false, false, false, false, false] { tmps := #[x0, x1, x2, x3, x4, x5, x6, x7, x8, x9, x10, x11, x12, x13, x14, x15, x16, x17, x18, x19, x20, x21, x22, x23, x24, x25, x26, x27, x28, x29, x30, x31, x32, x33, x34, x35, x36, x37, x38, x39, x40, x41, x42, x43, x44, x45, x46, x47, x48, x49, x50, x51, x52, x53, x54, x55, x56, x57, x58, x59, x60, x61, x62, x63, x64, x65, x66, x67, x68, x69, x70, x71, x72, .bool true, .slice a1 n1 c1, v1, .int .u32 y1, x77, x78, .slice a2 n2 c2, x80, x81, x82, x83, .slice a3 n3 c3, x85, x86, x87, x88, x89, .slice a4 n4 c4, v4, x92, x93, x94, x95], defers := [] } w' := by
    intro v1 v4 w' hk r4
    refine wpAny_ready (rs := [12, 17]) (by kernel_rfl) (by simp) ?_
    refine (AllReady.cons rfl (fun K hK => ?_) (AllReady.cons rfl (fun K hK => ?_) AllReady.nil))
    · go_simp
      refine hK _ _ ?_
      clear hK K
      all_goals exact st_124_1 _ _ _ _ (Kp.trans hk (kp_alloc _ _)) (MK2.out w' hk) (KP4.out _ _ _ r4 (kp_alloc _ _))
    · go_simp
      refine hK _ _ ?_
      clear hK K
      all_goals exact st_134_1 _ _ _ _ (Kp.trans hk (kp_alloc _ _)) (MK3.out w' hk) (KP4.out _ _ _ r4 (kp_alloc _ _))
  have st_12_0 : ∀ (v1 : Value) (v2 : Value) (w' : World), Kp wd w' → R1 v1 w' → R2 v2 w' → wpAny Tryd.prog .any ops18 Q 11 #[true, true, true, true, true, true, true, true, false, true, true, true, true, false, true, true, true, false, false, false, true, true, true, false, false, false, false, false, false] { tmps := #[x0, x1, x2, x3, x4, x5, x6, x7, x8, x9, x10, x11, x12, x13, x14, x15, x16, x17, x18, x19, x20, x21, x22, x23, x24, x25, x26, x27, x28, x29, x30, x31, x32, x33, x34, x35, x36, x37, x38, x39, x40, x41, x42, x43, x44, x45, x46, x47, x48, x49, x50, x51, x52, x53, x54, x55, x56, x57, x58, x59, x60, x61, x62, x63, x64, x65, x66, x67, x68, x69, x70, x71, x72, .bool true, .slice a1 n1 c1, v1, x76, x77, x78, .slice a2 n2 c2, v2, x81, x82, x83, .slice a3 n3 c3, x85, x86, x87, x88, x89, .slice a4 n4 c4, x91, x92, x93, x94, x95], defers := [] } w' := by
    intro v1 v2 w' hk r1 r2
    refine wpAny_ready (rs := [8, 17, 23]) (by kernel_rfl) (by simp) ?_
    refine (AllReady.cons rfl (fun K hK => ?_) (AllReady.cons rfl (fun K hK => ?_) (AllReady.cons rfl (fun K hK => ?_) AllReady.nil)))
    · go_simp
      go_wp2_with (go_at_call 9; (with_reducible refine (CL1.out _ _ hk r1).mono ?_); rintro e w3 ⟨rfl, rfl⟩)
      all_goals exact st_12_1 _ _ _ hk r2
    · go_simp
      refine hK _ _ ?_
      clear hK K
      all_goals exact st_123_0 _ _ _ _ (Kp.trans hk (kp_alloc _ _)) (KP1.out _ _ _ r1 (kp_alloc _ _)) (KP2.out _ _ _ r2 (kp_alloc _ _)) (MK3.out w' hk)
    · go_simp
      refine hK _ _ ?_
      clear hK K
      all_goals exact st_124_0 _ _ _ _ (Kp.trans hk (kp_alloc _ _)) (KP1.out _ _ _ r1 (kp_alloc _ _)) (KP2.out _ _ _ r2 (kp_alloc _ _)) (MK4.out w' hk)
  have st_13_0 : ∀ (v1 : Value) (v3 : Value) (w' : World), Kp wd w' → R1 v1 w' → R3 v3 w' → wpAny Tryd.prog .any ops18 Q 11 #[true, true, true, true, true, true, true, true, false, true, true, true, false, false, true, true, true, true, false, false, true, true, true, false, false, false, false, false, false] { tmps := #[x0, x1, x2, x3, x4, x5, x6, x7, x8, x9, x10, x11, x12, x13, x14, x15, x16, x17, x18, x19, x20, x21, x22, x23, x24, x25, x26, x27, x28, x29, x30, x31, x32, x33, x34, x35, x36, x37, x38, x39, x40, x41, x42, x43, x44, x45, x46, x47, x48, x49, x50, x51, x52, x53, x54, x55, x56, x57, x58, x59, x60, x61, x62, x63, x64, x65, x66, x67, x68, x69, x70, x71, x72, .bool true, .slice a1 n1 c1, v1, x76, x77, x78, .slice a2 n2 c2, x80, x81, x82, x83, .slice a3 n3 c3, v3, x86, x87, x88, x89, .slice a4 n4 c4, x91, x92, x93, x94, x95], defers := [] } w' := by
    intro v1 v3 w' hk r1 r3
    refine wpAny_ready (rs := [8, 12, 23]) (by kernel_rfl) (by simp) ?_
    refine (AllReady.cons rfl (fun K hK => ?_) (AllReady.cons rfl (fun K hK => ?_) (AllReady.cons rfl (fun K hK => ?_) AllReady.nil)))
    · go_simp
      go_wp2_with (go_at_call 9; (with_reducible refine (CL1.out _ _ hk r1).mono ?_); rintro e w3 ⟨rfl, rfl⟩)
      all_goals exact st_13_1 _ _ _ hk r3
    · go_simp
      refine hK _ _ ?_
      clear hK K
      all_goals exact st_123_0 _ _ _ _ (Kp.trans hk (kp_alloc _ _)) (KP1.out _ _ _ r1 (kp_alloc _ _)) (MK2.out w' hk) (KP3.out _ _ _ r3 (kp_alloc _ _))
    · go_simp
      refine hK _ _ ?_
      clear hK K
      all_goals exact st_134_0 _ _ _ _ (Kp.trans hk (kp_alloc _ _)) (KP1.out _ _ _ r1 (kp_alloc _ _)) (KP3.out _ _ _ r3 (kp_alloc _ _)) (MK4.out w' hk)
  have st_14_0 : ∀ (v1 : Value) (v4 : Value) (w' : World), Kp wd w' → R1 v1 w' → R4 v4 w' → wpAny Tryd.prog .any ops18 Q 11 #[true, true, true, true, true, true, true, true, false, true, true, true, false, false, true, true, true, false, false, false, true, true, true, true, false, false, false, false, false] { tmps := #[x0, x1, x2, x3, x4, x5, x6, x7, x8, x9, x10, x11, x12, x13, x14, x15, x16, x17, x18, x19, x20, x21, x22, x23, x24, x25, x26, x27, x28, x29, x30, x31, x32, x33, x34, x35, x36, x37, x38, x39, x40, x41, x42, x43, x44, x45, x46, x47, x48, x49, x50, x51, x52, x53, x54, x55, x56, x57, x58, x59, x60, x61, x62, x63, x64, x65, x66, x67, x68, x69, x70, x71, x72, .bool true, .slice a1 n1 c1, v1, x76, x77, x78, .slice a2 n2 c2, x80, x81, x82, x83, .slice a3 n3 c3, x85, x86, x87, x88, x89, .slice a4 n4 c4, v4, x92, x93, x94, x95], defers := [] } w' := by
    intro v1 v4 w' hk r1 r4
    refine wpAny_ready (rs := [8, 12, 17]) (by kernel_rfl) (by simp) ?_
    refine (AllReady.cons rfl (fun K hK => ?_) (AllReady.cons rfl (fun K hK => ?_) (AllReady.cons rfl (fun K hK => ?_) AllReady.nil)))
    · go_simp
      go_wp2_with (go_at_call 9; (with_reducible refine (CL1.out _ _ hk r1).mono ?_); rintro e w3 ⟨rfl, rfl⟩)
      all_goals exact st_14_1 _ _ _ hk r4
    · go_simp
      refine hK _ _ ?_
      clear hK K
      all_goals exact st_124_0 _ _ _ _ (Kp.trans hk (kp_alloc _ _)) (KP1.out _ _ _ r1 (kp_alloc _ _)) (MK2.out w' hk) (KP4.out _ _ _ r4 (kp_alloc _ _))
    · go_simp
      refine hK _ _ ?_
      clear hK K
      all_goals exact st_134_0 _ _ _ _ (Kp.trans hk (kp_alloc _ _)) (KP1.out _ _ _ r1 (kp_alloc _ _)) (MK3.out w' hk) (KP4.out _ _ _ r4 (kp_alloc _ _))
  have st_23_0 : ∀ (v2 : Value) (v3 : Value) (w' : World), Kp wd w' → R2 v2 w' → R3 v3 w' → wpAny Tryd.prog .any ops18 Q 11 #[true, true, true, true, true, true, true, false, false, true, true, true, true, false, true, true, true, true, false, false, true, true, true, false, false, false, false, false, false] { tmps := #[x0, x1, x2, x3, x4, x5, x6, x7, x8, x9, x10, x11, x12, x13, x14, x15, x16, x17, x18, x19, x20, x21, x22, x23, x24, x25, x26, x27, x28, x29, x30, x31, x32, x33, x34, x35, x36, x37, x38, x39, x40, x41, x42, x43, x44, x45, x46, x47, x48, x49, x50, x51, x52, x53, x54, x55, x56, x57, x58, x59, x60, x61, x62, x63, x64, x65, x66, x67, x68, x69, x70, x71, x72, .bool true, .slice a1 n1 c1, x75, x76, x77, x78, .slice a2 n2 c2, v2, x81, x82, x83, .slice a3 n3 c3, v3, x86, x87, x88, x89, .slice a4 n4 c4, x91, x92, x93, x94, x95], defers := [] } w' := by
    intro v2 v3 w' hk r2 r3
    refine wpAny_ready (rs := [7, 23]) (by kernel_rfl) (by simp) ?_
    refine (AllReady.cons rfl (fun K hK => ?_) (AllReady.cons rfl (fun K hK => ?_) AllReady.nil))
    · go_simp
      refine hK _ _ ?_
      clear hK K
      all_goals exact st_123_0 _ _ _ _ (Kp.trans hk (kp_alloc _ _)) (MK1.out w' hk) (KP2.out _ _ _ r2 (kp_alloc _ _)) (KP3.out _ _ _ r3 (kp_alloc _ _))
    · go_simp
      refine hK _ _ ?_
      clear hK K
      all_goals exact st_234_0 _ _ _ _ (Kp.trans hk (kp_alloc _ _)) (KP2.out _ _ _ r2 (kp_alloc _ _)) (KP3.out _ _ _ r3 (kp_alloc _ _)) (MK4.out w' hk)
  have st_24_0 : ∀ (v2 : Value) (v4 : Value) (w' : World), Kp wd w' → R2 v2 w' → R4 v4 w' → wpAny Tryd.prog .any ops18 Q 11 #[true, true, true, true, true, true, true, false, false, true, true, true, true, false, true, true, true, false, false, false, true, true, true, true, false, false, false, false, false] { tmps := #[x0, x1, x2, x3, x4, x5, x6, x7, x8, x9, x10, x11, x12, x13, x14, x15, x16, x17, x18, x19, x20, x21, x22, x23, x24, x25, x26, x27, x28, x29, x30, x31, x32, x33, x34, x35, x36, x37, x38, x39, x40, x41, x42, x43, x44, x45, x46, x47, x48, x49, x50, x51, x52, x53, x54, x55, x56, x57, x58, x59, x60, x61, x62, x63, x64, x65, x66, x67, x68, x69, x70, x71, x72, .bool true, .slice a1 n1 c1, x75, x76, x77, x78, .slice a2 n2 c2, v2, x81, x82, x83, .slice a3 n3 c3, x85, x86, x87, x88, x89, .slice a4 n4 c4, v4, x92, x93, x94, x95], defers := [] } w' := by
    intro v2 v4 w' hk r2 r4
    refine wpAny_ready (rs := [7, 17]) (by kernel_rfl) (by simp) ?_
    refine (AllReady.cons rfl (fun K hK => ?_) (AllReady.cons rfl (fun K hK => ?_) AllReady.nil))
    · go_simp
      refine hK _ _ ?_
      clear hK K
      all_goals exact st_124_0 _ _ _ _ (Kp.trans hk (kp_alloc _ _)) (MK1.out w' hk) (KP2.out _ _ _ r2 (kp_alloc _ _)) (KP4.out _ _ _ r4 (kp_alloc _ _))
    · go_simp
      refine hK _ _ ?_
      clear hK K
      all_goals exact st_234_0 _ _ _ _ (Kp.trans hk (kp_alloc _ _)) (KP2.out _ _ _ r2 (kp_alloc _ _)) (MK3.out w' hk) (KP4.out _ _ _ r4 (kp_alloc _ _))
  have st_34_0 : ∀ (v3 : Value) (v4 : Value) (w' : World), Kp wd w' → R3 v3 w' → R4 v4 w' → wpAny Tryd.prog .any ops18 Q 11 #[true, true, true, true, true, true, true, false, false, true, true, true, false, false, true, true, true, true, false, false, true, true, true, true, false, false, false, false, false] { tmps := #[x0, x1, x2, x3, x4, x5, x6, x7, x8, x9, x10, x11, x12, x13, x14, x15, x16, x17, x18, x19, x20, x21, x22, x23, x24, x25, x26, x27, x28, x29, x30, x31, x32, x33, x34, x35, x36, x37, x38, x39, x40, x41, x42, x43, x44, x45, x46, x47, x48, x49, x50, x51, x52, x53, x54, x55, x56, x57, x58, x59, x60, x61, x62, x63, x64, x65, x66, x67, x68, x69, x70, x71, x72, .bool true, .slice a1 n1 c1, x75, x76, x77, x78, .slice a2 n2 c2, x80, x81, x82, x83, .slice a3 n3 c3, v3, x86, x87, x88, x89, .slice a4 n4 c4, v4, x92, x93, x94, x95], defers := [] } w' := by
    intro v3 v4 w' hk r3 r4
    refine wpAny_ready (rs := [7, 12]) (by kernel_rfl) (by simp) ?_
    refine (AllReady.cons rfl (fun K hK => ?_) (AllReady.cons rfl (fun K hK => ?_) AllReady.nil))
    · go_simp
      refine hK _ _ ?_
      clear hK K
      all_goals exact st_134_0 _ _ _ _ (Kp.trans hk (kp_alloc _ _)) (MK1.out w' hk) (KP3.out _ _ _ r3 (kp_alloc _ _)) (KP4.out _ _ _ r4 (kp_alloc _ _))
    · go_simp
      refine hK _ _ ?_
      clear hK K
      all_goals exact st_234_0 _ _ _ _ (Kp.trans hk (kp_alloc _ _)) (MK2.out w' hk) (KP3.out _ _ _ r3 (kp_alloc _ _)) (KP4.out _ _ _ r4 (kp_alloc _ _))
  have st_1_1 : ∀ (v1 : Value) (w' : World), Kp wd w' → wpAny Tryd.prog .any ops18 Q 11 #[true, true, true, true, true, true, true, true, true, true, true, true, false, false, true, true, true, false, false, false, true, true, true, false, false, false, false, false, false] { tmps := #[x0, x1, x2, x3, x4, x5, x6, x7, x8, x9, x10, x11, x12, x13, x14, x15, x16, x17, x18, x19, x20, x21, x22, x23, x24, x25, x26, x27, x28, x29, x30, x31, x32, x33, x34, x35, x36, x37, x38, x39, x40, x41, x42, x43, x44, x45, x46, x47, x48, x49, x50, x51, x52, x53, x54, x55, x56, x57, x58, x59, x60, x61, x62, x63, x64, x65, x66, x67, x68, x69, x70, x71, x72, .bool true, .slice a1 n1 c1, v1, .int .u32 y1, x77, x78, .slice a2 n2 c2, x80, x81, x82, x83, .slice a3 n3 c3, x85, x86, x87, x88, x89, .slice a4 n4 c4, x91, x92, x93, x94, x95], defers := [] } w' := by
    intro v1 w' hk 
    refine wpAny_ready (rs := [12, 17, 23]) (by kernel_rfl) (by simp) ?_
    refine (AllReady.cons rfl (fun K hK => ?_) (AllReady.cons rfl (fun K hK => ?_) (AllReady.cons rfl (fun K hK => ?_) AllReady.nil)))
    · go_simp
      refine hK _ _ ?_
      clear hK K
      all_goals exact st_12_1 _ _ _ (Kp.trans hk (kp_alloc _ _)) (MK2.out w' hk)
    · go_simp
      refine hK _ _ ?_
      clear hK K
      all_goals exact st_13_1 _ _ _ (Kp.trans hk (kp_alloc _ _)) (MK3.out w' hk)
    · go_simp
      refine hK _ _ ?_
      clear hK K
      all_goals exact st_14_1 _ _ _ (Kp.trans hk (kp_alloc _ _)) (MK4.out w' hk)
  have st_1_0 : ∀ (v1 : Value) (w' : World), Kp wd w' → R1 v1 w' → wpAny Tryd.prog .any ops18 Q 12 #[true, true, true, true, true, true, true, true, false, true, true, true, false, false, true, true, true, false, false, false, true, true, true, false, false, false, false, false, false] { tmps := #[x0, x1, x2, x3, x4, x5, x6, x7, x8, x9, x10, x11, x12, x13, x14, x15, x16, x17, x18, x19, x20, x21, x22, x23, x24, x25, x26, x27, x28, x29, x30, x31, x32, x33, x34, x35, x36, x37, x38, x39, x40, x41, x42, x43, x44, x45, x46, x47, x48, x49, x50, x51, x52, x53, x54, x55, x56, x57, x58, x59, x60, x61, x62, x63, x64, x65, x66, x67, x68, x69, x70, x71, x72, .bool true, .slice a1 n1 c1, v1, x76, x77, x78, .slice a2 n2 c2, x80, x81, x82, x83, .slice a3 n3 c3, x85, x86, x87, x88, x89, .slice a4 n4 c4, x91, x92, x93, x94, x95], defers := [] } w' := by
    intro v1 w' hk r1
    refine wpAny_ready (rs := [8, 12, 17, 23]) (by kernel_rfl) (by simp) ?_
    refine (AllReady.cons rfl (fun K hK => ?_) (AllReady.cons rfl (fun K hK => ?_) (AllReady.cons rfl (fun K hK => ?_) (AllReady.cons rfl (fun K hK => ?_) AllReady.nil))))
    · go_simp
      go_wp2_with (go_at_call 9; (with_reducible refine (CL1.out _ _ hk r1).mono ?_); rintro e w3 ⟨rfl, rfl⟩)
      all_goals exact st_1_1 _ _ hk 
    · go_simp
      refine hK _ _ ?_
      clear hK K
      all_goals exact st_12_0 _ _ _ (Kp.trans hk (kp_alloc _ _)) (KP1.out _ _ _ r1 (kp_alloc _ _)) (MK2.out w' hk)
    · go_simp
      refine hK _ _ ?_
      clear hK K
      all_goals exact st_13_0 _ _ _ (Kp.trans hk (kp_alloc _ _)) (KP1.out _ _ _ r1 (kp_alloc _ _)) (MK3.out w' hk)
    · go_simp
      refine hK _ _ ?_
      clear hK K
      all_goals exact st_14_0 _ _ _ (Kp.trans hk (kp_alloc _ _)) (KP1.out _ _ _ r1 (kp_alloc _ _)) (MK4.out w' hk)
  have st_2_0 : ∀ (v2 : Value) (w' : World), Kp wd w' → R2 v2 w' → wpAny Tryd.prog .any ops18 Q 12 #[true, true, true, true, true, true, true, false, false, true, true, true, true, false, true, true, true, false, false, false, true, true, true, false, false, false, false, false, false] { tmps := #[x0, x1, x2, x3, x4, x5, x6, x7, x8, x9, x10, x11, x12, x13, x14, x15, x16, x17, x18, x19, x20, x21, x22, x23, x24, x25, x26, x27, x28, x29, x30, x31, x32, x33, x34, x35, x36, x37, x38, x39, x40, x41, x42, x43, x44, x45, x46, x47, x48, x49, x50, x51, x52, x53, x54, x55, x56, x57, x58, x59, x60, x61, x62, x63, x64, x65, x66, x67, x68, x69, x70, x71, x72, .bool true, .slice a1 n1 c1, x75, x76, x77, x78, .slice a2 n2 c2, v2, x81, x82, x83, .slice a3 n3 c3, x85, x86, x87, x88, x89, .slice a4 n4 c4, x91, x92, x93, x94, x95], defers := [] } w' := by
    intro v2 w' hk r2
    refine wpAny_ready (rs := [7, 17, 23]) (by kernel_rfl) (by simp) ?_
    refine (AllReady.cons rfl (fun K hK => ?_) (AllReady.cons rfl (fun K hK => ?_) (AllReady.cons rfl (fun K hK => ?_) AllReady.nil)))
    · go_simp
      refine hK _ _ ?_
      clear hK K
      all_goals exact st_12_0 _ _ _ (Kp.trans hk (kp_alloc _ _)) (MK1.out w' hk) (KP2.out _ _ _ r2 (kp_alloc _ _))
    · go_simp
      refine hK _ _ ?_
      clear hK K
      all_goals exact st_23_0 _ _ _ (Kp.trans hk (kp_alloc _ _)) (KP2.out _ _ _ r2 (kp_alloc _ _)) (MK3.out w' hk)
    · go_simp
      refine hK _ _ ?_
      clear hK K
      all_goals exact st_24_0 _ _ _ (Kp.trans hk (kp_alloc _ _)) (KP2.out _ _ _ r2 (kp_alloc _ _)) (MK4.out w' hk)
  have st_3_0 : ∀ (v3 : Value) (w' : World), Kp wd w' → R3 v3 w' → wpAny Tryd.prog .any ops18 Q 12 #[true, true, true, true, true, true, true, false, false, true, true, true, false, false, true, true, true, true, false, false, true, true, true, false, false, false, false, false, false] { tmps := #[x0, x1, x2, x3, x4, x5, x6, x7, x8, x9, x10, x11, x12, x13, x14, x15, x16, x17, x18, x19, x20, x21, x22, x23, x24, x25, x26, x27, x28, x29, x30, x31, x32, x33, x34, x35, x36, x37, x38, x39, x40, x41, x42, x43, x44, x45, x46, x47, x48, x49, x50, x51, x52, x53, x54, x55, x56, x57, x58, x59, x60, x61, x62, x63, x64, x65, x66, x67, x68, x69, x70, x71, x72, .bool true, .slice a1 n1 c1, x75, x76, x77, x78, .slice a2 n2 c2, x80, x81, x82, x83, .slice a3 n3 c3, v3, x86, x87, x88, x89, .slice a4 n4 c4, x91, x92, x93, x94, x95], defers := [] } w' := by
    intro v3 w' hk r3
    refine wpAny_ready (rs := [7, 12, 23]) (by kernel_rfl) (by simp) ?_
    refine (AllReady.cons rfl (fun K hK => ?_) (AllReady.cons rfl (fun K hK => ?_) (AllReady.cons rfl (fun K hK => ?_) AllReady.nil)))
    · go_simp
      refine hK _ _ ?_
      clear hK K
      all_goals exact st_13_0 _ _ _ (Kp.trans hk (kp_alloc _ _)) (MK1.out w' hk) (KP3.out _ _ _ r3 (kp_alloc _ _))
    · go_simp
      refine hK _ _ ?_
      clear hK K
      all_goals exact st_23_0 _ _ _ (Kp.trans hk (kp_alloc _ _)) (MK2.out w' hk) (KP3.out _ _ _ r3 (kp_alloc _ _))
    · go_simp
      refine hK _ _ ?_
      clear hK K
      all_goals exact st_34_0 _ _ _ (Kp.trans hk (kp_alloc _ _)) (KP3.out _ _ _ r3 (kp_alloc _ _)) (MK4.out w' hk)
  have st_4_0 : ∀ (v4 : Value) (w' : World), Kp wd w' → R4 v4 w' → wpAny Tryd.prog .any ops18 Q 12 #[true, true, true, true, true, true, true, false, false, true, true, true, false, false, true, true, true, false, false, false, true, true, true, true, false, false, false, false, false] { tmps := #[x0, x1, x2, x3, x4, x5, x6, x7, x8, x9, x10, x11, x12, x13, x14, x15, x16, x17, x18, x19, x20, x21, x22, x23, x24, x25, x26, x27, x28, x29, x30, x31, x32, x33, x34, x35, x36, x37, x38, x39, x40, x41, x42, x43, x44, x45, x46, x47, x48, x49, x50, x51, x52, x53, x54, x55, x56, x57, x58, x59, x60, x61, x62, x63, x64, x65, x66, x67, x68, x69, x70, x71, x72, .bool true, .slice a1 n1 c1, x75, x76, x77, x78, .slice a2 n2 c2, x80, x81, x82, x83, .slice a3 n3 c3, x85, x86, x87, x88, x89, .slice a4 n4 c4, v4, x92, x93, x94, x95], defers := [] } w' := by
    intro v4 w' hk r4
    refine wpAny_ready (rs := [7, 12, 17]) (by kernel_rfl) (by simp) ?_
    refine (AllReady.cons rfl (fun K hK => ?_) (AllReady.cons rfl (fun K hK => ?_) (AllReady.cons rfl (fun K hK => ?_) AllReady.nil)))
    · go_simp
      refine hK _ _ ?_
      clear hK K
      all_goals exact st_14_0 _ _ _ (Kp.trans hk (kp_alloc _ _)) (MK1.out w' hk) (KP4.out _ _ _ r4 (kp_alloc _ _))
    · go_simp
      refine hK _ _ ?_
      clear hK K
      all_goals exact st_24_0 _ _ _ (Kp.trans hk (kp_alloc _ _)) (MK2.out w' hk) (KP4.out _ _ _ r4 (kp_alloc _ _))
    · go_simp
      refine hK _ _ ?_
      clear hK K
      all_goals exact st_34_0 _ _ _ (Kp.trans hk (kp_alloc _ _)) (MK3.out w' hk) (KP4.out _ _ _ r4 (kp_alloc _ _))
  have st__0 : ∀ (w' : World), Kp wd w' → wpAny Tryd.prog .any ops18 Q 13 #[true, true, true, true, true, true, true, false, false, true, true, true, false, false, true, true, true, false, false, false, true, true, true, false, false, false, false, false, false] { tmps := #[x0, x1, x2, x3, x4, x5, x6, x7, x8, x9, x10, x11, x12, x13, x14, x15, x16, x17, x18, x19, x20, x21, x22, x23, x24, x25, x26, x27, x28, x29, x30, x31, x32, x33, x34, x35, x36, x37, x38, x39, x40, x41, x42, x43, x44, x45, x46, x47, x48, x49, x50, x51, x52, x53, x54, x55, x56, x57, x58, x59, x60, x61, x62, x63, x64, x65, x66, x67, x68, x69, x70, x71, x72, .bool true, .slice a1 n1 c1, x75, x76, x77, x78, .slice a2 n2 c2, x80, x81, x82, x83, .slice a3 n3 c3, x85, x86, x87, x88, x89, .slice a4 n4 c4, x91, x92, x93, x94, x95], defers := [] } w' := by
    intro  w' hk 
    refine wpAny_ready (rs := [7, 12, 17, 23]) (by kernel_rfl) (by simp) ?_
    refine (AllReady.cons rfl (fun K hK => ?_) (AllReady.cons rfl (fun K hK => ?_) (AllReady.cons rfl (fun K hK => ?_) (AllReady.cons rfl (fun K hK => ?_) AllReady.nil))))
    · go_simp
      refine hK _ _ ?_
      clear hK K
      all_goals exact st_1_0 _ _ (Kp.trans hk (kp_alloc _ _)) (MK1.out w' hk)
    · go_simp
      refine hK _ _ ?_
      clear hK K
      all_goals exact st_2_0 _ _ (Kp.trans hk (kp_alloc _ _)) (MK2.out w' hk)
    · go_simp
      refine hK _ _ ?_
      clear hK K
      all_goals exact st_3_0 _ _ (Kp.trans hk (kp_alloc _ _)) (MK3.out w' hk)
    · go_simp
      refine hK _ _ ?_
      clear hK K
      all_goals exact st_4_0 _ _ (Kp.trans hk (kp_alloc _ _)) (MK4.out w' hk)
  exact st__0 wd (Kp.refl _)
end Go.Proofs.YtdcbmajmhfhaaaaDoor
