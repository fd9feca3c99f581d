import Derived.Test.YtobceegpcimdgaaQ19
namespace Go.Proofs.Ytobceegpcimdgaa
open Go.RowKit
set_option linter.unusedVariables false
set_option linter.unusedSimpArgs false

/-- four numbers' boxes -/
structure Bx4' (w : World) (p : Nat) (s1 s2 s3 s4 : Bool) (a1 : Option Addr) (n1 c1 : Nat) (a2 : Option Addr) (n2 c2 : Nat) (a3 : Option Addr) (n3 c3 : Nat) (a4 : Option Addr) (n4 c4 : Nat) : Prop where
  a : w.heap[p]? = some (.cells #[.bool s1, .slice a1 n1 c1] 24)
  b : w.heap[p + 1]? = some (.cells #[.bool s2, .slice a2 n2 c2] 24)
  c : w.heap[p + 1 + 1]? = some (.cells #[.bool s3, .slice a3 n3 c3] 24)
  d : w.heap[p + 1 + 1 + 1]? = some (.cells #[.bool s4, .slice a4 n4 c4] 24)
theorem Bx4'.mk' (w : World) (s1 s2 s3 s4 : Bool) (a1 : Option Addr) (n1 c1 : Nat) (a2 : Option Addr) (n2 c2 : Nat) (a3 : Option Addr) (n3 c3 : Nat) (a4 : Option Addr) (n4 c4 : Nat) : Bx4' ((((w.alloc (.cells #[.bool s1, .slice a1 n1 c1] 24)).alloc (.cells #[.bool s2, .slice a2 n2 c2] 24)).alloc (.cells #[.bool s3, .slice a3 n3 c3] 24)).alloc (.cells #[.bool s4, .slice a4 n4 c4] 24)) w.heap.size s1 s2 s3 s4 a1 n1 c1 a2 n2 c2 a3 n3 c3 a4 n4 c4 := by
  have h := blk3 w (.cells #[.bool s1, .slice a1 n1 c1] 24) (.cells #[.bool s2, .slice a2 n2 c2] 24) (.cells #[.bool s3, .slice a3 n3 c3] 24)
  have hu := blk1 (((w.alloc (.cells #[.bool s1, .slice a1 n1 c1] 24)).alloc (.cells #[.bool s2, .slice a2 n2 c2] 24)).alloc (.cells #[.bool s3, .slice a3 n3 c3] 24)) (.cells #[.bool s4, .slice a4 n4 c4] 24)
  have g := (Gr.refl (((w.alloc (.cells #[.bool s1, .slice a1 n1 c1] 24)).alloc (.cells #[.bool s2, .slice a2 n2 c2] 24)).alloc (.cells #[.bool s3, .slice a3 n3 c3] 24))).alloc (.cells #[.bool s4, .slice a4 n4 c4] 24)
  refine ⟨keepO g h.1, keepO g h.2.1, keepO g h.2.2, ?_⟩
  have e : (((w.alloc (.cells #[.bool s1, .slice a1 n1 c1] 24)).alloc (.cells #[.bool s2, .slice a2 n2 c2] 24)).alloc (.cells #[.bool s3, .slice a3 n3 c3] 24)).heap.size = w.heap.size + 1 + 1 + 1 := by
    simp only [World.alloc, Array.size_push]
  rw [← e]
  exact hu
def RAw7 (t0 t3 t6 t8 t9 t11 t12 t13 t14 t15 t16 t17 t18 t19 t20 t21 t22 t23 t24 t25 t26 t27 t28 t29 t30 t31 t32 t33 t34 t35 t36 t37 t38 t39 t40 t41 t42 t43 t44 t45 t46 t47 t48 t49 t50 t51 t52 t53 t54 t55 t56 t57 t58 t59 t60 t61 t62 t63 t64 t65 t66 t67 t68 t69 t70 t71 t72 t73 t74 t75 t76 t77 t78 t79 t80 t81 t82 t83 t84 t85 t86 t87 : Value) (p0 n0 c0 p1 n1 c1 p2 n2 c2 p3 n3 c3 p4 n4 c4 p5 n5 c5 : Nat) (s0 s1 s2 s3 s4 s5 : Bool) (a0 a1 a2 a3 a4 a5 : Option Addr) (wq : World) : Exit → Act → World → Prop
  | .normal, a, w => ∃ u40 u41 u42 u43 u44 u45 u46 u47 u48 u49 u50 u51 u52 u53 u54 u55 u56 u57 u58 u59 u60 u61 u62 u63 u64 u65 u66 u67, a = { tmps := #[t0, .pointer (some ⟨p0, 0, none⟩), .pointer (some ⟨p1, 0, none⟩), t3, .pointer (some ⟨p2, 0, none⟩), .pointer (some ⟨p3, 0, none⟩), t6, .pointer (some ⟨p4, 0, none⟩), t8, t9, .pointer (some ⟨p5, 0, none⟩), t11, .bool true, t13, t14, t15, t16, t17, t18, t19, t20, t21, t22, t23, t24, t25, t26, t27, t28, t29, t30, t31, t32, t33, t34, t35, t36, t37, t38, t39, u40, u41, u42, u43, u44, u45, u46, u47, u48, u49, u50, u51, u52, u53, u54, u55, u56, u57, u58, u59, u60, u61, u62, u63, u64, u65, u66, u67, t68, t69, t70, t71, t72, t73, t74, t75, t76, t77, t78, t79, t80, t81, t82, t83, t84, t85, t86, t87], defers := [] } ∧ Gr wq w
  | _, _, _ => False
set_option maxRecDepth 100000 in
set_option maxHeartbeats 20000000 in
theorem regAw7 (t0 t3 t6 t8 t9 t11 t12 t13 t14 t15 t16 t17 t18 t19 t20 t21 t22 t23 t24 t25 t26 t27 t28 t29 t30 t31 t32 t33 t34 t35 t36 t37 t38 t39 t40 t41 t42 t43 t44 t45 t46 t47 t48 t49 t50 t51 t52 t53 t54 t55 t56 t57 t58 t59 t60 t61 t62 t63 t64 t65 t66 t67 t68 t69 t70 t71 t72 t73 t74 t75 t76 t77 t78 t79 t80 t81 t82 t83 t84 t85 t86 t87 : Value) (p0 n0 c0 p1 n1 c1 p2 n2 c2 p3 n3 c3 p4 n4 c4 p5 n5 c5 : Nat) (s0 s1 s2 s3 s4 s5 : Bool) (a0 a1 a2 a3 a4 a5 : Option Addr) (wq : World)
    (X0 : Hid (∀ w1, Gr wq w1 → Calls Try.prog 29 #[.int .i64 (-4)] w1 fun r w' => ∃ a b c d, r = .returned (.agg #[.bool a, .slice b c d]) ∧ Hid (Wh w' a b c d (-4)) ∧ Hid (Fresh w1.heap.size w' b c d) ∧ Gr w1 w'))
    (Y0 : Hid (∀ w1 s a n c, Gr wq w1 → Wh w1 s a n c (-4) → Calls Try.prog 19 #[.agg #[.bool s0, .slice a0 n0 c0], .agg #[.bool s, .slice a n c]] w1 fun r w' => r = .returned (.bool true) ∧ Gr w1 w'))
    (X1 : Hid (∀ w1, Gr wq w1 → Calls Try.prog 29 #[.int .i64 1] w1 fun r w' => ∃ a b c d, r = .returned (.agg #[.bool a, .slice b c d]) ∧ Hid (Wh w' a b c d 1) ∧ Hid (Fresh w1.heap.size w' b c d) ∧ Gr w1 w'))
    (Y1 : Hid (∀ w1 s a n c, Gr wq w1 → Wh w1 s a n c 1 → Calls Try.prog 19 #[.agg #[.bool s1, .slice a1 n1 c1], .agg #[.bool s, .slice a n c]] w1 fun r w' => r = .returned (.bool true) ∧ Gr w1 w'))
    (X2 : Hid (∀ w1, Gr wq w1 → Calls Try.prog 29 #[.int .i64 (-3)] w1 fun r w' => ∃ a b c d, r = .returned (.agg #[.bool a, .slice b c d]) ∧ Hid (Wh w' a b c d (-3)) ∧ Hid (Fresh w1.heap.size w' b c d) ∧ Gr w1 w'))
    (Y2 : Hid (∀ w1 s a n c, Gr wq w1 → Wh w1 s a n c (-3) → Calls Try.prog 19 #[.agg #[.bool s2, .slice a2 n2 c2], .agg #[.bool s, .slice a n c]] w1 fun r w' => r = .returned (.bool true) ∧ Gr w1 w'))
    (X3 : Hid (∀ w1, Gr wq w1 → Calls Try.prog 29 #[.int .i64 (-1)] w1 fun r w' => ∃ a b c d, r = .returned (.agg #[.bool a, .slice b c d]) ∧ Hid (Wh w' a b c d (-1)) ∧ Hid (Fresh w1.heap.size w' b c d) ∧ Gr w1 w'))
    (Y3 : Hid (∀ w1 s a n c, Gr wq w1 → Wh w1 s a n c (-1) → Calls Try.prog 19 #[.agg #[.bool s3, .slice a3 n3 c3], .agg #[.bool s, .slice a n c]] w1 fun r w' => r = .returned (.bool true) ∧ Gr w1 w'))
    (X4 : Hid (∀ w1, Gr wq w1 → Calls Try.prog 29 #[.int .i64 (-2)] w1 fun r w' => ∃ a b c d, r = .returned (.agg #[.bool a, .slice b c d]) ∧ Hid (Wh w' a b c d (-2)) ∧ Hid (Fresh w1.heap.size w' b c d) ∧ Gr w1 w'))
    (Y4 : Hid (∀ w1 s a n c, Gr wq w1 → Wh w1 s a n c (-2) → Calls Try.prog 19 #[.agg #[.bool s4, .slice a4 n4 c4], .agg #[.bool s, .slice a n c]] w1 fun r w' => r = .returned (.bool true) ∧ Gr w1 w'))
    (X5 : Hid (∀ w1, Gr wq w1 → Calls Try.prog 29 #[.int .i64 2] w1 fun r w' => ∃ a b c d, r = .returned (.agg #[.bool a, .slice b c d]) ∧ Hid (Wh w' a b c d 2) ∧ Hid (Fresh w1.heap.size w' b c d) ∧ Gr w1 w'))
    (Y5 : Hid (∀ w1 s a n c, Gr wq w1 → Wh w1 s a n c 2 → Calls Try.prog 19 #[.agg #[.bool s5, .slice a5 n5 c5], .agg #[.bool s, .slice a n c]] w1 fun r w' => r = .returned (.bool true) ∧ Gr w1 w')) (G0 : Gr wq wq) (hcs : (wq.cell? ⟨p0, 0, none⟩ = some (.bool s0) ∧ wq.cell? ⟨p0, 1, none⟩ = some (.slice a0 n0 c0) ∧ wq.cell? ⟨p1, 0, none⟩ = some (.bool s1) ∧ wq.cell? ⟨p1, 1, none⟩ = some (.slice a1 n1 c1) ∧ wq.cell? ⟨p2, 0, none⟩ = some (.bool s2) ∧ wq.cell? ⟨p2, 1, none⟩ = some (.slice a2 n2 c2) ∧ wq.cell? ⟨p3, 0, none⟩ = some (.bool s3) ∧ wq.cell? ⟨p3, 1, none⟩ = some (.slice a3 n3 c3) ∧ wq.cell? ⟨p4, 0, none⟩ = some (.bool s4) ∧ wq.cell? ⟨p4, 1, none⟩ = some (.slice a4 n4 c4) ∧ wq.cell? ⟨p5, 0, none⟩ = some (.bool s5) ∧ wq.cell? ⟨p5, 1, none⟩ = some (.slice a5 n5 c5))) :
    Code.wp Try.prog (Code.region 5 #[{ dst := some 40, op := Op.load 24 (Operand.tmp 1), type := 24, pos := "law.go:20", after := #[], guard := none }, { dst := some 41, op := Op.call { callee := Callee.value (Operand.func 29), args := #[Operand.const (Value.int IntKind.i64 (-4))], argTypes := #[2] }, type := 24, pos := "law.go:20", after := #[], guard := none }, { dst := some 42, op := Op.call { callee := Callee.value (Operand.func 19), args := #[Operand.tmp 40, Operand.tmp 41], argTypes := #[24, 24] }, type := 4, pos := "law.go:20", after := #[{ on := 0, ground := Ground.data }, { on := 1, ground := Ground.data }, { on := 1, ground := Ground.chain }], guard := none }, { dst := some 43, op := Op.move (Operand.tmp 42), type := 4, pos := "law.go:20", after := #[{ on := 2, ground := Ground.data }, { on := 2, ground := Ground.chain }], guard := none }, { dst := some 44, op := Op.load 24 (Operand.tmp 2), type := 24, pos := "law.go:20", after := #[{ on := 3, ground := Ground.guard }], guard := some (3, true) }, { dst := some 45, op := Op.call { callee := Callee.value (Operand.func 29), args := #[Operand.const (Value.int IntKind.i64 1)], argTypes := #[2] }, type := 24, pos := "law.go:20", after := #[{ on := 3, ground := Ground.chain }, { on := 3, ground := Ground.guard }], guard := some (3, true) }, { dst := some 46, op := Op.call { callee := Callee.value (Operand.func 19), args := #[Operand.tmp 44, Operand.tmp 45], argTypes := #[24, 24] }, type := 4, pos := "law.go:20", after := #[{ on := 4, ground := Ground.data }, { on := 5, ground := Ground.data }, { on := 5, ground := Ground.chain }, { on := 3, ground := Ground.guard }], guard := some (3, true) }, { dst := some 47, op := Op.pick (Operand.tmp 43) (Operand.tmp 46) (Operand.const (Value.bool false)), type := 4, pos := "law.go:20", after := #[{ on := 3, ground := Ground.data }, { on := 6, ground := Ground.data }], guard := none }, { dst := some 48, op := Op.move (Operand.tmp 47), type := 4, pos := "law.go:20", after := #[{ on := 7, ground := Ground.data }, { on := 6, ground := Ground.chain }], guard := none }, { dst := some 49, op := Op.load 24 (Operand.tmp 4), type := 24, pos := "law.go:20", after := #[{ on := 8, ground := Ground.guard }], guard := some (8, true) }, { dst := some 50, op := Op.call { callee := Callee.value (Operand.func 29), args := #[Operand.const (Value.int IntKind.i64 (-3))], argTypes := #[2] }, type := 24, pos := "law.go:20", after := #[{ on := 8, ground := Ground.chain }, { on := 8, ground := Ground.guard }], guard := some (8, true) }, { dst := some 51, op := Op.call { callee := Callee.value (Operand.func 19), args := #[Operand.tmp 49, Operand.tmp 50], argTypes := #[24, 24] }, type := 4, pos := "law.go:20", after := #[{ on := 9, ground := Ground.data }, { on := 10, ground := Ground.data }, { on := 10, ground := Ground.chain }, { on := 8, ground := Ground.guard }], guard := some (8, true) }, { dst := some 52, op := Op.pick (Operand.tmp 48) (Operand.tmp 51) (Operand.const (Value.bool false)), type := 4, pos := "law.go:20", after := #[{ on := 8, ground := Ground.data }, { on := 11, ground := Ground.data }], guard := none }, { dst := some 53, op := Op.move (Operand.tmp 52), type := 4, pos := "law.go:20", after := #[{ on := 12, ground := Ground.data }, { on := 11, ground := Ground.chain }], guard := none }, { dst := some 54, op := Op.load 24 (Operand.tmp 5), type := 24, pos := "law.go:20", after := #[{ on := 13, ground := Ground.guard }], guard := some (13, true) }, { dst := some 55, op := Op.call { callee := Callee.value (Operand.func 29), args := #[Operand.const (Value.int IntKind.i64 (-1))], argTypes := #[2] }, type := 24, pos := "law.go:20", after := #[{ on := 13, ground := Ground.chain }, { on := 13, ground := Ground.guard }], guard := some (13, true) }, { dst := some 56, op := Op.call { callee := Callee.value (Operand.func 19), args := #[Operand.tmp 54, Operand.tmp 55], argTypes := #[24, 24] }, type := 4, pos := "law.go:20", after := #[{ on := 14, ground := Ground.data }, { on := 15, ground := Ground.data }, { on := 15, ground := Ground.chain }, { on := 13, ground := Ground.guard }], guard := some (13, true) }, { dst := some 57, op := Op.pick (Operand.tmp 53) (Operand.tmp 56) (Operand.const (Value.bool false)), type := 4, pos := "law.go:20", after := #[{ on := 13, ground := Ground.data }, { on := 16, ground := Ground.data }], guard := none }, { dst := some 58, op := Op.move (Operand.tmp 57), type := 4, pos := "law.go:20", after := #[{ on := 17, ground := Ground.data }, { on := 16, ground := Ground.chain }], guard := none }, { dst := some 59, op := Op.load 24 (Operand.tmp 7), type := 24, pos := "law.go:20", after := #[{ on := 18, ground := Ground.guard }], guard := some (18, true) }, { dst := some 60, op := Op.call { callee := Callee.value (Operand.func 29), args := #[Operand.const (Value.int IntKind.i64 (-2))], argTypes := #[2] }, type := 24, pos := "law.go:20", after := #[{ on := 18, ground := Ground.chain }, { on := 18, ground := Ground.guard }], guard := some (18, true) }, { dst := some 61, op := Op.call { callee := Callee.value (Operand.func 19), args := #[Operand.tmp 59, Operand.tmp 60], argTypes := #[24, 24] }, type := 4, pos := "law.go:20", after := #[{ on := 19, ground := Ground.data }, { on := 20, ground := Ground.data }, { on := 20, ground := Ground.chain }, { on := 18, ground := Ground.guard }], guard := some (18, true) }, { dst := some 62, op := Op.pick (Operand.tmp 58) (Operand.tmp 61) (Operand.const (Value.bool false)), type := 4, pos := "law.go:20", after := #[{ on := 18, ground := Ground.data }, { on := 21, ground := Ground.data }], guard := none }, { dst := some 63, op := Op.move (Operand.tmp 62), type := 4, pos := "law.go:20", after := #[{ on := 22, ground := Ground.data }, { on := 21, ground := Ground.chain }], guard := none }, { dst := some 64, op := Op.load 24 (Operand.tmp 10), type := 24, pos := "law.go:20", after := #[{ on := 23, ground := Ground.guard }], guard := some (23, true) }, { dst := some 65, op := Op.call { callee := Callee.value (Operand.func 29), args := #[Operand.const (Value.int IntKind.i64 2)], argTypes := #[2] }, type := 24, pos := "law.go:20", after := #[{ on := 23, ground := Ground.chain }, { on := 23, ground := Ground.guard }], guard := some (23, true) }, { dst := some 66, op := Op.call { callee := Callee.value (Operand.func 19), args := #[Operand.tmp 64, Operand.tmp 65], argTypes := #[24, 24] }, type := 4, pos := "law.go:20", after := #[{ on := 24, ground := Ground.data }, { on := 25, ground := Ground.data }, { on := 25, ground := Ground.chain }, { on := 23, ground := Ground.guard }], guard := some (23, true) }, { dst := some 67, op := Op.pick (Operand.tmp 63) (Operand.tmp 66) (Operand.const (Value.bool false)), type := 4, pos := "law.go:20", after := #[{ on := 23, ground := Ground.data }, { on := 26, ground := Ground.data }], guard := none }, { dst := some 12, op := Op.assign (Operand.tmp 67), type := 4, pos := "law.go:20", after := #[{ on := 27, ground := Ground.data }, { on := 26, ground := Ground.chain }, { on := 0, ground := Ground.phase }, { on := 1, ground := Ground.phase }, { on := 2, ground := Ground.phase }, { on := 3, ground := Ground.phase }, { on := 4, ground := Ground.phase }, { on := 5, ground := Ground.phase }, { on := 6, ground := Ground.phase }, { on := 7, ground := Ground.phase }, { on := 8, ground := Ground.phase }, { on := 9, ground := Ground.phase }, { on := 10, ground := Ground.phase }, { on := 11, ground := Ground.phase }, { on := 12, ground := Ground.phase }, { on := 13, ground := Ground.phase }, { on := 14, ground := Ground.phase }, { on := 15, ground := Ground.phase }, { on := 16, ground := Ground.phase }, { on := 17, ground := Ground.phase }, { on := 18, ground := Ground.phase }, { on := 19, ground := Ground.phase }, { on := 20, ground := Ground.phase }, { on := 21, ground := Ground.phase }, { on := 22, ground := Ground.phase }, { on := 23, ground := Ground.phase }, { on := 24, ground := Ground.phase }, { on := 25, ground := Ground.phase }, { on := 26, ground := Ground.phase }, { on := 27, ground := Ground.phase }], guard := none }] true) (RAw7 t0 t3 t6 t8 t9 t11 t12 t13 t14 t15 t16 t17 t18 t19 t20 t21 t22 t23 t24 t25 t26 t27 t28 t29 t30 t31 t32 t33 t34 t35 t36 t37 t38 t39 t40 t41 t42 t43 t44 t45 t46 t47 t48 t49 t50 t51 t52 t53 t54 t55 t56 t57 t58 t59 t60 t61 t62 t63 t64 t65 t66 t67 t68 t69 t70 t71 t72 t73 t74 t75 t76 t77 t78 t79 t80 t81 t82 t83 t84 t85 t86 t87 p0 n0 c0 p1 n1 c1 p2 n2 c2 p3 n3 c3 p4 n4 c4 p5 n5 c5 s0 s1 s2 s3 s4 s5 a0 a1 a2 a3 a4 a5 wq) { tmps := #[t0, .pointer (some ⟨p0, 0, none⟩), .pointer (some ⟨p1, 0, none⟩), t3, .pointer (some ⟨p2, 0, none⟩), .pointer (some ⟨p3, 0, none⟩), t6, .pointer (some ⟨p4, 0, none⟩), t8, t9, .pointer (some ⟨p5, 0, none⟩), t11, t12, t13, t14, t15, t16, t17, t18, t19, t20, t21, t22, t23, t24, t25, t26, t27, t28, t29, t30, t31, t32, t33, t34, t35, t36, t37, t38, t39, t40, t41, t42, t43, t44, t45, t46, t47, t48, t49, t50, t51, t52, t53, t54, t55, t56, t57, t58, t59, t60, t61, t62, t63, t64, t65, t66, t67, t68, t69, t70, t71, t72, t73, t74, t75, t76, t77, t78, t79, t80, t81, t82, t83, t84, t85, t86, t87], defers := [] } wq := by
  have hS0 : (wq.drew.cell? ⟨p0, 0, none⟩ = some (.bool s0) ∧ wq.drew.cell? ⟨p0, 1, none⟩ = some (.slice a0 n0 c0) ∧ wq.drew.cell? ⟨p1, 0, none⟩ = some (.bool s1) ∧ wq.drew.cell? ⟨p1, 1, none⟩ = some (.slice a1 n1 c1) ∧ wq.drew.cell? ⟨p2, 0, none⟩ = some (.bool s2) ∧ wq.drew.cell? ⟨p2, 1, none⟩ = some (.slice a2 n2 c2) ∧ wq.drew.cell? ⟨p3, 0, none⟩ = some (.bool s3) ∧ wq.drew.cell? ⟨p3, 1, none⟩ = some (.slice a3 n3 c3) ∧ wq.drew.cell? ⟨p4, 0, none⟩ = some (.bool s4) ∧ wq.drew.cell? ⟨p4, 1, none⟩ = some (.slice a4 n4 c4) ∧ wq.drew.cell? ⟨p5, 0, none⟩ = some (.bool s5) ∧ wq.drew.cell? ⟨p5, 1, none⟩ = some (.slice a5 n5 c5)) ∧ Gr wq wq.drew := ⟨hcs, G0.drew⟩
  clear hcs G0 
  refine wp_region_held_drew (S := fun w' => (w'.cell? ⟨p0, 0, none⟩ = some (.bool s0) ∧ w'.cell? ⟨p0, 1, none⟩ = some (.slice a0 n0 c0) ∧ w'.cell? ⟨p1, 0, none⟩ = some (.bool s1) ∧ w'.cell? ⟨p1, 1, none⟩ = some (.slice a1 n1 c1) ∧ w'.cell? ⟨p2, 0, none⟩ = some (.bool s2) ∧ w'.cell? ⟨p2, 1, none⟩ = some (.slice a2 n2 c2) ∧ w'.cell? ⟨p3, 0, none⟩ = some (.bool s3) ∧ w'.cell? ⟨p3, 1, none⟩ = some (.slice a3 n3 c3) ∧ w'.cell? ⟨p4, 0, none⟩ = some (.bool s4) ∧ w'.cell? ⟨p4, 1, none⟩ = some (.slice a4 n4 c4) ∧ w'.cell? ⟨p5, 0, none⟩ = some (.bool s5) ∧ w'.cell? ⟨p5, 1, none⟩ = some (.slice a5 n5 c5)) ∧ Gr wq w') (by kernel_rfl) hS0 (fun hHeld => ?_)
  clear hS0
  generalize wq.drew = wd at *
  refine wpAnyH_take (i := 0) (oi := ({ dst := some 40, op := Op.load 24 (Operand.tmp 1), type := 24, pos := "law.go:20", after := #[], guard := none } : Oper)) (v := ?_) rfl (by kernel_rfl) (by kernel_rfl) (by kernel_rfl) (fun _ _ _ h => h) (Or.inl ⟨by rfl, ?_⟩) (by with_reducible assumption) ?_
  rotate_left
  · intro w hSw
    (try dsimp only at hSw)
    first | (go_simp; done) | (go_simp; with_reducible rfl)
  (try simp only [Act.put, List.setIfInBounds_toArray, List.set_cons_zero, List.set_cons_succ])
  refine wpAnyH_ready (rs := [1]) (by kernel_rfl) (by simp) ?_
  refine AllReadyH.cons (o := ({ dst := some 41, op := Op.call { callee := Callee.value (Operand.func 29), args := #[Operand.const (Value.int IntKind.i64 (-4))], argTypes := #[2] }, type := 24, pos := "law.go:20", after := #[], guard := none } : Oper)) rfl (fun K hK => ?_) AllReadyH.nil
  go_simp
  with_reducible refine (X0.out _ hHeld.2).mono ?_
  rintro r wc1 ⟨s0', a0', n0', c0', rfl, N0_4, M0_5, gg3⟩
  replace N0_4 := N0_4.out
  replace M0_5 := M0_5.out
  refine hK.out _ _ ⟨⟨keepG gg3 hHeld.1.1, keepG gg3 hHeld.1.2.1, keepG gg3 hHeld.1.2.2.1, keepG gg3 hHeld.1.2.2.2.1, keepG gg3 hHeld.1.2.2.2.2.1, keepG gg3 hHeld.1.2.2.2.2.2.1, keepG gg3 hHeld.1.2.2.2.2.2.2.1, keepG gg3 hHeld.1.2.2.2.2.2.2.2.1, keepG gg3 hHeld.1.2.2.2.2.2.2.2.2.1, keepG gg3 hHeld.1.2.2.2.2.2.2.2.2.2.1, keepG gg3 hHeld.1.2.2.2.2.2.2.2.2.2.2.1, keepG gg3 hHeld.1.2.2.2.2.2.2.2.2.2.2.2⟩, hHeld.2.trans gg3⟩ (fun hH2 => ?_)
  have hzwc1 := hHeld.2.size
  clear hK K
  (try simp only [Act.put, List.setIfInBounds_toArray, List.set_cons_zero, List.set_cons_succ])
  refine wpAnyH_ready (rs := [2]) (by kernel_rfl) (by simp) ?_
  refine AllReadyH.cons (o := ({ dst := some 42, op := Op.call { callee := Callee.value (Operand.func 19), args := #[Operand.tmp 40, Operand.tmp 41], argTypes := #[24, 24] }, type := 4, pos := "law.go:20", after := #[{ on := 0, ground := Ground.data }, { on := 1, ground := Ground.data }, { on := 1, ground := Ground.chain }], guard := none } : Oper)) rfl (fun K hK => ?_) AllReadyH.nil
  go_simp
  with_reducible refine (Y0.out _ _ _ _ _ hH2.2 N0_4).mono ?_
  rintro r wc6 ⟨rfl, gg8⟩
  refine hK.out _ _ ⟨⟨keepG gg8 hH2.1.1, keepG gg8 hH2.1.2.1, keepG gg8 hH2.1.2.2.1, keepG gg8 hH2.1.2.2.2.1, keepG gg8 hH2.1.2.2.2.2.1, keepG gg8 hH2.1.2.2.2.2.2.1, keepG gg8 hH2.1.2.2.2.2.2.2.1, keepG gg8 hH2.1.2.2.2.2.2.2.2.1, keepG gg8 hH2.1.2.2.2.2.2.2.2.2.1, keepG gg8 hH2.1.2.2.2.2.2.2.2.2.2.1, keepG gg8 hH2.1.2.2.2.2.2.2.2.2.2.2.1, keepG gg8 hH2.1.2.2.2.2.2.2.2.2.2.2.2⟩, hH2.2.trans gg8⟩ (fun hH7 => ?_)
  have hzwc6 := hH2.2.size
  clear hK K
  (try simp only [Act.put, List.setIfInBounds_toArray, List.set_cons_zero, List.set_cons_succ])
  have N0_9 := N0_4.gr gg8
  clear N0_4
  have M0_10 := M0_5.gr gg8
  clear M0_5
  refine wpAnyH_take (i := 3) (oi := ({ dst := some 43, op := Op.move (Operand.tmp 42), type := 4, pos := "law.go:20", after := #[{ on := 2, ground := Ground.data }, { on := 2, ground := Ground.chain }], guard := none } : Oper)) (v := ?_) rfl (by kernel_rfl) (by kernel_rfl) (by kernel_rfl) (fun _ _ _ h => h) (Or.inl ⟨by rfl, ?_⟩) (by with_reducible assumption) ?_
  rotate_left
  · intro w hSw
    (try dsimp only at hSw)
    first | (go_simp; done) | (go_simp; with_reducible rfl)
  (try simp only [Act.put, List.setIfInBounds_toArray, List.set_cons_zero, List.set_cons_succ])
  refine wpAnyH_take (i := 4) (oi := ({ dst := some 44, op := Op.load 24 (Operand.tmp 2), type := 24, pos := "law.go:20", after := #[{ on := 3, ground := Ground.guard }], guard := some (3, true) } : Oper)) (v := ?_) rfl (by kernel_rfl) (by kernel_rfl) (by kernel_rfl) (fun _ _ _ h => h) (Or.inl ⟨by rfl, ?_⟩) (by with_reducible assumption) ?_
  rotate_left
  · intro w hSw
    (try dsimp only at hSw)
    first | (go_simp; done) | (go_simp; with_reducible rfl)
  (try simp only [Act.put, List.setIfInBounds_toArray, List.set_cons_zero, List.set_cons_succ])
  refine wpAnyH_ready (rs := [5]) (by kernel_rfl) (by simp) ?_
  refine AllReadyH.cons (o := ({ dst := some 45, op := Op.call { callee := Callee.value (Operand.func 29), args := #[Operand.const (Value.int IntKind.i64 1)], argTypes := #[2] }, type := 24, pos := "law.go:20", after := #[{ on := 3, ground := Ground.chain }, { on := 3, ground := Ground.guard }], guard := some (3, true) } : Oper)) rfl (fun K hK => ?_) AllReadyH.nil
  go_simp
  with_reducible refine (X1.out _ hH7.2).mono ?_
  rintro r wc11 ⟨s1', a1', n1', c1', rfl, N1_14, M1_15, gg13⟩
  replace N1_14 := N1_14.out
  replace M1_15 := M1_15.out
  refine hK.out _ _ ⟨⟨keepG gg13 hH7.1.1, keepG gg13 hH7.1.2.1, keepG gg13 hH7.1.2.2.1, keepG gg13 hH7.1.2.2.2.1, keepG gg13 hH7.1.2.2.2.2.1, keepG gg13 hH7.1.2.2.2.2.2.1, keepG gg13 hH7.1.2.2.2.2.2.2.1, keepG gg13 hH7.1.2.2.2.2.2.2.2.1, keepG gg13 hH7.1.2.2.2.2.2.2.2.2.1, keepG gg13 hH7.1.2.2.2.2.2.2.2.2.2.1, keepG gg13 hH7.1.2.2.2.2.2.2.2.2.2.2.1, keepG gg13 hH7.1.2.2.2.2.2.2.2.2.2.2.2⟩, hH7.2.trans gg13⟩ (fun hH12 => ?_)
  have hzwc11 := hH7.2.size
  clear hK K
  (try simp only [Act.put, List.setIfInBounds_toArray, List.set_cons_zero, List.set_cons_succ])
  have N0_16 := N0_9.gr gg13
  clear N0_9
  have M0_17 := M0_10.gr gg13
  clear M0_10
  refine wpAnyH_ready (rs := [6]) (by kernel_rfl) (by simp) ?_
  refine AllReadyH.cons (o := ({ dst := some 46, op := Op.call { callee := Callee.value (Operand.func 19), args := #[Operand.tmp 44, Operand.tmp 45], argTypes := #[24, 24] }, type := 4, pos := "law.go:20", after := #[{ on := 4, ground := Ground.data }, { on := 5, ground := Ground.data }, { on := 5, ground := Ground.chain }, { on := 3, ground := Ground.guard }], guard := some (3, true) } : Oper)) rfl (fun K hK => ?_) AllReadyH.nil
  go_simp
  with_reducible refine (Y1.out _ _ _ _ _ hH12.2 N1_14).mono ?_
  rintro r wc18 ⟨rfl, gg20⟩
  refine hK.out _ _ ⟨⟨keepG gg20 hH12.1.1, keepG gg20 hH12.1.2.1, keepG gg20 hH12.1.2.2.1, keepG gg20 hH12.1.2.2.2.1, keepG gg20 hH12.1.2.2.2.2.1, keepG gg20 hH12.1.2.2.2.2.2.1, keepG gg20 hH12.1.2.2.2.2.2.2.1, keepG gg20 hH12.1.2.2.2.2.2.2.2.1, keepG gg20 hH12.1.2.2.2.2.2.2.2.2.1, keepG gg20 hH12.1.2.2.2.2.2.2.2.2.2.1, keepG gg20 hH12.1.2.2.2.2.2.2.2.2.2.2.1, keepG gg20 hH12.1.2.2.2.2.2.2.2.2.2.2.2⟩, hH12.2.trans gg20⟩ (fun hH19 => ?_)
  have hzwc18 := hH12.2.size
  clear hK K
  (try simp only [Act.put, List.setIfInBounds_toArray, List.set_cons_zero, List.set_cons_succ])
  have N0_21 := N0_16.gr gg20
  clear N0_16
  have M0_22 := M0_17.gr gg20
  clear M0_17
  have N1_23 := N1_14.gr gg20
  clear N1_14
  have M1_24 := M1_15.gr gg20
  clear M1_15
  refine wpAnyH_take (i := 7) (oi := ({ dst := some 47, op := Op.pick (Operand.tmp 43) (Operand.tmp 46) (Operand.const (Value.bool false)), type := 4, pos := "law.go:20", after := #[{ on := 3, ground := Ground.data }, { on := 6, ground := Ground.data }], guard := none } : Oper)) (v := ?_) rfl (by kernel_rfl) (by kernel_rfl) (by kernel_rfl) (fun _ _ _ h => h) (Or.inl ⟨by rfl, ?_⟩) (by with_reducible assumption) ?_
  rotate_left
  · intro w hSw
    (try dsimp only at hSw)
    first | (go_simp; done) | (go_simp; with_reducible rfl)
  (try simp only [Act.put, List.setIfInBounds_toArray, List.set_cons_zero, List.set_cons_succ])
  refine wpAnyH_take (i := 8) (oi := ({ dst := some 48, op := Op.move (Operand.tmp 47), type := 4, pos := "law.go:20", after := #[{ on := 7, ground := Ground.data }, { on := 6, ground := Ground.chain }], guard := none } : Oper)) (v := ?_) rfl (by kernel_rfl) (by kernel_rfl) (by kernel_rfl) (fun _ _ _ h => h) (Or.inl ⟨by rfl, ?_⟩) (by with_reducible assumption) ?_
  rotate_left
  · intro w hSw
    (try dsimp only at hSw)
    first | (go_simp; done) | (go_simp; with_reducible rfl)
  (try simp only [Act.put, List.setIfInBounds_toArray, List.set_cons_zero, List.set_cons_succ])
  refine wpAnyH_take (i := 9) (oi := ({ dst := some 49, op := Op.load 24 (Operand.tmp 4), type := 24, pos := "law.go:20", after := #[{ on := 8, ground := Ground.guard }], guard := some (8, true) } : Oper)) (v := ?_) rfl (by kernel_rfl) (by kernel_rfl) (by kernel_rfl) (fun _ _ _ h => h) (Or.inl ⟨by rfl, ?_⟩) (by with_reducible assumption) ?_
  rotate_left
  · intro w hSw
    (try dsimp only at hSw)
    first | (go_simp; done) | (go_simp; with_reducible rfl)
  (try simp only [Act.put, List.setIfInBounds_toArray, List.set_cons_zero, List.set_cons_succ])
  refine wpAnyH_ready (rs := [10]) (by kernel_rfl) (by simp) ?_
  refine AllReadyH.cons (o := ({ dst := some 50, op := Op.call { callee := Callee.value (Operand.func 29), args := #[Operand.const (Value.int IntKind.i64 (-3))], argTypes := #[2] }, type := 24, pos := "law.go:20", after := #[{ on := 8, ground := Ground.chain }, { on := 8, ground := Ground.guard }], guard := some (8, true) } : Oper)) rfl (fun K hK => ?_) AllReadyH.nil
  go_simp
  with_reducible refine (X2.out _ hH19.2).mono ?_
  rintro r wc25 ⟨s2', a2', n2', c2', rfl, N2_28, M2_29, gg27⟩
  replace N2_28 := N2_28.out
  replace M2_29 := M2_29.out
  refine hK.out _ _ ⟨⟨keepG gg27 hH19.1.1, keepG gg27 hH19.1.2.1, keepG gg27 hH19.1.2.2.1, keepG gg27 hH19.1.2.2.2.1, keepG gg27 hH19.1.2.2.2.2.1, keepG gg27 hH19.1.2.2.2.2.2.1, keepG gg27 hH19.1.2.2.2.2.2.2.1, keepG gg27 hH19.1.2.2.2.2.2.2.2.1, keepG gg27 hH19.1.2.2.2.2.2.2.2.2.1, keepG gg27 hH19.1.2.2.2.2.2.2.2.2.2.1, keepG gg27 hH19.1.2.2.2.2.2.2.2.2.2.2.1, keepG gg27 hH19.1.2.2.2.2.2.2.2.2.2.2.2⟩, hH19.2.trans gg27⟩ (fun hH26 => ?_)
  have hzwc25 := hH19.2.size
  clear hK K
  (try simp only [Act.put, List.setIfInBounds_toArray, List.set_cons_zero, List.set_cons_succ])
  have N0_30 := N0_21.gr gg27
  clear N0_21
  have M0_31 := M0_22.gr gg27
  clear M0_22
  have N1_32 := N1_23.gr gg27
  clear N1_23
  have M1_33 := M1_24.gr gg27
  clear M1_24
  refine wpAnyH_ready (rs := [11]) (by kernel_rfl) (by simp) ?_
  refine AllReadyH.cons (o := ({ dst := some 51, op := Op.call { callee := Callee.value (Operand.func 19), args := #[Operand.tmp 49, Operand.tmp 50], argTypes := #[24, 24] }, type := 4, pos := "law.go:20", after := #[{ on := 9, ground := Ground.data }, { on := 10, ground := Ground.data }, { on := 10, ground := Ground.chain }, { on := 8, ground := Ground.guard }], guard := some (8, true) } : Oper)) rfl (fun K hK => ?_) AllReadyH.nil
  go_simp
  with_reducible refine (Y2.out _ _ _ _ _ hH26.2 N2_28).mono ?_
  rintro r wc34 ⟨rfl, gg36⟩
  refine hK.out _ _ ⟨⟨keepG gg36 hH26.1.1, keepG gg36 hH26.1.2.1, keepG gg36 hH26.1.2.2.1, keepG gg36 hH26.1.2.2.2.1, keepG gg36 hH26.1.2.2.2.2.1, keepG gg36 hH26.1.2.2.2.2.2.1, keepG gg36 hH26.1.2.2.2.2.2.2.1, keepG gg36 hH26.1.2.2.2.2.2.2.2.1, keepG gg36 hH26.1.2.2.2.2.2.2.2.2.1, keepG gg36 hH26.1.2.2.2.2.2.2.2.2.2.1, keepG gg36 hH26.1.2.2.2.2.2.2.2.2.2.2.1, keepG gg36 hH26.1.2.2.2.2.2.2.2.2.2.2.2⟩, hH26.2.trans gg36⟩ (fun hH35 => ?_)
  have hzwc34 := hH26.2.size
  clear hK K
  (try simp only [Act.put, List.setIfInBounds_toArray, List.set_cons_zero, List.set_cons_succ])
  have N0_37 := N0_30.gr gg36
  clear N0_30
  have M0_38 := M0_31.gr gg36
  clear M0_31
  have N1_39 := N1_32.gr gg36
  clear N1_32
  have M1_40 := M1_33.gr gg36
  clear M1_33
  have N2_41 := N2_28.gr gg36
  clear N2_28
  have M2_42 := M2_29.gr gg36
  clear M2_29
  refine wpAnyH_take (i := 12) (oi := ({ dst := some 52, op := Op.pick (Operand.tmp 48) (Operand.tmp 51) (Operand.const (Value.bool false)), type := 4, pos := "law.go:20", after := #[{ on := 8, ground := Ground.data }, { on := 11, ground := Ground.data }], guard := none } : Oper)) (v := ?_) rfl (by kernel_rfl) (by kernel_rfl) (by kernel_rfl) (fun _ _ _ h => h) (Or.inl ⟨by rfl, ?_⟩) (by with_reducible assumption) ?_
  rotate_left
  · intro w hSw
    (try dsimp only at hSw)
    first | (go_simp; done) | (go_simp; with_reducible rfl)
  (try simp only [Act.put, List.setIfInBounds_toArray, List.set_cons_zero, List.set_cons_succ])
  refine wpAnyH_take (i := 13) (oi := ({ dst := some 53, op := Op.move (Operand.tmp 52), type := 4, pos := "law.go:20", after := #[{ on := 12, ground := Ground.data }, { on := 11, ground := Ground.chain }], guard := none } : Oper)) (v := ?_) rfl (by kernel_rfl) (by kernel_rfl) (by kernel_rfl) (fun _ _ _ h => h) (Or.inl ⟨by rfl, ?_⟩) (by with_reducible assumption) ?_
  rotate_left
  · intro w hSw
    (try dsimp only at hSw)
    first | (go_simp; done) | (go_simp; with_reducible rfl)
  (try simp only [Act.put, List.setIfInBounds_toArray, List.set_cons_zero, List.set_cons_succ])
  refine wpAnyH_take (i := 14) (oi := ({ dst := some 54, op := Op.load 24 (Operand.tmp 5), type := 24, pos := "law.go:20", after := #[{ on := 13, ground := Ground.guard }], guard := some (13, true) } : Oper)) (v := ?_) rfl (by kernel_rfl) (by kernel_rfl) (by kernel_rfl) (fun _ _ _ h => h) (Or.inl ⟨by rfl, ?_⟩) (by with_reducible assumption) ?_
  rotate_left
  · intro w hSw
    (try dsimp only at hSw)
    first | (go_simp; done) | (go_simp; with_reducible rfl)
  (try simp only [Act.put, List.setIfInBounds_toArray, List.set_cons_zero, List.set_cons_succ])
  refine wpAnyH_ready (rs := [15]) (by kernel_rfl) (by simp) ?_
  refine AllReadyH.cons (o := ({ dst := some 55, op := Op.call { callee := Callee.value (Operand.func 29), args := #[Operand.const (Value.int IntKind.i64 (-1))], argTypes := #[2] }, type := 24, pos := "law.go:20", after := #[{ on := 13, ground := Ground.chain }, { on := 13, ground := Ground.guard }], guard := some (13, true) } : Oper)) rfl (fun K hK => ?_) AllReadyH.nil
  go_simp
  with_reducible refine (X3.out _ hH35.2).mono ?_
  rintro r wc43 ⟨s3', a3', n3', c3', rfl, N3_46, M3_47, gg45⟩
  replace N3_46 := N3_46.out
  replace M3_47 := M3_47.out
  refine hK.out _ _ ⟨⟨keepG gg45 hH35.1.1, keepG gg45 hH35.1.2.1, keepG gg45 hH35.1.2.2.1, keepG gg45 hH35.1.2.2.2.1, keepG gg45 hH35.1.2.2.2.2.1, keepG gg45 hH35.1.2.2.2.2.2.1, keepG gg45 hH35.1.2.2.2.2.2.2.1, keepG gg45 hH35.1.2.2.2.2.2.2.2.1, keepG gg45 hH35.1.2.2.2.2.2.2.2.2.1, keepG gg45 hH35.1.2.2.2.2.2.2.2.2.2.1, keepG gg45 hH35.1.2.2.2.2.2.2.2.2.2.2.1, keepG gg45 hH35.1.2.2.2.2.2.2.2.2.2.2.2⟩, hH35.2.trans gg45⟩ (fun hH44 => ?_)
  have hzwc43 := hH35.2.size
  clear hK K
  (try simp only [Act.put, List.setIfInBounds_toArray, List.set_cons_zero, List.set_cons_succ])
  have N0_48 := N0_37.gr gg45
  clear N0_37
  have M0_49 := M0_38.gr gg45
  clear M0_38
  have N1_50 := N1_39.gr gg45
  clear N1_39
  have M1_51 := M1_40.gr gg45
  clear M1_40
  have N2_52 := N2_41.gr gg45
  clear N2_41
  have M2_53 := M2_42.gr gg45
  clear M2_42
  refine wpAnyH_ready (rs := [16]) (by kernel_rfl) (by simp) ?_
  refine AllReadyH.cons (o := ({ dst := some 56, op := Op.call { callee := Callee.value (Operand.func 19), args := #[Operand.tmp 54, Operand.tmp 55], argTypes := #[24, 24] }, type := 4, pos := "law.go:20", after := #[{ on := 14, ground := Ground.data }, { on := 15, ground := Ground.data }, { on := 15, ground := Ground.chain }, { on := 13, ground := Ground.guard }], guard := some (13, true) } : Oper)) rfl (fun K hK => ?_) AllReadyH.nil
  go_simp
  with_reducible refine (Y3.out _ _ _ _ _ hH44.2 N3_46).mono ?_
  rintro r wc54 ⟨rfl, gg56⟩
  refine hK.out _ _ ⟨⟨keepG gg56 hH44.1.1, keepG gg56 hH44.1.2.1, keepG gg56 hH44.1.2.2.1, keepG gg56 hH44.1.2.2.2.1, keepG gg56 hH44.1.2.2.2.2.1, keepG gg56 hH44.1.2.2.2.2.2.1, keepG gg56 hH44.1.2.2.2.2.2.2.1, keepG gg56 hH44.1.2.2.2.2.2.2.2.1, keepG gg56 hH44.1.2.2.2.2.2.2.2.2.1, keepG gg56 hH44.1.2.2.2.2.2.2.2.2.2.1, keepG gg56 hH44.1.2.2.2.2.2.2.2.2.2.2.1, keepG gg56 hH44.1.2.2.2.2.2.2.2.2.2.2.2⟩, hH44.2.trans gg56⟩ (fun hH55 => ?_)
  have hzwc54 := hH44.2.size
  clear hK K
  (try simp only [Act.put, List.setIfInBounds_toArray, List.set_cons_zero, List.set_cons_succ])
  have N0_57 := N0_48.gr gg56
  clear N0_48
  have M0_58 := M0_49.gr gg56
  clear M0_49
  have N1_59 := N1_50.gr gg56
  clear N1_50
  have M1_60 := M1_51.gr gg56
  clear M1_51
  have N2_61 := N2_52.gr gg56
  clear N2_52
  have M2_62 := M2_53.gr gg56
  clear M2_53
  have N3_63 := N3_46.gr gg56
  clear N3_46
  have M3_64 := M3_47.gr gg56
  clear M3_47
  refine wpAnyH_take (i := 17) (oi := ({ dst := some 57, op := Op.pick (Operand.tmp 53) (Operand.tmp 56) (Operand.const (Value.bool false)), type := 4, pos := "law.go:20", after := #[{ on := 13, ground := Ground.data }, { on := 16, ground := Ground.data }], guard := none } : Oper)) (v := ?_) rfl (by kernel_rfl) (by kernel_rfl) (by kernel_rfl) (fun _ _ _ h => h) (Or.inl ⟨by rfl, ?_⟩) (by with_reducible assumption) ?_
  rotate_left
  · intro w hSw
    (try dsimp only at hSw)
    first | (go_simp; done) | (go_simp; with_reducible rfl)
  (try simp only [Act.put, List.setIfInBounds_toArray, List.set_cons_zero, List.set_cons_succ])
  refine wpAnyH_take (i := 18) (oi := ({ dst := some 58, op := Op.move (Operand.tmp 57), type := 4, pos := "law.go:20", after := #[{ on := 17, ground := Ground.data }, { on := 16, ground := Ground.chain }], guard := none } : Oper)) (v := ?_) rfl (by kernel_rfl) (by kernel_rfl) (by kernel_rfl) (fun _ _ _ h => h) (Or.inl ⟨by rfl, ?_⟩) (by with_reducible assumption) ?_
  rotate_left
  · intro w hSw
    (try dsimp only at hSw)
    first | (go_simp; done) | (go_simp; with_reducible rfl)
  (try simp only [Act.put, List.setIfInBounds_toArray, List.set_cons_zero, List.set_cons_succ])
  refine wpAnyH_take (i := 19) (oi := ({ dst := some 59, op := Op.load 24 (Operand.tmp 7), type := 24, pos := "law.go:20", after := #[{ on := 18, ground := Ground.guard }], guard := some (18, true) } : Oper)) (v := ?_) rfl (by kernel_rfl) (by kernel_rfl) (by kernel_rfl) (fun _ _ _ h => h) (Or.inl ⟨by rfl, ?_⟩) (by with_reducible assumption) ?_
  rotate_left
  · intro w hSw
    (try dsimp only at hSw)
    first | (go_simp; done) | (go_simp; with_reducible rfl)
  (try simp only [Act.put, List.setIfInBounds_toArray, List.set_cons_zero, List.set_cons_succ])
  refine wpAnyH_ready (rs := [20]) (by kernel_rfl) (by simp) ?_
  refine AllReadyH.cons (o := ({ dst := some 60, op := Op.call { callee := Callee.value (Operand.func 29), args := #[Operand.const (Value.int IntKind.i64 (-2))], argTypes := #[2] }, type := 24, pos := "law.go:20", after := #[{ on := 18, ground := Ground.chain }, { on := 18, ground := Ground.guard }], guard := some (18, true) } : Oper)) rfl (fun K hK => ?_) AllReadyH.nil
  go_simp
  with_reducible refine (X4.out _ hH55.2).mono ?_
  rintro r wc65 ⟨s4', a4', n4', c4', rfl, N4_68, M4_69, gg67⟩
  replace N4_68 := N4_68.out
  replace M4_69 := M4_69.out
  refine hK.out _ _ ⟨⟨keepG gg67 hH55.1.1, keepG gg67 hH55.1.2.1, keepG gg67 hH55.1.2.2.1, keepG gg67 hH55.1.2.2.2.1, keepG gg67 hH55.1.2.2.2.2.1, keepG gg67 hH55.1.2.2.2.2.2.1, keepG gg67 hH55.1.2.2.2.2.2.2.1, keepG gg67 hH55.1.2.2.2.2.2.2.2.1, keepG gg67 hH55.1.2.2.2.2.2.2.2.2.1, keepG gg67 hH55.1.2.2.2.2.2.2.2.2.2.1, keepG gg67 hH55.1.2.2.2.2.2.2.2.2.2.2.1, keepG gg67 hH55.1.2.2.2.2.2.2.2.2.2.2.2⟩, hH55.2.trans gg67⟩ (fun hH66 => ?_)
  have hzwc65 := hH55.2.size
  clear hK K
  (try simp only [Act.put, List.setIfInBounds_toArray, List.set_cons_zero, List.set_cons_succ])
  have N0_70 := N0_57.gr gg67
  clear N0_57
  have M0_71 := M0_58.gr gg67
  clear M0_58
  have N1_72 := N1_59.gr gg67
  clear N1_59
  have M1_73 := M1_60.gr gg67
  clear M1_60
  have N2_74 := N2_61.gr gg67
  clear N2_61
  have M2_75 := M2_62.gr gg67
  clear M2_62
  have N3_76 := N3_63.gr gg67
  clear N3_63
  have M3_77 := M3_64.gr gg67
  clear M3_64
  refine wpAnyH_ready (rs := [21]) (by kernel_rfl) (by simp) ?_
  refine AllReadyH.cons (o := ({ dst := some 61, op := Op.call { callee := Callee.value (Operand.func 19), args := #[Operand.tmp 59, Operand.tmp 60], argTypes := #[24, 24] }, type := 4, pos := "law.go:20", after := #[{ on := 19, ground := Ground.data }, { on := 20, ground := Ground.data }, { on := 20, ground := Ground.chain }, { on := 18, ground := Ground.guard }], guard := some (18, true) } : Oper)) rfl (fun K hK => ?_) AllReadyH.nil
  go_simp
  with_reducible refine (Y4.out _ _ _ _ _ hH66.2 N4_68).mono ?_
  rintro r wc78 ⟨rfl, gg80⟩
  refine hK.out _ _ ⟨⟨keepG gg80 hH66.1.1, keepG gg80 hH66.1.2.1, keepG gg80 hH66.1.2.2.1, keepG gg80 hH66.1.2.2.2.1, keepG gg80 hH66.1.2.2.2.2.1, keepG gg80 hH66.1.2.2.2.2.2.1, keepG gg80 hH66.1.2.2.2.2.2.2.1, keepG gg80 hH66.1.2.2.2.2.2.2.2.1, keepG gg80 hH66.1.2.2.2.2.2.2.2.2.1, keepG gg80 hH66.1.2.2.2.2.2.2.2.2.2.1, keepG gg80 hH66.1.2.2.2.2.2.2.2.2.2.2.1, keepG gg80 hH66.1.2.2.2.2.2.2.2.2.2.2.2⟩, hH66.2.trans gg80⟩ (fun hH79 => ?_)
  have hzwc78 := hH66.2.size
  clear hK K
  (try simp only [Act.put, List.setIfInBounds_toArray, List.set_cons_zero, List.set_cons_succ])
  have N0_81 := N0_70.gr gg80
  clear N0_70
  have M0_82 := M0_71.gr gg80
  clear M0_71
  have N1_83 := N1_72.gr gg80
  clear N1_72
  have M1_84 := M1_73.gr gg80
  clear M1_73
  have N2_85 := N2_74.gr gg80
  clear N2_74
  have M2_86 := M2_75.gr gg80
  clear M2_75
  have N3_87 := N3_76.gr gg80
  clear N3_76
  have M3_88 := M3_77.gr gg80
  clear M3_77
  have N4_89 := N4_68.gr gg80
  clear N4_68
  have M4_90 := M4_69.gr gg80
  clear M4_69
  refine wpAnyH_take (i := 22) (oi := ({ dst := some 62, op := Op.pick (Operand.tmp 58) (Operand.tmp 61) (Operand.const (Value.bool false)), type := 4, pos := "law.go:20", after := #[{ on := 18, ground := Ground.data }, { on := 21, ground := Ground.data }], guard := none } : Oper)) (v := ?_) rfl (by kernel_rfl) (by kernel_rfl) (by kernel_rfl) (fun _ _ _ h => h) (Or.inl ⟨by rfl, ?_⟩) (by with_reducible assumption) ?_
  rotate_left
  · intro w hSw
    (try dsimp only at hSw)
    first | (go_simp; done) | (go_simp; with_reducible rfl)
  (try simp only [Act.put, List.setIfInBounds_toArray, List.set_cons_zero, List.set_cons_succ])
  refine wpAnyH_take (i := 23) (oi := ({ dst := some 63, op := Op.move (Operand.tmp 62), type := 4, pos := "law.go:20", after := #[{ on := 22, ground := Ground.data }, { on := 21, ground := Ground.chain }], guard := none } : Oper)) (v := ?_) rfl (by kernel_rfl) (by kernel_rfl) (by kernel_rfl) (fun _ _ _ h => h) (Or.inl ⟨by rfl, ?_⟩) (by with_reducible assumption) ?_
  rotate_left
  · intro w hSw
    (try dsimp only at hSw)
    first | (go_simp; done) | (go_simp; with_reducible rfl)
  (try simp only [Act.put, List.setIfInBounds_toArray, List.set_cons_zero, List.set_cons_succ])
  refine wpAnyH_take (i := 24) (oi := ({ dst := some 64, op := Op.load 24 (Operand.tmp 10), type := 24, pos := "law.go:20", after := #[{ on := 23, ground := Ground.guard }], guard := some (23, true) } : Oper)) (v := ?_) rfl (by kernel_rfl) (by kernel_rfl) (by kernel_rfl) (fun _ _ _ h => h) (Or.inl ⟨by rfl, ?_⟩) (by with_reducible assumption) ?_
  rotate_left
  · intro w hSw
    (try dsimp only at hSw)
    first | (go_simp; done) | (go_simp; with_reducible rfl)
  (try simp only [Act.put, List.setIfInBounds_toArray, List.set_cons_zero, List.set_cons_succ])
  refine wpAnyH_ready (rs := [25]) (by kernel_rfl) (by simp) ?_
  refine AllReadyH.cons (o := ({ dst := some 65, op := Op.call { callee := Callee.value (Operand.func 29), args := #[Operand.const (Value.int IntKind.i64 2)], argTypes := #[2] }, type := 24, pos := "law.go:20", after := #[{ on := 23, ground := Ground.chain }, { on := 23, ground := Ground.guard }], guard := some (23, true) } : Oper)) rfl (fun K hK => ?_) AllReadyH.nil
  go_simp
  with_reducible refine (X5.out _ hH79.2).mono ?_
  rintro r wc91 ⟨s5', a5', n5', c5', rfl, N5_94, M5_95, gg93⟩
  replace N5_94 := N5_94.out
  replace M5_95 := M5_95.out
  refine hK.out _ _ ⟨⟨keepG gg93 hH79.1.1, keepG gg93 hH79.1.2.1, keepG gg93 hH79.1.2.2.1, keepG gg93 hH79.1.2.2.2.1, keepG gg93 hH79.1.2.2.2.2.1, keepG gg93 hH79.1.2.2.2.2.2.1, keepG gg93 hH79.1.2.2.2.2.2.2.1, keepG gg93 hH79.1.2.2.2.2.2.2.2.1, keepG gg93 hH79.1.2.2.2.2.2.2.2.2.1, keepG gg93 hH79.1.2.2.2.2.2.2.2.2.2.1, keepG gg93 hH79.1.2.2.2.2.2.2.2.2.2.2.1, keepG gg93 hH79.1.2.2.2.2.2.2.2.2.2.2.2⟩, hH79.2.trans gg93⟩ (fun hH92 => ?_)
  have hzwc91 := hH79.2.size
  clear hK K
  (try simp only [Act.put, List.setIfInBounds_toArray, List.set_cons_zero, List.set_cons_succ])
  have N0_96 := N0_81.gr gg93
  clear N0_81
  have M0_97 := M0_82.gr gg93
  clear M0_82
  have N1_98 := N1_83.gr gg93
  clear N1_83
  have M1_99 := M1_84.gr gg93
  clear M1_84
  have N2_100 := N2_85.gr gg93
  clear N2_85
  have M2_101 := M2_86.gr gg93
  clear M2_86
  have N3_102 := N3_87.gr gg93
  clear N3_87
  have M3_103 := M3_88.gr gg93
  clear M3_88
  have N4_104 := N4_89.gr gg93
  clear N4_89
  have M4_105 := M4_90.gr gg93
  clear M4_90
  refine wpAnyH_ready (rs := [26]) (by kernel_rfl) (by simp) ?_
  refine AllReadyH.cons (o := ({ dst := some 66, op := Op.call { callee := Callee.value (Operand.func 19), args := #[Operand.tmp 64, Operand.tmp 65], argTypes := #[24, 24] }, type := 4, pos := "law.go:20", after := #[{ on := 24, ground := Ground.data }, { on := 25, ground := Ground.data }, { on := 25, ground := Ground.chain }, { on := 23, ground := Ground.guard }], guard := some (23, true) } : Oper)) rfl (fun K hK => ?_) AllReadyH.nil
  go_simp
  with_reducible refine (Y5.out _ _ _ _ _ hH92.2 N5_94).mono ?_
  rintro r wc106 ⟨rfl, gg108⟩
  refine hK.out _ _ ⟨⟨keepG gg108 hH92.1.1, keepG gg108 hH92.1.2.1, keepG gg108 hH92.1.2.2.1, keepG gg108 hH92.1.2.2.2.1, keepG gg108 hH92.1.2.2.2.2.1, keepG gg108 hH92.1.2.2.2.2.2.1, keepG gg108 hH92.1.2.2.2.2.2.2.1, keepG gg108 hH92.1.2.2.2.2.2.2.2.1, keepG gg108 hH92.1.2.2.2.2.2.2.2.2.1, keepG gg108 hH92.1.2.2.2.2.2.2.2.2.2.1, keepG gg108 hH92.1.2.2.2.2.2.2.2.2.2.2.1, keepG gg108 hH92.1.2.2.2.2.2.2.2.2.2.2.2⟩, hH92.2.trans gg108⟩ (fun hH107 => ?_)
  have hzwc106 := hH92.2.size
  clear hK K
  (try simp only [Act.put, List.setIfInBounds_toArray, List.set_cons_zero, List.set_cons_succ])
  have N0_109 := N0_96.gr gg108
  clear N0_96
  have M0_110 := M0_97.gr gg108
  clear M0_97
  have N1_111 := N1_98.gr gg108
  clear N1_98
  have M1_112 := M1_99.gr gg108
  clear M1_99
  have N2_113 := N2_100.gr gg108
  clear N2_100
  have M2_114 := M2_101.gr gg108
  clear M2_101
  have N3_115 := N3_102.gr gg108
  clear N3_102
  have M3_116 := M3_103.gr gg108
  clear M3_103
  have N4_117 := N4_104.gr gg108
  clear N4_104
  have M4_118 := M4_105.gr gg108
  clear M4_105
  have N5_119 := N5_94.gr gg108
  clear N5_94
  have M5_120 := M5_95.gr gg108
  clear M5_95
  refine wpAnyH_take (i := 27) (oi := ({ dst := some 67, op := Op.pick (Operand.tmp 63) (Operand.tmp 66) (Operand.const (Value.bool false)), type := 4, pos := "law.go:20", after := #[{ on := 23, ground := Ground.data }, { on := 26, ground := Ground.data }], guard := none } : Oper)) (v := ?_) rfl (by kernel_rfl) (by kernel_rfl) (by kernel_rfl) (fun _ _ _ h => h) (Or.inl ⟨by rfl, ?_⟩) (by with_reducible assumption) ?_
  rotate_left
  · intro w hSw
    (try dsimp only at hSw)
    first | (go_simp; done) | (go_simp; with_reducible rfl)
  (try simp only [Act.put, List.setIfInBounds_toArray, List.set_cons_zero, List.set_cons_succ])
  refine wpAnyH_take (i := 28) (oi := ({ dst := some 12, op := Op.assign (Operand.tmp 67), type := 4, pos := "law.go:20", after := #[{ on := 27, ground := Ground.data }, { on := 26, ground := Ground.chain }, { on := 0, ground := Ground.phase }, { on := 1, ground := Ground.phase }, { on := 2, ground := Ground.phase }, { on := 3, ground := Ground.phase }, { on := 4, ground := Ground.phase }, { on := 5, ground := Ground.phase }, { on := 6, ground := Ground.phase }, { on := 7, ground := Ground.phase }, { on := 8, ground := Ground.phase }, { on := 9, ground := Ground.phase }, { on := 10, ground := Ground.phase }, { on := 11, ground := Ground.phase }, { on := 12, ground := Ground.phase }, { on := 13, ground := Ground.phase }, { on := 14, ground := Ground.phase }, { on := 15, ground := Ground.phase }, { on := 16, ground := Ground.phase }, { on := 17, ground := Ground.phase }, { on := 18, ground := Ground.phase }, { on := 19, ground := Ground.phase }, { on := 20, ground := Ground.phase }, { on := 21, ground := Ground.phase }, { on := 22, ground := Ground.phase }, { on := 23, ground := Ground.phase }, { on := 24, ground := Ground.phase }, { on := 25, ground := Ground.phase }, { on := 26, ground := Ground.phase }, { on := 27, ground := Ground.phase }], guard := none } : Oper)) (v := ?_) rfl (by kernel_rfl) (by kernel_rfl) (by kernel_rfl) (fun _ _ _ h => h) (Or.inl ⟨by rfl, ?_⟩) (by with_reducible assumption) ?_
  rotate_left
  · intro w hSw
    (try dsimp only at hSw)
    first | (go_simp; done) | (go_simp; with_reducible rfl)
  (try simp only [Act.put, List.setIfInBounds_toArray, List.set_cons_zero, List.set_cons_succ])
  refine wpAnyH_done (by kernel_rfl) ?_ _
  exact ⟨_, _, _, _, _, _, _, _, _, _, _, _, _, _, _, _, _, _, _, _, _, _, _, _, _, _, _, _, rfl, hH107.2⟩
set_option maxRecDepth 8000 in
set_option maxHeartbeats 8000000 in
theorem awakeD (w : World) : Calls Try.prog 7 #[] w fun r w' => r = .returned (.bool true) ∧ Gr w w' := by
  have O0 := hide (ofD (-7) (by omega) (by omega))
  have O1 := hide (ofD 2 (by omega) (by omega))
  have O2 := hide (ofD (-7) (by omega) (by omega))
  have O3 := hide (ofD 2 (by omega) (by omega))
  have O4 := hide (ofD 6 (by omega) (by omega))
  have O5 := hide (ofD (-3) (by omega) (by omega))
  have O6 := hide (ofD (-7) (by omega) (by omega))
  have O7 := hide (ofD 3 (by omega) (by omega))
  have FL : Hid (∀ (w1 : World) (s : Bool) (a : Option Addr) (n c : Nat) (s' : Bool) (a' : Option Addr) (n' c' : Nat), Wh w1 s a n c (-7) → Wh w1 s' a' n' c' 2 → Calls Try.prog 10 #[.agg #[.bool s, .slice a n c], .agg #[.bool s', .slice a' n' c']] w1 fun r w' => ∃ a b c d a' b' c' d', r = .returned (.tuple #[.agg #[.bool a, .slice b c d], .agg #[.bool a', .slice b' c' d'], .int .i64 0]) ∧ Hid (Wh w' a b c d (-4)) ∧ Hid (Wh w' a' b' c' d' 1) ∧ Hid (Fresh w1.heap.size w' b c d) ∧ Hid (Fresh w1.heap.size w' b' c' d') ∧ Hid (LieA b b') ∧ Gr w1 w') := fun w1 s a n c s' a' n' c' h h' => floorT s s' a a' n n' c c' (-7) 2 w1 h h' (by decide)
  have TR : Hid (∀ (w1 : World) (s : Bool) (a : Option Addr) (n c : Nat) (s' : Bool) (a' : Option Addr) (n' c' : Nat), Wh w1 s a n c (-7) → Wh w1 s' a' n' c' 2 → Calls Try.prog 11 #[.agg #[.bool s, .slice a n c], .agg #[.bool s', .slice a' n' c']] w1 fun r w' => ∃ a b c d a' b' c' d', r = .returned (.tuple #[.agg #[.bool a, .slice b c d], .agg #[.bool a', .slice b' c' d'], .int .i64 0]) ∧ Hid (Wh w' a b c d (-3)) ∧ Hid (Wh w' a' b' c' d' (-1)) ∧ Hid (Fresh w1.heap.size w' b c d) ∧ Hid (Fresh w1.heap.size w' b' c' d') ∧ Hid (LieA b b') ∧ Gr w1 w') := fun w1 s a n c s' a' n' c' h h' => truncT s s' a a' n n' c c' (-7) 2 w1 h h' (by decide)
  have EX : Hid (∀ (w1 : World) (s : Bool) (a : Option Addr) (n c : Nat) (s' : Bool) (a' : Option Addr) (n' c' : Nat), Wh w1 s a n c 6 → Wh w1 s' a' n' c' (-3) → Calls Try.prog 12 #[.agg #[.bool s, .slice a n c], .agg #[.bool s', .slice a' n' c']] w1 fun r w' => ∃ a b c d, r = .returned (.tuple #[.agg #[.bool a, .slice b c d], .bool true, .int .i64 0]) ∧ Hid (Wh w' a b c d (-2)) ∧ Hid (Fresh w1.heap.size w' b c d) ∧ Gr w1 w') := fun w1 s a n c s' a' n' c' h h' => exactT s s' a a' n n' c c' 6 (-3) w1 h h' (by decide)
  have MO : Hid (∀ (w1 : World) (s : Bool) (a : Option Addr) (n c : Nat) (s' : Bool) (a' : Option Addr) (n' c' : Nat), Wh w1 s a n c (-7) → Wh w1 s' a' n' c' 3 → Calls Try.prog 13 #[.agg #[.bool s, .slice a n c], .agg #[.bool s', .slice a' n' c']] w1 fun r w' => ∃ a b c d, r = .returned (.tuple #[.agg #[.bool a, .slice b c d], .int .i64 0]) ∧ Hid (Wh w' a b c d 2) ∧ Hid (Fresh w1.heap.size w' b c d) ∧ Gr w1 w') := fun w1 s a n c s' a' n' c' h h' => by
    cases s'
    · exact modT s a a' n n' c c' (-7) 3 w1 h h' (by decide)
    · exact absurd (h'.neg_iff.1 rfl) (by decide)
  have GW := Gr.refl w
  have tok0 : True := trivial
  go_enter Try.func7, Try.ntmps7
  go_wp2_with (first | (go_at_call 29; have _t := tok0; (with_reducible refine (O0.out _).mono ?_); rintro r v0 ⟨t0, b0, m0, d0, rfl, V0, E0, g0⟩; clear tok0 E0; have tok1 : True := trivial; replace GW := GW.trans g0; clear g0) | (go_at_call 29; have _t := tok1; (with_reducible refine (O1.out _).mono ?_); rintro r v1 ⟨t1, b1, m1, d1, rfl, V1, E1, g1⟩; clear tok1 E1; have tok2 : True := trivial; replace V0 := hide (V0.out.gr g1); replace GW := GW.trans g1; clear g1) | (go_at_call 10; (with_reducible refine (FL.out _ t0 b0 m0 d0 t1 b1 m1 d1 V0.out V1.out).mono ?_); rintro r z0 ⟨s0, a0, n0, c0, s1, a1, n1, c1, rfl, U0, U1, J0, J1, ap, gg⟩; have gx : Gr z0 ((z0.alloc (.cells #[.bool s0, .slice a0 n0 c0] 24)).alloc (.cells #[.bool s1, .slice a1 n1 c1] 24)) := ((Gr.refl _).alloc _).alloc _; obtain ⟨H0, H1⟩ := blk2 z0 (.cells #[.bool s0, .slice a0 n0 c0] 24) (.cells #[.bool s1, .slice a1 n1 c1] 24); replace U0 := hide (U0.out.gr gx); replace U1 := hide (U1.out.gr gx); replace GW := GW.trans (gg.trans gx); clear gg gx ap J0 J1 V0 V1) | (go_at_call 29; have _t := tok2; (with_reducible refine (O2.out _).mono ?_); rintro r v2 ⟨t2, b2, m2, d2, rfl, V2, E2, g2⟩; clear tok2 E2; have tok3 : True := trivial; replace H0 := keepO g2 H0; replace H1 := keepO g2 H1; replace U0 := hide (U0.out.gr g2); replace U1 := hide (U1.out.gr g2); replace GW := GW.trans g2; clear g2) | (go_at_call 29; have _t := tok3; (with_reducible refine (O3.out _).mono ?_); rintro r v3 ⟨t3, b3, m3, d3, rfl, V3, E3, g3⟩; clear tok3 E3; have tok4 : True := trivial; replace H0 := keepO g3 H0; replace H1 := keepO g3 H1; replace U0 := hide (U0.out.gr g3); replace U1 := hide (U1.out.gr g3); replace V2 := hide (V2.out.gr g3); replace GW := GW.trans g3; clear g3) | (go_at_call 11; (with_reducible refine (TR.out _ t2 b2 m2 d2 t3 b3 m3 d3 V2.out V3.out).mono ?_); rintro r z1 ⟨s2, a2, n2, c2, s3, a3, n3, c3, rfl, U2, U3, J2, J3, ap, gg⟩; have gx : Gr z1 ((z1.alloc (.cells #[.bool s2, .slice a2 n2 c2] 24)).alloc (.cells #[.bool s3, .slice a3 n3 c3] 24)) := ((Gr.refl _).alloc _).alloc _; obtain ⟨H2, H3⟩ := blk2 z1 (.cells #[.bool s2, .slice a2 n2 c2] 24) (.cells #[.bool s3, .slice a3 n3 c3] 24); replace U2 := hide (U2.out.gr gx); replace U3 := hide (U3.out.gr gx); replace H0 := keepO (gg.trans gx) H0; replace H1 := keepO (gg.trans gx) H1; replace GW := GW.trans (gg.trans gx); replace U0 := hide (U0.out.gr (gg.trans gx)); replace U1 := hide (U1.out.gr (gg.trans gx)); clear gg gx ap J2 J3 V2 V3) | (go_at_call 29; have _t := tok4; (with_reducible refine (O4.out _).mono ?_); rintro r v4 ⟨t4, b4, m4, d4, rfl, V4, E4, g4⟩; clear tok4 E4; have tok5 : True := trivial; replace H0 := keepO g4 H0; replace H1 := keepO g4 H1; replace H2 := keepO g4 H2; replace H3 := keepO g4 H3; replace U0 := hide (U0.out.gr g4); replace U1 := hide (U1.out.gr g4); replace U2 := hide (U2.out.gr g4); replace U3 := hide (U3.out.gr g4); replace GW := GW.trans g4; clear g4) | (go_at_call 29; have _t := tok5; (with_reducible refine (O5.out _).mono ?_); rintro r v5 ⟨t5, b5, m5, d5, rfl, V5, E5, g5⟩; clear tok5 E5; have tok6 : True := trivial; replace H0 := keepO g5 H0; replace H1 := keepO g5 H1; replace H2 := keepO g5 H2; replace H3 := keepO g5 H3; replace U0 := hide (U0.out.gr g5); replace U1 := hide (U1.out.gr g5); replace U2 := hide (U2.out.gr g5); replace U3 := hide (U3.out.gr g5); replace V4 := hide (V4.out.gr g5); replace GW := GW.trans g5; clear g5) | (go_at_call 12; (with_reducible refine (EX.out _ t4 b4 m4 d4 t5 b5 m5 d5 V4.out V5.out).mono ?_); rintro r z2 ⟨s4, a4, n4, c4, rfl, U4, J4, gg⟩; have gx : Gr z2 (z2.alloc (.cells #[.bool s4, .slice a4 n4 c4] 24)) := (Gr.refl _).alloc _; have H4 := blk1 z2 (.cells #[.bool s4, .slice a4 n4 c4] 24); replace U4 := hide (U4.out.gr gx); replace H0 := keepO (gg.trans gx) H0; replace H1 := keepO (gg.trans gx) H1; replace H2 := keepO (gg.trans gx) H2; replace H3 := keepO (gg.trans gx) H3; replace GW := GW.trans (gg.trans gx); replace U0 := hide (U0.out.gr (gg.trans gx)); replace U1 := hide (U1.out.gr (gg.trans gx)); replace U2 := hide (U2.out.gr (gg.trans gx)); replace U3 := hide (U3.out.gr (gg.trans gx)); clear gg gx J4 V4 V5) | (go_at_call 29; have _t := tok6; (with_reducible refine (O6.out _).mono ?_); rintro r v6 ⟨t6, b6, m6, d6, rfl, V6, E6, g6⟩; clear tok6 E6; have tok7 : True := trivial; replace H0 := keepO g6 H0; replace H1 := keepO g6 H1; replace H2 := keepO g6 H2; replace H3 := keepO g6 H3; replace H4 := keepO g6 H4; replace U0 := hide (U0.out.gr g6); replace U1 := hide (U1.out.gr g6); replace U2 := hide (U2.out.gr g6); replace U3 := hide (U3.out.gr g6); replace U4 := hide (U4.out.gr g6); replace GW := GW.trans g6; clear g6) | (go_at_call 29; have _t := tok7; (with_reducible refine (O7.out _).mono ?_); rintro r v7 ⟨t7, b7, m7, d7, rfl, V7, E7, g7⟩; clear tok7 E7; have tok8 : True := trivial; replace H0 := keepO g7 H0; replace H1 := keepO g7 H1; replace H2 := keepO g7 H2; replace H3 := keepO g7 H3; replace H4 := keepO g7 H4; replace U0 := hide (U0.out.gr g7); replace U1 := hide (U1.out.gr g7); replace U2 := hide (U2.out.gr g7); replace U3 := hide (U3.out.gr g7); replace U4 := hide (U4.out.gr g7); replace V6 := hide (V6.out.gr g7); replace GW := GW.trans g7; clear g7) | (go_at_call 13; (with_reducible refine (MO.out _ t6 b6 m6 d6 t7 b7 m7 d7 V6.out V7.out).mono ?_); rintro r z3 ⟨s5, a5, n5, c5, rfl, U5, J5, gg⟩; have gx : Gr z3 (z3.alloc (.cells #[.bool s5, .slice a5 n5 c5] 24)) := (Gr.refl _).alloc _; have H5 := blk1 z3 (.cells #[.bool s5, .slice a5 n5 c5] 24); replace U5 := hide (U5.out.gr gx); replace H0 := keepO (gg.trans gx) H0; replace H1 := keepO (gg.trans gx) H1; replace H2 := keepO (gg.trans gx) H2; replace H3 := keepO (gg.trans gx) H3; replace H4 := keepO (gg.trans gx) H4; replace GW := GW.trans (gg.trans gx); replace U0 := hide (U0.out.gr (gg.trans gx)); replace U1 := hide (U1.out.gr (gg.trans gx)); replace U2 := hide (U2.out.gr (gg.trans gx)); replace U3 := hide (U3.out.gr (gg.trans gx)); replace U4 := hide (U4.out.gr (gg.trans gx)); clear gg gx J5 V6 V7))
  generalize (z3.alloc (.cells #[.bool s5, .slice a5 n5 c5] 24)) = w9 at *
  have IS : ∀ (s : Bool) (a : Option Addr) (n c : Nat) (V : Int), Wh w9 s a n c V → ∀ w7 s' a' n' c', Gr w9 w7 → Wh w7 s' a' n' c' V → Calls Try.prog 19 #[.agg #[.bool s, .slice a n c], .agg #[.bool s', .slice a' n' c']] w7 fun r w' => r = .returned (.bool true) ∧ Gr w7 w' := fun s a n c V h w7 s' a' n' c' g h' => by
    have := sameIntL s s' a a' n n' c c' V V w7 (h.gr g) h'
    rw [eqI_t rfl] at this
    exact this
  refine Code.wp_mono ?_ (regAw7 _ _ _ _ _ _ _ _ _ _ _ _ _ _ _ _ _ _ _ _ _ _ _ _ _ _ _ _ _ _ _ _ _ _ _ _ _ _ _ _ _ _ _ _ _ _ _ _ _ _ _ _ _ _ _ _ _ _ _ _ _ _ _ _ _ _ _ _ _ _ _ _ _ _ _ _ _ _ _ _ _ _ z0.heap.size n0 c0 (z0.heap.size + 1) n1 c1 z1.heap.size n2 c2 (z1.heap.size + 1) n3 c3 z2.heap.size n4 c4 z3.heap.size n5 c5 s0 s1 s2 s3 s4 s5 a0 a1 a2 a3 a4 a5 w9 (fun w7 g => ofD (-4) (by omega) (by omega) w7) (IS s0 a0 n0 c0 (-4) U0.out) (fun w7 g => ofD 1 (by omega) (by omega) w7) (IS s1 a1 n1 c1 1 U1.out) (fun w7 g => ofD (-3) (by omega) (by omega) w7) (IS s2 a2 n2 c2 (-3) U2.out) (fun w7 g => ofD (-1) (by omega) (by omega) w7) (IS s3 a3 n3 c3 (-1) U3.out) (fun w7 g => ofD (-2) (by omega) (by omega) w7) (IS s4 a4 n4 c4 (-2) U4.out) (fun w7 g => ofD 2 (by omega) (by omega) w7) (IS s5 a5 n5 c5 2 U5.out) (Gr.refl _) ⟨(bx2 H0).1, (bx2 H0).2, (bx2 H1).1, (bx2 H1).2, (bx2 H2).1, (bx2 H2).2, (bx2 H3).1, (bx2 H3).2, (bx2 H4).1, (bx2 H4).2, (bx2 H5).1, (bx2 H5).2⟩)
  intro e a1' w8 hR
  cases e <;> first | (exact False.elim hR) | skip
  obtain ⟨u40, u41, u42, u43, u44, u45, u46, u47, u48, u49, u50, u51, u52, u53, u54, u55, u56, u57, u58, u59, u60, u61, u62, u63, u64, u65, u66, u67, rfl, g8⟩ := hR
  clear IS
  go_wp2
  go_ret
  exact ⟨rfl, GW.trans g8⟩
end Go.Proofs.Ytobceegpcimdgaa
