import Derived.Test.YtbkkpbffdnhidaaGreatDoorM18
import Derived.Test.YtbkkpbffdnhidaaGreatDoorM17
namespace Go.Proofs.YtbkkpbffdnhidaaGreatDoor
open Go.RowKit
set_option linter.unusedVariables false
set_option linter.unusedSimpArgs false

/-- what region 18 leaves: a row of eight dyads, told, behind the others -/
def R18 (t0 t1 t2 t3 t4 t5 t6 t7 t8 t10 t12 t14 t16 t18 t20 t22 t24 t25 t26 t27 t28 t29 t30 t31 t32 t33 t34 t35 t36 t37 t38 t39 t40 t41 t42 t43 t44 t45 t46 t47 t48 t49 t50 t51 t52 t53 t54 t55 t56 t57 t58 t59 t60 t61 t62 t63 t64 t65 t66 t67 t68 t69 t70 t71 t72 t73 t74 t75 t76 t77 t78 t79 t80 t81 t82 t83 t84 t85 t86 t87 t88 t89 t90 t91 t92 t93 t94 t95 t96 t97 t98 t99 t100 t101 t102 t103 t104 t105 t106 t107 t108 t109 t110 t111 t112 t113 t114 t115 t116 t117 t118 t119 t120 t121 t122 t123 t124 t125 t126 t127 t128 t129 t130 t131 t132 t133 t134 t135 t136 t137 t138 t139 t140 t141 t142 t143 t144 t145 t146 t147 t148 t149 t150 t151 t152 t153 t154 t155 t156 t157 t158 t159 : Value) (p0 p1 p2 p3 p4 p5 p6 : Nat) (s0 s1 s2 s3 s4 s5 s6 : Bool) (a0 a1 a2 a3 a4 a5 a6 : Option Addr) (m0 k0 m1 k1 m2 k2 m3 k3 m4 k4 m5 k5 m6 k6 : Nat) (e0 e1 e2 e3 e4 e5 e6 : Int) (lv : Value) (Bl k : Nat) (cs : List Value) (wq : World) : Exit → Act → World → Prop
  | .normal, a, w => ∃ u92 u93 u94 u95 u96 u97 u98 u99 u100 u101 u102 u103 lv' sI aI mI kI eI b wi, a = { tmps := #[t0, t1, t2, t3, t4, t5, t6, t7, t8, lv', t10, .pointer (some ⟨p0, 0, none⟩), t12, .pointer (some ⟨p1, 0, none⟩), t14, .pointer (some ⟨p2, 0, none⟩), t16, .pointer (some ⟨p3, 0, none⟩), t18, .pointer (some ⟨p4, 0, none⟩), t20, .pointer (some ⟨p5, 0, none⟩), t22, .pointer (some ⟨p6, 0, none⟩), t24, t25, t26, t27, t28, t29, t30, t31, t32, t33, t34, t35, t36, t37, t38, t39, t40, t41, t42, t43, t44, t45, t46, t47, t48, t49, t50, t51, t52, t53, t54, t55, t56, t57, t58, t59, t60, t61, t62, t63, t64, t65, t66, t67, t68, t69, t70, t71, t72, t73, t74, t75, t76, t77, t78, t79, t80, t81, t82, t83, t84, t85, t86, t87, t88, t89, t90, t91, u92, u93, u94, u95, u96, u97, u98, u99, u100, u101, u102, u103, t104, t105, t106, t107, t108, t109, t110, t111, t112, t113, t114, t115, t116, t117, t118, t119, t120, t121, t122, t123, t124, t125, t126, t127, t128, t129, t130, t131, t132, t133, t134, t135, t136, t137, t138, t139, t140, t141, t142, t143, t144, t145, t146, t147, t148, t149, t150, t151, t152, t153, t154, t155, t156, t157, t158, t159], defers := [] } ∧ w.ownsRow wq.heap.size 24 3 (.slice (some ⟨b, 0, none⟩) 8 8) 8 [.bool s0, .slice a0 m0 k0, .int .i64 e0, .bool s1, .slice a1 m1 k1, .int .i64 e1, .bool s2, .slice a2 m2 k2, .int .i64 e2, .bool s3, .slice a3 m3 k3, .int .i64 e3, .bool s4, .slice a4 m4 k4, .int .i64 e4, .bool s5, .slice a5 m5 k5, .int .i64 e5, .bool s6, .slice a6 m6 k6, .int .i64 e6, .bool sI, .slice aI mI kI, .int .i64 eI] ∧ w.ownsRow Bl 43 1 lv' (k + 1) (cs ++ [.slice (some ⟨b, 0, none⟩) 8 8]) ∧ Fresh wq.heap.size w aI mI kI ∧ mI ≤ 4096 ∧ Gy lv.ownBlock wq w ∧ Gr wq wi ∧ wi.heap.size ≤ b ∧ (∀ c, (Value.slice aI mI kI).ownBlock = some c → c < wi.heap.size) ∧ (∀ a0, Gr a0 wq → a0.heap.size ≤ Bl → Gr a0 w)
  | _, _, _ => False
set_option maxRecDepth 100000 in
set_option maxHeartbeats 40000000 in
theorem reg18 (t0 t1 t2 t3 t4 t5 t6 t7 t8 t10 t12 t14 t16 t18 t20 t22 t24 t25 t26 t27 t28 t29 t30 t31 t32 t33 t34 t35 t36 t37 t38 t39 t40 t41 t42 t43 t44 t45 t46 t47 t48 t49 t50 t51 t52 t53 t54 t55 t56 t57 t58 t59 t60 t61 t62 t63 t64 t65 t66 t67 t68 t69 t70 t71 t72 t73 t74 t75 t76 t77 t78 t79 t80 t81 t82 t83 t84 t85 t86 t87 t88 t89 t90 t91 t92 t93 t94 t95 t96 t97 t98 t99 t100 t101 t102 t103 t104 t105 t106 t107 t108 t109 t110 t111 t112 t113 t114 t115 t116 t117 t118 t119 t120 t121 t122 t123 t124 t125 t126 t127 t128 t129 t130 t131 t132 t133 t134 t135 t136 t137 t138 t139 t140 t141 t142 t143 t144 t145 t146 t147 t148 t149 t150 t151 t152 t153 t154 t155 t156 t157 t158 t159 : Value) (p0 p1 p2 p3 p4 p5 p6 : Nat) (s0 s1 s2 s3 s4 s5 s6 : Bool) (a0 a1 a2 a3 a4 a5 a6 : Option Addr) (m0 k0 m1 k1 m2 k2 m3 k3 m4 k4 m5 k5 m6 k6 : Nat) (e0 e1 e2 e3 e4 e5 e6 : Int) (lv : Value) (Bl k : Nat) (cs : List Value) (wq : World)
    (IN : Hid (∀ w1, Gr wq w1 → Calls Tryz.prog 18 #[.int .i64 7] w1 fun r w' => (∃ a ad n cap f, r = .returned (.agg #[.bool a, .slice ad n cap, .int .i64 f]) ∧ Fresh w1.heap.size w' ad n cap ∧ n ≤ 4096) ∧ Gr w1 w'))
    (HL : wq.ownsRow Bl 43 1 lv k cs) (hBl : Bl ≤ wq.heap.size) (hk : k ≤ 100) (hcs : (wq.cell? ⟨p0, 0, none⟩ = some (.bool s0) ∧ wq.cell? ⟨p0, 1, none⟩ = some (.slice a0 m0 k0) ∧ wq.cell? ⟨p0, 2, none⟩ = some (.int .i64 e0) ∧ wq.cell? ⟨p1, 0, none⟩ = some (.bool s1) ∧ wq.cell? ⟨p1, 1, none⟩ = some (.slice a1 m1 k1) ∧ wq.cell? ⟨p1, 2, none⟩ = some (.int .i64 e1) ∧ wq.cell? ⟨p2, 0, none⟩ = some (.bool s2) ∧ wq.cell? ⟨p2, 1, none⟩ = some (.slice a2 m2 k2) ∧ wq.cell? ⟨p2, 2, none⟩ = some (.int .i64 e2) ∧ wq.cell? ⟨p3, 0, none⟩ = some (.bool s3) ∧ wq.cell? ⟨p3, 1, none⟩ = some (.slice a3 m3 k3) ∧ wq.cell? ⟨p3, 2, none⟩ = some (.int .i64 e3) ∧ wq.cell? ⟨p4, 0, none⟩ = some (.bool s4) ∧ wq.cell? ⟨p4, 1, none⟩ = some (.slice a4 m4 k4) ∧ wq.cell? ⟨p4, 2, none⟩ = some (.int .i64 e4) ∧ wq.cell? ⟨p5, 0, none⟩ = some (.bool s5) ∧ wq.cell? ⟨p5, 1, none⟩ = some (.slice a5 m5 k5) ∧ wq.cell? ⟨p5, 2, none⟩ = some (.int .i64 e5) ∧ wq.cell? ⟨p6, 0, none⟩ = some (.bool s6) ∧ wq.cell? ⟨p6, 1, none⟩ = some (.slice a6 m6 k6) ∧ wq.cell? ⟨p6, 2, none⟩ = some (.int .i64 e6))) (hb0 : some p0 ≠ lv.ownBlock) (hb1 : some p1 ≠ lv.ownBlock) (hb2 : some p2 ≠ lv.ownBlock) (hb3 : some p3 ≠ lv.ownBlock) (hb4 : some p4 ≠ lv.ownBlock) (hb5 : some p5 ≠ lv.ownBlock) (hb6 : some p6 ≠ lv.ownBlock) :
    Code.wp Tryz.prog (Code.region 18 #[{ dst := some 92, op := Op.move (Operand.tmp 9), type := 29, pos := "law.go:127", after := #[], guard := none }, { dst := some 93, op := Op.load 24 (Operand.tmp 11), type := 24, pos := "law.go:127", after := #[], guard := none }, { dst := some 94, op := Op.load 24 (Operand.tmp 13), type := 24, pos := "law.go:127", after := #[], guard := none }, { dst := some 95, op := Op.load 24 (Operand.tmp 15), type := 24, pos := "law.go:127", after := #[], guard := none }, { dst := some 96, op := Op.load 24 (Operand.tmp 17), type := 24, pos := "law.go:127", after := #[], guard := none }, { dst := some 97, op := Op.load 24 (Operand.tmp 19), type := 24, pos := "law.go:127", after := #[], guard := none }, { dst := some 98, op := Op.load 24 (Operand.tmp 21), type := 24, pos := "law.go:127", after := #[], guard := none }, { dst := some 99, op := Op.load 24 (Operand.tmp 23), type := 24, pos := "law.go:127", after := #[], guard := none }, { dst := some 100, op := Op.call { callee := Callee.value (Operand.func 18), args := #[Operand.const (Value.int IntKind.i64 7)], argTypes := #[2] }, type := 24, pos := "law.go:127", after := #[], guard := none }, { dst := some 101, op := Op.buildSlice 43 8 #[(0, Operand.tmp 93), (1, Operand.tmp 94), (2, Operand.tmp 95), (3, Operand.tmp 96), (4, Operand.tmp 97), (5, Operand.tmp 98), (6, Operand.tmp 99), (7, Operand.tmp 100)], type := 43, pos := "law.go:127", after := #[{ on := 1, ground := Ground.data }, { on := 2, ground := Ground.data }, { on := 3, ground := Ground.data }, { on := 4, ground := Ground.data }, { on := 5, ground := Ground.data }, { on := 6, ground := Ground.data }, { on := 7, ground := Ground.data }, { on := 8, ground := Ground.data }], guard := none }, { dst := some 102, op := Op.buildSlice 29 1 #[(0, Operand.tmp 101)], type := 29, pos := "law.go:127", after := #[{ on := 9, ground := Ground.data }], guard := none }, { dst := some 103, op := Op.call { callee := Callee.builtin Builtin.append, args := #[Operand.tmp 92, Operand.tmp 102], argTypes := #[29, 29] }, type := 29, pos := "law.go:127", after := #[{ on := 0, ground := Ground.data }, { on := 10, ground := Ground.data }, { on := 8, ground := Ground.chain }], guard := none }, { dst := some 9, op := Op.assign (Operand.tmp 103), type := 29, pos := "law.go:127", after := #[{ on := 11, ground := Ground.data }, { on := 11, ground := Ground.chain }, { on := 0, ground := Ground.phase }, { on := 1, ground := Ground.phase }, { on := 2, ground := Ground.phase }, { on := 3, ground := Ground.phase }, { on := 4, ground := Ground.phase }, { on := 5, ground := Ground.phase }, { on := 6, ground := Ground.phase }, { on := 7, ground := Ground.phase }, { on := 8, ground := Ground.phase }, { on := 9, ground := Ground.phase }, { on := 10, ground := Ground.phase }, { on := 11, ground := Ground.phase }], guard := none }] true) (R18 t0 t1 t2 t3 t4 t5 t6 t7 t8 t10 t12 t14 t16 t18 t20 t22 t24 t25 t26 t27 t28 t29 t30 t31 t32 t33 t34 t35 t36 t37 t38 t39 t40 t41 t42 t43 t44 t45 t46 t47 t48 t49 t50 t51 t52 t53 t54 t55 t56 t57 t58 t59 t60 t61 t62 t63 t64 t65 t66 t67 t68 t69 t70 t71 t72 t73 t74 t75 t76 t77 t78 t79 t80 t81 t82 t83 t84 t85 t86 t87 t88 t89 t90 t91 t92 t93 t94 t95 t96 t97 t98 t99 t100 t101 t102 t103 t104 t105 t106 t107 t108 t109 t110 t111 t112 t113 t114 t115 t116 t117 t118 t119 t120 t121 t122 t123 t124 t125 t126 t127 t128 t129 t130 t131 t132 t133 t134 t135 t136 t137 t138 t139 t140 t141 t142 t143 t144 t145 t146 t147 t148 t149 t150 t151 t152 t153 t154 t155 t156 t157 t158 t159 p0 p1 p2 p3 p4 p5 p6 s0 s1 s2 s3 s4 s5 s6 a0 a1 a2 a3 a4 a5 a6 m0 k0 m1 k1 m2 k2 m3 k3 m4 k4 m5 k5 m6 k6 e0 e1 e2 e3 e4 e5 e6 lv Bl k cs wq) { tmps := #[t0, t1, t2, t3, t4, t5, t6, t7, t8, lv, t10, .pointer (some ⟨p0, 0, none⟩), t12, .pointer (some ⟨p1, 0, none⟩), t14, .pointer (some ⟨p2, 0, none⟩), t16, .pointer (some ⟨p3, 0, none⟩), t18, .pointer (some ⟨p4, 0, none⟩), t20, .pointer (some ⟨p5, 0, none⟩), t22, .pointer (some ⟨p6, 0, none⟩), t24, t25, t26, t27, t28, t29, t30, t31, t32, t33, t34, t35, t36, t37, t38, t39, t40, t41, t42, t43, t44, t45, t46, t47, t48, t49, t50, t51, t52, t53, t54, t55, t56, t57, t58, t59, t60, t61, t62, t63, t64, t65, t66, t67, t68, t69, t70, t71, t72, t73, t74, t75, t76, t77, t78, t79, t80, t81, t82, t83, t84, t85, t86, t87, t88, t89, t90, t91, t92, t93, t94, t95, t96, t97, t98, t99, t100, t101, t102, t103, t104, t105, t106, t107, t108, t109, t110, t111, t112, t113, t114, t115, t116, t117, t118, t119, t120, t121, t122, t123, t124, t125, t126, t127, t128, t129, t130, t131, t132, t133, t134, t135, t136, t137, t138, t139, t140, t141, t142, t143, t144, t145, t146, t147, t148, t149, t150, t151, t152, t153, t154, t155, t156, t157, t158, t159], defers := [] } wq := by
  have hS0 : (wq.drew.cell? ⟨p0, 0, none⟩ = some (.bool s0) ∧ wq.drew.cell? ⟨p0, 1, none⟩ = some (.slice a0 m0 k0) ∧ wq.drew.cell? ⟨p0, 2, none⟩ = some (.int .i64 e0) ∧ wq.drew.cell? ⟨p1, 0, none⟩ = some (.bool s1) ∧ wq.drew.cell? ⟨p1, 1, none⟩ = some (.slice a1 m1 k1) ∧ wq.drew.cell? ⟨p1, 2, none⟩ = some (.int .i64 e1) ∧ wq.drew.cell? ⟨p2, 0, none⟩ = some (.bool s2) ∧ wq.drew.cell? ⟨p2, 1, none⟩ = some (.slice a2 m2 k2) ∧ wq.drew.cell? ⟨p2, 2, none⟩ = some (.int .i64 e2) ∧ wq.drew.cell? ⟨p3, 0, none⟩ = some (.bool s3) ∧ wq.drew.cell? ⟨p3, 1, none⟩ = some (.slice a3 m3 k3) ∧ wq.drew.cell? ⟨p3, 2, none⟩ = some (.int .i64 e3) ∧ wq.drew.cell? ⟨p4, 0, none⟩ = some (.bool s4) ∧ wq.drew.cell? ⟨p4, 1, none⟩ = some (.slice a4 m4 k4) ∧ wq.drew.cell? ⟨p4, 2, none⟩ = some (.int .i64 e4) ∧ wq.drew.cell? ⟨p5, 0, none⟩ = some (.bool s5) ∧ wq.drew.cell? ⟨p5, 1, none⟩ = some (.slice a5 m5 k5) ∧ wq.drew.cell? ⟨p5, 2, none⟩ = some (.int .i64 e5) ∧ wq.drew.cell? ⟨p6, 0, none⟩ = some (.bool s6) ∧ wq.drew.cell? ⟨p6, 1, none⟩ = some (.slice a6 m6 k6) ∧ wq.drew.cell? ⟨p6, 2, none⟩ = some (.int .i64 e6)) ∧ Gy lv.ownBlock wq wq.drew := ⟨hcs, Gy.of_gr (Gr.refl wq).drew⟩
  clear hcs
  refine wp_region_held_drew (S := fun w' => (w'.cell? ⟨p0, 0, none⟩ = some (.bool s0) ∧ w'.cell? ⟨p0, 1, none⟩ = some (.slice a0 m0 k0) ∧ w'.cell? ⟨p0, 2, none⟩ = some (.int .i64 e0) ∧ w'.cell? ⟨p1, 0, none⟩ = some (.bool s1) ∧ w'.cell? ⟨p1, 1, none⟩ = some (.slice a1 m1 k1) ∧ w'.cell? ⟨p1, 2, none⟩ = some (.int .i64 e1) ∧ w'.cell? ⟨p2, 0, none⟩ = some (.bool s2) ∧ w'.cell? ⟨p2, 1, none⟩ = some (.slice a2 m2 k2) ∧ w'.cell? ⟨p2, 2, none⟩ = some (.int .i64 e2) ∧ w'.cell? ⟨p3, 0, none⟩ = some (.bool s3) ∧ w'.cell? ⟨p3, 1, none⟩ = some (.slice a3 m3 k3) ∧ w'.cell? ⟨p3, 2, none⟩ = some (.int .i64 e3) ∧ w'.cell? ⟨p4, 0, none⟩ = some (.bool s4) ∧ w'.cell? ⟨p4, 1, none⟩ = some (.slice a4 m4 k4) ∧ w'.cell? ⟨p4, 2, none⟩ = some (.int .i64 e4) ∧ w'.cell? ⟨p5, 0, none⟩ = some (.bool s5) ∧ w'.cell? ⟨p5, 1, none⟩ = some (.slice a5 m5 k5) ∧ w'.cell? ⟨p5, 2, none⟩ = some (.int .i64 e5) ∧ w'.cell? ⟨p6, 0, none⟩ = some (.bool s6) ∧ w'.cell? ⟨p6, 1, none⟩ = some (.slice a6 m6 k6) ∧ w'.cell? ⟨p6, 2, none⟩ = some (.int .i64 e6)) ∧ Gy lv.ownBlock wq w') (by kernel_rfl) hS0 (fun hHeld => ?_)
  refine wpAnyH_take (i := 0) (oi := ({ dst := some 92, op := Op.move (Operand.tmp 9), type := 29, pos := "law.go:127", after := #[], guard := none } : Oper)) (v := ?_) rfl (by kernel_rfl) (by kernel_rfl) (by kernel_rfl) (fun _ _ _ h => h) (Or.inl ⟨by rfl, ?_⟩) (by with_reducible assumption) ?_
  rotate_left
  · intro w hSw
    (try dsimp only at hSw)
    first | (go_simp; done) | (go_simp; with_reducible rfl)
  (try simp only [Act.put, List.setIfInBounds_toArray, List.set_cons_zero, List.set_cons_succ])
  refine wpAnyH_take (i := 1) (oi := ({ dst := some 93, op := Op.load 24 (Operand.tmp 11), type := 24, pos := "law.go:127", after := #[], guard := none } : Oper)) (v := ?_) rfl (by kernel_rfl) (by kernel_rfl) (by kernel_rfl) (fun _ _ _ h => h) (Or.inl ⟨by rfl, ?_⟩) (by with_reducible assumption) ?_
  rotate_left
  · intro w hSw
    (try dsimp only at hSw)
    first | (go_simp; done) | (go_simp; with_reducible rfl)
  (try simp only [Act.put, List.setIfInBounds_toArray, List.set_cons_zero, List.set_cons_succ])
  refine wpAnyH_take (i := 2) (oi := ({ dst := some 94, op := Op.load 24 (Operand.tmp 13), type := 24, pos := "law.go:127", after := #[], guard := none } : Oper)) (v := ?_) rfl (by kernel_rfl) (by kernel_rfl) (by kernel_rfl) (fun _ _ _ h => h) (Or.inl ⟨by rfl, ?_⟩) (by with_reducible assumption) ?_
  rotate_left
  · intro w hSw
    (try dsimp only at hSw)
    first | (go_simp; done) | (go_simp; with_reducible rfl)
  (try simp only [Act.put, List.setIfInBounds_toArray, List.set_cons_zero, List.set_cons_succ])
  refine wpAnyH_take (i := 3) (oi := ({ dst := some 95, op := Op.load 24 (Operand.tmp 15), type := 24, pos := "law.go:127", after := #[], guard := none } : Oper)) (v := ?_) rfl (by kernel_rfl) (by kernel_rfl) (by kernel_rfl) (fun _ _ _ h => h) (Or.inl ⟨by rfl, ?_⟩) (by with_reducible assumption) ?_
  rotate_left
  · intro w hSw
    (try dsimp only at hSw)
    first | (go_simp; done) | (go_simp; with_reducible rfl)
  (try simp only [Act.put, List.setIfInBounds_toArray, List.set_cons_zero, List.set_cons_succ])
  refine wpAnyH_take (i := 4) (oi := ({ dst := some 96, op := Op.load 24 (Operand.tmp 17), type := 24, pos := "law.go:127", after := #[], guard := none } : Oper)) (v := ?_) rfl (by kernel_rfl) (by kernel_rfl) (by kernel_rfl) (fun _ _ _ h => h) (Or.inl ⟨by rfl, ?_⟩) (by with_reducible assumption) ?_
  rotate_left
  · intro w hSw
    (try dsimp only at hSw)
    first | (go_simp; done) | (go_simp; with_reducible rfl)
  (try simp only [Act.put, List.setIfInBounds_toArray, List.set_cons_zero, List.set_cons_succ])
  refine wpAnyH_take (i := 5) (oi := ({ dst := some 97, op := Op.load 24 (Operand.tmp 19), type := 24, pos := "law.go:127", after := #[], guard := none } : Oper)) (v := ?_) rfl (by kernel_rfl) (by kernel_rfl) (by kernel_rfl) (fun _ _ _ h => h) (Or.inl ⟨by rfl, ?_⟩) (by with_reducible assumption) ?_
  rotate_left
  · intro w hSw
    (try dsimp only at hSw)
    first | (go_simp; done) | (go_simp; with_reducible rfl)
  (try simp only [Act.put, List.setIfInBounds_toArray, List.set_cons_zero, List.set_cons_succ])
  refine wpAnyH_take (i := 6) (oi := ({ dst := some 98, op := Op.load 24 (Operand.tmp 21), type := 24, pos := "law.go:127", after := #[], guard := none } : Oper)) (v := ?_) rfl (by kernel_rfl) (by kernel_rfl) (by kernel_rfl) (fun _ _ _ h => h) (Or.inl ⟨by rfl, ?_⟩) (by with_reducible assumption) ?_
  rotate_left
  · intro w hSw
    (try dsimp only at hSw)
    first | (go_simp; done) | (go_simp; with_reducible rfl)
  (try simp only [Act.put, List.setIfInBounds_toArray, List.set_cons_zero, List.set_cons_succ])
  refine wpAnyH_take (i := 7) (oi := ({ dst := some 99, op := Op.load 24 (Operand.tmp 23), type := 24, pos := "law.go:127", after := #[], guard := none } : Oper)) (v := ?_) rfl (by kernel_rfl) (by kernel_rfl) (by kernel_rfl) (fun _ _ _ h => h) (Or.inl ⟨by rfl, ?_⟩) (by with_reducible assumption) ?_
  rotate_left
  · intro w hSw
    (try dsimp only at hSw)
    first | (go_simp; done) | (go_simp; with_reducible rfl)
  (try simp only [Act.put, List.setIfInBounds_toArray, List.set_cons_zero, List.set_cons_succ])
  refine wpAnyH_ready (rs := [8]) (by kernel_rfl) (by simp) ?_
  refine AllReadyH.cons (o := ({ dst := some 100, op := Op.call { callee := Callee.value (Operand.func 18), args := #[Operand.const (Value.int IntKind.i64 7)], argTypes := #[2] }, type := 24, pos := "law.go:127", after := #[], guard := none } : Oper)) rfl (fun K hK => ?_) AllReadyH.nil
  go_simp
  refine (IN.out _ (Gr.refl wq).drew).mono ?_
  rintro r wi ⟨⟨sI, aI, mI, kI, eI, rfl, hfI, hnI⟩, gI⟩
  refine hK.out _ _ ⟨⟨gI.keep hHeld.1.1, gI.keep hHeld.1.2.1, gI.keep hHeld.1.2.2.1, gI.keep hHeld.1.2.2.2.1, gI.keep hHeld.1.2.2.2.2.1, gI.keep hHeld.1.2.2.2.2.2.1, gI.keep hHeld.1.2.2.2.2.2.2.1, gI.keep hHeld.1.2.2.2.2.2.2.2.1, gI.keep hHeld.1.2.2.2.2.2.2.2.2.1, gI.keep hHeld.1.2.2.2.2.2.2.2.2.2.1, gI.keep hHeld.1.2.2.2.2.2.2.2.2.2.2.1, gI.keep hHeld.1.2.2.2.2.2.2.2.2.2.2.2.1, gI.keep hHeld.1.2.2.2.2.2.2.2.2.2.2.2.2.1, gI.keep hHeld.1.2.2.2.2.2.2.2.2.2.2.2.2.2.1, gI.keep hHeld.1.2.2.2.2.2.2.2.2.2.2.2.2.2.2.1, gI.keep hHeld.1.2.2.2.2.2.2.2.2.2.2.2.2.2.2.2.1, gI.keep hHeld.1.2.2.2.2.2.2.2.2.2.2.2.2.2.2.2.2.1, gI.keep hHeld.1.2.2.2.2.2.2.2.2.2.2.2.2.2.2.2.2.2.1, gI.keep hHeld.1.2.2.2.2.2.2.2.2.2.2.2.2.2.2.2.2.2.2.1, gI.keep hHeld.1.2.2.2.2.2.2.2.2.2.2.2.2.2.2.2.2.2.2.2.1, gI.keep hHeld.1.2.2.2.2.2.2.2.2.2.2.2.2.2.2.2.2.2.2.2.2⟩, hHeld.2.gr gI⟩ (fun hH8 => ?_)
  clear hK K hHeld
  (try simp only [Act.put, List.setIfInBounds_toArray, List.set_cons_zero, List.set_cons_succ])
  refine wpAnyH_ready (rs := [9]) (by kernel_rfl) (by simp) ?_
  refine AllReadyH.cons (o := ({ dst := some 101, op := Op.buildSlice 43 8 #[(0, Operand.tmp 93), (1, Operand.tmp 94), (2, Operand.tmp 95), (3, Operand.tmp 96), (4, Operand.tmp 97), (5, Operand.tmp 98), (6, Operand.tmp 99), (7, Operand.tmp 100)], type := 43, pos := "law.go:127", after := #[{ on := 1, ground := Ground.data }, { on := 2, ground := Ground.data }, { on := 3, ground := Ground.data }, { on := 4, ground := Ground.data }, { on := 5, ground := Ground.data }, { on := 6, ground := Ground.data }, { on := 7, ground := Ground.data }, { on := 8, ground := Ground.data }], guard := none } : Oper)) rfl (fun K hK => ?_) AllReadyH.nil
  go_simp
  have g9 := (Gr.refl wi).alloc (.cells #[.bool s0, .slice a0 m0 k0, .int .i64 e0, .bool s1, .slice a1 m1 k1, .int .i64 e1, .bool s2, .slice a2 m2 k2, .int .i64 e2, .bool s3, .slice a3 m3 k3, .int .i64 e3, .bool s4, .slice a4 m4 k4, .int .i64 e4, .bool s5, .slice a5 m5 k5, .int .i64 e5, .bool s6, .slice a6 m6 k6, .int .i64 e6, .bool sI, .slice aI mI kI, .int .i64 eI] 24)
  refine hK.out _ _ ⟨⟨g9.keep hH8.1.1, g9.keep hH8.1.2.1, g9.keep hH8.1.2.2.1, g9.keep hH8.1.2.2.2.1, g9.keep hH8.1.2.2.2.2.1, g9.keep hH8.1.2.2.2.2.2.1, g9.keep hH8.1.2.2.2.2.2.2.1, g9.keep hH8.1.2.2.2.2.2.2.2.1, g9.keep hH8.1.2.2.2.2.2.2.2.2.1, g9.keep hH8.1.2.2.2.2.2.2.2.2.2.1, g9.keep hH8.1.2.2.2.2.2.2.2.2.2.2.1, g9.keep hH8.1.2.2.2.2.2.2.2.2.2.2.2.1, g9.keep hH8.1.2.2.2.2.2.2.2.2.2.2.2.2.1, g9.keep hH8.1.2.2.2.2.2.2.2.2.2.2.2.2.2.1, g9.keep hH8.1.2.2.2.2.2.2.2.2.2.2.2.2.2.2.1, g9.keep hH8.1.2.2.2.2.2.2.2.2.2.2.2.2.2.2.2.1, g9.keep hH8.1.2.2.2.2.2.2.2.2.2.2.2.2.2.2.2.2.1, g9.keep hH8.1.2.2.2.2.2.2.2.2.2.2.2.2.2.2.2.2.2.1, g9.keep hH8.1.2.2.2.2.2.2.2.2.2.2.2.2.2.2.2.2.2.2.1, g9.keep hH8.1.2.2.2.2.2.2.2.2.2.2.2.2.2.2.2.2.2.2.2.1, g9.keep hH8.1.2.2.2.2.2.2.2.2.2.2.2.2.2.2.2.2.2.2.2.2⟩, hH8.2.gr g9⟩ (fun hH9 => ?_)
  clear hK K hH8
  (try simp only [Act.put, List.setIfInBounds_toArray, List.set_cons_zero, List.set_cons_succ])
  have gi : Gr wq wi := (Gr.refl wq).drew.trans gI
  have hrow : (wi.alloc (.cells #[.bool s0, .slice a0 m0 k0, .int .i64 e0, .bool s1, .slice a1 m1 k1, .int .i64 e1, .bool s2, .slice a2 m2 k2, .int .i64 e2, .bool s3, .slice a3 m3 k3, .int .i64 e3, .bool s4, .slice a4 m4 k4, .int .i64 e4, .bool s5, .slice a5 m5 k5, .int .i64 e5, .bool s6, .slice a6 m6 k6, .int .i64 e6, .bool sI, .slice aI mI kI, .int .i64 eI] 24)).ownsRow wq.heap.size 24 3 (.slice (some ⟨wi.heap.size, 0, none⟩) 8 8) 8 [.bool s0, .slice a0 m0 k0, .int .i64 e0, .bool s1, .slice a1 m1 k1, .int .i64 e1, .bool s2, .slice a2 m2 k2, .int .i64 e2, .bool s3, .slice a3 m3 k3, .int .i64 e3, .bool s4, .slice a4 m4 k4, .int .i64 e4, .bool s5, .slice a5 m5 k5, .int .i64 e5, .bool s6, .slice a6 m6 k6, .int .i64 e6, .bool sI, .slice aI mI kI, .int .i64 eI] := World.ownsRow_lit wi #[.bool s0, .slice a0 m0 k0, .int .i64 e0, .bool s1, .slice a1 m1 k1, .int .i64 e1, .bool s2, .slice a2 m2 k2, .int .i64 e2, .bool s3, .slice a3 m3 k3, .int .i64 e3, .bool s4, .slice a4 m4 k4, .int .i64 e4, .bool s5, .slice a5 m5 k5, .int .i64 e5, .bool s6, .slice a6 m6 k6, .int .i64 e6, .bool sI, .slice aI mI kI, .int .i64 eI] 8 gi.size (by unfold maxLen; omega) rfl
  have hfi : Fresh wq.heap.size (wi.alloc (.cells #[.bool s0, .slice a0 m0 k0, .int .i64 e0, .bool s1, .slice a1 m1 k1, .int .i64 e1, .bool s2, .slice a2 m2 k2, .int .i64 e2, .bool s3, .slice a3 m3 k3, .int .i64 e3, .bool s4, .slice a4 m4 k4, .int .i64 e4, .bool s5, .slice a5 m5 k5, .int .i64 e5, .bool s6, .slice a6 m6 k6, .int .i64 e6, .bool sI, .slice aI mI kI, .int .i64 eI] 24)) aI mI kI := (hfI.gr g9).low (Nat.le_refl _)
  have hl9 := g9.owns (gi.owns HL)
  have gq9 := gi.trans g9
  have hci : ∀ c, (Value.slice aI mI kI).ownBlock = some c → c < wi.heap.size := fun c hc => by
    obtain ⟨zs, hz⟩ := hfI
    exact (hz.lt c hc).2
  generalize wi.alloc (.cells #[.bool s0, .slice a0 m0 k0, .int .i64 e0, .bool s1, .slice a1 m1 k1, .int .i64 e1, .bool s2, .slice a2 m2 k2, .int .i64 e2, .bool s3, .slice a3 m3 k3, .int .i64 e3, .bool s4, .slice a4 m4 k4, .int .i64 e4, .bool s5, .slice a5 m5 k5, .int .i64 e5, .bool s6, .slice a6 m6 k6, .int .i64 e6, .bool sI, .slice aI mI kI, .int .i64 eI] 24) = wj at *
  refine wpAnyH_ready (rs := [10]) (by kernel_rfl) (by simp) ?_
  refine AllReadyH.cons (o := ({ dst := some 102, op := Op.buildSlice 29 1 #[(0, Operand.tmp 101)], type := 29, pos := "law.go:127", after := #[{ on := 9, ground := Ground.data }], guard := none } : Oper)) rfl (fun K hK => ?_) AllReadyH.nil
  go_simp
  have g10 := (Gr.refl wj).alloc (.cells #[.slice (some ⟨wi.heap.size, 0, none⟩) 8 8] 43)
  refine hK.out _ _ ⟨⟨g10.keep hH9.1.1, g10.keep hH9.1.2.1, g10.keep hH9.1.2.2.1, g10.keep hH9.1.2.2.2.1, g10.keep hH9.1.2.2.2.2.1, g10.keep hH9.1.2.2.2.2.2.1, g10.keep hH9.1.2.2.2.2.2.2.1, g10.keep hH9.1.2.2.2.2.2.2.2.1, g10.keep hH9.1.2.2.2.2.2.2.2.2.1, g10.keep hH9.1.2.2.2.2.2.2.2.2.2.1, g10.keep hH9.1.2.2.2.2.2.2.2.2.2.2.1, g10.keep hH9.1.2.2.2.2.2.2.2.2.2.2.2.1, g10.keep hH9.1.2.2.2.2.2.2.2.2.2.2.2.2.1, g10.keep hH9.1.2.2.2.2.2.2.2.2.2.2.2.2.2.1, g10.keep hH9.1.2.2.2.2.2.2.2.2.2.2.2.2.2.2.1, g10.keep hH9.1.2.2.2.2.2.2.2.2.2.2.2.2.2.2.2.1, g10.keep hH9.1.2.2.2.2.2.2.2.2.2.2.2.2.2.2.2.2.1, g10.keep hH9.1.2.2.2.2.2.2.2.2.2.2.2.2.2.2.2.2.2.1, g10.keep hH9.1.2.2.2.2.2.2.2.2.2.2.2.2.2.2.2.2.2.2.1, g10.keep hH9.1.2.2.2.2.2.2.2.2.2.2.2.2.2.2.2.2.2.2.2.1, g10.keep hH9.1.2.2.2.2.2.2.2.2.2.2.2.2.2.2.2.2.2.2.2.2⟩, hH9.2.gr g10⟩ (fun hH10 => ?_)
  clear hK K hH9
  (try simp only [Act.put, List.setIfInBounds_toArray, List.set_cons_zero, List.set_cons_succ])
  have hrow2 := g10.owns hrow
  have hfi2 := hfi.gr g10
  have hl10 := g10.owns hl9
  have gq10 := gq9.trans g10
  have hnb := new_block wj (.cells #[.slice (some ⟨wi.heap.size, 0, none⟩) 8 8] 43)
  generalize hwk : wj.alloc (.cells #[.slice (some ⟨wi.heap.size, 0, none⟩) 8 8] 43) = wk at *
  obtain ⟨i0, hi, hz0, hz1, hz2⟩ := info_parts Tryz.info43b
  refine wpAnyH_ready (rs := [11]) (by kernel_rfl) (by simp) ?_
  refine AllReadyH.cons (o := ({ dst := some 103, op := Op.call { callee := Callee.builtin Builtin.append, args := #[Operand.tmp 92, Operand.tmp 102], argTypes := #[29, 29] }, type := 29, pos := "law.go:127", after := #[{ on := 0, ground := Ground.data }, { on := 10, ground := Ground.data }, { on := 8, ground := Ground.chain }], guard := none } : Oper)) rfl (fun K hK => ?_) AllReadyH.nil
  rw [if_pos (by rfl)]
  refine wp_append_own wk _ _ 29 rfl Bl 43 i0 (.slice none 0 0) 1 24 Tryz.underlying29 hi hz0 hz1 hz2 rfl (by decide) lv k cs rfl hl10 ⟨wj.heap.size, 0, none⟩ 1 1 [.slice (some ⟨wi.heap.size, 0, none⟩) 8 8] rfl rfl ?_ ?_ (by unfold maxLen; omega) (by omega) (Nat.le_trans hBl gq10.size) ?_
  · intro j u hj
    match j, hj with
    | 0, hj => simp at hj; subst hj; simp [Addr.add, World.cell?, hnb]
  · intro u hu; rw [List.mem_singleton.1 hu]; rfl
  intro lv' wz hlz hgz _
  have gz : Gy lv.ownBlock wk wz := (Gy.refl _ _).grown hgz (fun k hk => Or.inl hk.symm)
  have gqz : Gy lv.ownBlock wq wz := (Gy.of_gr gq10).grown hgz (fun k hk => Or.inl hk.symm)
  refine hK.out _ _ ⟨⟨gz.cell hH10.1.1 hb0, gz.cell hH10.1.2.1 hb0, gz.cell hH10.1.2.2.1 hb0, gz.cell hH10.1.2.2.2.1 hb1, gz.cell hH10.1.2.2.2.2.1 hb1, gz.cell hH10.1.2.2.2.2.2.1 hb1, gz.cell hH10.1.2.2.2.2.2.2.1 hb2, gz.cell hH10.1.2.2.2.2.2.2.2.1 hb2, gz.cell hH10.1.2.2.2.2.2.2.2.2.1 hb2, gz.cell hH10.1.2.2.2.2.2.2.2.2.2.1 hb3, gz.cell hH10.1.2.2.2.2.2.2.2.2.2.2.1 hb3, gz.cell hH10.1.2.2.2.2.2.2.2.2.2.2.2.1 hb3, gz.cell hH10.1.2.2.2.2.2.2.2.2.2.2.2.2.1 hb4, gz.cell hH10.1.2.2.2.2.2.2.2.2.2.2.2.2.2.1 hb4, gz.cell hH10.1.2.2.2.2.2.2.2.2.2.2.2.2.2.2.1 hb4, gz.cell hH10.1.2.2.2.2.2.2.2.2.2.2.2.2.2.2.2.1 hb5, gz.cell hH10.1.2.2.2.2.2.2.2.2.2.2.2.2.2.2.2.2.1 hb5, gz.cell hH10.1.2.2.2.2.2.2.2.2.2.2.2.2.2.2.2.2.2.1 hb5, gz.cell hH10.1.2.2.2.2.2.2.2.2.2.2.2.2.2.2.2.2.2.2.1 hb6, gz.cell hH10.1.2.2.2.2.2.2.2.2.2.2.2.2.2.2.2.2.2.2.2.1 hb6, gz.cell hH10.1.2.2.2.2.2.2.2.2.2.2.2.2.2.2.2.2.2.2.2.2 hb6⟩, gqz⟩ (fun hH11 => ?_)
  clear hK K hH10
  (try simp only [Act.put, List.setIfInBounds_toArray, List.set_cons_zero, List.set_cons_succ])
  refine wpAnyH_take (i := 12) (oi := ({ dst := some 9, op := Op.assign (Operand.tmp 103), type := 29, pos := "law.go:127", after := #[{ on := 11, ground := Ground.data }, { on := 11, ground := Ground.chain }, { on := 0, ground := Ground.phase }, { on := 1, ground := Ground.phase }, { on := 2, ground := Ground.phase }, { on := 3, ground := Ground.phase }, { on := 4, ground := Ground.phase }, { on := 5, ground := Ground.phase }, { on := 6, ground := Ground.phase }, { on := 7, ground := Ground.phase }, { on := 8, ground := Ground.phase }, { on := 9, ground := Ground.phase }, { on := 10, ground := Ground.phase }, { on := 11, ground := Ground.phase }], guard := none } : Oper)) (v := ?_) rfl (by kernel_rfl) (by kernel_rfl) (by kernel_rfl) (fun _ _ _ h => h) (Or.inl ⟨by rfl, ?_⟩) (by with_reducible assumption) ?_
  rotate_left
  · intro w hSw
    (try dsimp only at hSw)
    first | (go_simp; done) | (go_simp; with_reducible rfl)
  (try simp only [Act.put, List.setIfInBounds_toArray, List.set_cons_zero, List.set_cons_succ])
  refine wpAnyH_done (by kernel_rfl) ?_ _
  refine ⟨_, _, _, _, _, _, _, _, _, _, _, _, lv', sI, aI, mI, kI, eI, wi.heap.size, wi, rfl, gz.owns hrow2 (fun c hc e => kinds_ne hrow2 hl10 (by decide) c hc e.symm), hlz, ?_, hnI, gqz, gi, Nat.le_refl _, hci, fun a0 h0 hl => (h0.trans gq10).grown hgz (fun k hk => Nat.le_trans hl (hl10.lt k hk).1)⟩
  obtain ⟨zs, hz⟩ := hfi2
  exact ⟨zs, gz.owns hz (fun c hc e => kinds_ne hz hl10 (by decide) c hc e.symm)⟩
end Go.Proofs.YtbkkpbffdnhidaaGreatDoor
namespace Go.Proofs.YtbkkpbffdnhidaaGreatDoor
open Go.RowKit
set_option linter.unusedVariables false

def jn {α : Type} (k : Nat) (f g : Nat → α) : Nat → α := fun j => if j < k then f j else g (j - k)
theorem jn_l {α : Type} {k : Nat} {f g : Nat → α} {j : Nat} (h : j < k) : jn k f g j = f j := if_pos h
theorem jn_r {α : Type} {k : Nat} {f g : Nat → α} {j : Nat} (h : ¬ j < k) : jn k f g j = g (j - k) := if_neg h
theorem Gy.of_grx {o : Option Nat} {a w w' : World} (h : Gr a w) (g : Gy o w w') (ho : ∀ k, o = some k → a.heap.size ≤ k) : Gr a w' :=
  ⟨g.os.trans h.os, g.output.trans h.output, Nat.le_trans h.size g.size, fun k hk => (g.block k (Nat.lt_of_lt_of_le hk h.size) (fun e => by have := ho k e.symm; omega)).trans (h.block k hk)⟩
theorem Dq.gy {m h base : Nat} {V U : Nat → Value} {nn cc : Nat → Nat} {zss : Nat → List Nat} {yss : Nat → List Value} {w w' : World} (A : Dq m h base V U nn cc zss yss w) {o : Option Nat} (g : Gy o w w') (hu : ∀ k, k < m → ∀ c, (U k).ownBlock = some c → some c ≠ o) (hv : ∀ j, j < h * m → ∀ c, (V j).ownBlock = some c → some c ≠ o) : Dq m h base V U nn cc zss yss w' :=
  ⟨A.uval, A.uapart, fun k hk => g.owns (A.urow k hk) (hu k hk), A.ucell, A.vval, A.vapart, fun j hj => g.owns (A.vrow j hj) (hv j hj), A.vsmall⟩
theorem Dq.gr {m h base : Nat} {V U : Nat → Value} {nn cc : Nat → Nat} {zss : Nat → List Nat} {yss : Nat → List Value} {w w' : World} (A : Dq m h base V U nn cc zss yss w) (g : Gr w w') : Dq m h base V U nn cc zss yss w' :=
  ⟨A.uval, A.uapart, fun k hk => g.owns (A.urow k hk), A.ucell, A.vval, A.vapart, fun j hj => g.owns (A.vrow j hj), A.vsmall⟩
theorem Dq.zero (h base : Nat) (V U : Nat → Value) (nn cc : Nat → Nat) (zss : Nat → List Nat) (yss : Nat → List Value) (w : World) : Dq 0 h base V U nn cc zss yss w :=
  ⟨fun k hk => absurd hk (by omega), fun j k hj => absurd hj (by omega), fun k hk => absurd hk (by omega), fun k hk => absurd hk (by omega), fun j hj => absurd hj (by omega), fun j k hj => absurd hj (by omega), fun j hj => absurd hj (by omega), fun j hj => absurd hj (by omega)⟩
theorem Dq.join {m base lo : Nat} {V U F : Nat → Value} {U1 : Value} {nn cc nF cF : Nat → Nat} {zss zF : Nat → List Nat} {yss : Nat → List Value} {ys : List Value} {w : World} (A : Dq m 8 base V U nn cc zss yss w) (B : Dq 1 8 lo F (fun _ => U1) nF cF zF (fun _ => ys) w) (hb : base ≤ lo) (hv : ∀ j, j < 8 * m → ∀ c, (V j).ownBlock = some c → c < lo) (hu : ∀ k, k < m → ∀ c, (U k).ownBlock = some c → c < lo) :
    Dq (m + 1) 8 base (jn (8 * m) V F) (jn m U (fun _ => U1)) (jn (8 * m) nn nF) (jn (8 * m) cc cF) (jn (8 * m) zss zF) (jn m yss (fun _ => ys)) w := by
  have fv : ∀ j, j < 8 → ∀ c, (F j).ownBlock = some c → lo ≤ c := fun j hj c hc => ((B.vrow j (by omega)).lt c hc).1
  have fu : ∀ c, U1.ownBlock = some c → lo ≤ c := fun c hc => ((B.urow 0 (by omega)).lt c hc).1
  refine ⟨fun k hk => ?_, fun j k hj hk b ej ek => ?_, fun k hk => ?_, fun k hk i hi => ?_, fun j hj => ?_, fun j k hj hk b ej ek => ?_, fun j hj => ?_, fun j hj => ?_⟩
  · by_cases h : k < m
    · rw [jn_l h]; exact A.uval k h
    · rw [jn_r h]; exact B.uval 0 (by omega)
  · by_cases h : j < m <;> by_cases h' : k < m
    · rw [jn_l h] at ej; rw [jn_l h'] at ek; exact A.uapart j k h h' b ej ek
    · rw [jn_l h] at ej; rw [jn_r h'] at ek
      have := hu j h b ej; have := fu b ek; omega
    · rw [jn_r h] at ej; rw [jn_l h'] at ek
      have := hu k h' b ek; have := fu b ej; omega
    · omega
  · by_cases h : k < m
    · rw [jn_l h, jn_l h]; exact A.urow k h
    · rw [jn_r h, jn_r h]; exact owns_low (B.urow 0 (by omega)) hb
  · by_cases h : k < m
    · rw [jn_l h, jn_l (show 8 * k + i < 8 * m by omega)]; exact A.ucell k h i hi
    · have e : k = m := by omega
      subst e
      rw [jn_r h, jn_r (show ¬ 8 * k + i < 8 * k by omega), Nat.add_sub_cancel_left]
      have := B.ucell 0 (by omega) i hi
      rwa [Nat.mul_zero, Nat.zero_add] at this
  · by_cases h : j < 8 * m
    · rw [jn_l h, jn_l h, jn_l h]; exact A.vval j h
    · rw [jn_r h, jn_r h, jn_r h]; exact B.vval (j - 8 * m) (by omega)
  · by_cases h : j < 8 * m <;> by_cases h' : k < 8 * m
    · rw [jn_l h] at ej; rw [jn_l h'] at ek; exact A.vapart j k h h' b ej ek
    · rw [jn_l h] at ej; rw [jn_r h'] at ek
      have := hv j h b ej; have := fv _ (by omega) b ek; omega
    · rw [jn_r h] at ej; rw [jn_l h'] at ek
      have := hv k h' b ek; have := fv _ (by omega) b ej; omega
    · rw [jn_r h] at ej; rw [jn_r h'] at ek
      have := B.vapart (j - 8 * m) (k - 8 * m) (by omega) (by omega) b ej ek
      omega
  · by_cases h : j < 8 * m
    · rw [jn_l h, jn_l h, jn_l h]; exact A.vrow j h
    · rw [jn_r h, jn_r h, jn_r h]; exact owns_low (B.vrow (j - 8 * m) (by omega)) hb
  · by_cases h : j < 8 * m
    · rw [jn_l h]; exact A.vsmall j h
    · rw [jn_r h]; exact B.vsmall (j - 8 * m) (by omega)
/-- one row, of eight dyads that were told one after the other -/
theorem Dq.one {lo b : Nat} {F : Nat → Value} {nF cF : Nat → Nat} {zF : Nat → List Nat} {ys : List Value} {w : World} (bs : Nat → Nat) (hrow : w.ownsRow lo 24 3 (.slice (some ⟨b, 0, none⟩) 8 8) 8 ys)
    (hcell : ∀ i, i < 8 → ∃ s e, ys[i * 3]? = some (.bool s) ∧ ys[i * 3 + 1]? = some (F i) ∧ ys[i * 3 + 2]? = some (.int .i64 e)) (hF : ∀ i, i < 8 → ∃ ad, F i = .slice ad (nF i) (cF i)) (hn : ∀ i, i < 8 → nF i ≤ 4096)
    (hown : ∀ i, i < 8 → w.ownsRow lo 49 1 (F i) (nF i) (u64s (zF i))) (hb : ∀ i, i < 8 → ∀ c, (F i).ownBlock = some c → bs i ≤ c ∧ c < bs (i + 1)) (hm : ∀ i, i < 8 → bs i ≤ bs (i + 1)) :
    Dq 1 8 lo F (fun _ => .slice (some ⟨b, 0, none⟩) 8 8) nF cF zF (fun _ => ys) w := by
  have mono : ∀ d i, i + d ≤ 8 → bs i ≤ bs (i + d) := by
    intro d
    induction d with
    | zero => intro i _; exact Nat.le_refl _
    | succ d ih => intro i hi; exact Nat.le_trans (ih i (by omega)) (hm (i + d) (by omega))
  have lt : ∀ i j, i < j → j < 8 → ∀ c, (F i).ownBlock = some c → (F j).ownBlock ≠ some c := fun i j hij hj c hi hj2 => by
    have h1 := (hb i (by omega) c hi).2
    have h2 := (hb j hj c hj2).1
    have h3 := mono (j - (i + 1)) (i + 1) (by omega)
    rw [show i + 1 + (j - (i + 1)) = j by omega] at h3
    omega
  refine ⟨fun k hk => ⟨b, rfl⟩, fun j k hj hk _ _ _ => by omega, fun k hk => hrow, fun k hk i hi => ?_, fun j hj => hF j (by omega), fun j k hj hk c ej ek => ?_, fun j hj => hown j (by omega), fun j hj => Nat.le_trans (hn j (by omega)) (by omega)⟩
  · obtain rfl : k = 0 := by omega
    rw [Nat.mul_zero, Nat.zero_add]
    exact hcell i hi
  · rcases Nat.lt_trichotomy j k with h | h | h
    · exact absurd ek (lt j k h (by omega) c ej)
    · exact h
    · exact absurd ej (lt k j h (by omega) c ek)
theorem Row.unique {w : World} {ad : Option Addr} {n c : Nat} {xs ys : List Nat} (h : Row w ad n c xs) (k : Row w ad n c ys) : xs = ys := by
  refine List.ext_getElem (h.len.trans k.len.symm) fun i h1 h2 => ?_
  obtain ⟨b, off, e, _, hc⟩ := h.cells (by have := h.len; omega)
  obtain ⟨b', off', e', _, hc'⟩ := k.cells (by have := k.len; omega)
  rw [e] at e'
  injection e' with e'
  injection e' with e1 e2
  subst e1
  subst e2
  have a1 := hc i (by have := h.len; omega)
  have a2 := hc' i (by have := k.len; omega)
  rw [a1] at a2
  injection a2 with a2
  injection a2 with _ a2
  have a3 : xs.getD i 0 = ys.getD i 0 := by omega
  rw [List.getD_eq_getElem?_getD, List.getD_eq_getElem?_getD, List.getElem?_eq_getElem h1, List.getElem?_eq_getElem h2] at a3
  exact a3
theorem fresh_dg {w : World} {ad : Option Addr} {n cap B B0 X : Nat} (h : Lim w ad n cap B X) (f : Fresh B0 w ad n cap) : ∃ xs, w.ownsRow B0 49 1 (.slice ad n cap) n (u64s xs) ∧ Dg B X xs := by
  obtain ⟨ys, hr, hd⟩ := h
  obtain ⟨xs, ho⟩ := f
  obtain ⟨ad', cap', e, hr'⟩ := Row.of_owns ho
  injection e with e1 _ e3
  subst e1
  subst e3
  have := hr'.unique hr
  subst this
  exact ⟨xs, ho, hd⟩
theorem lim_of_owns {w : World} {ad : Option Addr} {n cap B B0 X : Nat} {xs : List Nat} (ho : w.ownsRow B0 49 1 (.slice ad n cap) n (u64s xs)) (hd : Dg B X xs) : Lim w ad n cap B X := by
  obtain ⟨ad', cap', e, hr'⟩ := Row.of_owns ho
  injection e with e1 _ e3
  subst e1
  subst e3
  exact ⟨xs, hr', hd⟩
/-- that dyad stands at place i of a row, with those limbs -/
structure TV (S : Bool) (X : Nat) (E : Int) (v : Value) (zs : List Nat) (ys : List Value) (i : Nat) : Prop where
  c0 : ys[i * 3]? = some (.bool S)
  c1 : ys[i * 3 + 1]? = some v
  c2 : ys[i * 3 + 2]? = some (.int .i64 E)
  dg : Dg 18446744073709551616 X zs
end Go.Proofs.YtbkkpbffdnhidaaGreatDoor
