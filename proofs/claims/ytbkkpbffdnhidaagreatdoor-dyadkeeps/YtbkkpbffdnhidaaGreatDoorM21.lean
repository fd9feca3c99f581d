import Derived.Test.YtbkkpbffdnhidaaGreatDoorM20
import Derived.Deep.RegionHeld3
namespace Go.Proofs.YtbkkpbffdnhidaaGreatDoor
open Go.RowKit
set_option linter.unusedVariables false
set_option linter.unusedSimpArgs false

def R25 (t0 t1 t2 t3 t4 t5 t6 t7 t8 t10 t11 t12 t13 t14 t15 t16 t17 t18 t19 t20 t21 t22 t23 t24 t29 t30 t31 t32 t33 t34 t35 t36 t37 t38 t39 t40 t41 t42 t43 t44 t45 t46 t47 t48 t49 t50 t51 t52 t53 t54 t55 t56 t57 t58 t59 t60 t61 t62 t63 t64 t65 t66 t67 t68 t69 t70 t71 t72 t73 t74 t75 t76 t77 t78 t79 t80 t81 t82 t83 t84 t85 t86 t87 t88 t89 t90 t91 t92 t93 t94 t95 t96 t97 t98 t99 t100 t101 t102 t103 t104 t105 t106 t107 t108 t109 t110 t111 t112 t113 t114 t115 t116 t117 t118 t119 t120 t121 t122 t123 t124 t125 t126 t127 t128 t129 t130 t131 t132 t133 t134 t135 t136 t137 t138 t139 t140 t141 t142 t143 t144 t145 t146 t147 t148 t149 t150 t151 t152 t153 t154 t155 t156 t157 t158 t159 : Value) (bq b0 b1 pS pN mc : Nat) (SA SN : Bool) (a0 a1 aS aN : Option Addr) (m0 k0 m1 k1 mS kS mN kN : Nat) (EA EN GA GN : Int) (wq : World) : Exit → Act → World → Prop
  | .normal, a, w => ∃ u129 u130 u131 u132 u133 u134 u135 u136 u137 u138 u139 u140 u141 u142 u143 u144 u145 u146 u147 u148 u149 u150 u151 u152 u153, a = { tmps := #[t0, t1, t2, t3, t4, t5, t6, t7, t8, .slice (some ⟨bq, 0, none⟩) 2 mc, t10, t11, t12, t13, t14, t15, t16, t17, t18, t19, t20, t21, t22, t23, t24, .pointer (some ⟨pS, 0, none⟩), .int .i64 GA, .pointer (some ⟨pN, 0, none⟩), .int .i64 GN, t29, t30, t31, t32, t33, t34, t35, t36, t37, t38, t39, t40, t41, t42, t43, t44, t45, t46, t47, t48, t49, t50, t51, t52, t53, t54, t55, t56, t57, t58, t59, t60, t61, t62, t63, t64, t65, t66, t67, t68, t69, t70, t71, t72, t73, t74, t75, t76, t77, t78, t79, t80, t81, t82, t83, t84, t85, t86, t87, t88, t89, t90, t91, t92, t93, t94, t95, t96, t97, t98, t99, t100, t101, t102, t103, t104, t105, t106, t107, t108, t109, t110, t111, t112, t113, t114, t115, t116, t117, t118, t119, t120, t121, t122, t123, t124, t125, t126, t127, t128, u129, u130, u131, u132, u133, u134, u135, u136, u137, u138, u139, u140, u141, u142, u143, u144, u145, u146, u147, u148, u149, u150, u151, u152, u153, .bool false, t155, t156, t157, t158, t159], defers := [] } ∧ Gr wq w
  | _, _, _ => False
set_option maxRecDepth 100000 in
set_option maxHeartbeats 40000000 in
theorem reg25 (t0 t1 t2 t3 t4 t5 t6 t7 t8 t10 t11 t12 t13 t14 t15 t16 t17 t18 t19 t20 t21 t22 t23 t24 t29 t30 t31 t32 t33 t34 t35 t36 t37 t38 t39 t40 t41 t42 t43 t44 t45 t46 t47 t48 t49 t50 t51 t52 t53 t54 t55 t56 t57 t58 t59 t60 t61 t62 t63 t64 t65 t66 t67 t68 t69 t70 t71 t72 t73 t74 t75 t76 t77 t78 t79 t80 t81 t82 t83 t84 t85 t86 t87 t88 t89 t90 t91 t92 t93 t94 t95 t96 t97 t98 t99 t100 t101 t102 t103 t104 t105 t106 t107 t108 t109 t110 t111 t112 t113 t114 t115 t116 t117 t118 t119 t120 t121 t122 t123 t124 t125 t126 t127 t128 t129 t130 t131 t132 t133 t134 t135 t136 t137 t138 t139 t140 t141 t142 t143 t144 t145 t146 t147 t148 t149 t150 t151 t152 t153 t154 t155 t156 t157 t158 t159 : Value) (bq b0 b1 pS pN mc : Nat) (SA SN : Bool) (a0 a1 aS aN : Option Addr) (m0 k0 m1 k1 mS kS mN kN : Nat) (EA EN GA GN : Int) (wq : World)
    (SD1 : Hid (GA = 0 → ∀ w1, Gr wq w1 → Calls Tryz.prog 23 #[.agg #[.bool SA, .slice a0 m0 k0, .int .i64 EA], .agg #[.bool SA, .slice aS mS kS, .int .i64 EA]] w1 fun r w' => r = .returned (.bool true) ∧ Gr w1 w'))
    (SD2 : Hid (GN = 0 → ∀ w1, Gr wq w1 → Calls Tryz.prog 23 #[.agg #[.bool SN, .slice a1 m1 k1, .int .i64 EN], .agg #[.bool SN, .slice aN mN kN, .int .i64 EN]] w1 fun r w' => r = .returned (.bool true) ∧ Gr w1 w'))
    (hm : 2 ≤ mc) (hcs : (wq.cell? ⟨bq, 0, none⟩ = some (.slice (some ⟨b0, 0, none⟩) 8 8) ∧ wq.cell? ⟨bq, 1, none⟩ = some (.slice (some ⟨b1, 0, none⟩) 8 8) ∧ wq.cell? ⟨b0, 0, none⟩ = some (.bool SA) ∧ wq.cell? ⟨b0, 1, none⟩ = some (.slice a0 m0 k0) ∧ wq.cell? ⟨b0, 2, none⟩ = some (.int .i64 EA) ∧ wq.cell? ⟨b1, 9, none⟩ = some (.bool SN) ∧ wq.cell? ⟨b1, 10, none⟩ = some (.slice a1 m1 k1) ∧ wq.cell? ⟨b1, 11, none⟩ = some (.int .i64 EN) ∧ wq.cell? ⟨pS, 0, none⟩ = some (.bool SA) ∧ wq.cell? ⟨pS, 1, none⟩ = some (.slice aS mS kS) ∧ wq.cell? ⟨pS, 2, none⟩ = some (.int .i64 EA) ∧ wq.cell? ⟨pN, 0, none⟩ = some (.bool SN) ∧ wq.cell? ⟨pN, 1, none⟩ = some (.slice aN mN kN) ∧ wq.cell? ⟨pN, 2, none⟩ = some (.int .i64 EN))) :
    Code.wp Tryz.prog (Code.region 25 #[{ dst := some 129, op := Op.move (Operand.tmp 26), type := 30, pos := "law.go:136", after := #[], guard := none }, { dst := some 130, op := Op.binOp BinOp.eql 30 (Operand.tmp 129) (Operand.const (Value.int IntKind.i64 0)) 30, type := 4, pos := "law.go:136", after := #[{ on := 0, ground := Ground.data }], guard := none }, { dst := some 131, op := Op.move (Operand.tmp 130), type := 4, pos := "law.go:136", after := #[{ on := 1, ground := Ground.data }], guard := none }, { dst := some 132, op := Op.move (Operand.tmp 9), type := 29, pos := "law.go:136", after := #[{ on := 2, ground := Ground.guard }], guard := some (2, true) }, { dst := some 133, op := Op.indexAddr 29 (Operand.tmp 132) (Operand.const (Value.int IntKind.i64 0)), type := 0, pos := "law.go:136", after := #[{ on := 3, ground := Ground.data }, { on := 2, ground := Ground.guard }], guard := some (2, true) }, { dst := some 134, op := Op.load 43 (Operand.tmp 133), type := 43, pos := "law.go:136", after := #[{ on := 4, ground := Ground.data }, { on := 2, ground := Ground.guard }], guard := some (2, true) }, { dst := some 135, op := Op.indexAddr 43 (Operand.tmp 134) (Operand.const (Value.int IntKind.i64 0)), type := 0, pos := "law.go:136", after := #[{ on := 5, ground := Ground.data }, { on := 2, ground := Ground.guard }], guard := some (2, true) }, { dst := some 136, op := Op.load 24 (Operand.tmp 135), type := 24, pos := "law.go:136", after := #[{ on := 6, ground := Ground.data }, { on := 2, ground := Ground.guard }], guard := some (2, true) }, { dst := some 137, op := Op.load 24 (Operand.tmp 25), type := 24, pos := "law.go:136", after := #[{ on := 2, ground := Ground.guard }], guard := some (2, true) }, { dst := some 138, op := Op.call { callee := Callee.value (Operand.func 23), args := #[Operand.tmp 136, Operand.tmp 137], argTypes := #[24, 24] }, type := 4, pos := "law.go:136", after := #[{ on := 7, ground := Ground.data }, { on := 8, ground := Ground.data }, { on := 2, ground := Ground.chain }, { on := 2, ground := Ground.guard }], guard := some (2, true) }, { dst := some 139, op := Op.unOp UnOp.not 4 (Operand.tmp 138), type := 4, pos := "law.go:136", after := #[{ on := 9, ground := Ground.data }, { on := 2, ground := Ground.guard }], guard := some (2, true) }, { dst := some 140, op := Op.pick (Operand.tmp 131) (Operand.tmp 139) (Operand.const (Value.bool false)), type := 4, pos := "law.go:136", after := #[{ on := 2, ground := Ground.data }, { on := 10, ground := Ground.data }], guard := none }, { dst := some 141, op := Op.move (Operand.tmp 140), type := 4, pos := "law.go:136", after := #[{ on := 11, ground := Ground.data }, { on := 9, ground := Ground.chain }], guard := none }, { dst := some 142, op := Op.move (Operand.tmp 28), type := 30, pos := "law.go:136", after := #[{ on := 12, ground := Ground.guard }], guard := some (12, false) }, { dst := some 143, op := Op.binOp BinOp.eql 30 (Operand.tmp 142) (Operand.const (Value.int IntKind.i64 0)) 30, type := 4, pos := "law.go:136", after := #[{ on := 13, ground := Ground.data }, { on := 12, ground := Ground.guard }], guard := some (12, false) }, { dst := some 144, op := Op.move (Operand.tmp 143), type := 4, pos := "law.go:136", after := #[{ on := 14, ground := Ground.data }, { on := 12, ground := Ground.chain }, { on := 12, ground := Ground.guard }], guard := some (12, false) }, { dst := some 145, op := Op.move (Operand.tmp 9), type := 29, pos := "law.go:136", after := #[{ on := 15, ground := Ground.guard }], guard := some (15, true) }, { dst := some 146, op := Op.indexAddr 29 (Operand.tmp 145) (Operand.const (Value.int IntKind.i64 1)), type := 0, pos := "law.go:136", after := #[{ on := 16, ground := Ground.data }, { on := 15, ground := Ground.guard }], guard := some (15, true) }, { dst := some 147, op := Op.load 43 (Operand.tmp 146), type := 43, pos := "law.go:136", after := #[{ on := 17, ground := Ground.data }, { on := 15, ground := Ground.guard }], guard := some (15, true) }, { dst := some 148, op := Op.indexAddr 43 (Operand.tmp 147) (Operand.const (Value.int IntKind.i64 3)), type := 0, pos := "law.go:136", after := #[{ on := 18, ground := Ground.data }, { on := 15, ground := Ground.guard }], guard := some (15, true) }, { dst := some 149, op := Op.load 24 (Operand.tmp 148), type := 24, pos := "law.go:136", after := #[{ on := 19, ground := Ground.data }, { on := 15, ground := Ground.guard }], guard := some (15, true) }, { dst := some 150, op := Op.load 24 (Operand.tmp 27), type := 24, pos := "law.go:136", after := #[{ on := 15, ground := Ground.guard }], guard := some (15, true) }, { dst := some 151, op := Op.call { callee := Callee.value (Operand.func 23), args := #[Operand.tmp 149, Operand.tmp 150], argTypes := #[24, 24] }, type := 4, pos := "law.go:136", after := #[{ on := 20, ground := Ground.data }, { on := 21, ground := Ground.data }, { on := 15, ground := Ground.chain }, { on := 15, ground := Ground.guard }], guard := some (15, true) }, { dst := some 152, op := Op.unOp UnOp.not 4 (Operand.tmp 151), type := 4, pos := "law.go:136", after := #[{ on := 22, ground := Ground.data }, { on := 15, ground := Ground.guard }], guard := some (15, true) }, { dst := some 153, op := Op.pick (Operand.tmp 144) (Operand.tmp 152) (Operand.const (Value.bool false)), type := 4, pos := "law.go:136", after := #[{ on := 15, ground := Ground.data }, { on := 23, ground := Ground.data }, { on := 12, ground := Ground.guard }], guard := some (12, false) }, { dst := some 154, op := Op.pick (Operand.tmp 141) (Operand.const (Value.bool true)) (Operand.tmp 153), type := 4, pos := "law.go:136", after := #[{ on := 12, ground := Ground.data }, { on := 24, ground := Ground.data }], guard := none }] true) (R25 t0 t1 t2 t3 t4 t5 t6 t7 t8 t10 t11 t12 t13 t14 t15 t16 t17 t18 t19 t20 t21 t22 t23 t24 t29 t30 t31 t32 t33 t34 t35 t36 t37 t38 t39 t40 t41 t42 t43 t44 t45 t46 t47 t48 t49 t50 t51 t52 t53 t54 t55 t56 t57 t58 t59 t60 t61 t62 t63 t64 t65 t66 t67 t68 t69 t70 t71 t72 t73 t74 t75 t76 t77 t78 t79 t80 t81 t82 t83 t84 t85 t86 t87 t88 t89 t90 t91 t92 t93 t94 t95 t96 t97 t98 t99 t100 t101 t102 t103 t104 t105 t106 t107 t108 t109 t110 t111 t112 t113 t114 t115 t116 t117 t118 t119 t120 t121 t122 t123 t124 t125 t126 t127 t128 t129 t130 t131 t132 t133 t134 t135 t136 t137 t138 t139 t140 t141 t142 t143 t144 t145 t146 t147 t148 t149 t150 t151 t152 t153 t154 t155 t156 t157 t158 t159 bq b0 b1 pS pN mc SA SN a0 a1 aS aN m0 k0 m1 k1 mS kS mN kN EA EN GA GN wq) { tmps := #[t0, t1, t2, t3, t4, t5, t6, t7, t8, .slice (some ⟨bq, 0, none⟩) 2 mc, t10, t11, t12, t13, t14, t15, t16, t17, t18, t19, t20, t21, t22, t23, t24, .pointer (some ⟨pS, 0, none⟩), .int .i64 GA, .pointer (some ⟨pN, 0, none⟩), .int .i64 GN, t29, t30, t31, t32, t33, t34, t35, t36, t37, t38, t39, t40, t41, t42, t43, t44, t45, t46, t47, t48, t49, t50, t51, t52, t53, t54, t55, t56, t57, t58, t59, t60, t61, t62, t63, t64, t65, t66, t67, t68, t69, t70, t71, t72, t73, t74, t75, t76, t77, t78, t79, t80, t81, t82, t83, t84, t85, t86, t87, t88, t89, t90, t91, t92, t93, t94, t95, t96, t97, t98, t99, t100, t101, t102, t103, t104, t105, t106, t107, t108, t109, t110, t111, t112, t113, t114, t115, t116, t117, t118, t119, t120, t121, t122, t123, t124, t125, t126, t127, t128, t129, t130, t131, t132, t133, t134, t135, t136, t137, t138, t139, t140, t141, t142, t143, t144, t145, t146, t147, t148, t149, t150, t151, t152, t153, t154, t155, t156, t157, t158, t159], defers := [] } wq := by
  have hS0 : (wq.drew.cell? ⟨bq, 0, none⟩ = some (.slice (some ⟨b0, 0, none⟩) 8 8) ∧ wq.drew.cell? ⟨bq, 1, none⟩ = some (.slice (some ⟨b1, 0, none⟩) 8 8) ∧ wq.drew.cell? ⟨b0, 0, none⟩ = some (.bool SA) ∧ wq.drew.cell? ⟨b0, 1, none⟩ = some (.slice a0 m0 k0) ∧ wq.drew.cell? ⟨b0, 2, none⟩ = some (.int .i64 EA) ∧ wq.drew.cell? ⟨b1, 9, none⟩ = some (.bool SN) ∧ wq.drew.cell? ⟨b1, 10, none⟩ = some (.slice a1 m1 k1) ∧ wq.drew.cell? ⟨b1, 11, none⟩ = some (.int .i64 EN) ∧ wq.drew.cell? ⟨pS, 0, none⟩ = some (.bool SA) ∧ wq.drew.cell? ⟨pS, 1, none⟩ = some (.slice aS mS kS) ∧ wq.drew.cell? ⟨pS, 2, none⟩ = some (.int .i64 EA) ∧ wq.drew.cell? ⟨pN, 0, none⟩ = some (.bool SN) ∧ wq.drew.cell? ⟨pN, 1, none⟩ = some (.slice aN mN kN) ∧ wq.drew.cell? ⟨pN, 2, none⟩ = some (.int .i64 EN)) ∧ Gr wq wq.drew := ⟨hcs, (Gr.refl wq).drew⟩
  clear hcs
  by_cases hA : GA = 0
  · by_cases hN : GN = 0
    · have D1 := hide (SD1.out hA)
      have D2 := hide (SD2.out hN)
      subst hA
      subst hN
      refine wp_region_held_drew (S := fun w' => (w'.cell? ⟨bq, 0, none⟩ = some (.slice (some ⟨b0, 0, none⟩) 8 8) ∧ w'.cell? ⟨bq, 1, none⟩ = some (.slice (some ⟨b1, 0, none⟩) 8 8) ∧ w'.cell? ⟨b0, 0, none⟩ = some (.bool SA) ∧ w'.cell? ⟨b0, 1, none⟩ = some (.slice a0 m0 k0) ∧ w'.cell? ⟨b0, 2, none⟩ = some (.int .i64 EA) ∧ w'.cell? ⟨b1, 9, none⟩ = some (.bool SN) ∧ w'.cell? ⟨b1, 10, none⟩ = some (.slice a1 m1 k1) ∧ w'.cell? ⟨b1, 11, none⟩ = some (.int .i64 EN) ∧ w'.cell? ⟨pS, 0, none⟩ = some (.bool SA) ∧ w'.cell? ⟨pS, 1, none⟩ = some (.slice aS mS kS) ∧ w'.cell? ⟨pS, 2, none⟩ = some (.int .i64 EA) ∧ w'.cell? ⟨pN, 0, none⟩ = some (.bool SN) ∧ w'.cell? ⟨pN, 1, none⟩ = some (.slice aN mN kN) ∧ w'.cell? ⟨pN, 2, none⟩ = some (.int .i64 EN)) ∧ Gr wq w') (by kernel_rfl) hS0 (fun hHeld => ?_)
      refine wpAnyH_take (i := 0) (oi := ({ dst := some 129, op := Op.move (Operand.tmp 26), type := 30, pos := "law.go:136", after := #[], guard := none } : Oper)) (v := ?_) rfl (by kernel_rfl) (by kernel_rfl) (by kernel_rfl) (fun _ _ _ h => h) (Or.inl ⟨by rfl, ?_⟩) (by with_reducible assumption) ?_
      rotate_left
      · intro w hSw
        (try dsimp only at hSw)
        first | (go_simp; done) | (go_simp; with_reducible rfl)
      (try simp only [Act.put, List.setIfInBounds_toArray, List.set_cons_zero, List.set_cons_succ])
      refine wpAnyH_take (i := 1) (oi := ({ dst := some 130, op := Op.binOp BinOp.eql 30 (Operand.tmp 129) (Operand.const (Value.int IntKind.i64 0)) 30, type := 4, pos := "law.go:136", after := #[{ on := 0, ground := Ground.data }], guard := none } : Oper)) (v := ?_) rfl (by kernel_rfl) (by kernel_rfl) (by kernel_rfl) (fun _ _ _ h => h) (Or.inl ⟨by rfl, ?_⟩) (by with_reducible assumption) ?_
      rotate_left
      · intro w hSw
        (try dsimp only at hSw)
        first | (go_simp; done) | (go_simp; with_reducible rfl)
      (try simp only [Act.put, List.setIfInBounds_toArray, List.set_cons_zero, List.set_cons_succ])
      refine wpAnyH_take (i := 2) (oi := ({ dst := some 131, op := Op.move (Operand.tmp 130), type := 4, pos := "law.go:136", after := #[{ on := 1, ground := Ground.data }], guard := none } : Oper)) (v := ?_) rfl (by kernel_rfl) (by kernel_rfl) (by kernel_rfl) (fun _ _ _ h => h) (Or.inl ⟨by rfl, ?_⟩) (by with_reducible assumption) ?_
      rotate_left
      · intro w hSw
        (try dsimp only at hSw)
        first | (go_simp; done) | (go_simp; with_reducible rfl)
      (try simp only [Act.put, List.setIfInBounds_toArray, List.set_cons_zero, List.set_cons_succ])
      refine wpAnyH_take (i := 3) (oi := ({ dst := some 132, op := Op.move (Operand.tmp 9), type := 29, pos := "law.go:136", after := #[{ on := 2, ground := Ground.guard }], guard := some (2, true) } : Oper)) (v := ?_) rfl (by kernel_rfl) (by kernel_rfl) (by kernel_rfl) (fun _ _ _ h => h) (Or.inl ⟨by rfl, ?_⟩) (by with_reducible assumption) ?_
      rotate_left
      · intro w hSw
        (try dsimp only at hSw)
        first | (go_simp; done) | (go_simp; with_reducible rfl)
      (try simp only [Act.put, List.setIfInBounds_toArray, List.set_cons_zero, List.set_cons_succ])
      refine wpAnyH_take (i := 4) (oi := ({ dst := some 133, op := Op.indexAddr 29 (Operand.tmp 132) (Operand.const (Value.int IntKind.i64 0)), type := 0, pos := "law.go:136", after := #[{ on := 3, ground := Ground.data }, { on := 2, ground := Ground.guard }], guard := some (2, true) } : Oper)) (v := ?_) rfl (by kernel_rfl) (by kernel_rfl) (by kernel_rfl) (fun _ _ _ h => h) (Or.inl ⟨by rfl, ?_⟩) (by with_reducible assumption) ?_
      rotate_left
      · intro w hSw
        (try dsimp only at hSw)
        first | (go_simp; done) | (go_simp; with_reducible rfl)
      (try simp only [Act.put, List.setIfInBounds_toArray, List.set_cons_zero, List.set_cons_succ])
      refine wpAnyH_take (i := 5) (oi := ({ dst := some 134, op := Op.load 43 (Operand.tmp 133), type := 43, pos := "law.go:136", after := #[{ on := 4, ground := Ground.data }, { on := 2, ground := Ground.guard }], guard := some (2, true) } : Oper)) (v := ?_) rfl (by kernel_rfl) (by kernel_rfl) (by kernel_rfl) (fun _ _ _ h => h) (Or.inl ⟨by rfl, ?_⟩) (by with_reducible assumption) ?_
      rotate_left
      · intro w hSw
        (try dsimp only at hSw)
        first | (go_simp; done) | (go_simp; with_reducible rfl)
      (try simp only [Act.put, List.setIfInBounds_toArray, List.set_cons_zero, List.set_cons_succ])
      refine wpAnyH_take (i := 6) (oi := ({ dst := some 135, op := Op.indexAddr 43 (Operand.tmp 134) (Operand.const (Value.int IntKind.i64 0)), type := 0, pos := "law.go:136", after := #[{ on := 5, ground := Ground.data }, { on := 2, ground := Ground.guard }], guard := some (2, true) } : Oper)) (v := ?_) rfl (by kernel_rfl) (by kernel_rfl) (by kernel_rfl) (fun _ _ _ h => h) (Or.inl ⟨by rfl, ?_⟩) (by with_reducible assumption) ?_
      rotate_left
      · intro w hSw
        (try dsimp only at hSw)
        first | (go_simp; done) | (go_simp; with_reducible rfl)
      (try simp only [Act.put, List.setIfInBounds_toArray, List.set_cons_zero, List.set_cons_succ])
      refine wpAnyH_take (i := 7) (oi := ({ dst := some 136, op := Op.load 24 (Operand.tmp 135), type := 24, pos := "law.go:136", after := #[{ on := 6, ground := Ground.data }, { on := 2, ground := Ground.guard }], guard := some (2, true) } : Oper)) (v := ?_) rfl (by kernel_rfl) (by kernel_rfl) (by kernel_rfl) (fun _ _ _ h => h) (Or.inl ⟨by rfl, ?_⟩) (by with_reducible assumption) ?_
      rotate_left
      · intro w hSw
        (try dsimp only at hSw)
        first | (go_simp; done) | (go_simp; with_reducible rfl)
      (try simp only [Act.put, List.setIfInBounds_toArray, List.set_cons_zero, List.set_cons_succ])
      refine wpAnyH_take (i := 8) (oi := ({ dst := some 137, op := Op.load 24 (Operand.tmp 25), type := 24, pos := "law.go:136", after := #[{ on := 2, ground := Ground.guard }], guard := some (2, true) } : Oper)) (v := ?_) rfl (by kernel_rfl) (by kernel_rfl) (by kernel_rfl) (fun _ _ _ h => h) (Or.inl ⟨by rfl, ?_⟩) (by with_reducible assumption) ?_
      rotate_left
      · intro w hSw
        (try dsimp only at hSw)
        first | (go_simp; done) | (go_simp; with_reducible rfl)
      (try simp only [Act.put, List.setIfInBounds_toArray, List.set_cons_zero, List.set_cons_succ])
      refine wpAnyH_ready (rs := [9]) (by kernel_rfl) (by simp) ?_
      refine AllReadyH.cons (o := ({ dst := some 138, op := Op.call { callee := Callee.value (Operand.func 23), args := #[Operand.tmp 136, Operand.tmp 137], argTypes := #[24, 24] }, type := 4, pos := "law.go:136", after := #[{ on := 7, ground := Ground.data }, { on := 8, ground := Ground.data }, { on := 2, ground := Ground.chain }, { on := 2, ground := Ground.guard }], guard := some (2, true) } : Oper)) rfl (fun K hK => ?_) AllReadyH.nil
      (first | (rw [if_pos (by rfl)]) | skip)
      go_simp
      refine (D1.out _ hHeld.2).mono ?_
      rintro r wg9 ⟨rfl, gg9⟩
      refine hK.out _ _ ⟨⟨gg9.keep hHeld.1.1, gg9.keep hHeld.1.2.1, gg9.keep hHeld.1.2.2.1, gg9.keep hHeld.1.2.2.2.1, gg9.keep hHeld.1.2.2.2.2.1, gg9.keep hHeld.1.2.2.2.2.2.1, gg9.keep hHeld.1.2.2.2.2.2.2.1, gg9.keep hHeld.1.2.2.2.2.2.2.2.1, gg9.keep hHeld.1.2.2.2.2.2.2.2.2.1, gg9.keep hHeld.1.2.2.2.2.2.2.2.2.2.1, gg9.keep hHeld.1.2.2.2.2.2.2.2.2.2.2.1, gg9.keep hHeld.1.2.2.2.2.2.2.2.2.2.2.2.1, gg9.keep hHeld.1.2.2.2.2.2.2.2.2.2.2.2.2.1, gg9.keep hHeld.1.2.2.2.2.2.2.2.2.2.2.2.2.2⟩, hHeld.2.trans gg9⟩ (fun hH9 => ?_)
      clear hK K hHeld
      (try simp only [Act.put, List.setIfInBounds_toArray, List.set_cons_zero, List.set_cons_succ])
      refine wpAnyH_take (i := 10) (oi := ({ dst := some 139, op := Op.unOp UnOp.not 4 (Operand.tmp 138), type := 4, pos := "law.go:136", after := #[{ on := 9, ground := Ground.data }, { on := 2, ground := Ground.guard }], guard := some (2, true) } : Oper)) (v := ?_) rfl (by kernel_rfl) (by kernel_rfl) (by kernel_rfl) (fun _ _ _ h => h) (Or.inl ⟨by rfl, ?_⟩) (by with_reducible assumption) ?_
      rotate_left
      · intro w hSw
        (try dsimp only at hSw)
        first | (go_simp; done) | (go_simp; with_reducible rfl)
      (try simp only [Act.put, List.setIfInBounds_toArray, List.set_cons_zero, List.set_cons_succ])
      refine wpAnyH_take (i := 11) (oi := ({ dst := some 140, op := Op.pick (Operand.tmp 131) (Operand.tmp 139) (Operand.const (Value.bool false)), type := 4, pos := "law.go:136", after := #[{ on := 2, ground := Ground.data }, { on := 10, ground := Ground.data }], guard := none } : Oper)) (v := ?_) rfl (by kernel_rfl) (by kernel_rfl) (by kernel_rfl) (fun _ _ _ h => h) (Or.inl ⟨by rfl, ?_⟩) (by with_reducible assumption) ?_
      rotate_left
      · intro w hSw
        (try dsimp only at hSw)
        first | (go_simp; done) | (go_simp; with_reducible rfl)
      (try simp only [Act.put, List.setIfInBounds_toArray, List.set_cons_zero, List.set_cons_succ])
      refine wpAnyH_take (i := 12) (oi := ({ dst := some 141, op := Op.move (Operand.tmp 140), type := 4, pos := "law.go:136", after := #[{ on := 11, ground := Ground.data }, { on := 9, ground := Ground.chain }], guard := none } : Oper)) (v := ?_) rfl (by kernel_rfl) (by kernel_rfl) (by kernel_rfl) (fun _ _ _ h => h) (Or.inl ⟨by rfl, ?_⟩) (by with_reducible assumption) ?_
      rotate_left
      · intro w hSw
        (try dsimp only at hSw)
        first | (go_simp; done) | (go_simp; with_reducible rfl)
      (try simp only [Act.put, List.setIfInBounds_toArray, List.set_cons_zero, List.set_cons_succ])
      refine wpAnyH_take (i := 13) (oi := ({ dst := some 142, op := Op.move (Operand.tmp 28), type := 30, pos := "law.go:136", after := #[{ on := 12, ground := Ground.guard }], guard := some (12, false) } : Oper)) (v := ?_) rfl (by kernel_rfl) (by kernel_rfl) (by kernel_rfl) (fun _ _ _ h => h) (Or.inl ⟨by rfl, ?_⟩) (by with_reducible assumption) ?_
      rotate_left
      · intro w hSw
        (try dsimp only at hSw)
        first | (go_simp; done) | (go_simp; with_reducible rfl)
      (try simp only [Act.put, List.setIfInBounds_toArray, List.set_cons_zero, List.set_cons_succ])
      refine wpAnyH_take (i := 14) (oi := ({ dst := some 143, op := Op.binOp BinOp.eql 30 (Operand.tmp 142) (Operand.const (Value.int IntKind.i64 0)) 30, type := 4, pos := "law.go:136", after := #[{ on := 13, ground := Ground.data }, { on := 12, ground := Ground.guard }], guard := some (12, false) } : Oper)) (v := ?_) rfl (by kernel_rfl) (by kernel_rfl) (by kernel_rfl) (fun _ _ _ h => h) (Or.inl ⟨by rfl, ?_⟩) (by with_reducible assumption) ?_
      rotate_left
      · intro w hSw
        (try dsimp only at hSw)
        first | (go_simp; done) | (go_simp; with_reducible rfl)
      (try simp only [Act.put, List.setIfInBounds_toArray, List.set_cons_zero, List.set_cons_succ])
      refine wpAnyH_take (i := 15) (oi := ({ dst := some 144, op := Op.move (Operand.tmp 143), type := 4, pos := "law.go:136", after := #[{ on := 14, ground := Ground.data }, { on := 12, ground := Ground.chain }, { on := 12, ground := Ground.guard }], guard := some (12, false) } : Oper)) (v := ?_) rfl (by kernel_rfl) (by kernel_rfl) (by kernel_rfl) (fun _ _ _ h => h) (Or.inl ⟨by rfl, ?_⟩) (by with_reducible assumption) ?_
      rotate_left
      · intro w hSw
        (try dsimp only at hSw)
        first | (go_simp; done) | (go_simp; with_reducible rfl)
      (try simp only [Act.put, List.setIfInBounds_toArray, List.set_cons_zero, List.set_cons_succ])
      refine wpAnyH_take (i := 16) (oi := ({ dst := some 145, op := Op.move (Operand.tmp 9), type := 29, pos := "law.go:136", after := #[{ on := 15, ground := Ground.guard }], guard := some (15, true) } : Oper)) (v := ?_) rfl (by kernel_rfl) (by kernel_rfl) (by kernel_rfl) (fun _ _ _ h => h) (Or.inl ⟨by rfl, ?_⟩) (by with_reducible assumption) ?_
      rotate_left
      · intro w hSw
        (try dsimp only at hSw)
        first | (go_simp; done) | (go_simp; with_reducible rfl)
      (try simp only [Act.put, List.setIfInBounds_toArray, List.set_cons_zero, List.set_cons_succ])
      refine wpAnyH_take (i := 17) (oi := ({ dst := some 146, op := Op.indexAddr 29 (Operand.tmp 145) (Operand.const (Value.int IntKind.i64 1)), type := 0, pos := "law.go:136", after := #[{ on := 16, ground := Ground.data }, { on := 15, ground := Ground.guard }], guard := some (15, true) } : Oper)) (v := ?_) rfl (by kernel_rfl) (by kernel_rfl) (by kernel_rfl) (fun _ _ _ h => h) (Or.inl ⟨by rfl, ?_⟩) (by with_reducible assumption) ?_
      rotate_left
      · intro w hSw
        (try dsimp only at hSw)
        first | (go_simp; done) | (go_simp; with_reducible rfl)
      (try simp only [Act.put, List.setIfInBounds_toArray, List.set_cons_zero, List.set_cons_succ])
      refine wpAnyH_take (i := 18) (oi := ({ dst := some 147, op := Op.load 43 (Operand.tmp 146), type := 43, pos := "law.go:136", after := #[{ on := 17, ground := Ground.data }, { on := 15, ground := Ground.guard }], guard := some (15, true) } : Oper)) (v := ?_) rfl (by kernel_rfl) (by kernel_rfl) (by kernel_rfl) (fun _ _ _ h => h) (Or.inl ⟨by rfl, ?_⟩) (by with_reducible assumption) ?_
      rotate_left
      · intro w hSw
        (try dsimp only at hSw)
        first | (go_simp; done) | (go_simp; with_reducible rfl)
      (try simp only [Act.put, List.setIfInBounds_toArray, List.set_cons_zero, List.set_cons_succ])
      refine wpAnyH_take (i := 19) (oi := ({ dst := some 148, op := Op.indexAddr 43 (Operand.tmp 147) (Operand.const (Value.int IntKind.i64 3)), type := 0, pos := "law.go:136", after := #[{ on := 18, ground := Ground.data }, { on := 15, ground := Ground.guard }], guard := some (15, true) } : Oper)) (v := ?_) rfl (by kernel_rfl) (by kernel_rfl) (by kernel_rfl) (fun _ _ _ h => h) (Or.inl ⟨by rfl, ?_⟩) (by with_reducible assumption) ?_
      rotate_left
      · intro w hSw
        (try dsimp only at hSw)
        first | (go_simp; done) | (go_simp; with_reducible rfl)
      (try simp only [Act.put, List.setIfInBounds_toArray, List.set_cons_zero, List.set_cons_succ])
      refine wpAnyH_take (i := 20) (oi := ({ dst := some 149, op := Op.load 24 (Operand.tmp 148), type := 24, pos := "law.go:136", after := #[{ on := 19, ground := Ground.data }, { on := 15, ground := Ground.guard }], guard := some (15, true) } : Oper)) (v := ?_) rfl (by kernel_rfl) (by kernel_rfl) (by kernel_rfl) (fun _ _ _ h => h) (Or.inl ⟨by rfl, ?_⟩) (by with_reducible assumption) ?_
      rotate_left
      · intro w hSw
        (try dsimp only at hSw)
        first | (go_simp; done) | (go_simp; with_reducible rfl)
      (try simp only [Act.put, List.setIfInBounds_toArray, List.set_cons_zero, List.set_cons_succ])
      refine wpAnyH_take (i := 21) (oi := ({ dst := some 150, op := Op.load 24 (Operand.tmp 27), type := 24, pos := "law.go:136", after := #[{ on := 15, ground := Ground.guard }], guard := some (15, true) } : Oper)) (v := ?_) rfl (by kernel_rfl) (by kernel_rfl) (by kernel_rfl) (fun _ _ _ h => h) (Or.inl ⟨by rfl, ?_⟩) (by with_reducible assumption) ?_
      rotate_left
      · intro w hSw
        (try dsimp only at hSw)
        first | (go_simp; done) | (go_simp; with_reducible rfl)
      (try simp only [Act.put, List.setIfInBounds_toArray, List.set_cons_zero, List.set_cons_succ])
      refine wpAnyH_ready (rs := [22]) (by kernel_rfl) (by simp) ?_
      refine AllReadyH.cons (o := ({ dst := some 151, op := Op.call { callee := Callee.value (Operand.func 23), args := #[Operand.tmp 149, Operand.tmp 150], argTypes := #[24, 24] }, type := 4, pos := "law.go:136", after := #[{ on := 20, ground := Ground.data }, { on := 21, ground := Ground.data }, { on := 15, ground := Ground.chain }, { on := 15, ground := Ground.guard }], guard := some (15, true) } : Oper)) rfl (fun K hK => ?_) AllReadyH.nil
      (first | (rw [if_pos (by rfl)]) | skip)
      go_simp
      refine (D2.out _ hH9.2).mono ?_
      rintro r wg22 ⟨rfl, gg22⟩
      refine hK.out _ _ ⟨⟨gg22.keep hH9.1.1, gg22.keep hH9.1.2.1, gg22.keep hH9.1.2.2.1, gg22.keep hH9.1.2.2.2.1, gg22.keep hH9.1.2.2.2.2.1, gg22.keep hH9.1.2.2.2.2.2.1, gg22.keep hH9.1.2.2.2.2.2.2.1, gg22.keep hH9.1.2.2.2.2.2.2.2.1, gg22.keep hH9.1.2.2.2.2.2.2.2.2.1, gg22.keep hH9.1.2.2.2.2.2.2.2.2.2.1, gg22.keep hH9.1.2.2.2.2.2.2.2.2.2.2.1, gg22.keep hH9.1.2.2.2.2.2.2.2.2.2.2.2.1, gg22.keep hH9.1.2.2.2.2.2.2.2.2.2.2.2.2.1, gg22.keep hH9.1.2.2.2.2.2.2.2.2.2.2.2.2.2⟩, hH9.2.trans gg22⟩ (fun hH22 => ?_)
      clear hK K hH9
      (try simp only [Act.put, List.setIfInBounds_toArray, List.set_cons_zero, List.set_cons_succ])
      refine wpAnyH_take (i := 23) (oi := ({ dst := some 152, op := Op.unOp UnOp.not 4 (Operand.tmp 151), type := 4, pos := "law.go:136", after := #[{ on := 22, ground := Ground.data }, { on := 15, ground := Ground.guard }], guard := some (15, true) } : Oper)) (v := ?_) rfl (by kernel_rfl) (by kernel_rfl) (by kernel_rfl) (fun _ _ _ h => h) (Or.inl ⟨by rfl, ?_⟩) (by with_reducible assumption) ?_
      rotate_left
      · intro w hSw
        (try dsimp only at hSw)
        first | (go_simp; done) | (go_simp; with_reducible rfl)
      (try simp only [Act.put, List.setIfInBounds_toArray, List.set_cons_zero, List.set_cons_succ])
      refine wpAnyH_take (i := 24) (oi := ({ dst := some 153, op := Op.pick (Operand.tmp 144) (Operand.tmp 152) (Operand.const (Value.bool false)), type := 4, pos := "law.go:136", after := #[{ on := 15, ground := Ground.data }, { on := 23, ground := Ground.data }, { on := 12, ground := Ground.guard }], guard := some (12, false) } : Oper)) (v := ?_) rfl (by kernel_rfl) (by kernel_rfl) (by kernel_rfl) (fun _ _ _ h => h) (Or.inl ⟨by rfl, ?_⟩) (by with_reducible assumption) ?_
      rotate_left
      · intro w hSw
        (try dsimp only at hSw)
        first | (go_simp; done) | (go_simp; with_reducible rfl)
      (try simp only [Act.put, List.setIfInBounds_toArray, List.set_cons_zero, List.set_cons_succ])
      refine wpAnyH_take (i := 25) (oi := ({ dst := some 154, op := Op.pick (Operand.tmp 141) (Operand.const (Value.bool true)) (Operand.tmp 153), type := 4, pos := "law.go:136", after := #[{ on := 12, ground := Ground.data }, { on := 24, ground := Ground.data }], guard := none } : Oper)) (v := ?_) rfl (by kernel_rfl) (by kernel_rfl) (by kernel_rfl) (fun _ _ _ h => h) (Or.inl ⟨by rfl, ?_⟩) (by with_reducible assumption) ?_
      rotate_left
      · intro w hSw
        (try dsimp only at hSw)
        first | (go_simp; done) | (go_simp; with_reducible rfl)
      (try simp only [Act.put, List.setIfInBounds_toArray, List.set_cons_zero, List.set_cons_succ])
      refine wpAnyH_done (by kernel_rfl) ?_ _
      exact ⟨_, _, _, _, _, _, _, _, _, _, _, _, _, _, _, _, _, _, _, _, _, _, _, _, _, rfl, hH22.2⟩
    · have D1 := hide (SD1.out hA)
      have eN : (GN == 0) = false := by simp [hN]
      subst hA
      refine wp_region_held_drew (S := fun w' => (w'.cell? ⟨bq, 0, none⟩ = some (.slice (some ⟨b0, 0, none⟩) 8 8) ∧ w'.cell? ⟨bq, 1, none⟩ = some (.slice (some ⟨b1, 0, none⟩) 8 8) ∧ w'.cell? ⟨b0, 0, none⟩ = some (.bool SA) ∧ w'.cell? ⟨b0, 1, none⟩ = some (.slice a0 m0 k0) ∧ w'.cell? ⟨b0, 2, none⟩ = some (.int .i64 EA) ∧ w'.cell? ⟨b1, 9, none⟩ = some (.bool SN) ∧ w'.cell? ⟨b1, 10, none⟩ = some (.slice a1 m1 k1) ∧ w'.cell? ⟨b1, 11, none⟩ = some (.int .i64 EN) ∧ w'.cell? ⟨pS, 0, none⟩ = some (.bool SA) ∧ w'.cell? ⟨pS, 1, none⟩ = some (.slice aS mS kS) ∧ w'.cell? ⟨pS, 2, none⟩ = some (.int .i64 EA) ∧ w'.cell? ⟨pN, 0, none⟩ = some (.bool SN) ∧ w'.cell? ⟨pN, 1, none⟩ = some (.slice aN mN kN) ∧ w'.cell? ⟨pN, 2, none⟩ = some (.int .i64 EN)) ∧ Gr wq w') (by kernel_rfl) hS0 (fun hHeld => ?_)
      refine wpAnyH_take (i := 0) (oi := ({ dst := some 129, op := Op.move (Operand.tmp 26), type := 30, pos := "law.go:136", after := #[], guard := none } : Oper)) (v := ?_) rfl (by kernel_rfl) (by kernel_rfl) (by kernel_rfl) (fun _ _ _ h => h) (Or.inl ⟨by rfl, ?_⟩) (by with_reducible assumption) ?_
      rotate_left
      · intro w hSw
        (try dsimp only at hSw)
        first | (go_simp; rw [eN]; with_reducible rfl) | (go_simp; done) | (go_simp; with_reducible rfl)
      (try simp only [Act.put, List.setIfInBounds_toArray, List.set_cons_zero, List.set_cons_succ])
      refine wpAnyH_take (i := 1) (oi := ({ dst := some 130, op := Op.binOp BinOp.eql 30 (Operand.tmp 129) (Operand.const (Value.int IntKind.i64 0)) 30, type := 4, pos := "law.go:136", after := #[{ on := 0, ground := Ground.data }], guard := none } : Oper)) (v := ?_) rfl (by kernel_rfl) (by kernel_rfl) (by kernel_rfl) (fun _ _ _ h => h) (Or.inl ⟨by rfl, ?_⟩) (by with_reducible assumption) ?_
      rotate_left
      · intro w hSw
        (try dsimp only at hSw)
        first | (go_simp; rw [eN]; with_reducible rfl) | (go_simp; done) | (go_simp; with_reducible rfl)
      (try simp only [Act.put, List.setIfInBounds_toArray, List.set_cons_zero, List.set_cons_succ])
      refine wpAnyH_take (i := 2) (oi := ({ dst := some 131, op := Op.move (Operand.tmp 130), type := 4, pos := "law.go:136", after := #[{ on := 1, ground := Ground.data }], guard := none } : Oper)) (v := ?_) rfl (by kernel_rfl) (by kernel_rfl) (by kernel_rfl) (fun _ _ _ h => h) (Or.inl ⟨by rfl, ?_⟩) (by with_reducible assumption) ?_
      rotate_left
      · intro w hSw
        (try dsimp only at hSw)
        first | (go_simp; rw [eN]; with_reducible rfl) | (go_simp; done) | (go_simp; with_reducible rfl)
      (try simp only [Act.put, List.setIfInBounds_toArray, List.set_cons_zero, List.set_cons_succ])
      refine wpAnyH_take (i := 3) (oi := ({ dst := some 132, op := Op.move (Operand.tmp 9), type := 29, pos := "law.go:136", after := #[{ on := 2, ground := Ground.guard }], guard := some (2, true) } : Oper)) (v := ?_) rfl (by kernel_rfl) (by kernel_rfl) (by kernel_rfl) (fun _ _ _ h => h) (Or.inl ⟨by rfl, ?_⟩) (by with_reducible assumption) ?_
      rotate_left
      · intro w hSw
        (try dsimp only at hSw)
        first | (go_simp; rw [eN]; with_reducible rfl) | (go_simp; done) | (go_simp; with_reducible rfl)
      (try simp only [Act.put, List.setIfInBounds_toArray, List.set_cons_zero, List.set_cons_succ])
      refine wpAnyH_take (i := 4) (oi := ({ dst := some 133, op := Op.indexAddr 29 (Operand.tmp 132) (Operand.const (Value.int IntKind.i64 0)), type := 0, pos := "law.go:136", after := #[{ on := 3, ground := Ground.data }, { on := 2, ground := Ground.guard }], guard := some (2, true) } : Oper)) (v := ?_) rfl (by kernel_rfl) (by kernel_rfl) (by kernel_rfl) (fun _ _ _ h => h) (Or.inl ⟨by rfl, ?_⟩) (by with_reducible assumption) ?_
      rotate_left
      · intro w hSw
        (try dsimp only at hSw)
        first | (go_simp; rw [eN]; with_reducible rfl) | (go_simp; done) | (go_simp; with_reducible rfl)
      (try simp only [Act.put, List.setIfInBounds_toArray, List.set_cons_zero, List.set_cons_succ])
      refine wpAnyH_take (i := 5) (oi := ({ dst := some 134, op := Op.load 43 (Operand.tmp 133), type := 43, pos := "law.go:136", after := #[{ on := 4, ground := Ground.data }, { on := 2, ground := Ground.guard }], guard := some (2, true) } : Oper)) (v := ?_) rfl (by kernel_rfl) (by kernel_rfl) (by kernel_rfl) (fun _ _ _ h => h) (Or.inl ⟨by rfl, ?_⟩) (by with_reducible assumption) ?_
      rotate_left
      · intro w hSw
        (try dsimp only at hSw)
        first | (go_simp; rw [eN]; with_reducible rfl) | (go_simp; done) | (go_simp; with_reducible rfl)
      (try simp only [Act.put, List.setIfInBounds_toArray, List.set_cons_zero, List.set_cons_succ])
      refine wpAnyH_take (i := 6) (oi := ({ dst := some 135, op := Op.indexAddr 43 (Operand.tmp 134) (Operand.const (Value.int IntKind.i64 0)), type := 0, pos := "law.go:136", after := #[{ on := 5, ground := Ground.data }, { on := 2, ground := Ground.guard }], guard := some (2, true) } : Oper)) (v := ?_) rfl (by kernel_rfl) (by kernel_rfl) (by kernel_rfl) (fun _ _ _ h => h) (Or.inl ⟨by rfl, ?_⟩) (by with_reducible assumption) ?_
      rotate_left
      · intro w hSw
        (try dsimp only at hSw)
        first | (go_simp; rw [eN]; with_reducible rfl) | (go_simp; done) | (go_simp; with_reducible rfl)
      (try simp only [Act.put, List.setIfInBounds_toArray, List.set_cons_zero, List.set_cons_succ])
      refine wpAnyH_take (i := 7) (oi := ({ dst := some 136, op := Op.load 24 (Operand.tmp 135), type := 24, pos := "law.go:136", after := #[{ on := 6, ground := Ground.data }, { on := 2, ground := Ground.guard }], guard := some (2, true) } : Oper)) (v := ?_) rfl (by kernel_rfl) (by kernel_rfl) (by kernel_rfl) (fun _ _ _ h => h) (Or.inl ⟨by rfl, ?_⟩) (by with_reducible assumption) ?_
      rotate_left
      · intro w hSw
        (try dsimp only at hSw)
        first | (go_simp; rw [eN]; with_reducible rfl) | (go_simp; done) | (go_simp; with_reducible rfl)
      (try simp only [Act.put, List.setIfInBounds_toArray, List.set_cons_zero, List.set_cons_succ])
      refine wpAnyH_take (i := 8) (oi := ({ dst := some 137, op := Op.load 24 (Operand.tmp 25), type := 24, pos := "law.go:136", after := #[{ on := 2, ground := Ground.guard }], guard := some (2, true) } : Oper)) (v := ?_) rfl (by kernel_rfl) (by kernel_rfl) (by kernel_rfl) (fun _ _ _ h => h) (Or.inl ⟨by rfl, ?_⟩) (by with_reducible assumption) ?_
      rotate_left
      · intro w hSw
        (try dsimp only at hSw)
        first | (go_simp; rw [eN]; with_reducible rfl) | (go_simp; done) | (go_simp; with_reducible rfl)
      (try simp only [Act.put, List.setIfInBounds_toArray, List.set_cons_zero, List.set_cons_succ])
      refine wpAnyH_ready (rs := [9]) (by kernel_rfl) (by simp) ?_
      refine AllReadyH.cons (o := ({ dst := some 138, op := Op.call { callee := Callee.value (Operand.func 23), args := #[Operand.tmp 136, Operand.tmp 137], argTypes := #[24, 24] }, type := 4, pos := "law.go:136", after := #[{ on := 7, ground := Ground.data }, { on := 8, ground := Ground.data }, { on := 2, ground := Ground.chain }, { on := 2, ground := Ground.guard }], guard := some (2, true) } : Oper)) rfl (fun K hK => ?_) AllReadyH.nil
      (first | (rw [if_pos (by rfl)]) | skip)
      go_simp
      refine (D1.out _ hHeld.2).mono ?_
      rintro r wg9 ⟨rfl, gg9⟩
      refine hK.out _ _ ⟨⟨gg9.keep hHeld.1.1, gg9.keep hHeld.1.2.1, gg9.keep hHeld.1.2.2.1, gg9.keep hHeld.1.2.2.2.1, gg9.keep hHeld.1.2.2.2.2.1, gg9.keep hHeld.1.2.2.2.2.2.1, gg9.keep hHeld.1.2.2.2.2.2.2.1, gg9.keep hHeld.1.2.2.2.2.2.2.2.1, gg9.keep hHeld.1.2.2.2.2.2.2.2.2.1, gg9.keep hHeld.1.2.2.2.2.2.2.2.2.2.1, gg9.keep hHeld.1.2.2.2.2.2.2.2.2.2.2.1, gg9.keep hHeld.1.2.2.2.2.2.2.2.2.2.2.2.1, gg9.keep hHeld.1.2.2.2.2.2.2.2.2.2.2.2.2.1, gg9.keep hHeld.1.2.2.2.2.2.2.2.2.2.2.2.2.2⟩, hHeld.2.trans gg9⟩ (fun hH9 => ?_)
      clear hK K hHeld
      (try simp only [Act.put, List.setIfInBounds_toArray, List.set_cons_zero, List.set_cons_succ])
      refine wpAnyH_take (i := 10) (oi := ({ dst := some 139, op := Op.unOp UnOp.not 4 (Operand.tmp 138), type := 4, pos := "law.go:136", after := #[{ on := 9, ground := Ground.data }, { on := 2, ground := Ground.guard }], guard := some (2, true) } : Oper)) (v := ?_) rfl (by kernel_rfl) (by kernel_rfl) (by kernel_rfl) (fun _ _ _ h => h) (Or.inl ⟨by rfl, ?_⟩) (by with_reducible assumption) ?_
      rotate_left
      · intro w hSw
        (try dsimp only at hSw)
        first | (go_simp; rw [eN]; with_reducible rfl) | (go_simp; done) | (go_simp; with_reducible rfl)
      (try simp only [Act.put, List.setIfInBounds_toArray, List.set_cons_zero, List.set_cons_succ])
      refine wpAnyH_take (i := 11) (oi := ({ dst := some 140, op := Op.pick (Operand.tmp 131) (Operand.tmp 139) (Operand.const (Value.bool false)), type := 4, pos := "law.go:136", after := #[{ on := 2, ground := Ground.data }, { on := 10, ground := Ground.data }], guard := none } : Oper)) (v := ?_) rfl (by kernel_rfl) (by kernel_rfl) (by kernel_rfl) (fun _ _ _ h => h) (Or.inl ⟨by rfl, ?_⟩) (by with_reducible assumption) ?_
      rotate_left
      · intro w hSw
        (try dsimp only at hSw)
        first | (go_simp; rw [eN]; with_reducible rfl) | (go_simp; done) | (go_simp; with_reducible rfl)
      (try simp only [Act.put, List.setIfInBounds_toArray, List.set_cons_zero, List.set_cons_succ])
      refine wpAnyH_take (i := 12) (oi := ({ dst := some 141, op := Op.move (Operand.tmp 140), type := 4, pos := "law.go:136", after := #[{ on := 11, ground := Ground.data }, { on := 9, ground := Ground.chain }], guard := none } : Oper)) (v := ?_) rfl (by kernel_rfl) (by kernel_rfl) (by kernel_rfl) (fun _ _ _ h => h) (Or.inl ⟨by rfl, ?_⟩) (by with_reducible assumption) ?_
      rotate_left
      · intro w hSw
        (try dsimp only at hSw)
        first | (go_simp; rw [eN]; with_reducible rfl) | (go_simp; done) | (go_simp; with_reducible rfl)
      (try simp only [Act.put, List.setIfInBounds_toArray, List.set_cons_zero, List.set_cons_succ])
      refine wpAnyH_take (i := 13) (oi := ({ dst := some 142, op := Op.move (Operand.tmp 28), type := 30, pos := "law.go:136", after := #[{ on := 12, ground := Ground.guard }], guard := some (12, false) } : Oper)) (v := ?_) rfl (by kernel_rfl) (by kernel_rfl) (by kernel_rfl) (fun _ _ _ h => h) (Or.inl ⟨by rfl, ?_⟩) (by with_reducible assumption) ?_
      rotate_left
      · intro w hSw
        (try dsimp only at hSw)
        first | (go_simp; rw [eN]; with_reducible rfl) | (go_simp; done) | (go_simp; with_reducible rfl)
      (try simp only [Act.put, List.setIfInBounds_toArray, List.set_cons_zero, List.set_cons_succ])
      refine wpAnyH_take (i := 14) (oi := ({ dst := some 143, op := Op.binOp BinOp.eql 30 (Operand.tmp 142) (Operand.const (Value.int IntKind.i64 0)) 30, type := 4, pos := "law.go:136", after := #[{ on := 13, ground := Ground.data }, { on := 12, ground := Ground.guard }], guard := some (12, false) } : Oper)) (v := ?_) rfl (by kernel_rfl) (by kernel_rfl) (by kernel_rfl) (fun _ _ _ h => h) (Or.inl ⟨by rfl, ?_⟩) (by with_reducible assumption) ?_
      rotate_left
      · intro w hSw
        (try dsimp only at hSw)
        first | (go_simp; rw [eN]; with_reducible rfl) | (go_simp; done) | (go_simp; with_reducible rfl)
      (try simp only [Act.put, List.setIfInBounds_toArray, List.set_cons_zero, List.set_cons_succ])
      refine wpAnyH_take (i := 15) (oi := ({ dst := some 144, op := Op.move (Operand.tmp 143), type := 4, pos := "law.go:136", after := #[{ on := 14, ground := Ground.data }, { on := 12, ground := Ground.chain }, { on := 12, ground := Ground.guard }], guard := some (12, false) } : Oper)) (v := ?_) rfl (by kernel_rfl) (by kernel_rfl) (by kernel_rfl) (fun _ _ _ h => h) (Or.inl ⟨by rfl, ?_⟩) (by with_reducible assumption) ?_
      rotate_left
      · intro w hSw
        (try dsimp only at hSw)
        first | (go_simp; rw [eN]; with_reducible rfl) | (go_simp; done) | (go_simp; with_reducible rfl)
      (try simp only [Act.put, List.setIfInBounds_toArray, List.set_cons_zero, List.set_cons_succ])
      refine wpAnyH_take (i := 16) (oi := ({ dst := some 145, op := Op.move (Operand.tmp 9), type := 29, pos := "law.go:136", after := #[{ on := 15, ground := Ground.guard }], guard := some (15, true) } : Oper)) (v := undef) rfl (by kernel_rfl) (by kernel_rfl) (by kernel_rfl) (fun _ _ _ h => h) (Or.inr ⟨by rfl, rfl⟩) (by with_reducible assumption) ?_
      (try simp only [Act.put, List.setIfInBounds_toArray, List.set_cons_zero, List.set_cons_succ])
      refine wpAnyH_take (i := 17) (oi := ({ dst := some 146, op := Op.indexAddr 29 (Operand.tmp 145) (Operand.const (Value.int IntKind.i64 1)), type := 0, pos := "law.go:136", after := #[{ on := 16, ground := Ground.data }, { on := 15, ground := Ground.guard }], guard := some (15, true) } : Oper)) (v := undef) rfl (by kernel_rfl) (by kernel_rfl) (by kernel_rfl) (fun _ _ _ h => h) (Or.inr ⟨by rfl, rfl⟩) (by with_reducible assumption) ?_
      (try simp only [Act.put, List.setIfInBounds_toArray, List.set_cons_zero, List.set_cons_succ])
      refine wpAnyH_take (i := 18) (oi := ({ dst := some 147, op := Op.load 43 (Operand.tmp 146), type := 43, pos := "law.go:136", after := #[{ on := 17, ground := Ground.data }, { on := 15, ground := Ground.guard }], guard := some (15, true) } : Oper)) (v := undef) rfl (by kernel_rfl) (by kernel_rfl) (by kernel_rfl) (fun _ _ _ h => h) (Or.inr ⟨by rfl, rfl⟩) (by with_reducible assumption) ?_
      (try simp only [Act.put, List.setIfInBounds_toArray, List.set_cons_zero, List.set_cons_succ])
      refine wpAnyH_take (i := 19) (oi := ({ dst := some 148, op := Op.indexAddr 43 (Operand.tmp 147) (Operand.const (Value.int IntKind.i64 3)), type := 0, pos := "law.go:136", after := #[{ on := 18, ground := Ground.data }, { on := 15, ground := Ground.guard }], guard := some (15, true) } : Oper)) (v := undef) rfl (by kernel_rfl) (by kernel_rfl) (by kernel_rfl) (fun _ _ _ h => h) (Or.inr ⟨by rfl, rfl⟩) (by with_reducible assumption) ?_
      (try simp only [Act.put, List.setIfInBounds_toArray, List.set_cons_zero, List.set_cons_succ])
      refine wpAnyH_take (i := 20) (oi := ({ dst := some 149, op := Op.load 24 (Operand.tmp 148), type := 24, pos := "law.go:136", after := #[{ on := 19, ground := Ground.data }, { on := 15, ground := Ground.guard }], guard := some (15, true) } : Oper)) (v := undef) rfl (by kernel_rfl) (by kernel_rfl) (by kernel_rfl) (fun _ _ _ h => h) (Or.inr ⟨by rfl, rfl⟩) (by with_reducible assumption) ?_
      (try simp only [Act.put, List.setIfInBounds_toArray, List.set_cons_zero, List.set_cons_succ])
      refine wpAnyH_take (i := 21) (oi := ({ dst := some 150, op := Op.load 24 (Operand.tmp 27), type := 24, pos := "law.go:136", after := #[{ on := 15, ground := Ground.guard }], guard := some (15, true) } : Oper)) (v := undef) rfl (by kernel_rfl) (by kernel_rfl) (by kernel_rfl) (fun _ _ _ h => h) (Or.inr ⟨by rfl, rfl⟩) (by with_reducible assumption) ?_
      (try simp only [Act.put, List.setIfInBounds_toArray, List.set_cons_zero, List.set_cons_succ])
      refine wpAnyH_take (i := 22) (oi := ({ dst := some 151, op := Op.call { callee := Callee.value (Operand.func 23), args := #[Operand.tmp 149, Operand.tmp 150], argTypes := #[24, 24] }, type := 4, pos := "law.go:136", after := #[{ on := 20, ground := Ground.data }, { on := 21, ground := Ground.data }, { on := 15, ground := Ground.chain }, { on := 15, ground := Ground.guard }], guard := some (15, true) } : Oper)) (v := undef) rfl (by kernel_rfl) (by kernel_rfl) (by kernel_rfl) (fun _ _ _ h => h) (Or.inr ⟨by rfl, rfl⟩) (by with_reducible assumption) ?_
      (try simp only [Act.put, List.setIfInBounds_toArray, List.set_cons_zero, List.set_cons_succ])
      refine wpAnyH_take (i := 23) (oi := ({ dst := some 152, op := Op.unOp UnOp.not 4 (Operand.tmp 151), type := 4, pos := "law.go:136", after := #[{ on := 22, ground := Ground.data }, { on := 15, ground := Ground.guard }], guard := some (15, true) } : Oper)) (v := undef) rfl (by kernel_rfl) (by kernel_rfl) (by kernel_rfl) (fun _ _ _ h => h) (Or.inr ⟨by rfl, rfl⟩) (by with_reducible assumption) ?_
      (try simp only [Act.put, List.setIfInBounds_toArray, List.set_cons_zero, List.set_cons_succ])
      refine wpAnyH_take (i := 24) (oi := ({ dst := some 153, op := Op.pick (Operand.tmp 144) (Operand.tmp 152) (Operand.const (Value.bool false)), type := 4, pos := "law.go:136", after := #[{ on := 15, ground := Ground.data }, { on := 23, ground := Ground.data }, { on := 12, ground := Ground.guard }], guard := some (12, false) } : Oper)) (v := ?_) rfl (by kernel_rfl) (by kernel_rfl) (by kernel_rfl) (fun _ _ _ h => h) (Or.inl ⟨by rfl, ?_⟩) (by with_reducible assumption) ?_
      rotate_left
      · intro w hSw
        (try dsimp only at hSw)
        first | (go_simp; rw [eN]; with_reducible rfl) | (go_simp; done) | (go_simp; with_reducible rfl)
      (try simp only [Act.put, List.setIfInBounds_toArray, List.set_cons_zero, List.set_cons_succ])
      refine wpAnyH_take (i := 25) (oi := ({ dst := some 154, op := Op.pick (Operand.tmp 141) (Operand.const (Value.bool true)) (Operand.tmp 153), type := 4, pos := "law.go:136", after := #[{ on := 12, ground := Ground.data }, { on := 24, ground := Ground.data }], guard := none } : Oper)) (v := ?_) rfl (by kernel_rfl) (by kernel_rfl) (by kernel_rfl) (fun _ _ _ h => h) (Or.inl ⟨by rfl, ?_⟩) (by with_reducible assumption) ?_
      rotate_left
      · intro w hSw
        (try dsimp only at hSw)
        first | (go_simp; rw [eN]; with_reducible rfl) | (go_simp; done) | (go_simp; with_reducible rfl)
      (try simp only [Act.put, List.setIfInBounds_toArray, List.set_cons_zero, List.set_cons_succ])
      refine wpAnyH_done (by kernel_rfl) ?_ _
      exact ⟨_, _, _, _, _, _, _, _, _, _, _, _, _, _, _, _, _, _, _, _, _, _, _, _, _, rfl, hH9.2⟩
  · have eA : (GA == 0) = false := by simp [hA]
    by_cases hN : GN = 0
    · have D2 := hide (SD2.out hN)
      subst hN
      refine wp_region_held_drew (S := fun w' => (w'.cell? ⟨bq, 0, none⟩ = some (.slice (some ⟨b0, 0, none⟩) 8 8) ∧ w'.cell? ⟨bq, 1, none⟩ = some (.slice (some ⟨b1, 0, none⟩) 8 8) ∧ w'.cell? ⟨b0, 0, none⟩ = some (.bool SA) ∧ w'.cell? ⟨b0, 1, none⟩ = some (.slice a0 m0 k0) ∧ w'.cell? ⟨b0, 2, none⟩ = some (.int .i64 EA) ∧ w'.cell? ⟨b1, 9, none⟩ = some (.bool SN) ∧ w'.cell? ⟨b1, 10, none⟩ = some (.slice a1 m1 k1) ∧ w'.cell? ⟨b1, 11, none⟩ = some (.int .i64 EN) ∧ w'.cell? ⟨pS, 0, none⟩ = some (.bool SA) ∧ w'.cell? ⟨pS, 1, none⟩ = some (.slice aS mS kS) ∧ w'.cell? ⟨pS, 2, none⟩ = some (.int .i64 EA) ∧ w'.cell? ⟨pN, 0, none⟩ = some (.bool SN) ∧ w'.cell? ⟨pN, 1, none⟩ = some (.slice aN mN kN) ∧ w'.cell? ⟨pN, 2, none⟩ = some (.int .i64 EN)) ∧ Gr wq w') (by kernel_rfl) hS0 (fun hHeld => ?_)
      refine wpAnyH_take (i := 0) (oi := ({ dst := some 129, op := Op.move (Operand.tmp 26), type := 30, pos := "law.go:136", after := #[], guard := none } : Oper)) (v := ?_) rfl (by kernel_rfl) (by kernel_rfl) (by kernel_rfl) (fun _ _ _ h => h) (Or.inl ⟨by rfl, ?_⟩) (by with_reducible assumption) ?_
      rotate_left
      · intro w hSw
        (try dsimp only at hSw)
        first | (go_simp; rw [eA]; with_reducible rfl) | (go_simp; done) | (go_simp; with_reducible rfl)
      (try simp only [Act.put, List.setIfInBounds_toArray, List.set_cons_zero, List.set_cons_succ])
      refine wpAnyH_take (i := 1) (oi := ({ dst := some 130, op := Op.binOp BinOp.eql 30 (Operand.tmp 129) (Operand.const (Value.int IntKind.i64 0)) 30, type := 4, pos := "law.go:136", after := #[{ on := 0, ground := Ground.data }], guard := none } : Oper)) (v := ?_) rfl (by kernel_rfl) (by kernel_rfl) (by kernel_rfl) (fun _ _ _ h => h) (Or.inl ⟨by rfl, ?_⟩) (by with_reducible assumption) ?_
      rotate_left
      · intro w hSw
        (try dsimp only at hSw)
        first | (go_simp; rw [eA]; with_reducible rfl) | (go_simp; done) | (go_simp; with_reducible rfl)
      (try simp only [Act.put, List.setIfInBounds_toArray, List.set_cons_zero, List.set_cons_succ])
      refine wpAnyH_take (i := 2) (oi := ({ dst := some 131, op := Op.move (Operand.tmp 130), type := 4, pos := "law.go:136", after := #[{ on := 1, ground := Ground.data }], guard := none } : Oper)) (v := ?_) rfl (by kernel_rfl) (by kernel_rfl) (by kernel_rfl) (fun _ _ _ h => h) (Or.inl ⟨by rfl, ?_⟩) (by with_reducible assumption) ?_
      rotate_left
      · intro w hSw
        (try dsimp only at hSw)
        first | (go_simp; rw [eA]; with_reducible rfl) | (go_simp; done) | (go_simp; with_reducible rfl)
      (try simp only [Act.put, List.setIfInBounds_toArray, List.set_cons_zero, List.set_cons_succ])
      refine wpAnyH_take (i := 3) (oi := ({ dst := some 132, op := Op.move (Operand.tmp 9), type := 29, pos := "law.go:136", after := #[{ on := 2, ground := Ground.guard }], guard := some (2, true) } : Oper)) (v := undef) rfl (by kernel_rfl) (by kernel_rfl) (by kernel_rfl) (fun _ _ _ h => h) (Or.inr ⟨by rfl, rfl⟩) (by with_reducible assumption) ?_
      (try simp only [Act.put, List.setIfInBounds_toArray, List.set_cons_zero, List.set_cons_succ])
      refine wpAnyH_take (i := 4) (oi := ({ dst := some 133, op := Op.indexAddr 29 (Operand.tmp 132) (Operand.const (Value.int IntKind.i64 0)), type := 0, pos := "law.go:136", after := #[{ on := 3, ground := Ground.data }, { on := 2, ground := Ground.guard }], guard := some (2, true) } : Oper)) (v := undef) rfl (by kernel_rfl) (by kernel_rfl) (by kernel_rfl) (fun _ _ _ h => h) (Or.inr ⟨by rfl, rfl⟩) (by with_reducible assumption) ?_
      (try simp only [Act.put, List.setIfInBounds_toArray, List.set_cons_zero, List.set_cons_succ])
      refine wpAnyH_take (i := 5) (oi := ({ dst := some 134, op := Op.load 43 (Operand.tmp 133), type := 43, pos := "law.go:136", after := #[{ on := 4, ground := Ground.data }, { on := 2, ground := Ground.guard }], guard := some (2, true) } : Oper)) (v := undef) rfl (by kernel_rfl) (by kernel_rfl) (by kernel_rfl) (fun _ _ _ h => h) (Or.inr ⟨by rfl, rfl⟩) (by with_reducible assumption) ?_
      (try simp only [Act.put, List.setIfInBounds_toArray, List.set_cons_zero, List.set_cons_succ])
      refine wpAnyH_take (i := 6) (oi := ({ dst := some 135, op := Op.indexAddr 43 (Operand.tmp 134) (Operand.const (Value.int IntKind.i64 0)), type := 0, pos := "law.go:136", after := #[{ on := 5, ground := Ground.data }, { on := 2, ground := Ground.guard }], guard := some (2, true) } : Oper)) (v := undef) rfl (by kernel_rfl) (by kernel_rfl) (by kernel_rfl) (fun _ _ _ h => h) (Or.inr ⟨by rfl, rfl⟩) (by with_reducible assumption) ?_
      (try simp only [Act.put, List.setIfInBounds_toArray, List.set_cons_zero, List.set_cons_succ])
      refine wpAnyH_take (i := 7) (oi := ({ dst := some 136, op := Op.load 24 (Operand.tmp 135), type := 24, pos := "law.go:136", after := #[{ on := 6, ground := Ground.data }, { on := 2, ground := Ground.guard }], guard := some (2, true) } : Oper)) (v := undef) rfl (by kernel_rfl) (by kernel_rfl) (by kernel_rfl) (fun _ _ _ h => h) (Or.inr ⟨by rfl, rfl⟩) (by with_reducible assumption) ?_
      (try simp only [Act.put, List.setIfInBounds_toArray, List.set_cons_zero, List.set_cons_succ])
      refine wpAnyH_take (i := 8) (oi := ({ dst := some 137, op := Op.load 24 (Operand.tmp 25), type := 24, pos := "law.go:136", after := #[{ on := 2, ground := Ground.guard }], guard := some (2, true) } : Oper)) (v := undef) rfl (by kernel_rfl) (by kernel_rfl) (by kernel_rfl) (fun _ _ _ h => h) (Or.inr ⟨by rfl, rfl⟩) (by with_reducible assumption) ?_
      (try simp only [Act.put, List.setIfInBounds_toArray, List.set_cons_zero, List.set_cons_succ])
      refine wpAnyH_take (i := 9) (oi := ({ dst := some 138, op := Op.call { callee := Callee.value (Operand.func 23), args := #[Operand.tmp 136, Operand.tmp 137], argTypes := #[24, 24] }, type := 4, pos := "law.go:136", after := #[{ on := 7, ground := Ground.data }, { on := 8, ground := Ground.data }, { on := 2, ground := Ground.chain }, { on := 2, ground := Ground.guard }], guard := some (2, true) } : Oper)) (v := undef) rfl (by kernel_rfl) (by kernel_rfl) (by kernel_rfl) (fun _ _ _ h => h) (Or.inr ⟨by rfl, rfl⟩) (by with_reducible assumption) ?_
      (try simp only [Act.put, List.setIfInBounds_toArray, List.set_cons_zero, List.set_cons_succ])
      refine wpAnyH_take (i := 10) (oi := ({ dst := some 139, op := Op.unOp UnOp.not 4 (Operand.tmp 138), type := 4, pos := "law.go:136", after := #[{ on := 9, ground := Ground.data }, { on := 2, ground := Ground.guard }], guard := some (2, true) } : Oper)) (v := undef) rfl (by kernel_rfl) (by kernel_rfl) (by kernel_rfl) (fun _ _ _ h => h) (Or.inr ⟨by rfl, rfl⟩) (by with_reducible assumption) ?_
      (try simp only [Act.put, List.setIfInBounds_toArray, List.set_cons_zero, List.set_cons_succ])
      refine wpAnyH_take (i := 11) (oi := ({ dst := some 140, op := Op.pick (Operand.tmp 131) (Operand.tmp 139) (Operand.const (Value.bool false)), type := 4, pos := "law.go:136", after := #[{ on := 2, ground := Ground.data }, { on := 10, ground := Ground.data }], guard := none } : Oper)) (v := ?_) rfl (by kernel_rfl) (by kernel_rfl) (by kernel_rfl) (fun _ _ _ h => h) (Or.inl ⟨by rfl, ?_⟩) (by with_reducible assumption) ?_
      rotate_left
      · intro w hSw
        (try dsimp only at hSw)
        first | (go_simp; rw [eA]; with_reducible rfl) | (go_simp; done) | (go_simp; with_reducible rfl)
      (try simp only [Act.put, List.setIfInBounds_toArray, List.set_cons_zero, List.set_cons_succ])
      refine wpAnyH_take (i := 12) (oi := ({ dst := some 141, op := Op.move (Operand.tmp 140), type := 4, pos := "law.go:136", after := #[{ on := 11, ground := Ground.data }, { on := 9, ground := Ground.chain }], guard := none } : Oper)) (v := ?_) rfl (by kernel_rfl) (by kernel_rfl) (by kernel_rfl) (fun _ _ _ h => h) (Or.inl ⟨by rfl, ?_⟩) (by with_reducible assumption) ?_
      rotate_left
      · intro w hSw
        (try dsimp only at hSw)
        first | (go_simp; rw [eA]; with_reducible rfl) | (go_simp; done) | (go_simp; with_reducible rfl)
      (try simp only [Act.put, List.setIfInBounds_toArray, List.set_cons_zero, List.set_cons_succ])
      refine wpAnyH_take (i := 13) (oi := ({ dst := some 142, op := Op.move (Operand.tmp 28), type := 30, pos := "law.go:136", after := #[{ on := 12, ground := Ground.guard }], guard := some (12, false) } : Oper)) (v := ?_) rfl (by kernel_rfl) (by kernel_rfl) (by kernel_rfl) (fun _ _ _ h => h) (Or.inl ⟨by rfl, ?_⟩) (by with_reducible assumption) ?_
      rotate_left
      · intro w hSw
        (try dsimp only at hSw)
        first | (go_simp; rw [eA]; with_reducible rfl) | (go_simp; done) | (go_simp; with_reducible rfl)
      (try simp only [Act.put, List.setIfInBounds_toArray, List.set_cons_zero, List.set_cons_succ])
      refine wpAnyH_take (i := 14) (oi := ({ dst := some 143, op := Op.binOp BinOp.eql 30 (Operand.tmp 142) (Operand.const (Value.int IntKind.i64 0)) 30, type := 4, pos := "law.go:136", after := #[{ on := 13, ground := Ground.data }, { on := 12, ground := Ground.guard }], guard := some (12, false) } : Oper)) (v := ?_) rfl (by kernel_rfl) (by kernel_rfl) (by kernel_rfl) (fun _ _ _ h => h) (Or.inl ⟨by rfl, ?_⟩) (by with_reducible assumption) ?_
      rotate_left
      · intro w hSw
        (try dsimp only at hSw)
        first | (go_simp; rw [eA]; with_reducible rfl) | (go_simp; done) | (go_simp; with_reducible rfl)
      (try simp only [Act.put, List.setIfInBounds_toArray, List.set_cons_zero, List.set_cons_succ])
      refine wpAnyH_take (i := 15) (oi := ({ dst := some 144, op := Op.move (Operand.tmp 143), type := 4, pos := "law.go:136", after := #[{ on := 14, ground := Ground.data }, { on := 12, ground := Ground.chain }, { on := 12, ground := Ground.guard }], guard := some (12, false) } : Oper)) (v := ?_) rfl (by kernel_rfl) (by kernel_rfl) (by kernel_rfl) (fun _ _ _ h => h) (Or.inl ⟨by rfl, ?_⟩) (by with_reducible assumption) ?_
      rotate_left
      · intro w hSw
        (try dsimp only at hSw)
        first | (go_simp; rw [eA]; with_reducible rfl) | (go_simp; done) | (go_simp; with_reducible rfl)
      (try simp only [Act.put, List.setIfInBounds_toArray, List.set_cons_zero, List.set_cons_succ])
      refine wpAnyH_take (i := 16) (oi := ({ dst := some 145, op := Op.move (Operand.tmp 9), type := 29, pos := "law.go:136", after := #[{ on := 15, ground := Ground.guard }], guard := some (15, true) } : Oper)) (v := ?_) rfl (by kernel_rfl) (by kernel_rfl) (by kernel_rfl) (fun _ _ _ h => h) (Or.inl ⟨by rfl, ?_⟩) (by with_reducible assumption) ?_
      rotate_left
      · intro w hSw
        (try dsimp only at hSw)
        first | (go_simp; rw [eA]; with_reducible rfl) | (go_simp; done) | (go_simp; with_reducible rfl)
      (try simp only [Act.put, List.setIfInBounds_toArray, List.set_cons_zero, List.set_cons_succ])
      refine wpAnyH_take (i := 17) (oi := ({ dst := some 146, op := Op.indexAddr 29 (Operand.tmp 145) (Operand.const (Value.int IntKind.i64 1)), type := 0, pos := "law.go:136", after := #[{ on := 16, ground := Ground.data }, { on := 15, ground := Ground.guard }], guard := some (15, true) } : Oper)) (v := ?_) rfl (by kernel_rfl) (by kernel_rfl) (by kernel_rfl) (fun _ _ _ h => h) (Or.inl ⟨by rfl, ?_⟩) (by with_reducible assumption) ?_
      rotate_left
      · intro w hSw
        (try dsimp only at hSw)
        first | (go_simp; rw [eA]; with_reducible rfl) | (go_simp; done) | (go_simp; with_reducible rfl)
      (try simp only [Act.put, List.setIfInBounds_toArray, List.set_cons_zero, List.set_cons_succ])
      refine wpAnyH_take (i := 18) (oi := ({ dst := some 147, op := Op.load 43 (Operand.tmp 146), type := 43, pos := "law.go:136", after := #[{ on := 17, ground := Ground.data }, { on := 15, ground := Ground.guard }], guard := some (15, true) } : Oper)) (v := ?_) rfl (by kernel_rfl) (by kernel_rfl) (by kernel_rfl) (fun _ _ _ h => h) (Or.inl ⟨by rfl, ?_⟩) (by with_reducible assumption) ?_
      rotate_left
      · intro w hSw
        (try dsimp only at hSw)
        first | (go_simp; rw [eA]; with_reducible rfl) | (go_simp; done) | (go_simp; with_reducible rfl)
      (try simp only [Act.put, List.setIfInBounds_toArray, List.set_cons_zero, List.set_cons_succ])
      refine wpAnyH_take (i := 19) (oi := ({ dst := some 148, op := Op.indexAddr 43 (Operand.tmp 147) (Operand.const (Value.int IntKind.i64 3)), type := 0, pos := "law.go:136", after := #[{ on := 18, ground := Ground.data }, { on := 15, ground := Ground.guard }], guard := some (15, true) } : Oper)) (v := ?_) rfl (by kernel_rfl) (by kernel_rfl) (by kernel_rfl) (fun _ _ _ h => h) (Or.inl ⟨by rfl, ?_⟩) (by with_reducible assumption) ?_
      rotate_left
      · intro w hSw
        (try dsimp only at hSw)
        first | (go_simp; rw [eA]; with_reducible rfl) | (go_simp; done) | (go_simp; with_reducible rfl)
      (try simp only [Act.put, List.setIfInBounds_toArray, List.set_cons_zero, List.set_cons_succ])
      refine wpAnyH_take (i := 20) (oi := ({ dst := some 149, op := Op.load 24 (Operand.tmp 148), type := 24, pos := "law.go:136", after := #[{ on := 19, ground := Ground.data }, { on := 15, ground := Ground.guard }], guard := some (15, true) } : Oper)) (v := ?_) rfl (by kernel_rfl) (by kernel_rfl) (by kernel_rfl) (fun _ _ _ h => h) (Or.inl ⟨by rfl, ?_⟩) (by with_reducible assumption) ?_
      rotate_left
      · intro w hSw
        (try dsimp only at hSw)
        first | (go_simp; rw [eA]; with_reducible rfl) | (go_simp; done) | (go_simp; with_reducible rfl)
      (try simp only [Act.put, List.setIfInBounds_toArray, List.set_cons_zero, List.set_cons_succ])
      refine wpAnyH_take (i := 21) (oi := ({ dst := some 150, op := Op.load 24 (Operand.tmp 27), type := 24, pos := "law.go:136", after := #[{ on := 15, ground := Ground.guard }], guard := some (15, true) } : Oper)) (v := ?_) rfl (by kernel_rfl) (by kernel_rfl) (by kernel_rfl) (fun _ _ _ h => h) (Or.inl ⟨by rfl, ?_⟩) (by with_reducible assumption) ?_
      rotate_left
      · intro w hSw
        (try dsimp only at hSw)
        first | (go_simp; rw [eA]; with_reducible rfl) | (go_simp; done) | (go_simp; with_reducible rfl)
      (try simp only [Act.put, List.setIfInBounds_toArray, List.set_cons_zero, List.set_cons_succ])
      refine wpAnyH_ready (rs := [22]) (by kernel_rfl) (by simp) ?_
      refine AllReadyH.cons (o := ({ dst := some 151, op := Op.call { callee := Callee.value (Operand.func 23), args := #[Operand.tmp 149, Operand.tmp 150], argTypes := #[24, 24] }, type := 4, pos := "law.go:136", after := #[{ on := 20, ground := Ground.data }, { on := 21, ground := Ground.data }, { on := 15, ground := Ground.chain }, { on := 15, ground := Ground.guard }], guard := some (15, true) } : Oper)) rfl (fun K hK => ?_) AllReadyH.nil
      (first | (rw [if_pos (by rfl)]) | skip)
      go_simp
      refine (D2.out _ hHeld.2).mono ?_
      rintro r wg22 ⟨rfl, gg22⟩
      refine hK.out _ _ ⟨⟨gg22.keep hHeld.1.1, gg22.keep hHeld.1.2.1, gg22.keep hHeld.1.2.2.1, gg22.keep hHeld.1.2.2.2.1, gg22.keep hHeld.1.2.2.2.2.1, gg22.keep hHeld.1.2.2.2.2.2.1, gg22.keep hHeld.1.2.2.2.2.2.2.1, gg22.keep hHeld.1.2.2.2.2.2.2.2.1, gg22.keep hHeld.1.2.2.2.2.2.2.2.2.1, gg22.keep hHeld.1.2.2.2.2.2.2.2.2.2.1, gg22.keep hHeld.1.2.2.2.2.2.2.2.2.2.2.1, gg22.keep hHeld.1.2.2.2.2.2.2.2.2.2.2.2.1, gg22.keep hHeld.1.2.2.2.2.2.2.2.2.2.2.2.2.1, gg22.keep hHeld.1.2.2.2.2.2.2.2.2.2.2.2.2.2⟩, hHeld.2.trans gg22⟩ (fun hH22 => ?_)
      clear hK K hHeld
      (try simp only [Act.put, List.setIfInBounds_toArray, List.set_cons_zero, List.set_cons_succ])
      refine wpAnyH_take (i := 23) (oi := ({ dst := some 152, op := Op.unOp UnOp.not 4 (Operand.tmp 151), type := 4, pos := "law.go:136", after := #[{ on := 22, ground := Ground.data }, { on := 15, ground := Ground.guard }], guard := some (15, true) } : Oper)) (v := ?_) rfl (by kernel_rfl) (by kernel_rfl) (by kernel_rfl) (fun _ _ _ h => h) (Or.inl ⟨by rfl, ?_⟩) (by with_reducible assumption) ?_
      rotate_left
      · intro w hSw
        (try dsimp only at hSw)
        first | (go_simp; rw [eA]; with_reducible rfl) | (go_simp; done) | (go_simp; with_reducible rfl)
      (try simp only [Act.put, List.setIfInBounds_toArray, List.set_cons_zero, List.set_cons_succ])
      refine wpAnyH_take (i := 24) (oi := ({ dst := some 153, op := Op.pick (Operand.tmp 144) (Operand.tmp 152) (Operand.const (Value.bool false)), type := 4, pos := "law.go:136", after := #[{ on := 15, ground := Ground.data }, { on := 23, ground := Ground.data }, { on := 12, ground := Ground.guard }], guard := some (12, false) } : Oper)) (v := ?_) rfl (by kernel_rfl) (by kernel_rfl) (by kernel_rfl) (fun _ _ _ h => h) (Or.inl ⟨by rfl, ?_⟩) (by with_reducible assumption) ?_
      rotate_left
      · intro w hSw
        (try dsimp only at hSw)
        first | (go_simp; rw [eA]; with_reducible rfl) | (go_simp; done) | (go_simp; with_reducible rfl)
      (try simp only [Act.put, List.setIfInBounds_toArray, List.set_cons_zero, List.set_cons_succ])
      refine wpAnyH_take (i := 25) (oi := ({ dst := some 154, op := Op.pick (Operand.tmp 141) (Operand.const (Value.bool true)) (Operand.tmp 153), type := 4, pos := "law.go:136", after := #[{ on := 12, ground := Ground.data }, { on := 24, ground := Ground.data }], guard := none } : Oper)) (v := ?_) rfl (by kernel_rfl) (by kernel_rfl) (by kernel_rfl) (fun _ _ _ h => h) (Or.inl ⟨by rfl, ?_⟩) (by with_reducible assumption) ?_
      rotate_left
      · intro w hSw
        (try dsimp only at hSw)
        first | (go_simp; rw [eA]; with_reducible rfl) | (go_simp; done) | (go_simp; with_reducible rfl)
      (try simp only [Act.put, List.setIfInBounds_toArray, List.set_cons_zero, List.set_cons_succ])
      refine wpAnyH_done (by kernel_rfl) ?_ _
      exact ⟨_, _, _, _, _, _, _, _, _, _, _, _, _, _, _, _, _, _, _, _, _, _, _, _, _, rfl, hH22.2⟩
    · have eN : (GN == 0) = false := by simp [hN]
      refine wp_region_held_drew (S := fun w' => (w'.cell? ⟨bq, 0, none⟩ = some (.slice (some ⟨b0, 0, none⟩) 8 8) ∧ w'.cell? ⟨bq, 1, none⟩ = some (.slice (some ⟨b1, 0, none⟩) 8 8) ∧ w'.cell? ⟨b0, 0, none⟩ = some (.bool SA) ∧ w'.cell? ⟨b0, 1, none⟩ = some (.slice a0 m0 k0) ∧ w'.cell? ⟨b0, 2, none⟩ = some (.int .i64 EA) ∧ w'.cell? ⟨b1, 9, none⟩ = some (.bool SN) ∧ w'.cell? ⟨b1, 10, none⟩ = some (.slice a1 m1 k1) ∧ w'.cell? ⟨b1, 11, none⟩ = some (.int .i64 EN) ∧ w'.cell? ⟨pS, 0, none⟩ = some (.bool SA) ∧ w'.cell? ⟨pS, 1, none⟩ = some (.slice aS mS kS) ∧ w'.cell? ⟨pS, 2, none⟩ = some (.int .i64 EA) ∧ w'.cell? ⟨pN, 0, none⟩ = some (.bool SN) ∧ w'.cell? ⟨pN, 1, none⟩ = some (.slice aN mN kN) ∧ w'.cell? ⟨pN, 2, none⟩ = some (.int .i64 EN)) ∧ Gr wq w') (by kernel_rfl) hS0 (fun hHeld => ?_)
      refine wpAnyH_take (i := 0) (oi := ({ dst := some 129, op := Op.move (Operand.tmp 26), type := 30, pos := "law.go:136", after := #[], guard := none } : Oper)) (v := ?_) rfl (by kernel_rfl) (by kernel_rfl) (by kernel_rfl) (fun _ _ _ h => h) (Or.inl ⟨by rfl, ?_⟩) (by with_reducible assumption) ?_
      rotate_left
      · intro w hSw
        (try dsimp only at hSw)
        first | (go_simp; rw [eA]; with_reducible rfl) | (go_simp; rw [eN]; with_reducible rfl) | (go_simp; done) | (go_simp; with_reducible rfl)
      (try simp only [Act.put, List.setIfInBounds_toArray, List.set_cons_zero, List.set_cons_succ])
      refine wpAnyH_take (i := 1) (oi := ({ dst := some 130, op := Op.binOp BinOp.eql 30 (Operand.tmp 129) (Operand.const (Value.int IntKind.i64 0)) 30, type := 4, pos := "law.go:136", after := #[{ on := 0, ground := Ground.data }], guard := none } : Oper)) (v := ?_) rfl (by kernel_rfl) (by kernel_rfl) (by kernel_rfl) (fun _ _ _ h => h) (Or.inl ⟨by rfl, ?_⟩) (by with_reducible assumption) ?_
      rotate_left
      · intro w hSw
        (try dsimp only at hSw)
        first | (go_simp; rw [eA]; with_reducible rfl) | (go_simp; rw [eN]; with_reducible rfl) | (go_simp; done) | (go_simp; with_reducible rfl)
      (try simp only [Act.put, List.setIfInBounds_toArray, List.set_cons_zero, List.set_cons_succ])
      refine wpAnyH_take (i := 2) (oi := ({ dst := some 131, op := Op.move (Operand.tmp 130), type := 4, pos := "law.go:136", after := #[{ on := 1, ground := Ground.data }], guard := none } : Oper)) (v := ?_) rfl (by kernel_rfl) (by kernel_rfl) (by kernel_rfl) (fun _ _ _ h => h) (Or.inl ⟨by rfl, ?_⟩) (by with_reducible assumption) ?_
      rotate_left
      · intro w hSw
        (try dsimp only at hSw)
        first | (go_simp; rw [eA]; with_reducible rfl) | (go_simp; rw [eN]; with_reducible rfl) | (go_simp; done) | (go_simp; with_reducible rfl)
      (try simp only [Act.put, List.setIfInBounds_toArray, List.set_cons_zero, List.set_cons_succ])
      refine wpAnyH_take (i := 3) (oi := ({ dst := some 132, op := Op.move (Operand.tmp 9), type := 29, pos := "law.go:136", after := #[{ on := 2, ground := Ground.guard }], guard := some (2, true) } : Oper)) (v := undef) rfl (by kernel_rfl) (by kernel_rfl) (by kernel_rfl) (fun _ _ _ h => h) (Or.inr ⟨by rfl, rfl⟩) (by with_reducible assumption) ?_
      (try simp only [Act.put, List.setIfInBounds_toArray, List.set_cons_zero, List.set_cons_succ])
      refine wpAnyH_take (i := 4) (oi := ({ dst := some 133, op := Op.indexAddr 29 (Operand.tmp 132) (Operand.const (Value.int IntKind.i64 0)), type := 0, pos := "law.go:136", after := #[{ on := 3, ground := Ground.data }, { on := 2, ground := Ground.guard }], guard := some (2, true) } : Oper)) (v := undef) rfl (by kernel_rfl) (by kernel_rfl) (by kernel_rfl) (fun _ _ _ h => h) (Or.inr ⟨by rfl, rfl⟩) (by with_reducible assumption) ?_
      (try simp only [Act.put, List.setIfInBounds_toArray, List.set_cons_zero, List.set_cons_succ])
      refine wpAnyH_take (i := 5) (oi := ({ dst := some 134, op := Op.load 43 (Operand.tmp 133), type := 43, pos := "law.go:136", after := #[{ on := 4, ground := Ground.data }, { on := 2, ground := Ground.guard }], guard := some (2, true) } : Oper)) (v := undef) rfl (by kernel_rfl) (by kernel_rfl) (by kernel_rfl) (fun _ _ _ h => h) (Or.inr ⟨by rfl, rfl⟩) (by with_reducible assumption) ?_
      (try simp only [Act.put, List.setIfInBounds_toArray, List.set_cons_zero, List.set_cons_succ])
      refine wpAnyH_take (i := 6) (oi := ({ dst := some 135, op := Op.indexAddr 43 (Operand.tmp 134) (Operand.const (Value.int IntKind.i64 0)), type := 0, pos := "law.go:136", after := #[{ on := 5, ground := Ground.data }, { on := 2, ground := Ground.guard }], guard := some (2, true) } : Oper)) (v := undef) rfl (by kernel_rfl) (by kernel_rfl) (by kernel_rfl) (fun _ _ _ h => h) (Or.inr ⟨by rfl, rfl⟩) (by with_reducible assumption) ?_
      (try simp only [Act.put, List.setIfInBounds_toArray, List.set_cons_zero, List.set_cons_succ])
      refine wpAnyH_take (i := 7) (oi := ({ dst := some 136, op := Op.load 24 (Operand.tmp 135), type := 24, pos := "law.go:136", after := #[{ on := 6, ground := Ground.data }, { on := 2, ground := Ground.guard }], guard := some (2, true) } : Oper)) (v := undef) rfl (by kernel_rfl) (by kernel_rfl) (by kernel_rfl) (fun _ _ _ h => h) (Or.inr ⟨by rfl, rfl⟩) (by with_reducible assumption) ?_
      (try simp only [Act.put, List.setIfInBounds_toArray, List.set_cons_zero, List.set_cons_succ])
      refine wpAnyH_take (i := 8) (oi := ({ dst := some 137, op := Op.load 24 (Operand.tmp 25), type := 24, pos := "law.go:136", after := #[{ on := 2, ground := Ground.guard }], guard := some (2, true) } : Oper)) (v := undef) rfl (by kernel_rfl) (by kernel_rfl) (by kernel_rfl) (fun _ _ _ h => h) (Or.inr ⟨by rfl, rfl⟩) (by with_reducible assumption) ?_
      (try simp only [Act.put, List.setIfInBounds_toArray, List.set_cons_zero, List.set_cons_succ])
      refine wpAnyH_take (i := 9) (oi := ({ dst := some 138, op := Op.call { callee := Callee.value (Operand.func 23), args := #[Operand.tmp 136, Operand.tmp 137], argTypes := #[24, 24] }, type := 4, pos := "law.go:136", after := #[{ on := 7, ground := Ground.data }, { on := 8, ground := Ground.data }, { on := 2, ground := Ground.chain }, { on := 2, ground := Ground.guard }], guard := some (2, true) } : Oper)) (v := undef) rfl (by kernel_rfl) (by kernel_rfl) (by kernel_rfl) (fun _ _ _ h => h) (Or.inr ⟨by rfl, rfl⟩) (by with_reducible assumption) ?_
      (try simp only [Act.put, List.setIfInBounds_toArray, List.set_cons_zero, List.set_cons_succ])
      refine wpAnyH_take (i := 10) (oi := ({ dst := some 139, op := Op.unOp UnOp.not 4 (Operand.tmp 138), type := 4, pos := "law.go:136", after := #[{ on := 9, ground := Ground.data }, { on := 2, ground := Ground.guard }], guard := some (2, true) } : Oper)) (v := undef) rfl (by kernel_rfl) (by kernel_rfl) (by kernel_rfl) (fun _ _ _ h => h) (Or.inr ⟨by rfl, rfl⟩) (by with_reducible assumption) ?_
      (try simp only [Act.put, List.setIfInBounds_toArray, List.set_cons_zero, List.set_cons_succ])
      refine wpAnyH_take (i := 11) (oi := ({ dst := some 140, op := Op.pick (Operand.tmp 131) (Operand.tmp 139) (Operand.const (Value.bool false)), type := 4, pos := "law.go:136", after := #[{ on := 2, ground := Ground.data }, { on := 10, ground := Ground.data }], guard := none } : Oper)) (v := ?_) rfl (by kernel_rfl) (by kernel_rfl) (by kernel_rfl) (fun _ _ _ h => h) (Or.inl ⟨by rfl, ?_⟩) (by with_reducible assumption) ?_
      rotate_left
      · intro w hSw
        (try dsimp only at hSw)
        first | (go_simp; rw [eA]; with_reducible rfl) | (go_simp; rw [eN]; with_reducible rfl) | (go_simp; done) | (go_simp; with_reducible rfl)
      (try simp only [Act.put, List.setIfInBounds_toArray, List.set_cons_zero, List.set_cons_succ])
      refine wpAnyH_take (i := 12) (oi := ({ dst := some 141, op := Op.move (Operand.tmp 140), type := 4, pos := "law.go:136", after := #[{ on := 11, ground := Ground.data }, { on := 9, ground := Ground.chain }], guard := none } : Oper)) (v := ?_) rfl (by kernel_rfl) (by kernel_rfl) (by kernel_rfl) (fun _ _ _ h => h) (Or.inl ⟨by rfl, ?_⟩) (by with_reducible assumption) ?_
      rotate_left
      · intro w hSw
        (try dsimp only at hSw)
        first | (go_simp; rw [eA]; with_reducible rfl) | (go_simp; rw [eN]; with_reducible rfl) | (go_simp; done) | (go_simp; with_reducible rfl)
      (try simp only [Act.put, List.setIfInBounds_toArray, List.set_cons_zero, List.set_cons_succ])
      refine wpAnyH_take (i := 13) (oi := ({ dst := some 142, op := Op.move (Operand.tmp 28), type := 30, pos := "law.go:136", after := #[{ on := 12, ground := Ground.guard }], guard := some (12, false) } : Oper)) (v := ?_) rfl (by kernel_rfl) (by kernel_rfl) (by kernel_rfl) (fun _ _ _ h => h) (Or.inl ⟨by rfl, ?_⟩) (by with_reducible assumption) ?_
      rotate_left
      · intro w hSw
        (try dsimp only at hSw)
        first | (go_simp; rw [eA]; with_reducible rfl) | (go_simp; rw [eN]; with_reducible rfl) | (go_simp; done) | (go_simp; with_reducible rfl)
      (try simp only [Act.put, List.setIfInBounds_toArray, List.set_cons_zero, List.set_cons_succ])
      refine wpAnyH_take (i := 14) (oi := ({ dst := some 143, op := Op.binOp BinOp.eql 30 (Operand.tmp 142) (Operand.const (Value.int IntKind.i64 0)) 30, type := 4, pos := "law.go:136", after := #[{ on := 13, ground := Ground.data }, { on := 12, ground := Ground.guard }], guard := some (12, false) } : Oper)) (v := ?_) rfl (by kernel_rfl) (by kernel_rfl) (by kernel_rfl) (fun _ _ _ h => h) (Or.inl ⟨by rfl, ?_⟩) (by with_reducible assumption) ?_
      rotate_left
      · intro w hSw
        (try dsimp only at hSw)
        first | (go_simp; rw [eA]; with_reducible rfl) | (go_simp; rw [eN]; with_reducible rfl) | (go_simp; done) | (go_simp; with_reducible rfl)
      (try simp only [Act.put, List.setIfInBounds_toArray, List.set_cons_zero, List.set_cons_succ])
      refine wpAnyH_take (i := 15) (oi := ({ dst := some 144, op := Op.move (Operand.tmp 143), type := 4, pos := "law.go:136", after := #[{ on := 14, ground := Ground.data }, { on := 12, ground := Ground.chain }, { on := 12, ground := Ground.guard }], guard := some (12, false) } : Oper)) (v := ?_) rfl (by kernel_rfl) (by kernel_rfl) (by kernel_rfl) (fun _ _ _ h => h) (Or.inl ⟨by rfl, ?_⟩) (by with_reducible assumption) ?_
      rotate_left
      · intro w hSw
        (try dsimp only at hSw)
        first | (go_simp; rw [eA]; with_reducible rfl) | (go_simp; rw [eN]; with_reducible rfl) | (go_simp; done) | (go_simp; with_reducible rfl)
      (try simp only [Act.put, List.setIfInBounds_toArray, List.set_cons_zero, List.set_cons_succ])
      refine wpAnyH_take (i := 16) (oi := ({ dst := some 145, op := Op.move (Operand.tmp 9), type := 29, pos := "law.go:136", after := #[{ on := 15, ground := Ground.guard }], guard := some (15, true) } : Oper)) (v := undef) rfl (by kernel_rfl) (by kernel_rfl) (by kernel_rfl) (fun _ _ _ h => h) (Or.inr ⟨by rfl, rfl⟩) (by with_reducible assumption) ?_
      (try simp only [Act.put, List.setIfInBounds_toArray, List.set_cons_zero, List.set_cons_succ])
      refine wpAnyH_take (i := 17) (oi := ({ dst := some 146, op := Op.indexAddr 29 (Operand.tmp 145) (Operand.const (Value.int IntKind.i64 1)), type := 0, pos := "law.go:136", after := #[{ on := 16, ground := Ground.data }, { on := 15, ground := Ground.guard }], guard := some (15, true) } : Oper)) (v := undef) rfl (by kernel_rfl) (by kernel_rfl) (by kernel_rfl) (fun _ _ _ h => h) (Or.inr ⟨by rfl, rfl⟩) (by with_reducible assumption) ?_
      (try simp only [Act.put, List.setIfInBounds_toArray, List.set_cons_zero, List.set_cons_succ])
      refine wpAnyH_take (i := 18) (oi := ({ dst := some 147, op := Op.load 43 (Operand.tmp 146), type := 43, pos := "law.go:136", after := #[{ on := 17, ground := Ground.data }, { on := 15, ground := Ground.guard }], guard := some (15, true) } : Oper)) (v := undef) rfl (by kernel_rfl) (by kernel_rfl) (by kernel_rfl) (fun _ _ _ h => h) (Or.inr ⟨by rfl, rfl⟩) (by with_reducible assumption) ?_
      (try simp only [Act.put, List.setIfInBounds_toArray, List.set_cons_zero, List.set_cons_succ])
      refine wpAnyH_take (i := 19) (oi := ({ dst := some 148, op := Op.indexAddr 43 (Operand.tmp 147) (Operand.const (Value.int IntKind.i64 3)), type := 0, pos := "law.go:136", after := #[{ on := 18, ground := Ground.data }, { on := 15, ground := Ground.guard }], guard := some (15, true) } : Oper)) (v := undef) rfl (by kernel_rfl) (by kernel_rfl) (by kernel_rfl) (fun _ _ _ h => h) (Or.inr ⟨by rfl, rfl⟩) (by with_reducible assumption) ?_
      (try simp only [Act.put, List.setIfInBounds_toArray, List.set_cons_zero, List.set_cons_succ])
      refine wpAnyH_take (i := 20) (oi := ({ dst := some 149, op := Op.load 24 (Operand.tmp 148), type := 24, pos := "law.go:136", after := #[{ on := 19, ground := Ground.data }, { on := 15, ground := Ground.guard }], guard := some (15, true) } : Oper)) (v := undef) rfl (by kernel_rfl) (by kernel_rfl) (by kernel_rfl) (fun _ _ _ h => h) (Or.inr ⟨by rfl, rfl⟩) (by with_reducible assumption) ?_
      (try simp only [Act.put, List.setIfInBounds_toArray, List.set_cons_zero, List.set_cons_succ])
      refine wpAnyH_take (i := 21) (oi := ({ dst := some 150, op := Op.load 24 (Operand.tmp 27), type := 24, pos := "law.go:136", after := #[{ on := 15, ground := Ground.guard }], guard := some (15, true) } : Oper)) (v := undef) rfl (by kernel_rfl) (by kernel_rfl) (by kernel_rfl) (fun _ _ _ h => h) (Or.inr ⟨by rfl, rfl⟩) (by with_reducible assumption) ?_
      (try simp only [Act.put, List.setIfInBounds_toArray, List.set_cons_zero, List.set_cons_succ])
      refine wpAnyH_take (i := 22) (oi := ({ dst := some 151, op := Op.call { callee := Callee.value (Operand.func 23), args := #[Operand.tmp 149, Operand.tmp 150], argTypes := #[24, 24] }, type := 4, pos := "law.go:136", after := #[{ on := 20, ground := Ground.data }, { on := 21, ground := Ground.data }, { on := 15, ground := Ground.chain }, { on := 15, ground := Ground.guard }], guard := some (15, true) } : Oper)) (v := undef) rfl (by kernel_rfl) (by kernel_rfl) (by kernel_rfl) (fun _ _ _ h => h) (Or.inr ⟨by rfl, rfl⟩) (by with_reducible assumption) ?_
      (try simp only [Act.put, List.setIfInBounds_toArray, List.set_cons_zero, List.set_cons_succ])
      refine wpAnyH_take (i := 23) (oi := ({ dst := some 152, op := Op.unOp UnOp.not 4 (Operand.tmp 151), type := 4, pos := "law.go:136", after := #[{ on := 22, ground := Ground.data }, { on := 15, ground := Ground.guard }], guard := some (15, true) } : Oper)) (v := undef) rfl (by kernel_rfl) (by kernel_rfl) (by kernel_rfl) (fun _ _ _ h => h) (Or.inr ⟨by rfl, rfl⟩) (by with_reducible assumption) ?_
      (try simp only [Act.put, List.setIfInBounds_toArray, List.set_cons_zero, List.set_cons_succ])
      refine wpAnyH_take (i := 24) (oi := ({ dst := some 153, op := Op.pick (Operand.tmp 144) (Operand.tmp 152) (Operand.const (Value.bool false)), type := 4, pos := "law.go:136", after := #[{ on := 15, ground := Ground.data }, { on := 23, ground := Ground.data }, { on := 12, ground := Ground.guard }], guard := some (12, false) } : Oper)) (v := ?_) rfl (by kernel_rfl) (by kernel_rfl) (by kernel_rfl) (fun _ _ _ h => h) (Or.inl ⟨by rfl, ?_⟩) (by with_reducible assumption) ?_
      rotate_left
      · intro w hSw
        (try dsimp only at hSw)
        first | (go_simp; rw [eA]; with_reducible rfl) | (go_simp; rw [eN]; with_reducible rfl) | (go_simp; done) | (go_simp; with_reducible rfl)
      (try simp only [Act.put, List.setIfInBounds_toArray, List.set_cons_zero, List.set_cons_succ])
      refine wpAnyH_take (i := 25) (oi := ({ dst := some 154, op := Op.pick (Operand.tmp 141) (Operand.const (Value.bool true)) (Operand.tmp 153), type := 4, pos := "law.go:136", after := #[{ on := 12, ground := Ground.data }, { on := 24, ground := Ground.data }], guard := none } : Oper)) (v := ?_) rfl (by kernel_rfl) (by kernel_rfl) (by kernel_rfl) (fun _ _ _ h => h) (Or.inl ⟨by rfl, ?_⟩) (by with_reducible assumption) ?_
      rotate_left
      · intro w hSw
        (try dsimp only at hSw)
        first | (go_simp; rw [eA]; with_reducible rfl) | (go_simp; rw [eN]; with_reducible rfl) | (go_simp; done) | (go_simp; with_reducible rfl)
      (try simp only [Act.put, List.setIfInBounds_toArray, List.set_cons_zero, List.set_cons_succ])
      refine wpAnyH_done (by kernel_rfl) ?_ _
      exact ⟨_, _, _, _, _, _, _, _, _, _, _, _, _, _, _, _, _, _, _, _, _, _, _, _, _, rfl, hHeld.2⟩
end Go.Proofs.YtbkkpbffdnhidaaGreatDoor
