import Derived.Test.YtobceegpcimdgaaU30
namespace Go.Proofs.Ytobceegpcimdgaa
open Go.RowKit
set_option linter.unusedVariables false
set_option linter.unusedSimpArgs false

def RDb15 (t0 t1 t4 t5 t7 t8 t10 t11 t13 t14 t15 t16 t17 t18 t19 t20 t21 t22 t23 t24 t25 t26 t27 t28 t29 t30 t31 t32 t33 t34 t35 t36 t37 t38 t39 t40 t41 t42 t43 t44 t45 t46 t47 t48 t49 t50 t51 t52 t53 t54 t55 t56 t57 t58 t59 t60 t61 t62 t63 t64 t65 t66 t67 t68 t69 t70 t71 t72 t73 t74 t75 t76 t77 t78 t79 t80 t81 t82 t83 t84 t85 t86 t87 t88 t89 t90 t91 t92 t93 t94 t95 t96 t97 t98 t99 t100 t101 t102 t103 t104 t105 t106 t107 t108 t109 t110 t111 t112 t113 t114 t115 t116 t117 t118 t119 t120 t121 t122 t123 t124 t125 t126 t127 t128 t129 t130 t131 t132 t133 t134 t135 t136 t137 t138 t139 t140 t141 t142 t143 t144 t145 t146 t147 t148 t149 t150 t151 t152 t153 t154 t155 t156 t157 t158 t159 t160 t161 t162 t163 t164 t165 t166 t167 t168 t169 t170 t171 t172 t173 t174 t175 t176 t177 t178 t179 t180 t181 t182 t183 t184 t185 t186 t187 t188 t189 t190 t191 t192 t193 t194 t195 t196 t197 t198 t199 t200 t201 t202 t203 t204 t205 t206 : Value) (pA nA cA pB nB cB pR nR cR pS nS cS : Nat) (sA sB sR sS ok : Bool) (aA aB aR aS : Option Addr) (kA kB kR kS P1 P2 : Int) (wq : World) : Exit → Act → World → Prop
  | .normal, a, w => ∃ u147 u148 u149 u150 u151 u152 u153 u154 u155 u156 u157 u158 u159 u160 u161 u162 u163 u164 u165 u166 u167 u168 u169 u170 u171 u172 u173, a = { tmps := #[t0, t1, .pointer (some ⟨pA, 0, none⟩), .pointer (some ⟨pB, 0, none⟩), t4, t5, .pointer (some ⟨pR, 0, none⟩), t7, t8, .pointer (some ⟨pS, 0, none⟩), t10, t11, .bool ok, t13, t14, t15, t16, t17, t18, t19, t20, t21, t22, t23, t24, t25, t26, t27, t28, t29, t30, t31, t32, t33, t34, t35, t36, t37, t38, t39, t40, t41, t42, t43, t44, t45, t46, t47, t48, t49, t50, t51, t52, t53, t54, t55, t56, t57, t58, t59, t60, t61, t62, t63, t64, t65, t66, t67, t68, t69, t70, t71, t72, t73, t74, t75, t76, t77, t78, t79, t80, t81, t82, t83, t84, t85, t86, t87, t88, t89, t90, t91, t92, t93, t94, t95, t96, t97, t98, t99, t100, t101, t102, t103, t104, t105, t106, t107, t108, t109, t110, t111, t112, t113, t114, t115, t116, t117, t118, t119, t120, t121, t122, t123, t124, t125, t126, t127, t128, t129, t130, t131, t132, t133, t134, t135, t136, t137, t138, t139, t140, t141, t142, t143, t144, t145, t146, u147, u148, u149, u150, u151, u152, u153, u154, u155, u156, u157, u158, u159, u160, u161, u162, u163, u164, u165, u166, u167, u168, u169, u170, u171, u172, u173, .bool false, t175, t176, t177, t178, t179, t180, t181, t182, t183, t184, t185, t186, t187, t188, t189, t190, t191, t192, t193, t194, t195, t196, t197, t198, t199, t200, t201, t202, t203, t204, t205, t206], defers := [] } ∧ Gr wq w
  | _, _, _ => False
set_option maxRecDepth 100000 in
set_option maxHeartbeats 20000000 in
theorem regDb15 (t0 t1 t4 t5 t7 t8 t10 t11 t13 t14 t15 t16 t17 t18 t19 t20 t21 t22 t23 t24 t25 t26 t27 t28 t29 t30 t31 t32 t33 t34 t35 t36 t37 t38 t39 t40 t41 t42 t43 t44 t45 t46 t47 t48 t49 t50 t51 t52 t53 t54 t55 t56 t57 t58 t59 t60 t61 t62 t63 t64 t65 t66 t67 t68 t69 t70 t71 t72 t73 t74 t75 t76 t77 t78 t79 t80 t81 t82 t83 t84 t85 t86 t87 t88 t89 t90 t91 t92 t93 t94 t95 t96 t97 t98 t99 t100 t101 t102 t103 t104 t105 t106 t107 t108 t109 t110 t111 t112 t113 t114 t115 t116 t117 t118 t119 t120 t121 t122 t123 t124 t125 t126 t127 t128 t129 t130 t131 t132 t133 t134 t135 t136 t137 t138 t139 t140 t141 t142 t143 t144 t145 t146 t147 t148 t149 t150 t151 t152 t153 t154 t155 t156 t157 t158 t159 t160 t161 t162 t163 t164 t165 t166 t167 t168 t169 t170 t171 t172 t173 t174 t175 t176 t177 t178 t179 t180 t181 t182 t183 t184 t185 t186 t187 t188 t189 t190 t191 t192 t193 t194 t195 t196 t197 t198 t199 t200 t201 t202 t203 t204 t205 t206 : Value) (pA nA cA pB nB cB pR nR cR pS nS cS : Nat) (sA sB sR sS ok : Bool) (aA aB aR aS : Option Addr) (kA kB kR kS P1 P2 : Int) (wq : World)
    (XA : Hid (∀ w1, Gr wq w1 → Calls Try.prog 22 #[.agg #[.bool sA, .slice aA nA cA]] w1 fun r w' => r = .returned (.int .i64 kA) ∧ Gr w1 w'))
    (XB : Hid (∀ w1, Gr wq w1 → Calls Try.prog 22 #[.agg #[.bool sB, .slice aB nB cB]] w1 fun r w' => r = .returned (.int .i64 kB) ∧ Gr w1 w'))
    (XR : Hid (∀ w1, Gr wq w1 → Calls Try.prog 22 #[.agg #[.bool sR, .slice aR nR cR]] w1 fun r w' => r = .returned (.int .i64 kR) ∧ Gr w1 w'))
    (XS : Hid (∀ w1, Gr wq w1 → Calls Try.prog 22 #[.agg #[.bool sS, .slice aS nS cS]] w1 fun r w' => r = .returned (.int .i64 kS) ∧ Gr w1 w'))
    (e1 : IntKind.i64.wrap (kR * kB) = P1) (e2 : IntKind.i64.wrap (kS * kA) = P2) (h1 : ¬ P1 < 0) (h2 : ¬ P2 < 0) (h3 : (kR == 0) = ok) (h4 : (kS == 0) = ok) (G0 : Gr wq wq) (hcs : (wq.cell? ⟨pA, 0, none⟩ = some (.bool sA) ∧ wq.cell? ⟨pA, 1, none⟩ = some (.slice aA nA cA) ∧ wq.cell? ⟨pB, 0, none⟩ = some (.bool sB) ∧ wq.cell? ⟨pB, 1, none⟩ = some (.slice aB nB cB) ∧ wq.cell? ⟨pR, 0, none⟩ = some (.bool sR) ∧ wq.cell? ⟨pR, 1, none⟩ = some (.slice aR nR cR) ∧ wq.cell? ⟨pS, 0, none⟩ = some (.bool sS) ∧ wq.cell? ⟨pS, 1, none⟩ = some (.slice aS nS cS))) :
    Code.wp Try.prog (Code.region 15 #[{ dst := some 147, op := Op.load 24 (Operand.tmp 6), type := 24, pos := "outright.go:59", after := #[], guard := none }, { dst := some 148, op := Op.call { callee := Callee.value (Operand.func 22), args := #[Operand.tmp 147], argTypes := #[24] }, type := 3, pos := "outright.go:59", after := #[{ on := 0, ground := Ground.data }], guard := none }, { dst := some 149, op := Op.load 24 (Operand.tmp 3), type := 24, pos := "outright.go:59", after := #[], guard := none }, { dst := some 150, op := Op.call { callee := Callee.value (Operand.func 22), args := #[Operand.tmp 149], argTypes := #[24] }, type := 3, pos := "outright.go:59", after := #[{ on := 2, ground := Ground.data }, { on := 1, ground := Ground.chain }], guard := none }, { dst := some 151, op := Op.binOp BinOp.mul 3 (Operand.tmp 148) (Operand.tmp 150) 3, type := 3, pos := "outright.go:59", after := #[{ on := 1, ground := Ground.data }, { on := 3, ground := Ground.data }], guard := none }, { dst := some 152, op := Op.binOp BinOp.lss 3 (Operand.tmp 151) (Operand.const (Value.int IntKind.i64 0)) 3, type := 4, pos := "outright.go:59", after := #[{ on := 4, ground := Ground.data }], guard := none }, { dst := some 153, op := Op.move (Operand.tmp 152), type := 4, pos := "outright.go:59", after := #[{ on := 5, ground := Ground.data }, { on := 3, ground := Ground.chain }], guard := none }, { dst := some 154, op := Op.load 24 (Operand.tmp 9), type := 24, pos := "outright.go:59", after := #[{ on := 6, ground := Ground.guard }], guard := some (6, false) }, { dst := some 155, op := Op.call { callee := Callee.value (Operand.func 22), args := #[Operand.tmp 154], argTypes := #[24] }, type := 3, pos := "outright.go:59", after := #[{ on := 7, ground := Ground.data }, { on := 6, ground := Ground.chain }, { on := 6, ground := Ground.guard }], guard := some (6, false) }, { dst := some 156, op := Op.load 24 (Operand.tmp 2), type := 24, pos := "outright.go:59", after := #[{ on := 6, ground := Ground.guard }], guard := some (6, false) }, { dst := some 157, op := Op.call { callee := Callee.value (Operand.func 22), args := #[Operand.tmp 156], argTypes := #[24] }, type := 3, pos := "outright.go:59", after := #[{ on := 9, ground := Ground.data }, { on := 8, ground := Ground.chain }, { on := 6, ground := Ground.guard }], guard := some (6, false) }, { dst := some 158, op := Op.binOp BinOp.mul 3 (Operand.tmp 155) (Operand.tmp 157) 3, type := 3, pos := "outright.go:59", after := #[{ on := 8, ground := Ground.data }, { on := 10, ground := Ground.data }, { on := 6, ground := Ground.guard }], guard := some (6, false) }, { dst := some 159, op := Op.binOp BinOp.lss 3 (Operand.tmp 158) (Operand.const (Value.int IntKind.i64 0)) 3, type := 4, pos := "outright.go:59", after := #[{ on := 11, ground := Ground.data }, { on := 6, ground := Ground.guard }], guard := some (6, false) }, { dst := some 160, op := Op.pick (Operand.tmp 153) (Operand.const (Value.bool true)) (Operand.tmp 159), type := 4, pos := "outright.go:59", after := #[{ on := 6, ground := Ground.data }, { on := 12, ground := Ground.data }], guard := none }, { dst := some 161, op := Op.move (Operand.tmp 160), type := 4, pos := "outright.go:59", after := #[{ on := 13, ground := Ground.data }, { on := 10, ground := Ground.chain }], guard := none }, { dst := some 162, op := Op.move (Operand.tmp 12), type := 4, pos := "outright.go:59", after := #[{ on := 14, ground := Ground.guard }], guard := some (14, false) }, { dst := some 163, op := Op.load 24 (Operand.tmp 6), type := 24, pos := "outright.go:59", after := #[{ on := 14, ground := Ground.guard }], guard := some (14, false) }, { dst := some 164, op := Op.call { callee := Callee.value (Operand.func 22), args := #[Operand.tmp 163], argTypes := #[24] }, type := 3, pos := "outright.go:59", after := #[{ on := 16, ground := Ground.data }, { on := 14, ground := Ground.chain }, { on := 14, ground := Ground.guard }], guard := some (14, false) }, { dst := some 165, op := Op.binOp BinOp.eql 3 (Operand.tmp 164) (Operand.const (Value.int IntKind.i64 0)) 3, type := 4, pos := "outright.go:59", after := #[{ on := 17, ground := Ground.data }, { on := 14, ground := Ground.guard }], guard := some (14, false) }, { dst := some 166, op := Op.binOp BinOp.neq 4 (Operand.tmp 162) (Operand.tmp 165) 4, type := 4, pos := "outright.go:59", after := #[{ on := 15, ground := Ground.data }, { on := 18, ground := Ground.data }, { on := 14, ground := Ground.guard }], guard := some (14, false) }, { dst := some 167, op := Op.pick (Operand.tmp 161) (Operand.const (Value.bool true)) (Operand.tmp 166), type := 4, pos := "outright.go:59", after := #[{ on := 14, ground := Ground.data }, { on := 19, ground := Ground.data }], guard := none }, { dst := some 168, op := Op.move (Operand.tmp 167), type := 4, pos := "outright.go:59", after := #[{ on := 20, ground := Ground.data }, { on := 17, ground := Ground.chain }], guard := none }, { dst := some 169, op := Op.move (Operand.tmp 12), type := 4, pos := "outright.go:59", after := #[{ on := 21, ground := Ground.guard }], guard := some (21, false) }, { dst := some 170, op := Op.load 24 (Operand.tmp 9), type := 24, pos := "outright.go:59", after := #[{ on := 21, ground := Ground.guard }], guard := some (21, false) }, { dst := some 171, op := Op.call { callee := Callee.value (Operand.func 22), args := #[Operand.tmp 170], argTypes := #[24] }, type := 3, pos := "outright.go:59", after := #[{ on := 23, ground := Ground.data }, { on := 21, ground := Ground.chain }, { on := 21, ground := Ground.guard }], guard := some (21, false) }, { dst := some 172, op := Op.binOp BinOp.eql 3 (Operand.tmp 171) (Operand.const (Value.int IntKind.i64 0)) 3, type := 4, pos := "outright.go:59", after := #[{ on := 24, ground := Ground.data }, { on := 21, ground := Ground.guard }], guard := some (21, false) }, { dst := some 173, op := Op.binOp BinOp.neq 4 (Operand.tmp 169) (Operand.tmp 172) 4, type := 4, pos := "outright.go:59", after := #[{ on := 22, ground := Ground.data }, { on := 25, ground := Ground.data }, { on := 21, ground := Ground.guard }], guard := some (21, false) }, { dst := some 174, op := Op.pick (Operand.tmp 168) (Operand.const (Value.bool true)) (Operand.tmp 173), type := 4, pos := "outright.go:59", after := #[{ on := 21, ground := Ground.data }, { on := 26, ground := Ground.data }], guard := none }] true) (RDb15 t0 t1 t4 t5 t7 t8 t10 t11 t13 t14 t15 t16 t17 t18 t19 t20 t21 t22 t23 t24 t25 t26 t27 t28 t29 t30 t31 t32 t33 t34 t35 t36 t37 t38 t39 t40 t41 t42 t43 t44 t45 t46 t47 t48 t49 t50 t51 t52 t53 t54 t55 t56 t57 t58 t59 t60 t61 t62 t63 t64 t65 t66 t67 t68 t69 t70 t71 t72 t73 t74 t75 t76 t77 t78 t79 t80 t81 t82 t83 t84 t85 t86 t87 t88 t89 t90 t91 t92 t93 t94 t95 t96 t97 t98 t99 t100 t101 t102 t103 t104 t105 t106 t107 t108 t109 t110 t111 t112 t113 t114 t115 t116 t117 t118 t119 t120 t121 t122 t123 t124 t125 t126 t127 t128 t129 t130 t131 t132 t133 t134 t135 t136 t137 t138 t139 t140 t141 t142 t143 t144 t145 t146 t147 t148 t149 t150 t151 t152 t153 t154 t155 t156 t157 t158 t159 t160 t161 t162 t163 t164 t165 t166 t167 t168 t169 t170 t171 t172 t173 t174 t175 t176 t177 t178 t179 t180 t181 t182 t183 t184 t185 t186 t187 t188 t189 t190 t191 t192 t193 t194 t195 t196 t197 t198 t199 t200 t201 t202 t203 t204 t205 t206 pA nA cA pB nB cB pR nR cR pS nS cS sA sB sR sS ok aA aB aR aS kA kB kR kS P1 P2 wq) { tmps := #[t0, t1, .pointer (some ⟨pA, 0, none⟩), .pointer (some ⟨pB, 0, none⟩), t4, t5, .pointer (some ⟨pR, 0, none⟩), t7, t8, .pointer (some ⟨pS, 0, none⟩), t10, t11, .bool ok, t13, t14, t15, t16, t17, t18, t19, t20, t21, t22, t23, t24, t25, t26, t27, t28, t29, t30, t31, t32, t33, t34, t35, t36, t37, t38, t39, t40, t41, t42, t43, t44, t45, t46, t47, t48, t49, t50, t51, t52, t53, t54, t55, t56, t57, t58, t59, t60, t61, t62, t63, t64, t65, t66, t67, t68, t69, t70, t71, t72, t73, t74, t75, t76, t77, t78, t79, t80, t81, t82, t83, t84, t85, t86, t87, t88, t89, t90, t91, t92, t93, t94, t95, t96, t97, t98, t99, t100, t101, t102, t103, t104, t105, t106, t107, t108, t109, t110, t111, t112, t113, t114, t115, t116, t117, t118, t119, t120, t121, t122, t123, t124, t125, t126, t127, t128, t129, t130, t131, t132, t133, t134, t135, t136, t137, t138, t139, t140, t141, t142, t143, t144, t145, t146, t147, t148, t149, t150, t151, t152, t153, t154, t155, t156, t157, t158, t159, t160, t161, t162, t163, t164, t165, t166, t167, t168, t169, t170, t171, t172, t173, t174, t175, t176, t177, t178, t179, t180, t181, t182, t183, t184, t185, t186, t187, t188, t189, t190, t191, t192, t193, t194, t195, t196, t197, t198, t199, t200, t201, t202, t203, t204, t205, t206], defers := [] } wq := by
  have hS0 : (wq.drew.cell? ⟨pA, 0, none⟩ = some (.bool sA) ∧ wq.drew.cell? ⟨pA, 1, none⟩ = some (.slice aA nA cA) ∧ wq.drew.cell? ⟨pB, 0, none⟩ = some (.bool sB) ∧ wq.drew.cell? ⟨pB, 1, none⟩ = some (.slice aB nB cB) ∧ wq.drew.cell? ⟨pR, 0, none⟩ = some (.bool sR) ∧ wq.drew.cell? ⟨pR, 1, none⟩ = some (.slice aR nR cR) ∧ wq.drew.cell? ⟨pS, 0, none⟩ = some (.bool sS) ∧ wq.drew.cell? ⟨pS, 1, none⟩ = some (.slice aS nS cS)) ∧ Gr wq wq.drew := ⟨hcs, G0.drew⟩
  clear hcs G0 
  refine wp_region_held_drew (S := fun w' => (w'.cell? ⟨pA, 0, none⟩ = some (.bool sA) ∧ w'.cell? ⟨pA, 1, none⟩ = some (.slice aA nA cA) ∧ w'.cell? ⟨pB, 0, none⟩ = some (.bool sB) ∧ w'.cell? ⟨pB, 1, none⟩ = some (.slice aB nB cB) ∧ w'.cell? ⟨pR, 0, none⟩ = some (.bool sR) ∧ w'.cell? ⟨pR, 1, none⟩ = some (.slice aR nR cR) ∧ w'.cell? ⟨pS, 0, none⟩ = some (.bool sS) ∧ w'.cell? ⟨pS, 1, none⟩ = some (.slice aS nS cS)) ∧ Gr wq w') (by kernel_rfl) hS0 (fun hHeld => ?_)
  clear hS0
  generalize wq.drew = wd at *
  refine wpAnyH_take (i := 0) (oi := ({ dst := some 147, op := Op.load 24 (Operand.tmp 6), type := 24, pos := "outright.go:59", after := #[], guard := none } : Oper)) (v := ?_) rfl (by kernel_rfl) (by kernel_rfl) (by kernel_rfl) (fun _ _ _ h => h) (Or.inl ⟨by rfl, ?_⟩) (by with_reducible assumption) ?_
  rotate_left
  · intro w hSw
    (try dsimp only at hSw)
    first | (go_simp; done) | (go_simp; with_reducible rfl)
  (try simp only [Act.put, List.setIfInBounds_toArray, List.set_cons_zero, List.set_cons_succ])
  refine wpAnyH_take (i := 2) (oi := ({ dst := some 149, op := Op.load 24 (Operand.tmp 3), type := 24, pos := "outright.go:59", after := #[], guard := none } : Oper)) (v := ?_) rfl (by kernel_rfl) (by kernel_rfl) (by kernel_rfl) (fun _ _ _ h => h) (Or.inl ⟨by rfl, ?_⟩) (by with_reducible assumption) ?_
  rotate_left
  · intro w hSw
    (try dsimp only at hSw)
    first | (go_simp; done) | (go_simp; with_reducible rfl)
  (try simp only [Act.put, List.setIfInBounds_toArray, List.set_cons_zero, List.set_cons_succ])
  refine wpAnyH_ready (rs := [1]) (by kernel_rfl) (by simp) ?_
  refine AllReadyH.cons (o := ({ dst := some 148, op := Op.call { callee := Callee.value (Operand.func 22), args := #[Operand.tmp 147], argTypes := #[24] }, type := 3, pos := "outright.go:59", after := #[{ on := 0, ground := Ground.data }], guard := none } : Oper)) rfl (fun K hK => ?_) AllReadyH.nil
  go_simp
  with_reducible refine (XR.out _ hHeld.2).mono ?_
  rintro r wc1 ⟨rfl, gg3⟩
  refine hK.out _ _ ⟨⟨keepG gg3 hHeld.1.1, keepG gg3 hHeld.1.2.1, keepG gg3 hHeld.1.2.2.1, keepG gg3 hHeld.1.2.2.2.1, keepG gg3 hHeld.1.2.2.2.2.1, keepG gg3 hHeld.1.2.2.2.2.2.1, keepG gg3 hHeld.1.2.2.2.2.2.2.1, keepG gg3 hHeld.1.2.2.2.2.2.2.2⟩, hHeld.2.trans gg3⟩ (fun hH2 => ?_)
  have hzwc1 := hHeld.2.size
  clear hK K
  (try simp only [Act.put, List.setIfInBounds_toArray, List.set_cons_zero, List.set_cons_succ])
  refine wpAnyH_ready (rs := [3]) (by kernel_rfl) (by simp) ?_
  refine AllReadyH.cons (o := ({ dst := some 150, op := Op.call { callee := Callee.value (Operand.func 22), args := #[Operand.tmp 149], argTypes := #[24] }, type := 3, pos := "outright.go:59", after := #[{ on := 2, ground := Ground.data }, { on := 1, ground := Ground.chain }], guard := none } : Oper)) rfl (fun K hK => ?_) AllReadyH.nil
  go_simp
  with_reducible refine (XB.out _ hH2.2).mono ?_
  rintro r wc4 ⟨rfl, gg6⟩
  refine hK.out _ _ ⟨⟨keepG gg6 hH2.1.1, keepG gg6 hH2.1.2.1, keepG gg6 hH2.1.2.2.1, keepG gg6 hH2.1.2.2.2.1, keepG gg6 hH2.1.2.2.2.2.1, keepG gg6 hH2.1.2.2.2.2.2.1, keepG gg6 hH2.1.2.2.2.2.2.2.1, keepG gg6 hH2.1.2.2.2.2.2.2.2⟩, hH2.2.trans gg6⟩ (fun hH5 => ?_)
  have hzwc4 := hH2.2.size
  clear hK K
  (try simp only [Act.put, List.setIfInBounds_toArray, List.set_cons_zero, List.set_cons_succ])
  refine wpAnyH_take (i := 4) (oi := ({ dst := some 151, op := Op.binOp BinOp.mul 3 (Operand.tmp 148) (Operand.tmp 150) 3, type := 3, pos := "outright.go:59", after := #[{ on := 1, ground := Ground.data }, { on := 3, ground := Ground.data }], guard := none } : Oper)) (v := ?_) rfl (by kernel_rfl) (by kernel_rfl) (by kernel_rfl) (fun _ _ _ h => h) (Or.inl ⟨by rfl, ?_⟩) (by with_reducible assumption) ?_
  rotate_left
  · intro w hSw
    (try dsimp only at hSw)
    first | (go_simp; done) | (go_simp; with_reducible rfl)
  (try simp only [Act.put, List.setIfInBounds_toArray, List.set_cons_zero, List.set_cons_succ])
  refine wpAnyH_take (i := 5) (oi := ({ dst := some 152, op := Op.binOp BinOp.lss 3 (Operand.tmp 151) (Operand.const (Value.int IntKind.i64 0)) 3, type := 4, pos := "outright.go:59", after := #[{ on := 4, ground := Ground.data }], guard := none } : Oper)) (v := ?_) rfl (by kernel_rfl) (by kernel_rfl) (by kernel_rfl) (fun _ _ _ h => h) (Or.inl ⟨by rfl, ?_⟩) (by with_reducible assumption) ?_
  rotate_left
  · intro w hSw
    (try dsimp only at hSw)
    first | (go_simp; done) | (go_simp; with_reducible rfl)
  (try simp only [Act.put, List.setIfInBounds_toArray, List.set_cons_zero, List.set_cons_succ])
  refine wpAnyH_take (i := 6) (oi := ({ dst := some 153, op := Op.move (Operand.tmp 152), type := 4, pos := "outright.go:59", after := #[{ on := 5, ground := Ground.data }, { on := 3, ground := Ground.chain }], guard := none } : Oper)) (v := ?_) rfl (by kernel_rfl) (by kernel_rfl) (by kernel_rfl) (fun _ _ _ h => h) (Or.inl ⟨by rfl, ?_⟩) (by with_reducible assumption) ?_
  rotate_left
  · intro w hSw
    (try dsimp only at hSw)
    first | (go_simp; done) | (go_simp; with_reducible rfl)
  (try simp only [Act.put, List.setIfInBounds_toArray, List.set_cons_zero, List.set_cons_succ])
  refine wpAnyH_take (i := 7) (oi := ({ dst := some 154, op := Op.load 24 (Operand.tmp 9), type := 24, pos := "outright.go:59", after := #[{ on := 6, ground := Ground.guard }], guard := some (6, false) } : Oper)) (v := ?_) rfl (by kernel_rfl) (by kernel_rfl) (by kernel_rfl) (fun _ _ _ h => h) (Or.inl ⟨by rfl, ?_⟩) (by with_reducible assumption) ?_
  rotate_left
  · intro w hSw
    (try dsimp only at hSw)
    first | (go_simp; done) | (go_simp; with_reducible rfl)
  (try simp only [Act.put, List.setIfInBounds_toArray, List.set_cons_zero, List.set_cons_succ])
  refine wpAnyH_take (i := 9) (oi := ({ dst := some 156, op := Op.load 24 (Operand.tmp 2), type := 24, pos := "outright.go:59", after := #[{ on := 6, ground := Ground.guard }], guard := some (6, false) } : Oper)) (v := ?_) rfl (by kernel_rfl) (by kernel_rfl) (by kernel_rfl) (fun _ _ _ h => h) (Or.inl ⟨by rfl, ?_⟩) (by with_reducible assumption) ?_
  rotate_left
  · intro w hSw
    (try dsimp only at hSw)
    first | (go_simp; done) | (go_simp; with_reducible rfl)
  (try simp only [Act.put, List.setIfInBounds_toArray, List.set_cons_zero, List.set_cons_succ])
  refine wpAnyH_ready (rs := [8]) (by kernel_rfl) (by simp) ?_
  refine AllReadyH.cons (o := ({ dst := some 155, op := Op.call { callee := Callee.value (Operand.func 22), args := #[Operand.tmp 154], argTypes := #[24] }, type := 3, pos := "outright.go:59", after := #[{ on := 7, ground := Ground.data }, { on := 6, ground := Ground.chain }, { on := 6, ground := Ground.guard }], guard := some (6, false) } : Oper)) rfl (fun K hK => ?_) AllReadyH.nil
  go_simp
  with_reducible refine (XS.out _ hH5.2).mono ?_
  rintro r wc7 ⟨rfl, gg9⟩
  refine hK.out _ _ ⟨⟨keepG gg9 hH5.1.1, keepG gg9 hH5.1.2.1, keepG gg9 hH5.1.2.2.1, keepG gg9 hH5.1.2.2.2.1, keepG gg9 hH5.1.2.2.2.2.1, keepG gg9 hH5.1.2.2.2.2.2.1, keepG gg9 hH5.1.2.2.2.2.2.2.1, keepG gg9 hH5.1.2.2.2.2.2.2.2⟩, hH5.2.trans gg9⟩ (fun hH8 => ?_)
  have hzwc7 := hH5.2.size
  clear hK K
  (try simp only [Act.put, List.setIfInBounds_toArray, List.set_cons_zero, List.set_cons_succ])
  refine wpAnyH_ready (rs := [10]) (by kernel_rfl) (by simp) ?_
  refine AllReadyH.cons (o := ({ dst := some 157, op := Op.call { callee := Callee.value (Operand.func 22), args := #[Operand.tmp 156], argTypes := #[24] }, type := 3, pos := "outright.go:59", after := #[{ on := 9, ground := Ground.data }, { on := 8, ground := Ground.chain }, { on := 6, ground := Ground.guard }], guard := some (6, false) } : Oper)) rfl (fun K hK => ?_) AllReadyH.nil
  go_simp
  with_reducible refine (XA.out _ hH8.2).mono ?_
  rintro r wc10 ⟨rfl, gg12⟩
  refine hK.out _ _ ⟨⟨keepG gg12 hH8.1.1, keepG gg12 hH8.1.2.1, keepG gg12 hH8.1.2.2.1, keepG gg12 hH8.1.2.2.2.1, keepG gg12 hH8.1.2.2.2.2.1, keepG gg12 hH8.1.2.2.2.2.2.1, keepG gg12 hH8.1.2.2.2.2.2.2.1, keepG gg12 hH8.1.2.2.2.2.2.2.2⟩, hH8.2.trans gg12⟩ (fun hH11 => ?_)
  have hzwc10 := hH8.2.size
  clear hK K
  (try simp only [Act.put, List.setIfInBounds_toArray, List.set_cons_zero, List.set_cons_succ])
  refine wpAnyH_take (i := 11) (oi := ({ dst := some 158, op := Op.binOp BinOp.mul 3 (Operand.tmp 155) (Operand.tmp 157) 3, type := 3, pos := "outright.go:59", after := #[{ on := 8, ground := Ground.data }, { on := 10, ground := Ground.data }, { on := 6, ground := Ground.guard }], guard := some (6, false) } : Oper)) (v := ?_) rfl (by kernel_rfl) (by kernel_rfl) (by kernel_rfl) (fun _ _ _ h => h) (Or.inl ⟨by rfl, ?_⟩) (by with_reducible assumption) ?_
  rotate_left
  · intro w hSw
    (try dsimp only at hSw)
    first | (go_simp; done) | (go_simp; with_reducible rfl)
  (try simp only [Act.put, List.setIfInBounds_toArray, List.set_cons_zero, List.set_cons_succ])
  refine wpAnyH_take (i := 12) (oi := ({ dst := some 159, op := Op.binOp BinOp.lss 3 (Operand.tmp 158) (Operand.const (Value.int IntKind.i64 0)) 3, type := 4, pos := "outright.go:59", after := #[{ on := 11, ground := Ground.data }, { on := 6, ground := Ground.guard }], guard := some (6, false) } : Oper)) (v := ?_) rfl (by kernel_rfl) (by kernel_rfl) (by kernel_rfl) (fun _ _ _ h => h) (Or.inl ⟨by rfl, ?_⟩) (by with_reducible assumption) ?_
  rotate_left
  · intro w hSw
    (try dsimp only at hSw)
    first | (go_simp; done) | (go_simp; with_reducible rfl)
  (try simp only [Act.put, List.setIfInBounds_toArray, List.set_cons_zero, List.set_cons_succ])
  refine wpAnyH_take (i := 13) (oi := ({ dst := some 160, op := Op.pick (Operand.tmp 153) (Operand.const (Value.bool true)) (Operand.tmp 159), type := 4, pos := "outright.go:59", after := #[{ on := 6, ground := Ground.data }, { on := 12, ground := Ground.data }], guard := none } : Oper)) (v := ?_) rfl (by kernel_rfl) (by kernel_rfl) (by kernel_rfl) (fun _ _ _ h => h) (Or.inl ⟨by rfl, ?_⟩) (by with_reducible assumption) ?_
  rotate_left
  · intro w hSw
    (try dsimp only at hSw)
    first | (go_simp; done) | (go_simp; with_reducible rfl)
  (try simp only [Act.put, List.setIfInBounds_toArray, List.set_cons_zero, List.set_cons_succ])
  refine wpAnyH_take (i := 14) (oi := ({ dst := some 161, op := Op.move (Operand.tmp 160), type := 4, pos := "outright.go:59", after := #[{ on := 13, ground := Ground.data }, { on := 10, ground := Ground.chain }], guard := none } : Oper)) (v := ?_) rfl (by kernel_rfl) (by kernel_rfl) (by kernel_rfl) (fun _ _ _ h => h) (Or.inl ⟨by rfl, ?_⟩) (by with_reducible assumption) ?_
  rotate_left
  · intro w hSw
    (try dsimp only at hSw)
    first | (go_simp; done) | (go_simp; with_reducible rfl)
  (try simp only [Act.put, List.setIfInBounds_toArray, List.set_cons_zero, List.set_cons_succ])
  refine wpAnyH_take (i := 15) (oi := ({ dst := some 162, op := Op.move (Operand.tmp 12), type := 4, pos := "outright.go:59", after := #[{ on := 14, ground := Ground.guard }], guard := some (14, false) } : Oper)) (v := ?_) rfl (by kernel_rfl) (by kernel_rfl) (by kernel_rfl) (fun _ _ _ h => h) (Or.inl ⟨by rfl, ?_⟩) (by with_reducible assumption) ?_
  rotate_left
  · intro w hSw
    (try dsimp only at hSw)
    first | (go_simp; done) | (go_simp; with_reducible rfl)
  (try simp only [Act.put, List.setIfInBounds_toArray, List.set_cons_zero, List.set_cons_succ])
  refine wpAnyH_take (i := 16) (oi := ({ dst := some 163, op := Op.load 24 (Operand.tmp 6), type := 24, pos := "outright.go:59", after := #[{ on := 14, ground := Ground.guard }], guard := some (14, false) } : Oper)) (v := ?_) rfl (by kernel_rfl) (by kernel_rfl) (by kernel_rfl) (fun _ _ _ h => h) (Or.inl ⟨by rfl, ?_⟩) (by with_reducible assumption) ?_
  rotate_left
  · intro w hSw
    (try dsimp only at hSw)
    first | (go_simp; done) | (go_simp; with_reducible rfl)
  (try simp only [Act.put, List.setIfInBounds_toArray, List.set_cons_zero, List.set_cons_succ])
  refine wpAnyH_ready (rs := [17]) (by kernel_rfl) (by simp) ?_
  refine AllReadyH.cons (o := ({ dst := some 164, op := Op.call { callee := Callee.value (Operand.func 22), args := #[Operand.tmp 163], argTypes := #[24] }, type := 3, pos := "outright.go:59", after := #[{ on := 16, ground := Ground.data }, { on := 14, ground := Ground.chain }, { on := 14, ground := Ground.guard }], guard := some (14, false) } : Oper)) rfl (fun K hK => ?_) AllReadyH.nil
  go_simp
  with_reducible refine (XR.out _ hH11.2).mono ?_
  rintro r wc13 ⟨rfl, gg15⟩
  refine hK.out _ _ ⟨⟨keepG gg15 hH11.1.1, keepG gg15 hH11.1.2.1, keepG gg15 hH11.1.2.2.1, keepG gg15 hH11.1.2.2.2.1, keepG gg15 hH11.1.2.2.2.2.1, keepG gg15 hH11.1.2.2.2.2.2.1, keepG gg15 hH11.1.2.2.2.2.2.2.1, keepG gg15 hH11.1.2.2.2.2.2.2.2⟩, hH11.2.trans gg15⟩ (fun hH14 => ?_)
  have hzwc13 := hH11.2.size
  clear hK K
  (try simp only [Act.put, List.setIfInBounds_toArray, List.set_cons_zero, List.set_cons_succ])
  refine wpAnyH_take (i := 18) (oi := ({ dst := some 165, op := Op.binOp BinOp.eql 3 (Operand.tmp 164) (Operand.const (Value.int IntKind.i64 0)) 3, type := 4, pos := "outright.go:59", after := #[{ on := 17, ground := Ground.data }, { on := 14, ground := Ground.guard }], guard := some (14, false) } : Oper)) (v := ?_) rfl (by kernel_rfl) (by kernel_rfl) (by kernel_rfl) (fun _ _ _ h => h) (Or.inl ⟨by rfl, ?_⟩) (by with_reducible assumption) ?_
  rotate_left
  · intro w hSw
    (try dsimp only at hSw)
    first | (go_simp; done) | (go_simp; with_reducible rfl)
  (try simp only [Act.put, List.setIfInBounds_toArray, List.set_cons_zero, List.set_cons_succ])
  refine wpAnyH_take (i := 19) (oi := ({ dst := some 166, op := Op.binOp BinOp.neq 4 (Operand.tmp 162) (Operand.tmp 165) 4, type := 4, pos := "outright.go:59", after := #[{ on := 15, ground := Ground.data }, { on := 18, ground := Ground.data }, { on := 14, ground := Ground.guard }], guard := some (14, false) } : Oper)) (v := ?_) rfl (by kernel_rfl) (by kernel_rfl) (by kernel_rfl) (fun _ _ _ h => h) (Or.inl ⟨by rfl, ?_⟩) (by with_reducible assumption) ?_
  rotate_left
  · intro w hSw
    (try dsimp only at hSw)
    first | (go_simp; done) | (go_simp; with_reducible rfl)
  (try simp only [Act.put, List.setIfInBounds_toArray, List.set_cons_zero, List.set_cons_succ])
  refine wpAnyH_take (i := 20) (oi := ({ dst := some 167, op := Op.pick (Operand.tmp 161) (Operand.const (Value.bool true)) (Operand.tmp 166), type := 4, pos := "outright.go:59", after := #[{ on := 14, ground := Ground.data }, { on := 19, ground := Ground.data }], guard := none } : Oper)) (v := ?_) rfl (by kernel_rfl) (by kernel_rfl) (by kernel_rfl) (fun _ _ _ h => h) (Or.inl ⟨by rfl, ?_⟩) (by with_reducible assumption) ?_
  rotate_left
  · intro w hSw
    (try dsimp only at hSw)
    first | (go_simp; done) | (go_simp; with_reducible rfl)
  (try simp only [Act.put, List.setIfInBounds_toArray, List.set_cons_zero, List.set_cons_succ])
  refine wpAnyH_take (i := 21) (oi := ({ dst := some 168, op := Op.move (Operand.tmp 167), type := 4, pos := "outright.go:59", after := #[{ on := 20, ground := Ground.data }, { on := 17, ground := Ground.chain }], guard := none } : Oper)) (v := ?_) rfl (by kernel_rfl) (by kernel_rfl) (by kernel_rfl) (fun _ _ _ h => h) (Or.inl ⟨by rfl, ?_⟩) (by with_reducible assumption) ?_
  rotate_left
  · intro w hSw
    (try dsimp only at hSw)
    first | (go_simp; done) | (go_simp; with_reducible rfl)
  (try simp only [Act.put, List.setIfInBounds_toArray, List.set_cons_zero, List.set_cons_succ])
  refine wpAnyH_take (i := 22) (oi := ({ dst := some 169, op := Op.move (Operand.tmp 12), type := 4, pos := "outright.go:59", after := #[{ on := 21, ground := Ground.guard }], guard := some (21, false) } : Oper)) (v := ?_) rfl (by kernel_rfl) (by kernel_rfl) (by kernel_rfl) (fun _ _ _ h => h) (Or.inl ⟨by rfl, ?_⟩) (by with_reducible assumption) ?_
  rotate_left
  · intro w hSw
    (try dsimp only at hSw)
    first | (go_simp; done) | (go_simp; with_reducible rfl)
  (try simp only [Act.put, List.setIfInBounds_toArray, List.set_cons_zero, List.set_cons_succ])
  refine wpAnyH_take (i := 23) (oi := ({ dst := some 170, op := Op.load 24 (Operand.tmp 9), type := 24, pos := "outright.go:59", after := #[{ on := 21, ground := Ground.guard }], guard := some (21, false) } : Oper)) (v := ?_) rfl (by kernel_rfl) (by kernel_rfl) (by kernel_rfl) (fun _ _ _ h => h) (Or.inl ⟨by rfl, ?_⟩) (by with_reducible assumption) ?_
  rotate_left
  · intro w hSw
    (try dsimp only at hSw)
    first | (go_simp; done) | (go_simp; with_reducible rfl)
  (try simp only [Act.put, List.setIfInBounds_toArray, List.set_cons_zero, List.set_cons_succ])
  refine wpAnyH_ready (rs := [24]) (by kernel_rfl) (by simp) ?_
  refine AllReadyH.cons (o := ({ dst := some 171, op := Op.call { callee := Callee.value (Operand.func 22), args := #[Operand.tmp 170], argTypes := #[24] }, type := 3, pos := "outright.go:59", after := #[{ on := 23, ground := Ground.data }, { on := 21, ground := Ground.chain }, { on := 21, ground := Ground.guard }], guard := some (21, false) } : Oper)) rfl (fun K hK => ?_) AllReadyH.nil
  go_simp
  with_reducible refine (XS.out _ hH14.2).mono ?_
  rintro r wc16 ⟨rfl, gg18⟩
  refine hK.out _ _ ⟨⟨keepG gg18 hH14.1.1, keepG gg18 hH14.1.2.1, keepG gg18 hH14.1.2.2.1, keepG gg18 hH14.1.2.2.2.1, keepG gg18 hH14.1.2.2.2.2.1, keepG gg18 hH14.1.2.2.2.2.2.1, keepG gg18 hH14.1.2.2.2.2.2.2.1, keepG gg18 hH14.1.2.2.2.2.2.2.2⟩, hH14.2.trans gg18⟩ (fun hH17 => ?_)
  have hzwc16 := hH14.2.size
  clear hK K
  (try simp only [Act.put, List.setIfInBounds_toArray, List.set_cons_zero, List.set_cons_succ])
  refine wpAnyH_take (i := 25) (oi := ({ dst := some 172, op := Op.binOp BinOp.eql 3 (Operand.tmp 171) (Operand.const (Value.int IntKind.i64 0)) 3, type := 4, pos := "outright.go:59", after := #[{ on := 24, ground := Ground.data }, { on := 21, ground := Ground.guard }], guard := some (21, false) } : Oper)) (v := ?_) rfl (by kernel_rfl) (by kernel_rfl) (by kernel_rfl) (fun _ _ _ h => h) (Or.inl ⟨by rfl, ?_⟩) (by with_reducible assumption) ?_
  rotate_left
  · intro w hSw
    (try dsimp only at hSw)
    first | (go_simp; done) | (go_simp; with_reducible rfl)
  (try simp only [Act.put, List.setIfInBounds_toArray, List.set_cons_zero, List.set_cons_succ])
  refine wpAnyH_take (i := 26) (oi := ({ dst := some 173, op := Op.binOp BinOp.neq 4 (Operand.tmp 169) (Operand.tmp 172) 4, type := 4, pos := "outright.go:59", after := #[{ on := 22, ground := Ground.data }, { on := 25, ground := Ground.data }, { on := 21, ground := Ground.guard }], guard := some (21, false) } : Oper)) (v := ?_) rfl (by kernel_rfl) (by kernel_rfl) (by kernel_rfl) (fun _ _ _ h => h) (Or.inl ⟨by rfl, ?_⟩) (by with_reducible assumption) ?_
  rotate_left
  · intro w hSw
    (try dsimp only at hSw)
    first | (go_simp; done) | (go_simp; with_reducible rfl)
  (try simp only [Act.put, List.setIfInBounds_toArray, List.set_cons_zero, List.set_cons_succ])
  refine wpAnyH_take (i := 27) (oi := ({ dst := some 174, op := Op.pick (Operand.tmp 168) (Operand.const (Value.bool true)) (Operand.tmp 173), type := 4, pos := "outright.go:59", after := #[{ on := 21, ground := Ground.data }, { on := 26, ground := Ground.data }], guard := none } : Oper)) (v := ?_) rfl (by kernel_rfl) (by kernel_rfl) (by kernel_rfl) (fun _ _ _ h => h) (Or.inl ⟨by rfl, ?_⟩) (by with_reducible assumption) ?_
  rotate_left
  · intro w hSw
    (try dsimp only at hSw)
    first | (go_simp; done) | (go_simp; with_reducible rfl)
  (try simp only [Act.put, List.setIfInBounds_toArray, List.set_cons_zero, List.set_cons_succ])
  refine wpAnyH_done (by kernel_rfl) ?_ _
  exact ⟨_, _, _, _, _, _, _, _, _, _, _, _, _, _, _, _, _, _, _, _, _, _, _, _, _, _, _, rfl, hH17.2⟩
theorem fdiv_size (X Y : Int) (hY : Y ≠ 0) : (X.fmod Y).natAbs < Y.natAbs ∧ (X.fdiv Y * Y).natAbs ≤ X.natAbs + Y.natAbs ∧ 0 ≤ sg (X.fmod Y) * sg Y ∧ X.fdiv Y * Y + X.fmod Y = X := by
  have e : X.fdiv Y * Y + X.fmod Y = X := by rw [Int.mul_comm]; exact Int.mul_fdiv_add_fmod X Y
  rcases Int.lt_or_gt_of_ne hY with h | h
  · have h1' := Int.fmod_nonneg_of_pos (-X) (b := -Y) (by omega)
    have h2' := Int.fmod_lt_of_pos (-X) (b := -Y) (by omega)
    rw [Int.neg_fmod_neg] at h1' h2'
    have h1 : X.fmod Y ≤ 0 := by omega
    have h2 : Y < X.fmod Y := by omega
    refine ⟨by omega, by omega, ?_, e⟩
    rw [sg_neg h]
    rcases Int.lt_or_eq_of_le h1 with h3 | h3
    · rw [sg_neg h3]; decide
    · rw [h3, sg_zero]; decide
  · have h1 := Int.fmod_nonneg_of_pos X h
    have h2 := Int.fmod_lt_of_pos X h
    refine ⟨by omega, by omega, ?_, e⟩
    rw [sg_pos h]
    rcases Int.lt_or_eq_of_le h1 with h3 | h3
    · rw [sg_pos h3]; decide
    · rw [← h3, sg_zero]; decide
theorem tdiv_size (X Y : Int) (hY : Y ≠ 0) : (X.tmod Y).natAbs < Y.natAbs ∧ (X.tdiv Y * Y).natAbs ≤ X.natAbs + Y.natAbs ∧ 0 ≤ sg (X.tmod Y) * sg X ∧ X.tdiv Y * Y + X.tmod Y = X := by
  have e : X.tdiv Y * Y + X.tmod Y = X := by rw [Int.mul_comm]; exact Int.mul_tdiv_add_tmod X Y
  have b := Int.tmod_lt_of_pos X (b := Y.natAbs) (by omega)
  have b2 := Int.lt_tmod_of_pos X (b := Y.natAbs) (by omega)
  have e2 : X.tmod (Y.natAbs : Int) = X.tmod Y := by
    rcases Int.natAbs_eq Y with h | h
    · rw [← h]
    · rw [h, Int.tmod_neg]
      simp
  rw [e2] at b b2
  refine ⟨by omega, by omega, ?_, e⟩
  rcases Int.lt_trichotomy X 0 with hx | hx | hx
  · have := tmod_np Y (show X ≤ 0 by omega)
    rw [sg_neg hx]
    rcases Int.lt_or_eq_of_le this with h3 | h3
    · rw [sg_neg h3]; decide
    · rw [h3, sg_zero]; decide
  · rw [hx, Int.zero_tmod, sg_zero]; decide
  · have := Int.tmod_nonneg Y (show 0 ≤ X by omega)
    rw [sg_pos hx]
    rcases Int.lt_or_eq_of_le this with h3 | h3
    · rw [sg_pos h3]; decide
    · rw [← h3, sg_zero]; decide
theorem sg_le (x : Int) : -1 ≤ sg x ∧ sg x ≤ 1 := by
  unfold sg
  split
  · omega
  · split <;> omega
theorem sg_wrap {x y : Int} (h : 0 ≤ sg x * sg y) : ¬ IntKind.i64.wrap (sg x * sg y) < 0 := by
  have h1 := sg_le x
  have h2 := sg_le y
  generalize sg x = a at *
  generalize sg y = b at *
  have ha : a = -1 ∨ a = 0 ∨ a = 1 := by omega
  have hb : b = -1 ∨ b = 0 ∨ b = 1 := by omega
  rcases ha with rfl | rfl | rfl <;> rcases hb with rfl | rfl | rfl <;> first | decide | (exfalso; revert h; decide)
theorem sg_eq (x : Int) : (sg x == 0) = decide (x = 0) := by
  unfold sg
  split
  · rw [decide_eq_false (by omega)]; rfl
  · split
    · rename_i h; rw [decide_eq_true h]; rfl
    · rename_i h; rw [decide_eq_false h]; rfl
theorem fmod_zero_iff {X Y : Int} (hY : Y ≠ 0) : X.fmod Y = 0 ↔ X.tmod Y = 0 := by
  constructor
  · intro h
    have e := (fdiv_size X Y hY).2.2.2
    rw [h, Int.add_zero] at e
    rw [← e]
    exact Int.mul_tmod_left _ _
  · intro h
    exact (fl_same hY (Or.inl h)).2.trans h
theorem fdiv_of_tmod {X Y : Int} (hY : Y ≠ 0) (h : X.tmod Y = 0) : X.fdiv Y = X.tdiv Y := (fl_same hY (Or.inl h)).1
/-- limbs of at most 200: all fits -/
theorem top200 {x y : Nat} (hx : x < 18446744073709551616 ^ 200) (hy : y < 18446744073709551616 ^ 200) : x + y < TopN := by
  rw [topN_eq]
  have e : 18446744073709551616 ^ 201 ≤ 18446744073709551616 ^ K4 := Nat.pow_le_pow_right (by omega) (by rw [K4_eq]; omega)
  have e2 : 18446744073709551616 ^ 201 = 18446744073709551616 ^ 200 * 18446744073709551616 := Nat.pow_succ _ 200
  generalize 18446744073709551616 ^ 200 = A at *
  omega
end Go.Proofs.Ytobceegpcimdgaa
