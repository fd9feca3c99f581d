import Derived.Test.YtaofmkgfnhonaaaDoorDO
import Derived.Deep.RegionHeld3
namespace Go.Proofs.YtaofmkgfnhonaaaDoor
open Go.RowKit
set_option linter.unusedVariables false
set_option linter.unusedSimpArgs false
/-- a new box, stored into -/
theorem bx_put {w : World} {b : Nat} {p : Bool} {q : Option Addr} {l k : Nat} {i : Int} (P : w.heap[b]? = some (.cells #[.bool p, .slice q l k, .int .i64 i] 24)) {s : Bool} {ad : Option Addr} {n c : Nat} {e V : Int} (D : DyV w s ad n c e V) :
    Bx (((w.setCell ⟨b, 0, none⟩ (.bool s)).setCell ⟨b, 1, none⟩ (.slice ad n c)).setCell ⟨b, 2, none⟩ (.int .i64 e)) b s ad n c e V := by
  obtain ⟨x0, x1, x2⟩ := cells_of P
  have t := set3_at (v0 := .bool s) (v1 := .slice ad n c) (v2 := .int .i64 e) x0 x1 x2
  obtain ⟨x, dx, hV⟩ := D
  exact ⟨t.1, t.2.1, t.2.2, ⟨x, ⟨dx.lim.set3 (dx.lim.apart P) _ _ _, dx.le, dx.right⟩, hV⟩⟩
def R10 (t0 t2 t3 t4 t6 t7 t8 t9 t10 t11 t12 t13 t14 t15 t16 t17 t18 t19 t20 t21 t22 t23 t24 t25 t26 t27 t28 t29 t30 t31 t32 t33 t34 t35 t36 t37 t38 t39 t40 t41 t42 t43 t44 t45 t46 t47 t48 t49 t50 t51 t52 t53 t54 t55 t56 t57 t58 t59 t60 t61 t62 t63 t64 t65 t66 t67 t68 t69 t70 t71 t72 t73 t74 t75 t76 t77 t78 t79 t80 t81 t82 t83 t84 t85 t86 t87 t88 t89 t90 t91 t92 t93 t94 t95 t96 t97 t98 t99 t100 t101 t102 t103 t104 t105 t106 t107 t108 t109 t110 t111 t112 t113 t114 t115 t116 t117 t118 t119 t120 t121 t122 t123 t124 t125 t126 t127 t128 t129 t130 t131 t132 t133 t134 t135 t136 t137 t138 t139 t140 t141 t142 t143 t144 t145 t146 t147 t148 t149 t150 t151 t152 t153 t154 t155 t156 t157 t158 t159 t160 t161 : Value) (sL : Bool) (aL : Option Addr) (nL cL : Nat) (eL last : Int) (bL : Nat) (WN : Int) (wq : World) : Exit → Act → World → Prop
  | .normal, a, w => ∃ sN aN nN cN eN aS cS b, a = { tmps := #[t0, .int .i64 last, t2, t3, t4, .pointer (some ⟨bL, 0, none⟩), t6, t7, t8, .pointer (some ⟨b, 0, none⟩), .int .i64 0, t11, t12, t13, t14, t15, t16, t17, t18, t19, t20, t21, t22, t23, t24, t25, t26, t27, t28, t29, t30, t31, t32, t33, t34, t35, t36, t37, t38, t39, t40, t41, t42, t43, t44, t45, t46, t47, t48, t49, .tuple #[.agg #[.bool sN, .slice aN nN cN, .int .i64 eN], .int .i64 0], .agg #[.bool sL, .slice aL nL cL, .int .i64 eL], .int .i64 last, .agg #[.bool false, .slice aS 1 cS, .int .i64 last], .tuple #[.agg #[.bool sN, .slice aN nN cN, .int .i64 eN], .int .i64 0], .agg #[.bool sN, .slice aN nN cN, .int .i64 eN], .int .i64 0, t57, t58, t59, t60, t61, t62, t63, t64, t65, t66, t67, t68, t69, t70, t71, t72, t73, t74, t75, t76, t77, t78, t79, t80, t81, t82, t83, t84, t85, t86, t87, t88, t89, t90, t91, t92, t93, t94, t95, t96, t97, t98, t99, t100, t101, t102, t103, t104, t105, t106, t107, t108, t109, t110, t111, t112, t113, t114, t115, t116, t117, t118, t119, t120, t121, t122, t123, t124, t125, t126, t127, t128, t129, t130, t131, t132, t133, t134, t135, t136, t137, t138, t139, t140, t141, t142, t143, t144, t145, t146, t147, t148, t149, t150, t151, t152, t153, t154, t155, t156, t157, t158, t159, t160, t161], defers := [] } ∧ Bx w b sN aN nN cN eN WN ∧ Gr wq w
  | _, _, _ => False
set_option maxRecDepth 100000 in
set_option maxHeartbeats 40000000 in
theorem reg10 (t0 t2 t3 t4 t6 t7 t8 t9 t10 t11 t12 t13 t14 t15 t16 t17 t18 t19 t20 t21 t22 t23 t24 t25 t26 t27 t28 t29 t30 t31 t32 t33 t34 t35 t36 t37 t38 t39 t40 t41 t42 t43 t44 t45 t46 t47 t48 t49 t50 t51 t52 t53 t54 t55 t56 t57 t58 t59 t60 t61 t62 t63 t64 t65 t66 t67 t68 t69 t70 t71 t72 t73 t74 t75 t76 t77 t78 t79 t80 t81 t82 t83 t84 t85 t86 t87 t88 t89 t90 t91 t92 t93 t94 t95 t96 t97 t98 t99 t100 t101 t102 t103 t104 t105 t106 t107 t108 t109 t110 t111 t112 t113 t114 t115 t116 t117 t118 t119 t120 t121 t122 t123 t124 t125 t126 t127 t128 t129 t130 t131 t132 t133 t134 t135 t136 t137 t138 t139 t140 t141 t142 t143 t144 t145 t146 t147 t148 t149 t150 t151 t152 t153 t154 t155 t156 t157 t158 t159 t160 t161 : Value) (sL : Bool) (aL : Option Addr) (nL cL : Nat) (eL last : Int) (bL : Nat) (WL W1 WN : Int) (wq : World)
    (SM : Hid (∀ w1, Calls Tryd.prog 9 #[.bool false, .int .u64 1, .int .i64 last] w1 fun r w' => ∃ ad cap, r = .returned (.agg #[.bool false, .slice ad 1 cap, .int .i64 last]) ∧ Hid (DyV w' false ad 1 cap last W1) ∧ Gr w1 w'))
    (ADD : Hid (∀ s a n c e a' c' w1, Gr wq w1 → DyV w1 s a n c e WL → DyV w1 false a' 1 c' last W1 → Calls Tryd.prog 8 #[.agg #[.bool s, .slice a n c, .int .i64 e], .agg #[.bool false, .slice a' 1 c', .int .i64 last]] w1 fun r w' => ∃ s' ad n cap e', r = .returned (.tuple #[.agg #[.bool s', .slice ad n cap, .int .i64 e'], .int .i64 0]) ∧ DyV w' s' ad n cap e' WN ∧ Gr w1 w'))
    (HL : Bx wq bL sL aL nL cL eL WL) :
    Code.wp Tryd.prog (Code.region 10 #[{ dst := some 51, op := Op.load 24 (Operand.tmp 5), type := 24, pos := "outright.go:99", after := #[], guard := none }, { dst := some 52, op := Op.move (Operand.tmp 1), type := 3, pos := "outright.go:99", after := #[], guard := none }, { dst := some 53, op := Op.call { callee := Callee.value (Operand.func 9), args := #[Operand.const (Value.bool false), Operand.const (Value.int IntKind.u64 1), Operand.tmp 52], argTypes := #[4, 33, 3] }, type := 24, pos := "outright.go:99", after := #[{ on := 1, ground := Ground.data }], guard := none }, { dst := some 54, op := Op.call { callee := Callee.value (Operand.func 8), args := #[Operand.tmp 51, Operand.tmp 53], argTypes := #[24, 24] }, type := 29, pos := "outright.go:99", after := #[{ on := 0, ground := Ground.data }, { on := 2, ground := Ground.data }, { on := 2, ground := Ground.chain }], guard := none }, { dst := some 50, op := Op.move (Operand.tmp 54), type := 29, pos := "outright.go:99", after := #[{ on := 3, ground := Ground.data }], guard := none }, { dst := some 55, op := Op.extract (Operand.tmp 50) 0, type := 24, pos := "outright.go:99", after := #[{ on := 4, ground := Ground.data }], guard := none }, { dst := some 56, op := Op.extract (Operand.tmp 50) 1, type := 28, pos := "outright.go:99", after := #[{ on := 4, ground := Ground.data }, { on := 8, ground := Ground.gcOnly Departure.lateStores }], guard := none }, { dst := some 9, op := Op.alloc 24, type := 0, pos := "outright.go:99", after := #[], guard := none }, { dst := none, op := Op.store 24 (Operand.tmp 9) (Operand.tmp 55), type := 0, pos := "outright.go:99", after := #[{ on := 7, ground := Ground.data }, { on := 5, ground := Ground.data }, { on := 3, ground := Ground.chain }, { on := 0, ground := Ground.phase }, { on := 1, ground := Ground.phase }, { on := 2, ground := Ground.phase }, { on := 3, ground := Ground.phase }, { on := 4, ground := Ground.phase }, { on := 5, ground := Ground.phase }, { on := 6, ground := Ground.textOnly Departure.lateStores }, { on := 7, ground := Ground.phase }], guard := none }, { dst := some 10, op := Op.assign (Operand.tmp 56), type := 28, pos := "outright.go:99", after := #[{ on := 6, ground := Ground.data }, { on := 8, ground := Ground.chain }, { on := 0, ground := Ground.phase }, { on := 1, ground := Ground.phase }, { on := 2, ground := Ground.phase }, { on := 3, ground := Ground.phase }, { on := 4, ground := Ground.phase }, { on := 5, ground := Ground.phase }, { on := 6, ground := Ground.phase }, { on := 7, ground := Ground.phase }, { on := 8, ground := Ground.phase }], guard := none }] true) (R10 t0 t2 t3 t4 t6 t7 t8 t9 t10 t11 t12 t13 t14 t15 t16 t17 t18 t19 t20 t21 t22 t23 t24 t25 t26 t27 t28 t29 t30 t31 t32 t33 t34 t35 t36 t37 t38 t39 t40 t41 t42 t43 t44 t45 t46 t47 t48 t49 t50 t51 t52 t53 t54 t55 t56 t57 t58 t59 t60 t61 t62 t63 t64 t65 t66 t67 t68 t69 t70 t71 t72 t73 t74 t75 t76 t77 t78 t79 t80 t81 t82 t83 t84 t85 t86 t87 t88 t89 t90 t91 t92 t93 t94 t95 t96 t97 t98 t99 t100 t101 t102 t103 t104 t105 t106 t107 t108 t109 t110 t111 t112 t113 t114 t115 t116 t117 t118 t119 t120 t121 t122 t123 t124 t125 t126 t127 t128 t129 t130 t131 t132 t133 t134 t135 t136 t137 t138 t139 t140 t141 t142 t143 t144 t145 t146 t147 t148 t149 t150 t151 t152 t153 t154 t155 t156 t157 t158 t159 t160 t161 sL aL nL cL eL last bL WN wq) { tmps := #[t0, .int .i64 last, t2, t3, t4, .pointer (some ⟨bL, 0, none⟩), t6, t7, t8, t9, t10, t11, t12, t13, t14, t15, t16, t17, t18, t19, t20, t21, t22, t23, t24, t25, t26, t27, t28, t29, t30, t31, t32, t33, t34, t35, t36, t37, t38, t39, t40, t41, t42, t43, t44, t45, t46, t47, t48, t49, t50, t51, t52, t53, t54, t55, t56, t57, t58, t59, t60, t61, t62, t63, t64, t65, t66, t67, t68, t69, t70, t71, t72, t73, t74, t75, t76, t77, t78, t79, t80, t81, t82, t83, t84, t85, t86, t87, t88, t89, t90, t91, t92, t93, t94, t95, t96, t97, t98, t99, t100, t101, t102, t103, t104, t105, t106, t107, t108, t109, t110, t111, t112, t113, t114, t115, t116, t117, t118, t119, t120, t121, t122, t123, t124, t125, t126, t127, t128, t129, t130, t131, t132, t133, t134, t135, t136, t137, t138, t139, t140, t141, t142, t143, t144, t145, t146, t147, t148, t149, t150, t151, t152, t153, t154, t155, t156, t157, t158, t159, t160, t161], defers := [] } wq := by
  have qL0 := HL.c0
  have qL1 := HL.c1
  have qL2 := HL.c2
  have HLd : Hid (DyV wq sL aL nL cL eL WL) := HL.d
  have bLlt : bL < wq.heap.size := lt_of_cell' qL0
  have hS0 : (wq.drew.cell? ⟨bL, 0, none⟩ = some (.bool sL) ∧ wq.drew.cell? ⟨bL, 1, none⟩ = some (.slice aL nL cL) ∧ wq.drew.cell? ⟨bL, 2, none⟩ = some (.int .i64 eL)) ∧ Gr wq wq.drew := ⟨⟨qL0, qL1, qL2⟩, (Gr.refl wq).drew⟩
  clear HL qL0 qL1 qL2
  refine wp_region_held_drew (S := fun w' => (w'.cell? ⟨bL, 0, none⟩ = some (.bool sL) ∧ w'.cell? ⟨bL, 1, none⟩ = some (.slice aL nL cL) ∧ w'.cell? ⟨bL, 2, none⟩ = some (.int .i64 eL)) ∧ Gr wq w') (by kernel_rfl) hS0 (fun hHeld => ?_)
  refine wpAnyH_take (i := 0) (oi := ({ dst := some 51, op := Op.load 24 (Operand.tmp 5), type := 24, pos := "outright.go:99", after := #[], guard := none } : Oper)) (v := ?_) rfl (by kernel_rfl) (by kernel_rfl) (by kernel_rfl) (fun _ _ _ h => h) (Or.inl ⟨by rfl, ?_⟩) (by with_reducible assumption) ?_
  rotate_left
  · intro w hSw
    (try dsimp only at hSw)
    first | (go_simp; done) | (go_simp; with_reducible rfl)
  (try simp only [Act.put, List.setIfInBounds_toArray, List.set_cons_zero, List.set_cons_succ])
  refine wpAnyH_take (i := 1) (oi := ({ dst := some 52, op := Op.move (Operand.tmp 1), type := 3, pos := "outright.go:99", after := #[], guard := none } : Oper)) (v := ?_) rfl (by kernel_rfl) (by kernel_rfl) (by kernel_rfl) (fun _ _ _ h => h) (Or.inl ⟨by rfl, ?_⟩) (by with_reducible assumption) ?_
  rotate_left
  · intro w hSw
    (try dsimp only at hSw)
    first | (go_simp; done) | (go_simp; with_reducible rfl)
  (try simp only [Act.put, List.setIfInBounds_toArray, List.set_cons_zero, List.set_cons_succ])
  refine wpAnyH_ready (rs := [2, 7]) (by kernel_rfl) (by simp) ?_
  refine AllReadyH.cons (o := ({ dst := some 53, op := Op.call { callee := Callee.value (Operand.func 9), args := #[Operand.const (Value.bool false), Operand.const (Value.int IntKind.u64 1), Operand.tmp 52], argTypes := #[4, 33, 3] }, type := 24, pos := "outright.go:99", after := #[{ on := 1, ground := Ground.data }], guard := none } : Oper)) rfl (fun K hK => ?_) ?_
  · go_simp
    refine (SM.out _).mono ?_
    rintro r w12 ⟨aS, cS, rfl, DS, g12⟩
    refine hK.out _ _ (keepB g12 hHeld) (fun hH2 => ?_)
    clear hK K
    (try simp only [Act.put, List.setIfInBounds_toArray, List.set_cons_zero, List.set_cons_succ])
    refine wpAnyH_ready (rs := [3, 7]) (by kernel_rfl) (by simp) ?_
    refine AllReadyH.cons (o := ({ dst := some 54, op := Op.call { callee := Callee.value (Operand.func 8), args := #[Operand.tmp 51, Operand.tmp 53], argTypes := #[24, 24] }, type := 29, pos := "outright.go:99", after := #[{ on := 0, ground := Ground.data }, { on := 2, ground := Ground.data }, { on := 2, ground := Ground.chain }], guard := none } : Oper)) rfl (fun K hK => ?_) ?_
    · go_simp
      refine (ADD.out _ _ _ _ _ aS cS w12 hH2.2 (HLd.out.gr hH2.2) DS.out).mono ?_
      rintro r w9 ⟨sN, aN, nN, cN, eN, rfl, DN, g9⟩
      refine hK.out _ _ (keepB g9 hH2) (fun hH3 => ?_)
      clear hK K
      (try simp only [Act.put, List.setIfInBounds_toArray, List.set_cons_zero, List.set_cons_succ])
      refine wpAnyH_take (i := 4) (oi := ({ dst := some 50, op := Op.move (Operand.tmp 54), type := 29, pos := "outright.go:99", after := #[{ on := 3, ground := Ground.data }], guard := none } : Oper)) (v := ?_) rfl (by kernel_rfl) (by kernel_rfl) (by kernel_rfl) (fun _ _ _ h => h) (Or.inl ⟨by rfl, ?_⟩) (by with_reducible assumption) ?_
      rotate_left
      · intro w hSw
        (try dsimp only at hSw)
        first | (go_simp; done) | (go_simp; with_reducible rfl)
      (try simp only [Act.put, List.setIfInBounds_toArray, List.set_cons_zero, List.set_cons_succ])
      refine wpAnyH_take (i := 5) (oi := ({ dst := some 55, op := Op.extract (Operand.tmp 50) 0, type := 24, pos := "outright.go:99", after := #[{ on := 4, ground := Ground.data }], guard := none } : Oper)) (v := ?_) rfl (by kernel_rfl) (by kernel_rfl) (by kernel_rfl) (fun _ _ _ h => h) (Or.inl ⟨by rfl, ?_⟩) (by with_reducible assumption) ?_
      rotate_left
      · intro w hSw
        (try dsimp only at hSw)
        first | (go_simp; done) | (go_simp; with_reducible rfl)
      (try simp only [Act.put, List.setIfInBounds_toArray, List.set_cons_zero, List.set_cons_succ])
      refine wpAnyH_take (i := 6) (oi := ({ dst := some 56, op := Op.extract (Operand.tmp 50) 1, type := 28, pos := "outright.go:99", after := #[{ on := 4, ground := Ground.data }, { on := 8, ground := Ground.gcOnly Departure.lateStores }], guard := none } : Oper)) (v := ?_) rfl (by kernel_rfl) (by kernel_rfl) (by kernel_rfl) (fun _ _ _ h => h) (Or.inl ⟨by rfl, ?_⟩) (by with_reducible assumption) ?_
      rotate_left
      · intro w hSw
        (try dsimp only at hSw)
        first | (go_simp; done) | (go_simp; with_reducible rfl)
      (try simp only [Act.put, List.setIfInBounds_toArray, List.set_cons_zero, List.set_cons_succ])
      refine wpAnyH_ready (rs := [7]) (by kernel_rfl) (by simp) ?_
      refine AllReadyH.cons (o := ({ dst := some 9, op := Op.alloc 24, type := 0, pos := "outright.go:99", after := #[], guard := none } : Oper)) rfl (fun K hK => ?_) AllReadyH.nil
      go_simp
      refine hK.out _ _ (keepBA hH3) (fun hH4 => ?_)
      clear hK K
      (try simp only [Act.put, List.setIfInBounds_toArray, List.set_cons_zero, List.set_cons_succ])
      refine wpAnyH_ready (rs := [8]) (by kernel_rfl) (by simp) ?_
      refine AllReadyH.cons (o := ({ dst := none, op := Op.store 24 (Operand.tmp 9) (Operand.tmp 55), type := 0, pos := "outright.go:99", after := #[{ on := 7, ground := Ground.data }, { on := 5, ground := Ground.data }, { on := 3, ground := Ground.chain }, { on := 0, ground := Ground.phase }, { on := 1, ground := Ground.phase }, { on := 2, ground := Ground.phase }, { on := 3, ground := Ground.phase }, { on := 4, ground := Ground.phase }, { on := 5, ground := Ground.phase }, { on := 6, ground := Ground.textOnly Departure.lateStores }, { on := 7, ground := Ground.phase }], guard := none } : Oper)) rfl (fun K hK => ?_) AllReadyH.nil
      go_simp
      refine hK.out _ _ (keepBA hH3) (fun hH9 => ?_)
      clear hK K
      (try simp only [Act.put, List.setIfInBounds_toArray, List.set_cons_zero, List.set_cons_succ])
      refine wpAnyH_take (i := 9) (oi := ({ dst := some 10, op := Op.assign (Operand.tmp 56), type := 28, pos := "outright.go:99", after := #[{ on := 6, ground := Ground.data }, { on := 8, ground := Ground.chain }, { on := 0, ground := Ground.phase }, { on := 1, ground := Ground.phase }, { on := 2, ground := Ground.phase }, { on := 3, ground := Ground.phase }, { on := 4, ground := Ground.phase }, { on := 5, ground := Ground.phase }, { on := 6, ground := Ground.phase }, { on := 7, ground := Ground.phase }, { on := 8, ground := Ground.phase }], guard := none } : Oper)) (v := ?_) rfl (by kernel_rfl) (by kernel_rfl) (by kernel_rfl) (fun _ _ _ h => h) (Or.inl ⟨by rfl, ?_⟩) (by with_reducible assumption) ?_
      rotate_left
      · intro w hSw
        (try dsimp only at hSw)
        first | (go_simp; done) | (go_simp; with_reducible rfl)
      (try simp only [Act.put, List.setIfInBounds_toArray, List.set_cons_zero, List.set_cons_succ])
      refine wpAnyH_done (by kernel_rfl) ?_ _
      exact ⟨sN, aN, nN, cN, eN, aS, cS, w9.heap.size, rfl, Bx.new DN, hH9.2⟩
    refine AllReadyH.cons (o := ({ dst := some 9, op := Op.alloc 24, type := 0, pos := "outright.go:99", after := #[], guard := none } : Oper)) rfl (fun K hK => ?_) AllReadyH.nil
    go_simp
    refine hK.out _ _ (keepBA hH2) (fun hH5 => ?_)
    clear hK K
    (try simp only [Act.put, List.setIfInBounds_toArray, List.set_cons_zero, List.set_cons_succ])
    refine wpAnyH_ready (rs := [3]) (by kernel_rfl) (by simp) ?_
    refine AllReadyH.cons (o := ({ dst := some 54, op := Op.call { callee := Callee.value (Operand.func 8), args := #[Operand.tmp 51, Operand.tmp 53], argTypes := #[24, 24] }, type := 29, pos := "outright.go:99", after := #[{ on := 0, ground := Ground.data }, { on := 2, ground := Ground.data }, { on := 2, ground := Ground.chain }], guard := none } : Oper)) rfl (fun K hK => ?_) AllReadyH.nil
    go_simp
    refine (ADD.out _ _ _ _ _ aS cS (w12.alloc (.cells #[.bool false, .slice none 0 0, .int .i64 0] 24)) hH5.2 (HLd.out.gr hH5.2) (DS.out.gr ((Gr.refl w12).alloc _))).mono ?_
    rintro r w9 ⟨sN, aN, nN, cN, eN, rfl, DN, g9⟩
    refine hK.out _ _ (keepB g9 hH5) (fun hH3 => ?_)
    clear hK K
    (try simp only [Act.put, List.setIfInBounds_toArray, List.set_cons_zero, List.set_cons_succ])
    refine wpAnyH_take (i := 4) (oi := ({ dst := some 50, op := Op.move (Operand.tmp 54), type := 29, pos := "outright.go:99", after := #[{ on := 3, ground := Ground.data }], guard := none } : Oper)) (v := ?_) rfl (by kernel_rfl) (by kernel_rfl) (by kernel_rfl) (fun _ _ _ h => h) (Or.inl ⟨by rfl, ?_⟩) (by with_reducible assumption) ?_
    rotate_left
    · intro w hSw
      (try dsimp only at hSw)
      first | (go_simp; done) | (go_simp; with_reducible rfl)
    (try simp only [Act.put, List.setIfInBounds_toArray, List.set_cons_zero, List.set_cons_succ])
    refine wpAnyH_take (i := 5) (oi := ({ dst := some 55, op := Op.extract (Operand.tmp 50) 0, type := 24, pos := "outright.go:99", after := #[{ on := 4, ground := Ground.data }], guard := none } : Oper)) (v := ?_) rfl (by kernel_rfl) (by kernel_rfl) (by kernel_rfl) (fun _ _ _ h => h) (Or.inl ⟨by rfl, ?_⟩) (by with_reducible assumption) ?_
    rotate_left
    · intro w hSw
      (try dsimp only at hSw)
      first | (go_simp; done) | (go_simp; with_reducible rfl)
    (try simp only [Act.put, List.setIfInBounds_toArray, List.set_cons_zero, List.set_cons_succ])
    refine wpAnyH_take (i := 6) (oi := ({ dst := some 56, op := Op.extract (Operand.tmp 50) 1, type := 28, pos := "outright.go:99", after := #[{ on := 4, ground := Ground.data }, { on := 8, ground := Ground.gcOnly Departure.lateStores }], guard := none } : Oper)) (v := ?_) rfl (by kernel_rfl) (by kernel_rfl) (by kernel_rfl) (fun _ _ _ h => h) (Or.inl ⟨by rfl, ?_⟩) (by with_reducible assumption) ?_
    rotate_left
    · intro w hSw
      (try dsimp only at hSw)
      first | (go_simp; done) | (go_simp; with_reducible rfl)
    (try simp only [Act.put, List.setIfInBounds_toArray, List.set_cons_zero, List.set_cons_succ])
    have P9 : (w9 : World).heap[w12.heap.size]? = some (Obj.cells #[.bool false, .slice none 0 0, .int .i64 0] 24) := g9.keepH (new_block w12 (.cells #[.bool false, .slice none 0 0, .int .i64 0] 24))
    obtain ⟨f0, f1, f2⟩ := cells_of P9
    obtain ⟨z0, z1, z2⟩ := open_of P9
    refine wpAnyH_ready (rs := [8]) (by kernel_rfl) (by simp) ?_
    refine AllReadyH.cons (o := ({ dst := none, op := Op.store 24 (Operand.tmp 9) (Operand.tmp 55), type := 0, pos := "outright.go:99", after := #[{ on := 7, ground := Ground.data }, { on := 5, ground := Ground.data }, { on := 3, ground := Ground.chain }, { on := 0, ground := Ground.phase }, { on := 1, ground := Ground.phase }, { on := 2, ground := Ground.phase }, { on := 3, ground := Ground.phase }, { on := 4, ground := Ground.phase }, { on := 5, ground := Ground.phase }, { on := 6, ground := Ground.textOnly Departure.lateStores }, { on := 7, ground := Ground.phase }], guard := none } : Oper)) rfl (fun K hK => ?_) AllReadyH.nil
    go_simp
    refine hK.out _ _ (keepBS (Nat.ne_of_lt (Nat.lt_of_lt_of_le bLlt hH2.2.size)) hH2.2.size hH3) (fun hH9 => ?_)
    clear hK K
    (try simp only [Act.put, List.setIfInBounds_toArray, List.set_cons_zero, List.set_cons_succ])
    refine wpAnyH_take (i := 9) (oi := ({ dst := some 10, op := Op.assign (Operand.tmp 56), type := 28, pos := "outright.go:99", after := #[{ on := 6, ground := Ground.data }, { on := 8, ground := Ground.chain }, { on := 0, ground := Ground.phase }, { on := 1, ground := Ground.phase }, { on := 2, ground := Ground.phase }, { on := 3, ground := Ground.phase }, { on := 4, ground := Ground.phase }, { on := 5, ground := Ground.phase }, { on := 6, ground := Ground.phase }, { on := 7, ground := Ground.phase }, { on := 8, ground := Ground.phase }], guard := none } : Oper)) (v := ?_) rfl (by kernel_rfl) (by kernel_rfl) (by kernel_rfl) (fun _ _ _ h => h) (Or.inl ⟨by rfl, ?_⟩) (by with_reducible assumption) ?_
    rotate_left
    · intro w hSw
      (try dsimp only at hSw)
      first | (go_simp; done) | (go_simp; with_reducible rfl)
    (try simp only [Act.put, List.setIfInBounds_toArray, List.set_cons_zero, List.set_cons_succ])
    refine wpAnyH_done (by kernel_rfl) ?_ _
    exact ⟨sN, aN, nN, cN, eN, aS, cS, w12.heap.size, rfl, bx_put P9 DN, hH9.2⟩
  refine AllReadyH.cons (o := ({ dst := some 9, op := Op.alloc 24, type := 0, pos := "outright.go:99", after := #[], guard := none } : Oper)) rfl (fun K hK => ?_) AllReadyH.nil
  go_simp
  refine hK.out _ _ (keepBA hHeld) (fun hH6 => ?_)
  clear hK K
  (try simp only [Act.put, List.setIfInBounds_toArray, List.set_cons_zero, List.set_cons_succ])
  refine wpAnyH_ready (rs := [2]) (by kernel_rfl) (by simp) ?_
  refine AllReadyH.cons (o := ({ dst := some 53, op := Op.call { callee := Callee.value (Operand.func 9), args := #[Operand.const (Value.bool false), Operand.const (Value.int IntKind.u64 1), Operand.tmp 52], argTypes := #[4, 33, 3] }, type := 24, pos := "outright.go:99", after := #[{ on := 1, ground := Ground.data }], guard := none } : Oper)) rfl (fun K hK => ?_) AllReadyH.nil
  go_simp
  refine (SM.out _).mono ?_
  rintro r w12 ⟨aS, cS, rfl, DS, g12⟩
  refine hK.out _ _ (keepB g12 hH6) (fun hH2 => ?_)
  clear hK K
  (try simp only [Act.put, List.setIfInBounds_toArray, List.set_cons_zero, List.set_cons_succ])
  refine wpAnyH_ready (rs := [3]) (by kernel_rfl) (by simp) ?_
  refine AllReadyH.cons (o := ({ dst := some 54, op := Op.call { callee := Callee.value (Operand.func 8), args := #[Operand.tmp 51, Operand.tmp 53], argTypes := #[24, 24] }, type := 29, pos := "outright.go:99", after := #[{ on := 0, ground := Ground.data }, { on := 2, ground := Ground.data }, { on := 2, ground := Ground.chain }], guard := none } : Oper)) rfl (fun K hK => ?_) AllReadyH.nil
  go_simp
  refine (ADD.out _ _ _ _ _ aS cS w12 hH2.2 (HLd.out.gr hH2.2) DS.out).mono ?_
  rintro r w9 ⟨sN, aN, nN, cN, eN, rfl, DN, g9⟩
  refine hK.out _ _ (keepB g9 hH2) (fun hH3 => ?_)
  clear hK K
  (try simp only [Act.put, List.setIfInBounds_toArray, List.set_cons_zero, List.set_cons_succ])
  refine wpAnyH_take (i := 4) (oi := ({ dst := some 50, op := Op.move (Operand.tmp 54), type := 29, pos := "outright.go:99", after := #[{ on := 3, ground := Ground.data }], guard := none } : Oper)) (v := ?_) rfl (by kernel_rfl) (by kernel_rfl) (by kernel_rfl) (fun _ _ _ h => h) (Or.inl ⟨by rfl, ?_⟩) (by with_reducible assumption) ?_
  rotate_left
  · intro w hSw
    (try dsimp only at hSw)
    first | (go_simp; done) | (go_simp; with_reducible rfl)
  (try simp only [Act.put, List.setIfInBounds_toArray, List.set_cons_zero, List.set_cons_succ])
  refine wpAnyH_take (i := 5) (oi := ({ dst := some 55, op := Op.extract (Operand.tmp 50) 0, type := 24, pos := "outright.go:99", after := #[{ on := 4, ground := Ground.data }], guard := none } : Oper)) (v := ?_) rfl (by kernel_rfl) (by kernel_rfl) (by kernel_rfl) (fun _ _ _ h => h) (Or.inl ⟨by rfl, ?_⟩) (by with_reducible assumption) ?_
  rotate_left
  · intro w hSw
    (try dsimp only at hSw)
    first | (go_simp; done) | (go_simp; with_reducible rfl)
  (try simp only [Act.put, List.setIfInBounds_toArray, List.set_cons_zero, List.set_cons_succ])
  refine wpAnyH_take (i := 6) (oi := ({ dst := some 56, op := Op.extract (Operand.tmp 50) 1, type := 28, pos := "outright.go:99", after := #[{ on := 4, ground := Ground.data }, { on := 8, ground := Ground.gcOnly Departure.lateStores }], guard := none } : Oper)) (v := ?_) rfl (by kernel_rfl) (by kernel_rfl) (by kernel_rfl) (fun _ _ _ h => h) (Or.inl ⟨by rfl, ?_⟩) (by with_reducible assumption) ?_
  rotate_left
  · intro w hSw
    (try dsimp only at hSw)
    first | (go_simp; done) | (go_simp; with_reducible rfl)
  (try simp only [Act.put, List.setIfInBounds_toArray, List.set_cons_zero, List.set_cons_succ])
  have P9 : (w9 : World).heap[wq.heap.size]? = some (Obj.cells #[.bool false, .slice none 0 0, .int .i64 0] 24) := g9.keepH (g12.keepH (new_block wq.drew (.cells #[.bool false, .slice none 0 0, .int .i64 0] 24)))
  obtain ⟨f0, f1, f2⟩ := cells_of P9
  obtain ⟨z0, z1, z2⟩ := open_of P9
  refine wpAnyH_ready (rs := [8]) (by kernel_rfl) (by simp) ?_
  refine AllReadyH.cons (o := ({ dst := none, op := Op.store 24 (Operand.tmp 9) (Operand.tmp 55), type := 0, pos := "outright.go:99", after := #[{ on := 7, ground := Ground.data }, { on := 5, ground := Ground.data }, { on := 3, ground := Ground.chain }, { on := 0, ground := Ground.phase }, { on := 1, ground := Ground.phase }, { on := 2, ground := Ground.phase }, { on := 3, ground := Ground.phase }, { on := 4, ground := Ground.phase }, { on := 5, ground := Ground.phase }, { on := 6, ground := Ground.textOnly Departure.lateStores }, { on := 7, ground := Ground.phase }], guard := none } : Oper)) rfl (fun K hK => ?_) AllReadyH.nil
  go_simp
  refine hK.out _ _ (keepBS (Nat.ne_of_lt (Nat.lt_of_lt_of_le bLlt (Nat.le_refl _))) (Nat.le_refl _) hH3) (fun hH9 => ?_)
  clear hK K
  (try simp only [Act.put, List.setIfInBounds_toArray, List.set_cons_zero, List.set_cons_succ])
  refine wpAnyH_take (i := 9) (oi := ({ dst := some 10, op := Op.assign (Operand.tmp 56), type := 28, pos := "outright.go:99", after := #[{ on := 6, ground := Ground.data }, { on := 8, ground := Ground.chain }, { on := 0, ground := Ground.phase }, { on := 1, ground := Ground.phase }, { on := 2, ground := Ground.phase }, { on := 3, ground := Ground.phase }, { on := 4, ground := Ground.phase }, { on := 5, ground := Ground.phase }, { on := 6, ground := Ground.phase }, { on := 7, ground := Ground.phase }, { on := 8, ground := Ground.phase }], guard := none } : Oper)) (v := ?_) rfl (by kernel_rfl) (by kernel_rfl) (by kernel_rfl) (fun _ _ _ h => h) (Or.inl ⟨by rfl, ?_⟩) (by with_reducible assumption) ?_
  rotate_left
  · intro w hSw
    (try dsimp only at hSw)
    first | (go_simp; done) | (go_simp; with_reducible rfl)
  (try simp only [Act.put, List.setIfInBounds_toArray, List.set_cons_zero, List.set_cons_succ])
  refine wpAnyH_done (by kernel_rfl) ?_ _
  exact ⟨sN, aN, nN, cN, eN, aS, cS, wq.heap.size, rfl, bx_put P9 DN, hH9.2⟩
end Go.Proofs.YtaofmkgfnhonaaaDoor
