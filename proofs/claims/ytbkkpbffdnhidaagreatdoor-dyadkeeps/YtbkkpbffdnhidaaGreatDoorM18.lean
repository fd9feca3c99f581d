import Derived.Test.YtbkkpbffdnhidaaGreatDoorM17
import Derived.Deep.RegionHeld3
namespace Go.Proofs.YtbkkpbffdnhidaaGreatDoor
open Go.RowKit
set_option linter.unusedVariables false
set_option linter.unusedSimpArgs false

theorem new_block (w : World) (o : Obj) : (w.alloc o).heap[w.heap.size]? = some o := by
  show (w.heap.push _)[w.heap.size]? = _
  simp
theorem keepS6 {W wo : World} {p q B2 : Nat} {a0 a1 a2 b0 b1 b2 v0 v1 v2 : Value} (hp : p ≠ B2) (hq : q ≠ B2) (hle : W.heap.size ≤ B2) (h : (wo.cell? ⟨p, 0, none⟩ = some a0 ∧ wo.cell? ⟨p, 1, none⟩ = some a1 ∧ wo.cell? ⟨p, 2, none⟩ = some a2 ∧ wo.cell? ⟨q, 0, none⟩ = some b0 ∧ wo.cell? ⟨q, 1, none⟩ = some b1 ∧ wo.cell? ⟨q, 2, none⟩ = some b2) ∧ Gr W wo) :
    ((((wo.setCell ⟨B2, 0, none⟩ v0).setCell ⟨B2, 1, none⟩ v1).setCell ⟨B2, 2, none⟩ v2).cell? ⟨p, 0, none⟩ = some a0 ∧ (((wo.setCell ⟨B2, 0, none⟩ v0).setCell ⟨B2, 1, none⟩ v1).setCell ⟨B2, 2, none⟩ v2).cell? ⟨p, 1, none⟩ = some a1 ∧ (((wo.setCell ⟨B2, 0, none⟩ v0).setCell ⟨B2, 1, none⟩ v1).setCell ⟨B2, 2, none⟩ v2).cell? ⟨p, 2, none⟩ = some a2 ∧ (((wo.setCell ⟨B2, 0, none⟩ v0).setCell ⟨B2, 1, none⟩ v1).setCell ⟨B2, 2, none⟩ v2).cell? ⟨q, 0, none⟩ = some b0 ∧ (((wo.setCell ⟨B2, 0, none⟩ v0).setCell ⟨B2, 1, none⟩ v1).setCell ⟨B2, 2, none⟩ v2).cell? ⟨q, 1, none⟩ = some b1 ∧ (((wo.setCell ⟨B2, 0, none⟩ v0).setCell ⟨B2, 1, none⟩ v1).setCell ⟨B2, 2, none⟩ v2).cell? ⟨q, 2, none⟩ = some b2) ∧ Gr W (((wo.setCell ⟨B2, 0, none⟩ v0).setCell ⟨B2, 1, none⟩ v1).setCell ⟨B2, 2, none⟩ v2) :=
  ⟨⟨set3_far (Ne.symm hp) h.1.1, set3_far (Ne.symm hp) h.1.2.1, set3_far (Ne.symm hp) h.1.2.2.1, set3_far (Ne.symm hq) h.1.2.2.2.1, set3_far (Ne.symm hq) h.1.2.2.2.2.1, set3_far (Ne.symm hq) h.1.2.2.2.2.2⟩, ((h.2.setCell (p := ⟨B2, 0, none⟩) hle _).setCell (p := ⟨B2, 1, none⟩) hle _).setCell (p := ⟨B2, 2, none⟩) hle _⟩
theorem set3_block {w : World} {b : Nat} {c0 c1 c2 : Value} {T : TypeId} {fr : Nat × Nat} (h : w.heap[b]? = some (.cells #[c0, c1, c2] T fr)) (v0 v1 v2 : Value) : (((w.setCell ⟨b, 0, none⟩ v0).setCell ⟨b, 1, none⟩ v1).setCell ⟨b, 2, none⟩ v2).heap[b]? = some (.cells #[v0, v1, v2] T fr) := by
  rw [set_at (set_at (set_at h v0) v1) v2]
  rfl
theorem set3_other {w : World} {b k : Nat} (hk : k ≠ b) (v0 v1 v2 : Value) : (((w.setCell ⟨b, 0, none⟩ v0).setCell ⟨b, 1, none⟩ v1).setCell ⟨b, 2, none⟩ v2).heap[k]? = w.heap[k]? := by
  rw [Below.heap_setCell _ _ _ _ hk, Below.heap_setCell _ _ _ _ hk, Below.heap_setCell _ _ _ _ hk]
theorem set3_owns {w : World} {B : Nat} {e : TypeId} {size : Nat} {v : Value} {n : Nat} {xs : List Value} (h : w.ownsRow B e size v n xs) {b : Nat} (hb : v.ownBlock ≠ some b) (v0 v1 v2 : Value) : (((w.setCell ⟨b, 0, none⟩ v0).setCell ⟨b, 1, none⟩ v1).setCell ⟨b, 2, none⟩ v2).ownsRow B e size v n xs := owns_far (owns_far (owns_far h hb _ _) hb _ _) hb _ _
/-- what region 4 leaves: both dyads lent, each in a box of its own -/
def R4 (t0 t1 t2 t5 t6 t7 t8 t9 t10 t11 t12 t13 t14 t15 t16 t17 t18 t19 t20 t21 t22 t23 t24 t25 t26 t27 t28 t29 t30 t31 t32 t33 t34 t35 t36 t37 t38 t39 t40 t41 t42 t43 t44 t45 t46 t47 t48 t49 t50 t51 t52 t53 t54 t55 t56 t57 t58 t59 t60 t61 t62 t63 t64 t65 t66 t67 t68 t69 t70 t71 t72 t73 t74 t75 t76 t77 t78 t79 t80 t81 t82 t83 t84 t85 t86 t87 t88 t89 t90 t91 t92 t93 t94 t95 t96 t97 t98 t99 t100 t101 t102 t103 t104 t105 t106 t107 t108 t109 t110 t111 t112 t113 t114 t115 t116 t117 t118 t119 t120 t121 t122 t123 t124 t125 t126 t127 t128 t129 t130 t131 t132 t133 t134 t135 t136 t137 t138 t139 t140 t141 t142 t143 t144 t145 t146 t147 t148 t149 t150 t151 t152 t153 t154 t155 t156 t157 t158 t159 : Value) (s t : Bool) (ad1 ad2 : Option Addr) (n1 n2 c1 c2 : Nat) (e f : Int) (xs ys : List Nat) (pa pb : Nat) (wq : World) : Exit → Act → World → Prop
  | .normal, a, w => ∃ gx gy bx bz, a = { tmps := #[t0, t1, t2, .pointer (some ⟨pa, 0, none⟩), .pointer (some ⟨pb, 0, none⟩), t5, t6, .pointer (some ⟨bx, 0, none⟩), .pointer (some ⟨bz, 0, none⟩), t9, t10, t11, t12, t13, t14, t15, t16, t17, t18, t19, t20, t21, t22, t23, t24, t25, t26, t27, t28, t29, t30, t31, t32, t33, t34, t35, t36, t37, t38, .agg #[.bool s, .slice ad1 n1 c1, .int .i64 e], .agg #[.bool s, .slice (some ⟨gx, 0, none⟩) n1 (n1 + 12), .int .i64 e], .agg #[.bool t, .slice ad2 n2 c2, .int .i64 f], .agg #[.bool t, .slice (some ⟨gy, 0, none⟩) n2 (n2 + 12), .int .i64 f], t43, t44, t45, t46, t47, t48, t49, t50, t51, t52, t53, t54, t55, t56, t57, t58, t59, t60, t61, t62, t63, t64, t65, t66, t67, t68, t69, t70, t71, t72, t73, t74, t75, t76, t77, t78, t79, t80, t81, t82, t83, t84, t85, t86, t87, t88, t89, t90, t91, t92, t93, t94, t95, t96, t97, t98, t99, t100, t101, t102, t103, t104, t105, t106, t107, t108, t109, t110, t111, t112, t113, t114, t115, t116, t117, t118, t119, t120, t121, t122, t123, t124, t125, t126, t127, t128, t129, t130, t131, t132, t133, t134, t135, t136, t137, t138, t139, t140, t141, t142, t143, t144, t145, t146, t147, t148, t149, t150, t151, t152, t153, t154, t155, t156, t157, t158, t159], defers := [] } ∧ w.ownsRow wq.heap.size 49 1 (.slice (some ⟨gx, 0, none⟩) (n1 + 12) (n1 + 12)) (n1 + 12) (u64s (xs ++ ml 1 12)) ∧ w.ownsRow wq.heap.size 49 1 (.slice (some ⟨gy, 0, none⟩) (n2 + 12) (n2 + 12)) (n2 + 12) (u64s (ys ++ ml 1 12)) ∧ w.heap[bx]? = some (.cells #[.bool s, .slice (some ⟨gx, 0, none⟩) n1 (n1 + 12), .int .i64 e] 24) ∧ w.heap[bz]? = some (.cells #[.bool t, .slice (some ⟨gy, 0, none⟩) n2 (n2 + 12), .int .i64 f] 24) ∧ gx ≠ gy ∧ wq.heap.size ≤ bx ∧ wq.heap.size ≤ bz ∧ Gr wq w
  | _, _, _ => False
set_option maxRecDepth 100000 in
set_option maxHeartbeats 40000000 in
theorem reg4 (t0 t1 t2 t5 t6 t7 t8 t9 t10 t11 t12 t13 t14 t15 t16 t17 t18 t19 t20 t21 t22 t23 t24 t25 t26 t27 t28 t29 t30 t31 t32 t33 t34 t35 t36 t37 t38 t39 t40 t41 t42 t43 t44 t45 t46 t47 t48 t49 t50 t51 t52 t53 t54 t55 t56 t57 t58 t59 t60 t61 t62 t63 t64 t65 t66 t67 t68 t69 t70 t71 t72 t73 t74 t75 t76 t77 t78 t79 t80 t81 t82 t83 t84 t85 t86 t87 t88 t89 t90 t91 t92 t93 t94 t95 t96 t97 t98 t99 t100 t101 t102 t103 t104 t105 t106 t107 t108 t109 t110 t111 t112 t113 t114 t115 t116 t117 t118 t119 t120 t121 t122 t123 t124 t125 t126 t127 t128 t129 t130 t131 t132 t133 t134 t135 t136 t137 t138 t139 t140 t141 t142 t143 t144 t145 t146 t147 t148 t149 t150 t151 t152 t153 t154 t155 t156 t157 t158 t159 : Value) (s t : Bool) (ad1 ad2 : Option Addr) (n1 n2 c1 c2 : Nat) (e f : Int) (xs ys : List Nat) (pa pb : Nat) (wq : World)
    (LX : Hid (∀ w1, Gr wq w1 → Calls Tryz.prog 8 #[.agg #[.bool s, .slice ad1 n1 c1, .int .i64 e]] w1 fun r w' => ∃ g, r = .returned (.agg #[.bool s, .slice (some ⟨g, 0, none⟩) n1 (n1 + 12), .int .i64 e]) ∧ w'.ownsRow w1.heap.size 49 1 (.slice (some ⟨g, 0, none⟩) (n1 + 12) (n1 + 12)) (n1 + 12) (u64s (xs ++ ml 1 12)) ∧ Gr w1 w'))
    (LY : Hid (∀ w1, Gr wq w1 → Calls Tryz.prog 8 #[.agg #[.bool t, .slice ad2 n2 c2, .int .i64 f]] w1 fun r w' => ∃ g, r = .returned (.agg #[.bool t, .slice (some ⟨g, 0, none⟩) n2 (n2 + 12), .int .i64 f]) ∧ w'.ownsRow w1.heap.size 49 1 (.slice (some ⟨g, 0, none⟩) (n2 + 12) (n2 + 12)) (n2 + 12) (u64s (ys ++ ml 1 12)) ∧ Gr w1 w'))
    (a0 : wq.cell? ⟨pa, 0, none⟩ = some (.bool s)) (a1 : wq.cell? ⟨pa, 1, none⟩ = some (.slice ad1 n1 c1)) (a2 : wq.cell? ⟨pa, 2, none⟩ = some (.int .i64 e)) (b0 : wq.cell? ⟨pb, 0, none⟩ = some (.bool t)) (b1 : wq.cell? ⟨pb, 1, none⟩ = some (.slice ad2 n2 c2)) (b2 : wq.cell? ⟨pb, 2, none⟩ = some (.int .i64 f)) :
    Code.wp Tryz.prog (Code.region 4 #[{ dst := some 39, op := Op.load 24 (Operand.tmp 3), type := 24, pos := "law.go:115", after := #[], guard := none }, { dst := some 40, op := Op.call { callee := Callee.value (Operand.func 8), args := #[Operand.tmp 39], argTypes := #[24] }, type := 24, pos := "law.go:115", after := #[{ on := 0, ground := Ground.data }], guard := none }, { dst := some 41, op := Op.load 24 (Operand.tmp 4), type := 24, pos := "law.go:115", after := #[], guard := none }, { dst := some 42, op := Op.call { callee := Callee.value (Operand.func 8), args := #[Operand.tmp 41], argTypes := #[24] }, type := 24, pos := "law.go:115", after := #[{ on := 2, ground := Ground.data }, { on := 1, ground := Ground.chain }], guard := none }, { dst := some 7, op := Op.alloc 24, type := 0, pos := "law.go:115", after := #[], guard := none }, { dst := some 8, op := Op.alloc 24, type := 0, pos := "law.go:115", after := #[], guard := none }, { dst := none, op := Op.store 24 (Operand.tmp 7) (Operand.tmp 40), type := 0, pos := "law.go:115", after := #[{ on := 4, ground := Ground.data }, { on := 1, ground := Ground.data }, { on := 3, ground := Ground.chain }, { on := 0, ground := Ground.phase }, { on := 1, ground := Ground.phase }, { on := 2, ground := Ground.textOnly Departure.lateStores }, { on := 3, ground := Ground.textOnly Departure.lateStoresUnsure }, { on := 4, ground := Ground.phase }, { on := 5, ground := Ground.phase }], guard := none }, { dst := none, op := Op.store 24 (Operand.tmp 8) (Operand.tmp 42), type := 0, pos := "law.go:115", after := #[{ on := 5, ground := Ground.data }, { on := 3, ground := Ground.data }, { on := 6, ground := Ground.chain }, { on := 0, ground := Ground.phase }, { on := 1, ground := Ground.phase }, { on := 2, ground := Ground.phase }, { on := 3, ground := Ground.phase }, { on := 4, ground := Ground.phase }, { on := 5, ground := Ground.phase }, { on := 6, ground := Ground.phase }], guard := none }] true) (R4 t0 t1 t2 t5 t6 t7 t8 t9 t10 t11 t12 t13 t14 t15 t16 t17 t18 t19 t20 t21 t22 t23 t24 t25 t26 t27 t28 t29 t30 t31 t32 t33 t34 t35 t36 t37 t38 t39 t40 t41 t42 t43 t44 t45 t46 t47 t48 t49 t50 t51 t52 t53 t54 t55 t56 t57 t58 t59 t60 t61 t62 t63 t64 t65 t66 t67 t68 t69 t70 t71 t72 t73 t74 t75 t76 t77 t78 t79 t80 t81 t82 t83 t84 t85 t86 t87 t88 t89 t90 t91 t92 t93 t94 t95 t96 t97 t98 t99 t100 t101 t102 t103 t104 t105 t106 t107 t108 t109 t110 t111 t112 t113 t114 t115 t116 t117 t118 t119 t120 t121 t122 t123 t124 t125 t126 t127 t128 t129 t130 t131 t132 t133 t134 t135 t136 t137 t138 t139 t140 t141 t142 t143 t144 t145 t146 t147 t148 t149 t150 t151 t152 t153 t154 t155 t156 t157 t158 t159 s t ad1 ad2 n1 n2 c1 c2 e f xs ys pa pb wq) { tmps := #[t0, t1, t2, .pointer (some ⟨pa, 0, none⟩), .pointer (some ⟨pb, 0, none⟩), t5, t6, t7, t8, t9, t10, t11, t12, t13, t14, t15, t16, t17, t18, t19, t20, t21, t22, t23, t24, t25, t26, t27, t28, t29, t30, t31, t32, t33, t34, t35, t36, t37, t38, t39, t40, t41, t42, t43, t44, t45, t46, t47, t48, t49, t50, t51, t52, t53, t54, t55, t56, t57, t58, t59, t60, t61, t62, t63, t64, t65, t66, t67, t68, t69, t70, t71, t72, t73, t74, t75, t76, t77, t78, t79, t80, t81, t82, t83, t84, t85, t86, t87, t88, t89, t90, t91, t92, t93, t94, t95, t96, t97, t98, t99, t100, t101, t102, t103, t104, t105, t106, t107, t108, t109, t110, t111, t112, t113, t114, t115, t116, t117, t118, t119, t120, t121, t122, t123, t124, t125, t126, t127, t128, t129, t130, t131, t132, t133, t134, t135, t136, t137, t138, t139, t140, t141, t142, t143, t144, t145, t146, t147, t148, t149, t150, t151, t152, t153, t154, t155, t156, t157, t158, t159], defers := [] } wq := by
  have pal : pa < wq.heap.size := lt_of_cell' a0
  have pbl : pb < wq.heap.size := lt_of_cell' b0
  have hS0 : (wq.drew.cell? ⟨pa, 0, none⟩ = some (.bool s) ∧ wq.drew.cell? ⟨pa, 1, none⟩ = some (.slice ad1 n1 c1) ∧ wq.drew.cell? ⟨pa, 2, none⟩ = some (.int .i64 e) ∧ wq.drew.cell? ⟨pb, 0, none⟩ = some (.bool t) ∧ wq.drew.cell? ⟨pb, 1, none⟩ = some (.slice ad2 n2 c2) ∧ wq.drew.cell? ⟨pb, 2, none⟩ = some (.int .i64 f)) ∧ Gr wq wq.drew := ⟨⟨a0, a1, a2, b0, b1, b2⟩, (Gr.refl wq).drew⟩
  clear a0 a1 a2 b0 b1 b2
  refine wp_region_held_drew (S := fun w' => (w'.cell? ⟨pa, 0, none⟩ = some (.bool s) ∧ w'.cell? ⟨pa, 1, none⟩ = some (.slice ad1 n1 c1) ∧ w'.cell? ⟨pa, 2, none⟩ = some (.int .i64 e) ∧ w'.cell? ⟨pb, 0, none⟩ = some (.bool t) ∧ w'.cell? ⟨pb, 1, none⟩ = some (.slice ad2 n2 c2) ∧ w'.cell? ⟨pb, 2, none⟩ = some (.int .i64 f)) ∧ Gr wq w') (by kernel_rfl) hS0 (fun hHeld => ?_)
  clear hS0
  generalize wq.drew = wd at *
  refine wpAnyH_take (i := 0) (oi := ({ dst := some 39, op := Op.load 24 (Operand.tmp 3), type := 24, pos := "law.go:115", after := #[], guard := none } : Oper)) (v := ?_) rfl (by kernel_rfl) (by kernel_rfl) (by kernel_rfl) (fun _ _ _ h => h) (Or.inl ⟨by rfl, ?_⟩) (by with_reducible assumption) ?_
  rotate_left
  · intro w hSw
    (try dsimp only at hSw)
    first | (go_simp; done) | (go_simp; with_reducible rfl)
  (try simp only [Act.put, List.setIfInBounds_toArray, List.set_cons_zero, List.set_cons_succ])
  refine wpAnyH_take (i := 2) (oi := ({ dst := some 41, op := Op.load 24 (Operand.tmp 4), type := 24, pos := "law.go:115", after := #[], guard := none } : Oper)) (v := ?_) rfl (by kernel_rfl) (by kernel_rfl) (by kernel_rfl) (fun _ _ _ h => h) (Or.inl ⟨by rfl, ?_⟩) (by with_reducible assumption) ?_
  rotate_left
  · intro w hSw
    (try dsimp only at hSw)
    first | (go_simp; done) | (go_simp; with_reducible rfl)
  (try simp only [Act.put, List.setIfInBounds_toArray, List.set_cons_zero, List.set_cons_succ])
  refine wpAnyH_ready (rs := [1, 4, 5]) (by kernel_rfl) (by simp) ?_
  refine AllReadyH.cons (o := ({ dst := some 40, op := Op.call { callee := Callee.value (Operand.func 8), args := #[Operand.tmp 39], argTypes := #[24] }, type := 24, pos := "law.go:115", after := #[{ on := 0, ground := Ground.data }], guard := none } : Oper)) rfl (fun K hK => ?_) ?_
  · go_simp
    refine (LX.out _ hHeld.2).mono ?_
    rintro r wc1 ⟨gx, rfl, ho4, gg3⟩
    refine hK.out _ _ (keep6 gg3 hHeld) (fun hH2 => ?_)
    clear hK K
    (try simp only [Act.put, List.setIfInBounds_toArray, List.set_cons_zero, List.set_cons_succ])
    have o1_5 := owns_low ho4 hHeld.2.size
    clear ho4
    refine wpAnyH_ready (rs := [3, 4, 5]) (by kernel_rfl) (by simp) ?_
    refine AllReadyH.cons (o := ({ dst := some 42, op := Op.call { callee := Callee.value (Operand.func 8), args := #[Operand.tmp 41], argTypes := #[24] }, type := 24, pos := "law.go:115", after := #[{ on := 2, ground := Ground.data }, { on := 1, ground := Ground.chain }], guard := none } : Oper)) rfl (fun K hK => ?_) ?_
    · go_simp
      refine (LY.out _ hH2.2).mono ?_
      rintro r wc6 ⟨gy, rfl, ho9, gg8⟩
      refine hK.out _ _ (keep6 gg8 hH2) (fun hH7 => ?_)
      clear hK K
      (try simp only [Act.put, List.setIfInBounds_toArray, List.set_cons_zero, List.set_cons_succ])
      have hgxy : gx < gy := Nat.lt_of_lt_of_le (o1_5.lt gx rfl).2 (ho9.lt gy rfl).1
      have o1_10 := gg8.owns o1_5
      clear o1_5
      have o3_11 := owns_low ho9 hH2.2.size
      clear ho9
      refine wpAnyH_ready (rs := [4, 5]) (by kernel_rfl) (by simp) ?_
      refine AllReadyH.cons (o := ({ dst := some 7, op := Op.alloc 24, type := 0, pos := "law.go:115", after := #[], guard := none } : Oper)) rfl (fun K hK => ?_) ?_
      · go_simp
        refine hK.out _ _ (keep6 ((Gr.refl _).alloc _) hH7) (fun hH13 => ?_)
        clear hK K
        (try simp only [Act.put, List.setIfInBounds_toArray, List.set_cons_zero, List.set_cons_succ])
        have b4_15 := new_block wc6 (.cells #[.bool false, .slice none 0 0, .int .i64 0] 24)
        have gg14 := (Gr.refl wc6).alloc (.cells #[.bool false, .slice none 0 0, .int .i64 0] 24)
        have lb416 := hH7.2.size
        have o1_17 := gg14.owns o1_10
        clear o1_10
        have o3_18 := gg14.owns o3_11
        clear o3_11
        generalize wc6.alloc (.cells #[.bool false, .slice none 0 0, .int .i64 0] 24) = wa12 at *
        refine wpAnyH_ready (rs := [5]) (by kernel_rfl) (by simp) ?_
        refine AllReadyH.cons (o := ({ dst := some 8, op := Op.alloc 24, type := 0, pos := "law.go:115", after := #[], guard := none } : Oper)) rfl (fun K hK => ?_) AllReadyH.nil
        go_simp
        refine hK.out _ _ (keep6 ((Gr.refl _).alloc _) hH13) (fun hH20 => ?_)
        clear hK K
        (try simp only [Act.put, List.setIfInBounds_toArray, List.set_cons_zero, List.set_cons_succ])
        have b5_22 := new_block wa12 (.cells #[.bool false, .slice none 0 0, .int .i64 0] 24)
        have gg21 := (Gr.refl wa12).alloc (.cells #[.bool false, .slice none 0 0, .int .i64 0] 24)
        have lb523 := hH13.2.size
        have hne : wc6.heap.size ≠ wa12.heap.size := Nat.ne_of_lt (lt_of_heap b4_15)
        have o1_24 := gg21.owns o1_17
        clear o1_17
        have o3_25 := gg21.owns o3_18
        clear o3_18
        have b4_26 := gg21.keepH b4_15
        clear b4_15
        generalize wa12.alloc (.cells #[.bool false, .slice none 0 0, .int .i64 0] 24) = wa19 at *
        obtain ⟨t0', t1', t2', u0', u1', u2'⟩ := Out3.of b4_26
        refine wpAnyH_ready (rs := [6]) (by kernel_rfl) (by simp) ?_
        refine AllReadyH.cons (o := ({ dst := none, op := Op.store 24 (Operand.tmp 7) (Operand.tmp 40), type := 0, pos := "law.go:115", after := #[{ on := 4, ground := Ground.data }, { on := 1, ground := Ground.data }, { on := 3, ground := Ground.chain }, { on := 0, ground := Ground.phase }, { on := 1, ground := Ground.phase }, { on := 2, ground := Ground.textOnly Departure.lateStores }, { on := 3, ground := Ground.textOnly Departure.lateStoresUnsure }, { on := 4, ground := Ground.phase }, { on := 5, ground := Ground.phase }], guard := none } : Oper)) rfl (fun K hK => ?_) AllReadyH.nil
        go_simp
        refine hK.out _ _ (keepS6 (Nat.ne_of_lt (Nat.lt_of_lt_of_le pal lb416)) (Nat.ne_of_lt (Nat.lt_of_lt_of_le pbl lb416)) lb416 hH20) (fun hS6 => ?_)
        clear hK K t0' t1' t2' u0' u1' u2'
        (try simp only [Act.put, List.setIfInBounds_toArray, List.set_cons_zero, List.set_cons_succ])
        have p4 := set3_block b4_26 (.bool s) (.slice (some ⟨gx, 0, none⟩) n1 (n1 + 12)) (.int .i64 e)
        have p5 := (set3_other (Ne.symm hne) (.bool s) (.slice (some ⟨gx, 0, none⟩) n1 (n1 + 12)) (.int .i64 e)).trans b5_22
        have q1 := set3_owns o1_24 (owns_nebag o1_24 b4_26 (by decide)) (.bool s) (.slice (some ⟨gx, 0, none⟩) n1 (n1 + 12)) (.int .i64 e)
        have q3 := set3_owns o3_25 (owns_nebag o3_25 b4_26 (by decide)) (.bool s) (.slice (some ⟨gx, 0, none⟩) n1 (n1 + 12)) (.int .i64 e)
        generalize (((wa19.setCell ⟨wc6.heap.size, 0, none⟩ (.bool s)).setCell ⟨wc6.heap.size, 1, none⟩ (.slice (some ⟨gx, 0, none⟩) n1 (n1 + 12))).setCell ⟨wc6.heap.size, 2, none⟩ (.int .i64 e)) = ws at *
        obtain ⟨t0', t1', t2', u0', u1', u2'⟩ := Out3.of p5
        refine wpAnyH_ready (rs := [7]) (by kernel_rfl) (by simp) ?_
        refine AllReadyH.cons (o := ({ dst := none, op := Op.store 24 (Operand.tmp 8) (Operand.tmp 42), type := 0, pos := "law.go:115", after := #[{ on := 5, ground := Ground.data }, { on := 3, ground := Ground.data }, { on := 6, ground := Ground.chain }, { on := 0, ground := Ground.phase }, { on := 1, ground := Ground.phase }, { on := 2, ground := Ground.phase }, { on := 3, ground := Ground.phase }, { on := 4, ground := Ground.phase }, { on := 5, ground := Ground.phase }, { on := 6, ground := Ground.phase }], guard := none } : Oper)) rfl (fun K hK => ?_) AllReadyH.nil
        go_simp
        refine hK.out _ _ (keepS6 (Nat.ne_of_lt (Nat.lt_of_lt_of_le pal lb523)) (Nat.ne_of_lt (Nat.lt_of_lt_of_le pbl lb523)) lb523 hS6) (fun hS7 => ?_)
        clear hK K t0' t1' t2' u0' u1' u2'
        (try simp only [Act.put, List.setIfInBounds_toArray, List.set_cons_zero, List.set_cons_succ])
        refine wpAnyH_done (by kernel_rfl) ?_ _
        exact ⟨gx, gy, wc6.heap.size, wa12.heap.size, rfl, set3_owns q1 (owns_nebag q1 p5 (by decide)) _ _ _, set3_owns q3 (owns_nebag q3 p5 (by decide)) _ _ _, (set3_other hne _ _ _).trans p4, set3_block p5 _ _ _, Nat.ne_of_lt hgxy, lb416, lb523, hS7.2⟩
      refine AllReadyH.cons (o := ({ dst := some 8, op := Op.alloc 24, type := 0, pos := "law.go:115", after := #[], guard := none } : Oper)) rfl (fun K hK => ?_) AllReadyH.nil
      go_simp
      refine hK.out _ _ (keep6 ((Gr.refl _).alloc _) hH7) (fun hH28 => ?_)
      clear hK K
      (try simp only [Act.put, List.setIfInBounds_toArray, List.set_cons_zero, List.set_cons_succ])
      have b5_30 := new_block wc6 (.cells #[.bool false, .slice none 0 0, .int .i64 0] 24)
      have gg29 := (Gr.refl wc6).alloc (.cells #[.bool false, .slice none 0 0, .int .i64 0] 24)
      have lb531 := hH7.2.size
      have o1_32 := gg29.owns o1_10
      clear o1_10
      have o3_33 := gg29.owns o3_11
      clear o3_11
      generalize wc6.alloc (.cells #[.bool false, .slice none 0 0, .int .i64 0] 24) = wa27 at *
      refine wpAnyH_ready (rs := [4]) (by kernel_rfl) (by simp) ?_
      refine AllReadyH.cons (o := ({ dst := some 7, op := Op.alloc 24, type := 0, pos := "law.go:115", after := #[], guard := none } : Oper)) rfl (fun K hK => ?_) AllReadyH.nil
      go_simp
      refine hK.out _ _ (keep6 ((Gr.refl _).alloc _) hH28) (fun hH35 => ?_)
      clear hK K
      (try simp only [Act.put, List.setIfInBounds_toArray, List.set_cons_zero, List.set_cons_succ])
      have b4_37 := new_block wa27 (.cells #[.bool false, .slice none 0 0, .int .i64 0] 24)
      have gg36 := (Gr.refl wa27).alloc (.cells #[.bool false, .slice none 0 0, .int .i64 0] 24)
      have lb438 := hH28.2.size
      have hne : wc6.heap.size ≠ wa27.heap.size := Nat.ne_of_lt (lt_of_heap b5_30)
      have o1_39 := gg36.owns o1_32
      clear o1_32
      have o3_40 := gg36.owns o3_33
      clear o3_33
      have b5_41 := gg36.keepH b5_30
      clear b5_30
      generalize wa27.alloc (.cells #[.bool false, .slice none 0 0, .int .i64 0] 24) = wa34 at *
      obtain ⟨t0', t1', t2', u0', u1', u2'⟩ := Out3.of b4_37
      refine wpAnyH_ready (rs := [6]) (by kernel_rfl) (by simp) ?_
      refine AllReadyH.cons (o := ({ dst := none, op := Op.store 24 (Operand.tmp 7) (Operand.tmp 40), type := 0, pos := "law.go:115", after := #[{ on := 4, ground := Ground.data }, { on := 1, ground := Ground.data }, { on := 3, ground := Ground.chain }, { on := 0, ground := Ground.phase }, { on := 1, ground := Ground.phase }, { on := 2, ground := Ground.textOnly Departure.lateStores }, { on := 3, ground := Ground.textOnly Departure.lateStoresUnsure }, { on := 4, ground := Ground.phase }, { on := 5, ground := Ground.phase }], guard := none } : Oper)) rfl (fun K hK => ?_) AllReadyH.nil
      go_simp
      refine hK.out _ _ (keepS6 (Nat.ne_of_lt (Nat.lt_of_lt_of_le pal lb438)) (Nat.ne_of_lt (Nat.lt_of_lt_of_le pbl lb438)) lb438 hH35) (fun hS6 => ?_)
      clear hK K t0' t1' t2' u0' u1' u2'
      (try simp only [Act.put, List.setIfInBounds_toArray, List.set_cons_zero, List.set_cons_succ])
      have p4 := set3_block b4_37 (.bool s) (.slice (some ⟨gx, 0, none⟩) n1 (n1 + 12)) (.int .i64 e)
      have p5 := (set3_other (Ne.symm (Ne.symm hne)) (.bool s) (.slice (some ⟨gx, 0, none⟩) n1 (n1 + 12)) (.int .i64 e)).trans b5_41
      have q1 := set3_owns o1_39 (owns_nebag o1_39 b4_37 (by decide)) (.bool s) (.slice (some ⟨gx, 0, none⟩) n1 (n1 + 12)) (.int .i64 e)
      have q3 := set3_owns o3_40 (owns_nebag o3_40 b4_37 (by decide)) (.bool s) (.slice (some ⟨gx, 0, none⟩) n1 (n1 + 12)) (.int .i64 e)
      generalize (((wa34.setCell ⟨wa27.heap.size, 0, none⟩ (.bool s)).setCell ⟨wa27.heap.size, 1, none⟩ (.slice (some ⟨gx, 0, none⟩) n1 (n1 + 12))).setCell ⟨wa27.heap.size, 2, none⟩ (.int .i64 e)) = ws at *
      obtain ⟨t0', t1', t2', u0', u1', u2'⟩ := Out3.of p5
      refine wpAnyH_ready (rs := [7]) (by kernel_rfl) (by simp) ?_
      refine AllReadyH.cons (o := ({ dst := none, op := Op.store 24 (Operand.tmp 8) (Operand.tmp 42), type := 0, pos := "law.go:115", after := #[{ on := 5, ground := Ground.data }, { on := 3, ground := Ground.data }, { on := 6, ground := Ground.chain }, { on := 0, ground := Ground.phase }, { on := 1, ground := Ground.phase }, { on := 2, ground := Ground.phase }, { on := 3, ground := Ground.phase }, { on := 4, ground := Ground.phase }, { on := 5, ground := Ground.phase }, { on := 6, ground := Ground.phase }], guard := none } : Oper)) rfl (fun K hK => ?_) AllReadyH.nil
      go_simp
      refine hK.out _ _ (keepS6 (Nat.ne_of_lt (Nat.lt_of_lt_of_le pal lb531)) (Nat.ne_of_lt (Nat.lt_of_lt_of_le pbl lb531)) lb531 hS6) (fun hS7 => ?_)
      clear hK K t0' t1' t2' u0' u1' u2'
      (try simp only [Act.put, List.setIfInBounds_toArray, List.set_cons_zero, List.set_cons_succ])
      refine wpAnyH_done (by kernel_rfl) ?_ _
      exact ⟨gx, gy, wa27.heap.size, wc6.heap.size, rfl, set3_owns q1 (owns_nebag q1 p5 (by decide)) _ _ _, set3_owns q3 (owns_nebag q3 p5 (by decide)) _ _ _, (set3_other (Ne.symm hne) _ _ _).trans p4, set3_block p5 _ _ _, Nat.ne_of_lt hgxy, lb438, lb531, hS7.2⟩
    refine AllReadyH.cons (o := ({ dst := some 7, op := Op.alloc 24, type := 0, pos := "law.go:115", after := #[], guard := none } : Oper)) rfl (fun K hK => ?_) ?_
    · go_simp
      refine hK.out _ _ (keep6 ((Gr.refl _).alloc _) hH2) (fun hH43 => ?_)
      clear hK K
      (try simp only [Act.put, List.setIfInBounds_toArray, List.set_cons_zero, List.set_cons_succ])
      have b4_45 := new_block wc1 (.cells #[.bool false, .slice none 0 0, .int .i64 0] 24)
      have gg44 := (Gr.refl wc1).alloc (.cells #[.bool false, .slice none 0 0, .int .i64 0] 24)
      have lb446 := hH2.2.size
      have o1_47 := gg44.owns o1_5
      clear o1_5
      generalize wc1.alloc (.cells #[.bool false, .slice none 0 0, .int .i64 0] 24) = wa42 at *
      refine wpAnyH_ready (rs := [3, 5]) (by kernel_rfl) (by simp) ?_
      refine AllReadyH.cons (o := ({ dst := some 42, op := Op.call { callee := Callee.value (Operand.func 8), args := #[Operand.tmp 41], argTypes := #[24] }, type := 24, pos := "law.go:115", after := #[{ on := 2, ground := Ground.data }, { on := 1, ground := Ground.chain }], guard := none } : Oper)) rfl (fun K hK => ?_) ?_
      · go_simp
        refine (LY.out _ hH43.2).mono ?_
        rintro r wc48 ⟨gy, rfl, ho51, gg50⟩
        refine hK.out _ _ (keep6 gg50 hH43) (fun hH49 => ?_)
        clear hK K
        (try simp only [Act.put, List.setIfInBounds_toArray, List.set_cons_zero, List.set_cons_succ])
        have hgxy : gx < gy := Nat.lt_of_lt_of_le (o1_47.lt gx rfl).2 (ho51.lt gy rfl).1
        have o1_52 := gg50.owns o1_47
        clear o1_47
        have b4_53 := gg50.keepH b4_45
        clear b4_45
        have o3_54 := owns_low ho51 hH43.2.size
        clear ho51
        refine wpAnyH_ready (rs := [5]) (by kernel_rfl) (by simp) ?_
        refine AllReadyH.cons (o := ({ dst := some 8, op := Op.alloc 24, type := 0, pos := "law.go:115", after := #[], guard := none } : Oper)) rfl (fun K hK => ?_) AllReadyH.nil
        go_simp
        refine hK.out _ _ (keep6 ((Gr.refl _).alloc _) hH49) (fun hH56 => ?_)
        clear hK K
        (try simp only [Act.put, List.setIfInBounds_toArray, List.set_cons_zero, List.set_cons_succ])
        have b5_58 := new_block wc48 (.cells #[.bool false, .slice none 0 0, .int .i64 0] 24)
        have gg57 := (Gr.refl wc48).alloc (.cells #[.bool false, .slice none 0 0, .int .i64 0] 24)
        have lb559 := hH49.2.size
        have hne : wc1.heap.size ≠ wc48.heap.size := Nat.ne_of_lt (lt_of_heap b4_53)
        have o1_60 := gg57.owns o1_52
        clear o1_52
        have o3_61 := gg57.owns o3_54
        clear o3_54
        have b4_62 := gg57.keepH b4_53
        clear b4_53
        generalize wc48.alloc (.cells #[.bool false, .slice none 0 0, .int .i64 0] 24) = wa55 at *
        obtain ⟨t0', t1', t2', u0', u1', u2'⟩ := Out3.of b4_62
        refine wpAnyH_ready (rs := [6]) (by kernel_rfl) (by simp) ?_
        refine AllReadyH.cons (o := ({ dst := none, op := Op.store 24 (Operand.tmp 7) (Operand.tmp 40), type := 0, pos := "law.go:115", after := #[{ on := 4, ground := Ground.data }, { on := 1, ground := Ground.data }, { on := 3, ground := Ground.chain }, { on := 0, ground := Ground.phase }, { on := 1, ground := Ground.phase }, { on := 2, ground := Ground.textOnly Departure.lateStores }, { on := 3, ground := Ground.textOnly Departure.lateStoresUnsure }, { on := 4, ground := Ground.phase }, { on := 5, ground := Ground.phase }], guard := none } : Oper)) rfl (fun K hK => ?_) AllReadyH.nil
        go_simp
        refine hK.out _ _ (keepS6 (Nat.ne_of_lt (Nat.lt_of_lt_of_le pal lb446)) (Nat.ne_of_lt (Nat.lt_of_lt_of_le pbl lb446)) lb446 hH56) (fun hS6 => ?_)
        clear hK K t0' t1' t2' u0' u1' u2'
        (try simp only [Act.put, List.setIfInBounds_toArray, List.set_cons_zero, List.set_cons_succ])
        have p4 := set3_block b4_62 (.bool s) (.slice (some ⟨gx, 0, none⟩) n1 (n1 + 12)) (.int .i64 e)
        have p5 := (set3_other (Ne.symm hne) (.bool s) (.slice (some ⟨gx, 0, none⟩) n1 (n1 + 12)) (.int .i64 e)).trans b5_58
        have q1 := set3_owns o1_60 (owns_nebag o1_60 b4_62 (by decide)) (.bool s) (.slice (some ⟨gx, 0, none⟩) n1 (n1 + 12)) (.int .i64 e)
        have q3 := set3_owns o3_61 (owns_nebag o3_61 b4_62 (by decide)) (.bool s) (.slice (some ⟨gx, 0, none⟩) n1 (n1 + 12)) (.int .i64 e)
        generalize (((wa55.setCell ⟨wc1.heap.size, 0, none⟩ (.bool s)).setCell ⟨wc1.heap.size, 1, none⟩ (.slice (some ⟨gx, 0, none⟩) n1 (n1 + 12))).setCell ⟨wc1.heap.size, 2, none⟩ (.int .i64 e)) = ws at *
        obtain ⟨t0', t1', t2', u0', u1', u2'⟩ := Out3.of p5
        refine wpAnyH_ready (rs := [7]) (by kernel_rfl) (by simp) ?_
        refine AllReadyH.cons (o := ({ dst := none, op := Op.store 24 (Operand.tmp 8) (Operand.tmp 42), type := 0, pos := "law.go:115", after := #[{ on := 5, ground := Ground.data }, { on := 3, ground := Ground.data }, { on := 6, ground := Ground.chain }, { on := 0, ground := Ground.phase }, { on := 1, ground := Ground.phase }, { on := 2, ground := Ground.phase }, { on := 3, ground := Ground.phase }, { on := 4, ground := Ground.phase }, { on := 5, ground := Ground.phase }, { on := 6, ground := Ground.phase }], guard := none } : Oper)) rfl (fun K hK => ?_) AllReadyH.nil
        go_simp
        refine hK.out _ _ (keepS6 (Nat.ne_of_lt (Nat.lt_of_lt_of_le pal lb559)) (Nat.ne_of_lt (Nat.lt_of_lt_of_le pbl lb559)) lb559 hS6) (fun hS7 => ?_)
        clear hK K t0' t1' t2' u0' u1' u2'
        (try simp only [Act.put, List.setIfInBounds_toArray, List.set_cons_zero, List.set_cons_succ])
        refine wpAnyH_done (by kernel_rfl) ?_ _
        exact ⟨gx, gy, wc1.heap.size, wc48.heap.size, rfl, set3_owns q1 (owns_nebag q1 p5 (by decide)) _ _ _, set3_owns q3 (owns_nebag q3 p5 (by decide)) _ _ _, (set3_other hne _ _ _).trans p4, set3_block p5 _ _ _, Nat.ne_of_lt hgxy, lb446, lb559, hS7.2⟩
      refine AllReadyH.cons (o := ({ dst := some 8, op := Op.alloc 24, type := 0, pos := "law.go:115", after := #[], guard := none } : Oper)) rfl (fun K hK => ?_) AllReadyH.nil
      go_simp
      refine hK.out _ _ (keep6 ((Gr.refl _).alloc _) hH43) (fun hH64 => ?_)
      clear hK K
      (try simp only [Act.put, List.setIfInBounds_toArray, List.set_cons_zero, List.set_cons_succ])
      have b5_66 := new_block wa42 (.cells #[.bool false, .slice none 0 0, .int .i64 0] 24)
      have gg65 := (Gr.refl wa42).alloc (.cells #[.bool false, .slice none 0 0, .int .i64 0] 24)
      have lb567 := hH43.2.size
      have hne : wc1.heap.size ≠ wa42.heap.size := Nat.ne_of_lt (lt_of_heap b4_45)
      have o1_68 := gg65.owns o1_47
      clear o1_47
      have b4_69 := gg65.keepH b4_45
      clear b4_45
      generalize wa42.alloc (.cells #[.bool false, .slice none 0 0, .int .i64 0] 24) = wa63 at *
      refine wpAnyH_ready (rs := [3]) (by kernel_rfl) (by simp) ?_
      refine AllReadyH.cons (o := ({ dst := some 42, op := Op.call { callee := Callee.value (Operand.func 8), args := #[Operand.tmp 41], argTypes := #[24] }, type := 24, pos := "law.go:115", after := #[{ on := 2, ground := Ground.data }, { on := 1, ground := Ground.chain }], guard := none } : Oper)) rfl (fun K hK => ?_) AllReadyH.nil
      go_simp
      refine (LY.out _ hH64.2).mono ?_
      rintro r wc70 ⟨gy, rfl, ho73, gg72⟩
      refine hK.out _ _ (keep6 gg72 hH64) (fun hH71 => ?_)
      clear hK K
      (try simp only [Act.put, List.setIfInBounds_toArray, List.set_cons_zero, List.set_cons_succ])
      have hgxy : gx < gy := Nat.lt_of_lt_of_le (o1_68.lt gx rfl).2 (ho73.lt gy rfl).1
      have o1_74 := gg72.owns o1_68
      clear o1_68
      have b4_75 := gg72.keepH b4_69
      clear b4_69
      have b5_76 := gg72.keepH b5_66
      clear b5_66
      have o3_77 := owns_low ho73 hH64.2.size
      clear ho73
      obtain ⟨t0', t1', t2', u0', u1', u2'⟩ := Out3.of b4_75
      refine wpAnyH_ready (rs := [6]) (by kernel_rfl) (by simp) ?_
      refine AllReadyH.cons (o := ({ dst := none, op := Op.store 24 (Operand.tmp 7) (Operand.tmp 40), type := 0, pos := "law.go:115", after := #[{ on := 4, ground := Ground.data }, { on := 1, ground := Ground.data }, { on := 3, ground := Ground.chain }, { on := 0, ground := Ground.phase }, { on := 1, ground := Ground.phase }, { on := 2, ground := Ground.textOnly Departure.lateStores }, { on := 3, ground := Ground.textOnly Departure.lateStoresUnsure }, { on := 4, ground := Ground.phase }, { on := 5, ground := Ground.phase }], guard := none } : Oper)) rfl (fun K hK => ?_) AllReadyH.nil
      go_simp
      refine hK.out _ _ (keepS6 (Nat.ne_of_lt (Nat.lt_of_lt_of_le pal lb446)) (Nat.ne_of_lt (Nat.lt_of_lt_of_le pbl lb446)) lb446 hH71) (fun hS6 => ?_)
      clear hK K t0' t1' t2' u0' u1' u2'
      (try simp only [Act.put, List.setIfInBounds_toArray, List.set_cons_zero, List.set_cons_succ])
      have p4 := set3_block b4_75 (.bool s) (.slice (some ⟨gx, 0, none⟩) n1 (n1 + 12)) (.int .i64 e)
      have p5 := (set3_other (Ne.symm hne) (.bool s) (.slice (some ⟨gx, 0, none⟩) n1 (n1 + 12)) (.int .i64 e)).trans b5_76
      have q1 := set3_owns o1_74 (owns_nebag o1_74 b4_75 (by decide)) (.bool s) (.slice (some ⟨gx, 0, none⟩) n1 (n1 + 12)) (.int .i64 e)
      have q3 := set3_owns o3_77 (owns_nebag o3_77 b4_75 (by decide)) (.bool s) (.slice (some ⟨gx, 0, none⟩) n1 (n1 + 12)) (.int .i64 e)
      generalize (((wc70.setCell ⟨wc1.heap.size, 0, none⟩ (.bool s)).setCell ⟨wc1.heap.size, 1, none⟩ (.slice (some ⟨gx, 0, none⟩) n1 (n1 + 12))).setCell ⟨wc1.heap.size, 2, none⟩ (.int .i64 e)) = ws at *
      obtain ⟨t0', t1', t2', u0', u1', u2'⟩ := Out3.of p5
      refine wpAnyH_ready (rs := [7]) (by kernel_rfl) (by simp) ?_
      refine AllReadyH.cons (o := ({ dst := none, op := Op.store 24 (Operand.tmp 8) (Operand.tmp 42), type := 0, pos := "law.go:115", after := #[{ on := 5, ground := Ground.data }, { on := 3, ground := Ground.data }, { on := 6, ground := Ground.chain }, { on := 0, ground := Ground.phase }, { on := 1, ground := Ground.phase }, { on := 2, ground := Ground.phase }, { on := 3, ground := Ground.phase }, { on := 4, ground := Ground.phase }, { on := 5, ground := Ground.phase }, { on := 6, ground := Ground.phase }], guard := none } : Oper)) rfl (fun K hK => ?_) AllReadyH.nil
      go_simp
      refine hK.out _ _ (keepS6 (Nat.ne_of_lt (Nat.lt_of_lt_of_le pal lb567)) (Nat.ne_of_lt (Nat.lt_of_lt_of_le pbl lb567)) lb567 hS6) (fun hS7 => ?_)
      clear hK K t0' t1' t2' u0' u1' u2'
      (try simp only [Act.put, List.setIfInBounds_toArray, List.set_cons_zero, List.set_cons_succ])
      refine wpAnyH_done (by kernel_rfl) ?_ _
      exact ⟨gx, gy, wc1.heap.size, wa42.heap.size, rfl, set3_owns q1 (owns_nebag q1 p5 (by decide)) _ _ _, set3_owns q3 (owns_nebag q3 p5 (by decide)) _ _ _, (set3_other hne _ _ _).trans p4, set3_block p5 _ _ _, Nat.ne_of_lt hgxy, lb446, lb567, hS7.2⟩
    refine AllReadyH.cons (o := ({ dst := some 8, op := Op.alloc 24, type := 0, pos := "law.go:115", after := #[], guard := none } : Oper)) rfl (fun K hK => ?_) AllReadyH.nil
    go_simp
    refine hK.out _ _ (keep6 ((Gr.refl _).alloc _) hH2) (fun hH79 => ?_)
    clear hK K
    (try simp only [Act.put, List.setIfInBounds_toArray, List.set_cons_zero, List.set_cons_succ])
    have b5_81 := new_block wc1 (.cells #[.bool false, .slice none 0 0, .int .i64 0] 24)
    have gg80 := (Gr.refl wc1).alloc (.cells #[.bool false, .slice none 0 0, .int .i64 0] 24)
    have lb582 := hH2.2.size
    have o1_83 := gg80.owns o1_5
    clear o1_5
    generalize wc1.alloc (.cells #[.bool false, .slice none 0 0, .int .i64 0] 24) = wa78 at *
    refine wpAnyH_ready (rs := [3, 4]) (by kernel_rfl) (by simp) ?_
    refine AllReadyH.cons (o := ({ dst := some 42, op := Op.call { callee := Callee.value (Operand.func 8), args := #[Operand.tmp 41], argTypes := #[24] }, type := 24, pos := "law.go:115", after := #[{ on := 2, ground := Ground.data }, { on := 1, ground := Ground.chain }], guard := none } : Oper)) rfl (fun K hK => ?_) ?_
    · go_simp
      refine (LY.out _ hH79.2).mono ?_
      rintro r wc84 ⟨gy, rfl, ho87, gg86⟩
      refine hK.out _ _ (keep6 gg86 hH79) (fun hH85 => ?_)
      clear hK K
      (try simp only [Act.put, List.setIfInBounds_toArray, List.set_cons_zero, List.set_cons_succ])
      have hgxy : gx < gy := Nat.lt_of_lt_of_le (o1_83.lt gx rfl).2 (ho87.lt gy rfl).1
      have o1_88 := gg86.owns o1_83
      clear o1_83
      have b5_89 := gg86.keepH b5_81
      clear b5_81
      have o3_90 := owns_low ho87 hH79.2.size
      clear ho87
      refine wpAnyH_ready (rs := [4]) (by kernel_rfl) (by simp) ?_
      refine AllReadyH.cons (o := ({ dst := some 7, op := Op.alloc 24, type := 0, pos := "law.go:115", after := #[], guard := none } : Oper)) rfl (fun K hK => ?_) AllReadyH.nil
      go_simp
      refine hK.out _ _ (keep6 ((Gr.refl _).alloc _) hH85) (fun hH92 => ?_)
      clear hK K
      (try simp only [Act.put, List.setIfInBounds_toArray, List.set_cons_zero, List.set_cons_succ])
      have b4_94 := new_block wc84 (.cells #[.bool false, .slice none 0 0, .int .i64 0] 24)
      have gg93 := (Gr.refl wc84).alloc (.cells #[.bool false, .slice none 0 0, .int .i64 0] 24)
      have lb495 := hH85.2.size
      have hne : wc1.heap.size ≠ wc84.heap.size := Nat.ne_of_lt (lt_of_heap b5_89)
      have o1_96 := gg93.owns o1_88
      clear o1_88
      have o3_97 := gg93.owns o3_90
      clear o3_90
      have b5_98 := gg93.keepH b5_89
      clear b5_89
      generalize wc84.alloc (.cells #[.bool false, .slice none 0 0, .int .i64 0] 24) = wa91 at *
      obtain ⟨t0', t1', t2', u0', u1', u2'⟩ := Out3.of b4_94
      refine wpAnyH_ready (rs := [6]) (by kernel_rfl) (by simp) ?_
      refine AllReadyH.cons (o := ({ dst := none, op := Op.store 24 (Operand.tmp 7) (Operand.tmp 40), type := 0, pos := "law.go:115", after := #[{ on := 4, ground := Ground.data }, { on := 1, ground := Ground.data }, { on := 3, ground := Ground.chain }, { on := 0, ground := Ground.phase }, { on := 1, ground := Ground.phase }, { on := 2, ground := Ground.textOnly Departure.lateStores }, { on := 3, ground := Ground.textOnly Departure.lateStoresUnsure }, { on := 4, ground := Ground.phase }, { on := 5, ground := Ground.phase }], guard := none } : Oper)) rfl (fun K hK => ?_) AllReadyH.nil
      go_simp
      refine hK.out _ _ (keepS6 (Nat.ne_of_lt (Nat.lt_of_lt_of_le pal lb495)) (Nat.ne_of_lt (Nat.lt_of_lt_of_le pbl lb495)) lb495 hH92) (fun hS6 => ?_)
      clear hK K t0' t1' t2' u0' u1' u2'
      (try simp only [Act.put, List.setIfInBounds_toArray, List.set_cons_zero, List.set_cons_succ])
      have p4 := set3_block b4_94 (.bool s) (.slice (some ⟨gx, 0, none⟩) n1 (n1 + 12)) (.int .i64 e)
      have p5 := (set3_other (Ne.symm (Ne.symm hne)) (.bool s) (.slice (some ⟨gx, 0, none⟩) n1 (n1 + 12)) (.int .i64 e)).trans b5_98
      have q1 := set3_owns o1_96 (owns_nebag o1_96 b4_94 (by decide)) (.bool s) (.slice (some ⟨gx, 0, none⟩) n1 (n1 + 12)) (.int .i64 e)
      have q3 := set3_owns o3_97 (owns_nebag o3_97 b4_94 (by decide)) (.bool s) (.slice (some ⟨gx, 0, none⟩) n1 (n1 + 12)) (.int .i64 e)
      generalize (((wa91.setCell ⟨wc84.heap.size, 0, none⟩ (.bool s)).setCell ⟨wc84.heap.size, 1, none⟩ (.slice (some ⟨gx, 0, none⟩) n1 (n1 + 12))).setCell ⟨wc84.heap.size, 2, none⟩ (.int .i64 e)) = ws at *
      obtain ⟨t0', t1', t2', u0', u1', u2'⟩ := Out3.of p5
      refine wpAnyH_ready (rs := [7]) (by kernel_rfl) (by simp) ?_
      refine AllReadyH.cons (o := ({ dst := none, op := Op.store 24 (Operand.tmp 8) (Operand.tmp 42), type := 0, pos := "law.go:115", after := #[{ on := 5, ground := Ground.data }, { on := 3, ground := Ground.data }, { on := 6, ground := Ground.chain }, { on := 0, ground := Ground.phase }, { on := 1, ground := Ground.phase }, { on := 2, ground := Ground.phase }, { on := 3, ground := Ground.phase }, { on := 4, ground := Ground.phase }, { on := 5, ground := Ground.phase }, { on := 6, ground := Ground.phase }], guard := none } : Oper)) rfl (fun K hK => ?_) AllReadyH.nil
      go_simp
      refine hK.out _ _ (keepS6 (Nat.ne_of_lt (Nat.lt_of_lt_of_le pal lb582)) (Nat.ne_of_lt (Nat.lt_of_lt_of_le pbl lb582)) lb582 hS6) (fun hS7 => ?_)
      clear hK K t0' t1' t2' u0' u1' u2'
      (try simp only [Act.put, List.setIfInBounds_toArray, List.set_cons_zero, List.set_cons_succ])
      refine wpAnyH_done (by kernel_rfl) ?_ _
      exact ⟨gx, gy, wc84.heap.size, wc1.heap.size, rfl, set3_owns q1 (owns_nebag q1 p5 (by decide)) _ _ _, set3_owns q3 (owns_nebag q3 p5 (by decide)) _ _ _, (set3_other (Ne.symm hne) _ _ _).trans p4, set3_block p5 _ _ _, Nat.ne_of_lt hgxy, lb495, lb582, hS7.2⟩
    refine AllReadyH.cons (o := ({ dst := some 7, op := Op.alloc 24, type := 0, pos := "law.go:115", after := #[], guard := none } : Oper)) rfl (fun K hK => ?_) AllReadyH.nil
    go_simp
    refine hK.out _ _ (keep6 ((Gr.refl _).alloc _) hH79) (fun hH100 => ?_)
    clear hK K
    (try simp only [Act.put, List.setIfInBounds_toArray, List.set_cons_zero, List.set_cons_succ])
    have b4_102 := new_block wa78 (.cells #[.bool false, .slice none 0 0, .int .i64 0] 24)
    have gg101 := (Gr.refl wa78).alloc (.cells #[.bool false, .slice none 0 0, .int .i64 0] 24)
    have lb4103 := hH79.2.size
    have hne : wc1.heap.size ≠ wa78.heap.size := Nat.ne_of_lt (lt_of_heap b5_81)
    have o1_104 := gg101.owns o1_83
    clear o1_83
    have b5_105 := gg101.keepH b5_81
    clear b5_81
    generalize wa78.alloc (.cells #[.bool false, .slice none 0 0, .int .i64 0] 24) = wa99 at *
    refine wpAnyH_ready (rs := [3]) (by kernel_rfl) (by simp) ?_
    refine AllReadyH.cons (o := ({ dst := some 42, op := Op.call { callee := Callee.value (Operand.func 8), args := #[Operand.tmp 41], argTypes := #[24] }, type := 24, pos := "law.go:115", after := #[{ on := 2, ground := Ground.data }, { on := 1, ground := Ground.chain }], guard := none } : Oper)) rfl (fun K hK => ?_) AllReadyH.nil
    go_simp
    refine (LY.out _ hH100.2).mono ?_
    rintro r wc106 ⟨gy, rfl, ho109, gg108⟩
    refine hK.out _ _ (keep6 gg108 hH100) (fun hH107 => ?_)
    clear hK K
    (try simp only [Act.put, List.setIfInBounds_toArray, List.set_cons_zero, List.set_cons_succ])
    have hgxy : gx < gy := Nat.lt_of_lt_of_le (o1_104.lt gx rfl).2 (ho109.lt gy rfl).1
    have o1_110 := gg108.owns o1_104
    clear o1_104
    have b4_111 := gg108.keepH b4_102
    clear b4_102
    have b5_112 := gg108.keepH b5_105
    clear b5_105
    have o3_113 := owns_low ho109 hH100.2.size
    clear ho109
    obtain ⟨t0', t1', t2', u0', u1', u2'⟩ := Out3.of b4_111
    refine wpAnyH_ready (rs := [6]) (by kernel_rfl) (by simp) ?_
    refine AllReadyH.cons (o := ({ dst := none, op := Op.store 24 (Operand.tmp 7) (Operand.tmp 40), type := 0, pos := "law.go:115", after := #[{ on := 4, ground := Ground.data }, { on := 1, ground := Ground.data }, { on := 3, ground := Ground.chain }, { on := 0, ground := Ground.phase }, { on := 1, ground := Ground.phase }, { on := 2, ground := Ground.textOnly Departure.lateStores }, { on := 3, ground := Ground.textOnly Departure.lateStoresUnsure }, { on := 4, ground := Ground.phase }, { on := 5, ground := Ground.phase }], guard := none } : Oper)) rfl (fun K hK => ?_) AllReadyH.nil
    go_simp
    refine hK.out _ _ (keepS6 (Nat.ne_of_lt (Nat.lt_of_lt_of_le pal lb4103)) (Nat.ne_of_lt (Nat.lt_of_lt_of_le pbl lb4103)) lb4103 hH107) (fun hS6 => ?_)
    clear hK K t0' t1' t2' u0' u1' u2'
    (try simp only [Act.put, List.setIfInBounds_toArray, List.set_cons_zero, List.set_cons_succ])
    have p4 := set3_block b4_111 (.bool s) (.slice (some ⟨gx, 0, none⟩) n1 (n1 + 12)) (.int .i64 e)
    have p5 := (set3_other (Ne.symm (Ne.symm hne)) (.bool s) (.slice (some ⟨gx, 0, none⟩) n1 (n1 + 12)) (.int .i64 e)).trans b5_112
    have q1 := set3_owns o1_110 (owns_nebag o1_110 b4_111 (by decide)) (.bool s) (.slice (some ⟨gx, 0, none⟩) n1 (n1 + 12)) (.int .i64 e)
    have q3 := set3_owns o3_113 (owns_nebag o3_113 b4_111 (by decide)) (.bool s) (.slice (some ⟨gx, 0, none⟩) n1 (n1 + 12)) (.int .i64 e)
    generalize (((wc106.setCell ⟨wa78.heap.size, 0, none⟩ (.bool s)).setCell ⟨wa78.heap.size, 1, none⟩ (.slice (some ⟨gx, 0, none⟩) n1 (n1 + 12))).setCell ⟨wa78.heap.size, 2, none⟩ (.int .i64 e)) = ws at *
    obtain ⟨t0', t1', t2', u0', u1', u2'⟩ := Out3.of p5
    refine wpAnyH_ready (rs := [7]) (by kernel_rfl) (by simp) ?_
    refine AllReadyH.cons (o := ({ dst := none, op := Op.store 24 (Operand.tmp 8) (Operand.tmp 42), type := 0, pos := "law.go:115", after := #[{ on := 5, ground := Ground.data }, { on := 3, ground := Ground.data }, { on := 6, ground := Ground.chain }, { on := 0, ground := Ground.phase }, { on := 1, ground := Ground.phase }, { on := 2, ground := Ground.phase }, { on := 3, ground := Ground.phase }, { on := 4, ground := Ground.phase }, { on := 5, ground := Ground.phase }, { on := 6, ground := Ground.phase }], guard := none } : Oper)) rfl (fun K hK => ?_) AllReadyH.nil
    go_simp
    refine hK.out _ _ (keepS6 (Nat.ne_of_lt (Nat.lt_of_lt_of_le pal lb582)) (Nat.ne_of_lt (Nat.lt_of_lt_of_le pbl lb582)) lb582 hS6) (fun hS7 => ?_)
    clear hK K t0' t1' t2' u0' u1' u2'
    (try simp only [Act.put, List.setIfInBounds_toArray, List.set_cons_zero, List.set_cons_succ])
    refine wpAnyH_done (by kernel_rfl) ?_ _
    exact ⟨gx, gy, wa78.heap.size, wc1.heap.size, rfl, set3_owns q1 (owns_nebag q1 p5 (by decide)) _ _ _, set3_owns q3 (owns_nebag q3 p5 (by decide)) _ _ _, (set3_other (Ne.symm hne) _ _ _).trans p4, set3_block p5 _ _ _, Nat.ne_of_lt hgxy, lb4103, lb582, hS7.2⟩
  refine AllReadyH.cons (o := ({ dst := some 7, op := Op.alloc 24, type := 0, pos := "law.go:115", after := #[], guard := none } : Oper)) rfl (fun K hK => ?_) ?_
  · go_simp
    refine hK.out _ _ (keep6 ((Gr.refl _).alloc _) hHeld) (fun hH115 => ?_)
    clear hK K
    (try simp only [Act.put, List.setIfInBounds_toArray, List.set_cons_zero, List.set_cons_succ])
    have b4_117 := new_block wd (.cells #[.bool false, .slice none 0 0, .int .i64 0] 24)
    have gg116 := (Gr.refl wd).alloc (.cells #[.bool false, .slice none 0 0, .int .i64 0] 24)
    have lb4118 := hHeld.2.size
    generalize wd.alloc (.cells #[.bool false, .slice none 0 0, .int .i64 0] 24) = wa114 at *
    refine wpAnyH_ready (rs := [1, 5]) (by kernel_rfl) (by simp) ?_
    refine AllReadyH.cons (o := ({ dst := some 40, op := Op.call { callee := Callee.value (Operand.func 8), args := #[Operand.tmp 39], argTypes := #[24] }, type := 24, pos := "law.go:115", after := #[{ on := 0, ground := Ground.data }], guard := none } : Oper)) rfl (fun K hK => ?_) ?_
    · go_simp
      refine (LX.out _ hH115.2).mono ?_
      rintro r wc119 ⟨gx, rfl, ho122, gg121⟩
      refine hK.out _ _ (keep6 gg121 hH115) (fun hH120 => ?_)
      clear hK K
      (try simp only [Act.put, List.setIfInBounds_toArray, List.set_cons_zero, List.set_cons_succ])
      have b4_123 := gg121.keepH b4_117
      clear b4_117
      have o1_124 := owns_low ho122 hH115.2.size
      clear ho122
      refine wpAnyH_ready (rs := [3, 5]) (by kernel_rfl) (by simp) ?_
      refine AllReadyH.cons (o := ({ dst := some 42, op := Op.call { callee := Callee.value (Operand.func 8), args := #[Operand.tmp 41], argTypes := #[24] }, type := 24, pos := "law.go:115", after := #[{ on := 2, ground := Ground.data }, { on := 1, ground := Ground.chain }], guard := none } : Oper)) rfl (fun K hK => ?_) ?_
      · go_simp
        refine (LY.out _ hH120.2).mono ?_
        rintro r wc125 ⟨gy, rfl, ho128, gg127⟩
        refine hK.out _ _ (keep6 gg127 hH120) (fun hH126 => ?_)
        clear hK K
        (try simp only [Act.put, List.setIfInBounds_toArray, List.set_cons_zero, List.set_cons_succ])
        have hgxy : gx < gy := Nat.lt_of_lt_of_le (o1_124.lt gx rfl).2 (ho128.lt gy rfl).1
        have o1_129 := gg127.owns o1_124
        clear o1_124
        have b4_130 := gg127.keepH b4_123
        clear b4_123
        have o3_131 := owns_low ho128 hH120.2.size
        clear ho128
        refine wpAnyH_ready (rs := [5]) (by kernel_rfl) (by simp) ?_
        refine AllReadyH.cons (o := ({ dst := some 8, op := Op.alloc 24, type := 0, pos := "law.go:115", after := #[], guard := none } : Oper)) rfl (fun K hK => ?_) AllReadyH.nil
        go_simp
        refine hK.out _ _ (keep6 ((Gr.refl _).alloc _) hH126) (fun hH133 => ?_)
        clear hK K
        (try simp only [Act.put, List.setIfInBounds_toArray, List.set_cons_zero, List.set_cons_succ])
        have b5_135 := new_block wc125 (.cells #[.bool false, .slice none 0 0, .int .i64 0] 24)
        have gg134 := (Gr.refl wc125).alloc (.cells #[.bool false, .slice none 0 0, .int .i64 0] 24)
        have lb5136 := hH126.2.size
        have hne : wd.heap.size ≠ wc125.heap.size := Nat.ne_of_lt (lt_of_heap b4_130)
        have o1_137 := gg134.owns o1_129
        clear o1_129
        have o3_138 := gg134.owns o3_131
        clear o3_131
        have b4_139 := gg134.keepH b4_130
        clear b4_130
        generalize wc125.alloc (.cells #[.bool false, .slice none 0 0, .int .i64 0] 24) = wa132 at *
        obtain ⟨t0', t1', t2', u0', u1', u2'⟩ := Out3.of b4_139
        refine wpAnyH_ready (rs := [6]) (by kernel_rfl) (by simp) ?_
        refine AllReadyH.cons (o := ({ dst := none, op := Op.store 24 (Operand.tmp 7) (Operand.tmp 40), type := 0, pos := "law.go:115", after := #[{ on := 4, ground := Ground.data }, { on := 1, ground := Ground.data }, { on := 3, ground := Ground.chain }, { on := 0, ground := Ground.phase }, { on := 1, ground := Ground.phase }, { on := 2, ground := Ground.textOnly Departure.lateStores }, { on := 3, ground := Ground.textOnly Departure.lateStoresUnsure }, { on := 4, ground := Ground.phase }, { on := 5, ground := Ground.phase }], guard := none } : Oper)) rfl (fun K hK => ?_) AllReadyH.nil
        go_simp
        refine hK.out _ _ (keepS6 (Nat.ne_of_lt (Nat.lt_of_lt_of_le pal lb4118)) (Nat.ne_of_lt (Nat.lt_of_lt_of_le pbl lb4118)) lb4118 hH133) (fun hS6 => ?_)
        clear hK K t0' t1' t2' u0' u1' u2'
        (try simp only [Act.put, List.setIfInBounds_toArray, List.set_cons_zero, List.set_cons_succ])
        have p4 := set3_block b4_139 (.bool s) (.slice (some ⟨gx, 0, none⟩) n1 (n1 + 12)) (.int .i64 e)
        have p5 := (set3_other (Ne.symm hne) (.bool s) (.slice (some ⟨gx, 0, none⟩) n1 (n1 + 12)) (.int .i64 e)).trans b5_135
        have q1 := set3_owns o1_137 (owns_nebag o1_137 b4_139 (by decide)) (.bool s) (.slice (some ⟨gx, 0, none⟩) n1 (n1 + 12)) (.int .i64 e)
        have q3 := set3_owns o3_138 (owns_nebag o3_138 b4_139 (by decide)) (.bool s) (.slice (some ⟨gx, 0, none⟩) n1 (n1 + 12)) (.int .i64 e)
        generalize (((wa132.setCell ⟨wd.heap.size, 0, none⟩ (.bool s)).setCell ⟨wd.heap.size, 1, none⟩ (.slice (some ⟨gx, 0, none⟩) n1 (n1 + 12))).setCell ⟨wd.heap.size, 2, none⟩ (.int .i64 e)) = ws at *
        obtain ⟨t0', t1', t2', u0', u1', u2'⟩ := Out3.of p5
        refine wpAnyH_ready (rs := [7]) (by kernel_rfl) (by simp) ?_
        refine AllReadyH.cons (o := ({ dst := none, op := Op.store 24 (Operand.tmp 8) (Operand.tmp 42), type := 0, pos := "law.go:115", after := #[{ on := 5, ground := Ground.data }, { on := 3, ground := Ground.data }, { on := 6, ground := Ground.chain }, { on := 0, ground := Ground.phase }, { on := 1, ground := Ground.phase }, { on := 2, ground := Ground.phase }, { on := 3, ground := Ground.phase }, { on := 4, ground := Ground.phase }, { on := 5, ground := Ground.phase }, { on := 6, ground := Ground.phase }], guard := none } : Oper)) rfl (fun K hK => ?_) AllReadyH.nil
        go_simp
        refine hK.out _ _ (keepS6 (Nat.ne_of_lt (Nat.lt_of_lt_of_le pal lb5136)) (Nat.ne_of_lt (Nat.lt_of_lt_of_le pbl lb5136)) lb5136 hS6) (fun hS7 => ?_)
        clear hK K t0' t1' t2' u0' u1' u2'
        (try simp only [Act.put, List.setIfInBounds_toArray, List.set_cons_zero, List.set_cons_succ])
        refine wpAnyH_done (by kernel_rfl) ?_ _
        exact ⟨gx, gy, wd.heap.size, wc125.heap.size, rfl, set3_owns q1 (owns_nebag q1 p5 (by decide)) _ _ _, set3_owns q3 (owns_nebag q3 p5 (by decide)) _ _ _, (set3_other hne _ _ _).trans p4, set3_block p5 _ _ _, Nat.ne_of_lt hgxy, lb4118, lb5136, hS7.2⟩
      refine AllReadyH.cons (o := ({ dst := some 8, op := Op.alloc 24, type := 0, pos := "law.go:115", after := #[], guard := none } : Oper)) rfl (fun K hK => ?_) AllReadyH.nil
      go_simp
      refine hK.out _ _ (keep6 ((Gr.refl _).alloc _) hH120) (fun hH141 => ?_)
      clear hK K
      (try simp only [Act.put, List.setIfInBounds_toArray, List.set_cons_zero, List.set_cons_succ])
      have b5_143 := new_block wc119 (.cells #[.bool false, .slice none 0 0, .int .i64 0] 24)
      have gg142 := (Gr.refl wc119).alloc (.cells #[.bool false, .slice none 0 0, .int .i64 0] 24)
      have lb5144 := hH120.2.size
      have hne : wd.heap.size ≠ wc119.heap.size := Nat.ne_of_lt (lt_of_heap b4_123)
      have o1_145 := gg142.owns o1_124
      clear o1_124
      have b4_146 := gg142.keepH b4_123
      clear b4_123
      generalize wc119.alloc (.cells #[.bool false, .slice none 0 0, .int .i64 0] 24) = wa140 at *
      refine wpAnyH_ready (rs := [3]) (by kernel_rfl) (by simp) ?_
      refine AllReadyH.cons (o := ({ dst := some 42, op := Op.call { callee := Callee.value (Operand.func 8), args := #[Operand.tmp 41], argTypes := #[24] }, type := 24, pos := "law.go:115", after := #[{ on := 2, ground := Ground.data }, { on := 1, ground := Ground.chain }], guard := none } : Oper)) rfl (fun K hK => ?_) AllReadyH.nil
      go_simp
      refine (LY.out _ hH141.2).mono ?_
      rintro r wc147 ⟨gy, rfl, ho150, gg149⟩
      refine hK.out _ _ (keep6 gg149 hH141) (fun hH148 => ?_)
      clear hK K
      (try simp only [Act.put, List.setIfInBounds_toArray, List.set_cons_zero, List.set_cons_succ])
      have hgxy : gx < gy := Nat.lt_of_lt_of_le (o1_145.lt gx rfl).2 (ho150.lt gy rfl).1
      have o1_151 := gg149.owns o1_145
      clear o1_145
      have b4_152 := gg149.keepH b4_146
      clear b4_146
      have b5_153 := gg149.keepH b5_143
      clear b5_143
      have o3_154 := owns_low ho150 hH141.2.size
      clear ho150
      obtain ⟨t0', t1', t2', u0', u1', u2'⟩ := Out3.of b4_152
      refine wpAnyH_ready (rs := [6]) (by kernel_rfl) (by simp) ?_
      refine AllReadyH.cons (o := ({ dst := none, op := Op.store 24 (Operand.tmp 7) (Operand.tmp 40), type := 0, pos := "law.go:115", after := #[{ on := 4, ground := Ground.data }, { on := 1, ground := Ground.data }, { on := 3, ground := Ground.chain }, { on := 0, ground := Ground.phase }, { on := 1, ground := Ground.phase }, { on := 2, ground := Ground.textOnly Departure.lateStores }, { on := 3, ground := Ground.textOnly Departure.lateStoresUnsure }, { on := 4, ground := Ground.phase }, { on := 5, ground := Ground.phase }], guard := none } : Oper)) rfl (fun K hK => ?_) AllReadyH.nil
      go_simp
      refine hK.out _ _ (keepS6 (Nat.ne_of_lt (Nat.lt_of_lt_of_le pal lb4118)) (Nat.ne_of_lt (Nat.lt_of_lt_of_le pbl lb4118)) lb4118 hH148) (fun hS6 => ?_)
      clear hK K t0' t1' t2' u0' u1' u2'
      (try simp only [Act.put, List.setIfInBounds_toArray, List.set_cons_zero, List.set_cons_succ])
      have p4 := set3_block b4_152 (.bool s) (.slice (some ⟨gx, 0, none⟩) n1 (n1 + 12)) (.int .i64 e)
      have p5 := (set3_other (Ne.symm hne) (.bool s) (.slice (some ⟨gx, 0, none⟩) n1 (n1 + 12)) (.int .i64 e)).trans b5_153
      have q1 := set3_owns o1_151 (owns_nebag o1_151 b4_152 (by decide)) (.bool s) (.slice (some ⟨gx, 0, none⟩) n1 (n1 + 12)) (.int .i64 e)
      have q3 := set3_owns o3_154 (owns_nebag o3_154 b4_152 (by decide)) (.bool s) (.slice (some ⟨gx, 0, none⟩) n1 (n1 + 12)) (.int .i64 e)
      generalize (((wc147.setCell ⟨wd.heap.size, 0, none⟩ (.bool s)).setCell ⟨wd.heap.size, 1, none⟩ (.slice (some ⟨gx, 0, none⟩) n1 (n1 + 12))).setCell ⟨wd.heap.size, 2, none⟩ (.int .i64 e)) = ws at *
      obtain ⟨t0', t1', t2', u0', u1', u2'⟩ := Out3.of p5
      refine wpAnyH_ready (rs := [7]) (by kernel_rfl) (by simp) ?_
      refine AllReadyH.cons (o := ({ dst := none, op := Op.store 24 (Operand.tmp 8) (Operand.tmp 42), type := 0, pos := "law.go:115", after := #[{ on := 5, ground := Ground.data }, { on := 3, ground := Ground.data }, { on := 6, ground := Ground.chain }, { on := 0, ground := Ground.phase }, { on := 1, ground := Ground.phase }, { on := 2, ground := Ground.phase }, { on := 3, ground := Ground.phase }, { on := 4, ground := Ground.phase }, { on := 5, ground := Ground.phase }, { on := 6, ground := Ground.phase }], guard := none } : Oper)) rfl (fun K hK => ?_) AllReadyH.nil
      go_simp
      refine hK.out _ _ (keepS6 (Nat.ne_of_lt (Nat.lt_of_lt_of_le pal lb5144)) (Nat.ne_of_lt (Nat.lt_of_lt_of_le pbl lb5144)) lb5144 hS6) (fun hS7 => ?_)
      clear hK K t0' t1' t2' u0' u1' u2'
      (try simp only [Act.put, List.setIfInBounds_toArray, List.set_cons_zero, List.set_cons_succ])
      refine wpAnyH_done (by kernel_rfl) ?_ _
      exact ⟨gx, gy, wd.heap.size, wc119.heap.size, rfl, set3_owns q1 (owns_nebag q1 p5 (by decide)) _ _ _, set3_owns q3 (owns_nebag q3 p5 (by decide)) _ _ _, (set3_other hne _ _ _).trans p4, set3_block p5 _ _ _, Nat.ne_of_lt hgxy, lb4118, lb5144, hS7.2⟩
    refine AllReadyH.cons (o := ({ dst := some 8, op := Op.alloc 24, type := 0, pos := "law.go:115", after := #[], guard := none } : Oper)) rfl (fun K hK => ?_) AllReadyH.nil
    go_simp
    refine hK.out _ _ (keep6 ((Gr.refl _).alloc _) hH115) (fun hH156 => ?_)
    clear hK K
    (try simp only [Act.put, List.setIfInBounds_toArray, List.set_cons_zero, List.set_cons_succ])
    have b5_158 := new_block wa114 (.cells #[.bool false, .slice none 0 0, .int .i64 0] 24)
    have gg157 := (Gr.refl wa114).alloc (.cells #[.bool false, .slice none 0 0, .int .i64 0] 24)
    have lb5159 := hH115.2.size
    have hne : wd.heap.size ≠ wa114.heap.size := Nat.ne_of_lt (lt_of_heap b4_117)
    have b4_160 := gg157.keepH b4_117
    clear b4_117
    generalize wa114.alloc (.cells #[.bool false, .slice none 0 0, .int .i64 0] 24) = wa155 at *
    refine wpAnyH_ready (rs := [1]) (by kernel_rfl) (by simp) ?_
    refine AllReadyH.cons (o := ({ dst := some 40, op := Op.call { callee := Callee.value (Operand.func 8), args := #[Operand.tmp 39], argTypes := #[24] }, type := 24, pos := "law.go:115", after := #[{ on := 0, ground := Ground.data }], guard := none } : Oper)) rfl (fun K hK => ?_) AllReadyH.nil
    go_simp
    refine (LX.out _ hH156.2).mono ?_
    rintro r wc161 ⟨gx, rfl, ho164, gg163⟩
    refine hK.out _ _ (keep6 gg163 hH156) (fun hH162 => ?_)
    clear hK K
    (try simp only [Act.put, List.setIfInBounds_toArray, List.set_cons_zero, List.set_cons_succ])
    have b4_165 := gg163.keepH b4_160
    clear b4_160
    have b5_166 := gg163.keepH b5_158
    clear b5_158
    have o1_167 := owns_low ho164 hH156.2.size
    clear ho164
    refine wpAnyH_ready (rs := [3]) (by kernel_rfl) (by simp) ?_
    refine AllReadyH.cons (o := ({ dst := some 42, op := Op.call { callee := Callee.value (Operand.func 8), args := #[Operand.tmp 41], argTypes := #[24] }, type := 24, pos := "law.go:115", after := #[{ on := 2, ground := Ground.data }, { on := 1, ground := Ground.chain }], guard := none } : Oper)) rfl (fun K hK => ?_) AllReadyH.nil
    go_simp
    refine (LY.out _ hH162.2).mono ?_
    rintro r wc168 ⟨gy, rfl, ho171, gg170⟩
    refine hK.out _ _ (keep6 gg170 hH162) (fun hH169 => ?_)
    clear hK K
    (try simp only [Act.put, List.setIfInBounds_toArray, List.set_cons_zero, List.set_cons_succ])
    have hgxy : gx < gy := Nat.lt_of_lt_of_le (o1_167.lt gx rfl).2 (ho171.lt gy rfl).1
    have o1_172 := gg170.owns o1_167
    clear o1_167
    have b4_173 := gg170.keepH b4_165
    clear b4_165
    have b5_174 := gg170.keepH b5_166
    clear b5_166
    have o3_175 := owns_low ho171 hH162.2.size
    clear ho171
    obtain ⟨t0', t1', t2', u0', u1', u2'⟩ := Out3.of b4_173
    refine wpAnyH_ready (rs := [6]) (by kernel_rfl) (by simp) ?_
    refine AllReadyH.cons (o := ({ dst := none, op := Op.store 24 (Operand.tmp 7) (Operand.tmp 40), type := 0, pos := "law.go:115", after := #[{ on := 4, ground := Ground.data }, { on := 1, ground := Ground.data }, { on := 3, ground := Ground.chain }, { on := 0, ground := Ground.phase }, { on := 1, ground := Ground.phase }, { on := 2, ground := Ground.textOnly Departure.lateStores }, { on := 3, ground := Ground.textOnly Departure.lateStoresUnsure }, { on := 4, ground := Ground.phase }, { on := 5, ground := Ground.phase }], guard := none } : Oper)) rfl (fun K hK => ?_) AllReadyH.nil
    go_simp
    refine hK.out _ _ (keepS6 (Nat.ne_of_lt (Nat.lt_of_lt_of_le pal lb4118)) (Nat.ne_of_lt (Nat.lt_of_lt_of_le pbl lb4118)) lb4118 hH169) (fun hS6 => ?_)
    clear hK K t0' t1' t2' u0' u1' u2'
    (try simp only [Act.put, List.setIfInBounds_toArray, List.set_cons_zero, List.set_cons_succ])
    have p4 := set3_block b4_173 (.bool s) (.slice (some ⟨gx, 0, none⟩) n1 (n1 + 12)) (.int .i64 e)
    have p5 := (set3_other (Ne.symm hne) (.bool s) (.slice (some ⟨gx, 0, none⟩) n1 (n1 + 12)) (.int .i64 e)).trans b5_174
    have q1 := set3_owns o1_172 (owns_nebag o1_172 b4_173 (by decide)) (.bool s) (.slice (some ⟨gx, 0, none⟩) n1 (n1 + 12)) (.int .i64 e)
    have q3 := set3_owns o3_175 (owns_nebag o3_175 b4_173 (by decide)) (.bool s) (.slice (some ⟨gx, 0, none⟩) n1 (n1 + 12)) (.int .i64 e)
    generalize (((wc168.setCell ⟨wd.heap.size, 0, none⟩ (.bool s)).setCell ⟨wd.heap.size, 1, none⟩ (.slice (some ⟨gx, 0, none⟩) n1 (n1 + 12))).setCell ⟨wd.heap.size, 2, none⟩ (.int .i64 e)) = ws at *
    obtain ⟨t0', t1', t2', u0', u1', u2'⟩ := Out3.of p5
    refine wpAnyH_ready (rs := [7]) (by kernel_rfl) (by simp) ?_
    refine AllReadyH.cons (o := ({ dst := none, op := Op.store 24 (Operand.tmp 8) (Operand.tmp 42), type := 0, pos := "law.go:115", after := #[{ on := 5, ground := Ground.data }, { on := 3, ground := Ground.data }, { on := 6, ground := Ground.chain }, { on := 0, ground := Ground.phase }, { on := 1, ground := Ground.phase }, { on := 2, ground := Ground.phase }, { on := 3, ground := Ground.phase }, { on := 4, ground := Ground.phase }, { on := 5, ground := Ground.phase }, { on := 6, ground := Ground.phase }], guard := none } : Oper)) rfl (fun K hK => ?_) AllReadyH.nil
    go_simp
    refine hK.out _ _ (keepS6 (Nat.ne_of_lt (Nat.lt_of_lt_of_le pal lb5159)) (Nat.ne_of_lt (Nat.lt_of_lt_of_le pbl lb5159)) lb5159 hS6) (fun hS7 => ?_)
    clear hK K t0' t1' t2' u0' u1' u2'
    (try simp only [Act.put, List.setIfInBounds_toArray, List.set_cons_zero, List.set_cons_succ])
    refine wpAnyH_done (by kernel_rfl) ?_ _
    exact ⟨gx, gy, wd.heap.size, wa114.heap.size, rfl, set3_owns q1 (owns_nebag q1 p5 (by decide)) _ _ _, set3_owns q3 (owns_nebag q3 p5 (by decide)) _ _ _, (set3_other hne _ _ _).trans p4, set3_block p5 _ _ _, Nat.ne_of_lt hgxy, lb4118, lb5159, hS7.2⟩
  refine AllReadyH.cons (o := ({ dst := some 8, op := Op.alloc 24, type := 0, pos := "law.go:115", after := #[], guard := none } : Oper)) rfl (fun K hK => ?_) AllReadyH.nil
  go_simp
  refine hK.out _ _ (keep6 ((Gr.refl _).alloc _) hHeld) (fun hH177 => ?_)
  clear hK K
  (try simp only [Act.put, List.setIfInBounds_toArray, List.set_cons_zero, List.set_cons_succ])
  have b5_179 := new_block wd (.cells #[.bool false, .slice none 0 0, .int .i64 0] 24)
  have gg178 := (Gr.refl wd).alloc (.cells #[.bool false, .slice none 0 0, .int .i64 0] 24)
  have lb5180 := hHeld.2.size
  generalize wd.alloc (.cells #[.bool false, .slice none 0 0, .int .i64 0] 24) = wa176 at *
  refine wpAnyH_ready (rs := [1, 4]) (by kernel_rfl) (by simp) ?_
  refine AllReadyH.cons (o := ({ dst := some 40, op := Op.call { callee := Callee.value (Operand.func 8), args := #[Operand.tmp 39], argTypes := #[24] }, type := 24, pos := "law.go:115", after := #[{ on := 0, ground := Ground.data }], guard := none } : Oper)) rfl (fun K hK => ?_) ?_
  · go_simp
    refine (LX.out _ hH177.2).mono ?_
    rintro r wc181 ⟨gx, rfl, ho184, gg183⟩
    refine hK.out _ _ (keep6 gg183 hH177) (fun hH182 => ?_)
    clear hK K
    (try simp only [Act.put, List.setIfInBounds_toArray, List.set_cons_zero, List.set_cons_succ])
    have b5_185 := gg183.keepH b5_179
    clear b5_179
    have o1_186 := owns_low ho184 hH177.2.size
    clear ho184
    refine wpAnyH_ready (rs := [3, 4]) (by kernel_rfl) (by simp) ?_
    refine AllReadyH.cons (o := ({ dst := some 42, op := Op.call { callee := Callee.value (Operand.func 8), args := #[Operand.tmp 41], argTypes := #[24] }, type := 24, pos := "law.go:115", after := #[{ on := 2, ground := Ground.data }, { on := 1, ground := Ground.chain }], guard := none } : Oper)) rfl (fun K hK => ?_) ?_
    · go_simp
      refine (LY.out _ hH182.2).mono ?_
      rintro r wc187 ⟨gy, rfl, ho190, gg189⟩
      refine hK.out _ _ (keep6 gg189 hH182) (fun hH188 => ?_)
      clear hK K
      (try simp only [Act.put, List.setIfInBounds_toArray, List.set_cons_zero, List.set_cons_succ])
      have hgxy : gx < gy := Nat.lt_of_lt_of_le (o1_186.lt gx rfl).2 (ho190.lt gy rfl).1
      have o1_191 := gg189.owns o1_186
      clear o1_186
      have b5_192 := gg189.keepH b5_185
      clear b5_185
      have o3_193 := owns_low ho190 hH182.2.size
      clear ho190
      refine wpAnyH_ready (rs := [4]) (by kernel_rfl) (by simp) ?_
      refine AllReadyH.cons (o := ({ dst := some 7, op := Op.alloc 24, type := 0, pos := "law.go:115", after := #[], guard := none } : Oper)) rfl (fun K hK => ?_) AllReadyH.nil
      go_simp
      refine hK.out _ _ (keep6 ((Gr.refl _).alloc _) hH188) (fun hH195 => ?_)
      clear hK K
      (try simp only [Act.put, List.setIfInBounds_toArray, List.set_cons_zero, List.set_cons_succ])
      have b4_197 := new_block wc187 (.cells #[.bool false, .slice none 0 0, .int .i64 0] 24)
      have gg196 := (Gr.refl wc187).alloc (.cells #[.bool false, .slice none 0 0, .int .i64 0] 24)
      have lb4198 := hH188.2.size
      have hne : wd.heap.size ≠ wc187.heap.size := Nat.ne_of_lt (lt_of_heap b5_192)
      have o1_199 := gg196.owns o1_191
      clear o1_191
      have o3_200 := gg196.owns o3_193
      clear o3_193
      have b5_201 := gg196.keepH b5_192
      clear b5_192
      generalize wc187.alloc (.cells #[.bool false, .slice none 0 0, .int .i64 0] 24) = wa194 at *
      obtain ⟨t0', t1', t2', u0', u1', u2'⟩ := Out3.of b4_197
      refine wpAnyH_ready (rs := [6]) (by kernel_rfl) (by simp) ?_
      refine AllReadyH.cons (o := ({ dst := none, op := Op.store 24 (Operand.tmp 7) (Operand.tmp 40), type := 0, pos := "law.go:115", after := #[{ on := 4, ground := Ground.data }, { on := 1, ground := Ground.data }, { on := 3, ground := Ground.chain }, { on := 0, ground := Ground.phase }, { on := 1, ground := Ground.phase }, { on := 2, ground := Ground.textOnly Departure.lateStores }, { on := 3, ground := Ground.textOnly Departure.lateStoresUnsure }, { on := 4, ground := Ground.phase }, { on := 5, ground := Ground.phase }], guard := none } : Oper)) rfl (fun K hK => ?_) AllReadyH.nil
      go_simp
      refine hK.out _ _ (keepS6 (Nat.ne_of_lt (Nat.lt_of_lt_of_le pal lb4198)) (Nat.ne_of_lt (Nat.lt_of_lt_of_le pbl lb4198)) lb4198 hH195) (fun hS6 => ?_)
      clear hK K t0' t1' t2' u0' u1' u2'
      (try simp only [Act.put, List.setIfInBounds_toArray, List.set_cons_zero, List.set_cons_succ])
      have p4 := set3_block b4_197 (.bool s) (.slice (some ⟨gx, 0, none⟩) n1 (n1 + 12)) (.int .i64 e)
      have p5 := (set3_other (Ne.symm (Ne.symm hne)) (.bool s) (.slice (some ⟨gx, 0, none⟩) n1 (n1 + 12)) (.int .i64 e)).trans b5_201
      have q1 := set3_owns o1_199 (owns_nebag o1_199 b4_197 (by decide)) (.bool s) (.slice (some ⟨gx, 0, none⟩) n1 (n1 + 12)) (.int .i64 e)
      have q3 := set3_owns o3_200 (owns_nebag o3_200 b4_197 (by decide)) (.bool s) (.slice (some ⟨gx, 0, none⟩) n1 (n1 + 12)) (.int .i64 e)
      generalize (((wa194.setCell ⟨wc187.heap.size, 0, none⟩ (.bool s)).setCell ⟨wc187.heap.size, 1, none⟩ (.slice (some ⟨gx, 0, none⟩) n1 (n1 + 12))).setCell ⟨wc187.heap.size, 2, none⟩ (.int .i64 e)) = ws at *
      obtain ⟨t0', t1', t2', u0', u1', u2'⟩ := Out3.of p5
      refine wpAnyH_ready (rs := [7]) (by kernel_rfl) (by simp) ?_
      refine AllReadyH.cons (o := ({ dst := none, op := Op.store 24 (Operand.tmp 8) (Operand.tmp 42), type := 0, pos := "law.go:115", after := #[{ on := 5, ground := Ground.data }, { on := 3, ground := Ground.data }, { on := 6, ground := Ground.chain }, { on := 0, ground := Ground.phase }, { on := 1, ground := Ground.phase }, { on := 2, ground := Ground.phase }, { on := 3, ground := Ground.phase }, { on := 4, ground := Ground.phase }, { on := 5, ground := Ground.phase }, { on := 6, ground := Ground.phase }], guard := none } : Oper)) rfl (fun K hK => ?_) AllReadyH.nil
      go_simp
      refine hK.out _ _ (keepS6 (Nat.ne_of_lt (Nat.lt_of_lt_of_le pal lb5180)) (Nat.ne_of_lt (Nat.lt_of_lt_of_le pbl lb5180)) lb5180 hS6) (fun hS7 => ?_)
      clear hK K t0' t1' t2' u0' u1' u2'
      (try simp only [Act.put, List.setIfInBounds_toArray, List.set_cons_zero, List.set_cons_succ])
      refine wpAnyH_done (by kernel_rfl) ?_ _
      exact ⟨gx, gy, wc187.heap.size, wd.heap.size, rfl, set3_owns q1 (owns_nebag q1 p5 (by decide)) _ _ _, set3_owns q3 (owns_nebag q3 p5 (by decide)) _ _ _, (set3_other (Ne.symm hne) _ _ _).trans p4, set3_block p5 _ _ _, Nat.ne_of_lt hgxy, lb4198, lb5180, hS7.2⟩
    refine AllReadyH.cons (o := ({ dst := some 7, op := Op.alloc 24, type := 0, pos := "law.go:115", after := #[], guard := none } : Oper)) rfl (fun K hK => ?_) AllReadyH.nil
    go_simp
    refine hK.out _ _ (keep6 ((Gr.refl _).alloc _) hH182) (fun hH203 => ?_)
    clear hK K
    (try simp only [Act.put, List.setIfInBounds_toArray, List.set_cons_zero, List.set_cons_succ])
    have b4_205 := new_block wc181 (.cells #[.bool false, .slice none 0 0, .int .i64 0] 24)
    have gg204 := (Gr.refl wc181).alloc (.cells #[.bool false, .slice none 0 0, .int .i64 0] 24)
    have lb4206 := hH182.2.size
    have hne : wd.heap.size ≠ wc181.heap.size := Nat.ne_of_lt (lt_of_heap b5_185)
    have o1_207 := gg204.owns o1_186
    clear o1_186
    have b5_208 := gg204.keepH b5_185
    clear b5_185
    generalize wc181.alloc (.cells #[.bool false, .slice none 0 0, .int .i64 0] 24) = wa202 at *
    refine wpAnyH_ready (rs := [3]) (by kernel_rfl) (by simp) ?_
    refine AllReadyH.cons (o := ({ dst := some 42, op := Op.call { callee := Callee.value (Operand.func 8), args := #[Operand.tmp 41], argTypes := #[24] }, type := 24, pos := "law.go:115", after := #[{ on := 2, ground := Ground.data }, { on := 1, ground := Ground.chain }], guard := none } : Oper)) rfl (fun K hK => ?_) AllReadyH.nil
    go_simp
    refine (LY.out _ hH203.2).mono ?_
    rintro r wc209 ⟨gy, rfl, ho212, gg211⟩
    refine hK.out _ _ (keep6 gg211 hH203) (fun hH210 => ?_)
    clear hK K
    (try simp only [Act.put, List.setIfInBounds_toArray, List.set_cons_zero, List.set_cons_succ])
    have hgxy : gx < gy := Nat.lt_of_lt_of_le (o1_207.lt gx rfl).2 (ho212.lt gy rfl).1
    have o1_213 := gg211.owns o1_207
    clear o1_207
    have b4_214 := gg211.keepH b4_205
    clear b4_205
    have b5_215 := gg211.keepH b5_208
    clear b5_208
    have o3_216 := owns_low ho212 hH203.2.size
    clear ho212
    obtain ⟨t0', t1', t2', u0', u1', u2'⟩ := Out3.of b4_214
    refine wpAnyH_ready (rs := [6]) (by kernel_rfl) (by simp) ?_
    refine AllReadyH.cons (o := ({ dst := none, op := Op.store 24 (Operand.tmp 7) (Operand.tmp 40), type := 0, pos := "law.go:115", after := #[{ on := 4, ground := Ground.data }, { on := 1, ground := Ground.data }, { on := 3, ground := Ground.chain }, { on := 0, ground := Ground.phase }, { on := 1, ground := Ground.phase }, { on := 2, ground := Ground.textOnly Departure.lateStores }, { on := 3, ground := Ground.textOnly Departure.lateStoresUnsure }, { on := 4, ground := Ground.phase }, { on := 5, ground := Ground.phase }], guard := none } : Oper)) rfl (fun K hK => ?_) AllReadyH.nil
    go_simp
    refine hK.out _ _ (keepS6 (Nat.ne_of_lt (Nat.lt_of_lt_of_le pal lb4206)) (Nat.ne_of_lt (Nat.lt_of_lt_of_le pbl lb4206)) lb4206 hH210) (fun hS6 => ?_)
    clear hK K t0' t1' t2' u0' u1' u2'
    (try simp only [Act.put, List.setIfInBounds_toArray, List.set_cons_zero, List.set_cons_succ])
    have p4 := set3_block b4_214 (.bool s) (.slice (some ⟨gx, 0, none⟩) n1 (n1 + 12)) (.int .i64 e)
    have p5 := (set3_other (Ne.symm (Ne.symm hne)) (.bool s) (.slice (some ⟨gx, 0, none⟩) n1 (n1 + 12)) (.int .i64 e)).trans b5_215
    have q1 := set3_owns o1_213 (owns_nebag o1_213 b4_214 (by decide)) (.bool s) (.slice (some ⟨gx, 0, none⟩) n1 (n1 + 12)) (.int .i64 e)
    have q3 := set3_owns o3_216 (owns_nebag o3_216 b4_214 (by decide)) (.bool s) (.slice (some ⟨gx, 0, none⟩) n1 (n1 + 12)) (.int .i64 e)
    generalize (((wc209.setCell ⟨wc181.heap.size, 0, none⟩ (.bool s)).setCell ⟨wc181.heap.size, 1, none⟩ (.slice (some ⟨gx, 0, none⟩) n1 (n1 + 12))).setCell ⟨wc181.heap.size, 2, none⟩ (.int .i64 e)) = ws at *
    obtain ⟨t0', t1', t2', u0', u1', u2'⟩ := Out3.of p5
    refine wpAnyH_ready (rs := [7]) (by kernel_rfl) (by simp) ?_
    refine AllReadyH.cons (o := ({ dst := none, op := Op.store 24 (Operand.tmp 8) (Operand.tmp 42), type := 0, pos := "law.go:115", after := #[{ on := 5, ground := Ground.data }, { on := 3, ground := Ground.data }, { on := 6, ground := Ground.chain }, { on := 0, ground := Ground.phase }, { on := 1, ground := Ground.phase }, { on := 2, ground := Ground.phase }, { on := 3, ground := Ground.phase }, { on := 4, ground := Ground.phase }, { on := 5, ground := Ground.phase }, { on := 6, ground := Ground.phase }], guard := none } : Oper)) rfl (fun K hK => ?_) AllReadyH.nil
    go_simp
    refine hK.out _ _ (keepS6 (Nat.ne_of_lt (Nat.lt_of_lt_of_le pal lb5180)) (Nat.ne_of_lt (Nat.lt_of_lt_of_le pbl lb5180)) lb5180 hS6) (fun hS7 => ?_)
    clear hK K t0' t1' t2' u0' u1' u2'
    (try simp only [Act.put, List.setIfInBounds_toArray, List.set_cons_zero, List.set_cons_succ])
    refine wpAnyH_done (by kernel_rfl) ?_ _
    exact ⟨gx, gy, wc181.heap.size, wd.heap.size, rfl, set3_owns q1 (owns_nebag q1 p5 (by decide)) _ _ _, set3_owns q3 (owns_nebag q3 p5 (by decide)) _ _ _, (set3_other (Ne.symm hne) _ _ _).trans p4, set3_block p5 _ _ _, Nat.ne_of_lt hgxy, lb4206, lb5180, hS7.2⟩
  refine AllReadyH.cons (o := ({ dst := some 7, op := Op.alloc 24, type := 0, pos := "law.go:115", after := #[], guard := none } : Oper)) rfl (fun K hK => ?_) AllReadyH.nil
  go_simp
  refine hK.out _ _ (keep6 ((Gr.refl _).alloc _) hH177) (fun hH218 => ?_)
  clear hK K
  (try simp only [Act.put, List.setIfInBounds_toArray, List.set_cons_zero, List.set_cons_succ])
  have b4_220 := new_block wa176 (.cells #[.bool false, .slice none 0 0, .int .i64 0] 24)
  have gg219 := (Gr.refl wa176).alloc (.cells #[.bool false, .slice none 0 0, .int .i64 0] 24)
  have lb4221 := hH177.2.size
  have hne : wd.heap.size ≠ wa176.heap.size := Nat.ne_of_lt (lt_of_heap b5_179)
  have b5_222 := gg219.keepH b5_179
  clear b5_179
  generalize wa176.alloc (.cells #[.bool false, .slice none 0 0, .int .i64 0] 24) = wa217 at *
  refine wpAnyH_ready (rs := [1]) (by kernel_rfl) (by simp) ?_
  refine AllReadyH.cons (o := ({ dst := some 40, op := Op.call { callee := Callee.value (Operand.func 8), args := #[Operand.tmp 39], argTypes := #[24] }, type := 24, pos := "law.go:115", after := #[{ on := 0, ground := Ground.data }], guard := none } : Oper)) rfl (fun K hK => ?_) AllReadyH.nil
  go_simp
  refine (LX.out _ hH218.2).mono ?_
  rintro r wc223 ⟨gx, rfl, ho226, gg225⟩
  refine hK.out _ _ (keep6 gg225 hH218) (fun hH224 => ?_)
  clear hK K
  (try simp only [Act.put, List.setIfInBounds_toArray, List.set_cons_zero, List.set_cons_succ])
  have b4_227 := gg225.keepH b4_220
  clear b4_220
  have b5_228 := gg225.keepH b5_222
  clear b5_222
  have o1_229 := owns_low ho226 hH218.2.size
  clear ho226
  refine wpAnyH_ready (rs := [3]) (by kernel_rfl) (by simp) ?_
  refine AllReadyH.cons (o := ({ dst := some 42, op := Op.call { callee := Callee.value (Operand.func 8), args := #[Operand.tmp 41], argTypes := #[24] }, type := 24, pos := "law.go:115", after := #[{ on := 2, ground := Ground.data }, { on := 1, ground := Ground.chain }], guard := none } : Oper)) rfl (fun K hK => ?_) AllReadyH.nil
  go_simp
  refine (LY.out _ hH224.2).mono ?_
  rintro r wc230 ⟨gy, rfl, ho233, gg232⟩
  refine hK.out _ _ (keep6 gg232 hH224) (fun hH231 => ?_)
  clear hK K
  (try simp only [Act.put, List.setIfInBounds_toArray, List.set_cons_zero, List.set_cons_succ])
  have hgxy : gx < gy := Nat.lt_of_lt_of_le (o1_229.lt gx rfl).2 (ho233.lt gy rfl).1
  have o1_234 := gg232.owns o1_229
  clear o1_229
  have b4_235 := gg232.keepH b4_227
  clear b4_227
  have b5_236 := gg232.keepH b5_228
  clear b5_228
  have o3_237 := owns_low ho233 hH224.2.size
  clear ho233
  obtain ⟨t0', t1', t2', u0', u1', u2'⟩ := Out3.of b4_235
  refine wpAnyH_ready (rs := [6]) (by kernel_rfl) (by simp) ?_
  refine AllReadyH.cons (o := ({ dst := none, op := Op.store 24 (Operand.tmp 7) (Operand.tmp 40), type := 0, pos := "law.go:115", after := #[{ on := 4, ground := Ground.data }, { on := 1, ground := Ground.data }, { on := 3, ground := Ground.chain }, { on := 0, ground := Ground.phase }, { on := 1, ground := Ground.phase }, { on := 2, ground := Ground.textOnly Departure.lateStores }, { on := 3, ground := Ground.textOnly Departure.lateStoresUnsure }, { on := 4, ground := Ground.phase }, { on := 5, ground := Ground.phase }], guard := none } : Oper)) rfl (fun K hK => ?_) AllReadyH.nil
  go_simp
  refine hK.out _ _ (keepS6 (Nat.ne_of_lt (Nat.lt_of_lt_of_le pal lb4221)) (Nat.ne_of_lt (Nat.lt_of_lt_of_le pbl lb4221)) lb4221 hH231) (fun hS6 => ?_)
  clear hK K t0' t1' t2' u0' u1' u2'
  (try simp only [Act.put, List.setIfInBounds_toArray, List.set_cons_zero, List.set_cons_succ])
  have p4 := set3_block b4_235 (.bool s) (.slice (some ⟨gx, 0, none⟩) n1 (n1 + 12)) (.int .i64 e)
  have p5 := (set3_other (Ne.symm (Ne.symm hne)) (.bool s) (.slice (some ⟨gx, 0, none⟩) n1 (n1 + 12)) (.int .i64 e)).trans b5_236
  have q1 := set3_owns o1_234 (owns_nebag o1_234 b4_235 (by decide)) (.bool s) (.slice (some ⟨gx, 0, none⟩) n1 (n1 + 12)) (.int .i64 e)
  have q3 := set3_owns o3_237 (owns_nebag o3_237 b4_235 (by decide)) (.bool s) (.slice (some ⟨gx, 0, none⟩) n1 (n1 + 12)) (.int .i64 e)
  generalize (((wc230.setCell ⟨wa176.heap.size, 0, none⟩ (.bool s)).setCell ⟨wa176.heap.size, 1, none⟩ (.slice (some ⟨gx, 0, none⟩) n1 (n1 + 12))).setCell ⟨wa176.heap.size, 2, none⟩ (.int .i64 e)) = ws at *
  obtain ⟨t0', t1', t2', u0', u1', u2'⟩ := Out3.of p5
  refine wpAnyH_ready (rs := [7]) (by kernel_rfl) (by simp) ?_
  refine AllReadyH.cons (o := ({ dst := none, op := Op.store 24 (Operand.tmp 8) (Operand.tmp 42), type := 0, pos := "law.go:115", after := #[{ on := 5, ground := Ground.data }, { on := 3, ground := Ground.data }, { on := 6, ground := Ground.chain }, { on := 0, ground := Ground.phase }, { on := 1, ground := Ground.phase }, { on := 2, ground := Ground.phase }, { on := 3, ground := Ground.phase }, { on := 4, ground := Ground.phase }, { on := 5, ground := Ground.phase }, { on := 6, ground := Ground.phase }], guard := none } : Oper)) rfl (fun K hK => ?_) AllReadyH.nil
  go_simp
  refine hK.out _ _ (keepS6 (Nat.ne_of_lt (Nat.lt_of_lt_of_le pal lb5180)) (Nat.ne_of_lt (Nat.lt_of_lt_of_le pbl lb5180)) lb5180 hS6) (fun hS7 => ?_)
  clear hK K t0' t1' t2' u0' u1' u2'
  (try simp only [Act.put, List.setIfInBounds_toArray, List.set_cons_zero, List.set_cons_succ])
  refine wpAnyH_done (by kernel_rfl) ?_ _
  exact ⟨gx, gy, wa176.heap.size, wd.heap.size, rfl, set3_owns q1 (owns_nebag q1 p5 (by decide)) _ _ _, set3_owns q3 (owns_nebag q3 p5 (by decide)) _ _ _, (set3_other (Ne.symm hne) _ _ _).trans p4, set3_block p5 _ _ _, Nat.ne_of_lt hgxy, lb4221, lb5180, hS7.2⟩
end Go.Proofs.YtbkkpbffdnhidaaGreatDoor
