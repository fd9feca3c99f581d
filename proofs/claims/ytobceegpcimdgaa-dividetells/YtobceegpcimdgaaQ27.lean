import Derived.Test.YtobceegpcimdgaaQ24
import Derived.Test.YtobceegpcimdgaaQ26
namespace Go.Proofs.Ytobceegpcimdgaa
open Go.RowKit
set_option linter.unusedVariables false
set_option linter.unusedSimpArgs false

def LntK (B : Nat) (w : World) (g n : Nat) (xs : List Nat) : Prop := w.ownsRow B 51 1 (.slice (some ⟨g, 0, none⟩) (n + 12) (n + 12)) (n + 12) (u64s (xs ++ ml 1 12))
theorem LntK.gr {B : Nat} {w w' : World} {g n : Nat} {xs : List Nat} (h : LntK B w g n xs) (k : Gr w w') : LntK B w' g n xs := k.owns h
theorem LntK.set2 {B : Nat} {w : World} {g n : Nat} {xs : List Nat} (h : LntK B w g n xs) {q : Nat} {cs : Array Value} {T : TypeId} (hb : w.heap[q]? = some (.cells cs T)) (v0 v1 : Value) (hT : T ≠ 51) : LntK B ((w.setCell ⟨q, 0, none⟩ v0).setCell ⟨q, 1, none⟩ v1) g n xs := by
  have hne : g ≠ q := Fresh.ne (ad := some ⟨g, 0, none⟩) ⟨_, h⟩ hb hT _ rfl
  have hob : (Value.slice (some ⟨g, 0, none⟩) (n + 12) (n + 12)).ownBlock ≠ some q := fun e => by simp [Value.ownBlock] at e; omega
  exact owns_far (owns_far h hob 0 v0) hob 1 v1
theorem LntK.row {B : Nat} {w : World} {g n : Nat} {xs : List Nat} (h : LntK B w g n xs) (hl : xs.length = n) : Row w (some ⟨g, 0, none⟩) n (n + 12) xs := row_take (row_own h) hl
def RDt5 (t0 t1 t4 t5 t6 t7 t8 t9 t10 t11 t12 t13 t14 t15 t16 t17 t18 t19 t20 t21 t22 t23 t24 t25 t26 t27 t28 t29 t30 t31 t32 t33 t34 t35 t36 t37 t38 t39 t40 t41 t42 t43 t44 t45 t46 t47 t48 t49 t50 t51 t52 t53 t54 t55 t56 t57 t58 t59 t60 t61 t62 t63 t64 t65 t66 t67 t68 t69 t70 t71 t72 t73 t74 t75 t76 t77 t78 t79 t80 t81 t82 t83 t84 t85 t86 t87 t88 t89 t90 t91 t92 t93 t94 t95 t96 t97 t98 t99 t100 t101 t102 t103 t104 t105 t106 t107 t108 t109 t110 t111 t112 t113 t114 t115 t116 t117 t118 t119 t120 t121 t122 t123 t124 t125 t126 t127 t128 t129 t130 t131 t132 t133 t134 t135 t136 t137 t138 t139 t140 t141 t142 t143 t144 t145 t146 t147 t148 t149 t150 t151 t152 t153 t154 t155 : Value) (pa pb n1 c1 n2 c2 z : Nat) (s1 s2 : Bool) (a1 a2 : Option Addr) (xs ys : List Nat) (w0 : World) (wq : World) : Exit → Act → World → Prop
  | .normal, a, w => ∃ u35 u36 u37 u38 p5 p6 g7 g8, a = { tmps := #[t0, t1, .pointer (some ⟨pa, 0, none⟩), .pointer (some ⟨pb, 0, none⟩), t4, .pointer (some ⟨p5, 0, none⟩), .pointer (some ⟨p6, 0, none⟩), t7, t8, t9, t10, t11, t12, t13, t14, t15, t16, t17, t18, t19, t20, t21, t22, t23, t24, t25, t26, t27, t28, t29, t30, t31, t32, t33, t34, u35, u36, u37, u38, t39, t40, t41, t42, t43, t44, t45, t46, t47, t48, t49, t50, t51, t52, t53, t54, t55, t56, t57, t58, t59, t60, t61, t62, t63, t64, t65, t66, t67, t68, t69, t70, t71, t72, t73, t74, t75, t76, t77, t78, t79, t80, t81, t82, t83, t84, t85, t86, t87, t88, t89, t90, t91, t92, t93, t94, t95, t96, t97, t98, t99, t100, t101, t102, t103, t104, t105, t106, t107, t108, t109, t110, t111, t112, t113, t114, t115, t116, t117, t118, t119, t120, t121, t122, t123, t124, t125, t126, t127, t128, t129, t130, t131, t132, t133, t134, t135, t136, t137, t138, t139, t140, t141, t142, t143, t144, t145, t146, t147, t148, t149, t150, t151, t152, t153, t154, t155], defers := [] } ∧ w.heap[p5]? = some (.cells #[.bool s1, .slice (some ⟨g7, 0, none⟩) n1 (n1 + 12)] 24) ∧ w.heap[p6]? = some (.cells #[.bool s2, .slice (some ⟨g8, 0, none⟩) n2 (n2 + 12)] 24) ∧ LntK z w g7 n1 xs ∧ LntK z w g8 n2 ys ∧ Gr w0 w
  | _, _, _ => False
set_option maxRecDepth 100000 in
set_option maxHeartbeats 20000000 in
theorem regDt5 (t0 t1 t4 t5 t6 t7 t8 t9 t10 t11 t12 t13 t14 t15 t16 t17 t18 t19 t20 t21 t22 t23 t24 t25 t26 t27 t28 t29 t30 t31 t32 t33 t34 t35 t36 t37 t38 t39 t40 t41 t42 t43 t44 t45 t46 t47 t48 t49 t50 t51 t52 t53 t54 t55 t56 t57 t58 t59 t60 t61 t62 t63 t64 t65 t66 t67 t68 t69 t70 t71 t72 t73 t74 t75 t76 t77 t78 t79 t80 t81 t82 t83 t84 t85 t86 t87 t88 t89 t90 t91 t92 t93 t94 t95 t96 t97 t98 t99 t100 t101 t102 t103 t104 t105 t106 t107 t108 t109 t110 t111 t112 t113 t114 t115 t116 t117 t118 t119 t120 t121 t122 t123 t124 t125 t126 t127 t128 t129 t130 t131 t132 t133 t134 t135 t136 t137 t138 t139 t140 t141 t142 t143 t144 t145 t146 t147 t148 t149 t150 t151 t152 t153 t154 t155 : Value) (pa pb n1 c1 n2 c2 z : Nat) (s1 s2 : Bool) (a1 a2 : Option Addr) (xs ys : List Nat) (w0 : World) (wq : World)
    (X1 : Hid (∀ w1, Gr w0 w1 → Calls Try.prog 9 #[.agg #[.bool s1, .slice a1 n1 c1]] w1 fun r w' => ∃ g, r = .returned (.agg #[.bool s1, .slice (some ⟨g, 0, none⟩) n1 (n1 + 12)]) ∧ LntK z w' g n1 xs ∧ Gr w1 w'))
    (X2 : Hid (∀ w1, Gr w0 w1 → Calls Try.prog 9 #[.agg #[.bool s2, .slice a2 n2 c2]] w1 fun r w' => ∃ g, r = .returned (.agg #[.bool s2, .slice (some ⟨g, 0, none⟩) n2 (n2 + 12)]) ∧ LntK z w' g n2 ys ∧ Gr w1 w')) (hpa : pa < w0.heap.size) (hpb : pb < w0.heap.size) (G0 : Gr w0 wq) (hcs : (wq.cell? ⟨pa, 0, none⟩ = some (.bool s1) ∧ wq.cell? ⟨pa, 1, none⟩ = some (.slice a1 n1 c1) ∧ wq.cell? ⟨pb, 0, none⟩ = some (.bool s2) ∧ wq.cell? ⟨pb, 1, none⟩ = some (.slice a2 n2 c2))) :
    Code.wp Try.prog (Code.region 5 #[{ dst := some 35, op := Op.load 24 (Operand.tmp 2), type := 24, pos := "law.go:35", after := #[], guard := none }, { dst := some 36, op := Op.call { callee := Callee.value (Operand.func 9), args := #[Operand.tmp 35], argTypes := #[24] }, type := 24, pos := "law.go:35", after := #[{ on := 0, ground := Ground.data }], guard := none }, { dst := some 37, op := Op.load 24 (Operand.tmp 3), type := 24, pos := "law.go:35", after := #[], guard := none }, { dst := some 38, op := Op.call { callee := Callee.value (Operand.func 9), args := #[Operand.tmp 37], argTypes := #[24] }, type := 24, pos := "law.go:35", after := #[{ on := 2, ground := Ground.data }, { on := 1, ground := Ground.chain }], guard := none }, { dst := some 5, op := Op.alloc 24, type := 0, pos := "law.go:35", after := #[], guard := none }, { dst := some 6, op := Op.alloc 24, type := 0, pos := "law.go:35", after := #[], guard := none }, { dst := none, op := Op.store 24 (Operand.tmp 5) (Operand.tmp 36), type := 0, pos := "law.go:35", after := #[{ on := 4, ground := Ground.data }, { on := 1, ground := Ground.data }, { on := 3, ground := Ground.chain }, { on := 0, ground := Ground.phase }, { on := 1, ground := Ground.phase }, { on := 2, ground := Ground.textOnly Departure.lateStores }, { on := 3, ground := Ground.textOnly Departure.lateStoresUnsure }, { on := 4, ground := Ground.phase }, { on := 5, ground := Ground.phase }], guard := none }, { dst := none, op := Op.store 24 (Operand.tmp 6) (Operand.tmp 38), type := 0, pos := "law.go:35", after := #[{ on := 5, ground := Ground.data }, { on := 3, ground := Ground.data }, { on := 6, ground := Ground.chain }, { on := 0, ground := Ground.phase }, { on := 1, ground := Ground.phase }, { on := 2, ground := Ground.phase }, { on := 3, ground := Ground.phase }, { on := 4, ground := Ground.phase }, { on := 5, ground := Ground.phase }, { on := 6, ground := Ground.phase }], guard := none }] true) (RDt5 t0 t1 t4 t5 t6 t7 t8 t9 t10 t11 t12 t13 t14 t15 t16 t17 t18 t19 t20 t21 t22 t23 t24 t25 t26 t27 t28 t29 t30 t31 t32 t33 t34 t35 t36 t37 t38 t39 t40 t41 t42 t43 t44 t45 t46 t47 t48 t49 t50 t51 t52 t53 t54 t55 t56 t57 t58 t59 t60 t61 t62 t63 t64 t65 t66 t67 t68 t69 t70 t71 t72 t73 t74 t75 t76 t77 t78 t79 t80 t81 t82 t83 t84 t85 t86 t87 t88 t89 t90 t91 t92 t93 t94 t95 t96 t97 t98 t99 t100 t101 t102 t103 t104 t105 t106 t107 t108 t109 t110 t111 t112 t113 t114 t115 t116 t117 t118 t119 t120 t121 t122 t123 t124 t125 t126 t127 t128 t129 t130 t131 t132 t133 t134 t135 t136 t137 t138 t139 t140 t141 t142 t143 t144 t145 t146 t147 t148 t149 t150 t151 t152 t153 t154 t155 pa pb n1 c1 n2 c2 z s1 s2 a1 a2 xs ys w0 wq) { tmps := #[t0, t1, .pointer (some ⟨pa, 0, none⟩), .pointer (some ⟨pb, 0, none⟩), t4, t5, t6, t7, t8, t9, t10, t11, t12, t13, t14, t15, t16, t17, t18, t19, t20, t21, t22, t23, t24, t25, t26, t27, t28, t29, t30, t31, t32, t33, t34, t35, t36, t37, t38, t39, t40, t41, t42, t43, t44, t45, t46, t47, t48, t49, t50, t51, t52, t53, t54, t55, t56, t57, t58, t59, t60, t61, t62, t63, t64, t65, t66, t67, t68, t69, t70, t71, t72, t73, t74, t75, t76, t77, t78, t79, t80, t81, t82, t83, t84, t85, t86, t87, t88, t89, t90, t91, t92, t93, t94, t95, t96, t97, t98, t99, t100, t101, t102, t103, t104, t105, t106, t107, t108, t109, t110, t111, t112, t113, t114, t115, t116, t117, t118, t119, t120, t121, t122, t123, t124, t125, t126, t127, t128, t129, t130, t131, t132, t133, t134, t135, t136, t137, t138, t139, t140, t141, t142, t143, t144, t145, t146, t147, t148, t149, t150, t151, t152, t153, t154, t155], defers := [] } wq := by
  have hS0 : (wq.drew.cell? ⟨pa, 0, none⟩ = some (.bool s1) ∧ wq.drew.cell? ⟨pa, 1, none⟩ = some (.slice a1 n1 c1) ∧ wq.drew.cell? ⟨pb, 0, none⟩ = some (.bool s2) ∧ wq.drew.cell? ⟨pb, 1, none⟩ = some (.slice a2 n2 c2)) ∧ Gr w0 wq.drew := ⟨hcs, G0.drew⟩
  clear hcs G0 
  refine wp_region_held_drew (S := fun w' => (w'.cell? ⟨pa, 0, none⟩ = some (.bool s1) ∧ w'.cell? ⟨pa, 1, none⟩ = some (.slice a1 n1 c1) ∧ w'.cell? ⟨pb, 0, none⟩ = some (.bool s2) ∧ w'.cell? ⟨pb, 1, none⟩ = some (.slice a2 n2 c2)) ∧ Gr w0 w') (by kernel_rfl) hS0 (fun hHeld => ?_)
  clear hS0
  generalize wq.drew = wd at *
  refine wpAnyH_take (i := 0) (oi := ({ dst := some 35, op := Op.load 24 (Operand.tmp 2), type := 24, pos := "law.go:35", after := #[], guard := none } : Oper)) (v := ?_) rfl (by kernel_rfl) (by kernel_rfl) (by kernel_rfl) (fun _ _ _ h => h) (Or.inl ⟨by rfl, ?_⟩) (by with_reducible assumption) ?_
  rotate_left
  · intro w hSw
    (try dsimp only at hSw)
    first | (go_simp; done) | (go_simp; with_reducible rfl)
  (try simp only [Act.put, List.setIfInBounds_toArray, List.set_cons_zero, List.set_cons_succ])
  refine wpAnyH_take (i := 2) (oi := ({ dst := some 37, op := Op.load 24 (Operand.tmp 3), type := 24, pos := "law.go:35", after := #[], guard := none } : Oper)) (v := ?_) rfl (by kernel_rfl) (by kernel_rfl) (by kernel_rfl) (fun _ _ _ h => h) (Or.inl ⟨by rfl, ?_⟩) (by with_reducible assumption) ?_
  rotate_left
  · intro w hSw
    (try dsimp only at hSw)
    first | (go_simp; done) | (go_simp; with_reducible rfl)
  (try simp only [Act.put, List.setIfInBounds_toArray, List.set_cons_zero, List.set_cons_succ])
  refine wpAnyH_ready (rs := [1, 4, 5]) (by kernel_rfl) (by simp) ?_
  refine AllReadyH.cons (o := ({ dst := some 36, op := Op.call { callee := Callee.value (Operand.func 9), args := #[Operand.tmp 35], argTypes := #[24] }, type := 24, pos := "law.go:35", after := #[{ on := 0, ground := Ground.data }], guard := none } : Oper)) rfl (fun K hK => ?_) ?_
  · go_simp
    with_reducible refine (X1.out _ hHeld.2).mono ?_
    rintro r wc1 ⟨g7, rfl, O7_4, gg3⟩
    refine hK.out _ _ ⟨⟨keepG gg3 hHeld.1.1, keepG gg3 hHeld.1.2.1, keepG gg3 hHeld.1.2.2.1, keepG gg3 hHeld.1.2.2.2⟩, hHeld.2.trans gg3⟩ (fun hH2 => ?_)
    have hzwc1 := hHeld.2.size
    clear hK K
    (try simp only [Act.put, List.setIfInBounds_toArray, List.set_cons_zero, List.set_cons_succ])
    refine wpAnyH_ready (rs := [3, 4, 5]) (by kernel_rfl) (by simp) ?_
    refine AllReadyH.cons (o := ({ dst := some 38, op := Op.call { callee := Callee.value (Operand.func 9), args := #[Operand.tmp 37], argTypes := #[24] }, type := 24, pos := "law.go:35", after := #[{ on := 2, ground := Ground.data }, { on := 1, ground := Ground.chain }], guard := none } : Oper)) rfl (fun K hK => ?_) ?_
    · go_simp
      with_reducible refine (X2.out _ hH2.2).mono ?_
      rintro r wc5 ⟨g8, rfl, O8_8, gg7⟩
      refine hK.out _ _ ⟨⟨keepG gg7 hH2.1.1, keepG gg7 hH2.1.2.1, keepG gg7 hH2.1.2.2.1, keepG gg7 hH2.1.2.2.2⟩, hH2.2.trans gg7⟩ (fun hH6 => ?_)
      have hzwc5 := hH2.2.size
      clear hK K
      (try simp only [Act.put, List.setIfInBounds_toArray, List.set_cons_zero, List.set_cons_succ])
      have O7_9 := O7_4.gr gg7
      clear O7_4
      refine wpAnyH_ready (rs := [4, 5]) (by kernel_rfl) (by simp) ?_
      refine AllReadyH.cons (o := ({ dst := some 5, op := Op.alloc 24, type := 0, pos := "law.go:35", after := #[], guard := none } : Oper)) rfl (fun K hK => ?_) ?_
      · go_simp
        refine hK.out _ _ ⟨⟨keepG ((Gr.refl wc5).alloc (.cells #[.bool false, .slice none 0 0] 24)) hH6.1.1, keepG ((Gr.refl wc5).alloc (.cells #[.bool false, .slice none 0 0] 24)) hH6.1.2.1, keepG ((Gr.refl wc5).alloc (.cells #[.bool false, .slice none 0 0] 24)) hH6.1.2.2.1, keepG ((Gr.refl wc5).alloc (.cells #[.bool false, .slice none 0 0] 24)) hH6.1.2.2.2⟩, hH6.2.trans ((Gr.refl wc5).alloc (.cells #[.bool false, .slice none 0 0] 24))⟩ (fun hH11 => ?_)
        clear hK K
        (try simp only [Act.put, List.setIfInBounds_toArray, List.set_cons_zero, List.set_cons_succ])
        have N5_13 := blk1 wc5 (.cells #[.bool false, .slice none 0 0] 24)
        have gg12 := (Gr.refl wc5).alloc (.cells #[.bool false, .slice none 0 0] 24)
        have lN514 := hH6.2.size
        have O7_15 := O7_9.gr gg12
        clear O7_9
        have O8_16 := O8_8.gr gg12
        clear O8_8
        generalize wc5.alloc (.cells #[.bool false, .slice none 0 0] 24) = wa10 at *
        refine wpAnyH_ready (rs := [5]) (by kernel_rfl) (by simp) ?_
        refine AllReadyH.cons (o := ({ dst := some 6, op := Op.alloc 24, type := 0, pos := "law.go:35", after := #[], guard := none } : Oper)) rfl (fun K hK => ?_) AllReadyH.nil
        have ltN6N5 := lt_of_get2 N5_13
        go_simp
        refine hK.out _ _ ⟨⟨keepG ((Gr.refl wa10).alloc (.cells #[.bool false, .slice none 0 0] 24)) hH11.1.1, keepG ((Gr.refl wa10).alloc (.cells #[.bool false, .slice none 0 0] 24)) hH11.1.2.1, keepG ((Gr.refl wa10).alloc (.cells #[.bool false, .slice none 0 0] 24)) hH11.1.2.2.1, keepG ((Gr.refl wa10).alloc (.cells #[.bool false, .slice none 0 0] 24)) hH11.1.2.2.2⟩, hH11.2.trans ((Gr.refl wa10).alloc (.cells #[.bool false, .slice none 0 0] 24))⟩ (fun hH18 => ?_)
        clear hK K
        (try simp only [Act.put, List.setIfInBounds_toArray, List.set_cons_zero, List.set_cons_succ])
        have N6_20 := blk1 wa10 (.cells #[.bool false, .slice none 0 0] 24)
        have gg19 := (Gr.refl wa10).alloc (.cells #[.bool false, .slice none 0 0] 24)
        have lN621 := hH11.2.size
        have O7_22 := O7_15.gr gg19
        clear O7_15
        have O8_23 := O8_16.gr gg19
        clear O8_16
        have N5_24 := keepO gg19 N5_13
        clear N5_13
        generalize wa10.alloc (.cells #[.bool false, .slice none 0 0] 24) = wa17 at *
        refine wpAnyH_ready (rs := [6]) (by kernel_rfl) (by simp) ?_
        refine AllReadyH.cons (o := ({ dst := none, op := Op.store 24 (Operand.tmp 5) (Operand.tmp 36), type := 0, pos := "law.go:35", after := #[{ on := 4, ground := Ground.data }, { on := 1, ground := Ground.data }, { on := 3, ground := Ground.chain }, { on := 0, ground := Ground.phase }, { on := 1, ground := Ground.phase }, { on := 2, ground := Ground.textOnly Departure.lateStores }, { on := 3, ground := Ground.textOnly Departure.lateStoresUnsure }, { on := 4, ground := Ground.phase }, { on := 5, ground := Ground.phase }], guard := none } : Oper)) rfl (fun K hK => ?_) AllReadyH.nil
        obtain ⟨t0', t1', u0', u1'⟩ := outAny N5_24
        go_simp
        refine hK.out _ _ ⟨⟨far2 (B := wc5.heap.size) (by omega) hH18.1.1, far2 (B := wc5.heap.size) (by omega) hH18.1.2.1, far2 (B := wc5.heap.size) (by omega) hH18.1.2.2.1, far2 (B := wc5.heap.size) (by omega) hH18.1.2.2.2⟩, ((hH18.2.setCell (p := ⟨wc5.heap.size, 0, none⟩) (by show _ ≤ wc5.heap.size; omega) _).setCell (p := ⟨wc5.heap.size, 1, none⟩) (by show _ ≤ wc5.heap.size; omega) _)⟩ (fun hS25 => ?_)
        clear hK K t0' t1' u0' u1'
        (try simp only [Act.put, List.setIfInBounds_toArray, List.set_cons_zero, List.set_cons_succ])
        have O7_26 := O7_22.set2 N5_24 (.bool s1) (.slice (some ⟨g7, 0, none⟩) n1 (n1 + 12)) (by decide)
        have O8_27 := O8_23.set2 N5_24 (.bool s1) (.slice (some ⟨g7, 0, none⟩) n1 (n1 + 12)) (by decide)
        have N6_28 := heap_farW (q := wc5.heap.size) (i := 1) (v := .slice (some ⟨g7, 0, none⟩) n1 (n1 + 12)) (heap_farW (q := wc5.heap.size) (i := 0) (v := .bool s1) N6_20 (by omega)) (by omega)
        have N5_29 := put2_block N5_24 (.bool s1) (.slice (some ⟨g7, 0, none⟩) n1 (n1 + 12))
        clear O7_22 O8_23 N6_20 N5_24
        refine wpAnyH_ready (rs := [7]) (by kernel_rfl) (by simp) ?_
        refine AllReadyH.cons (o := ({ dst := none, op := Op.store 24 (Operand.tmp 6) (Operand.tmp 38), type := 0, pos := "law.go:35", after := #[{ on := 5, ground := Ground.data }, { on := 3, ground := Ground.data }, { on := 6, ground := Ground.chain }, { on := 0, ground := Ground.phase }, { on := 1, ground := Ground.phase }, { on := 2, ground := Ground.phase }, { on := 3, ground := Ground.phase }, { on := 4, ground := Ground.phase }, { on := 5, ground := Ground.phase }, { on := 6, ground := Ground.phase }], guard := none } : Oper)) rfl (fun K hK => ?_) AllReadyH.nil
        obtain ⟨t0', t1', u0', u1'⟩ := outAny N6_28
        go_simp
        refine hK.out _ _ ⟨⟨far2 (B := wa10.heap.size) (by omega) hS25.1.1, far2 (B := wa10.heap.size) (by omega) hS25.1.2.1, far2 (B := wa10.heap.size) (by omega) hS25.1.2.2.1, far2 (B := wa10.heap.size) (by omega) hS25.1.2.2.2⟩, ((hS25.2.setCell (p := ⟨wa10.heap.size, 0, none⟩) (by show _ ≤ wa10.heap.size; omega) _).setCell (p := ⟨wa10.heap.size, 1, none⟩) (by show _ ≤ wa10.heap.size; omega) _)⟩ (fun hS30 => ?_)
        clear hK K t0' t1' u0' u1'
        (try simp only [Act.put, List.setIfInBounds_toArray, List.set_cons_zero, List.set_cons_succ])
        have O7_31 := O7_26.set2 N6_28 (.bool s2) (.slice (some ⟨g8, 0, none⟩) n2 (n2 + 12)) (by decide)
        have O8_32 := O8_27.set2 N6_28 (.bool s2) (.slice (some ⟨g8, 0, none⟩) n2 (n2 + 12)) (by decide)
        have N5_33 := heap_farW (q := wa10.heap.size) (i := 1) (v := .slice (some ⟨g8, 0, none⟩) n2 (n2 + 12)) (heap_farW (q := wa10.heap.size) (i := 0) (v := .bool s2) N5_29 (by omega)) (by omega)
        have N6_34 := put2_block N6_28 (.bool s2) (.slice (some ⟨g8, 0, none⟩) n2 (n2 + 12))
        clear O7_26 O8_27 N5_29 N6_28
        refine wpAnyH_done (by kernel_rfl) ?_ _
        exact ⟨_, _, _, _, _, _, g7, g8, rfl, N5_33, N6_34, O7_31, O8_32, hS30.2⟩
      refine AllReadyH.cons (o := ({ dst := some 6, op := Op.alloc 24, type := 0, pos := "law.go:35", after := #[], guard := none } : Oper)) rfl (fun K hK => ?_) AllReadyH.nil
      go_simp
      refine hK.out _ _ ⟨⟨keepG ((Gr.refl wc5).alloc (.cells #[.bool false, .slice none 0 0] 24)) hH6.1.1, keepG ((Gr.refl wc5).alloc (.cells #[.bool false, .slice none 0 0] 24)) hH6.1.2.1, keepG ((Gr.refl wc5).alloc (.cells #[.bool false, .slice none 0 0] 24)) hH6.1.2.2.1, keepG ((Gr.refl wc5).alloc (.cells #[.bool false, .slice none 0 0] 24)) hH6.1.2.2.2⟩, hH6.2.trans ((Gr.refl wc5).alloc (.cells #[.bool false, .slice none 0 0] 24))⟩ (fun hH36 => ?_)
      clear hK K
      (try simp only [Act.put, List.setIfInBounds_toArray, List.set_cons_zero, List.set_cons_succ])
      have N6_38 := blk1 wc5 (.cells #[.bool false, .slice none 0 0] 24)
      have gg37 := (Gr.refl wc5).alloc (.cells #[.bool false, .slice none 0 0] 24)
      have lN639 := hH6.2.size
      have O7_40 := O7_9.gr gg37
      clear O7_9
      have O8_41 := O8_8.gr gg37
      clear O8_8
      generalize wc5.alloc (.cells #[.bool false, .slice none 0 0] 24) = wa35 at *
      refine wpAnyH_ready (rs := [4]) (by kernel_rfl) (by simp) ?_
      refine AllReadyH.cons (o := ({ dst := some 5, op := Op.alloc 24, type := 0, pos := "law.go:35", after := #[], guard := none } : Oper)) rfl (fun K hK => ?_) AllReadyH.nil
      have ltN5N6 := lt_of_get2 N6_38
      go_simp
      refine hK.out _ _ ⟨⟨keepG ((Gr.refl wa35).alloc (.cells #[.bool false, .slice none 0 0] 24)) hH36.1.1, keepG ((Gr.refl wa35).alloc (.cells #[.bool false, .slice none 0 0] 24)) hH36.1.2.1, keepG ((Gr.refl wa35).alloc (.cells #[.bool false, .slice none 0 0] 24)) hH36.1.2.2.1, keepG ((Gr.refl wa35).alloc (.cells #[.bool false, .slice none 0 0] 24)) hH36.1.2.2.2⟩, hH36.2.trans ((Gr.refl wa35).alloc (.cells #[.bool false, .slice none 0 0] 24))⟩ (fun hH43 => ?_)
      clear hK K
      (try simp only [Act.put, List.setIfInBounds_toArray, List.set_cons_zero, List.set_cons_succ])
      have N5_45 := blk1 wa35 (.cells #[.bool false, .slice none 0 0] 24)
      have gg44 := (Gr.refl wa35).alloc (.cells #[.bool false, .slice none 0 0] 24)
      have lN546 := hH36.2.size
      have O7_47 := O7_40.gr gg44
      clear O7_40
      have O8_48 := O8_41.gr gg44
      clear O8_41
      have N6_49 := keepO gg44 N6_38
      clear N6_38
      generalize wa35.alloc (.cells #[.bool false, .slice none 0 0] 24) = wa42 at *
      refine wpAnyH_ready (rs := [6]) (by kernel_rfl) (by simp) ?_
      refine AllReadyH.cons (o := ({ dst := none, op := Op.store 24 (Operand.tmp 5) (Operand.tmp 36), type := 0, pos := "law.go:35", after := #[{ on := 4, ground := Ground.data }, { on := 1, ground := Ground.data }, { on := 3, ground := Ground.chain }, { on := 0, ground := Ground.phase }, { on := 1, ground := Ground.phase }, { on := 2, ground := Ground.textOnly Departure.lateStores }, { on := 3, ground := Ground.textOnly Departure.lateStoresUnsure }, { on := 4, ground := Ground.phase }, { on := 5, ground := Ground.phase }], guard := none } : Oper)) rfl (fun K hK => ?_) AllReadyH.nil
      obtain ⟨t0', t1', u0', u1'⟩ := outAny N5_45
      go_simp
      refine hK.out _ _ ⟨⟨far2 (B := wa35.heap.size) (by omega) hH43.1.1, far2 (B := wa35.heap.size) (by omega) hH43.1.2.1, far2 (B := wa35.heap.size) (by omega) hH43.1.2.2.1, far2 (B := wa35.heap.size) (by omega) hH43.1.2.2.2⟩, ((hH43.2.setCell (p := ⟨wa35.heap.size, 0, none⟩) (by show _ ≤ wa35.heap.size; omega) _).setCell (p := ⟨wa35.heap.size, 1, none⟩) (by show _ ≤ wa35.heap.size; omega) _)⟩ (fun hS50 => ?_)
      clear hK K t0' t1' u0' u1'
      (try simp only [Act.put, List.setIfInBounds_toArray, List.set_cons_zero, List.set_cons_succ])
      have O7_51 := O7_47.set2 N5_45 (.bool s1) (.slice (some ⟨g7, 0, none⟩) n1 (n1 + 12)) (by decide)
      have O8_52 := O8_48.set2 N5_45 (.bool s1) (.slice (some ⟨g7, 0, none⟩) n1 (n1 + 12)) (by decide)
      have N6_53 := heap_farW (q := wa35.heap.size) (i := 1) (v := .slice (some ⟨g7, 0, none⟩) n1 (n1 + 12)) (heap_farW (q := wa35.heap.size) (i := 0) (v := .bool s1) N6_49 (by omega)) (by omega)
      have N5_54 := put2_block N5_45 (.bool s1) (.slice (some ⟨g7, 0, none⟩) n1 (n1 + 12))
      clear O7_47 O8_48 N6_49 N5_45
      refine wpAnyH_ready (rs := [7]) (by kernel_rfl) (by simp) ?_
      refine AllReadyH.cons (o := ({ dst := none, op := Op.store 24 (Operand.tmp 6) (Operand.tmp 38), type := 0, pos := "law.go:35", after := #[{ on := 5, ground := Ground.data }, { on := 3, ground := Ground.data }, { on := 6, ground := Ground.chain }, { on := 0, ground := Ground.phase }, { on := 1, ground := Ground.phase }, { on := 2, ground := Ground.phase }, { on := 3, ground := Ground.phase }, { on := 4, ground := Ground.phase }, { on := 5, ground := Ground.phase }, { on := 6, ground := Ground.phase }], guard := none } : Oper)) rfl (fun K hK => ?_) AllReadyH.nil
      obtain ⟨t0', t1', u0', u1'⟩ := outAny N6_53
      go_simp
      refine hK.out _ _ ⟨⟨far2 (B := wc5.heap.size) (by omega) hS50.1.1, far2 (B := wc5.heap.size) (by omega) hS50.1.2.1, far2 (B := wc5.heap.size) (by omega) hS50.1.2.2.1, far2 (B := wc5.heap.size) (by omega) hS50.1.2.2.2⟩, ((hS50.2.setCell (p := ⟨wc5.heap.size, 0, none⟩) (by show _ ≤ wc5.heap.size; omega) _).setCell (p := ⟨wc5.heap.size, 1, none⟩) (by show _ ≤ wc5.heap.size; omega) _)⟩ (fun hS55 => ?_)
      clear hK K t0' t1' u0' u1'
      (try simp only [Act.put, List.setIfInBounds_toArray, List.set_cons_zero, List.set_cons_succ])
      have O7_56 := O7_51.set2 N6_53 (.bool s2) (.slice (some ⟨g8, 0, none⟩) n2 (n2 + 12)) (by decide)
      have O8_57 := O8_52.set2 N6_53 (.bool s2) (.slice (some ⟨g8, 0, none⟩) n2 (n2 + 12)) (by decide)
      have N5_58 := heap_farW (q := wc5.heap.size) (i := 1) (v := .slice (some ⟨g8, 0, none⟩) n2 (n2 + 12)) (heap_farW (q := wc5.heap.size) (i := 0) (v := .bool s2) N5_54 (by omega)) (by omega)
      have N6_59 := put2_block N6_53 (.bool s2) (.slice (some ⟨g8, 0, none⟩) n2 (n2 + 12))
      clear O7_51 O8_52 N5_54 N6_53
      refine wpAnyH_done (by kernel_rfl) ?_ _
      exact ⟨_, _, _, _, _, _, g7, g8, rfl, N5_58, N6_59, O7_56, O8_57, hS55.2⟩
    refine AllReadyH.cons (o := ({ dst := some 5, op := Op.alloc 24, type := 0, pos := "law.go:35", after := #[], guard := none } : Oper)) rfl (fun K hK => ?_) ?_
    · go_simp
      refine hK.out _ _ ⟨⟨keepG ((Gr.refl wc1).alloc (.cells #[.bool false, .slice none 0 0] 24)) hH2.1.1, keepG ((Gr.refl wc1).alloc (.cells #[.bool false, .slice none 0 0] 24)) hH2.1.2.1, keepG ((Gr.refl wc1).alloc (.cells #[.bool false, .slice none 0 0] 24)) hH2.1.2.2.1, keepG ((Gr.refl wc1).alloc (.cells #[.bool false, .slice none 0 0] 24)) hH2.1.2.2.2⟩, hH2.2.trans ((Gr.refl wc1).alloc (.cells #[.bool false, .slice none 0 0] 24))⟩ (fun hH61 => ?_)
      clear hK K
      (try simp only [Act.put, List.setIfInBounds_toArray, List.set_cons_zero, List.set_cons_succ])
      have N5_63 := blk1 wc1 (.cells #[.bool false, .slice none 0 0] 24)
      have gg62 := (Gr.refl wc1).alloc (.cells #[.bool false, .slice none 0 0] 24)
      have lN564 := hH2.2.size
      have O7_65 := O7_4.gr gg62
      clear O7_4
      generalize wc1.alloc (.cells #[.bool false, .slice none 0 0] 24) = wa60 at *
      refine wpAnyH_ready (rs := [3, 5]) (by kernel_rfl) (by simp) ?_
      refine AllReadyH.cons (o := ({ dst := some 38, op := Op.call { callee := Callee.value (Operand.func 9), args := #[Operand.tmp 37], argTypes := #[24] }, type := 24, pos := "law.go:35", after := #[{ on := 2, ground := Ground.data }, { on := 1, ground := Ground.chain }], guard := none } : Oper)) rfl (fun K hK => ?_) ?_
      · go_simp
        with_reducible refine (X2.out _ hH61.2).mono ?_
        rintro r wc66 ⟨g8, rfl, O8_69, gg68⟩
        refine hK.out _ _ ⟨⟨keepG gg68 hH61.1.1, keepG gg68 hH61.1.2.1, keepG gg68 hH61.1.2.2.1, keepG gg68 hH61.1.2.2.2⟩, hH61.2.trans gg68⟩ (fun hH67 => ?_)
        have hzwc66 := hH61.2.size
        clear hK K
        (try simp only [Act.put, List.setIfInBounds_toArray, List.set_cons_zero, List.set_cons_succ])
        have O7_70 := O7_65.gr gg68
        clear O7_65
        have N5_71 := keepO gg68 N5_63
        clear N5_63
        refine wpAnyH_ready (rs := [5]) (by kernel_rfl) (by simp) ?_
        refine AllReadyH.cons (o := ({ dst := some 6, op := Op.alloc 24, type := 0, pos := "law.go:35", after := #[], guard := none } : Oper)) rfl (fun K hK => ?_) AllReadyH.nil
        have ltN6N5 := lt_of_get2 N5_71
        go_simp
        refine hK.out _ _ ⟨⟨keepG ((Gr.refl wc66).alloc (.cells #[.bool false, .slice none 0 0] 24)) hH67.1.1, keepG ((Gr.refl wc66).alloc (.cells #[.bool false, .slice none 0 0] 24)) hH67.1.2.1, keepG ((Gr.refl wc66).alloc (.cells #[.bool false, .slice none 0 0] 24)) hH67.1.2.2.1, keepG ((Gr.refl wc66).alloc (.cells #[.bool false, .slice none 0 0] 24)) hH67.1.2.2.2⟩, hH67.2.trans ((Gr.refl wc66).alloc (.cells #[.bool false, .slice none 0 0] 24))⟩ (fun hH73 => ?_)
        clear hK K
        (try simp only [Act.put, List.setIfInBounds_toArray, List.set_cons_zero, List.set_cons_succ])
        have N6_75 := blk1 wc66 (.cells #[.bool false, .slice none 0 0] 24)
        have gg74 := (Gr.refl wc66).alloc (.cells #[.bool false, .slice none 0 0] 24)
        have lN676 := hH67.2.size
        have O7_77 := O7_70.gr gg74
        clear O7_70
        have N5_78 := keepO gg74 N5_71
        clear N5_71
        have O8_79 := O8_69.gr gg74
        clear O8_69
        generalize wc66.alloc (.cells #[.bool false, .slice none 0 0] 24) = wa72 at *
        refine wpAnyH_ready (rs := [6]) (by kernel_rfl) (by simp) ?_
        refine AllReadyH.cons (o := ({ dst := none, op := Op.store 24 (Operand.tmp 5) (Operand.tmp 36), type := 0, pos := "law.go:35", after := #[{ on := 4, ground := Ground.data }, { on := 1, ground := Ground.data }, { on := 3, ground := Ground.chain }, { on := 0, ground := Ground.phase }, { on := 1, ground := Ground.phase }, { on := 2, ground := Ground.textOnly Departure.lateStores }, { on := 3, ground := Ground.textOnly Departure.lateStoresUnsure }, { on := 4, ground := Ground.phase }, { on := 5, ground := Ground.phase }], guard := none } : Oper)) rfl (fun K hK => ?_) AllReadyH.nil
        obtain ⟨t0', t1', u0', u1'⟩ := outAny N5_78
        go_simp
        refine hK.out _ _ ⟨⟨far2 (B := wc1.heap.size) (by omega) hH73.1.1, far2 (B := wc1.heap.size) (by omega) hH73.1.2.1, far2 (B := wc1.heap.size) (by omega) hH73.1.2.2.1, far2 (B := wc1.heap.size) (by omega) hH73.1.2.2.2⟩, ((hH73.2.setCell (p := ⟨wc1.heap.size, 0, none⟩) (by show _ ≤ wc1.heap.size; omega) _).setCell (p := ⟨wc1.heap.size, 1, none⟩) (by show _ ≤ wc1.heap.size; omega) _)⟩ (fun hS80 => ?_)
        clear hK K t0' t1' u0' u1'
        (try simp only [Act.put, List.setIfInBounds_toArray, List.set_cons_zero, List.set_cons_succ])
        have O7_81 := O7_77.set2 N5_78 (.bool s1) (.slice (some ⟨g7, 0, none⟩) n1 (n1 + 12)) (by decide)
        have O8_82 := O8_79.set2 N5_78 (.bool s1) (.slice (some ⟨g7, 0, none⟩) n1 (n1 + 12)) (by decide)
        have N6_83 := heap_farW (q := wc1.heap.size) (i := 1) (v := .slice (some ⟨g7, 0, none⟩) n1 (n1 + 12)) (heap_farW (q := wc1.heap.size) (i := 0) (v := .bool s1) N6_75 (by omega)) (by omega)
        have N5_84 := put2_block N5_78 (.bool s1) (.slice (some ⟨g7, 0, none⟩) n1 (n1 + 12))
        clear O7_77 O8_79 N6_75 N5_78
        refine wpAnyH_ready (rs := [7]) (by kernel_rfl) (by simp) ?_
        refine AllReadyH.cons (o := ({ dst := none, op := Op.store 24 (Operand.tmp 6) (Operand.tmp 38), type := 0, pos := "law.go:35", after := #[{ on := 5, ground := Ground.data }, { on := 3, ground := Ground.data }, { on := 6, ground := Ground.chain }, { on := 0, ground := Ground.phase }, { on := 1, ground := Ground.phase }, { on := 2, ground := Ground.phase }, { on := 3, ground := Ground.phase }, { on := 4, ground := Ground.phase }, { on := 5, ground := Ground.phase }, { on := 6, ground := Ground.phase }], guard := none } : Oper)) rfl (fun K hK => ?_) AllReadyH.nil
        obtain ⟨t0', t1', u0', u1'⟩ := outAny N6_83
        go_simp
        refine hK.out _ _ ⟨⟨far2 (B := wc66.heap.size) (by omega) hS80.1.1, far2 (B := wc66.heap.size) (by omega) hS80.1.2.1, far2 (B := wc66.heap.size) (by omega) hS80.1.2.2.1, far2 (B := wc66.heap.size) (by omega) hS80.1.2.2.2⟩, ((hS80.2.setCell (p := ⟨wc66.heap.size, 0, none⟩) (by show _ ≤ wc66.heap.size; omega) _).setCell (p := ⟨wc66.heap.size, 1, none⟩) (by show _ ≤ wc66.heap.size; omega) _)⟩ (fun hS85 => ?_)
        clear hK K t0' t1' u0' u1'
        (try simp only [Act.put, List.setIfInBounds_toArray, List.set_cons_zero, List.set_cons_succ])
        have O7_86 := O7_81.set2 N6_83 (.bool s2) (.slice (some ⟨g8, 0, none⟩) n2 (n2 + 12)) (by decide)
        have N5_87 := heap_farW (q := wc66.heap.size) (i := 1) (v := .slice (some ⟨g8, 0, none⟩) n2 (n2 + 12)) (heap_farW (q := wc66.heap.size) (i := 0) (v := .bool s2) N5_84 (by omega)) (by omega)
        have O8_88 := O8_82.set2 N6_83 (.bool s2) (.slice (some ⟨g8, 0, none⟩) n2 (n2 + 12)) (by decide)
        have N6_89 := put2_block N6_83 (.bool s2) (.slice (some ⟨g8, 0, none⟩) n2 (n2 + 12))
        clear O7_81 N5_84 O8_82 N6_83
        refine wpAnyH_done (by kernel_rfl) ?_ _
        exact ⟨_, _, _, _, _, _, g7, g8, rfl, N5_87, N6_89, O7_86, O8_88, hS85.2⟩
      refine AllReadyH.cons (o := ({ dst := some 6, op := Op.alloc 24, type := 0, pos := "law.go:35", after := #[], guard := none } : Oper)) rfl (fun K hK => ?_) AllReadyH.nil
      have ltN6N5 := lt_of_get2 N5_63
      go_simp
      refine hK.out _ _ ⟨⟨keepG ((Gr.refl wa60).alloc (.cells #[.bool false, .slice none 0 0] 24)) hH61.1.1, keepG ((Gr.refl wa60).alloc (.cells #[.bool false, .slice none 0 0] 24)) hH61.1.2.1, keepG ((Gr.refl wa60).alloc (.cells #[.bool false, .slice none 0 0] 24)) hH61.1.2.2.1, keepG ((Gr.refl wa60).alloc (.cells #[.bool false, .slice none 0 0] 24)) hH61.1.2.2.2⟩, hH61.2.trans ((Gr.refl wa60).alloc (.cells #[.bool false, .slice none 0 0] 24))⟩ (fun hH91 => ?_)
      clear hK K
      (try simp only [Act.put, List.setIfInBounds_toArray, List.set_cons_zero, List.set_cons_succ])
      have N6_93 := blk1 wa60 (.cells #[.bool false, .slice none 0 0] 24)
      have gg92 := (Gr.refl wa60).alloc (.cells #[.bool false, .slice none 0 0] 24)
      have lN694 := hH61.2.size
      have O7_95 := O7_65.gr gg92
      clear O7_65
      have N5_96 := keepO gg92 N5_63
      clear N5_63
      generalize wa60.alloc (.cells #[.bool false, .slice none 0 0] 24) = wa90 at *
      refine wpAnyH_ready (rs := [3]) (by kernel_rfl) (by simp) ?_
      refine AllReadyH.cons (o := ({ dst := some 38, op := Op.call { callee := Callee.value (Operand.func 9), args := #[Operand.tmp 37], argTypes := #[24] }, type := 24, pos := "law.go:35", after := #[{ on := 2, ground := Ground.data }, { on := 1, ground := Ground.chain }], guard := none } : Oper)) rfl (fun K hK => ?_) AllReadyH.nil
      go_simp
      with_reducible refine (X2.out _ hH91.2).mono ?_
      rintro r wc97 ⟨g8, rfl, O8_100, gg99⟩
      refine hK.out _ _ ⟨⟨keepG gg99 hH91.1.1, keepG gg99 hH91.1.2.1, keepG gg99 hH91.1.2.2.1, keepG gg99 hH91.1.2.2.2⟩, hH91.2.trans gg99⟩ (fun hH98 => ?_)
      have hzwc97 := hH91.2.size
      clear hK K
      (try simp only [Act.put, List.setIfInBounds_toArray, List.set_cons_zero, List.set_cons_succ])
      have O7_101 := O7_95.gr gg99
      clear O7_95
      have N5_102 := keepO gg99 N5_96
      clear N5_96
      have N6_103 := keepO gg99 N6_93
      clear N6_93
      refine wpAnyH_ready (rs := [6]) (by kernel_rfl) (by simp) ?_
      refine AllReadyH.cons (o := ({ dst := none, op := Op.store 24 (Operand.tmp 5) (Operand.tmp 36), type := 0, pos := "law.go:35", after := #[{ on := 4, ground := Ground.data }, { on := 1, ground := Ground.data }, { on := 3, ground := Ground.chain }, { on := 0, ground := Ground.phase }, { on := 1, ground := Ground.phase }, { on := 2, ground := Ground.textOnly Departure.lateStores }, { on := 3, ground := Ground.textOnly Departure.lateStoresUnsure }, { on := 4, ground := Ground.phase }, { on := 5, ground := Ground.phase }], guard := none } : Oper)) rfl (fun K hK => ?_) AllReadyH.nil
      obtain ⟨t0', t1', u0', u1'⟩ := outAny N5_102
      go_simp
      refine hK.out _ _ ⟨⟨far2 (B := wc1.heap.size) (by omega) hH98.1.1, far2 (B := wc1.heap.size) (by omega) hH98.1.2.1, far2 (B := wc1.heap.size) (by omega) hH98.1.2.2.1, far2 (B := wc1.heap.size) (by omega) hH98.1.2.2.2⟩, ((hH98.2.setCell (p := ⟨wc1.heap.size, 0, none⟩) (by show _ ≤ wc1.heap.size; omega) _).setCell (p := ⟨wc1.heap.size, 1, none⟩) (by show _ ≤ wc1.heap.size; omega) _)⟩ (fun hS104 => ?_)
      clear hK K t0' t1' u0' u1'
      (try simp only [Act.put, List.setIfInBounds_toArray, List.set_cons_zero, List.set_cons_succ])
      have O7_105 := O7_101.set2 N5_102 (.bool s1) (.slice (some ⟨g7, 0, none⟩) n1 (n1 + 12)) (by decide)
      have N6_106 := heap_farW (q := wc1.heap.size) (i := 1) (v := .slice (some ⟨g7, 0, none⟩) n1 (n1 + 12)) (heap_farW (q := wc1.heap.size) (i := 0) (v := .bool s1) N6_103 (by omega)) (by omega)
      have O8_107 := O8_100.set2 N5_102 (.bool s1) (.slice (some ⟨g7, 0, none⟩) n1 (n1 + 12)) (by decide)
      have N5_108 := put2_block N5_102 (.bool s1) (.slice (some ⟨g7, 0, none⟩) n1 (n1 + 12))
      clear O7_101 N6_103 O8_100 N5_102
      refine wpAnyH_ready (rs := [7]) (by kernel_rfl) (by simp) ?_
      refine AllReadyH.cons (o := ({ dst := none, op := Op.store 24 (Operand.tmp 6) (Operand.tmp 38), type := 0, pos := "law.go:35", after := #[{ on := 5, ground := Ground.data }, { on := 3, ground := Ground.data }, { on := 6, ground := Ground.chain }, { on := 0, ground := Ground.phase }, { on := 1, ground := Ground.phase }, { on := 2, ground := Ground.phase }, { on := 3, ground := Ground.phase }, { on := 4, ground := Ground.phase }, { on := 5, ground := Ground.phase }, { on := 6, ground := Ground.phase }], guard := none } : Oper)) rfl (fun K hK => ?_) AllReadyH.nil
      obtain ⟨t0', t1', u0', u1'⟩ := outAny N6_106
      go_simp
      refine hK.out _ _ ⟨⟨far2 (B := wa60.heap.size) (by omega) hS104.1.1, far2 (B := wa60.heap.size) (by omega) hS104.1.2.1, far2 (B := wa60.heap.size) (by omega) hS104.1.2.2.1, far2 (B := wa60.heap.size) (by omega) hS104.1.2.2.2⟩, ((hS104.2.setCell (p := ⟨wa60.heap.size, 0, none⟩) (by show _ ≤ wa60.heap.size; omega) _).setCell (p := ⟨wa60.heap.size, 1, none⟩) (by show _ ≤ wa60.heap.size; omega) _)⟩ (fun hS109 => ?_)
      clear hK K t0' t1' u0' u1'
      (try simp only [Act.put, List.setIfInBounds_toArray, List.set_cons_zero, List.set_cons_succ])
      have O7_110 := O7_105.set2 N6_106 (.bool s2) (.slice (some ⟨g8, 0, none⟩) n2 (n2 + 12)) (by decide)
      have N5_111 := heap_farW (q := wa60.heap.size) (i := 1) (v := .slice (some ⟨g8, 0, none⟩) n2 (n2 + 12)) (heap_farW (q := wa60.heap.size) (i := 0) (v := .bool s2) N5_108 (by omega)) (by omega)
      have O8_112 := O8_107.set2 N6_106 (.bool s2) (.slice (some ⟨g8, 0, none⟩) n2 (n2 + 12)) (by decide)
      have N6_113 := put2_block N6_106 (.bool s2) (.slice (some ⟨g8, 0, none⟩) n2 (n2 + 12))
      clear O7_105 N5_108 O8_107 N6_106
      refine wpAnyH_done (by kernel_rfl) ?_ _
      exact ⟨_, _, _, _, _, _, g7, g8, rfl, N5_111, N6_113, O7_110, O8_112, hS109.2⟩
    refine AllReadyH.cons (o := ({ dst := some 6, op := Op.alloc 24, type := 0, pos := "law.go:35", after := #[], guard := none } : Oper)) rfl (fun K hK => ?_) AllReadyH.nil
    go_simp
    refine hK.out _ _ ⟨⟨keepG ((Gr.refl wc1).alloc (.cells #[.bool false, .slice none 0 0] 24)) hH2.1.1, keepG ((Gr.refl wc1).alloc (.cells #[.bool false, .slice none 0 0] 24)) hH2.1.2.1, keepG ((Gr.refl wc1).alloc (.cells #[.bool false, .slice none 0 0] 24)) hH2.1.2.2.1, keepG ((Gr.refl wc1).alloc (.cells #[.bool false, .slice none 0 0] 24)) hH2.1.2.2.2⟩, hH2.2.trans ((Gr.refl wc1).alloc (.cells #[.bool false, .slice none 0 0] 24))⟩ (fun hH115 => ?_)
    clear hK K
    (try simp only [Act.put, List.setIfInBounds_toArray, List.set_cons_zero, List.set_cons_succ])
    have N6_117 := blk1 wc1 (.cells #[.bool false, .slice none 0 0] 24)
    have gg116 := (Gr.refl wc1).alloc (.cells #[.bool false, .slice none 0 0] 24)
    have lN6118 := hH2.2.size
    have O7_119 := O7_4.gr gg116
    clear O7_4
    generalize wc1.alloc (.cells #[.bool false, .slice none 0 0] 24) = wa114 at *
    refine wpAnyH_ready (rs := [3, 4]) (by kernel_rfl) (by simp) ?_
    refine AllReadyH.cons (o := ({ dst := some 38, op := Op.call { callee := Callee.value (Operand.func 9), args := #[Operand.tmp 37], argTypes := #[24] }, type := 24, pos := "law.go:35", after := #[{ on := 2, ground := Ground.data }, { on := 1, ground := Ground.chain }], guard := none } : Oper)) rfl (fun K hK => ?_) ?_
    · go_simp
      with_reducible refine (X2.out _ hH115.2).mono ?_
      rintro r wc120 ⟨g8, rfl, O8_123, gg122⟩
      refine hK.out _ _ ⟨⟨keepG gg122 hH115.1.1, keepG gg122 hH115.1.2.1, keepG gg122 hH115.1.2.2.1, keepG gg122 hH115.1.2.2.2⟩, hH115.2.trans gg122⟩ (fun hH121 => ?_)
      have hzwc120 := hH115.2.size
      clear hK K
      (try simp only [Act.put, List.setIfInBounds_toArray, List.set_cons_zero, List.set_cons_succ])
      have O7_124 := O7_119.gr gg122
      clear O7_119
      have N6_125 := keepO gg122 N6_117
      clear N6_117
      refine wpAnyH_ready (rs := [4]) (by kernel_rfl) (by simp) ?_
      refine AllReadyH.cons (o := ({ dst := some 5, op := Op.alloc 24, type := 0, pos := "law.go:35", after := #[], guard := none } : Oper)) rfl (fun K hK => ?_) AllReadyH.nil
      have ltN5N6 := lt_of_get2 N6_125
      go_simp
      refine hK.out _ _ ⟨⟨keepG ((Gr.refl wc120).alloc (.cells #[.bool false, .slice none 0 0] 24)) hH121.1.1, keepG ((Gr.refl wc120).alloc (.cells #[.bool false, .slice none 0 0] 24)) hH121.1.2.1, keepG ((Gr.refl wc120).alloc (.cells #[.bool false, .slice none 0 0] 24)) hH121.1.2.2.1, keepG ((Gr.refl wc120).alloc (.cells #[.bool false, .slice none 0 0] 24)) hH121.1.2.2.2⟩, hH121.2.trans ((Gr.refl wc120).alloc (.cells #[.bool false, .slice none 0 0] 24))⟩ (fun hH127 => ?_)
      clear hK K
      (try simp only [Act.put, List.setIfInBounds_toArray, List.set_cons_zero, List.set_cons_succ])
      have N5_129 := blk1 wc120 (.cells #[.bool false, .slice none 0 0] 24)
      have gg128 := (Gr.refl wc120).alloc (.cells #[.bool false, .slice none 0 0] 24)
      have lN5130 := hH121.2.size
      have O7_131 := O7_124.gr gg128
      clear O7_124
      have N6_132 := keepO gg128 N6_125
      clear N6_125
      have O8_133 := O8_123.gr gg128
      clear O8_123
      generalize wc120.alloc (.cells #[.bool false, .slice none 0 0] 24) = wa126 at *
      refine wpAnyH_ready (rs := [6]) (by kernel_rfl) (by simp) ?_
      refine AllReadyH.cons (o := ({ dst := none, op := Op.store 24 (Operand.tmp 5) (Operand.tmp 36), type := 0, pos := "law.go:35", after := #[{ on := 4, ground := Ground.data }, { on := 1, ground := Ground.data }, { on := 3, ground := Ground.chain }, { on := 0, ground := Ground.phase }, { on := 1, ground := Ground.phase }, { on := 2, ground := Ground.textOnly Departure.lateStores }, { on := 3, ground := Ground.textOnly Departure.lateStoresUnsure }, { on := 4, ground := Ground.phase }, { on := 5, ground := Ground.phase }], guard := none } : Oper)) rfl (fun K hK => ?_) AllReadyH.nil
      obtain ⟨t0', t1', u0', u1'⟩ := outAny N5_129
      go_simp
      refine hK.out _ _ ⟨⟨far2 (B := wc120.heap.size) (by omega) hH127.1.1, far2 (B := wc120.heap.size) (by omega) hH127.1.2.1, far2 (B := wc120.heap.size) (by omega) hH127.1.2.2.1, far2 (B := wc120.heap.size) (by omega) hH127.1.2.2.2⟩, ((hH127.2.setCell (p := ⟨wc120.heap.size, 0, none⟩) (by show _ ≤ wc120.heap.size; omega) _).setCell (p := ⟨wc120.heap.size, 1, none⟩) (by show _ ≤ wc120.heap.size; omega) _)⟩ (fun hS134 => ?_)
      clear hK K t0' t1' u0' u1'
      (try simp only [Act.put, List.setIfInBounds_toArray, List.set_cons_zero, List.set_cons_succ])
      have O7_135 := O7_131.set2 N5_129 (.bool s1) (.slice (some ⟨g7, 0, none⟩) n1 (n1 + 12)) (by decide)
      have N6_136 := heap_farW (q := wc120.heap.size) (i := 1) (v := .slice (some ⟨g7, 0, none⟩) n1 (n1 + 12)) (heap_farW (q := wc120.heap.size) (i := 0) (v := .bool s1) N6_132 (by omega)) (by omega)
      have O8_137 := O8_133.set2 N5_129 (.bool s1) (.slice (some ⟨g7, 0, none⟩) n1 (n1 + 12)) (by decide)
      have N5_138 := put2_block N5_129 (.bool s1) (.slice (some ⟨g7, 0, none⟩) n1 (n1 + 12))
      clear O7_131 N6_132 O8_133 N5_129
      refine wpAnyH_ready (rs := [7]) (by kernel_rfl) (by simp) ?_
      refine AllReadyH.cons (o := ({ dst := none, op := Op.store 24 (Operand.tmp 6) (Operand.tmp 38), type := 0, pos := "law.go:35", after := #[{ on := 5, ground := Ground.data }, { on := 3, ground := Ground.data }, { on := 6, ground := Ground.chain }, { on := 0, ground := Ground.phase }, { on := 1, ground := Ground.phase }, { on := 2, ground := Ground.phase }, { on := 3, ground := Ground.phase }, { on := 4, ground := Ground.phase }, { on := 5, ground := Ground.phase }, { on := 6, ground := Ground.phase }], guard := none } : Oper)) rfl (fun K hK => ?_) AllReadyH.nil
      obtain ⟨t0', t1', u0', u1'⟩ := outAny N6_136
      go_simp
      refine hK.out _ _ ⟨⟨far2 (B := wc1.heap.size) (by omega) hS134.1.1, far2 (B := wc1.heap.size) (by omega) hS134.1.2.1, far2 (B := wc1.heap.size) (by omega) hS134.1.2.2.1, far2 (B := wc1.heap.size) (by omega) hS134.1.2.2.2⟩, ((hS134.2.setCell (p := ⟨wc1.heap.size, 0, none⟩) (by show _ ≤ wc1.heap.size; omega) _).setCell (p := ⟨wc1.heap.size, 1, none⟩) (by show _ ≤ wc1.heap.size; omega) _)⟩ (fun hS139 => ?_)
      clear hK K t0' t1' u0' u1'
      (try simp only [Act.put, List.setIfInBounds_toArray, List.set_cons_zero, List.set_cons_succ])
      have O7_140 := O7_135.set2 N6_136 (.bool s2) (.slice (some ⟨g8, 0, none⟩) n2 (n2 + 12)) (by decide)
      have O8_141 := O8_137.set2 N6_136 (.bool s2) (.slice (some ⟨g8, 0, none⟩) n2 (n2 + 12)) (by decide)
      have N5_142 := heap_farW (q := wc1.heap.size) (i := 1) (v := .slice (some ⟨g8, 0, none⟩) n2 (n2 + 12)) (heap_farW (q := wc1.heap.size) (i := 0) (v := .bool s2) N5_138 (by omega)) (by omega)
      have N6_143 := put2_block N6_136 (.bool s2) (.slice (some ⟨g8, 0, none⟩) n2 (n2 + 12))
      clear O7_135 O8_137 N5_138 N6_136
      refine wpAnyH_done (by kernel_rfl) ?_ _
      exact ⟨_, _, _, _, _, _, g7, g8, rfl, N5_142, N6_143, O7_140, O8_141, hS139.2⟩
    refine AllReadyH.cons (o := ({ dst := some 5, op := Op.alloc 24, type := 0, pos := "law.go:35", after := #[], guard := none } : Oper)) rfl (fun K hK => ?_) AllReadyH.nil
    have ltN5N6 := lt_of_get2 N6_117
    go_simp
    refine hK.out _ _ ⟨⟨keepG ((Gr.refl wa114).alloc (.cells #[.bool false, .slice none 0 0] 24)) hH115.1.1, keepG ((Gr.refl wa114).alloc (.cells #[.bool false, .slice none 0 0] 24)) hH115.1.2.1, keepG ((Gr.refl wa114).alloc (.cells #[.bool false, .slice none 0 0] 24)) hH115.1.2.2.1, keepG ((Gr.refl wa114).alloc (.cells #[.bool false, .slice none 0 0] 24)) hH115.1.2.2.2⟩, hH115.2.trans ((Gr.refl wa114).alloc (.cells #[.bool false, .slice none 0 0] 24))⟩ (fun hH145 => ?_)
    clear hK K
    (try simp only [Act.put, List.setIfInBounds_toArray, List.set_cons_zero, List.set_cons_succ])
    have N5_147 := blk1 wa114 (.cells #[.bool false, .slice none 0 0] 24)
    have gg146 := (Gr.refl wa114).alloc (.cells #[.bool false, .slice none 0 0] 24)
    have lN5148 := hH115.2.size
    have O7_149 := O7_119.gr gg146
    clear O7_119
    have N6_150 := keepO gg146 N6_117
    clear N6_117
    generalize wa114.alloc (.cells #[.bool false, .slice none 0 0] 24) = wa144 at *
    refine wpAnyH_ready (rs := [3]) (by kernel_rfl) (by simp) ?_
    refine AllReadyH.cons (o := ({ dst := some 38, op := Op.call { callee := Callee.value (Operand.func 9), args := #[Operand.tmp 37], argTypes := #[24] }, type := 24, pos := "law.go:35", after := #[{ on := 2, ground := Ground.data }, { on := 1, ground := Ground.chain }], guard := none } : Oper)) rfl (fun K hK => ?_) AllReadyH.nil
    go_simp
    with_reducible refine (X2.out _ hH145.2).mono ?_
    rintro r wc151 ⟨g8, rfl, O8_154, gg153⟩
    refine hK.out _ _ ⟨⟨keepG gg153 hH145.1.1, keepG gg153 hH145.1.2.1, keepG gg153 hH145.1.2.2.1, keepG gg153 hH145.1.2.2.2⟩, hH145.2.trans gg153⟩ (fun hH152 => ?_)
    have hzwc151 := hH145.2.size
    clear hK K
    (try simp only [Act.put, List.setIfInBounds_toArray, List.set_cons_zero, List.set_cons_succ])
    have O7_155 := O7_149.gr gg153
    clear O7_149
    have N6_156 := keepO gg153 N6_150
    clear N6_150
    have N5_157 := keepO gg153 N5_147
    clear N5_147
    refine wpAnyH_ready (rs := [6]) (by kernel_rfl) (by simp) ?_
    refine AllReadyH.cons (o := ({ dst := none, op := Op.store 24 (Operand.tmp 5) (Operand.tmp 36), type := 0, pos := "law.go:35", after := #[{ on := 4, ground := Ground.data }, { on := 1, ground := Ground.data }, { on := 3, ground := Ground.chain }, { on := 0, ground := Ground.phase }, { on := 1, ground := Ground.phase }, { on := 2, ground := Ground.textOnly Departure.lateStores }, { on := 3, ground := Ground.textOnly Departure.lateStoresUnsure }, { on := 4, ground := Ground.phase }, { on := 5, ground := Ground.phase }], guard := none } : Oper)) rfl (fun K hK => ?_) AllReadyH.nil
    obtain ⟨t0', t1', u0', u1'⟩ := outAny N5_157
    go_simp
    refine hK.out _ _ ⟨⟨far2 (B := wa114.heap.size) (by omega) hH152.1.1, far2 (B := wa114.heap.size) (by omega) hH152.1.2.1, far2 (B := wa114.heap.size) (by omega) hH152.1.2.2.1, far2 (B := wa114.heap.size) (by omega) hH152.1.2.2.2⟩, ((hH152.2.setCell (p := ⟨wa114.heap.size, 0, none⟩) (by show _ ≤ wa114.heap.size; omega) _).setCell (p := ⟨wa114.heap.size, 1, none⟩) (by show _ ≤ wa114.heap.size; omega) _)⟩ (fun hS158 => ?_)
    clear hK K t0' t1' u0' u1'
    (try simp only [Act.put, List.setIfInBounds_toArray, List.set_cons_zero, List.set_cons_succ])
    have O7_159 := O7_155.set2 N5_157 (.bool s1) (.slice (some ⟨g7, 0, none⟩) n1 (n1 + 12)) (by decide)
    have N6_160 := heap_farW (q := wa114.heap.size) (i := 1) (v := .slice (some ⟨g7, 0, none⟩) n1 (n1 + 12)) (heap_farW (q := wa114.heap.size) (i := 0) (v := .bool s1) N6_156 (by omega)) (by omega)
    have O8_161 := O8_154.set2 N5_157 (.bool s1) (.slice (some ⟨g7, 0, none⟩) n1 (n1 + 12)) (by decide)
    have N5_162 := put2_block N5_157 (.bool s1) (.slice (some ⟨g7, 0, none⟩) n1 (n1 + 12))
    clear O7_155 N6_156 O8_154 N5_157
    refine wpAnyH_ready (rs := [7]) (by kernel_rfl) (by simp) ?_
    refine AllReadyH.cons (o := ({ dst := none, op := Op.store 24 (Operand.tmp 6) (Operand.tmp 38), type := 0, pos := "law.go:35", after := #[{ on := 5, ground := Ground.data }, { on := 3, ground := Ground.data }, { on := 6, ground := Ground.chain }, { on := 0, ground := Ground.phase }, { on := 1, ground := Ground.phase }, { on := 2, ground := Ground.phase }, { on := 3, ground := Ground.phase }, { on := 4, ground := Ground.phase }, { on := 5, ground := Ground.phase }, { on := 6, ground := Ground.phase }], guard := none } : Oper)) rfl (fun K hK => ?_) AllReadyH.nil
    obtain ⟨t0', t1', u0', u1'⟩ := outAny N6_160
    go_simp
    refine hK.out _ _ ⟨⟨far2 (B := wc1.heap.size) (by omega) hS158.1.1, far2 (B := wc1.heap.size) (by omega) hS158.1.2.1, far2 (B := wc1.heap.size) (by omega) hS158.1.2.2.1, far2 (B := wc1.heap.size) (by omega) hS158.1.2.2.2⟩, ((hS158.2.setCell (p := ⟨wc1.heap.size, 0, none⟩) (by show _ ≤ wc1.heap.size; omega) _).setCell (p := ⟨wc1.heap.size, 1, none⟩) (by show _ ≤ wc1.heap.size; omega) _)⟩ (fun hS163 => ?_)
    clear hK K t0' t1' u0' u1'
    (try simp only [Act.put, List.setIfInBounds_toArray, List.set_cons_zero, List.set_cons_succ])
    have O7_164 := O7_159.set2 N6_160 (.bool s2) (.slice (some ⟨g8, 0, none⟩) n2 (n2 + 12)) (by decide)
    have N5_165 := heap_farW (q := wc1.heap.size) (i := 1) (v := .slice (some ⟨g8, 0, none⟩) n2 (n2 + 12)) (heap_farW (q := wc1.heap.size) (i := 0) (v := .bool s2) N5_162 (by omega)) (by omega)
    have O8_166 := O8_161.set2 N6_160 (.bool s2) (.slice (some ⟨g8, 0, none⟩) n2 (n2 + 12)) (by decide)
    have N6_167 := put2_block N6_160 (.bool s2) (.slice (some ⟨g8, 0, none⟩) n2 (n2 + 12))
    clear O7_159 N5_162 O8_161 N6_160
    refine wpAnyH_done (by kernel_rfl) ?_ _
    exact ⟨_, _, _, _, _, _, g7, g8, rfl, N5_165, N6_167, O7_164, O8_166, hS163.2⟩
  refine AllReadyH.cons (o := ({ dst := some 5, op := Op.alloc 24, type := 0, pos := "law.go:35", after := #[], guard := none } : Oper)) rfl (fun K hK => ?_) ?_
  · go_simp
    refine hK.out _ _ ⟨⟨keepG ((Gr.refl wd).alloc (.cells #[.bool false, .slice none 0 0] 24)) hHeld.1.1, keepG ((Gr.refl wd).alloc (.cells #[.bool false, .slice none 0 0] 24)) hHeld.1.2.1, keepG ((Gr.refl wd).alloc (.cells #[.bool false, .slice none 0 0] 24)) hHeld.1.2.2.1, keepG ((Gr.refl wd).alloc (.cells #[.bool false, .slice none 0 0] 24)) hHeld.1.2.2.2⟩, hHeld.2.trans ((Gr.refl wd).alloc (.cells #[.bool false, .slice none 0 0] 24))⟩ (fun hH169 => ?_)
    clear hK K
    (try simp only [Act.put, List.setIfInBounds_toArray, List.set_cons_zero, List.set_cons_succ])
    have N5_171 := blk1 wd (.cells #[.bool false, .slice none 0 0] 24)
    have gg170 := (Gr.refl wd).alloc (.cells #[.bool false, .slice none 0 0] 24)
    have lN5172 := hHeld.2.size
    generalize wd.alloc (.cells #[.bool false, .slice none 0 0] 24) = wa168 at *
    refine wpAnyH_ready (rs := [1, 5]) (by kernel_rfl) (by simp) ?_
    refine AllReadyH.cons (o := ({ dst := some 36, op := Op.call { callee := Callee.value (Operand.func 9), args := #[Operand.tmp 35], argTypes := #[24] }, type := 24, pos := "law.go:35", after := #[{ on := 0, ground := Ground.data }], guard := none } : Oper)) rfl (fun K hK => ?_) ?_
    · go_simp
      with_reducible refine (X1.out _ hH169.2).mono ?_
      rintro r wc173 ⟨g7, rfl, O7_176, gg175⟩
      refine hK.out _ _ ⟨⟨keepG gg175 hH169.1.1, keepG gg175 hH169.1.2.1, keepG gg175 hH169.1.2.2.1, keepG gg175 hH169.1.2.2.2⟩, hH169.2.trans gg175⟩ (fun hH174 => ?_)
      have hzwc173 := hH169.2.size
      clear hK K
      (try simp only [Act.put, List.setIfInBounds_toArray, List.set_cons_zero, List.set_cons_succ])
      have N5_177 := keepO gg175 N5_171
      clear N5_171
      refine wpAnyH_ready (rs := [3, 5]) (by kernel_rfl) (by simp) ?_
      refine AllReadyH.cons (o := ({ dst := some 38, op := Op.call { callee := Callee.value (Operand.func 9), args := #[Operand.tmp 37], argTypes := #[24] }, type := 24, pos := "law.go:35", after := #[{ on := 2, ground := Ground.data }, { on := 1, ground := Ground.chain }], guard := none } : Oper)) rfl (fun K hK => ?_) ?_
      · go_simp
        with_reducible refine (X2.out _ hH174.2).mono ?_
        rintro r wc178 ⟨g8, rfl, O8_181, gg180⟩
        refine hK.out _ _ ⟨⟨keepG gg180 hH174.1.1, keepG gg180 hH174.1.2.1, keepG gg180 hH174.1.2.2.1, keepG gg180 hH174.1.2.2.2⟩, hH174.2.trans gg180⟩ (fun hH179 => ?_)
        have hzwc178 := hH174.2.size
        clear hK K
        (try simp only [Act.put, List.setIfInBounds_toArray, List.set_cons_zero, List.set_cons_succ])
        have N5_182 := keepO gg180 N5_177
        clear N5_177
        have O7_183 := O7_176.gr gg180
        clear O7_176
        refine wpAnyH_ready (rs := [5]) (by kernel_rfl) (by simp) ?_
        refine AllReadyH.cons (o := ({ dst := some 6, op := Op.alloc 24, type := 0, pos := "law.go:35", after := #[], guard := none } : Oper)) rfl (fun K hK => ?_) AllReadyH.nil
        have ltN6N5 := lt_of_get2 N5_182
        go_simp
        refine hK.out _ _ ⟨⟨keepG ((Gr.refl wc178).alloc (.cells #[.bool false, .slice none 0 0] 24)) hH179.1.1, keepG ((Gr.refl wc178).alloc (.cells #[.bool false, .slice none 0 0] 24)) hH179.1.2.1, keepG ((Gr.refl wc178).alloc (.cells #[.bool false, .slice none 0 0] 24)) hH179.1.2.2.1, keepG ((Gr.refl wc178).alloc (.cells #[.bool false, .slice none 0 0] 24)) hH179.1.2.2.2⟩, hH179.2.trans ((Gr.refl wc178).alloc (.cells #[.bool false, .slice none 0 0] 24))⟩ (fun hH185 => ?_)
        clear hK K
        (try simp only [Act.put, List.setIfInBounds_toArray, List.set_cons_zero, List.set_cons_succ])
        have N6_187 := blk1 wc178 (.cells #[.bool false, .slice none 0 0] 24)
        have gg186 := (Gr.refl wc178).alloc (.cells #[.bool false, .slice none 0 0] 24)
        have lN6188 := hH179.2.size
        have N5_189 := keepO gg186 N5_182
        clear N5_182
        have O7_190 := O7_183.gr gg186
        clear O7_183
        have O8_191 := O8_181.gr gg186
        clear O8_181
        generalize wc178.alloc (.cells #[.bool false, .slice none 0 0] 24) = wa184 at *
        refine wpAnyH_ready (rs := [6]) (by kernel_rfl) (by simp) ?_
        refine AllReadyH.cons (o := ({ dst := none, op := Op.store 24 (Operand.tmp 5) (Operand.tmp 36), type := 0, pos := "law.go:35", after := #[{ on := 4, ground := Ground.data }, { on := 1, ground := Ground.data }, { on := 3, ground := Ground.chain }, { on := 0, ground := Ground.phase }, { on := 1, ground := Ground.phase }, { on := 2, ground := Ground.textOnly Departure.lateStores }, { on := 3, ground := Ground.textOnly Departure.lateStoresUnsure }, { on := 4, ground := Ground.phase }, { on := 5, ground := Ground.phase }], guard := none } : Oper)) rfl (fun K hK => ?_) AllReadyH.nil
        obtain ⟨t0', t1', u0', u1'⟩ := outAny N5_189
        go_simp
        refine hK.out _ _ ⟨⟨far2 (B := wd.heap.size) (by omega) hH185.1.1, far2 (B := wd.heap.size) (by omega) hH185.1.2.1, far2 (B := wd.heap.size) (by omega) hH185.1.2.2.1, far2 (B := wd.heap.size) (by omega) hH185.1.2.2.2⟩, ((hH185.2.setCell (p := ⟨wd.heap.size, 0, none⟩) (by show _ ≤ wd.heap.size; omega) _).setCell (p := ⟨wd.heap.size, 1, none⟩) (by show _ ≤ wd.heap.size; omega) _)⟩ (fun hS192 => ?_)
        clear hK K t0' t1' u0' u1'
        (try simp only [Act.put, List.setIfInBounds_toArray, List.set_cons_zero, List.set_cons_succ])
        have O7_193 := O7_190.set2 N5_189 (.bool s1) (.slice (some ⟨g7, 0, none⟩) n1 (n1 + 12)) (by decide)
        have O8_194 := O8_191.set2 N5_189 (.bool s1) (.slice (some ⟨g7, 0, none⟩) n1 (n1 + 12)) (by decide)
        have N6_195 := heap_farW (q := wd.heap.size) (i := 1) (v := .slice (some ⟨g7, 0, none⟩) n1 (n1 + 12)) (heap_farW (q := wd.heap.size) (i := 0) (v := .bool s1) N6_187 (by omega)) (by omega)
        have N5_196 := put2_block N5_189 (.bool s1) (.slice (some ⟨g7, 0, none⟩) n1 (n1 + 12))
        clear O7_190 O8_191 N6_187 N5_189
        refine wpAnyH_ready (rs := [7]) (by kernel_rfl) (by simp) ?_
        refine AllReadyH.cons (o := ({ dst := none, op := Op.store 24 (Operand.tmp 6) (Operand.tmp 38), type := 0, pos := "law.go:35", after := #[{ on := 5, ground := Ground.data }, { on := 3, ground := Ground.data }, { on := 6, ground := Ground.chain }, { on := 0, ground := Ground.phase }, { on := 1, ground := Ground.phase }, { on := 2, ground := Ground.phase }, { on := 3, ground := Ground.phase }, { on := 4, ground := Ground.phase }, { on := 5, ground := Ground.phase }, { on := 6, ground := Ground.phase }], guard := none } : Oper)) rfl (fun K hK => ?_) AllReadyH.nil
        obtain ⟨t0', t1', u0', u1'⟩ := outAny N6_195
        go_simp
        refine hK.out _ _ ⟨⟨far2 (B := wc178.heap.size) (by omega) hS192.1.1, far2 (B := wc178.heap.size) (by omega) hS192.1.2.1, far2 (B := wc178.heap.size) (by omega) hS192.1.2.2.1, far2 (B := wc178.heap.size) (by omega) hS192.1.2.2.2⟩, ((hS192.2.setCell (p := ⟨wc178.heap.size, 0, none⟩) (by show _ ≤ wc178.heap.size; omega) _).setCell (p := ⟨wc178.heap.size, 1, none⟩) (by show _ ≤ wc178.heap.size; omega) _)⟩ (fun hS197 => ?_)
        clear hK K t0' t1' u0' u1'
        (try simp only [Act.put, List.setIfInBounds_toArray, List.set_cons_zero, List.set_cons_succ])
        have N5_198 := heap_farW (q := wc178.heap.size) (i := 1) (v := .slice (some ⟨g8, 0, none⟩) n2 (n2 + 12)) (heap_farW (q := wc178.heap.size) (i := 0) (v := .bool s2) N5_196 (by omega)) (by omega)
        have O7_199 := O7_193.set2 N6_195 (.bool s2) (.slice (some ⟨g8, 0, none⟩) n2 (n2 + 12)) (by decide)
        have O8_200 := O8_194.set2 N6_195 (.bool s2) (.slice (some ⟨g8, 0, none⟩) n2 (n2 + 12)) (by decide)
        have N6_201 := put2_block N6_195 (.bool s2) (.slice (some ⟨g8, 0, none⟩) n2 (n2 + 12))
        clear N5_196 O7_193 O8_194 N6_195
        refine wpAnyH_done (by kernel_rfl) ?_ _
        exact ⟨_, _, _, _, _, _, g7, g8, rfl, N5_198, N6_201, O7_199, O8_200, hS197.2⟩
      refine AllReadyH.cons (o := ({ dst := some 6, op := Op.alloc 24, type := 0, pos := "law.go:35", after := #[], guard := none } : Oper)) rfl (fun K hK => ?_) AllReadyH.nil
      have ltN6N5 := lt_of_get2 N5_177
      go_simp
      refine hK.out _ _ ⟨⟨keepG ((Gr.refl wc173).alloc (.cells #[.bool false, .slice none 0 0] 24)) hH174.1.1, keepG ((Gr.refl wc173).alloc (.cells #[.bool false, .slice none 0 0] 24)) hH174.1.2.1, keepG ((Gr.refl wc173).alloc (.cells #[.bool false, .slice none 0 0] 24)) hH174.1.2.2.1, keepG ((Gr.refl wc173).alloc (.cells #[.bool false, .slice none 0 0] 24)) hH174.1.2.2.2⟩, hH174.2.trans ((Gr.refl wc173).alloc (.cells #[.bool false, .slice none 0 0] 24))⟩ (fun hH203 => ?_)
      clear hK K
      (try simp only [Act.put, List.setIfInBounds_toArray, List.set_cons_zero, List.set_cons_succ])
      have N6_205 := blk1 wc173 (.cells #[.bool false, .slice none 0 0] 24)
      have gg204 := (Gr.refl wc173).alloc (.cells #[.bool false, .slice none 0 0] 24)
      have lN6206 := hH174.2.size
      have N5_207 := keepO gg204 N5_177
      clear N5_177
      have O7_208 := O7_176.gr gg204
      clear O7_176
      generalize wc173.alloc (.cells #[.bool false, .slice none 0 0] 24) = wa202 at *
      refine wpAnyH_ready (rs := [3]) (by kernel_rfl) (by simp) ?_
      refine AllReadyH.cons (o := ({ dst := some 38, op := Op.call { callee := Callee.value (Operand.func 9), args := #[Operand.tmp 37], argTypes := #[24] }, type := 24, pos := "law.go:35", after := #[{ on := 2, ground := Ground.data }, { on := 1, ground := Ground.chain }], guard := none } : Oper)) rfl (fun K hK => ?_) AllReadyH.nil
      go_simp
      with_reducible refine (X2.out _ hH203.2).mono ?_
      rintro r wc209 ⟨g8, rfl, O8_212, gg211⟩
      refine hK.out _ _ ⟨⟨keepG gg211 hH203.1.1, keepG gg211 hH203.1.2.1, keepG gg211 hH203.1.2.2.1, keepG gg211 hH203.1.2.2.2⟩, hH203.2.trans gg211⟩ (fun hH210 => ?_)
      have hzwc209 := hH203.2.size
      clear hK K
      (try simp only [Act.put, List.setIfInBounds_toArray, List.set_cons_zero, List.set_cons_succ])
      have N5_213 := keepO gg211 N5_207
      clear N5_207
      have O7_214 := O7_208.gr gg211
      clear O7_208
      have N6_215 := keepO gg211 N6_205
      clear N6_205
      refine wpAnyH_ready (rs := [6]) (by kernel_rfl) (by simp) ?_
      refine AllReadyH.cons (o := ({ dst := none, op := Op.store 24 (Operand.tmp 5) (Operand.tmp 36), type := 0, pos := "law.go:35", after := #[{ on := 4, ground := Ground.data }, { on := 1, ground := Ground.data }, { on := 3, ground := Ground.chain }, { on := 0, ground := Ground.phase }, { on := 1, ground := Ground.phase }, { on := 2, ground := Ground.textOnly Departure.lateStores }, { on := 3, ground := Ground.textOnly Departure.lateStoresUnsure }, { on := 4, ground := Ground.phase }, { on := 5, ground := Ground.phase }], guard := none } : Oper)) rfl (fun K hK => ?_) AllReadyH.nil
      obtain ⟨t0', t1', u0', u1'⟩ := outAny N5_213
      go_simp
      refine hK.out _ _ ⟨⟨far2 (B := wd.heap.size) (by omega) hH210.1.1, far2 (B := wd.heap.size) (by omega) hH210.1.2.1, far2 (B := wd.heap.size) (by omega) hH210.1.2.2.1, far2 (B := wd.heap.size) (by omega) hH210.1.2.2.2⟩, ((hH210.2.setCell (p := ⟨wd.heap.size, 0, none⟩) (by show _ ≤ wd.heap.size; omega) _).setCell (p := ⟨wd.heap.size, 1, none⟩) (by show _ ≤ wd.heap.size; omega) _)⟩ (fun hS216 => ?_)
      clear hK K t0' t1' u0' u1'
      (try simp only [Act.put, List.setIfInBounds_toArray, List.set_cons_zero, List.set_cons_succ])
      have O7_217 := O7_214.set2 N5_213 (.bool s1) (.slice (some ⟨g7, 0, none⟩) n1 (n1 + 12)) (by decide)
      have N6_218 := heap_farW (q := wd.heap.size) (i := 1) (v := .slice (some ⟨g7, 0, none⟩) n1 (n1 + 12)) (heap_farW (q := wd.heap.size) (i := 0) (v := .bool s1) N6_215 (by omega)) (by omega)
      have O8_219 := O8_212.set2 N5_213 (.bool s1) (.slice (some ⟨g7, 0, none⟩) n1 (n1 + 12)) (by decide)
      have N5_220 := put2_block N5_213 (.bool s1) (.slice (some ⟨g7, 0, none⟩) n1 (n1 + 12))
      clear O7_214 N6_215 O8_212 N5_213
      refine wpAnyH_ready (rs := [7]) (by kernel_rfl) (by simp) ?_
      refine AllReadyH.cons (o := ({ dst := none, op := Op.store 24 (Operand.tmp 6) (Operand.tmp 38), type := 0, pos := "law.go:35", after := #[{ on := 5, ground := Ground.data }, { on := 3, ground := Ground.data }, { on := 6, ground := Ground.chain }, { on := 0, ground := Ground.phase }, { on := 1, ground := Ground.phase }, { on := 2, ground := Ground.phase }, { on := 3, ground := Ground.phase }, { on := 4, ground := Ground.phase }, { on := 5, ground := Ground.phase }, { on := 6, ground := Ground.phase }], guard := none } : Oper)) rfl (fun K hK => ?_) AllReadyH.nil
      obtain ⟨t0', t1', u0', u1'⟩ := outAny N6_218
      go_simp
      refine hK.out _ _ ⟨⟨far2 (B := wc173.heap.size) (by omega) hS216.1.1, far2 (B := wc173.heap.size) (by omega) hS216.1.2.1, far2 (B := wc173.heap.size) (by omega) hS216.1.2.2.1, far2 (B := wc173.heap.size) (by omega) hS216.1.2.2.2⟩, ((hS216.2.setCell (p := ⟨wc173.heap.size, 0, none⟩) (by show _ ≤ wc173.heap.size; omega) _).setCell (p := ⟨wc173.heap.size, 1, none⟩) (by show _ ≤ wc173.heap.size; omega) _)⟩ (fun hS221 => ?_)
      clear hK K t0' t1' u0' u1'
      (try simp only [Act.put, List.setIfInBounds_toArray, List.set_cons_zero, List.set_cons_succ])
      have N5_222 := heap_farW (q := wc173.heap.size) (i := 1) (v := .slice (some ⟨g8, 0, none⟩) n2 (n2 + 12)) (heap_farW (q := wc173.heap.size) (i := 0) (v := .bool s2) N5_220 (by omega)) (by omega)
      have O7_223 := O7_217.set2 N6_218 (.bool s2) (.slice (some ⟨g8, 0, none⟩) n2 (n2 + 12)) (by decide)
      have O8_224 := O8_219.set2 N6_218 (.bool s2) (.slice (some ⟨g8, 0, none⟩) n2 (n2 + 12)) (by decide)
      have N6_225 := put2_block N6_218 (.bool s2) (.slice (some ⟨g8, 0, none⟩) n2 (n2 + 12))
      clear N5_220 O7_217 O8_219 N6_218
      refine wpAnyH_done (by kernel_rfl) ?_ _
      exact ⟨_, _, _, _, _, _, g7, g8, rfl, N5_222, N6_225, O7_223, O8_224, hS221.2⟩
    refine AllReadyH.cons (o := ({ dst := some 6, op := Op.alloc 24, type := 0, pos := "law.go:35", after := #[], guard := none } : Oper)) rfl (fun K hK => ?_) AllReadyH.nil
    have ltN6N5 := lt_of_get2 N5_171
    go_simp
    refine hK.out _ _ ⟨⟨keepG ((Gr.refl wa168).alloc (.cells #[.bool false, .slice none 0 0] 24)) hH169.1.1, keepG ((Gr.refl wa168).alloc (.cells #[.bool false, .slice none 0 0] 24)) hH169.1.2.1, keepG ((Gr.refl wa168).alloc (.cells #[.bool false, .slice none 0 0] 24)) hH169.1.2.2.1, keepG ((Gr.refl wa168).alloc (.cells #[.bool false, .slice none 0 0] 24)) hH169.1.2.2.2⟩, hH169.2.trans ((Gr.refl wa168).alloc (.cells #[.bool false, .slice none 0 0] 24))⟩ (fun hH227 => ?_)
    clear hK K
    (try simp only [Act.put, List.setIfInBounds_toArray, List.set_cons_zero, List.set_cons_succ])
    have N6_229 := blk1 wa168 (.cells #[.bool false, .slice none 0 0] 24)
    have gg228 := (Gr.refl wa168).alloc (.cells #[.bool false, .slice none 0 0] 24)
    have lN6230 := hH169.2.size
    have N5_231 := keepO gg228 N5_171
    clear N5_171
    generalize wa168.alloc (.cells #[.bool false, .slice none 0 0] 24) = wa226 at *
    refine wpAnyH_ready (rs := [1]) (by kernel_rfl) (by simp) ?_
    refine AllReadyH.cons (o := ({ dst := some 36, op := Op.call { callee := Callee.value (Operand.func 9), args := #[Operand.tmp 35], argTypes := #[24] }, type := 24, pos := "law.go:35", after := #[{ on := 0, ground := Ground.data }], guard := none } : Oper)) rfl (fun K hK => ?_) AllReadyH.nil
    go_simp
    with_reducible refine (X1.out _ hH227.2).mono ?_
    rintro r wc232 ⟨g7, rfl, O7_235, gg234⟩
    refine hK.out _ _ ⟨⟨keepG gg234 hH227.1.1, keepG gg234 hH227.1.2.1, keepG gg234 hH227.1.2.2.1, keepG gg234 hH227.1.2.2.2⟩, hH227.2.trans gg234⟩ (fun hH233 => ?_)
    have hzwc232 := hH227.2.size
    clear hK K
    (try simp only [Act.put, List.setIfInBounds_toArray, List.set_cons_zero, List.set_cons_succ])
    have N5_236 := keepO gg234 N5_231
    clear N5_231
    have N6_237 := keepO gg234 N6_229
    clear N6_229
    refine wpAnyH_ready (rs := [3]) (by kernel_rfl) (by simp) ?_
    refine AllReadyH.cons (o := ({ dst := some 38, op := Op.call { callee := Callee.value (Operand.func 9), args := #[Operand.tmp 37], argTypes := #[24] }, type := 24, pos := "law.go:35", after := #[{ on := 2, ground := Ground.data }, { on := 1, ground := Ground.chain }], guard := none } : Oper)) rfl (fun K hK => ?_) AllReadyH.nil
    go_simp
    with_reducible refine (X2.out _ hH233.2).mono ?_
    rintro r wc238 ⟨g8, rfl, O8_241, gg240⟩
    refine hK.out _ _ ⟨⟨keepG gg240 hH233.1.1, keepG gg240 hH233.1.2.1, keepG gg240 hH233.1.2.2.1, keepG gg240 hH233.1.2.2.2⟩, hH233.2.trans gg240⟩ (fun hH239 => ?_)
    have hzwc238 := hH233.2.size
    clear hK K
    (try simp only [Act.put, List.setIfInBounds_toArray, List.set_cons_zero, List.set_cons_succ])
    have N5_242 := keepO gg240 N5_236
    clear N5_236
    have N6_243 := keepO gg240 N6_237
    clear N6_237
    have O7_244 := O7_235.gr gg240
    clear O7_235
    refine wpAnyH_ready (rs := [6]) (by kernel_rfl) (by simp) ?_
    refine AllReadyH.cons (o := ({ dst := none, op := Op.store 24 (Operand.tmp 5) (Operand.tmp 36), type := 0, pos := "law.go:35", after := #[{ on := 4, ground := Ground.data }, { on := 1, ground := Ground.data }, { on := 3, ground := Ground.chain }, { on := 0, ground := Ground.phase }, { on := 1, ground := Ground.phase }, { on := 2, ground := Ground.textOnly Departure.lateStores }, { on := 3, ground := Ground.textOnly Departure.lateStoresUnsure }, { on := 4, ground := Ground.phase }, { on := 5, ground := Ground.phase }], guard := none } : Oper)) rfl (fun K hK => ?_) AllReadyH.nil
    obtain ⟨t0', t1', u0', u1'⟩ := outAny N5_242
    go_simp
    refine hK.out _ _ ⟨⟨far2 (B := wd.heap.size) (by omega) hH239.1.1, far2 (B := wd.heap.size) (by omega) hH239.1.2.1, far2 (B := wd.heap.size) (by omega) hH239.1.2.2.1, far2 (B := wd.heap.size) (by omega) hH239.1.2.2.2⟩, ((hH239.2.setCell (p := ⟨wd.heap.size, 0, none⟩) (by show _ ≤ wd.heap.size; omega) _).setCell (p := ⟨wd.heap.size, 1, none⟩) (by show _ ≤ wd.heap.size; omega) _)⟩ (fun hS245 => ?_)
    clear hK K t0' t1' u0' u1'
    (try simp only [Act.put, List.setIfInBounds_toArray, List.set_cons_zero, List.set_cons_succ])
    have N6_246 := heap_farW (q := wd.heap.size) (i := 1) (v := .slice (some ⟨g7, 0, none⟩) n1 (n1 + 12)) (heap_farW (q := wd.heap.size) (i := 0) (v := .bool s1) N6_243 (by omega)) (by omega)
    have O7_247 := O7_244.set2 N5_242 (.bool s1) (.slice (some ⟨g7, 0, none⟩) n1 (n1 + 12)) (by decide)
    have O8_248 := O8_241.set2 N5_242 (.bool s1) (.slice (some ⟨g7, 0, none⟩) n1 (n1 + 12)) (by decide)
    have N5_249 := put2_block N5_242 (.bool s1) (.slice (some ⟨g7, 0, none⟩) n1 (n1 + 12))
    clear N6_243 O7_244 O8_241 N5_242
    refine wpAnyH_ready (rs := [7]) (by kernel_rfl) (by simp) ?_
    refine AllReadyH.cons (o := ({ dst := none, op := Op.store 24 (Operand.tmp 6) (Operand.tmp 38), type := 0, pos := "law.go:35", after := #[{ on := 5, ground := Ground.data }, { on := 3, ground := Ground.data }, { on := 6, ground := Ground.chain }, { on := 0, ground := Ground.phase }, { on := 1, ground := Ground.phase }, { on := 2, ground := Ground.phase }, { on := 3, ground := Ground.phase }, { on := 4, ground := Ground.phase }, { on := 5, ground := Ground.phase }, { on := 6, ground := Ground.phase }], guard := none } : Oper)) rfl (fun K hK => ?_) AllReadyH.nil
    obtain ⟨t0', t1', u0', u1'⟩ := outAny N6_246
    go_simp
    refine hK.out _ _ ⟨⟨far2 (B := wa168.heap.size) (by omega) hS245.1.1, far2 (B := wa168.heap.size) (by omega) hS245.1.2.1, far2 (B := wa168.heap.size) (by omega) hS245.1.2.2.1, far2 (B := wa168.heap.size) (by omega) hS245.1.2.2.2⟩, ((hS245.2.setCell (p := ⟨wa168.heap.size, 0, none⟩) (by show _ ≤ wa168.heap.size; omega) _).setCell (p := ⟨wa168.heap.size, 1, none⟩) (by show _ ≤ wa168.heap.size; omega) _)⟩ (fun hS250 => ?_)
    clear hK K t0' t1' u0' u1'
    (try simp only [Act.put, List.setIfInBounds_toArray, List.set_cons_zero, List.set_cons_succ])
    have N5_251 := heap_farW (q := wa168.heap.size) (i := 1) (v := .slice (some ⟨g8, 0, none⟩) n2 (n2 + 12)) (heap_farW (q := wa168.heap.size) (i := 0) (v := .bool s2) N5_249 (by omega)) (by omega)
    have O7_252 := O7_247.set2 N6_246 (.bool s2) (.slice (some ⟨g8, 0, none⟩) n2 (n2 + 12)) (by decide)
    have O8_253 := O8_248.set2 N6_246 (.bool s2) (.slice (some ⟨g8, 0, none⟩) n2 (n2 + 12)) (by decide)
    have N6_254 := put2_block N6_246 (.bool s2) (.slice (some ⟨g8, 0, none⟩) n2 (n2 + 12))
    clear N5_249 O7_247 O8_248 N6_246
    refine wpAnyH_done (by kernel_rfl) ?_ _
    exact ⟨_, _, _, _, _, _, g7, g8, rfl, N5_251, N6_254, O7_252, O8_253, hS250.2⟩
  refine AllReadyH.cons (o := ({ dst := some 6, op := Op.alloc 24, type := 0, pos := "law.go:35", after := #[], guard := none } : Oper)) rfl (fun K hK => ?_) AllReadyH.nil
  go_simp
  refine hK.out _ _ ⟨⟨keepG ((Gr.refl wd).alloc (.cells #[.bool false, .slice none 0 0] 24)) hHeld.1.1, keepG ((Gr.refl wd).alloc (.cells #[.bool false, .slice none 0 0] 24)) hHeld.1.2.1, keepG ((Gr.refl wd).alloc (.cells #[.bool false, .slice none 0 0] 24)) hHeld.1.2.2.1, keepG ((Gr.refl wd).alloc (.cells #[.bool false, .slice none 0 0] 24)) hHeld.1.2.2.2⟩, hHeld.2.trans ((Gr.refl wd).alloc (.cells #[.bool false, .slice none 0 0] 24))⟩ (fun hH256 => ?_)
  clear hK K
  (try simp only [Act.put, List.setIfInBounds_toArray, List.set_cons_zero, List.set_cons_succ])
  have N6_258 := blk1 wd (.cells #[.bool false, .slice none 0 0] 24)
  have gg257 := (Gr.refl wd).alloc (.cells #[.bool false, .slice none 0 0] 24)
  have lN6259 := hHeld.2.size
  generalize wd.alloc (.cells #[.bool false, .slice none 0 0] 24) = wa255 at *
  refine wpAnyH_ready (rs := [1, 4]) (by kernel_rfl) (by simp) ?_
  refine AllReadyH.cons (o := ({ dst := some 36, op := Op.call { callee := Callee.value (Operand.func 9), args := #[Operand.tmp 35], argTypes := #[24] }, type := 24, pos := "law.go:35", after := #[{ on := 0, ground := Ground.data }], guard := none } : Oper)) rfl (fun K hK => ?_) ?_
  · go_simp
    with_reducible refine (X1.out _ hH256.2).mono ?_
    rintro r wc260 ⟨g7, rfl, O7_263, gg262⟩
    refine hK.out _ _ ⟨⟨keepG gg262 hH256.1.1, keepG gg262 hH256.1.2.1, keepG gg262 hH256.1.2.2.1, keepG gg262 hH256.1.2.2.2⟩, hH256.2.trans gg262⟩ (fun hH261 => ?_)
    have hzwc260 := hH256.2.size
    clear hK K
    (try simp only [Act.put, List.setIfInBounds_toArray, List.set_cons_zero, List.set_cons_succ])
    have N6_264 := keepO gg262 N6_258
    clear N6_258
    refine wpAnyH_ready (rs := [3, 4]) (by kernel_rfl) (by simp) ?_
    refine AllReadyH.cons (o := ({ dst := some 38, op := Op.call { callee := Callee.value (Operand.func 9), args := #[Operand.tmp 37], argTypes := #[24] }, type := 24, pos := "law.go:35", after := #[{ on := 2, ground := Ground.data }, { on := 1, ground := Ground.chain }], guard := none } : Oper)) rfl (fun K hK => ?_) ?_
    · go_simp
      with_reducible refine (X2.out _ hH261.2).mono ?_
      rintro r wc265 ⟨g8, rfl, O8_268, gg267⟩
      refine hK.out _ _ ⟨⟨keepG gg267 hH261.1.1, keepG gg267 hH261.1.2.1, keepG gg267 hH261.1.2.2.1, keepG gg267 hH261.1.2.2.2⟩, hH261.2.trans gg267⟩ (fun hH266 => ?_)
      have hzwc265 := hH261.2.size
      clear hK K
      (try simp only [Act.put, List.setIfInBounds_toArray, List.set_cons_zero, List.set_cons_succ])
      have N6_269 := keepO gg267 N6_264
      clear N6_264
      have O7_270 := O7_263.gr gg267
      clear O7_263
      refine wpAnyH_ready (rs := [4]) (by kernel_rfl) (by simp) ?_
      refine AllReadyH.cons (o := ({ dst := some 5, op := Op.alloc 24, type := 0, pos := "law.go:35", after := #[], guard := none } : Oper)) rfl (fun K hK => ?_) AllReadyH.nil
      have ltN5N6 := lt_of_get2 N6_269
      go_simp
      refine hK.out _ _ ⟨⟨keepG ((Gr.refl wc265).alloc (.cells #[.bool false, .slice none 0 0] 24)) hH266.1.1, keepG ((Gr.refl wc265).alloc (.cells #[.bool false, .slice none 0 0] 24)) hH266.1.2.1, keepG ((Gr.refl wc265).alloc (.cells #[.bool false, .slice none 0 0] 24)) hH266.1.2.2.1, keepG ((Gr.refl wc265).alloc (.cells #[.bool false, .slice none 0 0] 24)) hH266.1.2.2.2⟩, hH266.2.trans ((Gr.refl wc265).alloc (.cells #[.bool false, .slice none 0 0] 24))⟩ (fun hH272 => ?_)
      clear hK K
      (try simp only [Act.put, List.setIfInBounds_toArray, List.set_cons_zero, List.set_cons_succ])
      have N5_274 := blk1 wc265 (.cells #[.bool false, .slice none 0 0] 24)
      have gg273 := (Gr.refl wc265).alloc (.cells #[.bool false, .slice none 0 0] 24)
      have lN5275 := hH266.2.size
      have N6_276 := keepO gg273 N6_269
      clear N6_269
      have O7_277 := O7_270.gr gg273
      clear O7_270
      have O8_278 := O8_268.gr gg273
      clear O8_268
      generalize wc265.alloc (.cells #[.bool false, .slice none 0 0] 24) = wa271 at *
      refine wpAnyH_ready (rs := [6]) (by kernel_rfl) (by simp) ?_
      refine AllReadyH.cons (o := ({ dst := none, op := Op.store 24 (Operand.tmp 5) (Operand.tmp 36), type := 0, pos := "law.go:35", after := #[{ on := 4, ground := Ground.data }, { on := 1, ground := Ground.data }, { on := 3, ground := Ground.chain }, { on := 0, ground := Ground.phase }, { on := 1, ground := Ground.phase }, { on := 2, ground := Ground.textOnly Departure.lateStores }, { on := 3, ground := Ground.textOnly Departure.lateStoresUnsure }, { on := 4, ground := Ground.phase }, { on := 5, ground := Ground.phase }], guard := none } : Oper)) rfl (fun K hK => ?_) AllReadyH.nil
      obtain ⟨t0', t1', u0', u1'⟩ := outAny N5_274
      go_simp
      refine hK.out _ _ ⟨⟨far2 (B := wc265.heap.size) (by omega) hH272.1.1, far2 (B := wc265.heap.size) (by omega) hH272.1.2.1, far2 (B := wc265.heap.size) (by omega) hH272.1.2.2.1, far2 (B := wc265.heap.size) (by omega) hH272.1.2.2.2⟩, ((hH272.2.setCell (p := ⟨wc265.heap.size, 0, none⟩) (by show _ ≤ wc265.heap.size; omega) _).setCell (p := ⟨wc265.heap.size, 1, none⟩) (by show _ ≤ wc265.heap.size; omega) _)⟩ (fun hS279 => ?_)
      clear hK K t0' t1' u0' u1'
      (try simp only [Act.put, List.setIfInBounds_toArray, List.set_cons_zero, List.set_cons_succ])
      have N6_280 := heap_farW (q := wc265.heap.size) (i := 1) (v := .slice (some ⟨g7, 0, none⟩) n1 (n1 + 12)) (heap_farW (q := wc265.heap.size) (i := 0) (v := .bool s1) N6_276 (by omega)) (by omega)
      have O7_281 := O7_277.set2 N5_274 (.bool s1) (.slice (some ⟨g7, 0, none⟩) n1 (n1 + 12)) (by decide)
      have O8_282 := O8_278.set2 N5_274 (.bool s1) (.slice (some ⟨g7, 0, none⟩) n1 (n1 + 12)) (by decide)
      have N5_283 := put2_block N5_274 (.bool s1) (.slice (some ⟨g7, 0, none⟩) n1 (n1 + 12))
      clear N6_276 O7_277 O8_278 N5_274
      refine wpAnyH_ready (rs := [7]) (by kernel_rfl) (by simp) ?_
      refine AllReadyH.cons (o := ({ dst := none, op := Op.store 24 (Operand.tmp 6) (Operand.tmp 38), type := 0, pos := "law.go:35", after := #[{ on := 5, ground := Ground.data }, { on := 3, ground := Ground.data }, { on := 6, ground := Ground.chain }, { on := 0, ground := Ground.phase }, { on := 1, ground := Ground.phase }, { on := 2, ground := Ground.phase }, { on := 3, ground := Ground.phase }, { on := 4, ground := Ground.phase }, { on := 5, ground := Ground.phase }, { on := 6, ground := Ground.phase }], guard := none } : Oper)) rfl (fun K hK => ?_) AllReadyH.nil
      obtain ⟨t0', t1', u0', u1'⟩ := outAny N6_280
      go_simp
      refine hK.out _ _ ⟨⟨far2 (B := wd.heap.size) (by omega) hS279.1.1, far2 (B := wd.heap.size) (by omega) hS279.1.2.1, far2 (B := wd.heap.size) (by omega) hS279.1.2.2.1, far2 (B := wd.heap.size) (by omega) hS279.1.2.2.2⟩, ((hS279.2.setCell (p := ⟨wd.heap.size, 0, none⟩) (by show _ ≤ wd.heap.size; omega) _).setCell (p := ⟨wd.heap.size, 1, none⟩) (by show _ ≤ wd.heap.size; omega) _)⟩ (fun hS284 => ?_)
      clear hK K t0' t1' u0' u1'
      (try simp only [Act.put, List.setIfInBounds_toArray, List.set_cons_zero, List.set_cons_succ])
      have O7_285 := O7_281.set2 N6_280 (.bool s2) (.slice (some ⟨g8, 0, none⟩) n2 (n2 + 12)) (by decide)
      have O8_286 := O8_282.set2 N6_280 (.bool s2) (.slice (some ⟨g8, 0, none⟩) n2 (n2 + 12)) (by decide)
      have N5_287 := heap_farW (q := wd.heap.size) (i := 1) (v := .slice (some ⟨g8, 0, none⟩) n2 (n2 + 12)) (heap_farW (q := wd.heap.size) (i := 0) (v := .bool s2) N5_283 (by omega)) (by omega)
      have N6_288 := put2_block N6_280 (.bool s2) (.slice (some ⟨g8, 0, none⟩) n2 (n2 + 12))
      clear O7_281 O8_282 N5_283 N6_280
      refine wpAnyH_done (by kernel_rfl) ?_ _
      exact ⟨_, _, _, _, _, _, g7, g8, rfl, N5_287, N6_288, O7_285, O8_286, hS284.2⟩
    refine AllReadyH.cons (o := ({ dst := some 5, op := Op.alloc 24, type := 0, pos := "law.go:35", after := #[], guard := none } : Oper)) rfl (fun K hK => ?_) AllReadyH.nil
    have ltN5N6 := lt_of_get2 N6_264
    go_simp
    refine hK.out _ _ ⟨⟨keepG ((Gr.refl wc260).alloc (.cells #[.bool false, .slice none 0 0] 24)) hH261.1.1, keepG ((Gr.refl wc260).alloc (.cells #[.bool false, .slice none 0 0] 24)) hH261.1.2.1, keepG ((Gr.refl wc260).alloc (.cells #[.bool false, .slice none 0 0] 24)) hH261.1.2.2.1, keepG ((Gr.refl wc260).alloc (.cells #[.bool false, .slice none 0 0] 24)) hH261.1.2.2.2⟩, hH261.2.trans ((Gr.refl wc260).alloc (.cells #[.bool false, .slice none 0 0] 24))⟩ (fun hH290 => ?_)
    clear hK K
    (try simp only [Act.put, List.setIfInBounds_toArray, List.set_cons_zero, List.set_cons_succ])
    have N5_292 := blk1 wc260 (.cells #[.bool false, .slice none 0 0] 24)
    have gg291 := (Gr.refl wc260).alloc (.cells #[.bool false, .slice none 0 0] 24)
    have lN5293 := hH261.2.size
    have N6_294 := keepO gg291 N6_264
    clear N6_264
    have O7_295 := O7_263.gr gg291
    clear O7_263
    generalize wc260.alloc (.cells #[.bool false, .slice none 0 0] 24) = wa289 at *
    refine wpAnyH_ready (rs := [3]) (by kernel_rfl) (by simp) ?_
    refine AllReadyH.cons (o := ({ dst := some 38, op := Op.call { callee := Callee.value (Operand.func 9), args := #[Operand.tmp 37], argTypes := #[24] }, type := 24, pos := "law.go:35", after := #[{ on := 2, ground := Ground.data }, { on := 1, ground := Ground.chain }], guard := none } : Oper)) rfl (fun K hK => ?_) AllReadyH.nil
    go_simp
    with_reducible refine (X2.out _ hH290.2).mono ?_
    rintro r wc296 ⟨g8, rfl, O8_299, gg298⟩
    refine hK.out _ _ ⟨⟨keepG gg298 hH290.1.1, keepG gg298 hH290.1.2.1, keepG gg298 hH290.1.2.2.1, keepG gg298 hH290.1.2.2.2⟩, hH290.2.trans gg298⟩ (fun hH297 => ?_)
    have hzwc296 := hH290.2.size
    clear hK K
    (try simp only [Act.put, List.setIfInBounds_toArray, List.set_cons_zero, List.set_cons_succ])
    have N6_300 := keepO gg298 N6_294
    clear N6_294
    have O7_301 := O7_295.gr gg298
    clear O7_295
    have N5_302 := keepO gg298 N5_292
    clear N5_292
    refine wpAnyH_ready (rs := [6]) (by kernel_rfl) (by simp) ?_
    refine AllReadyH.cons (o := ({ dst := none, op := Op.store 24 (Operand.tmp 5) (Operand.tmp 36), type := 0, pos := "law.go:35", after := #[{ on := 4, ground := Ground.data }, { on := 1, ground := Ground.data }, { on := 3, ground := Ground.chain }, { on := 0, ground := Ground.phase }, { on := 1, ground := Ground.phase }, { on := 2, ground := Ground.textOnly Departure.lateStores }, { on := 3, ground := Ground.textOnly Departure.lateStoresUnsure }, { on := 4, ground := Ground.phase }, { on := 5, ground := Ground.phase }], guard := none } : Oper)) rfl (fun K hK => ?_) AllReadyH.nil
    obtain ⟨t0', t1', u0', u1'⟩ := outAny N5_302
    go_simp
    refine hK.out _ _ ⟨⟨far2 (B := wc260.heap.size) (by omega) hH297.1.1, far2 (B := wc260.heap.size) (by omega) hH297.1.2.1, far2 (B := wc260.heap.size) (by omega) hH297.1.2.2.1, far2 (B := wc260.heap.size) (by omega) hH297.1.2.2.2⟩, ((hH297.2.setCell (p := ⟨wc260.heap.size, 0, none⟩) (by show _ ≤ wc260.heap.size; omega) _).setCell (p := ⟨wc260.heap.size, 1, none⟩) (by show _ ≤ wc260.heap.size; omega) _)⟩ (fun hS303 => ?_)
    clear hK K t0' t1' u0' u1'
    (try simp only [Act.put, List.setIfInBounds_toArray, List.set_cons_zero, List.set_cons_succ])
    have N6_304 := heap_farW (q := wc260.heap.size) (i := 1) (v := .slice (some ⟨g7, 0, none⟩) n1 (n1 + 12)) (heap_farW (q := wc260.heap.size) (i := 0) (v := .bool s1) N6_300 (by omega)) (by omega)
    have O7_305 := O7_301.set2 N5_302 (.bool s1) (.slice (some ⟨g7, 0, none⟩) n1 (n1 + 12)) (by decide)
    have O8_306 := O8_299.set2 N5_302 (.bool s1) (.slice (some ⟨g7, 0, none⟩) n1 (n1 + 12)) (by decide)
    have N5_307 := put2_block N5_302 (.bool s1) (.slice (some ⟨g7, 0, none⟩) n1 (n1 + 12))
    clear N6_300 O7_301 O8_299 N5_302
    refine wpAnyH_ready (rs := [7]) (by kernel_rfl) (by simp) ?_
    refine AllReadyH.cons (o := ({ dst := none, op := Op.store 24 (Operand.tmp 6) (Operand.tmp 38), type := 0, pos := "law.go:35", after := #[{ on := 5, ground := Ground.data }, { on := 3, ground := Ground.data }, { on := 6, ground := Ground.chain }, { on := 0, ground := Ground.phase }, { on := 1, ground := Ground.phase }, { on := 2, ground := Ground.phase }, { on := 3, ground := Ground.phase }, { on := 4, ground := Ground.phase }, { on := 5, ground := Ground.phase }, { on := 6, ground := Ground.phase }], guard := none } : Oper)) rfl (fun K hK => ?_) AllReadyH.nil
    obtain ⟨t0', t1', u0', u1'⟩ := outAny N6_304
    go_simp
    refine hK.out _ _ ⟨⟨far2 (B := wd.heap.size) (by omega) hS303.1.1, far2 (B := wd.heap.size) (by omega) hS303.1.2.1, far2 (B := wd.heap.size) (by omega) hS303.1.2.2.1, far2 (B := wd.heap.size) (by omega) hS303.1.2.2.2⟩, ((hS303.2.setCell (p := ⟨wd.heap.size, 0, none⟩) (by show _ ≤ wd.heap.size; omega) _).setCell (p := ⟨wd.heap.size, 1, none⟩) (by show _ ≤ wd.heap.size; omega) _)⟩ (fun hS308 => ?_)
    clear hK K t0' t1' u0' u1'
    (try simp only [Act.put, List.setIfInBounds_toArray, List.set_cons_zero, List.set_cons_succ])
    have O7_309 := O7_305.set2 N6_304 (.bool s2) (.slice (some ⟨g8, 0, none⟩) n2 (n2 + 12)) (by decide)
    have N5_310 := heap_farW (q := wd.heap.size) (i := 1) (v := .slice (some ⟨g8, 0, none⟩) n2 (n2 + 12)) (heap_farW (q := wd.heap.size) (i := 0) (v := .bool s2) N5_307 (by omega)) (by omega)
    have O8_311 := O8_306.set2 N6_304 (.bool s2) (.slice (some ⟨g8, 0, none⟩) n2 (n2 + 12)) (by decide)
    have N6_312 := put2_block N6_304 (.bool s2) (.slice (some ⟨g8, 0, none⟩) n2 (n2 + 12))
    clear O7_305 N5_307 O8_306 N6_304
    refine wpAnyH_done (by kernel_rfl) ?_ _
    exact ⟨_, _, _, _, _, _, g7, g8, rfl, N5_310, N6_312, O7_309, O8_311, hS308.2⟩
  refine AllReadyH.cons (o := ({ dst := some 5, op := Op.alloc 24, type := 0, pos := "law.go:35", after := #[], guard := none } : Oper)) rfl (fun K hK => ?_) AllReadyH.nil
  have ltN5N6 := lt_of_get2 N6_258
  go_simp
  refine hK.out _ _ ⟨⟨keepG ((Gr.refl wa255).alloc (.cells #[.bool false, .slice none 0 0] 24)) hH256.1.1, keepG ((Gr.refl wa255).alloc (.cells #[.bool false, .slice none 0 0] 24)) hH256.1.2.1, keepG ((Gr.refl wa255).alloc (.cells #[.bool false, .slice none 0 0] 24)) hH256.1.2.2.1, keepG ((Gr.refl wa255).alloc (.cells #[.bool false, .slice none 0 0] 24)) hH256.1.2.2.2⟩, hH256.2.trans ((Gr.refl wa255).alloc (.cells #[.bool false, .slice none 0 0] 24))⟩ (fun hH314 => ?_)
  clear hK K
  (try simp only [Act.put, List.setIfInBounds_toArray, List.set_cons_zero, List.set_cons_succ])
  have N5_316 := blk1 wa255 (.cells #[.bool false, .slice none 0 0] 24)
  have gg315 := (Gr.refl wa255).alloc (.cells #[.bool false, .slice none 0 0] 24)
  have lN5317 := hH256.2.size
  have N6_318 := keepO gg315 N6_258
  clear N6_258
  generalize wa255.alloc (.cells #[.bool false, .slice none 0 0] 24) = wa313 at *
  refine wpAnyH_ready (rs := [1]) (by kernel_rfl) (by simp) ?_
  refine AllReadyH.cons (o := ({ dst := some 36, op := Op.call { callee := Callee.value (Operand.func 9), args := #[Operand.tmp 35], argTypes := #[24] }, type := 24, pos := "law.go:35", after := #[{ on := 0, ground := Ground.data }], guard := none } : Oper)) rfl (fun K hK => ?_) AllReadyH.nil
  go_simp
  with_reducible refine (X1.out _ hH314.2).mono ?_
  rintro r wc319 ⟨g7, rfl, O7_322, gg321⟩
  refine hK.out _ _ ⟨⟨keepG gg321 hH314.1.1, keepG gg321 hH314.1.2.1, keepG gg321 hH314.1.2.2.1, keepG gg321 hH314.1.2.2.2⟩, hH314.2.trans gg321⟩ (fun hH320 => ?_)
  have hzwc319 := hH314.2.size
  clear hK K
  (try simp only [Act.put, List.setIfInBounds_toArray, List.set_cons_zero, List.set_cons_succ])
  have N6_323 := keepO gg321 N6_318
  clear N6_318
  have N5_324 := keepO gg321 N5_316
  clear N5_316
  refine wpAnyH_ready (rs := [3]) (by kernel_rfl) (by simp) ?_
  refine AllReadyH.cons (o := ({ dst := some 38, op := Op.call { callee := Callee.value (Operand.func 9), args := #[Operand.tmp 37], argTypes := #[24] }, type := 24, pos := "law.go:35", after := #[{ on := 2, ground := Ground.data }, { on := 1, ground := Ground.chain }], guard := none } : Oper)) rfl (fun K hK => ?_) AllReadyH.nil
  go_simp
  with_reducible refine (X2.out _ hH320.2).mono ?_
  rintro r wc325 ⟨g8, rfl, O8_328, gg327⟩
  refine hK.out _ _ ⟨⟨keepG gg327 hH320.1.1, keepG gg327 hH320.1.2.1, keepG gg327 hH320.1.2.2.1, keepG gg327 hH320.1.2.2.2⟩, hH320.2.trans gg327⟩ (fun hH326 => ?_)
  have hzwc325 := hH320.2.size
  clear hK K
  (try simp only [Act.put, List.setIfInBounds_toArray, List.set_cons_zero, List.set_cons_succ])
  have N6_329 := keepO gg327 N6_323
  clear N6_323
  have N5_330 := keepO gg327 N5_324
  clear N5_324
  have O7_331 := O7_322.gr gg327
  clear O7_322
  refine wpAnyH_ready (rs := [6]) (by kernel_rfl) (by simp) ?_
  refine AllReadyH.cons (o := ({ dst := none, op := Op.store 24 (Operand.tmp 5) (Operand.tmp 36), type := 0, pos := "law.go:35", after := #[{ on := 4, ground := Ground.data }, { on := 1, ground := Ground.data }, { on := 3, ground := Ground.chain }, { on := 0, ground := Ground.phase }, { on := 1, ground := Ground.phase }, { on := 2, ground := Ground.textOnly Departure.lateStores }, { on := 3, ground := Ground.textOnly Departure.lateStoresUnsure }, { on := 4, ground := Ground.phase }, { on := 5, ground := Ground.phase }], guard := none } : Oper)) rfl (fun K hK => ?_) AllReadyH.nil
  obtain ⟨t0', t1', u0', u1'⟩ := outAny N5_330
  go_simp
  refine hK.out _ _ ⟨⟨far2 (B := wa255.heap.size) (by omega) hH326.1.1, far2 (B := wa255.heap.size) (by omega) hH326.1.2.1, far2 (B := wa255.heap.size) (by omega) hH326.1.2.2.1, far2 (B := wa255.heap.size) (by omega) hH326.1.2.2.2⟩, ((hH326.2.setCell (p := ⟨wa255.heap.size, 0, none⟩) (by show _ ≤ wa255.heap.size; omega) _).setCell (p := ⟨wa255.heap.size, 1, none⟩) (by show _ ≤ wa255.heap.size; omega) _)⟩ (fun hS332 => ?_)
  clear hK K t0' t1' u0' u1'
  (try simp only [Act.put, List.setIfInBounds_toArray, List.set_cons_zero, List.set_cons_succ])
  have N6_333 := heap_farW (q := wa255.heap.size) (i := 1) (v := .slice (some ⟨g7, 0, none⟩) n1 (n1 + 12)) (heap_farW (q := wa255.heap.size) (i := 0) (v := .bool s1) N6_329 (by omega)) (by omega)
  have O7_334 := O7_331.set2 N5_330 (.bool s1) (.slice (some ⟨g7, 0, none⟩) n1 (n1 + 12)) (by decide)
  have O8_335 := O8_328.set2 N5_330 (.bool s1) (.slice (some ⟨g7, 0, none⟩) n1 (n1 + 12)) (by decide)
  have N5_336 := put2_block N5_330 (.bool s1) (.slice (some ⟨g7, 0, none⟩) n1 (n1 + 12))
  clear N6_329 O7_331 O8_328 N5_330
  refine wpAnyH_ready (rs := [7]) (by kernel_rfl) (by simp) ?_
  refine AllReadyH.cons (o := ({ dst := none, op := Op.store 24 (Operand.tmp 6) (Operand.tmp 38), type := 0, pos := "law.go:35", after := #[{ on := 5, ground := Ground.data }, { on := 3, ground := Ground.data }, { on := 6, ground := Ground.chain }, { on := 0, ground := Ground.phase }, { on := 1, ground := Ground.phase }, { on := 2, ground := Ground.phase }, { on := 3, ground := Ground.phase }, { on := 4, ground := Ground.phase }, { on := 5, ground := Ground.phase }, { on := 6, ground := Ground.phase }], guard := none } : Oper)) rfl (fun K hK => ?_) AllReadyH.nil
  obtain ⟨t0', t1', u0', u1'⟩ := outAny N6_333
  go_simp
  refine hK.out _ _ ⟨⟨far2 (B := wd.heap.size) (by omega) hS332.1.1, far2 (B := wd.heap.size) (by omega) hS332.1.2.1, far2 (B := wd.heap.size) (by omega) hS332.1.2.2.1, far2 (B := wd.heap.size) (by omega) hS332.1.2.2.2⟩, ((hS332.2.setCell (p := ⟨wd.heap.size, 0, none⟩) (by show _ ≤ wd.heap.size; omega) _).setCell (p := ⟨wd.heap.size, 1, none⟩) (by show _ ≤ wd.heap.size; omega) _)⟩ (fun hS337 => ?_)
  clear hK K t0' t1' u0' u1'
  (try simp only [Act.put, List.setIfInBounds_toArray, List.set_cons_zero, List.set_cons_succ])
  have N5_338 := heap_farW (q := wd.heap.size) (i := 1) (v := .slice (some ⟨g8, 0, none⟩) n2 (n2 + 12)) (heap_farW (q := wd.heap.size) (i := 0) (v := .bool s2) N5_336 (by omega)) (by omega)
  have O7_339 := O7_334.set2 N6_333 (.bool s2) (.slice (some ⟨g8, 0, none⟩) n2 (n2 + 12)) (by decide)
  have O8_340 := O8_335.set2 N6_333 (.bool s2) (.slice (some ⟨g8, 0, none⟩) n2 (n2 + 12)) (by decide)
  have N6_341 := put2_block N6_333 (.bool s2) (.slice (some ⟨g8, 0, none⟩) n2 (n2 + 12))
  clear N5_336 O7_334 O8_335 N6_333
  refine wpAnyH_done (by kernel_rfl) ?_ _
  exact ⟨_, _, _, _, _, _, g7, g8, rfl, N5_338, N6_341, O7_339, O8_340, hS337.2⟩
end Go.Proofs.Ytobceegpcimdgaa
