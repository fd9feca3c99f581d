import Derived.Test.YthilajhciifhaaaGreatDoorM39
import Derived.Deep.RegionHeld3
namespace Go.Proofs.YthilajhciifhaaaGreatDoor
open Go.RowKit
set_option linter.unusedVariables false
set_option linter.unusedSimpArgs false
def RW33 (t0 t5 t6 t7 t8 t9 t10 t11 t12 t13 t14 t15 t16 t17 t18 t19 t20 t21 t22 t23 t24 t25 : Value) (b1 : Nat) (wq : World) : Exit → Act → World → Prop
  | .normal, a, w => ∃ u13 u14 u15 u16 u17 u18 u19 u20 u21 u22 u23 u24 u25, a = { tmps := #[.bool true, .pointer (some ⟨b1, 0, none⟩), .int .i64 0, .complex .f64 4604544271217802189 4604544271217802189, .int .i64 0, t5, t6, t7, t8, t9, t10, t11, t12, u13, u14, u15, u16, u17, u18, u19, u20, u21, u22, u23, u24, u25], defers := [] } ∧ Gr wq w
  | _, _, _ => False
set_option maxRecDepth 100000 in
set_option maxHeartbeats 40000000 in
theorem regW33 (t0 t5 t6 t7 t8 t9 t10 t11 t12 t13 t14 t15 t16 t17 t18 t19 t20 t21 t22 t23 t24 t25 : Value) (b1 : Nat) (v1_0 v1_1 v1_2 v1_3 v1_4 v1_5 : Value) (V1 V2 V3 V4 : Int) (wq : World) (O1 : Hid (∀ w1, Calls Tryz.prog 25 #[.bool false, .int .u64 11, .int .i64 (-4)] w1 fun r w' => (∃ ad cap, r = .returned (.agg #[.bool false, .slice ad 1 cap, .int .i64 (-4)]) ∧ DyV w' false ad 1 cap (-4) V1) ∧ Gr w1 w')) (O2 : Hid (∀ w1, Calls Tryz.prog 25 #[.bool false, .int .u64 3, .int .i64 (-2)] w1 fun r w' => (∃ ad cap, r = .returned (.agg #[.bool false, .slice ad 1 cap, .int .i64 (-2)]) ∧ DyV w' false ad 1 cap (-2) V2) ∧ Gr w1 w')) (I1 : Hid (∀ w1 a3 c3 a4 c4, Gr wq w1 → DyV w1 false a3 1 c3 (-4) V1 → DyV w1 false a4 1 c4 (-2) V2 → Calls Tryz.prog 28 #[.agg #[v1_0, v1_1, v1_2, v1_3, v1_4, v1_5], .int .i64 0, .agg #[.bool false, .slice a3 1 c3, .int .i64 (-4)], .agg #[.bool false, .slice a4 1 c4, .int .i64 (-2)]] w1 fun r w' => r = .returned (.bool true) ∧ Gr w1 w')) (hcs : (wq.cell? ⟨b1, 0, none⟩ = some (v1_0) ∧ wq.cell? ⟨b1, 1, none⟩ = some (v1_1) ∧ wq.cell? ⟨b1, 2, none⟩ = some (v1_2) ∧ wq.cell? ⟨b1, 3, none⟩ = some (v1_3) ∧ wq.cell? ⟨b1, 4, none⟩ = some (v1_4) ∧ wq.cell? ⟨b1, 5, none⟩ = some (v1_5))) (hx : (FloatKind.f64.format.order 4604544271217802189 4604544271217802189 == some Ordering.eq) = true) :
    Code.wp Tryz.prog (Code.region 3 #[{ dst := some 13, op := Op.load 51 (Operand.tmp 1), type := 51, pos := "law.go:26", after := #[], guard := none }, { dst := some 14, op := Op.move (Operand.tmp 2), type := 30, pos := "law.go:26", after := #[], guard := none }, { dst := some 15, op := Op.call { callee := Callee.value (Operand.func 25), args := #[Operand.const (Value.bool false), Operand.const (Value.int IntKind.u64 11), Operand.const (Value.int IntKind.i64 (-4))], argTypes := #[4, 49, 3] }, type := 24, pos := "law.go:26", after := #[], guard := none }, { dst := some 16, op := Op.call { callee := Callee.value (Operand.func 25), args := #[Operand.const (Value.bool false), Operand.const (Value.int IntKind.u64 3), Operand.const (Value.int IntKind.i64 (-2))], argTypes := #[4, 49, 3] }, type := 24, pos := "law.go:26", after := #[{ on := 2, ground := Ground.chain }], guard := none }, { dst := some 17, op := Op.call { callee := Callee.value (Operand.func 28), args := #[Operand.tmp 13, Operand.tmp 14, Operand.tmp 15, Operand.tmp 16], argTypes := #[51, 30, 24, 24] }, type := 4, pos := "law.go:26", after := #[{ on := 0, ground := Ground.data }, { on := 1, ground := Ground.data }, { on := 2, ground := Ground.data }, { on := 3, ground := Ground.data }, { on := 3, ground := Ground.chain }], guard := none }, { dst := some 18, op := Op.move (Operand.tmp 17), type := 4, pos := "law.go:26", after := #[{ on := 4, ground := Ground.data }, { on := 4, ground := Ground.chain }], guard := none }, { dst := some 19, op := Op.move (Operand.tmp 4), type := 30, pos := "law.go:26", after := #[{ on := 5, ground := Ground.guard }], guard := some (5, true) }, { dst := some 20, op := Op.binOp BinOp.eql 30 (Operand.tmp 19) (Operand.const (Value.int IntKind.i64 0)) 30, type := 4, pos := "law.go:26", after := #[{ on := 6, ground := Ground.data }, { on := 5, ground := Ground.guard }], guard := some (5, true) }, { dst := some 21, op := Op.pick (Operand.tmp 18) (Operand.tmp 20) (Operand.const (Value.bool false)), type := 4, pos := "law.go:26", after := #[{ on := 5, ground := Ground.data }, { on := 7, ground := Ground.data }], guard := none }, { dst := some 22, op := Op.move (Operand.tmp 21), type := 4, pos := "law.go:26", after := #[{ on := 8, ground := Ground.data }, { on := 5, ground := Ground.chain }], guard := none }, { dst := some 23, op := Op.move (Operand.tmp 3), type := 58, pos := "law.go:26", after := #[{ on := 9, ground := Ground.guard }], guard := some (9, true) }, { dst := some 24, op := Op.binOp BinOp.eql 58 (Operand.tmp 23) (Operand.const (Value.complex FloatKind.f64 4604544271217802189 4604544271217802189)) 58, type := 4, pos := "law.go:26", after := #[{ on := 10, ground := Ground.data }, { on := 9, ground := Ground.guard }], guard := some (9, true) }, { dst := some 25, op := Op.pick (Operand.tmp 22) (Operand.tmp 24) (Operand.const (Value.bool false)), type := 4, pos := "law.go:26", after := #[{ on := 9, ground := Ground.data }, { on := 11, ground := Ground.data }], guard := none }, { dst := some 0, op := Op.assign (Operand.tmp 25), type := 4, pos := "law.go:26", after := #[{ on := 12, ground := Ground.data }, { on := 9, ground := Ground.chain }, { on := 0, ground := Ground.phase }, { on := 1, ground := Ground.phase }, { on := 2, ground := Ground.phase }, { on := 3, ground := Ground.phase }, { on := 4, ground := Ground.phase }, { on := 5, ground := Ground.phase }, { on := 6, ground := Ground.phase }, { on := 7, ground := Ground.phase }, { on := 8, ground := Ground.phase }, { on := 9, ground := Ground.phase }, { on := 10, ground := Ground.phase }, { on := 11, ground := Ground.phase }, { on := 12, ground := Ground.phase }], guard := none }] true) (RW33 t0 t5 t6 t7 t8 t9 t10 t11 t12 t13 t14 t15 t16 t17 t18 t19 t20 t21 t22 t23 t24 t25 b1 wq) { tmps := #[t0, .pointer (some ⟨b1, 0, none⟩), .int .i64 0, .complex .f64 4604544271217802189 4604544271217802189, .int .i64 0, t5, t6, t7, t8, t9, t10, t11, t12, t13, t14, t15, t16, t17, t18, t19, t20, t21, t22, t23, t24, t25], defers := [] } wq := by
  have hS0 : (wq.drew.cell? ⟨b1, 0, none⟩ = some (v1_0) ∧ wq.drew.cell? ⟨b1, 1, none⟩ = some (v1_1) ∧ wq.drew.cell? ⟨b1, 2, none⟩ = some (v1_2) ∧ wq.drew.cell? ⟨b1, 3, none⟩ = some (v1_3) ∧ wq.drew.cell? ⟨b1, 4, none⟩ = some (v1_4) ∧ wq.drew.cell? ⟨b1, 5, none⟩ = some (v1_5)) ∧ Gr wq wq.drew := ⟨hcs, (Gr.refl wq).drew⟩
  have hg0 : Gr wq wq.drew := (Gr.refl wq).drew
  clear hcs
  refine wp_region_held_drew (S := fun w' => (w'.cell? ⟨b1, 0, none⟩ = some (v1_0) ∧ w'.cell? ⟨b1, 1, none⟩ = some (v1_1) ∧ w'.cell? ⟨b1, 2, none⟩ = some (v1_2) ∧ w'.cell? ⟨b1, 3, none⟩ = some (v1_3) ∧ w'.cell? ⟨b1, 4, none⟩ = some (v1_4) ∧ w'.cell? ⟨b1, 5, none⟩ = some (v1_5)) ∧ Gr wq w') (by kernel_rfl) hS0 (fun hHeld => ?_)
  clear hS0
  generalize wq.drew = wd at *
  refine wpAnyH_take (i := 0) (oi := _) (v := ?_) rfl (by kernel_rfl) (by kernel_rfl) (by kernel_rfl) (fun _ _ _ h => h) (Or.inl ⟨by rfl, ?_⟩) (by with_reducible assumption) ?_
  rotate_left
  · intro w hSw
    (try dsimp only at hSw)
    first | (go_simp; done) | (go_simp; with_reducible rfl)
  (try simp only [Act.put, List.setIfInBounds_toArray, List.set_cons_zero, List.set_cons_succ])
  refine wpAnyH_take (i := 1) (oi := _) (v := ?_) rfl (by kernel_rfl) (by kernel_rfl) (by kernel_rfl) (fun _ _ _ h => h) (Or.inl ⟨by rfl, ?_⟩) (by with_reducible assumption) ?_
  rotate_left
  · intro w hSw
    (try dsimp only at hSw)
    first | (go_simp; done) | (go_simp; with_reducible rfl)
  (try simp only [Act.put, List.setIfInBounds_toArray, List.set_cons_zero, List.set_cons_succ])
  refine wpAnyH_ready (rs := [2]) (by kernel_rfl) (by simp) ?_
  refine AllReadyH.cons (o := _) rfl (fun K hK => ?_) AllReadyH.nil
  go_simp
  with_reducible refine (O1.out _).mono ?_
  rintro r wc1 ⟨⟨ad2, cap2, rfl, d2_4⟩, gg3⟩
  refine hK.out _ _ ⟨⟨gg3.keep hHeld.1.1, gg3.keep hHeld.1.2.1, gg3.keep hHeld.1.2.2.1, gg3.keep hHeld.1.2.2.2.1, gg3.keep hHeld.1.2.2.2.2.1, gg3.keep hHeld.1.2.2.2.2.2⟩, hHeld.2.trans gg3⟩ (fun hH2 => ?_)
  clear hK K
  (try simp only [Act.put, List.setIfInBounds_toArray, List.set_cons_zero, List.set_cons_succ])
  have gq5 := hg0.trans gg3
  clear hg0
  refine wpAnyH_ready (rs := [3]) (by kernel_rfl) (by simp) ?_
  refine AllReadyH.cons (o := _) rfl (fun K hK => ?_) AllReadyH.nil
  go_simp
  with_reducible refine (O2.out _).mono ?_
  rintro r wc6 ⟨⟨ad3, cap3, rfl, d3_9⟩, gg8⟩
  refine hK.out _ _ ⟨⟨gg8.keep hH2.1.1, gg8.keep hH2.1.2.1, gg8.keep hH2.1.2.2.1, gg8.keep hH2.1.2.2.2.1, gg8.keep hH2.1.2.2.2.2.1, gg8.keep hH2.1.2.2.2.2.2⟩, hH2.2.trans gg8⟩ (fun hH7 => ?_)
  clear hK K
  (try simp only [Act.put, List.setIfInBounds_toArray, List.set_cons_zero, List.set_cons_succ])
  have d2_10 := d2_4.gr gg8
  clear d2_4
  have gq11 := gq5.trans gg8
  clear gq5
  refine wpAnyH_ready (rs := [4]) (by kernel_rfl) (by simp) ?_
  refine AllReadyH.cons (o := _) rfl (fun K hK => ?_) AllReadyH.nil
  go_simp
  with_reducible refine (I1.out _ _ _ _ _ gq11 d2_10 d3_9).mono ?_
  rintro r wc12 ⟨rfl, gg14⟩
  refine hK.out _ _ ⟨⟨gg14.keep hH7.1.1, gg14.keep hH7.1.2.1, gg14.keep hH7.1.2.2.1, gg14.keep hH7.1.2.2.2.1, gg14.keep hH7.1.2.2.2.2.1, gg14.keep hH7.1.2.2.2.2.2⟩, hH7.2.trans gg14⟩ (fun hH13 => ?_)
  clear hK K
  (try simp only [Act.put, List.setIfInBounds_toArray, List.set_cons_zero, List.set_cons_succ])
  have d2_15 := d2_10.gr gg14
  clear d2_10
  have d3_16 := d3_9.gr gg14
  clear d3_9
  have gq17 := gq11.trans gg14
  clear gq11
  refine wpAnyH_take (i := 5) (oi := _) (v := ?_) rfl (by kernel_rfl) (by kernel_rfl) (by kernel_rfl) (fun _ _ _ h => h) (Or.inl ⟨by rfl, ?_⟩) (by with_reducible assumption) ?_
  rotate_left
  · intro w hSw
    (try dsimp only at hSw)
    first | (go_simp; done) | (go_simp; with_reducible rfl)
  (try simp only [Act.put, List.setIfInBounds_toArray, List.set_cons_zero, List.set_cons_succ])
  refine wpAnyH_take (i := 6) (oi := _) (v := ?_) rfl (by kernel_rfl) (by kernel_rfl) (by kernel_rfl) (fun _ _ _ h => h) (Or.inl ⟨by rfl, ?_⟩) (by with_reducible assumption) ?_
  rotate_left
  · intro w hSw
    (try dsimp only at hSw)
    first | (go_simp; done) | (go_simp; with_reducible rfl)
  (try simp only [Act.put, List.setIfInBounds_toArray, List.set_cons_zero, List.set_cons_succ])
  refine wpAnyH_take (i := 7) (oi := _) (v := ?_) rfl (by kernel_rfl) (by kernel_rfl) (by kernel_rfl) (fun _ _ _ h => h) (Or.inl ⟨by rfl, ?_⟩) (by with_reducible assumption) ?_
  rotate_left
  · intro w hSw
    (try dsimp only at hSw)
    first | (go_simp; done) | (go_simp; with_reducible rfl)
  (try simp only [Act.put, List.setIfInBounds_toArray, List.set_cons_zero, List.set_cons_succ])
  refine wpAnyH_take (i := 8) (oi := _) (v := ?_) rfl (by kernel_rfl) (by kernel_rfl) (by kernel_rfl) (fun _ _ _ h => h) (Or.inl ⟨by rfl, ?_⟩) (by with_reducible assumption) ?_
  rotate_left
  · intro w hSw
    (try dsimp only at hSw)
    first | (go_simp; done) | (go_simp; with_reducible rfl)
  (try simp only [Act.put, List.setIfInBounds_toArray, List.set_cons_zero, List.set_cons_succ])
  refine wpAnyH_take (i := 9) (oi := _) (v := ?_) rfl (by kernel_rfl) (by kernel_rfl) (by kernel_rfl) (fun _ _ _ h => h) (Or.inl ⟨by rfl, ?_⟩) (by with_reducible assumption) ?_
  rotate_left
  · intro w hSw
    (try dsimp only at hSw)
    first | (go_simp; done) | (go_simp; with_reducible rfl)
  (try simp only [Act.put, List.setIfInBounds_toArray, List.set_cons_zero, List.set_cons_succ])
  refine wpAnyH_take (i := 10) (oi := _) (v := ?_) rfl (by kernel_rfl) (by kernel_rfl) (by kernel_rfl) (fun _ _ _ h => h) (Or.inl ⟨by rfl, ?_⟩) (by with_reducible assumption) ?_
  rotate_left
  · intro w hSw
    (try dsimp only at hSw)
    first | (go_simp; done) | (go_simp; with_reducible rfl)
  (try simp only [Act.put, List.setIfInBounds_toArray, List.set_cons_zero, List.set_cons_succ])
  refine wpAnyH_take (i := 11) (oi := _) (v := ?_) rfl (by kernel_rfl) (by kernel_rfl) (by kernel_rfl) (fun _ _ _ h => h) (Or.inl ⟨by rfl, ?_⟩) (by with_reducible assumption) ?_
  rotate_left
  · intro w hSw
    (try dsimp only at hSw)
    first | (go_simp; done) | (go_simp; with_reducible rfl)
  (try simp only [Act.put, List.setIfInBounds_toArray, List.set_cons_zero, List.set_cons_succ])
  refine wpAnyH_take (i := 12) (oi := _) (v := ?_) rfl (by kernel_rfl) (by kernel_rfl) (by kernel_rfl) (fun _ _ _ h => h) (Or.inl ⟨by rfl, ?_⟩) (by with_reducible assumption) ?_
  rotate_left
  · intro w hSw
    (try dsimp only at hSw)
    first | (go_simp; done) | (go_simp; with_reducible rfl)
  (try simp only [Act.put, List.setIfInBounds_toArray, List.set_cons_zero, List.set_cons_succ])
  refine wpAnyH_take (i := 13) (oi := _) (v := ?_) rfl (by kernel_rfl) (by kernel_rfl) (by kernel_rfl) (fun _ _ _ h => h) (Or.inl ⟨by rfl, ?_⟩) (by with_reducible assumption) ?_
  rotate_left
  · intro w hSw
    (try dsimp only at hSw)
    first | (go_simp; done) | (go_simp; with_reducible rfl)
  (try simp only [Act.put, List.setIfInBounds_toArray, List.set_cons_zero, List.set_cons_succ])
  refine wpAnyH_done (by kernel_rfl) ?_ _
  exact ⟨_, _, _, _, _, _, _, _, _, _, _, _, _, rfl, hH13.2⟩
def RW4 (t0 t15 t16 t17 t18 t19 t20 t21 t22 t23 t24 t25 t26 t27 t28 t29 t30 t31 t32 t33 t34 t35 t36 t37 t38 t39 t40 t41 t42 t43 t44 t45 t46 t47 t48 t49 t50 t51 t52 t53 t54 t55 t56 t57 t58 t59 t60 t61 t62 t63 t64 t65 t66 t67 t68 t69 t70 t71 t72 t73 t74 t75 t76 t77 t78 t79 t80 t81 t82 t83 t84 t85 t86 t87 t88 t89 t90 t91 t92 t93 t94 t95 t96 t97 t98 t99 t100 t101 t102 t103 t104 t105 t106 t107 t108 t109 t110 t111 t112 t113 t114 t115 t116 t117 t118 t119 t120 t121 t122 t123 t124 t125 t126 t127 t128 t129 t130 t131 t132 t133 t134 t135 t136 t137 t138 t139 t140 t141 t142 t143 t144 t145 t146 t147 t148 t149 t150 t151 t152 t153 t154 t155 t156 t157 t158 t159 t160 t161 t162 t163 t164 t165 t166 t167 t168 t169 t170 t171 t172 t173 t174 t175 t176 t177 t178 t179 t180 t181 t182 t183 t184 t185 t186 t187 t188 t189 t190 t191 t192 t193 t194 t195 t196 t197 t198 t199 t200 t201 t202 t203 t204 t205 t206 t207 t208 t209 t210 t211 t212 t213 t214 t215 t216 t217 t218 t219 t220 : Value) (b1 b2 b3 b5 b7 b9 b11 b13 : Nat) (wq : World) : Exit → Act → World → Prop
  | .normal, a, w => ∃ u60 u61 u62 u63 u64 u65 u66 u67 u68 u69 u70 u71 u72 u73 u74 u75 u76 u77 u78 u79 u80 u81 u82 u83 u84 u85 u86 u87 u88 u89 u90 u91 u92 u93 u94 u95 u96 u97 u98 u99, a = { tmps := #[t0, .pointer (some ⟨b1, 0, none⟩), .pointer (some ⟨b2, 0, none⟩), .pointer (some ⟨b3, 0, none⟩), .int .i64 0, .pointer (some ⟨b5, 0, none⟩), .int .i64 0, .pointer (some ⟨b7, 0, none⟩), .int .i64 0, .pointer (some ⟨b9, 0, none⟩), .int .i64 0, .pointer (some ⟨b11, 0, none⟩), .int .i64 0, .pointer (some ⟨b13, 0, none⟩), .int .i64 0, .bool true, t16, t17, t18, t19, t20, t21, t22, t23, t24, t25, t26, t27, t28, t29, t30, t31, t32, t33, t34, t35, t36, t37, t38, t39, t40, t41, t42, t43, t44, t45, t46, t47, t48, t49, t50, t51, t52, t53, t54, t55, t56, t57, t58, t59, u60, u61, u62, u63, u64, u65, u66, u67, u68, u69, u70, u71, u72, u73, u74, u75, u76, u77, u78, u79, u80, u81, u82, u83, u84, u85, u86, u87, u88, u89, u90, u91, u92, u93, u94, u95, u96, u97, u98, u99, t100, t101, t102, t103, t104, t105, t106, t107, t108, t109, t110, t111, t112, t113, t114, t115, t116, t117, t118, t119, t120, t121, t122, t123, t124, t125, t126, t127, t128, t129, t130, t131, t132, t133, t134, t135, t136, t137, t138, t139, t140, t141, t142, t143, t144, t145, t146, t147, t148, t149, t150, t151, t152, t153, t154, t155, t156, t157, t158, t159, t160, t161, t162, t163, t164, t165, t166, t167, t168, t169, t170, t171, t172, t173, t174, t175, t176, t177, t178, t179, t180, t181, t182, t183, t184, t185, t186, t187, t188, t189, t190, t191, t192, t193, t194, t195, t196, t197, t198, t199, t200, t201, t202, t203, t204, t205, t206, t207, t208, t209, t210, t211, t212, t213, t214, t215, t216, t217, t218, t219, t220], defers := [] } ∧ Gr wq w
  | _, _, _ => False
set_option maxRecDepth 100000 in
set_option maxHeartbeats 40000000 in
theorem regW4 (t0 t15 t16 t17 t18 t19 t20 t21 t22 t23 t24 t25 t26 t27 t28 t29 t30 t31 t32 t33 t34 t35 t36 t37 t38 t39 t40 t41 t42 t43 t44 t45 t46 t47 t48 t49 t50 t51 t52 t53 t54 t55 t56 t57 t58 t59 t60 t61 t62 t63 t64 t65 t66 t67 t68 t69 t70 t71 t72 t73 t74 t75 t76 t77 t78 t79 t80 t81 t82 t83 t84 t85 t86 t87 t88 t89 t90 t91 t92 t93 t94 t95 t96 t97 t98 t99 t100 t101 t102 t103 t104 t105 t106 t107 t108 t109 t110 t111 t112 t113 t114 t115 t116 t117 t118 t119 t120 t121 t122 t123 t124 t125 t126 t127 t128 t129 t130 t131 t132 t133 t134 t135 t136 t137 t138 t139 t140 t141 t142 t143 t144 t145 t146 t147 t148 t149 t150 t151 t152 t153 t154 t155 t156 t157 t158 t159 t160 t161 t162 t163 t164 t165 t166 t167 t168 t169 t170 t171 t172 t173 t174 t175 t176 t177 t178 t179 t180 t181 t182 t183 t184 t185 t186 t187 t188 t189 t190 t191 t192 t193 t194 t195 t196 t197 t198 t199 t200 t201 t202 t203 t204 t205 t206 t207 t208 t209 t210 t211 t212 t213 t214 t215 t216 t217 t218 t219 t220 : Value) (b1 b2 b3 b5 b7 b9 b11 b13 : Nat) (v1_0 v1_1 v1_2 v2_0 v2_1 v2_2 v3_0 v3_1 v3_2 v3_3 v3_4 v3_5 v5_0 v5_1 v5_2 v5_3 v5_4 v5_5 v7_0 v7_1 v7_2 v7_3 v7_4 v7_5 v9_0 v9_1 v9_2 v9_3 v9_4 v9_5 v11_0 v11_1 v11_2 v11_3 v11_4 v11_5 v13_0 v13_1 v13_2 v13_3 v13_4 v13_5 : Value) (V1 V2 V3 V4 : Int) (wq : World) (I1 : Hid (∀ w1, Gr wq w1 → Calls Tryz.prog 28 #[.agg #[v3_0, v3_1, v3_2, v3_3, v3_4, v3_5], .int .i64 0, .agg #[v2_0, v2_1, v2_2], .agg #[v1_0, v1_1, v1_2]] w1 fun r w' => r = .returned (.bool true) ∧ Gr w1 w')) (O1 : Hid (∀ w1, Calls Tryz.prog 25 #[.bool true, .int .u64 3, .int .i64 (-2)] w1 fun r w' => (∃ ad cap, r = .returned (.agg #[.bool true, .slice ad 1 cap, .int .i64 (-2)]) ∧ DyV w' true ad 1 cap (-2) V1) ∧ Gr w1 w')) (O2 : Hid (∀ w1, Calls Tryz.prog 25 #[.bool true, .int .u64 11, .int .i64 (-4)] w1 fun r w' => (∃ ad cap, r = .returned (.agg #[.bool true, .slice ad 1 cap, .int .i64 (-4)]) ∧ DyV w' true ad 1 cap (-4) V2) ∧ Gr w1 w')) (I2 : Hid (∀ w1 a3 c3 a4 c4, Gr wq w1 → DyV w1 true a3 1 c3 (-2) V1 → DyV w1 true a4 1 c4 (-4) V2 → Calls Tryz.prog 28 #[.agg #[v5_0, v5_1, v5_2, v5_3, v5_4, v5_5], .int .i64 0, .agg #[.bool true, .slice a3 1 c3, .int .i64 (-2)], .agg #[.bool true, .slice a4 1 c4, .int .i64 (-4)]] w1 fun r w' => r = .returned (.bool true) ∧ Gr w1 w')) (I3 : Hid (∀ w1, Gr wq w1 → Calls Tryz.prog 28 #[.agg #[v7_0, v7_1, v7_2, v7_3, v7_4, v7_5], .int .i64 0, .agg #[v2_0, v2_1, v2_2], .agg #[v2_0, v2_1, v2_2]] w1 fun r w' => r = .returned (.bool true) ∧ Gr w1 w')) (O3 : Hid (∀ w1, Calls Tryz.prog 25 #[.bool true, .int .u64 1, .int .i64 (0)] w1 fun r w' => (∃ ad cap, r = .returned (.agg #[.bool true, .slice ad 1 cap, .int .i64 (0)]) ∧ DyV w' true ad 1 cap (0) V3) ∧ Gr w1 w')) (I4 : Hid (∀ w1 a3 c3 a4 c4, Gr wq w1 → DyV w1 true a3 1 c3 (0) V3 → DyV w1 true a4 1 c4 (0) V3 → Calls Tryz.prog 28 #[.agg #[v9_0, v9_1, v9_2, v9_3, v9_4, v9_5], .int .i64 0, .agg #[.bool true, .slice a3 1 c3, .int .i64 (0)], .agg #[.bool true, .slice a4 1 c4, .int .i64 (0)]] w1 fun r w' => r = .returned (.bool true) ∧ Gr w1 w')) (I5 : Hid (∀ w1, Gr wq w1 → Calls Tryz.prog 28 #[.agg #[v11_0, v11_1, v11_2, v11_3, v11_4, v11_5], .int .i64 0, .agg #[v1_0, v1_1, v1_2], .agg #[v1_0, v1_1, v1_2]] w1 fun r w' => r = .returned (.bool true) ∧ Gr w1 w')) (I6 : Hid (∀ w1, Gr wq w1 → Calls Tryz.prog 28 #[.agg #[v13_0, v13_1, v13_2, v13_3, v13_4, v13_5], .int .i64 0, .agg #[v2_0, v2_1, v2_2], .agg #[v2_0, v2_1, v2_2]] w1 fun r w' => r = .returned (.bool true) ∧ Gr w1 w')) (hcs : (wq.cell? ⟨b1, 0, none⟩ = some (v1_0) ∧ wq.cell? ⟨b1, 1, none⟩ = some (v1_1) ∧ wq.cell? ⟨b1, 2, none⟩ = some (v1_2) ∧ wq.cell? ⟨b2, 0, none⟩ = some (v2_0) ∧ wq.cell? ⟨b2, 1, none⟩ = some (v2_1) ∧ wq.cell? ⟨b2, 2, none⟩ = some (v2_2) ∧ wq.cell? ⟨b3, 0, none⟩ = some (v3_0) ∧ wq.cell? ⟨b3, 1, none⟩ = some (v3_1) ∧ wq.cell? ⟨b3, 2, none⟩ = some (v3_2) ∧ wq.cell? ⟨b3, 3, none⟩ = some (v3_3) ∧ wq.cell? ⟨b3, 4, none⟩ = some (v3_4) ∧ wq.cell? ⟨b3, 5, none⟩ = some (v3_5) ∧ wq.cell? ⟨b5, 0, none⟩ = some (v5_0) ∧ wq.cell? ⟨b5, 1, none⟩ = some (v5_1) ∧ wq.cell? ⟨b5, 2, none⟩ = some (v5_2) ∧ wq.cell? ⟨b5, 3, none⟩ = some (v5_3) ∧ wq.cell? ⟨b5, 4, none⟩ = some (v5_4) ∧ wq.cell? ⟨b5, 5, none⟩ = some (v5_5) ∧ wq.cell? ⟨b7, 0, none⟩ = some (v7_0) ∧ wq.cell? ⟨b7, 1, none⟩ = some (v7_1) ∧ wq.cell? ⟨b7, 2, none⟩ = some (v7_2) ∧ wq.cell? ⟨b7, 3, none⟩ = some (v7_3) ∧ wq.cell? ⟨b7, 4, none⟩ = some (v7_4) ∧ wq.cell? ⟨b7, 5, none⟩ = some (v7_5) ∧ wq.cell? ⟨b9, 0, none⟩ = some (v9_0) ∧ wq.cell? ⟨b9, 1, none⟩ = some (v9_1) ∧ wq.cell? ⟨b9, 2, none⟩ = some (v9_2) ∧ wq.cell? ⟨b9, 3, none⟩ = some (v9_3) ∧ wq.cell? ⟨b9, 4, none⟩ = some (v9_4) ∧ wq.cell? ⟨b9, 5, none⟩ = some (v9_5) ∧ wq.cell? ⟨b11, 0, none⟩ = some (v11_0) ∧ wq.cell? ⟨b11, 1, none⟩ = some (v11_1) ∧ wq.cell? ⟨b11, 2, none⟩ = some (v11_2) ∧ wq.cell? ⟨b11, 3, none⟩ = some (v11_3) ∧ wq.cell? ⟨b11, 4, none⟩ = some (v11_4) ∧ wq.cell? ⟨b11, 5, none⟩ = some (v11_5) ∧ wq.cell? ⟨b13, 0, none⟩ = some (v13_0) ∧ wq.cell? ⟨b13, 1, none⟩ = some (v13_1) ∧ wq.cell? ⟨b13, 2, none⟩ = some (v13_2) ∧ wq.cell? ⟨b13, 3, none⟩ = some (v13_3) ∧ wq.cell? ⟨b13, 4, none⟩ = some (v13_4) ∧ wq.cell? ⟨b13, 5, none⟩ = some (v13_5))) :
    Code.wp Tryz.prog (Code.region 8 #[{ dst := some 60, op := Op.load 51 (Operand.tmp 3), type := 51, pos := "law.go:38", after := #[], guard := none }, { dst := some 61, op := Op.move (Operand.tmp 4), type := 30, pos := "law.go:38", after := #[], guard := none }, { dst := some 62, op := Op.load 24 (Operand.tmp 2), type := 24, pos := "law.go:38", after := #[], guard := none }, { dst := some 63, op := Op.load 24 (Operand.tmp 1), type := 24, pos := "law.go:38", after := #[], guard := none }, { dst := some 64, op := Op.call { callee := Callee.value (Operand.func 28), args := #[Operand.tmp 60, Operand.tmp 61, Operand.tmp 62, Operand.tmp 63], argTypes := #[51, 30, 24, 24] }, type := 4, pos := "law.go:38", after := #[{ on := 0, ground := Ground.data }, { on := 1, ground := Ground.data }, { on := 2, ground := Ground.data }, { on := 3, ground := Ground.data }], guard := none }, { dst := some 65, op := Op.move (Operand.tmp 64), type := 4, pos := "law.go:38", after := #[{ on := 4, ground := Ground.data }, { on := 4, ground := Ground.chain }], guard := none }, { dst := some 66, op := Op.load 51 (Operand.tmp 5), type := 51, pos := "law.go:38", after := #[{ on := 5, ground := Ground.guard }], guard := some (5, true) }, { dst := some 67, op := Op.move (Operand.tmp 6), type := 30, pos := "law.go:38", after := #[{ on := 5, ground := Ground.guard }], guard := some (5, true) }, { dst := some 68, op := Op.call { callee := Callee.value (Operand.func 25), args := #[Operand.const (Value.bool true), Operand.const (Value.int IntKind.u64 3), Operand.const (Value.int IntKind.i64 (-2))], argTypes := #[4, 49, 3] }, type := 24, pos := "law.go:38", after := #[{ on := 5, ground := Ground.chain }, { on := 5, ground := Ground.guard }], guard := some (5, true) }, { dst := some 69, op := Op.call { callee := Callee.value (Operand.func 25), args := #[Operand.const (Value.bool true), Operand.const (Value.int IntKind.u64 11), Operand.const (Value.int IntKind.i64 (-4))], argTypes := #[4, 49, 3] }, type := 24, pos := "law.go:38", after := #[{ on := 8, ground := Ground.chain }, { on := 5, ground := Ground.guard }], guard := some (5, true) }, { dst := some 70, op := Op.call { callee := Callee.value (Operand.func 28), args := #[Operand.tmp 66, Operand.tmp 67, Operand.tmp 68, Operand.tmp 69], argTypes := #[51, 30, 24, 24] }, type := 4, pos := "law.go:38", after := #[{ on := 6, ground := Ground.data }, { on := 7, ground := Ground.data }, { on := 8, ground := Ground.data }, { on := 9, ground := Ground.data }, { on := 9, ground := Ground.chain }, { on := 5, ground := Ground.guard }], guard := some (5, true) }, { dst := some 71, op := Op.pick (Operand.tmp 65) (Operand.tmp 70) (Operand.const (Value.bool false)), type := 4, pos := "law.go:38", after := #[{ on := 5, ground := Ground.data }, { on := 10, ground := Ground.data }], guard := none }, { dst := some 72, op := Op.move (Operand.tmp 71), type := 4, pos := "law.go:38", after := #[{ on := 11, ground := Ground.data }, { on := 10, ground := Ground.chain }], guard := none }, { dst := some 73, op := Op.load 51 (Operand.tmp 7), type := 51, pos := "law.go:38", after := #[{ on := 12, ground := Ground.guard }], guard := some (12, true) }, { dst := some 74, op := Op.move (Operand.tmp 8), type := 30, pos := "law.go:38", after := #[{ on := 12, ground := Ground.guard }], guard := some (12, true) }, { dst := some 75, op := Op.load 24 (Operand.tmp 2), type := 24, pos := "law.go:38", after := #[{ on := 12, ground := Ground.guard }], guard := some (12, true) }, { dst := some 76, op := Op.load 24 (Operand.tmp 2), type := 24, pos := "law.go:38", after := #[{ on := 12, ground := Ground.guard }], guard := some (12, true) }, { dst := some 77, op := Op.call { callee := Callee.value (Operand.func 28), args := #[Operand.tmp 73, Operand.tmp 74, Operand.tmp 75, Operand.tmp 76], argTypes := #[51, 30, 24, 24] }, type := 4, pos := "law.go:38", after := #[{ on := 13, ground := Ground.data }, { on := 14, ground := Ground.data }, { on := 15, ground := Ground.data }, { on := 16, ground := Ground.data }, { on := 12, ground := Ground.chain }, { on := 12, ground := Ground.guard }], guard := some (12, true) }, { dst := some 78, op := Op.pick (Operand.tmp 72) (Operand.tmp 77) (Operand.const (Value.bool false)), type := 4, pos := "law.go:38", after := #[{ on := 12, ground := Ground.data }, { on := 17, ground := Ground.data }], guard := none }, { dst := some 79, op := Op.move (Operand.tmp 78), type := 4, pos := "law.go:38", after := #[{ on := 18, ground := Ground.data }, { on := 17, ground := Ground.chain }], guard := none }, { dst := some 80, op := Op.load 51 (Operand.tmp 9), type := 51, pos := "law.go:38", after := #[{ on := 19, ground := Ground.guard }], guard := some (19, true) }, { dst := some 81, op := Op.move (Operand.tmp 10), type := 30, pos := "law.go:38", after := #[{ on := 19, ground := Ground.guard }], guard := some (19, true) }, { dst := some 82, op := Op.call { callee := Callee.value (Operand.func 25), args := #[Operand.const (Value.bool true), Operand.const (Value.int IntKind.u64 1), Operand.const (Value.int IntKind.i64 0)], argTypes := #[4, 49, 3] }, type := 24, pos := "law.go:38", after := #[{ on := 19, ground := Ground.chain }, { on := 19, ground := Ground.guard }], guard := some (19, true) }, { dst := some 83, op := Op.call { callee := Callee.value (Operand.func 25), args := #[Operand.const (Value.bool true), Operand.const (Value.int IntKind.u64 1), Operand.const (Value.int IntKind.i64 0)], argTypes := #[4, 49, 3] }, type := 24, pos := "law.go:38", after := #[{ on := 22, ground := Ground.chain }, { on := 19, ground := Ground.guard }], guard := some (19, true) }, { dst := some 84, op := Op.call { callee := Callee.value (Operand.func 28), args := #[Operand.tmp 80, Operand.tmp 81, Operand.tmp 82, Operand.tmp 83], argTypes := #[51, 30, 24, 24] }, type := 4, pos := "law.go:38", after := #[{ on := 20, ground := Ground.data }, { on := 21, ground := Ground.data }, { on := 22, ground := Ground.data }, { on := 23, ground := Ground.data }, { on := 23, ground := Ground.chain }, { on := 19, ground := Ground.guard }], guard := some (19, true) }, { dst := some 85, op := Op.pick (Operand.tmp 79) (Operand.tmp 84) (Operand.const (Value.bool false)), type := 4, pos := "law.go:38", after := #[{ on := 19, ground := Ground.data }, { on := 24, ground := Ground.data }], guard := none }, { dst := some 86, op := Op.move (Operand.tmp 85), type := 4, pos := "law.go:38", after := #[{ on := 25, ground := Ground.data }, { on := 24, ground := Ground.chain }], guard := none }, { dst := some 87, op := Op.load 51 (Operand.tmp 11), type := 51, pos := "law.go:38", after := #[{ on := 26, ground := Ground.guard }], guard := some (26, true) }, { dst := some 88, op := Op.move (Operand.tmp 12), type := 30, pos := "law.go:38", after := #[{ on := 26, ground := Ground.guard }], guard := some (26, true) }, { dst := some 89, op := Op.load 24 (Operand.tmp 1), type := 24, pos := "law.go:38", after := #[{ on := 26, ground := Ground.guard }], guard := some (26, true) }, { dst := some 90, op := Op.load 24 (Operand.tmp 1), type := 24, pos := "law.go:38", after := #[{ on := 26, ground := Ground.guard }], guard := some (26, true) }, { dst := some 91, op := Op.call { callee := Callee.value (Operand.func 28), args := #[Operand.tmp 87, Operand.tmp 88, Operand.tmp 89, Operand.tmp 90], argTypes := #[51, 30, 24, 24] }, type := 4, pos := "law.go:38", after := #[{ on := 27, ground := Ground.data }, { on := 28, ground := Ground.data }, { on := 29, ground := Ground.data }, { on := 30, ground := Ground.data }, { on := 26, ground := Ground.chain }, { on := 26, ground := Ground.guard }], guard := some (26, true) }, { dst := some 92, op := Op.pick (Operand.tmp 86) (Operand.tmp 91) (Operand.const (Value.bool false)), type := 4, pos := "law.go:38", after := #[{ on := 26, ground := Ground.data }, { on := 31, ground := Ground.data }], guard := none }, { dst := some 93, op := Op.move (Operand.tmp 92), type := 4, pos := "law.go:38", after := #[{ on := 32, ground := Ground.data }, { on := 31, ground := Ground.chain }], guard := none }, { dst := some 94, op := Op.load 51 (Operand.tmp 13), type := 51, pos := "law.go:38", after := #[{ on := 33, ground := Ground.guard }], guard := some (33, true) }, { dst := some 95, op := Op.move (Operand.tmp 14), type := 30, pos := "law.go:38", after := #[{ on := 33, ground := Ground.guard }], guard := some (33, true) }, { dst := some 96, op := Op.load 24 (Operand.tmp 2), type := 24, pos := "law.go:38", after := #[{ on := 33, ground := Ground.guard }], guard := some (33, true) }, { dst := some 97, op := Op.load 24 (Operand.tmp 2), type := 24, pos := "law.go:38", after := #[{ on := 33, ground := Ground.guard }], guard := some (33, true) }, { dst := some 98, op := Op.call { callee := Callee.value (Operand.func 28), args := #[Operand.tmp 94, Operand.tmp 95, Operand.tmp 96, Operand.tmp 97], argTypes := #[51, 30, 24, 24] }, type := 4, pos := "law.go:38", after := #[{ on := 34, ground := Ground.data }, { on := 35, ground := Ground.data }, { on := 36, ground := Ground.data }, { on := 37, ground := Ground.data }, { on := 33, ground := Ground.chain }, { on := 33, ground := Ground.guard }], guard := some (33, true) }, { dst := some 99, op := Op.pick (Operand.tmp 93) (Operand.tmp 98) (Operand.const (Value.bool false)), type := 4, pos := "law.go:38", after := #[{ on := 33, ground := Ground.data }, { on := 38, ground := Ground.data }], guard := none }, { dst := some 15, op := Op.assign (Operand.tmp 99), type := 4, pos := "law.go:38", after := #[{ on := 39, ground := Ground.data }, { on := 38, ground := Ground.chain }, { on := 0, ground := Ground.phase }, { on := 1, ground := Ground.phase }, { on := 2, ground := Ground.phase }, { on := 3, ground := Ground.phase }, { on := 4, ground := Ground.phase }, { on := 5, ground := Ground.phase }, { on := 6, ground := Ground.phase }, { on := 7, ground := Ground.phase }, { on := 8, ground := Ground.phase }, { on := 9, ground := Ground.phase }, { on := 10, ground := Ground.phase }, { on := 11, ground := Ground.phase }, { on := 12, ground := Ground.phase }, { on := 13, ground := Ground.phase }, { on := 14, ground := Ground.phase }, { on := 15, ground := Ground.phase }, { on := 16, ground := Ground.phase }, { on := 17, ground := Ground.phase }, { on := 18, ground := Ground.phase }, { on := 19, ground := Ground.phase }, { on := 20, ground := Ground.phase }, { on := 21, ground := Ground.phase }, { on := 22, ground := Ground.phase }, { on := 23, ground := Ground.phase }, { on := 24, ground := Ground.phase }, { on := 25, ground := Ground.phase }, { on := 26, ground := Ground.phase }, { on := 27, ground := Ground.phase }, { on := 28, ground := Ground.phase }, { on := 29, ground := Ground.phase }, { on := 30, ground := Ground.phase }, { on := 31, ground := Ground.phase }, { on := 32, ground := Ground.phase }, { on := 33, ground := Ground.phase }, { on := 34, ground := Ground.phase }, { on := 35, ground := Ground.phase }, { on := 36, ground := Ground.phase }, { on := 37, ground := Ground.phase }, { on := 38, ground := Ground.phase }, { on := 39, ground := Ground.phase }], guard := none }] true) (RW4 t0 t15 t16 t17 t18 t19 t20 t21 t22 t23 t24 t25 t26 t27 t28 t29 t30 t31 t32 t33 t34 t35 t36 t37 t38 t39 t40 t41 t42 t43 t44 t45 t46 t47 t48 t49 t50 t51 t52 t53 t54 t55 t56 t57 t58 t59 t60 t61 t62 t63 t64 t65 t66 t67 t68 t69 t70 t71 t72 t73 t74 t75 t76 t77 t78 t79 t80 t81 t82 t83 t84 t85 t86 t87 t88 t89 t90 t91 t92 t93 t94 t95 t96 t97 t98 t99 t100 t101 t102 t103 t104 t105 t106 t107 t108 t109 t110 t111 t112 t113 t114 t115 t116 t117 t118 t119 t120 t121 t122 t123 t124 t125 t126 t127 t128 t129 t130 t131 t132 t133 t134 t135 t136 t137 t138 t139 t140 t141 t142 t143 t144 t145 t146 t147 t148 t149 t150 t151 t152 t153 t154 t155 t156 t157 t158 t159 t160 t161 t162 t163 t164 t165 t166 t167 t168 t169 t170 t171 t172 t173 t174 t175 t176 t177 t178 t179 t180 t181 t182 t183 t184 t185 t186 t187 t188 t189 t190 t191 t192 t193 t194 t195 t196 t197 t198 t199 t200 t201 t202 t203 t204 t205 t206 t207 t208 t209 t210 t211 t212 t213 t214 t215 t216 t217 t218 t219 t220 b1 b2 b3 b5 b7 b9 b11 b13 wq) { tmps := #[t0, .pointer (some ⟨b1, 0, none⟩), .pointer (some ⟨b2, 0, none⟩), .pointer (some ⟨b3, 0, none⟩), .int .i64 0, .pointer (some ⟨b5, 0, none⟩), .int .i64 0, .pointer (some ⟨b7, 0, none⟩), .int .i64 0, .pointer (some ⟨b9, 0, none⟩), .int .i64 0, .pointer (some ⟨b11, 0, none⟩), .int .i64 0, .pointer (some ⟨b13, 0, none⟩), .int .i64 0, t15, t16, t17, t18, t19, t20, t21, t22, t23, t24, t25, t26, t27, t28, t29, t30, t31, t32, t33, t34, t35, t36, t37, t38, t39, t40, t41, t42, t43, t44, t45, t46, t47, t48, t49, t50, t51, t52, t53, t54, t55, t56, t57, t58, t59, t60, t61, t62, t63, t64, t65, t66, t67, t68, t69, t70, t71, t72, t73, t74, t75, t76, t77, t78, t79, t80, t81, t82, t83, t84, t85, t86, t87, t88, t89, t90, t91, t92, t93, t94, t95, t96, t97, t98, t99, t100, t101, t102, t103, t104, t105, t106, t107, t108, t109, t110, t111, t112, t113, t114, t115, t116, t117, t118, t119, t120, t121, t122, t123, t124, t125, t126, t127, t128, t129, t130, t131, t132, t133, t134, t135, t136, t137, t138, t139, t140, t141, t142, t143, t144, t145, t146, t147, t148, t149, t150, t151, t152, t153, t154, t155, t156, t157, t158, t159, t160, t161, t162, t163, t164, t165, t166, t167, t168, t169, t170, t171, t172, t173, t174, t175, t176, t177, t178, t179, t180, t181, t182, t183, t184, t185, t186, t187, t188, t189, t190, t191, t192, t193, t194, t195, t196, t197, t198, t199, t200, t201, t202, t203, t204, t205, t206, t207, t208, t209, t210, t211, t212, t213, t214, t215, t216, t217, t218, t219, t220], defers := [] } wq := by
  have hS0 : (wq.drew.cell? ⟨b1, 0, none⟩ = some (v1_0) ∧ wq.drew.cell? ⟨b1, 1, none⟩ = some (v1_1) ∧ wq.drew.cell? ⟨b1, 2, none⟩ = some (v1_2) ∧ wq.drew.cell? ⟨b2, 0, none⟩ = some (v2_0) ∧ wq.drew.cell? ⟨b2, 1, none⟩ = some (v2_1) ∧ wq.drew.cell? ⟨b2, 2, none⟩ = some (v2_2) ∧ wq.drew.cell? ⟨b3, 0, none⟩ = some (v3_0) ∧ wq.drew.cell? ⟨b3, 1, none⟩ = some (v3_1) ∧ wq.drew.cell? ⟨b3, 2, none⟩ = some (v3_2) ∧ wq.drew.cell? ⟨b3, 3, none⟩ = some (v3_3) ∧ wq.drew.cell? ⟨b3, 4, none⟩ = some (v3_4) ∧ wq.drew.cell? ⟨b3, 5, none⟩ = some (v3_5) ∧ wq.drew.cell? ⟨b5, 0, none⟩ = some (v5_0) ∧ wq.drew.cell? ⟨b5, 1, none⟩ = some (v5_1) ∧ wq.drew.cell? ⟨b5, 2, none⟩ = some (v5_2) ∧ wq.drew.cell? ⟨b5, 3, none⟩ = some (v5_3) ∧ wq.drew.cell? ⟨b5, 4, none⟩ = some (v5_4) ∧ wq.drew.cell? ⟨b5, 5, none⟩ = some (v5_5) ∧ wq.drew.cell? ⟨b7, 0, none⟩ = some (v7_0) ∧ wq.drew.cell? ⟨b7, 1, none⟩ = some (v7_1) ∧ wq.drew.cell? ⟨b7, 2, none⟩ = some (v7_2) ∧ wq.drew.cell? ⟨b7, 3, none⟩ = some (v7_3) ∧ wq.drew.cell? ⟨b7, 4, none⟩ = some (v7_4) ∧ wq.drew.cell? ⟨b7, 5, none⟩ = some (v7_5) ∧ wq.drew.cell? ⟨b9, 0, none⟩ = some (v9_0) ∧ wq.drew.cell? ⟨b9, 1, none⟩ = some (v9_1) ∧ wq.drew.cell? ⟨b9, 2, none⟩ = some (v9_2) ∧ wq.drew.cell? ⟨b9, 3, none⟩ = some (v9_3) ∧ wq.drew.cell? ⟨b9, 4, none⟩ = some (v9_4) ∧ wq.drew.cell? ⟨b9, 5, none⟩ = some (v9_5) ∧ wq.drew.cell? ⟨b11, 0, none⟩ = some (v11_0) ∧ wq.drew.cell? ⟨b11, 1, none⟩ = some (v11_1) ∧ wq.drew.cell? ⟨b11, 2, none⟩ = some (v11_2) ∧ wq.drew.cell? ⟨b11, 3, none⟩ = some (v11_3) ∧ wq.drew.cell? ⟨b11, 4, none⟩ = some (v11_4) ∧ wq.drew.cell? ⟨b11, 5, none⟩ = some (v11_5) ∧ wq.drew.cell? ⟨b13, 0, none⟩ = some (v13_0) ∧ wq.drew.cell? ⟨b13, 1, none⟩ = some (v13_1) ∧ wq.drew.cell? ⟨b13, 2, none⟩ = some (v13_2) ∧ wq.drew.cell? ⟨b13, 3, none⟩ = some (v13_3) ∧ wq.drew.cell? ⟨b13, 4, none⟩ = some (v13_4) ∧ wq.drew.cell? ⟨b13, 5, none⟩ = some (v13_5)) ∧ Gr wq wq.drew := ⟨hcs, (Gr.refl wq).drew⟩
  have hg0 : Gr wq wq.drew := (Gr.refl wq).drew
  clear hcs
  refine wp_region_held_drew (S := fun w' => (w'.cell? ⟨b1, 0, none⟩ = some (v1_0) ∧ w'.cell? ⟨b1, 1, none⟩ = some (v1_1) ∧ w'.cell? ⟨b1, 2, none⟩ = some (v1_2) ∧ w'.cell? ⟨b2, 0, none⟩ = some (v2_0) ∧ w'.cell? ⟨b2, 1, none⟩ = some (v2_1) ∧ w'.cell? ⟨b2, 2, none⟩ = some (v2_2) ∧ w'.cell? ⟨b3, 0, none⟩ = some (v3_0) ∧ w'.cell? ⟨b3, 1, none⟩ = some (v3_1) ∧ w'.cell? ⟨b3, 2, none⟩ = some (v3_2) ∧ w'.cell? ⟨b3, 3, none⟩ = some (v3_3) ∧ w'.cell? ⟨b3, 4, none⟩ = some (v3_4) ∧ w'.cell? ⟨b3, 5, none⟩ = some (v3_5) ∧ w'.cell? ⟨b5, 0, none⟩ = some (v5_0) ∧ w'.cell? ⟨b5, 1, none⟩ = some (v5_1) ∧ w'.cell? ⟨b5, 2, none⟩ = some (v5_2) ∧ w'.cell? ⟨b5, 3, none⟩ = some (v5_3) ∧ w'.cell? ⟨b5, 4, none⟩ = some (v5_4) ∧ w'.cell? ⟨b5, 5, none⟩ = some (v5_5) ∧ w'.cell? ⟨b7, 0, none⟩ = some (v7_0) ∧ w'.cell? ⟨b7, 1, none⟩ = some (v7_1) ∧ w'.cell? ⟨b7, 2, none⟩ = some (v7_2) ∧ w'.cell? ⟨b7, 3, none⟩ = some (v7_3) ∧ w'.cell? ⟨b7, 4, none⟩ = some (v7_4) ∧ w'.cell? ⟨b7, 5, none⟩ = some (v7_5) ∧ w'.cell? ⟨b9, 0, none⟩ = some (v9_0) ∧ w'.cell? ⟨b9, 1, none⟩ = some (v9_1) ∧ w'.cell? ⟨b9, 2, none⟩ = some (v9_2) ∧ w'.cell? ⟨b9, 3, none⟩ = some (v9_3) ∧ w'.cell? ⟨b9, 4, none⟩ = some (v9_4) ∧ w'.cell? ⟨b9, 5, none⟩ = some (v9_5) ∧ w'.cell? ⟨b11, 0, none⟩ = some (v11_0) ∧ w'.cell? ⟨b11, 1, none⟩ = some (v11_1) ∧ w'.cell? ⟨b11, 2, none⟩ = some (v11_2) ∧ w'.cell? ⟨b11, 3, none⟩ = some (v11_3) ∧ w'.cell? ⟨b11, 4, none⟩ = some (v11_4) ∧ w'.cell? ⟨b11, 5, none⟩ = some (v11_5) ∧ w'.cell? ⟨b13, 0, none⟩ = some (v13_0) ∧ w'.cell? ⟨b13, 1, none⟩ = some (v13_1) ∧ w'.cell? ⟨b13, 2, none⟩ = some (v13_2) ∧ w'.cell? ⟨b13, 3, none⟩ = some (v13_3) ∧ w'.cell? ⟨b13, 4, none⟩ = some (v13_4) ∧ w'.cell? ⟨b13, 5, none⟩ = some (v13_5)) ∧ Gr wq w') (by kernel_rfl) hS0 (fun hHeld => ?_)
  clear hS0
  generalize wq.drew = wd at *
  refine wpAnyH_take (i := 0) (oi := _) (v := ?_) rfl (by kernel_rfl) (by kernel_rfl) (by kernel_rfl) (fun _ _ _ h => h) (Or.inl ⟨by rfl, ?_⟩) (by with_reducible assumption) ?_
  rotate_left
  · intro w hSw
    (try dsimp only at hSw)
    first | (go_simp; done) | (go_simp; with_reducible rfl)
  (try simp only [Act.put, List.setIfInBounds_toArray, List.set_cons_zero, List.set_cons_succ])
  refine wpAnyH_take (i := 1) (oi := _) (v := ?_) rfl (by kernel_rfl) (by kernel_rfl) (by kernel_rfl) (fun _ _ _ h => h) (Or.inl ⟨by rfl, ?_⟩) (by with_reducible assumption) ?_
  rotate_left
  · intro w hSw
    (try dsimp only at hSw)
    first | (go_simp; done) | (go_simp; with_reducible rfl)
  (try simp only [Act.put, List.setIfInBounds_toArray, List.set_cons_zero, List.set_cons_succ])
  refine wpAnyH_take (i := 2) (oi := _) (v := ?_) rfl (by kernel_rfl) (by kernel_rfl) (by kernel_rfl) (fun _ _ _ h => h) (Or.inl ⟨by rfl, ?_⟩) (by with_reducible assumption) ?_
  rotate_left
  · intro w hSw
    (try dsimp only at hSw)
    first | (go_simp; done) | (go_simp; with_reducible rfl)
  (try simp only [Act.put, List.setIfInBounds_toArray, List.set_cons_zero, List.set_cons_succ])
  refine wpAnyH_take (i := 3) (oi := _) (v := ?_) rfl (by kernel_rfl) (by kernel_rfl) (by kernel_rfl) (fun _ _ _ h => h) (Or.inl ⟨by rfl, ?_⟩) (by with_reducible assumption) ?_
  rotate_left
  · intro w hSw
    (try dsimp only at hSw)
    first | (go_simp; done) | (go_simp; with_reducible rfl)
  (try simp only [Act.put, List.setIfInBounds_toArray, List.set_cons_zero, List.set_cons_succ])
  refine wpAnyH_ready (rs := [4]) (by kernel_rfl) (by simp) ?_
  refine AllReadyH.cons (o := _) rfl (fun K hK => ?_) AllReadyH.nil
  go_simp
  with_reducible refine (I1.out _ hg0).mono ?_
  rintro r wc1 ⟨rfl, gg3⟩
  refine hK.out _ _ ⟨⟨gg3.keep hHeld.1.1, gg3.keep hHeld.1.2.1, gg3.keep hHeld.1.2.2.1, gg3.keep hHeld.1.2.2.2.1, gg3.keep hHeld.1.2.2.2.2.1, gg3.keep hHeld.1.2.2.2.2.2.1, gg3.keep hHeld.1.2.2.2.2.2.2.1, gg3.keep hHeld.1.2.2.2.2.2.2.2.1, gg3.keep hHeld.1.2.2.2.2.2.2.2.2.1, gg3.keep hHeld.1.2.2.2.2.2.2.2.2.2.1, gg3.keep hHeld.1.2.2.2.2.2.2.2.2.2.2.1, gg3.keep hHeld.1.2.2.2.2.2.2.2.2.2.2.2.1, gg3.keep hHeld.1.2.2.2.2.2.2.2.2.2.2.2.2.1, gg3.keep hHeld.1.2.2.2.2.2.2.2.2.2.2.2.2.2.1, gg3.keep hHeld.1.2.2.2.2.2.2.2.2.2.2.2.2.2.2.1, gg3.keep hHeld.1.2.2.2.2.2.2.2.2.2.2.2.2.2.2.2.1, gg3.keep hHeld.1.2.2.2.2.2.2.2.2.2.2.2.2.2.2.2.2.1, gg3.keep hHeld.1.2.2.2.2.2.2.2.2.2.2.2.2.2.2.2.2.2.1, gg3.keep hHeld.1.2.2.2.2.2.2.2.2.2.2.2.2.2.2.2.2.2.2.1, gg3.keep hHeld.1.2.2.2.2.2.2.2.2.2.2.2.2.2.2.2.2.2.2.2.1, gg3.keep hHeld.1.2.2.2.2.2.2.2.2.2.2.2.2.2.2.2.2.2.2.2.2.1, gg3.keep hHeld.1.2.2.2.2.2.2.2.2.2.2.2.2.2.2.2.2.2.2.2.2.2.1, gg3.keep hHeld.1.2.2.2.2.2.2.2.2.2.2.2.2.2.2.2.2.2.2.2.2.2.2.1, gg3.keep hHeld.1.2.2.2.2.2.2.2.2.2.2.2.2.2.2.2.2.2.2.2.2.2.2.2.1, gg3.keep hHeld.1.2.2.2.2.2.2.2.2.2.2.2.2.2.2.2.2.2.2.2.2.2.2.2.2.1, gg3.keep hHeld.1.2.2.2.2.2.2.2.2.2.2.2.2.2.2.2.2.2.2.2.2.2.2.2.2.2.1, gg3.keep hHeld.1.2.2.2.2.2.2.2.2.2.2.2.2.2.2.2.2.2.2.2.2.2.2.2.2.2.2.1, gg3.keep hHeld.1.2.2.2.2.2.2.2.2.2.2.2.2.2.2.2.2.2.2.2.2.2.2.2.2.2.2.2.1, gg3.keep hHeld.1.2.2.2.2.2.2.2.2.2.2.2.2.2.2.2.2.2.2.2.2.2.2.2.2.2.2.2.2.1, gg3.keep hHeld.1.2.2.2.2.2.2.2.2.2.2.2.2.2.2.2.2.2.2.2.2.2.2.2.2.2.2.2.2.2.1, gg3.keep hHeld.1.2.2.2.2.2.2.2.2.2.2.2.2.2.2.2.2.2.2.2.2.2.2.2.2.2.2.2.2.2.2.1, gg3.keep hHeld.1.2.2.2.2.2.2.2.2.2.2.2.2.2.2.2.2.2.2.2.2.2.2.2.2.2.2.2.2.2.2.2.1, gg3.keep hHeld.1.2.2.2.2.2.2.2.2.2.2.2.2.2.2.2.2.2.2.2.2.2.2.2.2.2.2.2.2.2.2.2.2.1, gg3.keep hHeld.1.2.2.2.2.2.2.2.2.2.2.2.2.2.2.2.2.2.2.2.2.2.2.2.2.2.2.2.2.2.2.2.2.2.1, gg3.keep hHeld.1.2.2.2.2.2.2.2.2.2.2.2.2.2.2.2.2.2.2.2.2.2.2.2.2.2.2.2.2.2.2.2.2.2.2.1, gg3.keep hHeld.1.2.2.2.2.2.2.2.2.2.2.2.2.2.2.2.2.2.2.2.2.2.2.2.2.2.2.2.2.2.2.2.2.2.2.2.1, gg3.keep hHeld.1.2.2.2.2.2.2.2.2.2.2.2.2.2.2.2.2.2.2.2.2.2.2.2.2.2.2.2.2.2.2.2.2.2.2.2.2.1, gg3.keep hHeld.1.2.2.2.2.2.2.2.2.2.2.2.2.2.2.2.2.2.2.2.2.2.2.2.2.2.2.2.2.2.2.2.2.2.2.2.2.2.1, gg3.keep hHeld.1.2.2.2.2.2.2.2.2.2.2.2.2.2.2.2.2.2.2.2.2.2.2.2.2.2.2.2.2.2.2.2.2.2.2.2.2.2.2.1, gg3.keep hHeld.1.2.2.2.2.2.2.2.2.2.2.2.2.2.2.2.2.2.2.2.2.2.2.2.2.2.2.2.2.2.2.2.2.2.2.2.2.2.2.2.1, gg3.keep hHeld.1.2.2.2.2.2.2.2.2.2.2.2.2.2.2.2.2.2.2.2.2.2.2.2.2.2.2.2.2.2.2.2.2.2.2.2.2.2.2.2.2.1, gg3.keep hHeld.1.2.2.2.2.2.2.2.2.2.2.2.2.2.2.2.2.2.2.2.2.2.2.2.2.2.2.2.2.2.2.2.2.2.2.2.2.2.2.2.2.2⟩, hHeld.2.trans gg3⟩ (fun hH2 => ?_)
  clear hK K
  (try simp only [Act.put, List.setIfInBounds_toArray, List.set_cons_zero, List.set_cons_succ])
  have gq4 := hg0.trans gg3
  clear hg0
  refine wpAnyH_take (i := 5) (oi := _) (v := ?_) rfl (by kernel_rfl) (by kernel_rfl) (by kernel_rfl) (fun _ _ _ h => h) (Or.inl ⟨by rfl, ?_⟩) (by with_reducible assumption) ?_
  rotate_left
  · intro w hSw
    (try dsimp only at hSw)
    first | (go_simp; done) | (go_simp; with_reducible rfl)
  (try simp only [Act.put, List.setIfInBounds_toArray, List.set_cons_zero, List.set_cons_succ])
  refine wpAnyH_take (i := 6) (oi := _) (v := ?_) rfl (by kernel_rfl) (by kernel_rfl) (by kernel_rfl) (fun _ _ _ h => h) (Or.inl ⟨by rfl, ?_⟩) (by with_reducible assumption) ?_
  rotate_left
  · intro w hSw
    (try dsimp only at hSw)
    first | (go_simp; done) | (go_simp; with_reducible rfl)
  (try simp only [Act.put, List.setIfInBounds_toArray, List.set_cons_zero, List.set_cons_succ])
  refine wpAnyH_take (i := 7) (oi := _) (v := ?_) rfl (by kernel_rfl) (by kernel_rfl) (by kernel_rfl) (fun _ _ _ h => h) (Or.inl ⟨by rfl, ?_⟩) (by with_reducible assumption) ?_
  rotate_left
  · intro w hSw
    (try dsimp only at hSw)
    first | (go_simp; done) | (go_simp; with_reducible rfl)
  (try simp only [Act.put, List.setIfInBounds_toArray, List.set_cons_zero, List.set_cons_succ])
  refine wpAnyH_ready (rs := [8]) (by kernel_rfl) (by simp) ?_
  refine AllReadyH.cons (o := _) rfl (fun K hK => ?_) AllReadyH.nil
  go_simp
  with_reducible refine (O1.out _).mono ?_
  rintro r wc5 ⟨⟨ad8, cap8, rfl, d8_8⟩, gg7⟩
  refine hK.out _ _ ⟨⟨gg7.keep hH2.1.1, gg7.keep hH2.1.2.1, gg7.keep hH2.1.2.2.1, gg7.keep hH2.1.2.2.2.1, gg7.keep hH2.1.2.2.2.2.1, gg7.keep hH2.1.2.2.2.2.2.1, gg7.keep hH2.1.2.2.2.2.2.2.1, gg7.keep hH2.1.2.2.2.2.2.2.2.1, gg7.keep hH2.1.2.2.2.2.2.2.2.2.1, gg7.keep hH2.1.2.2.2.2.2.2.2.2.2.1, gg7.keep hH2.1.2.2.2.2.2.2.2.2.2.2.1, gg7.keep hH2.1.2.2.2.2.2.2.2.2.2.2.2.1, gg7.keep hH2.1.2.2.2.2.2.2.2.2.2.2.2.2.1, gg7.keep hH2.1.2.2.2.2.2.2.2.2.2.2.2.2.2.1, gg7.keep hH2.1.2.2.2.2.2.2.2.2.2.2.2.2.2.2.1, gg7.keep hH2.1.2.2.2.2.2.2.2.2.2.2.2.2.2.2.2.1, gg7.keep hH2.1.2.2.2.2.2.2.2.2.2.2.2.2.2.2.2.2.1, gg7.keep hH2.1.2.2.2.2.2.2.2.2.2.2.2.2.2.2.2.2.2.1, gg7.keep hH2.1.2.2.2.2.2.2.2.2.2.2.2.2.2.2.2.2.2.2.1, gg7.keep hH2.1.2.2.2.2.2.2.2.2.2.2.2.2.2.2.2.2.2.2.2.1, gg7.keep hH2.1.2.2.2.2.2.2.2.2.2.2.2.2.2.2.2.2.2.2.2.2.1, gg7.keep hH2.1.2.2.2.2.2.2.2.2.2.2.2.2.2.2.2.2.2.2.2.2.2.1, gg7.keep hH2.1.2.2.2.2.2.2.2.2.2.2.2.2.2.2.2.2.2.2.2.2.2.2.1, gg7.keep hH2.1.2.2.2.2.2.2.2.2.2.2.2.2.2.2.2.2.2.2.2.2.2.2.2.1, gg7.keep hH2.1.2.2.2.2.2.2.2.2.2.2.2.2.2.2.2.2.2.2.2.2.2.2.2.2.1, gg7.keep hH2.1.2.2.2.2.2.2.2.2.2.2.2.2.2.2.2.2.2.2.2.2.2.2.2.2.2.1, gg7.keep hH2.1.2.2.2.2.2.2.2.2.2.2.2.2.2.2.2.2.2.2.2.2.2.2.2.2.2.2.1, gg7.keep hH2.1.2.2.2.2.2.2.2.2.2.2.2.2.2.2.2.2.2.2.2.2.2.2.2.2.2.2.2.1, gg7.keep hH2.1.2.2.2.2.2.2.2.2.2.2.2.2.2.2.2.2.2.2.2.2.2.2.2.2.2.2.2.2.1, gg7.keep hH2.1.2.2.2.2.2.2.2.2.2.2.2.2.2.2.2.2.2.2.2.2.2.2.2.2.2.2.2.2.2.1, gg7.keep hH2.1.2.2.2.2.2.2.2.2.2.2.2.2.2.2.2.2.2.2.2.2.2.2.2.2.2.2.2.2.2.2.1, gg7.keep hH2.1.2.2.2.2.2.2.2.2.2.2.2.2.2.2.2.2.2.2.2.2.2.2.2.2.2.2.2.2.2.2.2.1, gg7.keep hH2.1.2.2.2.2.2.2.2.2.2.2.2.2.2.2.2.2.2.2.2.2.2.2.2.2.2.2.2.2.2.2.2.2.1, gg7.keep hH2.1.2.2.2.2.2.2.2.2.2.2.2.2.2.2.2.2.2.2.2.2.2.2.2.2.2.2.2.2.2.2.2.2.2.1, gg7.keep hH2.1.2.2.2.2.2.2.2.2.2.2.2.2.2.2.2.2.2.2.2.2.2.2.2.2.2.2.2.2.2.2.2.2.2.2.1, gg7.keep hH2.1.2.2.2.2.2.2.2.2.2.2.2.2.2.2.2.2.2.2.2.2.2.2.2.2.2.2.2.2.2.2.2.2.2.2.2.1, gg7.keep hH2.1.2.2.2.2.2.2.2.2.2.2.2.2.2.2.2.2.2.2.2.2.2.2.2.2.2.2.2.2.2.2.2.2.2.2.2.2.1, gg7.keep hH2.1.2.2.2.2.2.2.2.2.2.2.2.2.2.2.2.2.2.2.2.2.2.2.2.2.2.2.2.2.2.2.2.2.2.2.2.2.2.1, gg7.keep hH2.1.2.2.2.2.2.2.2.2.2.2.2.2.2.2.2.2.2.2.2.2.2.2.2.2.2.2.2.2.2.2.2.2.2.2.2.2.2.2.1, gg7.keep hH2.1.2.2.2.2.2.2.2.2.2.2.2.2.2.2.2.2.2.2.2.2.2.2.2.2.2.2.2.2.2.2.2.2.2.2.2.2.2.2.2.1, gg7.keep hH2.1.2.2.2.2.2.2.2.2.2.2.2.2.2.2.2.2.2.2.2.2.2.2.2.2.2.2.2.2.2.2.2.2.2.2.2.2.2.2.2.2.1, gg7.keep hH2.1.2.2.2.2.2.2.2.2.2.2.2.2.2.2.2.2.2.2.2.2.2.2.2.2.2.2.2.2.2.2.2.2.2.2.2.2.2.2.2.2.2⟩, hH2.2.trans gg7⟩ (fun hH6 => ?_)
  clear hK K
  (try simp only [Act.put, List.setIfInBounds_toArray, List.set_cons_zero, List.set_cons_succ])
  have gq9 := gq4.trans gg7
  clear gq4
  refine wpAnyH_ready (rs := [9]) (by kernel_rfl) (by simp) ?_
  refine AllReadyH.cons (o := _) rfl (fun K hK => ?_) AllReadyH.nil
  go_simp
  with_reducible refine (O2.out _).mono ?_
  rintro r wc10 ⟨⟨ad9, cap9, rfl, d9_13⟩, gg12⟩
  refine hK.out _ _ ⟨⟨gg12.keep hH6.1.1, gg12.keep hH6.1.2.1, gg12.keep hH6.1.2.2.1, gg12.keep hH6.1.2.2.2.1, gg12.keep hH6.1.2.2.2.2.1, gg12.keep hH6.1.2.2.2.2.2.1, gg12.keep hH6.1.2.2.2.2.2.2.1, gg12.keep hH6.1.2.2.2.2.2.2.2.1, gg12.keep hH6.1.2.2.2.2.2.2.2.2.1, gg12.keep hH6.1.2.2.2.2.2.2.2.2.2.1, gg12.keep hH6.1.2.2.2.2.2.2.2.2.2.2.1, gg12.keep hH6.1.2.2.2.2.2.2.2.2.2.2.2.1, gg12.keep hH6.1.2.2.2.2.2.2.2.2.2.2.2.2.1, gg12.keep hH6.1.2.2.2.2.2.2.2.2.2.2.2.2.2.1, gg12.keep hH6.1.2.2.2.2.2.2.2.2.2.2.2.2.2.2.1, gg12.keep hH6.1.2.2.2.2.2.2.2.2.2.2.2.2.2.2.2.1, gg12.keep hH6.1.2.2.2.2.2.2.2.2.2.2.2.2.2.2.2.2.1, gg12.keep hH6.1.2.2.2.2.2.2.2.2.2.2.2.2.2.2.2.2.2.1, gg12.keep hH6.1.2.2.2.2.2.2.2.2.2.2.2.2.2.2.2.2.2.2.1, gg12.keep hH6.1.2.2.2.2.2.2.2.2.2.2.2.2.2.2.2.2.2.2.2.1, gg12.keep hH6.1.2.2.2.2.2.2.2.2.2.2.2.2.2.2.2.2.2.2.2.2.1, gg12.keep hH6.1.2.2.2.2.2.2.2.2.2.2.2.2.2.2.2.2.2.2.2.2.2.1, gg12.keep hH6.1.2.2.2.2.2.2.2.2.2.2.2.2.2.2.2.2.2.2.2.2.2.2.1, gg12.keep hH6.1.2.2.2.2.2.2.2.2.2.2.2.2.2.2.2.2.2.2.2.2.2.2.2.1, gg12.keep hH6.1.2.2.2.2.2.2.2.2.2.2.2.2.2.2.2.2.2.2.2.2.2.2.2.2.1, gg12.keep hH6.1.2.2.2.2.2.2.2.2.2.2.2.2.2.2.2.2.2.2.2.2.2.2.2.2.2.1, gg12.keep hH6.1.2.2.2.2.2.2.2.2.2.2.2.2.2.2.2.2.2.2.2.2.2.2.2.2.2.2.1, gg12.keep hH6.1.2.2.2.2.2.2.2.2.2.2.2.2.2.2.2.2.2.2.2.2.2.2.2.2.2.2.2.1, gg12.keep hH6.1.2.2.2.2.2.2.2.2.2.2.2.2.2.2.2.2.2.2.2.2.2.2.2.2.2.2.2.2.1, gg12.keep hH6.1.2.2.2.2.2.2.2.2.2.2.2.2.2.2.2.2.2.2.2.2.2.2.2.2.2.2.2.2.2.1, gg12.keep hH6.1.2.2.2.2.2.2.2.2.2.2.2.2.2.2.2.2.2.2.2.2.2.2.2.2.2.2.2.2.2.2.1, gg12.keep hH6.1.2.2.2.2.2.2.2.2.2.2.2.2.2.2.2.2.2.2.2.2.2.2.2.2.2.2.2.2.2.2.2.1, gg12.keep hH6.1.2.2.2.2.2.2.2.2.2.2.2.2.2.2.2.2.2.2.2.2.2.2.2.2.2.2.2.2.2.2.2.2.1, gg12.keep hH6.1.2.2.2.2.2.2.2.2.2.2.2.2.2.2.2.2.2.2.2.2.2.2.2.2.2.2.2.2.2.2.2.2.2.1, gg12.keep hH6.1.2.2.2.2.2.2.2.2.2.2.2.2.2.2.2.2.2.2.2.2.2.2.2.2.2.2.2.2.2.2.2.2.2.2.1, gg12.keep hH6.1.2.2.2.2.2.2.2.2.2.2.2.2.2.2.2.2.2.2.2.2.2.2.2.2.2.2.2.2.2.2.2.2.2.2.2.1, gg12.keep hH6.1.2.2.2.2.2.2.2.2.2.2.2.2.2.2.2.2.2.2.2.2.2.2.2.2.2.2.2.2.2.2.2.2.2.2.2.2.1, gg12.keep hH6.1.2.2.2.2.2.2.2.2.2.2.2.2.2.2.2.2.2.2.2.2.2.2.2.2.2.2.2.2.2.2.2.2.2.2.2.2.2.1, gg12.keep hH6.1.2.2.2.2.2.2.2.2.2.2.2.2.2.2.2.2.2.2.2.2.2.2.2.2.2.2.2.2.2.2.2.2.2.2.2.2.2.2.1, gg12.keep hH6.1.2.2.2.2.2.2.2.2.2.2.2.2.2.2.2.2.2.2.2.2.2.2.2.2.2.2.2.2.2.2.2.2.2.2.2.2.2.2.2.1, gg12.keep hH6.1.2.2.2.2.2.2.2.2.2.2.2.2.2.2.2.2.2.2.2.2.2.2.2.2.2.2.2.2.2.2.2.2.2.2.2.2.2.2.2.2.1, gg12.keep hH6.1.2.2.2.2.2.2.2.2.2.2.2.2.2.2.2.2.2.2.2.2.2.2.2.2.2.2.2.2.2.2.2.2.2.2.2.2.2.2.2.2.2⟩, hH6.2.trans gg12⟩ (fun hH11 => ?_)
  clear hK K
  (try simp only [Act.put, List.setIfInBounds_toArray, List.set_cons_zero, List.set_cons_succ])
  have d8_14 := d8_8.gr gg12
  clear d8_8
  have gq15 := gq9.trans gg12
  clear gq9
  refine wpAnyH_ready (rs := [10]) (by kernel_rfl) (by simp) ?_
  refine AllReadyH.cons (o := _) rfl (fun K hK => ?_) AllReadyH.nil
  go_simp
  with_reducible refine (I2.out _ _ _ _ _ gq15 d8_14 d9_13).mono ?_
  rintro r wc16 ⟨rfl, gg18⟩
  refine hK.out _ _ ⟨⟨gg18.keep hH11.1.1, gg18.keep hH11.1.2.1, gg18.keep hH11.1.2.2.1, gg18.keep hH11.1.2.2.2.1, gg18.keep hH11.1.2.2.2.2.1, gg18.keep hH11.1.2.2.2.2.2.1, gg18.keep hH11.1.2.2.2.2.2.2.1, gg18.keep hH11.1.2.2.2.2.2.2.2.1, gg18.keep hH11.1.2.2.2.2.2.2.2.2.1, gg18.keep hH11.1.2.2.2.2.2.2.2.2.2.1, gg18.keep hH11.1.2.2.2.2.2.2.2.2.2.2.1, gg18.keep hH11.1.2.2.2.2.2.2.2.2.2.2.2.1, gg18.keep hH11.1.2.2.2.2.2.2.2.2.2.2.2.2.1, gg18.keep hH11.1.2.2.2.2.2.2.2.2.2.2.2.2.2.1, gg18.keep hH11.1.2.2.2.2.2.2.2.2.2.2.2.2.2.2.1, gg18.keep hH11.1.2.2.2.2.2.2.2.2.2.2.2.2.2.2.2.1, gg18.keep hH11.1.2.2.2.2.2.2.2.2.2.2.2.2.2.2.2.2.1, gg18.keep hH11.1.2.2.2.2.2.2.2.2.2.2.2.2.2.2.2.2.2.1, gg18.keep hH11.1.2.2.2.2.2.2.2.2.2.2.2.2.2.2.2.2.2.2.1, gg18.keep hH11.1.2.2.2.2.2.2.2.2.2.2.2.2.2.2.2.2.2.2.2.1, gg18.keep hH11.1.2.2.2.2.2.2.2.2.2.2.2.2.2.2.2.2.2.2.2.2.1, gg18.keep hH11.1.2.2.2.2.2.2.2.2.2.2.2.2.2.2.2.2.2.2.2.2.2.1, gg18.keep hH11.1.2.2.2.2.2.2.2.2.2.2.2.2.2.2.2.2.2.2.2.2.2.2.1, gg18.keep hH11.1.2.2.2.2.2.2.2.2.2.2.2.2.2.2.2.2.2.2.2.2.2.2.2.1, gg18.keep hH11.1.2.2.2.2.2.2.2.2.2.2.2.2.2.2.2.2.2.2.2.2.2.2.2.2.1, gg18.keep hH11.1.2.2.2.2.2.2.2.2.2.2.2.2.2.2.2.2.2.2.2.2.2.2.2.2.2.1, gg18.keep hH11.1.2.2.2.2.2.2.2.2.2.2.2.2.2.2.2.2.2.2.2.2.2.2.2.2.2.2.1, gg18.keep hH11.1.2.2.2.2.2.2.2.2.2.2.2.2.2.2.2.2.2.2.2.2.2.2.2.2.2.2.2.1, gg18.keep hH11.1.2.2.2.2.2.2.2.2.2.2.2.2.2.2.2.2.2.2.2.2.2.2.2.2.2.2.2.2.1, gg18.keep hH11.1.2.2.2.2.2.2.2.2.2.2.2.2.2.2.2.2.2.2.2.2.2.2.2.2.2.2.2.2.2.1, gg18.keep hH11.1.2.2.2.2.2.2.2.2.2.2.2.2.2.2.2.2.2.2.2.2.2.2.2.2.2.2.2.2.2.2.1, gg18.keep hH11.1.2.2.2.2.2.2.2.2.2.2.2.2.2.2.2.2.2.2.2.2.2.2.2.2.2.2.2.2.2.2.2.1, gg18.keep hH11.1.2.2.2.2.2.2.2.2.2.2.2.2.2.2.2.2.2.2.2.2.2.2.2.2.2.2.2.2.2.2.2.2.1, gg18.keep hH11.1.2.2.2.2.2.2.2.2.2.2.2.2.2.2.2.2.2.2.2.2.2.2.2.2.2.2.2.2.2.2.2.2.2.1, gg18.keep hH11.1.2.2.2.2.2.2.2.2.2.2.2.2.2.2.2.2.2.2.2.2.2.2.2.2.2.2.2.2.2.2.2.2.2.2.1, gg18.keep hH11.1.2.2.2.2.2.2.2.2.2.2.2.2.2.2.2.2.2.2.2.2.2.2.2.2.2.2.2.2.2.2.2.2.2.2.2.1, gg18.keep hH11.1.2.2.2.2.2.2.2.2.2.2.2.2.2.2.2.2.2.2.2.2.2.2.2.2.2.2.2.2.2.2.2.2.2.2.2.2.1, gg18.keep hH11.1.2.2.2.2.2.2.2.2.2.2.2.2.2.2.2.2.2.2.2.2.2.2.2.2.2.2.2.2.2.2.2.2.2.2.2.2.2.1, gg18.keep hH11.1.2.2.2.2.2.2.2.2.2.2.2.2.2.2.2.2.2.2.2.2.2.2.2.2.2.2.2.2.2.2.2.2.2.2.2.2.2.2.1, gg18.keep hH11.1.2.2.2.2.2.2.2.2.2.2.2.2.2.2.2.2.2.2.2.2.2.2.2.2.2.2.2.2.2.2.2.2.2.2.2.2.2.2.2.1, gg18.keep hH11.1.2.2.2.2.2.2.2.2.2.2.2.2.2.2.2.2.2.2.2.2.2.2.2.2.2.2.2.2.2.2.2.2.2.2.2.2.2.2.2.2.1, gg18.keep hH11.1.2.2.2.2.2.2.2.2.2.2.2.2.2.2.2.2.2.2.2.2.2.2.2.2.2.2.2.2.2.2.2.2.2.2.2.2.2.2.2.2.2⟩, hH11.2.trans gg18⟩ (fun hH17 => ?_)
  clear hK K
  (try simp only [Act.put, List.setIfInBounds_toArray, List.set_cons_zero, List.set_cons_succ])
  have d8_19 := d8_14.gr gg18
  clear d8_14
  have d9_20 := d9_13.gr gg18
  clear d9_13
  have gq21 := gq15.trans gg18
  clear gq15
  refine wpAnyH_take (i := 11) (oi := _) (v := ?_) rfl (by kernel_rfl) (by kernel_rfl) (by kernel_rfl) (fun _ _ _ h => h) (Or.inl ⟨by rfl, ?_⟩) (by with_reducible assumption) ?_
  rotate_left
  · intro w hSw
    (try dsimp only at hSw)
    first | (go_simp; done) | (go_simp; with_reducible rfl)
  (try simp only [Act.put, List.setIfInBounds_toArray, List.set_cons_zero, List.set_cons_succ])
  refine wpAnyH_take (i := 12) (oi := _) (v := ?_) rfl (by kernel_rfl) (by kernel_rfl) (by kernel_rfl) (fun _ _ _ h => h) (Or.inl ⟨by rfl, ?_⟩) (by with_reducible assumption) ?_
  rotate_left
  · intro w hSw
    (try dsimp only at hSw)
    first | (go_simp; done) | (go_simp; with_reducible rfl)
  (try simp only [Act.put, List.setIfInBounds_toArray, List.set_cons_zero, List.set_cons_succ])
  refine wpAnyH_take (i := 13) (oi := _) (v := ?_) rfl (by kernel_rfl) (by kernel_rfl) (by kernel_rfl) (fun _ _ _ h => h) (Or.inl ⟨by rfl, ?_⟩) (by with_reducible assumption) ?_
  rotate_left
  · intro w hSw
    (try dsimp only at hSw)
    first | (go_simp; done) | (go_simp; with_reducible rfl)
  (try simp only [Act.put, List.setIfInBounds_toArray, List.set_cons_zero, List.set_cons_succ])
  refine wpAnyH_take (i := 14) (oi := _) (v := ?_) rfl (by kernel_rfl) (by kernel_rfl) (by kernel_rfl) (fun _ _ _ h => h) (Or.inl ⟨by rfl, ?_⟩) (by with_reducible assumption) ?_
  rotate_left
  · intro w hSw
    (try dsimp only at hSw)
    first | (go_simp; done) | (go_simp; with_reducible rfl)
  (try simp only [Act.put, List.setIfInBounds_toArray, List.set_cons_zero, List.set_cons_succ])
  refine wpAnyH_take (i := 15) (oi := _) (v := ?_) rfl (by kernel_rfl) (by kernel_rfl) (by kernel_rfl) (fun _ _ _ h => h) (Or.inl ⟨by rfl, ?_⟩) (by with_reducible assumption) ?_
  rotate_left
  · intro w hSw
    (try dsimp only at hSw)
    first | (go_simp; done) | (go_simp; with_reducible rfl)
  (try simp only [Act.put, List.setIfInBounds_toArray, List.set_cons_zero, List.set_cons_succ])
  refine wpAnyH_take (i := 16) (oi := _) (v := ?_) rfl (by kernel_rfl) (by kernel_rfl) (by kernel_rfl) (fun _ _ _ h => h) (Or.inl ⟨by rfl, ?_⟩) (by with_reducible assumption) ?_
  rotate_left
  · intro w hSw
    (try dsimp only at hSw)
    first | (go_simp; done) | (go_simp; with_reducible rfl)
  (try simp only [Act.put, List.setIfInBounds_toArray, List.set_cons_zero, List.set_cons_succ])
  refine wpAnyH_ready (rs := [17]) (by kernel_rfl) (by simp) ?_
  refine AllReadyH.cons (o := _) rfl (fun K hK => ?_) AllReadyH.nil
  go_simp
  with_reducible refine (I3.out _ gq21).mono ?_
  rintro r wc22 ⟨rfl, gg24⟩
  refine hK.out _ _ ⟨⟨gg24.keep hH17.1.1, gg24.keep hH17.1.2.1, gg24.keep hH17.1.2.2.1, gg24.keep hH17.1.2.2.2.1, gg24.keep hH17.1.2.2.2.2.1, gg24.keep hH17.1.2.2.2.2.2.1, gg24.keep hH17.1.2.2.2.2.2.2.1, gg24.keep hH17.1.2.2.2.2.2.2.2.1, gg24.keep hH17.1.2.2.2.2.2.2.2.2.1, gg24.keep hH17.1.2.2.2.2.2.2.2.2.2.1, gg24.keep hH17.1.2.2.2.2.2.2.2.2.2.2.1, gg24.keep hH17.1.2.2.2.2.2.2.2.2.2.2.2.1, gg24.keep hH17.1.2.2.2.2.2.2.2.2.2.2.2.2.1, gg24.keep hH17.1.2.2.2.2.2.2.2.2.2.2.2.2.2.1, gg24.keep hH17.1.2.2.2.2.2.2.2.2.2.2.2.2.2.2.1, gg24.keep hH17.1.2.2.2.2.2.2.2.2.2.2.2.2.2.2.2.1, gg24.keep hH17.1.2.2.2.2.2.2.2.2.2.2.2.2.2.2.2.2.1, gg24.keep hH17.1.2.2.2.2.2.2.2.2.2.2.2.2.2.2.2.2.2.1, gg24.keep hH17.1.2.2.2.2.2.2.2.2.2.2.2.2.2.2.2.2.2.2.1, gg24.keep hH17.1.2.2.2.2.2.2.2.2.2.2.2.2.2.2.2.2.2.2.2.1, gg24.keep hH17.1.2.2.2.2.2.2.2.2.2.2.2.2.2.2.2.2.2.2.2.2.1, gg24.keep hH17.1.2.2.2.2.2.2.2.2.2.2.2.2.2.2.2.2.2.2.2.2.2.1, gg24.keep hH17.1.2.2.2.2.2.2.2.2.2.2.2.2.2.2.2.2.2.2.2.2.2.2.1, gg24.keep hH17.1.2.2.2.2.2.2.2.2.2.2.2.2.2.2.2.2.2.2.2.2.2.2.2.1, gg24.keep hH17.1.2.2.2.2.2.2.2.2.2.2.2.2.2.2.2.2.2.2.2.2.2.2.2.2.1, gg24.keep hH17.1.2.2.2.2.2.2.2.2.2.2.2.2.2.2.2.2.2.2.2.2.2.2.2.2.2.1, gg24.keep hH17.1.2.2.2.2.2.2.2.2.2.2.2.2.2.2.2.2.2.2.2.2.2.2.2.2.2.2.1, gg24.keep hH17.1.2.2.2.2.2.2.2.2.2.2.2.2.2.2.2.2.2.2.2.2.2.2.2.2.2.2.2.1, gg24.keep hH17.1.2.2.2.2.2.2.2.2.2.2.2.2.2.2.2.2.2.2.2.2.2.2.2.2.2.2.2.2.1, gg24.keep hH17.1.2.2.2.2.2.2.2.2.2.2.2.2.2.2.2.2.2.2.2.2.2.2.2.2.2.2.2.2.2.1, gg24.keep hH17.1.2.2.2.2.2.2.2.2.2.2.2.2.2.2.2.2.2.2.2.2.2.2.2.2.2.2.2.2.2.2.1, gg24.keep hH17.1.2.2.2.2.2.2.2.2.2.2.2.2.2.2.2.2.2.2.2.2.2.2.2.2.2.2.2.2.2.2.2.1, gg24.keep hH17.1.2.2.2.2.2.2.2.2.2.2.2.2.2.2.2.2.2.2.2.2.2.2.2.2.2.2.2.2.2.2.2.2.1, gg24.keep hH17.1.2.2.2.2.2.2.2.2.2.2.2.2.2.2.2.2.2.2.2.2.2.2.2.2.2.2.2.2.2.2.2.2.2.1, gg24.keep hH17.1.2.2.2.2.2.2.2.2.2.2.2.2.2.2.2.2.2.2.2.2.2.2.2.2.2.2.2.2.2.2.2.2.2.2.1, gg24.keep hH17.1.2.2.2.2.2.2.2.2.2.2.2.2.2.2.2.2.2.2.2.2.2.2.2.2.2.2.2.2.2.2.2.2.2.2.2.1, gg24.keep hH17.1.2.2.2.2.2.2.2.2.2.2.2.2.2.2.2.2.2.2.2.2.2.2.2.2.2.2.2.2.2.2.2.2.2.2.2.2.1, gg24.keep hH17.1.2.2.2.2.2.2.2.2.2.2.2.2.2.2.2.2.2.2.2.2.2.2.2.2.2.2.2.2.2.2.2.2.2.2.2.2.2.1, gg24.keep hH17.1.2.2.2.2.2.2.2.2.2.2.2.2.2.2.2.2.2.2.2.2.2.2.2.2.2.2.2.2.2.2.2.2.2.2.2.2.2.2.1, gg24.keep hH17.1.2.2.2.2.2.2.2.2.2.2.2.2.2.2.2.2.2.2.2.2.2.2.2.2.2.2.2.2.2.2.2.2.2.2.2.2.2.2.2.1, gg24.keep hH17.1.2.2.2.2.2.2.2.2.2.2.2.2.2.2.2.2.2.2.2.2.2.2.2.2.2.2.2.2.2.2.2.2.2.2.2.2.2.2.2.2.1, gg24.keep hH17.1.2.2.2.2.2.2.2.2.2.2.2.2.2.2.2.2.2.2.2.2.2.2.2.2.2.2.2.2.2.2.2.2.2.2.2.2.2.2.2.2.2⟩, hH17.2.trans gg24⟩ (fun hH23 => ?_)
  clear hK K
  (try simp only [Act.put, List.setIfInBounds_toArray, List.set_cons_zero, List.set_cons_succ])
  have d8_25 := d8_19.gr gg24
  clear d8_19
  have d9_26 := d9_20.gr gg24
  clear d9_20
  have gq27 := gq21.trans gg24
  clear gq21
  refine wpAnyH_take (i := 18) (oi := _) (v := ?_) rfl (by kernel_rfl) (by kernel_rfl) (by kernel_rfl) (fun _ _ _ h => h) (Or.inl ⟨by rfl, ?_⟩) (by with_reducible assumption) ?_
  rotate_left
  · intro w hSw
    (try dsimp only at hSw)
    first | (go_simp; done) | (go_simp; with_reducible rfl)
  (try simp only [Act.put, List.setIfInBounds_toArray, List.set_cons_zero, List.set_cons_succ])
  refine wpAnyH_take (i := 19) (oi := _) (v := ?_) rfl (by kernel_rfl) (by kernel_rfl) (by kernel_rfl) (fun _ _ _ h => h) (Or.inl ⟨by rfl, ?_⟩) (by with_reducible assumption) ?_
  rotate_left
  · intro w hSw
    (try dsimp only at hSw)
    first | (go_simp; done) | (go_simp; with_reducible rfl)
  (try simp only [Act.put, List.setIfInBounds_toArray, List.set_cons_zero, List.set_cons_succ])
  refine wpAnyH_take (i := 20) (oi := _) (v := ?_) rfl (by kernel_rfl) (by kernel_rfl) (by kernel_rfl) (fun _ _ _ h => h) (Or.inl ⟨by rfl, ?_⟩) (by with_reducible assumption) ?_
  rotate_left
  · intro w hSw
    (try dsimp only at hSw)
    first | (go_simp; done) | (go_simp; with_reducible rfl)
  (try simp only [Act.put, List.setIfInBounds_toArray, List.set_cons_zero, List.set_cons_succ])
  refine wpAnyH_take (i := 21) (oi := _) (v := ?_) rfl (by kernel_rfl) (by kernel_rfl) (by kernel_rfl) (fun _ _ _ h => h) (Or.inl ⟨by rfl, ?_⟩) (by with_reducible assumption) ?_
  rotate_left
  · intro w hSw
    (try dsimp only at hSw)
    first | (go_simp; done) | (go_simp; with_reducible rfl)
  (try simp only [Act.put, List.setIfInBounds_toArray, List.set_cons_zero, List.set_cons_succ])
  refine wpAnyH_ready (rs := [22]) (by kernel_rfl) (by simp) ?_
  refine AllReadyH.cons (o := _) rfl (fun K hK => ?_) AllReadyH.nil
  go_simp
  with_reducible refine (O3.out _).mono ?_
  rintro r wc28 ⟨⟨ad22, cap22, rfl, d22_31⟩, gg30⟩
  refine hK.out _ _ ⟨⟨gg30.keep hH23.1.1, gg30.keep hH23.1.2.1, gg30.keep hH23.1.2.2.1, gg30.keep hH23.1.2.2.2.1, gg30.keep hH23.1.2.2.2.2.1, gg30.keep hH23.1.2.2.2.2.2.1, gg30.keep hH23.1.2.2.2.2.2.2.1, gg30.keep hH23.1.2.2.2.2.2.2.2.1, gg30.keep hH23.1.2.2.2.2.2.2.2.2.1, gg30.keep hH23.1.2.2.2.2.2.2.2.2.2.1, gg30.keep hH23.1.2.2.2.2.2.2.2.2.2.2.1, gg30.keep hH23.1.2.2.2.2.2.2.2.2.2.2.2.1, gg30.keep hH23.1.2.2.2.2.2.2.2.2.2.2.2.2.1, gg30.keep hH23.1.2.2.2.2.2.2.2.2.2.2.2.2.2.1, gg30.keep hH23.1.2.2.2.2.2.2.2.2.2.2.2.2.2.2.1, gg30.keep hH23.1.2.2.2.2.2.2.2.2.2.2.2.2.2.2.2.1, gg30.keep hH23.1.2.2.2.2.2.2.2.2.2.2.2.2.2.2.2.2.1, gg30.keep hH23.1.2.2.2.2.2.2.2.2.2.2.2.2.2.2.2.2.2.1, gg30.keep hH23.1.2.2.2.2.2.2.2.2.2.2.2.2.2.2.2.2.2.2.1, gg30.keep hH23.1.2.2.2.2.2.2.2.2.2.2.2.2.2.2.2.2.2.2.2.1, gg30.keep hH23.1.2.2.2.2.2.2.2.2.2.2.2.2.2.2.2.2.2.2.2.2.1, gg30.keep hH23.1.2.2.2.2.2.2.2.2.2.2.2.2.2.2.2.2.2.2.2.2.2.1, gg30.keep hH23.1.2.2.2.2.2.2.2.2.2.2.2.2.2.2.2.2.2.2.2.2.2.2.1, gg30.keep hH23.1.2.2.2.2.2.2.2.2.2.2.2.2.2.2.2.2.2.2.2.2.2.2.2.1, gg30.keep hH23.1.2.2.2.2.2.2.2.2.2.2.2.2.2.2.2.2.2.2.2.2.2.2.2.2.1, gg30.keep hH23.1.2.2.2.2.2.2.2.2.2.2.2.2.2.2.2.2.2.2.2.2.2.2.2.2.2.1, gg30.keep hH23.1.2.2.2.2.2.2.2.2.2.2.2.2.2.2.2.2.2.2.2.2.2.2.2.2.2.2.1, gg30.keep hH23.1.2.2.2.2.2.2.2.2.2.2.2.2.2.2.2.2.2.2.2.2.2.2.2.2.2.2.2.1, gg30.keep hH23.1.2.2.2.2.2.2.2.2.2.2.2.2.2.2.2.2.2.2.2.2.2.2.2.2.2.2.2.2.1, gg30.keep hH23.1.2.2.2.2.2.2.2.2.2.2.2.2.2.2.2.2.2.2.2.2.2.2.2.2.2.2.2.2.2.1, gg30.keep hH23.1.2.2.2.2.2.2.2.2.2.2.2.2.2.2.2.2.2.2.2.2.2.2.2.2.2.2.2.2.2.2.1, gg30.keep hH23.1.2.2.2.2.2.2.2.2.2.2.2.2.2.2.2.2.2.2.2.2.2.2.2.2.2.2.2.2.2.2.2.1, gg30.keep hH23.1.2.2.2.2.2.2.2.2.2.2.2.2.2.2.2.2.2.2.2.2.2.2.2.2.2.2.2.2.2.2.2.2.1, gg30.keep hH23.1.2.2.2.2.2.2.2.2.2.2.2.2.2.2.2.2.2.2.2.2.2.2.2.2.2.2.2.2.2.2.2.2.2.1, gg30.keep hH23.1.2.2.2.2.2.2.2.2.2.2.2.2.2.2.2.2.2.2.2.2.2.2.2.2.2.2.2.2.2.2.2.2.2.2.1, gg30.keep hH23.1.2.2.2.2.2.2.2.2.2.2.2.2.2.2.2.2.2.2.2.2.2.2.2.2.2.2.2.2.2.2.2.2.2.2.2.1, gg30.keep hH23.1.2.2.2.2.2.2.2.2.2.2.2.2.2.2.2.2.2.2.2.2.2.2.2.2.2.2.2.2.2.2.2.2.2.2.2.2.1, gg30.keep hH23.1.2.2.2.2.2.2.2.2.2.2.2.2.2.2.2.2.2.2.2.2.2.2.2.2.2.2.2.2.2.2.2.2.2.2.2.2.2.1, gg30.keep hH23.1.2.2.2.2.2.2.2.2.2.2.2.2.2.2.2.2.2.2.2.2.2.2.2.2.2.2.2.2.2.2.2.2.2.2.2.2.2.2.1, gg30.keep hH23.1.2.2.2.2.2.2.2.2.2.2.2.2.2.2.2.2.2.2.2.2.2.2.2.2.2.2.2.2.2.2.2.2.2.2.2.2.2.2.2.1, gg30.keep hH23.1.2.2.2.2.2.2.2.2.2.2.2.2.2.2.2.2.2.2.2.2.2.2.2.2.2.2.2.2.2.2.2.2.2.2.2.2.2.2.2.2.1, gg30.keep hH23.1.2.2.2.2.2.2.2.2.2.2.2.2.2.2.2.2.2.2.2.2.2.2.2.2.2.2.2.2.2.2.2.2.2.2.2.2.2.2.2.2.2⟩, hH23.2.trans gg30⟩ (fun hH29 => ?_)
  clear hK K
  (try simp only [Act.put, List.setIfInBounds_toArray, List.set_cons_zero, List.set_cons_succ])
  have d8_32 := d8_25.gr gg30
  clear d8_25
  have d9_33 := d9_26.gr gg30
  clear d9_26
  have gq34 := gq27.trans gg30
  clear gq27
  refine wpAnyH_ready (rs := [23]) (by kernel_rfl) (by simp) ?_
  refine AllReadyH.cons (o := _) rfl (fun K hK => ?_) AllReadyH.nil
  go_simp
  with_reducible refine (O3.out _).mono ?_
  rintro r wc35 ⟨⟨ad23, cap23, rfl, d23_38⟩, gg37⟩
  refine hK.out _ _ ⟨⟨gg37.keep hH29.1.1, gg37.keep hH29.1.2.1, gg37.keep hH29.1.2.2.1, gg37.keep hH29.1.2.2.2.1, gg37.keep hH29.1.2.2.2.2.1, gg37.keep hH29.1.2.2.2.2.2.1, gg37.keep hH29.1.2.2.2.2.2.2.1, gg37.keep hH29.1.2.2.2.2.2.2.2.1, gg37.keep hH29.1.2.2.2.2.2.2.2.2.1, gg37.keep hH29.1.2.2.2.2.2.2.2.2.2.1, gg37.keep hH29.1.2.2.2.2.2.2.2.2.2.2.1, gg37.keep hH29.1.2.2.2.2.2.2.2.2.2.2.2.1, gg37.keep hH29.1.2.2.2.2.2.2.2.2.2.2.2.2.1, gg37.keep hH29.1.2.2.2.2.2.2.2.2.2.2.2.2.2.1, gg37.keep hH29.1.2.2.2.2.2.2.2.2.2.2.2.2.2.2.1, gg37.keep hH29.1.2.2.2.2.2.2.2.2.2.2.2.2.2.2.2.1, gg37.keep hH29.1.2.2.2.2.2.2.2.2.2.2.2.2.2.2.2.2.1, gg37.keep hH29.1.2.2.2.2.2.2.2.2.2.2.2.2.2.2.2.2.2.1, gg37.keep hH29.1.2.2.2.2.2.2.2.2.2.2.2.2.2.2.2.2.2.2.1, gg37.keep hH29.1.2.2.2.2.2.2.2.2.2.2.2.2.2.2.2.2.2.2.2.1, gg37.keep hH29.1.2.2.2.2.2.2.2.2.2.2.2.2.2.2.2.2.2.2.2.2.1, gg37.keep hH29.1.2.2.2.2.2.2.2.2.2.2.2.2.2.2.2.2.2.2.2.2.2.1, gg37.keep hH29.1.2.2.2.2.2.2.2.2.2.2.2.2.2.2.2.2.2.2.2.2.2.2.1, gg37.keep hH29.1.2.2.2.2.2.2.2.2.2.2.2.2.2.2.2.2.2.2.2.2.2.2.2.1, gg37.keep hH29.1.2.2.2.2.2.2.2.2.2.2.2.2.2.2.2.2.2.2.2.2.2.2.2.2.1, gg37.keep hH29.1.2.2.2.2.2.2.2.2.2.2.2.2.2.2.2.2.2.2.2.2.2.2.2.2.2.1, gg37.keep hH29.1.2.2.2.2.2.2.2.2.2.2.2.2.2.2.2.2.2.2.2.2.2.2.2.2.2.2.1, gg37.keep hH29.1.2.2.2.2.2.2.2.2.2.2.2.2.2.2.2.2.2.2.2.2.2.2.2.2.2.2.2.1, gg37.keep hH29.1.2.2.2.2.2.2.2.2.2.2.2.2.2.2.2.2.2.2.2.2.2.2.2.2.2.2.2.2.1, gg37.keep hH29.1.2.2.2.2.2.2.2.2.2.2.2.2.2.2.2.2.2.2.2.2.2.2.2.2.2.2.2.2.2.1, gg37.keep hH29.1.2.2.2.2.2.2.2.2.2.2.2.2.2.2.2.2.2.2.2.2.2.2.2.2.2.2.2.2.2.2.1, gg37.keep hH29.1.2.2.2.2.2.2.2.2.2.2.2.2.2.2.2.2.2.2.2.2.2.2.2.2.2.2.2.2.2.2.2.1, gg37.keep hH29.1.2.2.2.2.2.2.2.2.2.2.2.2.2.2.2.2.2.2.2.2.2.2.2.2.2.2.2.2.2.2.2.2.1, gg37.keep hH29.1.2.2.2.2.2.2.2.2.2.2.2.2.2.2.2.2.2.2.2.2.2.2.2.2.2.2.2.2.2.2.2.2.2.1, gg37.keep hH29.1.2.2.2.2.2.2.2.2.2.2.2.2.2.2.2.2.2.2.2.2.2.2.2.2.2.2.2.2.2.2.2.2.2.2.1, gg37.keep hH29.1.2.2.2.2.2.2.2.2.2.2.2.2.2.2.2.2.2.2.2.2.2.2.2.2.2.2.2.2.2.2.2.2.2.2.2.1, gg37.keep hH29.1.2.2.2.2.2.2.2.2.2.2.2.2.2.2.2.2.2.2.2.2.2.2.2.2.2.2.2.2.2.2.2.2.2.2.2.2.1, gg37.keep hH29.1.2.2.2.2.2.2.2.2.2.2.2.2.2.2.2.2.2.2.2.2.2.2.2.2.2.2.2.2.2.2.2.2.2.2.2.2.2.1, gg37.keep hH29.1.2.2.2.2.2.2.2.2.2.2.2.2.2.2.2.2.2.2.2.2.2.2.2.2.2.2.2.2.2.2.2.2.2.2.2.2.2.2.1, gg37.keep hH29.1.2.2.2.2.2.2.2.2.2.2.2.2.2.2.2.2.2.2.2.2.2.2.2.2.2.2.2.2.2.2.2.2.2.2.2.2.2.2.2.1, gg37.keep hH29.1.2.2.2.2.2.2.2.2.2.2.2.2.2.2.2.2.2.2.2.2.2.2.2.2.2.2.2.2.2.2.2.2.2.2.2.2.2.2.2.2.1, gg37.keep hH29.1.2.2.2.2.2.2.2.2.2.2.2.2.2.2.2.2.2.2.2.2.2.2.2.2.2.2.2.2.2.2.2.2.2.2.2.2.2.2.2.2.2⟩, hH29.2.trans gg37⟩ (fun hH36 => ?_)
  clear hK K
  (try simp only [Act.put, List.setIfInBounds_toArray, List.set_cons_zero, List.set_cons_succ])
  have d8_39 := d8_32.gr gg37
  clear d8_32
  have d9_40 := d9_33.gr gg37
  clear d9_33
  have d22_41 := d22_31.gr gg37
  clear d22_31
  have gq42 := gq34.trans gg37
  clear gq34
  refine wpAnyH_ready (rs := [24]) (by kernel_rfl) (by simp) ?_
  refine AllReadyH.cons (o := _) rfl (fun K hK => ?_) AllReadyH.nil
  go_simp
  with_reducible refine (I4.out _ _ _ _ _ gq42 d22_41 d23_38).mono ?_
  rintro r wc43 ⟨rfl, gg45⟩
  refine hK.out _ _ ⟨⟨gg45.keep hH36.1.1, gg45.keep hH36.1.2.1, gg45.keep hH36.1.2.2.1, gg45.keep hH36.1.2.2.2.1, gg45.keep hH36.1.2.2.2.2.1, gg45.keep hH36.1.2.2.2.2.2.1, gg45.keep hH36.1.2.2.2.2.2.2.1, gg45.keep hH36.1.2.2.2.2.2.2.2.1, gg45.keep hH36.1.2.2.2.2.2.2.2.2.1, gg45.keep hH36.1.2.2.2.2.2.2.2.2.2.1, gg45.keep hH36.1.2.2.2.2.2.2.2.2.2.2.1, gg45.keep hH36.1.2.2.2.2.2.2.2.2.2.2.2.1, gg45.keep hH36.1.2.2.2.2.2.2.2.2.2.2.2.2.1, gg45.keep hH36.1.2.2.2.2.2.2.2.2.2.2.2.2.2.1, gg45.keep hH36.1.2.2.2.2.2.2.2.2.2.2.2.2.2.2.1, gg45.keep hH36.1.2.2.2.2.2.2.2.2.2.2.2.2.2.2.2.1, gg45.keep hH36.1.2.2.2.2.2.2.2.2.2.2.2.2.2.2.2.2.1, gg45.keep hH36.1.2.2.2.2.2.2.2.2.2.2.2.2.2.2.2.2.2.1, gg45.keep hH36.1.2.2.2.2.2.2.2.2.2.2.2.2.2.2.2.2.2.2.1, gg45.keep hH36.1.2.2.2.2.2.2.2.2.2.2.2.2.2.2.2.2.2.2.2.1, gg45.keep hH36.1.2.2.2.2.2.2.2.2.2.2.2.2.2.2.2.2.2.2.2.2.1, gg45.keep hH36.1.2.2.2.2.2.2.2.2.2.2.2.2.2.2.2.2.2.2.2.2.2.1, gg45.keep hH36.1.2.2.2.2.2.2.2.2.2.2.2.2.2.2.2.2.2.2.2.2.2.2.1, gg45.keep hH36.1.2.2.2.2.2.2.2.2.2.2.2.2.2.2.2.2.2.2.2.2.2.2.2.1, gg45.keep hH36.1.2.2.2.2.2.2.2.2.2.2.2.2.2.2.2.2.2.2.2.2.2.2.2.2.1, gg45.keep hH36.1.2.2.2.2.2.2.2.2.2.2.2.2.2.2.2.2.2.2.2.2.2.2.2.2.2.1, gg45.keep hH36.1.2.2.2.2.2.2.2.2.2.2.2.2.2.2.2.2.2.2.2.2.2.2.2.2.2.2.1, gg45.keep hH36.1.2.2.2.2.2.2.2.2.2.2.2.2.2.2.2.2.2.2.2.2.2.2.2.2.2.2.2.1, gg45.keep hH36.1.2.2.2.2.2.2.2.2.2.2.2.2.2.2.2.2.2.2.2.2.2.2.2.2.2.2.2.2.1, gg45.keep hH36.1.2.2.2.2.2.2.2.2.2.2.2.2.2.2.2.2.2.2.2.2.2.2.2.2.2.2.2.2.2.1, gg45.keep hH36.1.2.2.2.2.2.2.2.2.2.2.2.2.2.2.2.2.2.2.2.2.2.2.2.2.2.2.2.2.2.2.1, gg45.keep hH36.1.2.2.2.2.2.2.2.2.2.2.2.2.2.2.2.2.2.2.2.2.2.2.2.2.2.2.2.2.2.2.2.1, gg45.keep hH36.1.2.2.2.2.2.2.2.2.2.2.2.2.2.2.2.2.2.2.2.2.2.2.2.2.2.2.2.2.2.2.2.2.1, gg45.keep hH36.1.2.2.2.2.2.2.2.2.2.2.2.2.2.2.2.2.2.2.2.2.2.2.2.2.2.2.2.2.2.2.2.2.2.1, gg45.keep hH36.1.2.2.2.2.2.2.2.2.2.2.2.2.2.2.2.2.2.2.2.2.2.2.2.2.2.2.2.2.2.2.2.2.2.2.1, gg45.keep hH36.1.2.2.2.2.2.2.2.2.2.2.2.2.2.2.2.2.2.2.2.2.2.2.2.2.2.2.2.2.2.2.2.2.2.2.2.1, gg45.keep hH36.1.2.2.2.2.2.2.2.2.2.2.2.2.2.2.2.2.2.2.2.2.2.2.2.2.2.2.2.2.2.2.2.2.2.2.2.2.1, gg45.keep hH36.1.2.2.2.2.2.2.2.2.2.2.2.2.2.2.2.2.2.2.2.2.2.2.2.2.2.2.2.2.2.2.2.2.2.2.2.2.2.1, gg45.keep hH36.1.2.2.2.2.2.2.2.2.2.2.2.2.2.2.2.2.2.2.2.2.2.2.2.2.2.2.2.2.2.2.2.2.2.2.2.2.2.2.1, gg45.keep hH36.1.2.2.2.2.2.2.2.2.2.2.2.2.2.2.2.2.2.2.2.2.2.2.2.2.2.2.2.2.2.2.2.2.2.2.2.2.2.2.2.1, gg45.keep hH36.1.2.2.2.2.2.2.2.2.2.2.2.2.2.2.2.2.2.2.2.2.2.2.2.2.2.2.2.2.2.2.2.2.2.2.2.2.2.2.2.2.1, gg45.keep hH36.1.2.2.2.2.2.2.2.2.2.2.2.2.2.2.2.2.2.2.2.2.2.2.2.2.2.2.2.2.2.2.2.2.2.2.2.2.2.2.2.2.2⟩, hH36.2.trans gg45⟩ (fun hH44 => ?_)
  clear hK K
  (try simp only [Act.put, List.setIfInBounds_toArray, List.set_cons_zero, List.set_cons_succ])
  have d8_46 := d8_39.gr gg45
  clear d8_39
  have d9_47 := d9_40.gr gg45
  clear d9_40
  have d22_48 := d22_41.gr gg45
  clear d22_41
  have d23_49 := d23_38.gr gg45
  clear d23_38
  have gq50 := gq42.trans gg45
  clear gq42
  refine wpAnyH_take (i := 25) (oi := _) (v := ?_) rfl (by kernel_rfl) (by kernel_rfl) (by kernel_rfl) (fun _ _ _ h => h) (Or.inl ⟨by rfl, ?_⟩) (by with_reducible assumption) ?_
  rotate_left
  · intro w hSw
    (try dsimp only at hSw)
    first | (go_simp; done) | (go_simp; with_reducible rfl)
  (try simp only [Act.put, List.setIfInBounds_toArray, List.set_cons_zero, List.set_cons_succ])
  refine wpAnyH_take (i := 26) (oi := _) (v := ?_) rfl (by kernel_rfl) (by kernel_rfl) (by kernel_rfl) (fun _ _ _ h => h) (Or.inl ⟨by rfl, ?_⟩) (by with_reducible assumption) ?_
  rotate_left
  · intro w hSw
    (try dsimp only at hSw)
    first | (go_simp; done) | (go_simp; with_reducible rfl)
  (try simp only [Act.put, List.setIfInBounds_toArray, List.set_cons_zero, List.set_cons_succ])
  refine wpAnyH_take (i := 27) (oi := _) (v := ?_) rfl (by kernel_rfl) (by kernel_rfl) (by kernel_rfl) (fun _ _ _ h => h) (Or.inl ⟨by rfl, ?_⟩) (by with_reducible assumption) ?_
  rotate_left
  · intro w hSw
    (try dsimp only at hSw)
    first | (go_simp; done) | (go_simp; with_reducible rfl)
  (try simp only [Act.put, List.setIfInBounds_toArray, List.set_cons_zero, List.set_cons_succ])
  refine wpAnyH_take (i := 28) (oi := _) (v := ?_) rfl (by kernel_rfl) (by kernel_rfl) (by kernel_rfl) (fun _ _ _ h => h) (Or.inl ⟨by rfl, ?_⟩) (by with_reducible assumption) ?_
  rotate_left
  · intro w hSw
    (try dsimp only at hSw)
    first | (go_simp; done) | (go_simp; with_reducible rfl)
  (try simp only [Act.put, List.setIfInBounds_toArray, List.set_cons_zero, List.set_cons_succ])
  refine wpAnyH_take (i := 29) (oi := _) (v := ?_) rfl (by kernel_rfl) (by kernel_rfl) (by kernel_rfl) (fun _ _ _ h => h) (Or.inl ⟨by rfl, ?_⟩) (by with_reducible assumption) ?_
  rotate_left
  · intro w hSw
    (try dsimp only at hSw)
    first | (go_simp; done) | (go_simp; with_reducible rfl)
  (try simp only [Act.put, List.setIfInBounds_toArray, List.set_cons_zero, List.set_cons_succ])
  refine wpAnyH_take (i := 30) (oi := _) (v := ?_) rfl (by kernel_rfl) (by kernel_rfl) (by kernel_rfl) (fun _ _ _ h => h) (Or.inl ⟨by rfl, ?_⟩) (by with_reducible assumption) ?_
  rotate_left
  · intro w hSw
    (try dsimp only at hSw)
    first | (go_simp; done) | (go_simp; with_reducible rfl)
  (try simp only [Act.put, List.setIfInBounds_toArray, List.set_cons_zero, List.set_cons_succ])
  refine wpAnyH_ready (rs := [31]) (by kernel_rfl) (by simp) ?_
  refine AllReadyH.cons (o := _) rfl (fun K hK => ?_) AllReadyH.nil
  go_simp
  with_reducible refine (I5.out _ gq50).mono ?_
  rintro r wc51 ⟨rfl, gg53⟩
  refine hK.out _ _ ⟨⟨gg53.keep hH44.1.1, gg53.keep hH44.1.2.1, gg53.keep hH44.1.2.2.1, gg53.keep hH44.1.2.2.2.1, gg53.keep hH44.1.2.2.2.2.1, gg53.keep hH44.1.2.2.2.2.2.1, gg53.keep hH44.1.2.2.2.2.2.2.1, gg53.keep hH44.1.2.2.2.2.2.2.2.1, gg53.keep hH44.1.2.2.2.2.2.2.2.2.1, gg53.keep hH44.1.2.2.2.2.2.2.2.2.2.1, gg53.keep hH44.1.2.2.2.2.2.2.2.2.2.2.1, gg53.keep hH44.1.2.2.2.2.2.2.2.2.2.2.2.1, gg53.keep hH44.1.2.2.2.2.2.2.2.2.2.2.2.2.1, gg53.keep hH44.1.2.2.2.2.2.2.2.2.2.2.2.2.2.1, gg53.keep hH44.1.2.2.2.2.2.2.2.2.2.2.2.2.2.2.1, gg53.keep hH44.1.2.2.2.2.2.2.2.2.2.2.2.2.2.2.2.1, gg53.keep hH44.1.2.2.2.2.2.2.2.2.2.2.2.2.2.2.2.2.1, gg53.keep hH44.1.2.2.2.2.2.2.2.2.2.2.2.2.2.2.2.2.2.1, gg53.keep hH44.1.2.2.2.2.2.2.2.2.2.2.2.2.2.2.2.2.2.2.1, gg53.keep hH44.1.2.2.2.2.2.2.2.2.2.2.2.2.2.2.2.2.2.2.2.1, gg53.keep hH44.1.2.2.2.2.2.2.2.2.2.2.2.2.2.2.2.2.2.2.2.2.1, gg53.keep hH44.1.2.2.2.2.2.2.2.2.2.2.2.2.2.2.2.2.2.2.2.2.2.1, gg53.keep hH44.1.2.2.2.2.2.2.2.2.2.2.2.2.2.2.2.2.2.2.2.2.2.2.1, gg53.keep hH44.1.2.2.2.2.2.2.2.2.2.2.2.2.2.2.2.2.2.2.2.2.2.2.2.1, gg53.keep hH44.1.2.2.2.2.2.2.2.2.2.2.2.2.2.2.2.2.2.2.2.2.2.2.2.2.1, gg53.keep hH44.1.2.2.2.2.2.2.2.2.2.2.2.2.2.2.2.2.2.2.2.2.2.2.2.2.2.1, gg53.keep hH44.1.2.2.2.2.2.2.2.2.2.2.2.2.2.2.2.2.2.2.2.2.2.2.2.2.2.2.1, gg53.keep hH44.1.2.2.2.2.2.2.2.2.2.2.2.2.2.2.2.2.2.2.2.2.2.2.2.2.2.2.2.1, gg53.keep hH44.1.2.2.2.2.2.2.2.2.2.2.2.2.2.2.2.2.2.2.2.2.2.2.2.2.2.2.2.2.1, gg53.keep hH44.1.2.2.2.2.2.2.2.2.2.2.2.2.2.2.2.2.2.2.2.2.2.2.2.2.2.2.2.2.2.1, gg53.keep hH44.1.2.2.2.2.2.2.2.2.2.2.2.2.2.2.2.2.2.2.2.2.2.2.2.2.2.2.2.2.2.2.1, gg53.keep hH44.1.2.2.2.2.2.2.2.2.2.2.2.2.2.2.2.2.2.2.2.2.2.2.2.2.2.2.2.2.2.2.2.1, gg53.keep hH44.1.2.2.2.2.2.2.2.2.2.2.2.2.2.2.2.2.2.2.2.2.2.2.2.2.2.2.2.2.2.2.2.2.1, gg53.keep hH44.1.2.2.2.2.2.2.2.2.2.2.2.2.2.2.2.2.2.2.2.2.2.2.2.2.2.2.2.2.2.2.2.2.2.1, gg53.keep hH44.1.2.2.2.2.2.2.2.2.2.2.2.2.2.2.2.2.2.2.2.2.2.2.2.2.2.2.2.2.2.2.2.2.2.2.1, gg53.keep hH44.1.2.2.2.2.2.2.2.2.2.2.2.2.2.2.2.2.2.2.2.2.2.2.2.2.2.2.2.2.2.2.2.2.2.2.2.1, gg53.keep hH44.1.2.2.2.2.2.2.2.2.2.2.2.2.2.2.2.2.2.2.2.2.2.2.2.2.2.2.2.2.2.2.2.2.2.2.2.2.1, gg53.keep hH44.1.2.2.2.2.2.2.2.2.2.2.2.2.2.2.2.2.2.2.2.2.2.2.2.2.2.2.2.2.2.2.2.2.2.2.2.2.2.1, gg53.keep hH44.1.2.2.2.2.2.2.2.2.2.2.2.2.2.2.2.2.2.2.2.2.2.2.2.2.2.2.2.2.2.2.2.2.2.2.2.2.2.2.1, gg53.keep hH44.1.2.2.2.2.2.2.2.2.2.2.2.2.2.2.2.2.2.2.2.2.2.2.2.2.2.2.2.2.2.2.2.2.2.2.2.2.2.2.2.1, gg53.keep hH44.1.2.2.2.2.2.2.2.2.2.2.2.2.2.2.2.2.2.2.2.2.2.2.2.2.2.2.2.2.2.2.2.2.2.2.2.2.2.2.2.2.1, gg53.keep hH44.1.2.2.2.2.2.2.2.2.2.2.2.2.2.2.2.2.2.2.2.2.2.2.2.2.2.2.2.2.2.2.2.2.2.2.2.2.2.2.2.2.2⟩, hH44.2.trans gg53⟩ (fun hH52 => ?_)
  clear hK K
  (try simp only [Act.put, List.setIfInBounds_toArray, List.set_cons_zero, List.set_cons_succ])
  have d8_54 := d8_46.gr gg53
  clear d8_46
  have d9_55 := d9_47.gr gg53
  clear d9_47
  have d22_56 := d22_48.gr gg53
  clear d22_48
  have d23_57 := d23_49.gr gg53
  clear d23_49
  have gq58 := gq50.trans gg53
  clear gq50
  refine wpAnyH_take (i := 32) (oi := _) (v := ?_) rfl (by kernel_rfl) (by kernel_rfl) (by kernel_rfl) (fun _ _ _ h => h) (Or.inl ⟨by rfl, ?_⟩) (by with_reducible assumption) ?_
  rotate_left
  · intro w hSw
    (try dsimp only at hSw)
    first | (go_simp; done) | (go_simp; with_reducible rfl)
  (try simp only [Act.put, List.setIfInBounds_toArray, List.set_cons_zero, List.set_cons_succ])
  refine wpAnyH_take (i := 33) (oi := _) (v := ?_) rfl (by kernel_rfl) (by kernel_rfl) (by kernel_rfl) (fun _ _ _ h => h) (Or.inl ⟨by rfl, ?_⟩) (by with_reducible assumption) ?_
  rotate_left
  · intro w hSw
    (try dsimp only at hSw)
    first | (go_simp; done) | (go_simp; with_reducible rfl)
  (try simp only [Act.put, List.setIfInBounds_toArray, List.set_cons_zero, List.set_cons_succ])
  refine wpAnyH_take (i := 34) (oi := _) (v := ?_) rfl (by kernel_rfl) (by kernel_rfl) (by kernel_rfl) (fun _ _ _ h => h) (Or.inl ⟨by rfl, ?_⟩) (by with_reducible assumption) ?_
  rotate_left
  · intro w hSw
    (try dsimp only at hSw)
    first | (go_simp; done) | (go_simp; with_reducible rfl)
  (try simp only [Act.put, List.setIfInBounds_toArray, List.set_cons_zero, List.set_cons_succ])
  refine wpAnyH_take (i := 35) (oi := _) (v := ?_) rfl (by kernel_rfl) (by kernel_rfl) (by kernel_rfl) (fun _ _ _ h => h) (Or.inl ⟨by rfl, ?_⟩) (by with_reducible assumption) ?_
  rotate_left
  · intro w hSw
    (try dsimp only at hSw)
    first | (go_simp; done) | (go_simp; with_reducible rfl)
  (try simp only [Act.put, List.setIfInBounds_toArray, List.set_cons_zero, List.set_cons_succ])
  refine wpAnyH_take (i := 36) (oi := _) (v := ?_) rfl (by kernel_rfl) (by kernel_rfl) (by kernel_rfl) (fun _ _ _ h => h) (Or.inl ⟨by rfl, ?_⟩) (by with_reducible assumption) ?_
  rotate_left
  · intro w hSw
    (try dsimp only at hSw)
    first | (go_simp; done) | (go_simp; with_reducible rfl)
  (try simp only [Act.put, List.setIfInBounds_toArray, List.set_cons_zero, List.set_cons_succ])
  refine wpAnyH_take (i := 37) (oi := _) (v := ?_) rfl (by kernel_rfl) (by kernel_rfl) (by kernel_rfl) (fun _ _ _ h => h) (Or.inl ⟨by rfl, ?_⟩) (by with_reducible assumption) ?_
  rotate_left
  · intro w hSw
    (try dsimp only at hSw)
    first | (go_simp; done) | (go_simp; with_reducible rfl)
  (try simp only [Act.put, List.setIfInBounds_toArray, List.set_cons_zero, List.set_cons_succ])
  refine wpAnyH_ready (rs := [38]) (by kernel_rfl) (by simp) ?_
  refine AllReadyH.cons (o := _) rfl (fun K hK => ?_) AllReadyH.nil
  go_simp
  with_reducible refine (I6.out _ gq58).mono ?_
  rintro r wc59 ⟨rfl, gg61⟩
  refine hK.out _ _ ⟨⟨gg61.keep hH52.1.1, gg61.keep hH52.1.2.1, gg61.keep hH52.1.2.2.1, gg61.keep hH52.1.2.2.2.1, gg61.keep hH52.1.2.2.2.2.1, gg61.keep hH52.1.2.2.2.2.2.1, gg61.keep hH52.1.2.2.2.2.2.2.1, gg61.keep hH52.1.2.2.2.2.2.2.2.1, gg61.keep hH52.1.2.2.2.2.2.2.2.2.1, gg61.keep hH52.1.2.2.2.2.2.2.2.2.2.1, gg61.keep hH52.1.2.2.2.2.2.2.2.2.2.2.1, gg61.keep hH52.1.2.2.2.2.2.2.2.2.2.2.2.1, gg61.keep hH52.1.2.2.2.2.2.2.2.2.2.2.2.2.1, gg61.keep hH52.1.2.2.2.2.2.2.2.2.2.2.2.2.2.1, gg61.keep hH52.1.2.2.2.2.2.2.2.2.2.2.2.2.2.2.1, gg61.keep hH52.1.2.2.2.2.2.2.2.2.2.2.2.2.2.2.2.1, gg61.keep hH52.1.2.2.2.2.2.2.2.2.2.2.2.2.2.2.2.2.1, gg61.keep hH52.1.2.2.2.2.2.2.2.2.2.2.2.2.2.2.2.2.2.1, gg61.keep hH52.1.2.2.2.2.2.2.2.2.2.2.2.2.2.2.2.2.2.2.1, gg61.keep hH52.1.2.2.2.2.2.2.2.2.2.2.2.2.2.2.2.2.2.2.2.1, gg61.keep hH52.1.2.2.2.2.2.2.2.2.2.2.2.2.2.2.2.2.2.2.2.2.1, gg61.keep hH52.1.2.2.2.2.2.2.2.2.2.2.2.2.2.2.2.2.2.2.2.2.2.1, gg61.keep hH52.1.2.2.2.2.2.2.2.2.2.2.2.2.2.2.2.2.2.2.2.2.2.2.1, gg61.keep hH52.1.2.2.2.2.2.2.2.2.2.2.2.2.2.2.2.2.2.2.2.2.2.2.2.1, gg61.keep hH52.1.2.2.2.2.2.2.2.2.2.2.2.2.2.2.2.2.2.2.2.2.2.2.2.2.1, gg61.keep hH52.1.2.2.2.2.2.2.2.2.2.2.2.2.2.2.2.2.2.2.2.2.2.2.2.2.2.1, gg61.keep hH52.1.2.2.2.2.2.2.2.2.2.2.2.2.2.2.2.2.2.2.2.2.2.2.2.2.2.2.1, gg61.keep hH52.1.2.2.2.2.2.2.2.2.2.2.2.2.2.2.2.2.2.2.2.2.2.2.2.2.2.2.2.1, gg61.keep hH52.1.2.2.2.2.2.2.2.2.2.2.2.2.2.2.2.2.2.2.2.2.2.2.2.2.2.2.2.2.1, gg61.keep hH52.1.2.2.2.2.2.2.2.2.2.2.2.2.2.2.2.2.2.2.2.2.2.2.2.2.2.2.2.2.2.1, gg61.keep hH52.1.2.2.2.2.2.2.2.2.2.2.2.2.2.2.2.2.2.2.2.2.2.2.2.2.2.2.2.2.2.2.1, gg61.keep hH52.1.2.2.2.2.2.2.2.2.2.2.2.2.2.2.2.2.2.2.2.2.2.2.2.2.2.2.2.2.2.2.2.1, gg61.keep hH52.1.2.2.2.2.2.2.2.2.2.2.2.2.2.2.2.2.2.2.2.2.2.2.2.2.2.2.2.2.2.2.2.2.1, gg61.keep hH52.1.2.2.2.2.2.2.2.2.2.2.2.2.2.2.2.2.2.2.2.2.2.2.2.2.2.2.2.2.2.2.2.2.2.1, gg61.keep hH52.1.2.2.2.2.2.2.2.2.2.2.2.2.2.2.2.2.2.2.2.2.2.2.2.2.2.2.2.2.2.2.2.2.2.2.1, gg61.keep hH52.1.2.2.2.2.2.2.2.2.2.2.2.2.2.2.2.2.2.2.2.2.2.2.2.2.2.2.2.2.2.2.2.2.2.2.2.1, gg61.keep hH52.1.2.2.2.2.2.2.2.2.2.2.2.2.2.2.2.2.2.2.2.2.2.2.2.2.2.2.2.2.2.2.2.2.2.2.2.2.1, gg61.keep hH52.1.2.2.2.2.2.2.2.2.2.2.2.2.2.2.2.2.2.2.2.2.2.2.2.2.2.2.2.2.2.2.2.2.2.2.2.2.2.1, gg61.keep hH52.1.2.2.2.2.2.2.2.2.2.2.2.2.2.2.2.2.2.2.2.2.2.2.2.2.2.2.2.2.2.2.2.2.2.2.2.2.2.2.1, gg61.keep hH52.1.2.2.2.2.2.2.2.2.2.2.2.2.2.2.2.2.2.2.2.2.2.2.2.2.2.2.2.2.2.2.2.2.2.2.2.2.2.2.2.1, gg61.keep hH52.1.2.2.2.2.2.2.2.2.2.2.2.2.2.2.2.2.2.2.2.2.2.2.2.2.2.2.2.2.2.2.2.2.2.2.2.2.2.2.2.2.1, gg61.keep hH52.1.2.2.2.2.2.2.2.2.2.2.2.2.2.2.2.2.2.2.2.2.2.2.2.2.2.2.2.2.2.2.2.2.2.2.2.2.2.2.2.2.2⟩, hH52.2.trans gg61⟩ (fun hH60 => ?_)
  clear hK K
  (try simp only [Act.put, List.setIfInBounds_toArray, List.set_cons_zero, List.set_cons_succ])
  have d8_62 := d8_54.gr gg61
  clear d8_54
  have d9_63 := d9_55.gr gg61
  clear d9_55
  have d22_64 := d22_56.gr gg61
  clear d22_56
  have d23_65 := d23_57.gr gg61
  clear d23_57
  have gq66 := gq58.trans gg61
  clear gq58
  refine wpAnyH_take (i := 39) (oi := _) (v := ?_) rfl (by kernel_rfl) (by kernel_rfl) (by kernel_rfl) (fun _ _ _ h => h) (Or.inl ⟨by rfl, ?_⟩) (by with_reducible assumption) ?_
  rotate_left
  · intro w hSw
    (try dsimp only at hSw)
    first | (go_simp; done) | (go_simp; with_reducible rfl)
  (try simp only [Act.put, List.setIfInBounds_toArray, List.set_cons_zero, List.set_cons_succ])
  refine wpAnyH_take (i := 40) (oi := _) (v := ?_) rfl (by kernel_rfl) (by kernel_rfl) (by kernel_rfl) (fun _ _ _ h => h) (Or.inl ⟨by rfl, ?_⟩) (by with_reducible assumption) ?_
  rotate_left
  · intro w hSw
    (try dsimp only at hSw)
    first | (go_simp; done) | (go_simp; with_reducible rfl)
  (try simp only [Act.put, List.setIfInBounds_toArray, List.set_cons_zero, List.set_cons_succ])
  refine wpAnyH_done (by kernel_rfl) ?_ _
  exact ⟨_, _, _, _, _, _, _, _, _, _, _, _, _, _, _, _, _, _, _, _, _, _, _, _, _, _, _, _, _, _, _, _, _, _, _, _, _, _, _, _, rfl, hH60.2⟩
end Go.Proofs.YthilajhciifhaaaGreatDoor
