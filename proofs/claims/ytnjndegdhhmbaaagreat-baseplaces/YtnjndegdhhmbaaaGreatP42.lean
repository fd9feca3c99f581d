import Derived.Test.YtnjndegdhhmbaaaGreatP41
namespace Go.Proofs.YtnjndegdhhmbaaaGreat
open Go.RowKit
set_option linter.unusedVariables false
set_option linter.unusedSimpArgs false

theorem put3_blockP {w : World} {b : Nat} {c0 c1 c2 : Value} {T : TypeId} {fr : Nat × Nat} (h : w.heap[b]? = some (.cells #[c0, c1, c2] T fr)) (v0 v1 v2 : Value) : (((w.setCell ⟨b, 0, none⟩ v0).setCell ⟨b, 1, none⟩ v1).setCell ⟨b, 2, none⟩ v2).heap[b]? = some (.cells #[v0, v1, v2] T fr) := by
  rw [put1_at (put1_at (put1_at h v0) v1) v2]
  rfl
theorem Nz.setP {w : World} {s : Bool} {ad : Option Addr} {n cap B : Nat} {e : Int} {X : Int} {M : Nat} {u0 : Bool} {u1 : Option Addr} {u2 u3 : Nat} {u4 : Int} {T : TypeId} (h : Nz w s ad n cap e X M) (hb : w.heap[B]? = some (.cells #[.bool u0, .slice u1 u2 u3, .int .i64 u4] T)) (v0 v1 v2 : Value) : Nz (((w.setCell ⟨B, 0, none⟩ v0).setCell ⟨B, 1, none⟩ v1).setCell ⟨B, 2, none⟩ v2) s ad n cap e X M := by
  obtain ⟨m, h1, h2⟩ := h
  exact ⟨m, h1.set3 (h1.apart hb) _ _ _, h2⟩
theorem bx3P {w : World} {B : Nat} {v0 v1 v2 : Value} {T : TypeId} (h : w.heap[B]? = some (.cells #[v0, v1, v2] T)) : w.cell? ⟨B, 0, none⟩ = some v0 ∧ w.cell? ⟨B, 1, none⟩ = some v1 ∧ w.cell? ⟨B, 2, none⟩ = some v2 := ⟨by simp [World.cell?, h], by simp [World.cell?, h], by simp [World.cell?, h]⟩
theorem out3P {w : World} {B : Nat} {v0 v1 v2 : Value} {T : TypeId} (h : w.heap[B]? = some (.cells #[v0, v1, v2] T)) : w.frozen? ⟨B, 0, none⟩ = false ∧ w.frozen? ⟨B, 1, none⟩ = false ∧ w.frozen? ⟨B, 2, none⟩ = false := ⟨by simp [World.frozen?, h], by simp [World.frozen?, h], by simp [World.frozen?, h]⟩
def RBp14 (t0 t1 t2 t3 t4 t5 t6 t7 t8 t10 t11 t12 t14 t15 t16 t17 t18 t19 t20 t21 t22 t23 t24 t25 t26 t27 t28 t29 t30 t31 t32 t33 t34 t35 t36 t37 t38 t39 t40 t41 t42 t43 t44 t45 t46 t47 t48 t49 t50 t51 t52 t53 t54 t55 t56 t57 t58 t59 t60 t61 t62 t63 t64 t65 t66 t67 t68 t69 t70 t71 t72 t73 t74 t75 t76 t77 t78 t79 t80 t81 t82 t83 t84 t85 t86 t87 t88 t89 t90 t91 t92 t93 t94 t95 t96 t97 t98 t99 t100 t101 t102 t103 t104 t105 t106 t107 t108 t109 t110 t111 t112 t113 t114 t115 t116 t117 t118 t119 t120 t121 t122 : Value) (pI nI cI : Nat) (sI : Bool) (aI : Option Addr) (d : Nat) (V : Int) (M : Nat) (wq : World) : Exit → Act → World → Prop
  | .normal, a, w => ∃ u97 u98 u99 u100 u101 u102 bS a9 n9 c9, a = { tmps := #[t0, t1, t2, t3, t4, t5, t6, t7, t8, .pointer (some ⟨pI, 0, none⟩), t10, t11, t12, .int .i64 (d : Int), t14, t15, .pointer (some ⟨bS, 0, none⟩), t17, t18, t19, t20, t21, t22, t23, t24, t25, t26, t27, t28, t29, t30, t31, t32, t33, t34, t35, t36, t37, t38, t39, t40, t41, t42, t43, t44, t45, t46, t47, t48, t49, t50, t51, t52, t53, t54, t55, t56, t57, t58, t59, t60, t61, t62, t63, t64, t65, t66, t67, t68, t69, t70, t71, t72, t73, t74, t75, t76, t77, t78, t79, t80, t81, t82, t83, t84, t85, t86, t87, t88, t89, t90, t91, t92, t93, t94, t95, t96, u97, u98, u99, u100, u101, u102, t103, t104, t105, t106, t107, t108, t109, t110, t111, t112, t113, t114, t115, t116, t117, t118, t119, t120, t121, t122], defers := [] } ∧ w.heap[bS]? = some (.cells #[.bool sI, .slice a9 n9 c9, .int .i64 0] 36) ∧ Nz w sI a9 n9 c9 0 V M ∧ wq.heap.size ≤ bS ∧ Gr wq w
  | _, _, _ => False
set_option maxRecDepth 100000 in
set_option maxHeartbeats 20000000 in
theorem regBp14 (t0 t1 t2 t3 t4 t5 t6 t7 t8 t10 t11 t12 t14 t15 t16 t17 t18 t19 t20 t21 t22 t23 t24 t25 t26 t27 t28 t29 t30 t31 t32 t33 t34 t35 t36 t37 t38 t39 t40 t41 t42 t43 t44 t45 t46 t47 t48 t49 t50 t51 t52 t53 t54 t55 t56 t57 t58 t59 t60 t61 t62 t63 t64 t65 t66 t67 t68 t69 t70 t71 t72 t73 t74 t75 t76 t77 t78 t79 t80 t81 t82 t83 t84 t85 t86 t87 t88 t89 t90 t91 t92 t93 t94 t95 t96 t97 t98 t99 t100 t101 t102 t103 t104 t105 t106 t107 t108 t109 t110 t111 t112 t113 t114 t115 t116 t117 t118 t119 t120 t121 t122 : Value) (pI nI cI : Nat) (sI : Bool) (aI : Option Addr) (d : Nat) (V : Int) (M : Nat) (wq : World)
    (X1 : Hid (∀ w1, Gr wq w1 → Calls Tryz.prog 8 #[.int .u64 (d : Int)] w1 fun r w' => ∃ a n c, r = .returned (.slice a n c) ∧ Nz w' sI a n c 0 V M ∧ Gr w1 w')) (hwr : IntKind.u64.wrap (d : Int) = (d : Int)) (hpI : pI < wq.heap.size) (hcs : (wq.cell? ⟨pI, 0, none⟩ = some (.bool sI) ∧ wq.cell? ⟨pI, 1, none⟩ = some (.slice aI nI cI))) :
    Code.wp Tryz.prog (Code.region 14 #[{ dst := some 97, op := Op.fieldAddr 26 (Operand.tmp 9) 0, type := 0, pos := "outright.go:104", after := #[], guard := none }, { dst := some 98, op := Op.load 4 (Operand.tmp 97), type := 4, pos := "outright.go:104", after := #[{ on := 0, ground := Ground.data }], guard := none }, { dst := some 99, op := Op.move (Operand.tmp 13), type := 3, pos := "outright.go:104", after := #[], guard := none }, { dst := some 100, op := Op.convert 3 34 (Operand.tmp 99), type := 34, pos := "outright.go:104", after := #[{ on := 2, ground := Ground.data }], guard := none }, { dst := some 101, op := Op.call { callee := Callee.value (Operand.func 8), args := #[Operand.tmp 100], argTypes := #[34] }, type := 24, pos := "outright.go:104", after := #[{ on := 3, ground := Ground.data }], guard := none }, { dst := some 102, op := Op.build 36 #[(0, Operand.tmp 98), (1, Operand.tmp 101)], type := 36, pos := "outright.go:104", after := #[{ on := 1, ground := Ground.data }, { on := 4, ground := Ground.data }], guard := none }, { dst := some 16, op := Op.alloc 36, type := 0, pos := "outright.go:104", after := #[], guard := none }, { dst := none, op := Op.store 36 (Operand.tmp 16) (Operand.tmp 102), type := 0, pos := "outright.go:104", after := #[{ on := 6, ground := Ground.data }, { on := 5, ground := Ground.data }, { on := 4, ground := Ground.chain }, { on := 0, ground := Ground.phase }, { on := 1, ground := Ground.phase }, { on := 2, ground := Ground.phase }, { on := 3, ground := Ground.phase }, { on := 4, ground := Ground.phase }, { on := 5, ground := Ground.phase }, { on := 6, ground := Ground.phase }], guard := none }] true) (RBp14 t0 t1 t2 t3 t4 t5 t6 t7 t8 t10 t11 t12 t14 t15 t16 t17 t18 t19 t20 t21 t22 t23 t24 t25 t26 t27 t28 t29 t30 t31 t32 t33 t34 t35 t36 t37 t38 t39 t40 t41 t42 t43 t44 t45 t46 t47 t48 t49 t50 t51 t52 t53 t54 t55 t56 t57 t58 t59 t60 t61 t62 t63 t64 t65 t66 t67 t68 t69 t70 t71 t72 t73 t74 t75 t76 t77 t78 t79 t80 t81 t82 t83 t84 t85 t86 t87 t88 t89 t90 t91 t92 t93 t94 t95 t96 t97 t98 t99 t100 t101 t102 t103 t104 t105 t106 t107 t108 t109 t110 t111 t112 t113 t114 t115 t116 t117 t118 t119 t120 t121 t122 pI nI cI sI aI d V M wq) { tmps := #[t0, t1, t2, t3, t4, t5, t6, t7, t8, .pointer (some ⟨pI, 0, none⟩), t10, t11, t12, .int .i64 (d : Int), t14, t15, t16, t17, t18, t19, t20, t21, t22, t23, t24, t25, t26, t27, t28, t29, t30, t31, t32, t33, t34, t35, t36, t37, t38, t39, t40, t41, t42, t43, t44, t45, t46, t47, t48, t49, t50, t51, t52, t53, t54, t55, t56, t57, t58, t59, t60, t61, t62, t63, t64, t65, t66, t67, t68, t69, t70, t71, t72, t73, t74, t75, t76, t77, t78, t79, t80, t81, t82, t83, t84, t85, t86, t87, t88, t89, t90, t91, t92, t93, t94, t95, t96, t97, t98, t99, t100, t101, t102, t103, t104, t105, t106, t107, t108, t109, t110, t111, t112, t113, t114, t115, t116, t117, t118, t119, t120, t121, t122], defers := [] } wq := by
  have hS0 : (wq.drew.cell? ⟨pI, 0, none⟩ = some (.bool sI) ∧ wq.drew.cell? ⟨pI, 1, none⟩ = some (.slice aI nI cI)) ∧ Gr wq wq.drew := ⟨hcs, (Gr.refl wq).drew⟩
  clear hcs
  refine wp_region_held_drew (S := fun w' => (w'.cell? ⟨pI, 0, none⟩ = some (.bool sI) ∧ w'.cell? ⟨pI, 1, none⟩ = some (.slice aI nI cI)) ∧ Gr wq w') (by kernel_rfl) hS0 (fun hHeld => ?_)
  clear hS0
  generalize wq.drew = wd at *
  refine wpAnyH_take (i := 0) (oi := ({ dst := some 97, op := Op.fieldAddr 26 (Operand.tmp 9) 0, type := 0, pos := "outright.go:104", after := #[], guard := none } : Oper)) (v := ?_) rfl (by kernel_rfl) (by kernel_rfl) (by kernel_rfl) (fun _ _ _ h => h) (Or.inl ⟨by rfl, ?_⟩) (by with_reducible assumption) ?_
  rotate_left
  · intro w hSw
    (try dsimp only at hSw)
    first | (go_simp; done) | (go_simp; with_reducible rfl)
  (try simp only [Act.put, List.setIfInBounds_toArray, List.set_cons_zero, List.set_cons_succ])
  refine wpAnyH_take (i := 1) (oi := ({ dst := some 98, op := Op.load 4 (Operand.tmp 97), type := 4, pos := "outright.go:104", after := #[{ on := 0, ground := Ground.data }], guard := none } : Oper)) (v := ?_) rfl (by kernel_rfl) (by kernel_rfl) (by kernel_rfl) (fun _ _ _ h => h) (Or.inl ⟨by rfl, ?_⟩) (by with_reducible assumption) ?_
  rotate_left
  · intro w hSw
    (try dsimp only at hSw)
    first | (go_simp; done) | (go_simp; with_reducible rfl)
  (try simp only [Act.put, List.setIfInBounds_toArray, List.set_cons_zero, List.set_cons_succ])
  refine wpAnyH_take (i := 2) (oi := ({ dst := some 99, op := Op.move (Operand.tmp 13), type := 3, pos := "outright.go:104", after := #[], guard := none } : Oper)) (v := ?_) rfl (by kernel_rfl) (by kernel_rfl) (by kernel_rfl) (fun _ _ _ h => h) (Or.inl ⟨by rfl, ?_⟩) (by with_reducible assumption) ?_
  rotate_left
  · intro w hSw
    (try dsimp only at hSw)
    first | (go_simp; done) | (go_simp; with_reducible rfl)
  (try simp only [Act.put, List.setIfInBounds_toArray, List.set_cons_zero, List.set_cons_succ])
  refine wpAnyH_take (i := 3) (oi := ({ dst := some 100, op := Op.convert 3 34 (Operand.tmp 99), type := 34, pos := "outright.go:104", after := #[{ on := 2, ground := Ground.data }], guard := none } : Oper)) (v := ?_) rfl (by kernel_rfl) (by kernel_rfl) (by kernel_rfl) (fun _ _ _ h => h) (Or.inl ⟨by rfl, ?_⟩) (by with_reducible assumption) ?_
  rotate_left
  · intro w hSw
    (try dsimp only at hSw)
    first | (go_simp; done) | (go_simp; with_reducible rfl)
  (try simp only [Act.put, List.setIfInBounds_toArray, List.set_cons_zero, List.set_cons_succ])
  refine wpAnyH_ready (rs := [4, 6]) (by kernel_rfl) (by simp) ?_
  refine AllReadyH.cons (o := ({ dst := some 101, op := Op.call { callee := Callee.value (Operand.func 8), args := #[Operand.tmp 100], argTypes := #[34] }, type := 24, pos := "outright.go:104", after := #[{ on := 3, ground := Ground.data }], guard := none } : Oper)) rfl (fun K hK => ?_) ?_
  · go_simp
    with_reducible refine (X1.out _ hHeld.2).mono ?_
    rintro r wc1 ⟨a1, n1, c1, rfl, N1_4, gg3⟩
    refine hK.out _ _ ⟨⟨keepG gg3 hHeld.1.1, keepG gg3 hHeld.1.2⟩, hHeld.2.trans gg3⟩ (fun hH2 => ?_)
    have hzwc1 := hHeld.2.size
    clear hK K
    (try simp only [Act.put, List.setIfInBounds_toArray, List.set_cons_zero, List.set_cons_succ])
    refine wpAnyH_take (i := 5) (oi := ({ dst := some 102, op := Op.build 36 #[(0, Operand.tmp 98), (1, Operand.tmp 101)], type := 36, pos := "outright.go:104", after := #[{ on := 1, ground := Ground.data }, { on := 4, ground := Ground.data }], guard := none } : Oper)) (v := ?_) rfl (by kernel_rfl) (by kernel_rfl) (by kernel_rfl) (fun _ _ _ h => h) (Or.inl ⟨by rfl, ?_⟩) (by with_reducible assumption) ?_
    rotate_left
    · intro w hSw
      (try dsimp only at hSw)
      first | (go_simp; done) | (go_simp; with_reducible rfl)
    (try simp only [Act.put, List.setIfInBounds_toArray, List.set_cons_zero, List.set_cons_succ])
    refine wpAnyH_ready (rs := [6]) (by kernel_rfl) (by simp) ?_
    refine AllReadyH.cons (o := ({ dst := some 16, op := Op.alloc 36, type := 0, pos := "outright.go:104", after := #[], guard := none } : Oper)) rfl (fun K hK => ?_) AllReadyH.nil
    go_simp
    refine hK.out _ _ ⟨⟨keepG ((Gr.refl wc1).alloc (.cells #[.bool false, .slice none 0 0, .int .i64 0] 36)) hH2.1.1, keepG ((Gr.refl wc1).alloc (.cells #[.bool false, .slice none 0 0, .int .i64 0] 36)) hH2.1.2⟩, hH2.2.trans ((Gr.refl wc1).alloc (.cells #[.bool false, .slice none 0 0, .int .i64 0] 36))⟩ (fun hH6 => ?_)
    clear hK K
    (try simp only [Act.put, List.setIfInBounds_toArray, List.set_cons_zero, List.set_cons_succ])
    have bS_8 := blk1 wc1 (.cells #[.bool false, .slice none 0 0, .int .i64 0] 36)
    have gg7 := (Gr.refl wc1).alloc (.cells #[.bool false, .slice none 0 0, .int .i64 0] 36)
    have lS9 := hH2.2.size
    have N1_10 := N1_4.gr gg7
    clear N1_4
    generalize wc1.alloc (.cells #[.bool false, .slice none 0 0, .int .i64 0] 36) = wa5 at *
    refine wpAnyH_ready (rs := [7]) (by kernel_rfl) (by simp) ?_
    refine AllReadyH.cons (o := ({ dst := none, op := Op.store 36 (Operand.tmp 16) (Operand.tmp 102), type := 0, pos := "outright.go:104", after := #[{ on := 6, ground := Ground.data }, { on := 5, ground := Ground.data }, { on := 4, ground := Ground.chain }, { on := 0, ground := Ground.phase }, { on := 1, ground := Ground.phase }, { on := 2, ground := Ground.phase }, { on := 3, ground := Ground.phase }, { on := 4, ground := Ground.phase }, { on := 5, ground := Ground.phase }, { on := 6, ground := Ground.phase }], guard := none } : Oper)) rfl (fun K hK => ?_) AllReadyH.nil
    obtain ⟨t0', t1', t2'⟩ := bx3P bS_8
    obtain ⟨u0', u1', u2'⟩ := out3P bS_8
    go_simp
    refine hK.out _ _ ⟨⟨set3_far (Nat.ne_of_gt (Nat.lt_of_lt_of_le hpI lS9)) hH6.1.1, set3_far (Nat.ne_of_gt (Nat.lt_of_lt_of_le hpI lS9)) hH6.1.2⟩, (((hH6.2.setCell (p := ⟨_, 0, none⟩) lS9 _).setCell (p := ⟨_, 1, none⟩) lS9 _).setCell (p := ⟨_, 2, none⟩) lS9 _)⟩ (fun hS11 => ?_)
    clear hK K t0' t1' t2' u0' u1' u2'
    (try simp only [Act.put, List.setIfInBounds_toArray, List.set_cons_zero, List.set_cons_succ])
    refine wpAnyH_done (by kernel_rfl) ?_ _
    exact ⟨_, _, _, _, _, _, _, a1, n1, c1, rfl, put3_blockP bS_8 _ _ _, N1_10.setP bS_8 _ _ _, lS9, hS11.2⟩
  refine AllReadyH.cons (o := ({ dst := some 16, op := Op.alloc 36, type := 0, pos := "outright.go:104", after := #[], guard := none } : Oper)) rfl (fun K hK => ?_) AllReadyH.nil
  go_simp
  refine hK.out _ _ ⟨⟨keepG ((Gr.refl wd).alloc (.cells #[.bool false, .slice none 0 0, .int .i64 0] 36)) hHeld.1.1, keepG ((Gr.refl wd).alloc (.cells #[.bool false, .slice none 0 0, .int .i64 0] 36)) hHeld.1.2⟩, hHeld.2.trans ((Gr.refl wd).alloc (.cells #[.bool false, .slice none 0 0, .int .i64 0] 36))⟩ (fun hH13 => ?_)
  clear hK K
  (try simp only [Act.put, List.setIfInBounds_toArray, List.set_cons_zero, List.set_cons_succ])
  have bS_15 := blk1 wd (.cells #[.bool false, .slice none 0 0, .int .i64 0] 36)
  have gg14 := (Gr.refl wd).alloc (.cells #[.bool false, .slice none 0 0, .int .i64 0] 36)
  have lS16 := hHeld.2.size
  generalize wd.alloc (.cells #[.bool false, .slice none 0 0, .int .i64 0] 36) = wa12 at *
  refine wpAnyH_ready (rs := [4]) (by kernel_rfl) (by simp) ?_
  refine AllReadyH.cons (o := ({ dst := some 101, op := Op.call { callee := Callee.value (Operand.func 8), args := #[Operand.tmp 100], argTypes := #[34] }, type := 24, pos := "outright.go:104", after := #[{ on := 3, ground := Ground.data }], guard := none } : Oper)) rfl (fun K hK => ?_) AllReadyH.nil
  go_simp
  with_reducible refine (X1.out _ hH13.2).mono ?_
  rintro r wc17 ⟨a1, n1, c1, rfl, N1_20, gg19⟩
  refine hK.out _ _ ⟨⟨keepG gg19 hH13.1.1, keepG gg19 hH13.1.2⟩, hH13.2.trans gg19⟩ (fun hH18 => ?_)
  have hzwc17 := hH13.2.size
  clear hK K
  (try simp only [Act.put, List.setIfInBounds_toArray, List.set_cons_zero, List.set_cons_succ])
  have bS_21 := keepO gg19 bS_15
  clear bS_15
  refine wpAnyH_take (i := 5) (oi := ({ dst := some 102, op := Op.build 36 #[(0, Operand.tmp 98), (1, Operand.tmp 101)], type := 36, pos := "outright.go:104", after := #[{ on := 1, ground := Ground.data }, { on := 4, ground := Ground.data }], guard := none } : Oper)) (v := ?_) rfl (by kernel_rfl) (by kernel_rfl) (by kernel_rfl) (fun _ _ _ h => h) (Or.inl ⟨by rfl, ?_⟩) (by with_reducible assumption) ?_
  rotate_left
  · intro w hSw
    (try dsimp only at hSw)
    first | (go_simp; done) | (go_simp; with_reducible rfl)
  (try simp only [Act.put, List.setIfInBounds_toArray, List.set_cons_zero, List.set_cons_succ])
  refine wpAnyH_ready (rs := [7]) (by kernel_rfl) (by simp) ?_
  refine AllReadyH.cons (o := ({ dst := none, op := Op.store 36 (Operand.tmp 16) (Operand.tmp 102), type := 0, pos := "outright.go:104", after := #[{ on := 6, ground := Ground.data }, { on := 5, ground := Ground.data }, { on := 4, ground := Ground.chain }, { on := 0, ground := Ground.phase }, { on := 1, ground := Ground.phase }, { on := 2, ground := Ground.phase }, { on := 3, ground := Ground.phase }, { on := 4, ground := Ground.phase }, { on := 5, ground := Ground.phase }, { on := 6, ground := Ground.phase }], guard := none } : Oper)) rfl (fun K hK => ?_) AllReadyH.nil
  obtain ⟨t0', t1', t2'⟩ := bx3P bS_21
  obtain ⟨u0', u1', u2'⟩ := out3P bS_21
  go_simp
  refine hK.out _ _ ⟨⟨set3_far (Nat.ne_of_gt (Nat.lt_of_lt_of_le hpI lS16)) hH18.1.1, set3_far (Nat.ne_of_gt (Nat.lt_of_lt_of_le hpI lS16)) hH18.1.2⟩, (((hH18.2.setCell (p := ⟨_, 0, none⟩) lS16 _).setCell (p := ⟨_, 1, none⟩) lS16 _).setCell (p := ⟨_, 2, none⟩) lS16 _)⟩ (fun hS22 => ?_)
  clear hK K t0' t1' t2' u0' u1' u2'
  (try simp only [Act.put, List.setIfInBounds_toArray, List.set_cons_zero, List.set_cons_succ])
  refine wpAnyH_done (by kernel_rfl) ?_ _
  exact ⟨_, _, _, _, _, _, _, a1, n1, c1, rfl, put3_blockP bS_21 _ _ _, N1_20.setP bS_21 _ _ _, lS16, hS22.2⟩
def RBp15 (t0 t1 t3 t4 t5 t6 t7 t8 t10 t11 t12 t13 t14 t15 t17 t18 t19 t20 t21 t22 t23 t24 t25 t26 t27 t28 t29 t30 t31 t32 t33 t34 t35 t36 t37 t38 t39 t40 t41 t42 t43 t44 t45 t46 t47 t48 t49 t50 t51 t52 t53 t54 t55 t56 t57 t58 t59 t60 t61 t62 t63 t64 t65 t66 t67 t68 t69 t70 t71 t72 t73 t74 t75 t76 t77 t78 t79 t80 t81 t82 t83 t84 t85 t86 t87 t88 t89 t90 t91 t92 t93 t94 t95 t96 t97 t98 t99 t100 t101 t102 t103 t104 t105 t106 t107 t108 t109 t110 t111 t112 t113 t114 t115 t116 t117 t118 t119 t120 t121 t122 : Value) (pX nX cX pP nP cP : Nat) (sX sP : Bool) (aX aP : Option Addr) (eP : Int) (b V1 V2 V3 V : Int) (M1 M2 M3 M : Nat) (wq : World) : Exit → Act → World → Prop
  | .normal, a, w => ∃ u103 u104 u105 u106 u107 u108 u109 bS s a9 n9 c9 e, a = { tmps := #[t0, t1, .int .i64 b, t3, t4, t5, t6, t7, t8, .pointer (some ⟨pX, 0, none⟩), t10, t11, t12, t13, t14, t15, .pointer (some ⟨pP, 0, none⟩), .pointer (some ⟨bS, 0, none⟩), t18, t19, t20, t21, t22, t23, t24, t25, t26, t27, t28, t29, t30, t31, t32, t33, t34, t35, t36, t37, t38, t39, t40, t41, t42, t43, t44, t45, t46, t47, t48, t49, t50, t51, t52, t53, t54, t55, t56, t57, t58, t59, t60, t61, t62, t63, t64, t65, t66, t67, t68, t69, t70, t71, t72, t73, t74, t75, t76, t77, t78, t79, t80, t81, t82, t83, t84, t85, t86, t87, t88, t89, t90, t91, t92, t93, t94, t95, t96, t97, t98, t99, t100, t101, t102, u103, u104, u105, u106, u107, u108, u109, t110, t111, t112, t113, t114, t115, t116, t117, t118, t119, t120, t121, t122], defers := [] } ∧ w.heap[bS]? = some (.cells #[.bool s, .slice a9 n9 c9, .int .i64 e] 36) ∧ Nz w s a9 n9 c9 e V M ∧ wq.heap.size ≤ bS ∧ Gr wq w
  | _, _, _ => False
set_option maxRecDepth 100000 in
set_option maxHeartbeats 20000000 in
theorem regBp15 (t0 t1 t3 t4 t5 t6 t7 t8 t10 t11 t12 t13 t14 t15 t17 t18 t19 t20 t21 t22 t23 t24 t25 t26 t27 t28 t29 t30 t31 t32 t33 t34 t35 t36 t37 t38 t39 t40 t41 t42 t43 t44 t45 t46 t47 t48 t49 t50 t51 t52 t53 t54 t55 t56 t57 t58 t59 t60 t61 t62 t63 t64 t65 t66 t67 t68 t69 t70 t71 t72 t73 t74 t75 t76 t77 t78 t79 t80 t81 t82 t83 t84 t85 t86 t87 t88 t89 t90 t91 t92 t93 t94 t95 t96 t97 t98 t99 t100 t101 t102 t103 t104 t105 t106 t107 t108 t109 t110 t111 t112 t113 t114 t115 t116 t117 t118 t119 t120 t121 t122 : Value) (pX nX cX pP nP cP : Nat) (sX sP : Bool) (aX aP : Option Addr) (eP : Int) (b V1 V2 V3 V : Int) (M1 M2 M3 M : Nat) (wq : World)
    (X1 : Hid (∀ w1, Gr wq w1 → Calls Tryz.prog 11 #[.agg #[.bool sX, .slice aX nX cX]] w1 fun r w' => NzA w' r V1 M1 ∧ Gr w1 w'))
    (X2 : Hid (∀ w1, Gr wq w1 → Calls Tryz.prog 12 #[.int .i64 b] w1 fun r w' => NzA w' r V2 M2 ∧ Gr w1 w'))
    (X3 : Hid (∀ w1 s a n c e s' a' n' c' e', Gr wq w1 → Nz w1 s a n c e V1 M1 → Nz w1 s' a' n' c' e' V2 M2 → Calls Tryz.prog 10 #[.agg #[.bool s, .slice a n c, .int .i64 e], .agg #[.bool s', .slice a' n' c', .int .i64 e']] w1 fun r w' => NzA w' r V3 M3 ∧ Gr w1 w'))
    (X4 : Hid (∀ w1 s a n c e, Gr wq w1 → Nz w1 s a n c e V3 M3 → Calls Tryz.prog 9 #[.agg #[.bool s, .slice a n c, .int .i64 e], .agg #[.bool sP, .slice aP nP cP, .int .i64 eP]] w1 fun r w' => NzA w' r V M ∧ Gr w1 w')) (hpX : pX < wq.heap.size) (hpP : pP < wq.heap.size) (hcs : (wq.cell? ⟨pX, 0, none⟩ = some (.bool sX) ∧ wq.cell? ⟨pX, 1, none⟩ = some (.slice aX nX cX) ∧ wq.cell? ⟨pP, 0, none⟩ = some (.bool sP) ∧ wq.cell? ⟨pP, 1, none⟩ = some (.slice aP nP cP) ∧ wq.cell? ⟨pP, 2, none⟩ = some (.int .i64 eP))) :
    Code.wp Tryz.prog (Code.region 15 #[{ dst := some 103, op := Op.load 26 (Operand.tmp 9), type := 26, pos := "outright.go:105", after := #[], guard := none }, { dst := some 104, op := Op.call { callee := Callee.value (Operand.func 11), args := #[Operand.tmp 103], argTypes := #[26] }, type := 36, pos := "outright.go:105", after := #[{ on := 0, ground := Ground.data }], guard := none }, { dst := some 105, op := Op.move (Operand.tmp 2), type := 3, pos := "outright.go:105", after := #[], guard := none }, { dst := some 106, op := Op.call { callee := Callee.value (Operand.func 12), args := #[Operand.tmp 105], argTypes := #[2] }, type := 36, pos := "outright.go:105", after := #[{ on := 2, ground := Ground.data }, { on := 1, ground := Ground.chain }], guard := none }, { dst := some 107, op := Op.call { callee := Callee.value (Operand.func 10), args := #[Operand.tmp 104, Operand.tmp 106], argTypes := #[36, 36] }, type := 36, pos := "outright.go:105", after := #[{ on := 1, ground := Ground.data }, { on := 3, ground := Ground.data }, { on := 3, ground := Ground.chain }], guard := none }, { dst := some 108, op := Op.load 36 (Operand.tmp 16), type := 36, pos := "outright.go:105", after := #[], guard := none }, { dst := some 109, op := Op.call { callee := Callee.value (Operand.func 9), args := #[Operand.tmp 107, Operand.tmp 108], argTypes := #[36, 36] }, type := 36, pos := "outright.go:105", after := #[{ on := 4, ground := Ground.data }, { on := 5, ground := Ground.data }, { on := 4, ground := Ground.chain }], guard := none }, { dst := some 17, op := Op.alloc 36, type := 0, pos := "outright.go:105", after := #[], guard := none }, { dst := none, op := Op.store 36 (Operand.tmp 17) (Operand.tmp 109), type := 0, pos := "outright.go:105", after := #[{ on := 7, ground := Ground.data }, { on := 6, ground := Ground.data }, { on := 6, ground := Ground.chain }, { on := 0, ground := Ground.phase }, { on := 1, ground := Ground.phase }, { on := 2, ground := Ground.phase }, { on := 3, ground := Ground.phase }, { on := 4, ground := Ground.phase }, { on := 5, ground := Ground.phase }, { on := 6, ground := Ground.phase }, { on := 7, ground := Ground.phase }], guard := none }] true) (RBp15 t0 t1 t3 t4 t5 t6 t7 t8 t10 t11 t12 t13 t14 t15 t17 t18 t19 t20 t21 t22 t23 t24 t25 t26 t27 t28 t29 t30 t31 t32 t33 t34 t35 t36 t37 t38 t39 t40 t41 t42 t43 t44 t45 t46 t47 t48 t49 t50 t51 t52 t53 t54 t55 t56 t57 t58 t59 t60 t61 t62 t63 t64 t65 t66 t67 t68 t69 t70 t71 t72 t73 t74 t75 t76 t77 t78 t79 t80 t81 t82 t83 t84 t85 t86 t87 t88 t89 t90 t91 t92 t93 t94 t95 t96 t97 t98 t99 t100 t101 t102 t103 t104 t105 t106 t107 t108 t109 t110 t111 t112 t113 t114 t115 t116 t117 t118 t119 t120 t121 t122 pX nX cX pP nP cP sX sP aX aP eP b V1 V2 V3 V M1 M2 M3 M wq) { tmps := #[t0, t1, .int .i64 b, t3, t4, t5, t6, t7, t8, .pointer (some ⟨pX, 0, none⟩), t10, t11, t12, t13, t14, t15, .pointer (some ⟨pP, 0, none⟩), t17, t18, t19, t20, t21, t22, t23, t24, t25, t26, t27, t28, t29, t30, t31, t32, t33, t34, t35, t36, t37, t38, t39, t40, t41, t42, t43, t44, t45, t46, t47, t48, t49, t50, t51, t52, t53, t54, t55, t56, t57, t58, t59, t60, t61, t62, t63, t64, t65, t66, t67, t68, t69, t70, t71, t72, t73, t74, t75, t76, t77, t78, t79, t80, t81, t82, t83, t84, t85, t86, t87, t88, t89, t90, t91, t92, t93, t94, t95, t96, t97, t98, t99, t100, t101, t102, t103, t104, t105, t106, t107, t108, t109, t110, t111, t112, t113, t114, t115, t116, t117, t118, t119, t120, t121, t122], defers := [] } wq := by
  have hS0 : (wq.drew.cell? ⟨pX, 0, none⟩ = some (.bool sX) ∧ wq.drew.cell? ⟨pX, 1, none⟩ = some (.slice aX nX cX) ∧ wq.drew.cell? ⟨pP, 0, none⟩ = some (.bool sP) ∧ wq.drew.cell? ⟨pP, 1, none⟩ = some (.slice aP nP cP) ∧ wq.drew.cell? ⟨pP, 2, none⟩ = some (.int .i64 eP)) ∧ Gr wq wq.drew := ⟨hcs, (Gr.refl wq).drew⟩
  clear hcs
  refine wp_region_held_drew (S := fun w' => (w'.cell? ⟨pX, 0, none⟩ = some (.bool sX) ∧ w'.cell? ⟨pX, 1, none⟩ = some (.slice aX nX cX) ∧ w'.cell? ⟨pP, 0, none⟩ = some (.bool sP) ∧ w'.cell? ⟨pP, 1, none⟩ = some (.slice aP nP cP) ∧ w'.cell? ⟨pP, 2, none⟩ = some (.int .i64 eP)) ∧ Gr wq w') (by kernel_rfl) hS0 (fun hHeld => ?_)
  clear hS0
  generalize wq.drew = wd at *
  refine wpAnyH_take (i := 0) (oi := ({ dst := some 103, op := Op.load 26 (Operand.tmp 9), type := 26, pos := "outright.go:105", after := #[], guard := none } : Oper)) (v := ?_) rfl (by kernel_rfl) (by kernel_rfl) (by kernel_rfl) (fun _ _ _ h => h) (Or.inl ⟨by rfl, ?_⟩) (by with_reducible assumption) ?_
  rotate_left
  · intro w hSw
    (try dsimp only at hSw)
    first | (go_simp; done) | (go_simp; with_reducible rfl)
  (try simp only [Act.put, List.setIfInBounds_toArray, List.set_cons_zero, List.set_cons_succ])
  refine wpAnyH_take (i := 2) (oi := ({ dst := some 105, op := Op.move (Operand.tmp 2), type := 3, pos := "outright.go:105", after := #[], guard := none } : Oper)) (v := ?_) rfl (by kernel_rfl) (by kernel_rfl) (by kernel_rfl) (fun _ _ _ h => h) (Or.inl ⟨by rfl, ?_⟩) (by with_reducible assumption) ?_
  rotate_left
  · intro w hSw
    (try dsimp only at hSw)
    first | (go_simp; done) | (go_simp; with_reducible rfl)
  (try simp only [Act.put, List.setIfInBounds_toArray, List.set_cons_zero, List.set_cons_succ])
  refine wpAnyH_take (i := 5) (oi := ({ dst := some 108, op := Op.load 36 (Operand.tmp 16), type := 36, pos := "outright.go:105", after := #[], guard := none } : Oper)) (v := ?_) rfl (by kernel_rfl) (by kernel_rfl) (by kernel_rfl) (fun _ _ _ h => h) (Or.inl ⟨by rfl, ?_⟩) (by with_reducible assumption) ?_
  rotate_left
  · intro w hSw
    (try dsimp only at hSw)
    first | (go_simp; done) | (go_simp; with_reducible rfl)
  (try simp only [Act.put, List.setIfInBounds_toArray, List.set_cons_zero, List.set_cons_succ])
  refine wpAnyH_ready (rs := [1, 7]) (by kernel_rfl) (by simp) ?_
  refine AllReadyH.cons (o := ({ dst := some 104, op := Op.call { callee := Callee.value (Operand.func 11), args := #[Operand.tmp 103], argTypes := #[26] }, type := 36, pos := "outright.go:105", after := #[{ on := 0, ground := Ground.data }], guard := none } : Oper)) rfl (fun K hK => ?_) ?_
  · go_simp
    with_reducible refine (X1.out _ hHeld.2).mono ?_
    rintro r wc1 ⟨⟨s1, a1, n1, c1, e1, rfl, N1_4⟩, gg3⟩
    refine hK.out _ _ ⟨⟨keepG gg3 hHeld.1.1, keepG gg3 hHeld.1.2.1, keepG gg3 hHeld.1.2.2.1, keepG gg3 hHeld.1.2.2.2.1, keepG gg3 hHeld.1.2.2.2.2⟩, hHeld.2.trans gg3⟩ (fun hH2 => ?_)
    have hzwc1 := hHeld.2.size
    clear hK K
    (try simp only [Act.put, List.setIfInBounds_toArray, List.set_cons_zero, List.set_cons_succ])
    refine wpAnyH_ready (rs := [3, 7]) (by kernel_rfl) (by simp) ?_
    refine AllReadyH.cons (o := ({ dst := some 106, op := Op.call { callee := Callee.value (Operand.func 12), args := #[Operand.tmp 105], argTypes := #[2] }, type := 36, pos := "outright.go:105", after := #[{ on := 2, ground := Ground.data }, { on := 1, ground := Ground.chain }], guard := none } : Oper)) rfl (fun K hK => ?_) ?_
    · go_simp
      with_reducible refine (X2.out _ hH2.2).mono ?_
      rintro r wc5 ⟨⟨s2, a2, n2, c2, e2, rfl, N2_8⟩, gg7⟩
      refine hK.out _ _ ⟨⟨keepG gg7 hH2.1.1, keepG gg7 hH2.1.2.1, keepG gg7 hH2.1.2.2.1, keepG gg7 hH2.1.2.2.2.1, keepG gg7 hH2.1.2.2.2.2⟩, hH2.2.trans gg7⟩ (fun hH6 => ?_)
      have hzwc5 := hH2.2.size
      clear hK K
      (try simp only [Act.put, List.setIfInBounds_toArray, List.set_cons_zero, List.set_cons_succ])
      have N1_9 := N1_4.gr gg7
      clear N1_4
      refine wpAnyH_ready (rs := [4, 7]) (by kernel_rfl) (by simp) ?_
      refine AllReadyH.cons (o := ({ dst := some 107, op := Op.call { callee := Callee.value (Operand.func 10), args := #[Operand.tmp 104, Operand.tmp 106], argTypes := #[36, 36] }, type := 36, pos := "outright.go:105", after := #[{ on := 1, ground := Ground.data }, { on := 3, ground := Ground.data }, { on := 3, ground := Ground.chain }], guard := none } : Oper)) rfl (fun K hK => ?_) ?_
      · go_simp
        with_reducible refine (X3.out _ _ _ _ _ _ _ _ _ _ _ hH6.2 N1_9 N2_8).mono ?_
        rintro r wc10 ⟨⟨s3, a3, n3, c3, e3, rfl, N3_13⟩, gg12⟩
        refine hK.out _ _ ⟨⟨keepG gg12 hH6.1.1, keepG gg12 hH6.1.2.1, keepG gg12 hH6.1.2.2.1, keepG gg12 hH6.1.2.2.2.1, keepG gg12 hH6.1.2.2.2.2⟩, hH6.2.trans gg12⟩ (fun hH11 => ?_)
        have hzwc10 := hH6.2.size
        clear hK K
        (try simp only [Act.put, List.setIfInBounds_toArray, List.set_cons_zero, List.set_cons_succ])
        have N1_14 := N1_9.gr gg12
        clear N1_9
        have N2_15 := N2_8.gr gg12
        clear N2_8
        refine wpAnyH_ready (rs := [6, 7]) (by kernel_rfl) (by simp) ?_
        refine AllReadyH.cons (o := ({ dst := some 109, op := Op.call { callee := Callee.value (Operand.func 9), args := #[Operand.tmp 107, Operand.tmp 108], argTypes := #[36, 36] }, type := 36, pos := "outright.go:105", after := #[{ on := 4, ground := Ground.data }, { on := 5, ground := Ground.data }, { on := 4, ground := Ground.chain }], guard := none } : Oper)) rfl (fun K hK => ?_) ?_
        · go_simp
          with_reducible refine (X4.out _ _ _ _ _ _ hH11.2 N3_13).mono ?_
          rintro r wc16 ⟨⟨s4, a4, n4, c4, e4, rfl, N4_19⟩, gg18⟩
          refine hK.out _ _ ⟨⟨keepG gg18 hH11.1.1, keepG gg18 hH11.1.2.1, keepG gg18 hH11.1.2.2.1, keepG gg18 hH11.1.2.2.2.1, keepG gg18 hH11.1.2.2.2.2⟩, hH11.2.trans gg18⟩ (fun hH17 => ?_)
          have hzwc16 := hH11.2.size
          clear hK K
          (try simp only [Act.put, List.setIfInBounds_toArray, List.set_cons_zero, List.set_cons_succ])
          have N1_20 := N1_14.gr gg18
          clear N1_14
          have N2_21 := N2_15.gr gg18
          clear N2_15
          have N3_22 := N3_13.gr gg18
          clear N3_13
          refine wpAnyH_ready (rs := [7]) (by kernel_rfl) (by simp) ?_
          refine AllReadyH.cons (o := ({ dst := some 17, op := Op.alloc 36, type := 0, pos := "outright.go:105", after := #[], guard := none } : Oper)) rfl (fun K hK => ?_) AllReadyH.nil
          go_simp
          refine hK.out _ _ ⟨⟨keepG ((Gr.refl wc16).alloc (.cells #[.bool false, .slice none 0 0, .int .i64 0] 36)) hH17.1.1, keepG ((Gr.refl wc16).alloc (.cells #[.bool false, .slice none 0 0, .int .i64 0] 36)) hH17.1.2.1, keepG ((Gr.refl wc16).alloc (.cells #[.bool false, .slice none 0 0, .int .i64 0] 36)) hH17.1.2.2.1, keepG ((Gr.refl wc16).alloc (.cells #[.bool false, .slice none 0 0, .int .i64 0] 36)) hH17.1.2.2.2.1, keepG ((Gr.refl wc16).alloc (.cells #[.bool false, .slice none 0 0, .int .i64 0] 36)) hH17.1.2.2.2.2⟩, hH17.2.trans ((Gr.refl wc16).alloc (.cells #[.bool false, .slice none 0 0, .int .i64 0] 36))⟩ (fun hH24 => ?_)
          clear hK K
          (try simp only [Act.put, List.setIfInBounds_toArray, List.set_cons_zero, List.set_cons_succ])
          have bS_26 := blk1 wc16 (.cells #[.bool false, .slice none 0 0, .int .i64 0] 36)
          have gg25 := (Gr.refl wc16).alloc (.cells #[.bool false, .slice none 0 0, .int .i64 0] 36)
          have lS27 := hH17.2.size
          have N1_28 := N1_20.gr gg25
          clear N1_20
          have N2_29 := N2_21.gr gg25
          clear N2_21
          have N3_30 := N3_22.gr gg25
          clear N3_22
          have N4_31 := N4_19.gr gg25
          clear N4_19
          generalize wc16.alloc (.cells #[.bool false, .slice none 0 0, .int .i64 0] 36) = wa23 at *
          refine wpAnyH_ready (rs := [8]) (by kernel_rfl) (by simp) ?_
          refine AllReadyH.cons (o := ({ dst := none, op := Op.store 36 (Operand.tmp 17) (Operand.tmp 109), type := 0, pos := "outright.go:105", after := #[{ on := 7, ground := Ground.data }, { on := 6, ground := Ground.data }, { on := 6, ground := Ground.chain }, { on := 0, ground := Ground.phase }, { on := 1, ground := Ground.phase }, { on := 2, ground := Ground.phase }, { on := 3, ground := Ground.phase }, { on := 4, ground := Ground.phase }, { on := 5, ground := Ground.phase }, { on := 6, ground := Ground.phase }, { on := 7, ground := Ground.phase }], guard := none } : Oper)) rfl (fun K hK => ?_) AllReadyH.nil
          obtain ⟨t0', t1', t2'⟩ := bx3P bS_26
          obtain ⟨u0', u1', u2'⟩ := out3P bS_26
          go_simp
          refine hK.out _ _ ⟨⟨set3_far (Nat.ne_of_gt (Nat.lt_of_lt_of_le hpX lS27)) hH24.1.1, set3_far (Nat.ne_of_gt (Nat.lt_of_lt_of_le hpX lS27)) hH24.1.2.1, set3_far (Nat.ne_of_gt (Nat.lt_of_lt_of_le hpP lS27)) hH24.1.2.2.1, set3_far (Nat.ne_of_gt (Nat.lt_of_lt_of_le hpP lS27)) hH24.1.2.2.2.1, set3_far (Nat.ne_of_gt (Nat.lt_of_lt_of_le hpP lS27)) hH24.1.2.2.2.2⟩, (((hH24.2.setCell (p := ⟨_, 0, none⟩) lS27 _).setCell (p := ⟨_, 1, none⟩) lS27 _).setCell (p := ⟨_, 2, none⟩) lS27 _)⟩ (fun hS32 => ?_)
          clear hK K t0' t1' t2' u0' u1' u2'
          (try simp only [Act.put, List.setIfInBounds_toArray, List.set_cons_zero, List.set_cons_succ])
          refine wpAnyH_done (by kernel_rfl) ?_ _
          exact ⟨_, _, _, _, _, _, _, _, s4, a4, n4, c4, e4, rfl, put3_blockP bS_26 _ _ _, N4_31.setP bS_26 _ _ _, lS27, hS32.2⟩
        refine AllReadyH.cons (o := ({ dst := some 17, op := Op.alloc 36, type := 0, pos := "outright.go:105", after := #[], guard := none } : Oper)) rfl (fun K hK => ?_) AllReadyH.nil
        go_simp
        refine hK.out _ _ ⟨⟨keepG ((Gr.refl wc10).alloc (.cells #[.bool false, .slice none 0 0, .int .i64 0] 36)) hH11.1.1, keepG ((Gr.refl wc10).alloc (.cells #[.bool false, .slice none 0 0, .int .i64 0] 36)) hH11.1.2.1, keepG ((Gr.refl wc10).alloc (.cells #[.bool false, .slice none 0 0, .int .i64 0] 36)) hH11.1.2.2.1, keepG ((Gr.refl wc10).alloc (.cells #[.bool false, .slice none 0 0, .int .i64 0] 36)) hH11.1.2.2.2.1, keepG ((Gr.refl wc10).alloc (.cells #[.bool false, .slice none 0 0, .int .i64 0] 36)) hH11.1.2.2.2.2⟩, hH11.2.trans ((Gr.refl wc10).alloc (.cells #[.bool false, .slice none 0 0, .int .i64 0] 36))⟩ (fun hH34 => ?_)
        clear hK K
        (try simp only [Act.put, List.setIfInBounds_toArray, List.set_cons_zero, List.set_cons_succ])
        have bS_36 := blk1 wc10 (.cells #[.bool false, .slice none 0 0, .int .i64 0] 36)
        have gg35 := (Gr.refl wc10).alloc (.cells #[.bool false, .slice none 0 0, .int .i64 0] 36)
        have lS37 := hH11.2.size
        have N1_38 := N1_14.gr gg35
        clear N1_14
        have N2_39 := N2_15.gr gg35
        clear N2_15
        have N3_40 := N3_13.gr gg35
        clear N3_13
        generalize wc10.alloc (.cells #[.bool false, .slice none 0 0, .int .i64 0] 36) = wa33 at *
        refine wpAnyH_ready (rs := [6]) (by kernel_rfl) (by simp) ?_
        refine AllReadyH.cons (o := ({ dst := some 109, op := Op.call { callee := Callee.value (Operand.func 9), args := #[Operand.tmp 107, Operand.tmp 108], argTypes := #[36, 36] }, type := 36, pos := "outright.go:105", after := #[{ on := 4, ground := Ground.data }, { on := 5, ground := Ground.data }, { on := 4, ground := Ground.chain }], guard := none } : Oper)) rfl (fun K hK => ?_) AllReadyH.nil
        go_simp
        with_reducible refine (X4.out _ _ _ _ _ _ hH34.2 N3_40).mono ?_
        rintro r wc41 ⟨⟨s4, a4, n4, c4, e4, rfl, N4_44⟩, gg43⟩
        refine hK.out _ _ ⟨⟨keepG gg43 hH34.1.1, keepG gg43 hH34.1.2.1, keepG gg43 hH34.1.2.2.1, keepG gg43 hH34.1.2.2.2.1, keepG gg43 hH34.1.2.2.2.2⟩, hH34.2.trans gg43⟩ (fun hH42 => ?_)
        have hzwc41 := hH34.2.size
        clear hK K
        (try simp only [Act.put, List.setIfInBounds_toArray, List.set_cons_zero, List.set_cons_succ])
        have N1_45 := N1_38.gr gg43
        clear N1_38
        have N2_46 := N2_39.gr gg43
        clear N2_39
        have N3_47 := N3_40.gr gg43
        clear N3_40
        have bS_48 := keepO gg43 bS_36
        clear bS_36
        refine wpAnyH_ready (rs := [8]) (by kernel_rfl) (by simp) ?_
        refine AllReadyH.cons (o := ({ dst := none, op := Op.store 36 (Operand.tmp 17) (Operand.tmp 109), type := 0, pos := "outright.go:105", after := #[{ on := 7, ground := Ground.data }, { on := 6, ground := Ground.data }, { on := 6, ground := Ground.chain }, { on := 0, ground := Ground.phase }, { on := 1, ground := Ground.phase }, { on := 2, ground := Ground.phase }, { on := 3, ground := Ground.phase }, { on := 4, ground := Ground.phase }, { on := 5, ground := Ground.phase }, { on := 6, ground := Ground.phase }, { on := 7, ground := Ground.phase }], guard := none } : Oper)) rfl (fun K hK => ?_) AllReadyH.nil
        obtain ⟨t0', t1', t2'⟩ := bx3P bS_48
        obtain ⟨u0', u1', u2'⟩ := out3P bS_48
        go_simp
        refine hK.out _ _ ⟨⟨set3_far (Nat.ne_of_gt (Nat.lt_of_lt_of_le hpX lS37)) hH42.1.1, set3_far (Nat.ne_of_gt (Nat.lt_of_lt_of_le hpX lS37)) hH42.1.2.1, set3_far (Nat.ne_of_gt (Nat.lt_of_lt_of_le hpP lS37)) hH42.1.2.2.1, set3_far (Nat.ne_of_gt (Nat.lt_of_lt_of_le hpP lS37)) hH42.1.2.2.2.1, set3_far (Nat.ne_of_gt (Nat.lt_of_lt_of_le hpP lS37)) hH42.1.2.2.2.2⟩, (((hH42.2.setCell (p := ⟨_, 0, none⟩) lS37 _).setCell (p := ⟨_, 1, none⟩) lS37 _).setCell (p := ⟨_, 2, none⟩) lS37 _)⟩ (fun hS49 => ?_)
        clear hK K t0' t1' t2' u0' u1' u2'
        (try simp only [Act.put, List.setIfInBounds_toArray, List.set_cons_zero, List.set_cons_succ])
        refine wpAnyH_done (by kernel_rfl) ?_ _
        exact ⟨_, _, _, _, _, _, _, _, s4, a4, n4, c4, e4, rfl, put3_blockP bS_48 _ _ _, N4_44.setP bS_48 _ _ _, lS37, hS49.2⟩
      refine AllReadyH.cons (o := ({ dst := some 17, op := Op.alloc 36, type := 0, pos := "outright.go:105", after := #[], guard := none } : Oper)) rfl (fun K hK => ?_) AllReadyH.nil
      go_simp
      refine hK.out _ _ ⟨⟨keepG ((Gr.refl wc5).alloc (.cells #[.bool false, .slice none 0 0, .int .i64 0] 36)) hH6.1.1, keepG ((Gr.refl wc5).alloc (.cells #[.bool false, .slice none 0 0, .int .i64 0] 36)) hH6.1.2.1, keepG ((Gr.refl wc5).alloc (.cells #[.bool false, .slice none 0 0, .int .i64 0] 36)) hH6.1.2.2.1, keepG ((Gr.refl wc5).alloc (.cells #[.bool false, .slice none 0 0, .int .i64 0] 36)) hH6.1.2.2.2.1, keepG ((Gr.refl wc5).alloc (.cells #[.bool false, .slice none 0 0, .int .i64 0] 36)) hH6.1.2.2.2.2⟩, hH6.2.trans ((Gr.refl wc5).alloc (.cells #[.bool false, .slice none 0 0, .int .i64 0] 36))⟩ (fun hH51 => ?_)
      clear hK K
      (try simp only [Act.put, List.setIfInBounds_toArray, List.set_cons_zero, List.set_cons_succ])
      have bS_53 := blk1 wc5 (.cells #[.bool false, .slice none 0 0, .int .i64 0] 36)
      have gg52 := (Gr.refl wc5).alloc (.cells #[.bool false, .slice none 0 0, .int .i64 0] 36)
      have lS54 := hH6.2.size
      have N1_55 := N1_9.gr gg52
      clear N1_9
      have N2_56 := N2_8.gr gg52
      clear N2_8
      generalize wc5.alloc (.cells #[.bool false, .slice none 0 0, .int .i64 0] 36) = wa50 at *
      refine wpAnyH_ready (rs := [4]) (by kernel_rfl) (by simp) ?_
      refine AllReadyH.cons (o := ({ dst := some 107, op := Op.call { callee := Callee.value (Operand.func 10), args := #[Operand.tmp 104, Operand.tmp 106], argTypes := #[36, 36] }, type := 36, pos := "outright.go:105", after := #[{ on := 1, ground := Ground.data }, { on := 3, ground := Ground.data }, { on := 3, ground := Ground.chain }], guard := none } : Oper)) rfl (fun K hK => ?_) AllReadyH.nil
      go_simp
      with_reducible refine (X3.out _ _ _ _ _ _ _ _ _ _ _ hH51.2 N1_55 N2_56).mono ?_
      rintro r wc57 ⟨⟨s3, a3, n3, c3, e3, rfl, N3_60⟩, gg59⟩
      refine hK.out _ _ ⟨⟨keepG gg59 hH51.1.1, keepG gg59 hH51.1.2.1, keepG gg59 hH51.1.2.2.1, keepG gg59 hH51.1.2.2.2.1, keepG gg59 hH51.1.2.2.2.2⟩, hH51.2.trans gg59⟩ (fun hH58 => ?_)
      have hzwc57 := hH51.2.size
      clear hK K
      (try simp only [Act.put, List.setIfInBounds_toArray, List.set_cons_zero, List.set_cons_succ])
      have N1_61 := N1_55.gr gg59
      clear N1_55
      have N2_62 := N2_56.gr gg59
      clear N2_56
      have bS_63 := keepO gg59 bS_53
      clear bS_53
      refine wpAnyH_ready (rs := [6]) (by kernel_rfl) (by simp) ?_
      refine AllReadyH.cons (o := ({ dst := some 109, op := Op.call { callee := Callee.value (Operand.func 9), args := #[Operand.tmp 107, Operand.tmp 108], argTypes := #[36, 36] }, type := 36, pos := "outright.go:105", after := #[{ on := 4, ground := Ground.data }, { on := 5, ground := Ground.data }, { on := 4, ground := Ground.chain }], guard := none } : Oper)) rfl (fun K hK => ?_) AllReadyH.nil
      go_simp
      with_reducible refine (X4.out _ _ _ _ _ _ hH58.2 N3_60).mono ?_
      rintro r wc64 ⟨⟨s4, a4, n4, c4, e4, rfl, N4_67⟩, gg66⟩
      refine hK.out _ _ ⟨⟨keepG gg66 hH58.1.1, keepG gg66 hH58.1.2.1, keepG gg66 hH58.1.2.2.1, keepG gg66 hH58.1.2.2.2.1, keepG gg66 hH58.1.2.2.2.2⟩, hH58.2.trans gg66⟩ (fun hH65 => ?_)
      have hzwc64 := hH58.2.size
      clear hK K
      (try simp only [Act.put, List.setIfInBounds_toArray, List.set_cons_zero, List.set_cons_succ])
      have N1_68 := N1_61.gr gg66
      clear N1_61
      have N2_69 := N2_62.gr gg66
      clear N2_62
      have bS_70 := keepO gg66 bS_63
      clear bS_63
      have N3_71 := N3_60.gr gg66
      clear N3_60
      refine wpAnyH_ready (rs := [8]) (by kernel_rfl) (by simp) ?_
      refine AllReadyH.cons (o := ({ dst := none, op := Op.store 36 (Operand.tmp 17) (Operand.tmp 109), type := 0, pos := "outright.go:105", after := #[{ on := 7, ground := Ground.data }, { on := 6, ground := Ground.data }, { on := 6, ground := Ground.chain }, { on := 0, ground := Ground.phase }, { on := 1, ground := Ground.phase }, { on := 2, ground := Ground.phase }, { on := 3, ground := Ground.phase }, { on := 4, ground := Ground.phase }, { on := 5, ground := Ground.phase }, { on := 6, ground := Ground.phase }, { on := 7, ground := Ground.phase }], guard := none } : Oper)) rfl (fun K hK => ?_) AllReadyH.nil
      obtain ⟨t0', t1', t2'⟩ := bx3P bS_70
      obtain ⟨u0', u1', u2'⟩ := out3P bS_70
      go_simp
      refine hK.out _ _ ⟨⟨set3_far (Nat.ne_of_gt (Nat.lt_of_lt_of_le hpX lS54)) hH65.1.1, set3_far (Nat.ne_of_gt (Nat.lt_of_lt_of_le hpX lS54)) hH65.1.2.1, set3_far (Nat.ne_of_gt (Nat.lt_of_lt_of_le hpP lS54)) hH65.1.2.2.1, set3_far (Nat.ne_of_gt (Nat.lt_of_lt_of_le hpP lS54)) hH65.1.2.2.2.1, set3_far (Nat.ne_of_gt (Nat.lt_of_lt_of_le hpP lS54)) hH65.1.2.2.2.2⟩, (((hH65.2.setCell (p := ⟨_, 0, none⟩) lS54 _).setCell (p := ⟨_, 1, none⟩) lS54 _).setCell (p := ⟨_, 2, none⟩) lS54 _)⟩ (fun hS72 => ?_)
      clear hK K t0' t1' t2' u0' u1' u2'
      (try simp only [Act.put, List.setIfInBounds_toArray, List.set_cons_zero, List.set_cons_succ])
      refine wpAnyH_done (by kernel_rfl) ?_ _
      exact ⟨_, _, _, _, _, _, _, _, s4, a4, n4, c4, e4, rfl, put3_blockP bS_70 _ _ _, N4_67.setP bS_70 _ _ _, lS54, hS72.2⟩
    refine AllReadyH.cons (o := ({ dst := some 17, op := Op.alloc 36, type := 0, pos := "outright.go:105", after := #[], guard := none } : Oper)) rfl (fun K hK => ?_) AllReadyH.nil
    go_simp
    refine hK.out _ _ ⟨⟨keepG ((Gr.refl wc1).alloc (.cells #[.bool false, .slice none 0 0, .int .i64 0] 36)) hH2.1.1, keepG ((Gr.refl wc1).alloc (.cells #[.bool false, .slice none 0 0, .int .i64 0] 36)) hH2.1.2.1, keepG ((Gr.refl wc1).alloc (.cells #[.bool false, .slice none 0 0, .int .i64 0] 36)) hH2.1.2.2.1, keepG ((Gr.refl wc1).alloc (.cells #[.bool false, .slice none 0 0, .int .i64 0] 36)) hH2.1.2.2.2.1, keepG ((Gr.refl wc1).alloc (.cells #[.bool false, .slice none 0 0, .int .i64 0] 36)) hH2.1.2.2.2.2⟩, hH2.2.trans ((Gr.refl wc1).alloc (.cells #[.bool false, .slice none 0 0, .int .i64 0] 36))⟩ (fun hH74 => ?_)
    clear hK K
    (try simp only [Act.put, List.setIfInBounds_toArray, List.set_cons_zero, List.set_cons_succ])
    have bS_76 := blk1 wc1 (.cells #[.bool false, .slice none 0 0, .int .i64 0] 36)
    have gg75 := (Gr.refl wc1).alloc (.cells #[.bool false, .slice none 0 0, .int .i64 0] 36)
    have lS77 := hH2.2.size
    have N1_78 := N1_4.gr gg75
    clear N1_4
    generalize wc1.alloc (.cells #[.bool false, .slice none 0 0, .int .i64 0] 36) = wa73 at *
    refine wpAnyH_ready (rs := [3]) (by kernel_rfl) (by simp) ?_
    refine AllReadyH.cons (o := ({ dst := some 106, op := Op.call { callee := Callee.value (Operand.func 12), args := #[Operand.tmp 105], argTypes := #[2] }, type := 36, pos := "outright.go:105", after := #[{ on := 2, ground := Ground.data }, { on := 1, ground := Ground.chain }], guard := none } : Oper)) rfl (fun K hK => ?_) AllReadyH.nil
    go_simp
    with_reducible refine (X2.out _ hH74.2).mono ?_
    rintro r wc79 ⟨⟨s2, a2, n2, c2, e2, rfl, N2_82⟩, gg81⟩
    refine hK.out _ _ ⟨⟨keepG gg81 hH74.1.1, keepG gg81 hH74.1.2.1, keepG gg81 hH74.1.2.2.1, keepG gg81 hH74.1.2.2.2.1, keepG gg81 hH74.1.2.2.2.2⟩, hH74.2.trans gg81⟩ (fun hH80 => ?_)
    have hzwc79 := hH74.2.size
    clear hK K
    (try simp only [Act.put, List.setIfInBounds_toArray, List.set_cons_zero, List.set_cons_succ])
    have N1_83 := N1_78.gr gg81
    clear N1_78
    have bS_84 := keepO gg81 bS_76
    clear bS_76
    refine wpAnyH_ready (rs := [4]) (by kernel_rfl) (by simp) ?_
    refine AllReadyH.cons (o := ({ dst := some 107, op := Op.call { callee := Callee.value (Operand.func 10), args := #[Operand.tmp 104, Operand.tmp 106], argTypes := #[36, 36] }, type := 36, pos := "outright.go:105", after := #[{ on := 1, ground := Ground.data }, { on := 3, ground := Ground.data }, { on := 3, ground := Ground.chain }], guard := none } : Oper)) rfl (fun K hK => ?_) AllReadyH.nil
    go_simp
    with_reducible refine (X3.out _ _ _ _ _ _ _ _ _ _ _ hH80.2 N1_83 N2_82).mono ?_
    rintro r wc85 ⟨⟨s3, a3, n3, c3, e3, rfl, N3_88⟩, gg87⟩
    refine hK.out _ _ ⟨⟨keepG gg87 hH80.1.1, keepG gg87 hH80.1.2.1, keepG gg87 hH80.1.2.2.1, keepG gg87 hH80.1.2.2.2.1, keepG gg87 hH80.1.2.2.2.2⟩, hH80.2.trans gg87⟩ (fun hH86 => ?_)
    have hzwc85 := hH80.2.size
    clear hK K
    (try simp only [Act.put, List.setIfInBounds_toArray, List.set_cons_zero, List.set_cons_succ])
    have N1_89 := N1_83.gr gg87
    clear N1_83
    have bS_90 := keepO gg87 bS_84
    clear bS_84
    have N2_91 := N2_82.gr gg87
    clear N2_82
    refine wpAnyH_ready (rs := [6]) (by kernel_rfl) (by simp) ?_
    refine AllReadyH.cons (o := ({ dst := some 109, op := Op.call { callee := Callee.value (Operand.func 9), args := #[Operand.tmp 107, Operand.tmp 108], argTypes := #[36, 36] }, type := 36, pos := "outright.go:105", after := #[{ on := 4, ground := Ground.data }, { on := 5, ground := Ground.data }, { on := 4, ground := Ground.chain }], guard := none } : Oper)) rfl (fun K hK => ?_) AllReadyH.nil
    go_simp
    with_reducible refine (X4.out _ _ _ _ _ _ hH86.2 N3_88).mono ?_
    rintro r wc92 ⟨⟨s4, a4, n4, c4, e4, rfl, N4_95⟩, gg94⟩
    refine hK.out _ _ ⟨⟨keepG gg94 hH86.1.1, keepG gg94 hH86.1.2.1, keepG gg94 hH86.1.2.2.1, keepG gg94 hH86.1.2.2.2.1, keepG gg94 hH86.1.2.2.2.2⟩, hH86.2.trans gg94⟩ (fun hH93 => ?_)
    have hzwc92 := hH86.2.size
    clear hK K
    (try simp only [Act.put, List.setIfInBounds_toArray, List.set_cons_zero, List.set_cons_succ])
    have N1_96 := N1_89.gr gg94
    clear N1_89
    have bS_97 := keepO gg94 bS_90
    clear bS_90
    have N2_98 := N2_91.gr gg94
    clear N2_91
    have N3_99 := N3_88.gr gg94
    clear N3_88
    refine wpAnyH_ready (rs := [8]) (by kernel_rfl) (by simp) ?_
    refine AllReadyH.cons (o := ({ dst := none, op := Op.store 36 (Operand.tmp 17) (Operand.tmp 109), type := 0, pos := "outright.go:105", after := #[{ on := 7, ground := Ground.data }, { on := 6, ground := Ground.data }, { on := 6, ground := Ground.chain }, { on := 0, ground := Ground.phase }, { on := 1, ground := Ground.phase }, { on := 2, ground := Ground.phase }, { on := 3, ground := Ground.phase }, { on := 4, ground := Ground.phase }, { on := 5, ground := Ground.phase }, { on := 6, ground := Ground.phase }, { on := 7, ground := Ground.phase }], guard := none } : Oper)) rfl (fun K hK => ?_) AllReadyH.nil
    obtain ⟨t0', t1', t2'⟩ := bx3P bS_97
    obtain ⟨u0', u1', u2'⟩ := out3P bS_97
    go_simp
    refine hK.out _ _ ⟨⟨set3_far (Nat.ne_of_gt (Nat.lt_of_lt_of_le hpX lS77)) hH93.1.1, set3_far (Nat.ne_of_gt (Nat.lt_of_lt_of_le hpX lS77)) hH93.1.2.1, set3_far (Nat.ne_of_gt (Nat.lt_of_lt_of_le hpP lS77)) hH93.1.2.2.1, set3_far (Nat.ne_of_gt (Nat.lt_of_lt_of_le hpP lS77)) hH93.1.2.2.2.1, set3_far (Nat.ne_of_gt (Nat.lt_of_lt_of_le hpP lS77)) hH93.1.2.2.2.2⟩, (((hH93.2.setCell (p := ⟨_, 0, none⟩) lS77 _).setCell (p := ⟨_, 1, none⟩) lS77 _).setCell (p := ⟨_, 2, none⟩) lS77 _)⟩ (fun hS100 => ?_)
    clear hK K t0' t1' t2' u0' u1' u2'
    (try simp only [Act.put, List.setIfInBounds_toArray, List.set_cons_zero, List.set_cons_succ])
    refine wpAnyH_done (by kernel_rfl) ?_ _
    exact ⟨_, _, _, _, _, _, _, _, s4, a4, n4, c4, e4, rfl, put3_blockP bS_97 _ _ _, N4_95.setP bS_97 _ _ _, lS77, hS100.2⟩
  refine AllReadyH.cons (o := ({ dst := some 17, op := Op.alloc 36, type := 0, pos := "outright.go:105", after := #[], guard := none } : Oper)) rfl (fun K hK => ?_) AllReadyH.nil
  go_simp
  refine hK.out _ _ ⟨⟨keepG ((Gr.refl wd).alloc (.cells #[.bool false, .slice none 0 0, .int .i64 0] 36)) hHeld.1.1, keepG ((Gr.refl wd).alloc (.cells #[.bool false, .slice none 0 0, .int .i64 0] 36)) hHeld.1.2.1, keepG ((Gr.refl wd).alloc (.cells #[.bool false, .slice none 0 0, .int .i64 0] 36)) hHeld.1.2.2.1, keepG ((Gr.refl wd).alloc (.cells #[.bool false, .slice none 0 0, .int .i64 0] 36)) hHeld.1.2.2.2.1, keepG ((Gr.refl wd).alloc (.cells #[.bool false, .slice none 0 0, .int .i64 0] 36)) hHeld.1.2.2.2.2⟩, hHeld.2.trans ((Gr.refl wd).alloc (.cells #[.bool false, .slice none 0 0, .int .i64 0] 36))⟩ (fun hH102 => ?_)
  clear hK K
  (try simp only [Act.put, List.setIfInBounds_toArray, List.set_cons_zero, List.set_cons_succ])
  have bS_104 := blk1 wd (.cells #[.bool false, .slice none 0 0, .int .i64 0] 36)
  have gg103 := (Gr.refl wd).alloc (.cells #[.bool false, .slice none 0 0, .int .i64 0] 36)
  have lS105 := hHeld.2.size
  generalize wd.alloc (.cells #[.bool false, .slice none 0 0, .int .i64 0] 36) = wa101 at *
  refine wpAnyH_ready (rs := [1]) (by kernel_rfl) (by simp) ?_
  refine AllReadyH.cons (o := ({ dst := some 104, op := Op.call { callee := Callee.value (Operand.func 11), args := #[Operand.tmp 103], argTypes := #[26] }, type := 36, pos := "outright.go:105", after := #[{ on := 0, ground := Ground.data }], guard := none } : Oper)) rfl (fun K hK => ?_) AllReadyH.nil
  go_simp
  with_reducible refine (X1.out _ hH102.2).mono ?_
  rintro r wc106 ⟨⟨s1, a1, n1, c1, e1, rfl, N1_109⟩, gg108⟩
  refine hK.out _ _ ⟨⟨keepG gg108 hH102.1.1, keepG gg108 hH102.1.2.1, keepG gg108 hH102.1.2.2.1, keepG gg108 hH102.1.2.2.2.1, keepG gg108 hH102.1.2.2.2.2⟩, hH102.2.trans gg108⟩ (fun hH107 => ?_)
  have hzwc106 := hH102.2.size
  clear hK K
  (try simp only [Act.put, List.setIfInBounds_toArray, List.set_cons_zero, List.set_cons_succ])
  have bS_110 := keepO gg108 bS_104
  clear bS_104
  refine wpAnyH_ready (rs := [3]) (by kernel_rfl) (by simp) ?_
  refine AllReadyH.cons (o := ({ dst := some 106, op := Op.call { callee := Callee.value (Operand.func 12), args := #[Operand.tmp 105], argTypes := #[2] }, type := 36, pos := "outright.go:105", after := #[{ on := 2, ground := Ground.data }, { on := 1, ground := Ground.chain }], guard := none } : Oper)) rfl (fun K hK => ?_) AllReadyH.nil
  go_simp
  with_reducible refine (X2.out _ hH107.2).mono ?_
  rintro r wc111 ⟨⟨s2, a2, n2, c2, e2, rfl, N2_114⟩, gg113⟩
  refine hK.out _ _ ⟨⟨keepG gg113 hH107.1.1, keepG gg113 hH107.1.2.1, keepG gg113 hH107.1.2.2.1, keepG gg113 hH107.1.2.2.2.1, keepG gg113 hH107.1.2.2.2.2⟩, hH107.2.trans gg113⟩ (fun hH112 => ?_)
  have hzwc111 := hH107.2.size
  clear hK K
  (try simp only [Act.put, List.setIfInBounds_toArray, List.set_cons_zero, List.set_cons_succ])
  have bS_115 := keepO gg113 bS_110
  clear bS_110
  have N1_116 := N1_109.gr gg113
  clear N1_109
  refine wpAnyH_ready (rs := [4]) (by kernel_rfl) (by simp) ?_
  refine AllReadyH.cons (o := ({ dst := some 107, op := Op.call { callee := Callee.value (Operand.func 10), args := #[Operand.tmp 104, Operand.tmp 106], argTypes := #[36, 36] }, type := 36, pos := "outright.go:105", after := #[{ on := 1, ground := Ground.data }, { on := 3, ground := Ground.data }, { on := 3, ground := Ground.chain }], guard := none } : Oper)) rfl (fun K hK => ?_) AllReadyH.nil
  go_simp
  with_reducible refine (X3.out _ _ _ _ _ _ _ _ _ _ _ hH112.2 N1_116 N2_114).mono ?_
  rintro r wc117 ⟨⟨s3, a3, n3, c3, e3, rfl, N3_120⟩, gg119⟩
  refine hK.out _ _ ⟨⟨keepG gg119 hH112.1.1, keepG gg119 hH112.1.2.1, keepG gg119 hH112.1.2.2.1, keepG gg119 hH112.1.2.2.2.1, keepG gg119 hH112.1.2.2.2.2⟩, hH112.2.trans gg119⟩ (fun hH118 => ?_)
  have hzwc117 := hH112.2.size
  clear hK K
  (try simp only [Act.put, List.setIfInBounds_toArray, List.set_cons_zero, List.set_cons_succ])
  have bS_121 := keepO gg119 bS_115
  clear bS_115
  have N1_122 := N1_116.gr gg119
  clear N1_116
  have N2_123 := N2_114.gr gg119
  clear N2_114
  refine wpAnyH_ready (rs := [6]) (by kernel_rfl) (by simp) ?_
  refine AllReadyH.cons (o := ({ dst := some 109, op := Op.call { callee := Callee.value (Operand.func 9), args := #[Operand.tmp 107, Operand.tmp 108], argTypes := #[36, 36] }, type := 36, pos := "outright.go:105", after := #[{ on := 4, ground := Ground.data }, { on := 5, ground := Ground.data }, { on := 4, ground := Ground.chain }], guard := none } : Oper)) rfl (fun K hK => ?_) AllReadyH.nil
  go_simp
  with_reducible refine (X4.out _ _ _ _ _ _ hH118.2 N3_120).mono ?_
  rintro r wc124 ⟨⟨s4, a4, n4, c4, e4, rfl, N4_127⟩, gg126⟩
  refine hK.out _ _ ⟨⟨keepG gg126 hH118.1.1, keepG gg126 hH118.1.2.1, keepG gg126 hH118.1.2.2.1, keepG gg126 hH118.1.2.2.2.1, keepG gg126 hH118.1.2.2.2.2⟩, hH118.2.trans gg126⟩ (fun hH125 => ?_)
  have hzwc124 := hH118.2.size
  clear hK K
  (try simp only [Act.put, List.setIfInBounds_toArray, List.set_cons_zero, List.set_cons_succ])
  have bS_128 := keepO gg126 bS_121
  clear bS_121
  have N1_129 := N1_122.gr gg126
  clear N1_122
  have N2_130 := N2_123.gr gg126
  clear N2_123
  have N3_131 := N3_120.gr gg126
  clear N3_120
  refine wpAnyH_ready (rs := [8]) (by kernel_rfl) (by simp) ?_
  refine AllReadyH.cons (o := ({ dst := none, op := Op.store 36 (Operand.tmp 17) (Operand.tmp 109), type := 0, pos := "outright.go:105", after := #[{ on := 7, ground := Ground.data }, { on := 6, ground := Ground.data }, { on := 6, ground := Ground.chain }, { on := 0, ground := Ground.phase }, { on := 1, ground := Ground.phase }, { on := 2, ground := Ground.phase }, { on := 3, ground := Ground.phase }, { on := 4, ground := Ground.phase }, { on := 5, ground := Ground.phase }, { on := 6, ground := Ground.phase }, { on := 7, ground := Ground.phase }], guard := none } : Oper)) rfl (fun K hK => ?_) AllReadyH.nil
  obtain ⟨t0', t1', t2'⟩ := bx3P bS_128
  obtain ⟨u0', u1', u2'⟩ := out3P bS_128
  go_simp
  refine hK.out _ _ ⟨⟨set3_far (Nat.ne_of_gt (Nat.lt_of_lt_of_le hpX lS105)) hH125.1.1, set3_far (Nat.ne_of_gt (Nat.lt_of_lt_of_le hpX lS105)) hH125.1.2.1, set3_far (Nat.ne_of_gt (Nat.lt_of_lt_of_le hpP lS105)) hH125.1.2.2.1, set3_far (Nat.ne_of_gt (Nat.lt_of_lt_of_le hpP lS105)) hH125.1.2.2.2.1, set3_far (Nat.ne_of_gt (Nat.lt_of_lt_of_le hpP lS105)) hH125.1.2.2.2.2⟩, (((hH125.2.setCell (p := ⟨_, 0, none⟩) lS105 _).setCell (p := ⟨_, 1, none⟩) lS105 _).setCell (p := ⟨_, 2, none⟩) lS105 _)⟩ (fun hS132 => ?_)
  clear hK K t0' t1' t2' u0' u1' u2'
  (try simp only [Act.put, List.setIfInBounds_toArray, List.set_cons_zero, List.set_cons_succ])
  refine wpAnyH_done (by kernel_rfl) ?_ _
  exact ⟨_, _, _, _, _, _, _, _, s4, a4, n4, c4, e4, rfl, put3_blockP bS_128 _ _ _, N4_127.setP bS_128 _ _ _, lS105, hS132.2⟩
def RBp16 (t0 t1 t2 t3 t4 t5 t6 t7 t8 t9 t10 t11 t12 t13 t16 t18 t19 t20 t21 t22 t23 t24 t25 t26 t27 t28 t29 t30 t31 t32 t33 t34 t35 t36 t37 t38 t39 t40 t41 t42 t43 t44 t45 t46 t47 t48 t49 t50 t51 t52 t53 t54 t55 t56 t57 t58 t59 t60 t61 t62 t63 t64 t65 t66 t67 t68 t69 t70 t71 t72 t73 t74 t75 t76 t77 t78 t79 t80 t81 t82 t83 t84 t85 t86 t87 t88 t89 t90 t91 t92 t93 t94 t95 t96 t97 t98 t99 t100 t101 t102 t103 t104 t105 t106 t107 t108 t109 t110 t111 t112 t113 t114 t115 t116 t117 t118 t119 t120 t121 t122 : Value) (pY nY cY pW nW cW : Nat) (sY sW : Bool) (aY aW : Option Addr) (eW : Int) (pG : Nat) (V1 : Int) (M1 : Nat) (wq : World) : Exit → Act → World → Prop
  | .normal, a, w => ∃ u110 u111 u112 u113 u114 u115 u116 u117 u118 u119 u120 u121 u122, a = { tmps := #[t0, t1, t2, t3, t4, t5, t6, t7, .bool true, t9, t10, t11, t12, t13, .pointer (some ⟨pY, 0, none⟩), .pointer (some ⟨pG, 0, none⟩), t16, .pointer (some ⟨pW, 0, none⟩), t18, t19, t20, t21, t22, t23, t24, t25, t26, t27, t28, t29, t30, t31, t32, t33, t34, t35, t36, t37, t38, t39, t40, t41, t42, t43, t44, t45, t46, t47, t48, t49, t50, t51, t52, t53, t54, t55, t56, t57, t58, t59, t60, t61, t62, t63, t64, t65, t66, t67, t68, t69, t70, t71, t72, t73, t74, t75, t76, t77, t78, t79, t80, t81, t82, t83, t84, t85, t86, t87, t88, t89, t90, t91, t92, t93, t94, t95, t96, t97, t98, t99, t100, t101, t102, t103, t104, t105, t106, t107, t108, t109, u110, u111, u112, u113, u114, u115, u116, u117, u118, u119, u120, u121, u122], defers := [] } ∧ Gr wq w
  | _, _, _ => False
set_option maxRecDepth 100000 in
set_option maxHeartbeats 20000000 in
theorem regBp16 (t0 t1 t2 t3 t4 t5 t6 t7 t8 t9 t10 t11 t12 t13 t16 t18 t19 t20 t21 t22 t23 t24 t25 t26 t27 t28 t29 t30 t31 t32 t33 t34 t35 t36 t37 t38 t39 t40 t41 t42 t43 t44 t45 t46 t47 t48 t49 t50 t51 t52 t53 t54 t55 t56 t57 t58 t59 t60 t61 t62 t63 t64 t65 t66 t67 t68 t69 t70 t71 t72 t73 t74 t75 t76 t77 t78 t79 t80 t81 t82 t83 t84 t85 t86 t87 t88 t89 t90 t91 t92 t93 t94 t95 t96 t97 t98 t99 t100 t101 t102 t103 t104 t105 t106 t107 t108 t109 t110 t111 t112 t113 t114 t115 t116 t117 t118 t119 t120 t121 t122 : Value) (pY nY cY pW nW cW : Nat) (sY sW : Bool) (aY aW : Option Addr) (eW : Int) (pG : Nat) (V1 : Int) (M1 : Nat) (wq : World)
    (X1 : Hid (∀ w1, Gr wq w1 → Calls Tryz.prog 11 #[.agg #[.bool sY, .slice aY nY cY]] w1 fun r w' => NzA w' r V1 M1 ∧ Gr w1 w'))
    (X2 : Hid (∀ w1 s a n c e, Gr wq w1 → Nz w1 s a n c e V1 M1 → Calls Tryz.prog 13 #[.agg #[.bool s, .slice a n c, .int .i64 e], .agg #[.bool sW, .slice aW nW cW, .int .i64 eW]] w1 fun r w' => r = .returned (.int .i64 0) ∧ Gr w1 w'))
    (X3 : Hid (∀ w1, Gr wq w1 → Calls Tryz.prog 5 #[] w1 fun r w' => r = .returned (.bool true) ∧ Gr w1 w')) (hpY : pY < wq.heap.size) (hpW : pW < wq.heap.size) (hcs : (wq.cell? ⟨pY, 0, none⟩ = some (.bool sY) ∧ wq.cell? ⟨pY, 1, none⟩ = some (.slice aY nY cY) ∧ wq.cell? ⟨pW, 0, none⟩ = some (.bool sW) ∧ wq.cell? ⟨pW, 1, none⟩ = some (.slice aW nW cW) ∧ wq.cell? ⟨pW, 2, none⟩ = some (.int .i64 eW) ∧ wq.cell? ⟨pG, 0, none⟩ = some (.int .i64 0) ∧ wq.cell? ⟨pG, 1, none⟩ = some (.int .i64 0))) :
    Code.wp Tryz.prog (Code.region 16 #[{ dst := some 110, op := Op.load 29 (Operand.tmp 15), type := 29, pos := "outright.go:106", after := #[], guard := none }, { dst := some 111, op := Op.build 29 #[], type := 29, pos := "outright.go:106", after := #[], guard := none }, { dst := some 112, op := Op.binOp BinOp.eql 29 (Operand.tmp 110) (Operand.tmp 111) 29, type := 4, pos := "outright.go:106", after := #[{ on := 0, ground := Ground.data }, { on := 1, ground := Ground.data }], guard := none }, { dst := some 113, op := Op.move (Operand.tmp 112), type := 4, pos := "outright.go:106", after := #[{ on := 2, ground := Ground.data }], guard := none }, { dst := some 114, op := Op.load 26 (Operand.tmp 14), type := 26, pos := "outright.go:106", after := #[{ on := 3, ground := Ground.guard }], guard := some (3, true) }, { dst := some 115, op := Op.call { callee := Callee.value (Operand.func 11), args := #[Operand.tmp 114], argTypes := #[26] }, type := 36, pos := "outright.go:106", after := #[{ on := 4, ground := Ground.data }, { on := 3, ground := Ground.chain }, { on := 3, ground := Ground.guard }], guard := some (3, true) }, { dst := some 116, op := Op.load 36 (Operand.tmp 17), type := 36, pos := "outright.go:106", after := #[{ on := 3, ground := Ground.guard }], guard := some (3, true) }, { dst := some 117, op := Op.call { callee := Callee.value (Operand.func 13), args := #[Operand.tmp 115, Operand.tmp 116], argTypes := #[36, 36] }, type := 3, pos := "outright.go:106", after := #[{ on := 5, ground := Ground.data }, { on := 6, ground := Ground.data }, { on := 5, ground := Ground.chain }, { on := 3, ground := Ground.guard }], guard := some (3, true) }, { dst := some 118, op := Op.binOp BinOp.eql 3 (Operand.tmp 117) (Operand.const (Value.int IntKind.i64 0)) 3, type := 4, pos := "outright.go:106", after := #[{ on := 7, ground := Ground.data }, { on := 3, ground := Ground.guard }], guard := some (3, true) }, { dst := some 119, op := Op.pick (Operand.tmp 113) (Operand.tmp 118) (Operand.const (Value.bool false)), type := 4, pos := "outright.go:106", after := #[{ on := 3, ground := Ground.data }, { on := 8, ground := Ground.data }], guard := none }, { dst := some 120, op := Op.move (Operand.tmp 119), type := 4, pos := "outright.go:106", after := #[{ on := 9, ground := Ground.data }, { on := 7, ground := Ground.chain }], guard := none }, { dst := some 121, op := Op.call { callee := Callee.value (Operand.func 5), args := #[], argTypes := #[] }, type := 4, pos := "outright.go:106", after := #[{ on := 10, ground := Ground.chain }, { on := 10, ground := Ground.guard }], guard := some (10, true) }, { dst := some 122, op := Op.pick (Operand.tmp 120) (Operand.tmp 121) (Operand.const (Value.bool false)), type := 4, pos := "outright.go:106", after := #[{ on := 10, ground := Ground.data }, { on := 11, ground := Ground.data }], guard := none }, { dst := some 8, op := Op.assign (Operand.tmp 122), type := 4, pos := "outright.go:106", after := #[{ on := 12, ground := Ground.data }, { on := 11, ground := Ground.chain }, { on := 0, ground := Ground.phase }, { on := 1, ground := Ground.phase }, { on := 2, ground := Ground.phase }, { on := 3, ground := Ground.phase }, { on := 4, ground := Ground.phase }, { on := 5, ground := Ground.phase }, { on := 6, ground := Ground.phase }, { on := 7, ground := Ground.phase }, { on := 8, ground := Ground.phase }, { on := 9, ground := Ground.phase }, { on := 10, ground := Ground.phase }, { on := 11, ground := Ground.phase }, { on := 12, ground := Ground.phase }], guard := none }] true) (RBp16 t0 t1 t2 t3 t4 t5 t6 t7 t8 t9 t10 t11 t12 t13 t16 t18 t19 t20 t21 t22 t23 t24 t25 t26 t27 t28 t29 t30 t31 t32 t33 t34 t35 t36 t37 t38 t39 t40 t41 t42 t43 t44 t45 t46 t47 t48 t49 t50 t51 t52 t53 t54 t55 t56 t57 t58 t59 t60 t61 t62 t63 t64 t65 t66 t67 t68 t69 t70 t71 t72 t73 t74 t75 t76 t77 t78 t79 t80 t81 t82 t83 t84 t85 t86 t87 t88 t89 t90 t91 t92 t93 t94 t95 t96 t97 t98 t99 t100 t101 t102 t103 t104 t105 t106 t107 t108 t109 t110 t111 t112 t113 t114 t115 t116 t117 t118 t119 t120 t121 t122 pY nY cY pW nW cW sY sW aY aW eW pG V1 M1 wq) { tmps := #[t0, t1, t2, t3, t4, t5, t6, t7, t8, t9, t10, t11, t12, t13, .pointer (some ⟨pY, 0, none⟩), .pointer (some ⟨pG, 0, none⟩), t16, .pointer (some ⟨pW, 0, none⟩), t18, t19, t20, t21, t22, t23, t24, t25, t26, t27, t28, t29, t30, t31, t32, t33, t34, t35, t36, t37, t38, t39, t40, t41, t42, t43, t44, t45, t46, t47, t48, t49, t50, t51, t52, t53, t54, t55, t56, t57, t58, t59, t60, t61, t62, t63, t64, t65, t66, t67, t68, t69, t70, t71, t72, t73, t74, t75, t76, t77, t78, t79, t80, t81, t82, t83, t84, t85, t86, t87, t88, t89, t90, t91, t92, t93, t94, t95, t96, t97, t98, t99, t100, t101, t102, t103, t104, t105, t106, t107, t108, t109, t110, t111, t112, t113, t114, t115, t116, t117, t118, t119, t120, t121, t122], defers := [] } wq := by
  have hS0 : (wq.drew.cell? ⟨pY, 0, none⟩ = some (.bool sY) ∧ wq.drew.cell? ⟨pY, 1, none⟩ = some (.slice aY nY cY) ∧ wq.drew.cell? ⟨pW, 0, none⟩ = some (.bool sW) ∧ wq.drew.cell? ⟨pW, 1, none⟩ = some (.slice aW nW cW) ∧ wq.drew.cell? ⟨pW, 2, none⟩ = some (.int .i64 eW) ∧ wq.drew.cell? ⟨pG, 0, none⟩ = some (.int .i64 0) ∧ wq.drew.cell? ⟨pG, 1, none⟩ = some (.int .i64 0)) ∧ Gr wq wq.drew := ⟨hcs, (Gr.refl wq).drew⟩
  clear hcs
  refine wp_region_held_drew (S := fun w' => (w'.cell? ⟨pY, 0, none⟩ = some (.bool sY) ∧ w'.cell? ⟨pY, 1, none⟩ = some (.slice aY nY cY) ∧ w'.cell? ⟨pW, 0, none⟩ = some (.bool sW) ∧ w'.cell? ⟨pW, 1, none⟩ = some (.slice aW nW cW) ∧ w'.cell? ⟨pW, 2, none⟩ = some (.int .i64 eW) ∧ w'.cell? ⟨pG, 0, none⟩ = some (.int .i64 0) ∧ w'.cell? ⟨pG, 1, none⟩ = some (.int .i64 0)) ∧ Gr wq w') (by kernel_rfl) hS0 (fun hHeld => ?_)
  clear hS0
  generalize wq.drew = wd at *
  refine wpAnyH_take (i := 0) (oi := ({ dst := some 110, op := Op.load 29 (Operand.tmp 15), type := 29, pos := "outright.go:106", after := #[], guard := none } : Oper)) (v := ?_) rfl (by kernel_rfl) (by kernel_rfl) (by kernel_rfl) (fun _ _ _ h => h) (Or.inl ⟨by rfl, ?_⟩) (by with_reducible assumption) ?_
  rotate_left
  · intro w hSw
    (try dsimp only at hSw)
    first | (go_simp; done) | (go_simp; with_reducible rfl)
  (try simp only [Act.put, List.setIfInBounds_toArray, List.set_cons_zero, List.set_cons_succ])
  refine wpAnyH_take (i := 1) (oi := ({ dst := some 111, op := Op.build 29 #[], type := 29, pos := "outright.go:106", after := #[], guard := none } : Oper)) (v := ?_) rfl (by kernel_rfl) (by kernel_rfl) (by kernel_rfl) (fun _ _ _ h => h) (Or.inl ⟨by rfl, ?_⟩) (by with_reducible assumption) ?_
  rotate_left
  · intro w hSw
    (try dsimp only at hSw)
    first | (go_simp; done) | (go_simp; with_reducible rfl)
  (try simp only [Act.put, List.setIfInBounds_toArray, List.set_cons_zero, List.set_cons_succ])
  refine wpAnyH_take (i := 2) (oi := ({ dst := some 112, op := Op.binOp BinOp.eql 29 (Operand.tmp 110) (Operand.tmp 111) 29, type := 4, pos := "outright.go:106", after := #[{ on := 0, ground := Ground.data }, { on := 1, ground := Ground.data }], guard := none } : Oper)) (v := ?_) rfl (by kernel_rfl) (by kernel_rfl) (by kernel_rfl) (fun _ _ _ h => h) (Or.inl ⟨by rfl, ?_⟩) (by with_reducible assumption) ?_
  rotate_left
  · intro w hSw
    (try dsimp only at hSw)
    first | (go_simp; done) | (go_simp; with_reducible rfl)
  (try simp only [Act.put, List.setIfInBounds_toArray, List.set_cons_zero, List.set_cons_succ])
  refine wpAnyH_take (i := 3) (oi := ({ dst := some 113, op := Op.move (Operand.tmp 112), type := 4, pos := "outright.go:106", after := #[{ on := 2, ground := Ground.data }], guard := none } : Oper)) (v := ?_) rfl (by kernel_rfl) (by kernel_rfl) (by kernel_rfl) (fun _ _ _ h => h) (Or.inl ⟨by rfl, ?_⟩) (by with_reducible assumption) ?_
  rotate_left
  · intro w hSw
    (try dsimp only at hSw)
    first | (go_simp; done) | (go_simp; with_reducible rfl)
  (try simp only [Act.put, List.setIfInBounds_toArray, List.set_cons_zero, List.set_cons_succ])
  refine wpAnyH_take (i := 4) (oi := ({ dst := some 114, op := Op.load 26 (Operand.tmp 14), type := 26, pos := "outright.go:106", after := #[{ on := 3, ground := Ground.guard }], guard := some (3, true) } : Oper)) (v := ?_) rfl (by kernel_rfl) (by kernel_rfl) (by kernel_rfl) (fun _ _ _ h => h) (Or.inl ⟨by rfl, ?_⟩) (by with_reducible assumption) ?_
  rotate_left
  · intro w hSw
    (try dsimp only at hSw)
    first | (go_simp; done) | (go_simp; with_reducible rfl)
  (try simp only [Act.put, List.setIfInBounds_toArray, List.set_cons_zero, List.set_cons_succ])
  refine wpAnyH_take (i := 6) (oi := ({ dst := some 116, op := Op.load 36 (Operand.tmp 17), type := 36, pos := "outright.go:106", after := #[{ on := 3, ground := Ground.guard }], guard := some (3, true) } : Oper)) (v := ?_) rfl (by kernel_rfl) (by kernel_rfl) (by kernel_rfl) (fun _ _ _ h => h) (Or.inl ⟨by rfl, ?_⟩) (by with_reducible assumption) ?_
  rotate_left
  · intro w hSw
    (try dsimp only at hSw)
    first | (go_simp; done) | (go_simp; with_reducible rfl)
  (try simp only [Act.put, List.setIfInBounds_toArray, List.set_cons_zero, List.set_cons_succ])
  refine wpAnyH_ready (rs := [5]) (by kernel_rfl) (by simp) ?_
  refine AllReadyH.cons (o := ({ dst := some 115, op := Op.call { callee := Callee.value (Operand.func 11), args := #[Operand.tmp 114], argTypes := #[26] }, type := 36, pos := "outright.go:106", after := #[{ on := 4, ground := Ground.data }, { on := 3, ground := Ground.chain }, { on := 3, ground := Ground.guard }], guard := some (3, true) } : Oper)) rfl (fun K hK => ?_) AllReadyH.nil
  go_simp
  with_reducible refine (X1.out _ hHeld.2).mono ?_
  rintro r wc1 ⟨⟨s1, a1, n1, c1, e1, rfl, N1_4⟩, gg3⟩
  refine hK.out _ _ ⟨⟨keepG gg3 hHeld.1.1, keepG gg3 hHeld.1.2.1, keepG gg3 hHeld.1.2.2.1, keepG gg3 hHeld.1.2.2.2.1, keepG gg3 hHeld.1.2.2.2.2.1, keepG gg3 hHeld.1.2.2.2.2.2.1, keepG gg3 hHeld.1.2.2.2.2.2.2⟩, hHeld.2.trans gg3⟩ (fun hH2 => ?_)
  have hzwc1 := hHeld.2.size
  clear hK K
  (try simp only [Act.put, List.setIfInBounds_toArray, List.set_cons_zero, List.set_cons_succ])
  refine wpAnyH_ready (rs := [7]) (by kernel_rfl) (by simp) ?_
  refine AllReadyH.cons (o := ({ dst := some 117, op := Op.call { callee := Callee.value (Operand.func 13), args := #[Operand.tmp 115, Operand.tmp 116], argTypes := #[36, 36] }, type := 3, pos := "outright.go:106", after := #[{ on := 5, ground := Ground.data }, { on := 6, ground := Ground.data }, { on := 5, ground := Ground.chain }, { on := 3, ground := Ground.guard }], guard := some (3, true) } : Oper)) rfl (fun K hK => ?_) AllReadyH.nil
  go_simp
  with_reducible refine (X2.out _ _ _ _ _ _ hH2.2 N1_4).mono ?_
  rintro r wc5 ⟨rfl, gg7⟩
  refine hK.out _ _ ⟨⟨keepG gg7 hH2.1.1, keepG gg7 hH2.1.2.1, keepG gg7 hH2.1.2.2.1, keepG gg7 hH2.1.2.2.2.1, keepG gg7 hH2.1.2.2.2.2.1, keepG gg7 hH2.1.2.2.2.2.2.1, keepG gg7 hH2.1.2.2.2.2.2.2⟩, hH2.2.trans gg7⟩ (fun hH6 => ?_)
  have hzwc5 := hH2.2.size
  clear hK K
  (try simp only [Act.put, List.setIfInBounds_toArray, List.set_cons_zero, List.set_cons_succ])
  have N1_8 := N1_4.gr gg7
  clear N1_4
  refine wpAnyH_take (i := 8) (oi := ({ dst := some 118, op := Op.binOp BinOp.eql 3 (Operand.tmp 117) (Operand.const (Value.int IntKind.i64 0)) 3, type := 4, pos := "outright.go:106", after := #[{ on := 7, ground := Ground.data }, { on := 3, ground := Ground.guard }], guard := some (3, true) } : Oper)) (v := ?_) rfl (by kernel_rfl) (by kernel_rfl) (by kernel_rfl) (fun _ _ _ h => h) (Or.inl ⟨by rfl, ?_⟩) (by with_reducible assumption) ?_
  rotate_left
  · intro w hSw
    (try dsimp only at hSw)
    first | (go_simp; done) | (go_simp; with_reducible rfl)
  (try simp only [Act.put, List.setIfInBounds_toArray, List.set_cons_zero, List.set_cons_succ])
  refine wpAnyH_take (i := 9) (oi := ({ dst := some 119, op := Op.pick (Operand.tmp 113) (Operand.tmp 118) (Operand.const (Value.bool false)), type := 4, pos := "outright.go:106", after := #[{ on := 3, ground := Ground.data }, { on := 8, ground := Ground.data }], guard := none } : Oper)) (v := ?_) rfl (by kernel_rfl) (by kernel_rfl) (by kernel_rfl) (fun _ _ _ h => h) (Or.inl ⟨by rfl, ?_⟩) (by with_reducible assumption) ?_
  rotate_left
  · intro w hSw
    (try dsimp only at hSw)
    first | (go_simp; done) | (go_simp; with_reducible rfl)
  (try simp only [Act.put, List.setIfInBounds_toArray, List.set_cons_zero, List.set_cons_succ])
  refine wpAnyH_take (i := 10) (oi := ({ dst := some 120, op := Op.move (Operand.tmp 119), type := 4, pos := "outright.go:106", after := #[{ on := 9, ground := Ground.data }, { on := 7, ground := Ground.chain }], guard := none } : Oper)) (v := ?_) rfl (by kernel_rfl) (by kernel_rfl) (by kernel_rfl) (fun _ _ _ h => h) (Or.inl ⟨by rfl, ?_⟩) (by with_reducible assumption) ?_
  rotate_left
  · intro w hSw
    (try dsimp only at hSw)
    first | (go_simp; done) | (go_simp; with_reducible rfl)
  (try simp only [Act.put, List.setIfInBounds_toArray, List.set_cons_zero, List.set_cons_succ])
  refine wpAnyH_ready (rs := [11]) (by kernel_rfl) (by simp) ?_
  refine AllReadyH.cons (o := ({ dst := some 121, op := Op.call { callee := Callee.value (Operand.func 5), args := #[], argTypes := #[] }, type := 4, pos := "outright.go:106", after := #[{ on := 10, ground := Ground.chain }, { on := 10, ground := Ground.guard }], guard := some (10, true) } : Oper)) rfl (fun K hK => ?_) AllReadyH.nil
  go_simp
  with_reducible refine (X3.out _ hH6.2).mono ?_
  rintro r wc9 ⟨rfl, gg11⟩
  refine hK.out _ _ ⟨⟨keepG gg11 hH6.1.1, keepG gg11 hH6.1.2.1, keepG gg11 hH6.1.2.2.1, keepG gg11 hH6.1.2.2.2.1, keepG gg11 hH6.1.2.2.2.2.1, keepG gg11 hH6.1.2.2.2.2.2.1, keepG gg11 hH6.1.2.2.2.2.2.2⟩, hH6.2.trans gg11⟩ (fun hH10 => ?_)
  have hzwc9 := hH6.2.size
  clear hK K
  (try simp only [Act.put, List.setIfInBounds_toArray, List.set_cons_zero, List.set_cons_succ])
  have N1_12 := N1_8.gr gg11
  clear N1_8
  refine wpAnyH_take (i := 12) (oi := ({ dst := some 122, op := Op.pick (Operand.tmp 120) (Operand.tmp 121) (Operand.const (Value.bool false)), type := 4, pos := "outright.go:106", after := #[{ on := 10, ground := Ground.data }, { on := 11, ground := Ground.data }], guard := none } : Oper)) (v := ?_) rfl (by kernel_rfl) (by kernel_rfl) (by kernel_rfl) (fun _ _ _ h => h) (Or.inl ⟨by rfl, ?_⟩) (by with_reducible assumption) ?_
  rotate_left
  · intro w hSw
    (try dsimp only at hSw)
    first | (go_simp; done) | (go_simp; with_reducible rfl)
  (try simp only [Act.put, List.setIfInBounds_toArray, List.set_cons_zero, List.set_cons_succ])
  refine wpAnyH_take (i := 13) (oi := ({ dst := some 8, op := Op.assign (Operand.tmp 122), type := 4, pos := "outright.go:106", after := #[{ on := 12, ground := Ground.data }, { on := 11, ground := Ground.chain }, { on := 0, ground := Ground.phase }, { on := 1, ground := Ground.phase }, { on := 2, ground := Ground.phase }, { on := 3, ground := Ground.phase }, { on := 4, ground := Ground.phase }, { on := 5, ground := Ground.phase }, { on := 6, ground := Ground.phase }, { on := 7, ground := Ground.phase }, { on := 8, ground := Ground.phase }, { on := 9, ground := Ground.phase }, { on := 10, ground := Ground.phase }, { on := 11, ground := Ground.phase }, { on := 12, ground := Ground.phase }], guard := none } : Oper)) (v := ?_) rfl (by kernel_rfl) (by kernel_rfl) (by kernel_rfl) (fun _ _ _ h => h) (Or.inl ⟨by rfl, ?_⟩) (by with_reducible assumption) ?_
  rotate_left
  · intro w hSw
    (try dsimp only at hSw)
    first | (go_simp; done) | (go_simp; with_reducible rfl)
  (try simp only [Act.put, List.setIfInBounds_toArray, List.set_cons_zero, List.set_cons_succ])
  refine wpAnyH_done (by kernel_rfl) ?_ _
  exact ⟨_, _, _, _, _, _, _, _, _, _, _, _, _, rfl, hH10.2⟩
end Go.Proofs.YtnjndegdhhmbaaaGreat
