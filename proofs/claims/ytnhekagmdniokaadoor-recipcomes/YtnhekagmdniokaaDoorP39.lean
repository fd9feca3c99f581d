import Derived.Test.YtnhekagmdniokaaDoorP38
namespace Go.Proofs.YtnhekagmdniokaaDoor
open Go.RowKit
set_option linter.unusedVariables false
set_option linter.unusedSimpArgs false

theorem put3_blockC {w : World} {b : Nat} {c0 c1 c2 : Value} {T : TypeId} {fr : Nat × Nat} (h : w.heap[b]? = some (.cells #[c0, c1, c2] T fr)) (v0 v1 v2 : Value) : (((w.setCell ⟨b, 0, none⟩ v0).setCell ⟨b, 1, none⟩ v1).setCell ⟨b, 2, none⟩ v2).heap[b]? = some (.cells #[v0, v1, v2] T fr) := by
  rw [put1_at (put1_at (put1_at h v0) v1) v2]
  rfl
theorem Nz.setC {w : World} {s : Bool} {ad : Option Addr} {n cap B : Nat} {e : Int} {X : Int} {M : Nat} {u0 : Bool} {u1 : Option Addr} {u2 u3 : Nat} {u4 : Int} {T : TypeId} (h : Nz w s ad n cap e X M) (hb : w.heap[B]? = some (.cells #[.bool u0, .slice u1 u2 u3, .int .i64 u4] T)) (v0 v1 v2 : Value) : Nz (((w.setCell ⟨B, 0, none⟩ v0).setCell ⟨B, 1, none⟩ v1).setCell ⟨B, 2, none⟩ v2) s ad n cap e X M := by
  obtain ⟨m, h1, h2⟩ := h
  exact ⟨m, h1.set3 (h1.apart hb) _ _ _, h2⟩
def RCo14 (t0 t1 t2 t3 t4 t5 t7 t8 t10 t11 t14 t15 t16 t17 t18 t19 t20 t21 t22 t23 t24 t25 t26 t27 t28 t29 t30 t31 t32 t33 t34 t35 t36 t37 t38 t39 t40 t41 t42 t43 t44 t45 t46 t47 t48 t49 t50 t51 t52 t53 t54 t55 t56 t57 t58 t59 t60 t61 t62 t63 t64 t65 t66 t67 t68 t69 t70 t71 t72 t73 t74 t75 t76 t77 t78 t79 t80 t81 t82 t83 t84 t85 : Value) (pS nS cS pR nR cR pO nO cO : Nat) (sS sR sO : Bool) (aS aR aO : Option Addr) (V1 V2 V4 k1 k2 : Int) (M1 M2 M4 : Nat) (wq : World) : Exit → Act → World → Prop
  | .normal, a, w => ∃ u52 u53 u54 u55 u56 u57 u58 u59 u60 u61 u62 u63 u64 u65 u66 u67 u68, a = { tmps := #[t0, t1, t2, t3, t4, t5, .pointer (some ⟨pO, 0, none⟩), t7, t8, .pointer (some ⟨pR, 0, none⟩), t10, t11, .pointer (some ⟨pS, 0, none⟩), .int .i64 0, t14, t15, t16, t17, t18, t19, t20, t21, t22, t23, t24, t25, t26, t27, t28, t29, t30, t31, t32, t33, t34, t35, t36, t37, t38, t39, t40, t41, t42, t43, t44, t45, t46, t47, t48, t49, t50, t51, u52, u53, u54, u55, u56, u57, u58, u59, u60, u61, u62, u63, u64, u65, u66, u67, u68, .bool false, t70, t71, t72, t73, t74, t75, t76, t77, t78, t79, t80, t81, t82, t83, t84, t85], defers := [] } ∧ Gr wq w
  | _, _, _ => False
set_option maxRecDepth 100000 in
set_option maxHeartbeats 20000000 in
theorem regCo14 (t0 t1 t2 t3 t4 t5 t7 t8 t10 t11 t14 t15 t16 t17 t18 t19 t20 t21 t22 t23 t24 t25 t26 t27 t28 t29 t30 t31 t32 t33 t34 t35 t36 t37 t38 t39 t40 t41 t42 t43 t44 t45 t46 t47 t48 t49 t50 t51 t52 t53 t54 t55 t56 t57 t58 t59 t60 t61 t62 t63 t64 t65 t66 t67 t68 t69 t70 t71 t72 t73 t74 t75 t76 t77 t78 t79 t80 t81 t82 t83 t84 t85 : Value) (pS nS cS pR nR cR pO nO cO : Nat) (sS sR sO : Bool) (aS aR aO : Option Addr) (V1 V2 V4 k1 k2 : Int) (M1 M2 M4 : Nat) (wq : World)
    (X1 : Hid (∀ w1, Gr wq w1 → Calls Tryd.prog 18 #[.agg #[.bool sS, .slice aS nS cS]] w1 fun r w' => NzA w' r V1 M1 ∧ Gr w1 w'))
    (X2 : Hid (∀ w1, Gr wq w1 → Calls Tryd.prog 18 #[.agg #[.bool sR, .slice aR nR cR]] w1 fun r w' => NzA w' r V2 M2 ∧ Gr w1 w'))
    (X3 : Hid (∀ w1 s a n c e s' a' n' c' e', Gr wq w1 → Nz w1 s a n c e V1 M1 → Nz w1 s' a' n' c' e' V2 M2 → Calls Tryd.prog 17 #[.agg #[.bool s, .slice a n c, .int .i64 e], .agg #[.bool s', .slice a' n' c', .int .i64 e']] w1 fun r w' => r = .returned (.int .i64 k1) ∧ Gr w1 w'))
    (X4 : Hid (∀ w1, Gr wq w1 → Calls Tryd.prog 18 #[.agg #[.bool sO, .slice aO nO cO]] w1 fun r w' => NzA w' r V4 M4 ∧ Gr w1 w'))
    (X5 : Hid (∀ w1 s a n c e s' a' n' c' e', Gr wq w1 → Nz w1 s a n c e V1 M1 → Nz w1 s' a' n' c' e' V4 M4 → Calls Tryd.prog 17 #[.agg #[.bool s, .slice a n c, .int .i64 e], .agg #[.bool s', .slice a' n' c', .int .i64 e']] w1 fun r w' => r = .returned (.int .i64 k2) ∧ Gr w1 w'))
    (hk1 : ¬ k1 < 0) (hk2 : ¬ 0 < k2) (hpS : pS < wq.heap.size) (hpR : pR < wq.heap.size) (hpO : pO < wq.heap.size) (hcs : (wq.cell? ⟨pS, 0, none⟩ = some (.bool sS) ∧ wq.cell? ⟨pS, 1, none⟩ = some (.slice aS nS cS) ∧ wq.cell? ⟨pR, 0, none⟩ = some (.bool sR) ∧ wq.cell? ⟨pR, 1, none⟩ = some (.slice aR nR cR) ∧ wq.cell? ⟨pO, 0, none⟩ = some (.bool sO) ∧ wq.cell? ⟨pO, 1, none⟩ = some (.slice aO nO cO))) :
    Code.wp Tryd.prog (Code.region 14 #[{ dst := some 52, op := Op.move (Operand.tmp 13), type := 27, pos := "outright.go:72", after := #[], guard := none }, { dst := some 53, op := Op.binOp BinOp.neq 27 (Operand.tmp 52) (Operand.const (Value.int IntKind.i64 0)) 27, type := 4, pos := "outright.go:72", after := #[{ on := 0, ground := Ground.data }], guard := none }, { dst := some 54, op := Op.move (Operand.tmp 53), type := 4, pos := "outright.go:72", after := #[{ on := 1, ground := Ground.data }], guard := none }, { dst := some 55, op := Op.load 24 (Operand.tmp 12), type := 24, pos := "outright.go:72", after := #[{ on := 2, ground := Ground.guard }], guard := some (2, false) }, { dst := some 56, op := Op.call { callee := Callee.value (Operand.func 18), args := #[Operand.tmp 55], argTypes := #[24] }, type := 44, pos := "outright.go:72", after := #[{ on := 3, ground := Ground.data }, { on := 2, ground := Ground.chain }, { on := 2, ground := Ground.guard }], guard := some (2, false) }, { dst := some 57, op := Op.load 24 (Operand.tmp 9), type := 24, pos := "outright.go:72", after := #[{ on := 2, ground := Ground.guard }], guard := some (2, false) }, { dst := some 58, op := Op.call { callee := Callee.value (Operand.func 18), args := #[Operand.tmp 57], argTypes := #[24] }, type := 44, pos := "outright.go:72", after := #[{ on := 5, ground := Ground.data }, { on := 4, ground := Ground.chain }, { on := 2, ground := Ground.guard }], guard := some (2, false) }, { dst := some 59, op := Op.call { callee := Callee.value (Operand.func 17), args := #[Operand.tmp 56, Operand.tmp 58], argTypes := #[44, 44] }, type := 3, pos := "outright.go:72", after := #[{ on := 4, ground := Ground.data }, { on := 6, ground := Ground.data }, { on := 6, ground := Ground.chain }, { on := 2, ground := Ground.guard }], guard := some (2, false) }, { dst := some 60, op := Op.binOp BinOp.lss 3 (Operand.tmp 59) (Operand.const (Value.int IntKind.i64 0)) 3, type := 4, pos := "outright.go:72", after := #[{ on := 7, ground := Ground.data }, { on := 2, ground := Ground.guard }], guard := some (2, false) }, { dst := some 61, op := Op.pick (Operand.tmp 54) (Operand.const (Value.bool true)) (Operand.tmp 60), type := 4, pos := "outright.go:72", after := #[{ on := 2, ground := Ground.data }, { on := 8, ground := Ground.data }], guard := none }, { dst := some 62, op := Op.move (Operand.tmp 61), type := 4, pos := "outright.go:72", after := #[{ on := 9, ground := Ground.data }, { on := 7, ground := Ground.chain }], guard := none }, { dst := some 63, op := Op.load 24 (Operand.tmp 12), type := 24, pos := "outright.go:72", after := #[{ on := 10, ground := Ground.guard }], guard := some (10, false) }, { dst := some 64, op := Op.call { callee := Callee.value (Operand.func 18), args := #[Operand.tmp 63], argTypes := #[24] }, type := 44, pos := "outright.go:72", after := #[{ on := 11, ground := Ground.data }, { on := 10, ground := Ground.chain }, { on := 10, ground := Ground.guard }], guard := some (10, false) }, { dst := some 65, op := Op.load 24 (Operand.tmp 6), type := 24, pos := "outright.go:72", after := #[{ on := 10, ground := Ground.guard }], guard := some (10, false) }, { dst := some 66, op := Op.call { callee := Callee.value (Operand.func 18), args := #[Operand.tmp 65], argTypes := #[24] }, type := 44, pos := "outright.go:72", after := #[{ on := 13, ground := Ground.data }, { on := 12, ground := Ground.chain }, { on := 10, ground := Ground.guard }], guard := some (10, false) }, { dst := some 67, op := Op.call { callee := Callee.value (Operand.func 17), args := #[Operand.tmp 64, Operand.tmp 66], argTypes := #[44, 44] }, type := 3, pos := "outright.go:72", after := #[{ on := 12, ground := Ground.data }, { on := 14, ground := Ground.data }, { on := 14, ground := Ground.chain }, { on := 10, ground := Ground.guard }], guard := some (10, false) }, { dst := some 68, op := Op.binOp BinOp.gtr 3 (Operand.tmp 67) (Operand.const (Value.int IntKind.i64 0)) 3, type := 4, pos := "outright.go:72", after := #[{ on := 15, ground := Ground.data }, { on := 10, ground := Ground.guard }], guard := some (10, false) }, { dst := some 69, op := Op.pick (Operand.tmp 62) (Operand.const (Value.bool true)) (Operand.tmp 68), type := 4, pos := "outright.go:72", after := #[{ on := 10, ground := Ground.data }, { on := 16, ground := Ground.data }], guard := none }] true) (RCo14 t0 t1 t2 t3 t4 t5 t7 t8 t10 t11 t14 t15 t16 t17 t18 t19 t20 t21 t22 t23 t24 t25 t26 t27 t28 t29 t30 t31 t32 t33 t34 t35 t36 t37 t38 t39 t40 t41 t42 t43 t44 t45 t46 t47 t48 t49 t50 t51 t52 t53 t54 t55 t56 t57 t58 t59 t60 t61 t62 t63 t64 t65 t66 t67 t68 t69 t70 t71 t72 t73 t74 t75 t76 t77 t78 t79 t80 t81 t82 t83 t84 t85 pS nS cS pR nR cR pO nO cO sS sR sO aS aR aO V1 V2 V4 k1 k2 M1 M2 M4 wq) { tmps := #[t0, t1, t2, t3, t4, t5, .pointer (some ⟨pO, 0, none⟩), t7, t8, .pointer (some ⟨pR, 0, none⟩), t10, t11, .pointer (some ⟨pS, 0, none⟩), .int .i64 0, t14, t15, t16, t17, t18, t19, t20, t21, t22, t23, t24, t25, t26, t27, t28, t29, t30, t31, t32, t33, t34, t35, t36, t37, t38, t39, t40, t41, t42, t43, t44, t45, t46, t47, t48, t49, t50, t51, t52, t53, t54, t55, t56, t57, t58, t59, t60, t61, t62, t63, t64, t65, t66, t67, t68, t69, t70, t71, t72, t73, t74, t75, t76, t77, t78, t79, t80, t81, t82, t83, t84, t85], defers := [] } wq := by
  have hS0 : (wq.drew.cell? ⟨pS, 0, none⟩ = some (.bool sS) ∧ wq.drew.cell? ⟨pS, 1, none⟩ = some (.slice aS nS cS) ∧ wq.drew.cell? ⟨pR, 0, none⟩ = some (.bool sR) ∧ wq.drew.cell? ⟨pR, 1, none⟩ = some (.slice aR nR cR) ∧ wq.drew.cell? ⟨pO, 0, none⟩ = some (.bool sO) ∧ wq.drew.cell? ⟨pO, 1, none⟩ = some (.slice aO nO cO)) ∧ Gr wq wq.drew := ⟨hcs, (Gr.refl wq).drew⟩
  clear hcs
  refine wp_region_held_drew (S := fun w' => (w'.cell? ⟨pS, 0, none⟩ = some (.bool sS) ∧ w'.cell? ⟨pS, 1, none⟩ = some (.slice aS nS cS) ∧ w'.cell? ⟨pR, 0, none⟩ = some (.bool sR) ∧ w'.cell? ⟨pR, 1, none⟩ = some (.slice aR nR cR) ∧ w'.cell? ⟨pO, 0, none⟩ = some (.bool sO) ∧ w'.cell? ⟨pO, 1, none⟩ = some (.slice aO nO cO)) ∧ Gr wq w') (by kernel_rfl) hS0 (fun hHeld => ?_)
  clear hS0
  generalize wq.drew = wd at *
  refine wpAnyH_take (i := 0) (oi := ({ dst := some 52, op := Op.move (Operand.tmp 13), type := 27, pos := "outright.go:72", after := #[], guard := none } : Oper)) (v := ?_) rfl (by kernel_rfl) (by kernel_rfl) (by kernel_rfl) (fun _ _ _ h => h) (Or.inl ⟨by rfl, ?_⟩) (by with_reducible assumption) ?_
  rotate_left
  · intro w hSw
    (try dsimp only at hSw)
    first | (go_simp; done) | (go_simp; with_reducible rfl)
  (try simp only [Act.put, List.setIfInBounds_toArray, List.set_cons_zero, List.set_cons_succ])
  refine wpAnyH_take (i := 1) (oi := ({ dst := some 53, op := Op.binOp BinOp.neq 27 (Operand.tmp 52) (Operand.const (Value.int IntKind.i64 0)) 27, type := 4, pos := "outright.go:72", after := #[{ on := 0, ground := Ground.data }], guard := none } : Oper)) (v := ?_) rfl (by kernel_rfl) (by kernel_rfl) (by kernel_rfl) (fun _ _ _ h => h) (Or.inl ⟨by rfl, ?_⟩) (by with_reducible assumption) ?_
  rotate_left
  · intro w hSw
    (try dsimp only at hSw)
    first | (go_simp; done) | (go_simp; with_reducible rfl)
  (try simp only [Act.put, List.setIfInBounds_toArray, List.set_cons_zero, List.set_cons_succ])
  refine wpAnyH_take (i := 2) (oi := ({ dst := some 54, op := Op.move (Operand.tmp 53), type := 4, pos := "outright.go:72", after := #[{ on := 1, ground := Ground.data }], guard := none } : Oper)) (v := ?_) rfl (by kernel_rfl) (by kernel_rfl) (by kernel_rfl) (fun _ _ _ h => h) (Or.inl ⟨by rfl, ?_⟩) (by with_reducible assumption) ?_
  rotate_left
  · intro w hSw
    (try dsimp only at hSw)
    first | (go_simp; done) | (go_simp; with_reducible rfl)
  (try simp only [Act.put, List.setIfInBounds_toArray, List.set_cons_zero, List.set_cons_succ])
  refine wpAnyH_take (i := 3) (oi := ({ dst := some 55, op := Op.load 24 (Operand.tmp 12), type := 24, pos := "outright.go:72", after := #[{ on := 2, ground := Ground.guard }], guard := some (2, false) } : Oper)) (v := ?_) rfl (by kernel_rfl) (by kernel_rfl) (by kernel_rfl) (fun _ _ _ h => h) (Or.inl ⟨by rfl, ?_⟩) (by with_reducible assumption) ?_
  rotate_left
  · intro w hSw
    (try dsimp only at hSw)
    first | (go_simp; done) | (go_simp; with_reducible rfl)
  (try simp only [Act.put, List.setIfInBounds_toArray, List.set_cons_zero, List.set_cons_succ])
  refine wpAnyH_take (i := 5) (oi := ({ dst := some 57, op := Op.load 24 (Operand.tmp 9), type := 24, pos := "outright.go:72", after := #[{ on := 2, ground := Ground.guard }], guard := some (2, false) } : Oper)) (v := ?_) rfl (by kernel_rfl) (by kernel_rfl) (by kernel_rfl) (fun _ _ _ h => h) (Or.inl ⟨by rfl, ?_⟩) (by with_reducible assumption) ?_
  rotate_left
  · intro w hSw
    (try dsimp only at hSw)
    first | (go_simp; done) | (go_simp; with_reducible rfl)
  (try simp only [Act.put, List.setIfInBounds_toArray, List.set_cons_zero, List.set_cons_succ])
  refine wpAnyH_ready (rs := [4]) (by kernel_rfl) (by simp) ?_
  refine AllReadyH.cons (o := ({ dst := some 56, op := Op.call { callee := Callee.value (Operand.func 18), args := #[Operand.tmp 55], argTypes := #[24] }, type := 44, pos := "outright.go:72", after := #[{ on := 3, ground := Ground.data }, { on := 2, ground := Ground.chain }, { on := 2, ground := Ground.guard }], guard := some (2, false) } : Oper)) rfl (fun K hK => ?_) AllReadyH.nil
  go_simp
  with_reducible refine (X1.out _ hHeld.2).mono ?_
  rintro r wc1 ⟨⟨s1, a1, n1, c1, e1, rfl, N1_4⟩, gg3⟩
  refine hK.out _ _ ⟨⟨keepG gg3 hHeld.1.1, keepG gg3 hHeld.1.2.1, keepG gg3 hHeld.1.2.2.1, keepG gg3 hHeld.1.2.2.2.1, keepG gg3 hHeld.1.2.2.2.2.1, keepG gg3 hHeld.1.2.2.2.2.2⟩, hHeld.2.trans gg3⟩ (fun hH2 => ?_)
  have hzwc1 := hHeld.2.size
  clear hK K
  (try simp only [Act.put, List.setIfInBounds_toArray, List.set_cons_zero, List.set_cons_succ])
  refine wpAnyH_ready (rs := [6]) (by kernel_rfl) (by simp) ?_
  refine AllReadyH.cons (o := ({ dst := some 58, op := Op.call { callee := Callee.value (Operand.func 18), args := #[Operand.tmp 57], argTypes := #[24] }, type := 44, pos := "outright.go:72", after := #[{ on := 5, ground := Ground.data }, { on := 4, ground := Ground.chain }, { on := 2, ground := Ground.guard }], guard := some (2, false) } : Oper)) rfl (fun K hK => ?_) AllReadyH.nil
  go_simp
  with_reducible refine (X2.out _ hH2.2).mono ?_
  rintro r wc5 ⟨⟨s2, a2, n2, c2, e2, rfl, N2_8⟩, gg7⟩
  refine hK.out _ _ ⟨⟨keepG gg7 hH2.1.1, keepG gg7 hH2.1.2.1, keepG gg7 hH2.1.2.2.1, keepG gg7 hH2.1.2.2.2.1, keepG gg7 hH2.1.2.2.2.2.1, keepG gg7 hH2.1.2.2.2.2.2⟩, hH2.2.trans gg7⟩ (fun hH6 => ?_)
  have hzwc5 := hH2.2.size
  clear hK K
  (try simp only [Act.put, List.setIfInBounds_toArray, List.set_cons_zero, List.set_cons_succ])
  have N1_9 := N1_4.gr gg7
  clear N1_4
  refine wpAnyH_ready (rs := [7]) (by kernel_rfl) (by simp) ?_
  refine AllReadyH.cons (o := ({ dst := some 59, op := Op.call { callee := Callee.value (Operand.func 17), args := #[Operand.tmp 56, Operand.tmp 58], argTypes := #[44, 44] }, type := 3, pos := "outright.go:72", after := #[{ on := 4, ground := Ground.data }, { on := 6, ground := Ground.data }, { on := 6, ground := Ground.chain }, { on := 2, ground := Ground.guard }], guard := some (2, false) } : Oper)) rfl (fun K hK => ?_) AllReadyH.nil
  go_simp
  with_reducible refine (X3.out _ _ _ _ _ _ _ _ _ _ _ hH6.2 N1_9 N2_8).mono ?_
  rintro r wc10 ⟨rfl, gg12⟩
  refine hK.out _ _ ⟨⟨keepG gg12 hH6.1.1, keepG gg12 hH6.1.2.1, keepG gg12 hH6.1.2.2.1, keepG gg12 hH6.1.2.2.2.1, keepG gg12 hH6.1.2.2.2.2.1, keepG gg12 hH6.1.2.2.2.2.2⟩, hH6.2.trans gg12⟩ (fun hH11 => ?_)
  have hzwc10 := hH6.2.size
  clear hK K
  (try simp only [Act.put, List.setIfInBounds_toArray, List.set_cons_zero, List.set_cons_succ])
  have N1_13 := N1_9.gr gg12
  clear N1_9
  have N2_14 := N2_8.gr gg12
  clear N2_8
  refine wpAnyH_take (i := 8) (oi := ({ dst := some 60, op := Op.binOp BinOp.lss 3 (Operand.tmp 59) (Operand.const (Value.int IntKind.i64 0)) 3, type := 4, pos := "outright.go:72", after := #[{ on := 7, ground := Ground.data }, { on := 2, ground := Ground.guard }], guard := some (2, false) } : Oper)) (v := ?_) rfl (by kernel_rfl) (by kernel_rfl) (by kernel_rfl) (fun _ _ _ h => h) (Or.inl ⟨by rfl, ?_⟩) (by with_reducible assumption) ?_
  rotate_left
  · intro w hSw
    (try dsimp only at hSw)
    first | (go_simp; done) | (go_simp; with_reducible rfl)
  (try simp only [Act.put, List.setIfInBounds_toArray, List.set_cons_zero, List.set_cons_succ])
  refine wpAnyH_take (i := 9) (oi := ({ dst := some 61, op := Op.pick (Operand.tmp 54) (Operand.const (Value.bool true)) (Operand.tmp 60), type := 4, pos := "outright.go:72", after := #[{ on := 2, ground := Ground.data }, { on := 8, ground := Ground.data }], guard := none } : Oper)) (v := ?_) rfl (by kernel_rfl) (by kernel_rfl) (by kernel_rfl) (fun _ _ _ h => h) (Or.inl ⟨by rfl, ?_⟩) (by with_reducible assumption) ?_
  rotate_left
  · intro w hSw
    (try dsimp only at hSw)
    first | (go_simp; done) | (go_simp; with_reducible rfl)
  (try simp only [Act.put, List.setIfInBounds_toArray, List.set_cons_zero, List.set_cons_succ])
  refine wpAnyH_take (i := 10) (oi := ({ dst := some 62, op := Op.move (Operand.tmp 61), type := 4, pos := "outright.go:72", after := #[{ on := 9, ground := Ground.data }, { on := 7, ground := Ground.chain }], guard := none } : Oper)) (v := ?_) rfl (by kernel_rfl) (by kernel_rfl) (by kernel_rfl) (fun _ _ _ h => h) (Or.inl ⟨by rfl, ?_⟩) (by with_reducible assumption) ?_
  rotate_left
  · intro w hSw
    (try dsimp only at hSw)
    first | (go_simp; done) | (go_simp; with_reducible rfl)
  (try simp only [Act.put, List.setIfInBounds_toArray, List.set_cons_zero, List.set_cons_succ])
  refine wpAnyH_take (i := 11) (oi := ({ dst := some 63, op := Op.load 24 (Operand.tmp 12), type := 24, pos := "outright.go:72", after := #[{ on := 10, ground := Ground.guard }], guard := some (10, false) } : Oper)) (v := ?_) rfl (by kernel_rfl) (by kernel_rfl) (by kernel_rfl) (fun _ _ _ h => h) (Or.inl ⟨by rfl, ?_⟩) (by with_reducible assumption) ?_
  rotate_left
  · intro w hSw
    (try dsimp only at hSw)
    first | (go_simp; done) | (go_simp; with_reducible rfl)
  (try simp only [Act.put, List.setIfInBounds_toArray, List.set_cons_zero, List.set_cons_succ])
  refine wpAnyH_take (i := 13) (oi := ({ dst := some 65, op := Op.load 24 (Operand.tmp 6), type := 24, pos := "outright.go:72", after := #[{ on := 10, ground := Ground.guard }], guard := some (10, false) } : Oper)) (v := ?_) rfl (by kernel_rfl) (by kernel_rfl) (by kernel_rfl) (fun _ _ _ h => h) (Or.inl ⟨by rfl, ?_⟩) (by with_reducible assumption) ?_
  rotate_left
  · intro w hSw
    (try dsimp only at hSw)
    first | (go_simp; done) | (go_simp; with_reducible rfl)
  (try simp only [Act.put, List.setIfInBounds_toArray, List.set_cons_zero, List.set_cons_succ])
  refine wpAnyH_ready (rs := [12]) (by kernel_rfl) (by simp) ?_
  refine AllReadyH.cons (o := ({ dst := some 64, op := Op.call { callee := Callee.value (Operand.func 18), args := #[Operand.tmp 63], argTypes := #[24] }, type := 44, pos := "outright.go:72", after := #[{ on := 11, ground := Ground.data }, { on := 10, ground := Ground.chain }, { on := 10, ground := Ground.guard }], guard := some (10, false) } : Oper)) rfl (fun K hK => ?_) AllReadyH.nil
  go_simp
  with_reducible refine (X1.out _ hH11.2).mono ?_
  rintro r wc15 ⟨⟨s3, a3, n3, c3, e3, rfl, N3_18⟩, gg17⟩
  refine hK.out _ _ ⟨⟨keepG gg17 hH11.1.1, keepG gg17 hH11.1.2.1, keepG gg17 hH11.1.2.2.1, keepG gg17 hH11.1.2.2.2.1, keepG gg17 hH11.1.2.2.2.2.1, keepG gg17 hH11.1.2.2.2.2.2⟩, hH11.2.trans gg17⟩ (fun hH16 => ?_)
  have hzwc15 := hH11.2.size
  clear hK K
  (try simp only [Act.put, List.setIfInBounds_toArray, List.set_cons_zero, List.set_cons_succ])
  have N1_19 := N1_13.gr gg17
  clear N1_13
  have N2_20 := N2_14.gr gg17
  clear N2_14
  refine wpAnyH_ready (rs := [14]) (by kernel_rfl) (by simp) ?_
  refine AllReadyH.cons (o := ({ dst := some 66, op := Op.call { callee := Callee.value (Operand.func 18), args := #[Operand.tmp 65], argTypes := #[24] }, type := 44, pos := "outright.go:72", after := #[{ on := 13, ground := Ground.data }, { on := 12, ground := Ground.chain }, { on := 10, ground := Ground.guard }], guard := some (10, false) } : Oper)) rfl (fun K hK => ?_) AllReadyH.nil
  go_simp
  with_reducible refine (X4.out _ hH16.2).mono ?_
  rintro r wc21 ⟨⟨s4, a4, n4, c4, e4, rfl, N4_24⟩, gg23⟩
  refine hK.out _ _ ⟨⟨keepG gg23 hH16.1.1, keepG gg23 hH16.1.2.1, keepG gg23 hH16.1.2.2.1, keepG gg23 hH16.1.2.2.2.1, keepG gg23 hH16.1.2.2.2.2.1, keepG gg23 hH16.1.2.2.2.2.2⟩, hH16.2.trans gg23⟩ (fun hH22 => ?_)
  have hzwc21 := hH16.2.size
  clear hK K
  (try simp only [Act.put, List.setIfInBounds_toArray, List.set_cons_zero, List.set_cons_succ])
  have N1_25 := N1_19.gr gg23
  clear N1_19
  have N2_26 := N2_20.gr gg23
  clear N2_20
  have N3_27 := N3_18.gr gg23
  clear N3_18
  refine wpAnyH_ready (rs := [15]) (by kernel_rfl) (by simp) ?_
  refine AllReadyH.cons (o := ({ dst := some 67, op := Op.call { callee := Callee.value (Operand.func 17), args := #[Operand.tmp 64, Operand.tmp 66], argTypes := #[44, 44] }, type := 3, pos := "outright.go:72", after := #[{ on := 12, ground := Ground.data }, { on := 14, ground := Ground.data }, { on := 14, ground := Ground.chain }, { on := 10, ground := Ground.guard }], guard := some (10, false) } : Oper)) rfl (fun K hK => ?_) AllReadyH.nil
  go_simp
  with_reducible refine (X5.out _ _ _ _ _ _ _ _ _ _ _ hH22.2 N3_27 N4_24).mono ?_
  rintro r wc28 ⟨rfl, gg30⟩
  refine hK.out _ _ ⟨⟨keepG gg30 hH22.1.1, keepG gg30 hH22.1.2.1, keepG gg30 hH22.1.2.2.1, keepG gg30 hH22.1.2.2.2.1, keepG gg30 hH22.1.2.2.2.2.1, keepG gg30 hH22.1.2.2.2.2.2⟩, hH22.2.trans gg30⟩ (fun hH29 => ?_)
  have hzwc28 := hH22.2.size
  clear hK K
  (try simp only [Act.put, List.setIfInBounds_toArray, List.set_cons_zero, List.set_cons_succ])
  have N1_31 := N1_25.gr gg30
  clear N1_25
  have N2_32 := N2_26.gr gg30
  clear N2_26
  have N3_33 := N3_27.gr gg30
  clear N3_27
  have N4_34 := N4_24.gr gg30
  clear N4_24
  refine wpAnyH_take (i := 16) (oi := ({ dst := some 68, op := Op.binOp BinOp.gtr 3 (Operand.tmp 67) (Operand.const (Value.int IntKind.i64 0)) 3, type := 4, pos := "outright.go:72", after := #[{ on := 15, ground := Ground.data }, { on := 10, ground := Ground.guard }], guard := some (10, false) } : Oper)) (v := ?_) rfl (by kernel_rfl) (by kernel_rfl) (by kernel_rfl) (fun _ _ _ h => h) (Or.inl ⟨by rfl, ?_⟩) (by with_reducible assumption) ?_
  rotate_left
  · intro w hSw
    (try dsimp only at hSw)
    first | (go_simp; done) | (go_simp; with_reducible rfl)
  (try simp only [Act.put, List.setIfInBounds_toArray, List.set_cons_zero, List.set_cons_succ])
  refine wpAnyH_take (i := 17) (oi := ({ dst := some 69, op := Op.pick (Operand.tmp 62) (Operand.const (Value.bool true)) (Operand.tmp 68), type := 4, pos := "outright.go:72", after := #[{ on := 10, ground := Ground.data }, { on := 16, ground := Ground.data }], guard := none } : Oper)) (v := ?_) rfl (by kernel_rfl) (by kernel_rfl) (by kernel_rfl) (fun _ _ _ h => h) (Or.inl ⟨by rfl, ?_⟩) (by with_reducible assumption) ?_
  rotate_left
  · intro w hSw
    (try dsimp only at hSw)
    first | (go_simp; done) | (go_simp; with_reducible rfl)
  (try simp only [Act.put, List.setIfInBounds_toArray, List.set_cons_zero, List.set_cons_succ])
  refine wpAnyH_done (by kernel_rfl) ?_ _
  exact ⟨_, _, _, _, _, _, _, _, _, _, _, _, _, _, _, _, _, rfl, hH29.2⟩
def RCo18 (t0 t1 t2 t3 t4 t5 t7 t8 t10 t11 t12 t13 t14 t15 t16 t17 t18 t19 t20 t21 t22 t23 t24 t25 t26 t27 t28 t29 t30 t31 t32 t33 t34 t35 t36 t37 t38 t39 t40 t41 t42 t43 t44 t45 t46 t47 t48 t49 t50 t51 t52 t53 t54 t55 t56 t57 t58 t59 t60 t61 t62 t63 t64 t65 t66 t67 t68 t69 t70 t71 t72 t73 t74 t75 t76 t77 t78 t79 t80 t81 t82 t83 t84 t85 : Value) (pO nO cO pR nR cR : Nat) (sO sR : Bool) (aO aR : Option Addr) (V1 V2 V : Int) (M1 M2 M : Nat) (wq : World) : Exit → Act → World → Prop
  | .normal, a, w => ∃ u74 u75 u76 u77 u78 bS s a9 n9 c9 e, a = { tmps := #[t0, t1, t2, t3, t4, t5, .pointer (some ⟨pO, 0, none⟩), t7, t8, .pointer (some ⟨pR, 0, none⟩), t10, t11, t12, t13, .pointer (some ⟨bS, 0, none⟩), t15, t16, t17, t18, t19, t20, t21, t22, t23, t24, t25, t26, t27, t28, t29, t30, t31, t32, t33, t34, t35, t36, t37, t38, t39, t40, t41, t42, t43, t44, t45, t46, t47, t48, t49, t50, t51, t52, t53, t54, t55, t56, t57, t58, t59, t60, t61, t62, t63, t64, t65, t66, t67, t68, t69, t70, t71, t72, t73, u74, u75, u76, u77, u78, t79, t80, t81, t82, t83, t84, t85], defers := [] } ∧ w.heap[bS]? = some (.cells #[.bool s, .slice a9 n9 c9, .int .i64 e] 44) ∧ Nz w s a9 n9 c9 e V M ∧ wq.heap.size ≤ bS ∧ Gr wq w
  | _, _, _ => False
set_option maxRecDepth 100000 in
set_option maxHeartbeats 20000000 in
theorem regCo18 (t0 t1 t2 t3 t4 t5 t7 t8 t10 t11 t12 t13 t14 t15 t16 t17 t18 t19 t20 t21 t22 t23 t24 t25 t26 t27 t28 t29 t30 t31 t32 t33 t34 t35 t36 t37 t38 t39 t40 t41 t42 t43 t44 t45 t46 t47 t48 t49 t50 t51 t52 t53 t54 t55 t56 t57 t58 t59 t60 t61 t62 t63 t64 t65 t66 t67 t68 t69 t70 t71 t72 t73 t74 t75 t76 t77 t78 t79 t80 t81 t82 t83 t84 t85 : Value) (pO nO cO pR nR cR : Nat) (sO sR : Bool) (aO aR : Option Addr) (V1 V2 V : Int) (M1 M2 M : Nat) (wq : World)
    (X1 : Hid (∀ w1, Gr wq w1 → Calls Tryd.prog 18 #[.agg #[.bool sO, .slice aO nO cO]] w1 fun r w' => NzA w' r V1 M1 ∧ Gr w1 w'))
    (X2 : Hid (∀ w1, Gr wq w1 → Calls Tryd.prog 18 #[.agg #[.bool sR, .slice aR nR cR]] w1 fun r w' => NzA w' r V2 M2 ∧ Gr w1 w'))
    (X3 : Hid (∀ w1 s a n c e s' a' n' c' e', Gr wq w1 → Nz w1 s a n c e V1 M1 → Nz w1 s' a' n' c' e' V2 M2 → Calls Tryd.prog 19 #[.agg #[.bool s, .slice a n c, .int .i64 e], .agg #[.bool s', .slice a' n' c', .int .i64 e']] w1 fun r w' => NzA w' r V M ∧ Gr w1 w')) (hpO : pO < wq.heap.size) (hpR : pR < wq.heap.size) (hcs : (wq.cell? ⟨pO, 0, none⟩ = some (.bool sO) ∧ wq.cell? ⟨pO, 1, none⟩ = some (.slice aO nO cO) ∧ wq.cell? ⟨pR, 0, none⟩ = some (.bool sR) ∧ wq.cell? ⟨pR, 1, none⟩ = some (.slice aR nR cR))) :
    Code.wp Tryd.prog (Code.region 18 #[{ dst := some 74, op := Op.load 24 (Operand.tmp 6), type := 24, pos := "outright.go:80", after := #[], guard := none }, { dst := some 75, op := Op.call { callee := Callee.value (Operand.func 18), args := #[Operand.tmp 74], argTypes := #[24] }, type := 44, pos := "outright.go:80", after := #[{ on := 0, ground := Ground.data }], guard := none }, { dst := some 76, op := Op.load 24 (Operand.tmp 9), type := 24, pos := "outright.go:80", after := #[], guard := none }, { dst := some 77, op := Op.call { callee := Callee.value (Operand.func 18), args := #[Operand.tmp 76], argTypes := #[24] }, type := 44, pos := "outright.go:80", after := #[{ on := 2, ground := Ground.data }, { on := 1, ground := Ground.chain }], guard := none }, { dst := some 78, op := Op.call { callee := Callee.value (Operand.func 19), args := #[Operand.tmp 75, Operand.tmp 77], argTypes := #[44, 44] }, type := 44, pos := "outright.go:80", after := #[{ on := 1, ground := Ground.data }, { on := 3, ground := Ground.data }, { on := 3, ground := Ground.chain }], guard := none }, { dst := some 14, op := Op.alloc 44, type := 0, pos := "outright.go:80", after := #[], guard := none }, { dst := none, op := Op.store 44 (Operand.tmp 14) (Operand.tmp 78), type := 0, pos := "outright.go:80", after := #[{ on := 5, ground := Ground.data }, { on := 4, ground := Ground.data }, { on := 4, ground := Ground.chain }, { on := 0, ground := Ground.phase }, { on := 1, ground := Ground.phase }, { on := 2, ground := Ground.phase }, { on := 3, ground := Ground.phase }, { on := 4, ground := Ground.phase }, { on := 5, ground := Ground.phase }], guard := none }] true) (RCo18 t0 t1 t2 t3 t4 t5 t7 t8 t10 t11 t12 t13 t14 t15 t16 t17 t18 t19 t20 t21 t22 t23 t24 t25 t26 t27 t28 t29 t30 t31 t32 t33 t34 t35 t36 t37 t38 t39 t40 t41 t42 t43 t44 t45 t46 t47 t48 t49 t50 t51 t52 t53 t54 t55 t56 t57 t58 t59 t60 t61 t62 t63 t64 t65 t66 t67 t68 t69 t70 t71 t72 t73 t74 t75 t76 t77 t78 t79 t80 t81 t82 t83 t84 t85 pO nO cO pR nR cR sO sR aO aR V1 V2 V M1 M2 M wq) { tmps := #[t0, t1, t2, t3, t4, t5, .pointer (some ⟨pO, 0, none⟩), t7, t8, .pointer (some ⟨pR, 0, none⟩), t10, t11, t12, t13, t14, t15, t16, t17, t18, t19, t20, t21, t22, t23, t24, t25, t26, t27, t28, t29, t30, t31, t32, t33, t34, t35, t36, t37, t38, t39, t40, t41, t42, t43, t44, t45, t46, t47, t48, t49, t50, t51, t52, t53, t54, t55, t56, t57, t58, t59, t60, t61, t62, t63, t64, t65, t66, t67, t68, t69, t70, t71, t72, t73, t74, t75, t76, t77, t78, t79, t80, t81, t82, t83, t84, t85], defers := [] } wq := by
  have hS0 : (wq.drew.cell? ⟨pO, 0, none⟩ = some (.bool sO) ∧ wq.drew.cell? ⟨pO, 1, none⟩ = some (.slice aO nO cO) ∧ wq.drew.cell? ⟨pR, 0, none⟩ = some (.bool sR) ∧ wq.drew.cell? ⟨pR, 1, none⟩ = some (.slice aR nR cR)) ∧ Gr wq wq.drew := ⟨hcs, (Gr.refl wq).drew⟩
  clear hcs
  refine wp_region_held_drew (S := fun w' => (w'.cell? ⟨pO, 0, none⟩ = some (.bool sO) ∧ w'.cell? ⟨pO, 1, none⟩ = some (.slice aO nO cO) ∧ w'.cell? ⟨pR, 0, none⟩ = some (.bool sR) ∧ w'.cell? ⟨pR, 1, none⟩ = some (.slice aR nR cR)) ∧ Gr wq w') (by kernel_rfl) hS0 (fun hHeld => ?_)
  clear hS0
  generalize wq.drew = wd at *
  refine wpAnyH_take (i := 0) (oi := ({ dst := some 74, op := Op.load 24 (Operand.tmp 6), type := 24, pos := "outright.go:80", after := #[], guard := none } : Oper)) (v := ?_) rfl (by kernel_rfl) (by kernel_rfl) (by kernel_rfl) (fun _ _ _ h => h) (Or.inl ⟨by rfl, ?_⟩) (by with_reducible assumption) ?_
  rotate_left
  · intro w hSw
    (try dsimp only at hSw)
    first | (go_simp; done) | (go_simp; with_reducible rfl)
  (try simp only [Act.put, List.setIfInBounds_toArray, List.set_cons_zero, List.set_cons_succ])
  refine wpAnyH_take (i := 2) (oi := ({ dst := some 76, op := Op.load 24 (Operand.tmp 9), type := 24, pos := "outright.go:80", after := #[], guard := none } : Oper)) (v := ?_) rfl (by kernel_rfl) (by kernel_rfl) (by kernel_rfl) (fun _ _ _ h => h) (Or.inl ⟨by rfl, ?_⟩) (by with_reducible assumption) ?_
  rotate_left
  · intro w hSw
    (try dsimp only at hSw)
    first | (go_simp; done) | (go_simp; with_reducible rfl)
  (try simp only [Act.put, List.setIfInBounds_toArray, List.set_cons_zero, List.set_cons_succ])
  refine wpAnyH_ready (rs := [1, 5]) (by kernel_rfl) (by simp) ?_
  refine AllReadyH.cons (o := ({ dst := some 75, op := Op.call { callee := Callee.value (Operand.func 18), args := #[Operand.tmp 74], argTypes := #[24] }, type := 44, pos := "outright.go:80", after := #[{ on := 0, ground := Ground.data }], guard := none } : Oper)) rfl (fun K hK => ?_) ?_
  · go_simp
    with_reducible refine (X1.out _ hHeld.2).mono ?_
    rintro r wc1 ⟨⟨s1, a1, n1, c1, e1, rfl, N1_4⟩, gg3⟩
    refine hK.out _ _ ⟨⟨keepG gg3 hHeld.1.1, keepG gg3 hHeld.1.2.1, keepG gg3 hHeld.1.2.2.1, keepG gg3 hHeld.1.2.2.2⟩, hHeld.2.trans gg3⟩ (fun hH2 => ?_)
    have hzwc1 := hHeld.2.size
    clear hK K
    (try simp only [Act.put, List.setIfInBounds_toArray, List.set_cons_zero, List.set_cons_succ])
    refine wpAnyH_ready (rs := [3, 5]) (by kernel_rfl) (by simp) ?_
    refine AllReadyH.cons (o := ({ dst := some 77, op := Op.call { callee := Callee.value (Operand.func 18), args := #[Operand.tmp 76], argTypes := #[24] }, type := 44, pos := "outright.go:80", after := #[{ on := 2, ground := Ground.data }, { on := 1, ground := Ground.chain }], guard := none } : Oper)) rfl (fun K hK => ?_) ?_
    · go_simp
      with_reducible refine (X2.out _ hH2.2).mono ?_
      rintro r wc5 ⟨⟨s2, a2, n2, c2, e2, rfl, N2_8⟩, gg7⟩
      refine hK.out _ _ ⟨⟨keepG gg7 hH2.1.1, keepG gg7 hH2.1.2.1, keepG gg7 hH2.1.2.2.1, keepG gg7 hH2.1.2.2.2⟩, hH2.2.trans gg7⟩ (fun hH6 => ?_)
      have hzwc5 := hH2.2.size
      clear hK K
      (try simp only [Act.put, List.setIfInBounds_toArray, List.set_cons_zero, List.set_cons_succ])
      have N1_9 := N1_4.gr gg7
      clear N1_4
      refine wpAnyH_ready (rs := [4, 5]) (by kernel_rfl) (by simp) ?_
      refine AllReadyH.cons (o := ({ dst := some 78, op := Op.call { callee := Callee.value (Operand.func 19), args := #[Operand.tmp 75, Operand.tmp 77], argTypes := #[44, 44] }, type := 44, pos := "outright.go:80", after := #[{ on := 1, ground := Ground.data }, { on := 3, ground := Ground.data }, { on := 3, ground := Ground.chain }], guard := none } : Oper)) rfl (fun K hK => ?_) ?_
      · go_simp
        with_reducible refine (X3.out _ _ _ _ _ _ _ _ _ _ _ hH6.2 N1_9 N2_8).mono ?_
        rintro r wc10 ⟨⟨s3, a3, n3, c3, e3, rfl, N3_13⟩, gg12⟩
        refine hK.out _ _ ⟨⟨keepG gg12 hH6.1.1, keepG gg12 hH6.1.2.1, keepG gg12 hH6.1.2.2.1, keepG gg12 hH6.1.2.2.2⟩, hH6.2.trans gg12⟩ (fun hH11 => ?_)
        have hzwc10 := hH6.2.size
        clear hK K
        (try simp only [Act.put, List.setIfInBounds_toArray, List.set_cons_zero, List.set_cons_succ])
        have N1_14 := N1_9.gr gg12
        clear N1_9
        have N2_15 := N2_8.gr gg12
        clear N2_8
        refine wpAnyH_ready (rs := [5]) (by kernel_rfl) (by simp) ?_
        refine AllReadyH.cons (o := ({ dst := some 14, op := Op.alloc 44, type := 0, pos := "outright.go:80", after := #[], guard := none } : Oper)) rfl (fun K hK => ?_) AllReadyH.nil
        go_simp
        refine hK.out _ _ ⟨⟨keepG ((Gr.refl wc10).alloc (.cells #[.bool false, .slice none 0 0, .int .i64 0] 44)) hH11.1.1, keepG ((Gr.refl wc10).alloc (.cells #[.bool false, .slice none 0 0, .int .i64 0] 44)) hH11.1.2.1, keepG ((Gr.refl wc10).alloc (.cells #[.bool false, .slice none 0 0, .int .i64 0] 44)) hH11.1.2.2.1, keepG ((Gr.refl wc10).alloc (.cells #[.bool false, .slice none 0 0, .int .i64 0] 44)) hH11.1.2.2.2⟩, hH11.2.trans ((Gr.refl wc10).alloc (.cells #[.bool false, .slice none 0 0, .int .i64 0] 44))⟩ (fun hH17 => ?_)
        clear hK K
        (try simp only [Act.put, List.setIfInBounds_toArray, List.set_cons_zero, List.set_cons_succ])
        have bS_19 := blk1 wc10 (.cells #[.bool false, .slice none 0 0, .int .i64 0] 44)
        have gg18 := (Gr.refl wc10).alloc (.cells #[.bool false, .slice none 0 0, .int .i64 0] 44)
        have lS20 := hH11.2.size
        have N1_21 := N1_14.gr gg18
        clear N1_14
        have N2_22 := N2_15.gr gg18
        clear N2_15
        have N3_23 := N3_13.gr gg18
        clear N3_13
        generalize wc10.alloc (.cells #[.bool false, .slice none 0 0, .int .i64 0] 44) = wa16 at *
        refine wpAnyH_ready (rs := [6]) (by kernel_rfl) (by simp) ?_
        refine AllReadyH.cons (o := ({ dst := none, op := Op.store 44 (Operand.tmp 14) (Operand.tmp 78), type := 0, pos := "outright.go:80", after := #[{ on := 5, ground := Ground.data }, { on := 4, ground := Ground.data }, { on := 4, ground := Ground.chain }, { on := 0, ground := Ground.phase }, { on := 1, ground := Ground.phase }, { on := 2, ground := Ground.phase }, { on := 3, ground := Ground.phase }, { on := 4, ground := Ground.phase }, { on := 5, ground := Ground.phase }], guard := none } : Oper)) rfl (fun K hK => ?_) AllReadyH.nil
        obtain ⟨⟨t0', t1', t2'⟩, u0', u1', u2'⟩ := outN bS_19
        go_simp
        refine hK.out _ _ ⟨⟨set3_far (Nat.ne_of_gt (Nat.lt_of_lt_of_le hpO lS20)) hH17.1.1, set3_far (Nat.ne_of_gt (Nat.lt_of_lt_of_le hpO lS20)) hH17.1.2.1, set3_far (Nat.ne_of_gt (Nat.lt_of_lt_of_le hpR lS20)) hH17.1.2.2.1, set3_far (Nat.ne_of_gt (Nat.lt_of_lt_of_le hpR lS20)) hH17.1.2.2.2⟩, (((hH17.2.setCell (p := ⟨_, 0, none⟩) lS20 _).setCell (p := ⟨_, 1, none⟩) lS20 _).setCell (p := ⟨_, 2, none⟩) lS20 _)⟩ (fun hS24 => ?_)
        clear hK K t0' t1' t2' u0' u1' u2'
        (try simp only [Act.put, List.setIfInBounds_toArray, List.set_cons_zero, List.set_cons_succ])
        refine wpAnyH_done (by kernel_rfl) ?_ _
        exact ⟨_, _, _, _, _, _, s3, a3, n3, c3, e3, rfl, put3_blockC bS_19 _ _ _, N3_23.setC bS_19 _ _ _, lS20, hS24.2⟩
      refine AllReadyH.cons (o := ({ dst := some 14, op := Op.alloc 44, type := 0, pos := "outright.go:80", after := #[], guard := none } : Oper)) rfl (fun K hK => ?_) AllReadyH.nil
      go_simp
      refine hK.out _ _ ⟨⟨keepG ((Gr.refl wc5).alloc (.cells #[.bool false, .slice none 0 0, .int .i64 0] 44)) hH6.1.1, keepG ((Gr.refl wc5).alloc (.cells #[.bool false, .slice none 0 0, .int .i64 0] 44)) hH6.1.2.1, keepG ((Gr.refl wc5).alloc (.cells #[.bool false, .slice none 0 0, .int .i64 0] 44)) hH6.1.2.2.1, keepG ((Gr.refl wc5).alloc (.cells #[.bool false, .slice none 0 0, .int .i64 0] 44)) hH6.1.2.2.2⟩, hH6.2.trans ((Gr.refl wc5).alloc (.cells #[.bool false, .slice none 0 0, .int .i64 0] 44))⟩ (fun hH26 => ?_)
      clear hK K
      (try simp only [Act.put, List.setIfInBounds_toArray, List.set_cons_zero, List.set_cons_succ])
      have bS_28 := blk1 wc5 (.cells #[.bool false, .slice none 0 0, .int .i64 0] 44)
      have gg27 := (Gr.refl wc5).alloc (.cells #[.bool false, .slice none 0 0, .int .i64 0] 44)
      have lS29 := hH6.2.size
      have N1_30 := N1_9.gr gg27
      clear N1_9
      have N2_31 := N2_8.gr gg27
      clear N2_8
      generalize wc5.alloc (.cells #[.bool false, .slice none 0 0, .int .i64 0] 44) = wa25 at *
      refine wpAnyH_ready (rs := [4]) (by kernel_rfl) (by simp) ?_
      refine AllReadyH.cons (o := ({ dst := some 78, op := Op.call { callee := Callee.value (Operand.func 19), args := #[Operand.tmp 75, Operand.tmp 77], argTypes := #[44, 44] }, type := 44, pos := "outright.go:80", after := #[{ on := 1, ground := Ground.data }, { on := 3, ground := Ground.data }, { on := 3, ground := Ground.chain }], guard := none } : Oper)) rfl (fun K hK => ?_) AllReadyH.nil
      go_simp
      with_reducible refine (X3.out _ _ _ _ _ _ _ _ _ _ _ hH26.2 N1_30 N2_31).mono ?_
      rintro r wc32 ⟨⟨s3, a3, n3, c3, e3, rfl, N3_35⟩, gg34⟩
      refine hK.out _ _ ⟨⟨keepG gg34 hH26.1.1, keepG gg34 hH26.1.2.1, keepG gg34 hH26.1.2.2.1, keepG gg34 hH26.1.2.2.2⟩, hH26.2.trans gg34⟩ (fun hH33 => ?_)
      have hzwc32 := hH26.2.size
      clear hK K
      (try simp only [Act.put, List.setIfInBounds_toArray, List.set_cons_zero, List.set_cons_succ])
      have N1_36 := N1_30.gr gg34
      clear N1_30
      have N2_37 := N2_31.gr gg34
      clear N2_31
      have bS_38 := keepO gg34 bS_28
      clear bS_28
      refine wpAnyH_ready (rs := [6]) (by kernel_rfl) (by simp) ?_
      refine AllReadyH.cons (o := ({ dst := none, op := Op.store 44 (Operand.tmp 14) (Operand.tmp 78), type := 0, pos := "outright.go:80", after := #[{ on := 5, ground := Ground.data }, { on := 4, ground := Ground.data }, { on := 4, ground := Ground.chain }, { on := 0, ground := Ground.phase }, { on := 1, ground := Ground.phase }, { on := 2, ground := Ground.phase }, { on := 3, ground := Ground.phase }, { on := 4, ground := Ground.phase }, { on := 5, ground := Ground.phase }], guard := none } : Oper)) rfl (fun K hK => ?_) AllReadyH.nil
      obtain ⟨⟨t0', t1', t2'⟩, u0', u1', u2'⟩ := outN bS_38
      go_simp
      refine hK.out _ _ ⟨⟨set3_far (Nat.ne_of_gt (Nat.lt_of_lt_of_le hpO lS29)) hH33.1.1, set3_far (Nat.ne_of_gt (Nat.lt_of_lt_of_le hpO lS29)) hH33.1.2.1, set3_far (Nat.ne_of_gt (Nat.lt_of_lt_of_le hpR lS29)) hH33.1.2.2.1, set3_far (Nat.ne_of_gt (Nat.lt_of_lt_of_le hpR lS29)) hH33.1.2.2.2⟩, (((hH33.2.setCell (p := ⟨_, 0, none⟩) lS29 _).setCell (p := ⟨_, 1, none⟩) lS29 _).setCell (p := ⟨_, 2, none⟩) lS29 _)⟩ (fun hS39 => ?_)
      clear hK K t0' t1' t2' u0' u1' u2'
      (try simp only [Act.put, List.setIfInBounds_toArray, List.set_cons_zero, List.set_cons_succ])
      refine wpAnyH_done (by kernel_rfl) ?_ _
      exact ⟨_, _, _, _, _, _, s3, a3, n3, c3, e3, rfl, put3_blockC bS_38 _ _ _, N3_35.setC bS_38 _ _ _, lS29, hS39.2⟩
    refine AllReadyH.cons (o := ({ dst := some 14, op := Op.alloc 44, type := 0, pos := "outright.go:80", after := #[], guard := none } : Oper)) rfl (fun K hK => ?_) AllReadyH.nil
    go_simp
    refine hK.out _ _ ⟨⟨keepG ((Gr.refl wc1).alloc (.cells #[.bool false, .slice none 0 0, .int .i64 0] 44)) hH2.1.1, keepG ((Gr.refl wc1).alloc (.cells #[.bool false, .slice none 0 0, .int .i64 0] 44)) hH2.1.2.1, keepG ((Gr.refl wc1).alloc (.cells #[.bool false, .slice none 0 0, .int .i64 0] 44)) hH2.1.2.2.1, keepG ((Gr.refl wc1).alloc (.cells #[.bool false, .slice none 0 0, .int .i64 0] 44)) hH2.1.2.2.2⟩, hH2.2.trans ((Gr.refl wc1).alloc (.cells #[.bool false, .slice none 0 0, .int .i64 0] 44))⟩ (fun hH41 => ?_)
    clear hK K
    (try simp only [Act.put, List.setIfInBounds_toArray, List.set_cons_zero, List.set_cons_succ])
    have bS_43 := blk1 wc1 (.cells #[.bool false, .slice none 0 0, .int .i64 0] 44)
    have gg42 := (Gr.refl wc1).alloc (.cells #[.bool false, .slice none 0 0, .int .i64 0] 44)
    have lS44 := hH2.2.size
    have N1_45 := N1_4.gr gg42
    clear N1_4
    generalize wc1.alloc (.cells #[.bool false, .slice none 0 0, .int .i64 0] 44) = wa40 at *
    refine wpAnyH_ready (rs := [3]) (by kernel_rfl) (by simp) ?_
    refine AllReadyH.cons (o := ({ dst := some 77, op := Op.call { callee := Callee.value (Operand.func 18), args := #[Operand.tmp 76], argTypes := #[24] }, type := 44, pos := "outright.go:80", after := #[{ on := 2, ground := Ground.data }, { on := 1, ground := Ground.chain }], guard := none } : Oper)) rfl (fun K hK => ?_) AllReadyH.nil
    go_simp
    with_reducible refine (X2.out _ hH41.2).mono ?_
    rintro r wc46 ⟨⟨s2, a2, n2, c2, e2, rfl, N2_49⟩, gg48⟩
    refine hK.out _ _ ⟨⟨keepG gg48 hH41.1.1, keepG gg48 hH41.1.2.1, keepG gg48 hH41.1.2.2.1, keepG gg48 hH41.1.2.2.2⟩, hH41.2.trans gg48⟩ (fun hH47 => ?_)
    have hzwc46 := hH41.2.size
    clear hK K
    (try simp only [Act.put, List.setIfInBounds_toArray, List.set_cons_zero, List.set_cons_succ])
    have N1_50 := N1_45.gr gg48
    clear N1_45
    have bS_51 := keepO gg48 bS_43
    clear bS_43
    refine wpAnyH_ready (rs := [4]) (by kernel_rfl) (by simp) ?_
    refine AllReadyH.cons (o := ({ dst := some 78, op := Op.call { callee := Callee.value (Operand.func 19), args := #[Operand.tmp 75, Operand.tmp 77], argTypes := #[44, 44] }, type := 44, pos := "outright.go:80", after := #[{ on := 1, ground := Ground.data }, { on := 3, ground := Ground.data }, { on := 3, ground := Ground.chain }], guard := none } : Oper)) rfl (fun K hK => ?_) AllReadyH.nil
    go_simp
    with_reducible refine (X3.out _ _ _ _ _ _ _ _ _ _ _ hH47.2 N1_50 N2_49).mono ?_
    rintro r wc52 ⟨⟨s3, a3, n3, c3, e3, rfl, N3_55⟩, gg54⟩
    refine hK.out _ _ ⟨⟨keepG gg54 hH47.1.1, keepG gg54 hH47.1.2.1, keepG gg54 hH47.1.2.2.1, keepG gg54 hH47.1.2.2.2⟩, hH47.2.trans gg54⟩ (fun hH53 => ?_)
    have hzwc52 := hH47.2.size
    clear hK K
    (try simp only [Act.put, List.setIfInBounds_toArray, List.set_cons_zero, List.set_cons_succ])
    have N1_56 := N1_50.gr gg54
    clear N1_50
    have bS_57 := keepO gg54 bS_51
    clear bS_51
    have N2_58 := N2_49.gr gg54
    clear N2_49
    refine wpAnyH_ready (rs := [6]) (by kernel_rfl) (by simp) ?_
    refine AllReadyH.cons (o := ({ dst := none, op := Op.store 44 (Operand.tmp 14) (Operand.tmp 78), type := 0, pos := "outright.go:80", after := #[{ on := 5, ground := Ground.data }, { on := 4, ground := Ground.data }, { on := 4, ground := Ground.chain }, { on := 0, ground := Ground.phase }, { on := 1, ground := Ground.phase }, { on := 2, ground := Ground.phase }, { on := 3, ground := Ground.phase }, { on := 4, ground := Ground.phase }, { on := 5, ground := Ground.phase }], guard := none } : Oper)) rfl (fun K hK => ?_) AllReadyH.nil
    obtain ⟨⟨t0', t1', t2'⟩, u0', u1', u2'⟩ := outN bS_57
    go_simp
    refine hK.out _ _ ⟨⟨set3_far (Nat.ne_of_gt (Nat.lt_of_lt_of_le hpO lS44)) hH53.1.1, set3_far (Nat.ne_of_gt (Nat.lt_of_lt_of_le hpO lS44)) hH53.1.2.1, set3_far (Nat.ne_of_gt (Nat.lt_of_lt_of_le hpR lS44)) hH53.1.2.2.1, set3_far (Nat.ne_of_gt (Nat.lt_of_lt_of_le hpR lS44)) hH53.1.2.2.2⟩, (((hH53.2.setCell (p := ⟨_, 0, none⟩) lS44 _).setCell (p := ⟨_, 1, none⟩) lS44 _).setCell (p := ⟨_, 2, none⟩) lS44 _)⟩ (fun hS59 => ?_)
    clear hK K t0' t1' t2' u0' u1' u2'
    (try simp only [Act.put, List.setIfInBounds_toArray, List.set_cons_zero, List.set_cons_succ])
    refine wpAnyH_done (by kernel_rfl) ?_ _
    exact ⟨_, _, _, _, _, _, s3, a3, n3, c3, e3, rfl, put3_blockC bS_57 _ _ _, N3_55.setC bS_57 _ _ _, lS44, hS59.2⟩
  refine AllReadyH.cons (o := ({ dst := some 14, op := Op.alloc 44, type := 0, pos := "outright.go:80", after := #[], guard := none } : Oper)) rfl (fun K hK => ?_) AllReadyH.nil
  go_simp
  refine hK.out _ _ ⟨⟨keepG ((Gr.refl wd).alloc (.cells #[.bool false, .slice none 0 0, .int .i64 0] 44)) hHeld.1.1, keepG ((Gr.refl wd).alloc (.cells #[.bool false, .slice none 0 0, .int .i64 0] 44)) hHeld.1.2.1, keepG ((Gr.refl wd).alloc (.cells #[.bool false, .slice none 0 0, .int .i64 0] 44)) hHeld.1.2.2.1, keepG ((Gr.refl wd).alloc (.cells #[.bool false, .slice none 0 0, .int .i64 0] 44)) hHeld.1.2.2.2⟩, hHeld.2.trans ((Gr.refl wd).alloc (.cells #[.bool false, .slice none 0 0, .int .i64 0] 44))⟩ (fun hH61 => ?_)
  clear hK K
  (try simp only [Act.put, List.setIfInBounds_toArray, List.set_cons_zero, List.set_cons_succ])
  have bS_63 := blk1 wd (.cells #[.bool false, .slice none 0 0, .int .i64 0] 44)
  have gg62 := (Gr.refl wd).alloc (.cells #[.bool false, .slice none 0 0, .int .i64 0] 44)
  have lS64 := hHeld.2.size
  generalize wd.alloc (.cells #[.bool false, .slice none 0 0, .int .i64 0] 44) = wa60 at *
  refine wpAnyH_ready (rs := [1]) (by kernel_rfl) (by simp) ?_
  refine AllReadyH.cons (o := ({ dst := some 75, op := Op.call { callee := Callee.value (Operand.func 18), args := #[Operand.tmp 74], argTypes := #[24] }, type := 44, pos := "outright.go:80", after := #[{ on := 0, ground := Ground.data }], guard := none } : Oper)) rfl (fun K hK => ?_) AllReadyH.nil
  go_simp
  with_reducible refine (X1.out _ hH61.2).mono ?_
  rintro r wc65 ⟨⟨s1, a1, n1, c1, e1, rfl, N1_68⟩, gg67⟩
  refine hK.out _ _ ⟨⟨keepG gg67 hH61.1.1, keepG gg67 hH61.1.2.1, keepG gg67 hH61.1.2.2.1, keepG gg67 hH61.1.2.2.2⟩, hH61.2.trans gg67⟩ (fun hH66 => ?_)
  have hzwc65 := hH61.2.size
  clear hK K
  (try simp only [Act.put, List.setIfInBounds_toArray, List.set_cons_zero, List.set_cons_succ])
  have bS_69 := keepO gg67 bS_63
  clear bS_63
  refine wpAnyH_ready (rs := [3]) (by kernel_rfl) (by simp) ?_
  refine AllReadyH.cons (o := ({ dst := some 77, op := Op.call { callee := Callee.value (Operand.func 18), args := #[Operand.tmp 76], argTypes := #[24] }, type := 44, pos := "outright.go:80", after := #[{ on := 2, ground := Ground.data }, { on := 1, ground := Ground.chain }], guard := none } : Oper)) rfl (fun K hK => ?_) AllReadyH.nil
  go_simp
  with_reducible refine (X2.out _ hH66.2).mono ?_
  rintro r wc70 ⟨⟨s2, a2, n2, c2, e2, rfl, N2_73⟩, gg72⟩
  refine hK.out _ _ ⟨⟨keepG gg72 hH66.1.1, keepG gg72 hH66.1.2.1, keepG gg72 hH66.1.2.2.1, keepG gg72 hH66.1.2.2.2⟩, hH66.2.trans gg72⟩ (fun hH71 => ?_)
  have hzwc70 := hH66.2.size
  clear hK K
  (try simp only [Act.put, List.setIfInBounds_toArray, List.set_cons_zero, List.set_cons_succ])
  have bS_74 := keepO gg72 bS_69
  clear bS_69
  have N1_75 := N1_68.gr gg72
  clear N1_68
  refine wpAnyH_ready (rs := [4]) (by kernel_rfl) (by simp) ?_
  refine AllReadyH.cons (o := ({ dst := some 78, op := Op.call { callee := Callee.value (Operand.func 19), args := #[Operand.tmp 75, Operand.tmp 77], argTypes := #[44, 44] }, type := 44, pos := "outright.go:80", after := #[{ on := 1, ground := Ground.data }, { on := 3, ground := Ground.data }, { on := 3, ground := Ground.chain }], guard := none } : Oper)) rfl (fun K hK => ?_) AllReadyH.nil
  go_simp
  with_reducible refine (X3.out _ _ _ _ _ _ _ _ _ _ _ hH71.2 N1_75 N2_73).mono ?_
  rintro r wc76 ⟨⟨s3, a3, n3, c3, e3, rfl, N3_79⟩, gg78⟩
  refine hK.out _ _ ⟨⟨keepG gg78 hH71.1.1, keepG gg78 hH71.1.2.1, keepG gg78 hH71.1.2.2.1, keepG gg78 hH71.1.2.2.2⟩, hH71.2.trans gg78⟩ (fun hH77 => ?_)
  have hzwc76 := hH71.2.size
  clear hK K
  (try simp only [Act.put, List.setIfInBounds_toArray, List.set_cons_zero, List.set_cons_succ])
  have bS_80 := keepO gg78 bS_74
  clear bS_74
  have N1_81 := N1_75.gr gg78
  clear N1_75
  have N2_82 := N2_73.gr gg78
  clear N2_73
  refine wpAnyH_ready (rs := [6]) (by kernel_rfl) (by simp) ?_
  refine AllReadyH.cons (o := ({ dst := none, op := Op.store 44 (Operand.tmp 14) (Operand.tmp 78), type := 0, pos := "outright.go:80", after := #[{ on := 5, ground := Ground.data }, { on := 4, ground := Ground.data }, { on := 4, ground := Ground.chain }, { on := 0, ground := Ground.phase }, { on := 1, ground := Ground.phase }, { on := 2, ground := Ground.phase }, { on := 3, ground := Ground.phase }, { on := 4, ground := Ground.phase }, { on := 5, ground := Ground.phase }], guard := none } : Oper)) rfl (fun K hK => ?_) AllReadyH.nil
  obtain ⟨⟨t0', t1', t2'⟩, u0', u1', u2'⟩ := outN bS_80
  go_simp
  refine hK.out _ _ ⟨⟨set3_far (Nat.ne_of_gt (Nat.lt_of_lt_of_le hpO lS64)) hH77.1.1, set3_far (Nat.ne_of_gt (Nat.lt_of_lt_of_le hpO lS64)) hH77.1.2.1, set3_far (Nat.ne_of_gt (Nat.lt_of_lt_of_le hpR lS64)) hH77.1.2.2.1, set3_far (Nat.ne_of_gt (Nat.lt_of_lt_of_le hpR lS64)) hH77.1.2.2.2⟩, (((hH77.2.setCell (p := ⟨_, 0, none⟩) lS64 _).setCell (p := ⟨_, 1, none⟩) lS64 _).setCell (p := ⟨_, 2, none⟩) lS64 _)⟩ (fun hS83 => ?_)
  clear hK K t0' t1' t2' u0' u1' u2'
  (try simp only [Act.put, List.setIfInBounds_toArray, List.set_cons_zero, List.set_cons_succ])
  refine wpAnyH_done (by kernel_rfl) ?_ _
  exact ⟨_, _, _, _, _, _, s3, a3, n3, c3, e3, rfl, put3_blockC bS_80 _ _ _, N3_79.setC bS_80 _ _ _, lS64, hS83.2⟩
def RCo19 (t0 t1 t2 t3 t4 t5 t6 t7 t8 t9 t10 t11 t12 t13 t15 t16 t17 t18 t19 t20 t21 t22 t23 t24 t25 t26 t27 t28 t29 t30 t31 t32 t33 t34 t35 t36 t37 t38 t39 t40 t41 t42 t43 t44 t45 t46 t47 t48 t49 t50 t51 t52 t53 t54 t55 t56 t57 t58 t59 t60 t61 t62 t63 t64 t65 t66 t67 t68 t69 t70 t71 t72 t73 t74 t75 t76 t77 t78 t79 t80 t81 t82 t83 t84 t85 : Value) (pL nL cL : Nat) (sL : Bool) (aL : Option Addr) (eL : Int) (V1 k1 : Int) (M1 : Nat) (wq : World) : Exit → Act → World → Prop
  | .normal, a, w => ∃ u79 u80 u81 u82 u83 u84 u85, a = { tmps := #[t0, t1, t2, t3, .bool true, t5, t6, t7, t8, t9, t10, t11, t12, t13, .pointer (some ⟨pL, 0, none⟩), t15, t16, t17, t18, t19, t20, t21, t22, t23, t24, t25, t26, t27, t28, t29, t30, t31, t32, t33, t34, t35, t36, t37, t38, t39, t40, t41, t42, t43, t44, t45, t46, t47, t48, t49, t50, t51, t52, t53, t54, t55, t56, t57, t58, t59, t60, t61, t62, t63, t64, t65, t66, t67, t68, t69, t70, t71, t72, t73, t74, t75, t76, t77, t78, u79, u80, u81, u82, u83, u84, u85], defers := [] } ∧ Gr wq w
  | _, _, _ => False
set_option maxRecDepth 100000 in
set_option maxHeartbeats 20000000 in
theorem regCo19 (t0 t1 t2 t3 t4 t5 t6 t7 t8 t9 t10 t11 t12 t13 t15 t16 t17 t18 t19 t20 t21 t22 t23 t24 t25 t26 t27 t28 t29 t30 t31 t32 t33 t34 t35 t36 t37 t38 t39 t40 t41 t42 t43 t44 t45 t46 t47 t48 t49 t50 t51 t52 t53 t54 t55 t56 t57 t58 t59 t60 t61 t62 t63 t64 t65 t66 t67 t68 t69 t70 t71 t72 t73 t74 t75 t76 t77 t78 t79 t80 t81 t82 t83 t84 t85 : Value) (pL nL cL : Nat) (sL : Bool) (aL : Option Addr) (eL : Int) (V1 k1 : Int) (M1 : Nat) (wq : World)
    (X1 : Hid (∀ w1, Gr wq w1 → Calls Tryd.prog 16 #[.int .i64 1] w1 fun r w' => NzA w' r V1 M1 ∧ Gr w1 w'))
    (X2 : Hid (∀ w1 s a n c e, Gr wq w1 → Nz w1 s a n c e V1 M1 → Calls Tryd.prog 17 #[.agg #[.bool sL, .slice aL nL cL, .int .i64 eL], .agg #[.bool s, .slice a n c, .int .i64 e]] w1 fun r w' => r = .returned (.int .i64 k1) ∧ Gr w1 w'))
    (X3 : Hid (∀ w1, Gr wq w1 → Calls Tryd.prog 10 #[] w1 fun r w' => r = .returned (.bool true) ∧ Gr w1 w'))
    (hk1 : k1 ≤ 0) (hpL : pL < wq.heap.size) (hcs : (wq.cell? ⟨pL, 0, none⟩ = some (.bool sL) ∧ wq.cell? ⟨pL, 1, none⟩ = some (.slice aL nL cL) ∧ wq.cell? ⟨pL, 2, none⟩ = some (.int .i64 eL))) :
    Code.wp Tryd.prog (Code.region 19 #[{ dst := some 79, op := Op.load 44 (Operand.tmp 14), type := 44, pos := "outright.go:81", after := #[], guard := none }, { dst := some 80, op := Op.call { callee := Callee.value (Operand.func 16), args := #[Operand.const (Value.int IntKind.i64 1)], argTypes := #[2] }, type := 44, pos := "outright.go:81", after := #[], guard := none }, { dst := some 81, op := Op.call { callee := Callee.value (Operand.func 17), args := #[Operand.tmp 79, Operand.tmp 80], argTypes := #[44, 44] }, type := 3, pos := "outright.go:81", after := #[{ on := 0, ground := Ground.data }, { on := 1, ground := Ground.data }, { on := 1, ground := Ground.chain }], guard := none }, { dst := some 82, op := Op.binOp BinOp.leq 3 (Operand.tmp 81) (Operand.const (Value.int IntKind.i64 0)) 3, type := 4, pos := "outright.go:81", after := #[{ on := 2, ground := Ground.data }], guard := none }, { dst := some 83, op := Op.move (Operand.tmp 82), type := 4, pos := "outright.go:81", after := #[{ on := 3, ground := Ground.data }, { on := 2, ground := Ground.chain }], guard := none }, { dst := some 84, op := Op.call { callee := Callee.value (Operand.func 10), args := #[], argTypes := #[] }, type := 4, pos := "outright.go:81", after := #[{ on := 4, ground := Ground.chain }, { on := 4, ground := Ground.guard }], guard := some (4, true) }, { dst := some 85, op := Op.pick (Operand.tmp 83) (Operand.tmp 84) (Operand.const (Value.bool false)), type := 4, pos := "outright.go:81", after := #[{ on := 4, ground := Ground.data }, { on := 5, ground := Ground.data }], guard := none }, { dst := some 4, op := Op.assign (Operand.tmp 85), type := 4, pos := "outright.go:81", after := #[{ on := 6, ground := Ground.data }, { on := 5, ground := Ground.chain }, { on := 0, ground := Ground.phase }, { on := 1, ground := Ground.phase }, { on := 2, ground := Ground.phase }, { on := 3, ground := Ground.phase }, { on := 4, ground := Ground.phase }, { on := 5, ground := Ground.phase }, { on := 6, ground := Ground.phase }], guard := none }] true) (RCo19 t0 t1 t2 t3 t4 t5 t6 t7 t8 t9 t10 t11 t12 t13 t15 t16 t17 t18 t19 t20 t21 t22 t23 t24 t25 t26 t27 t28 t29 t30 t31 t32 t33 t34 t35 t36 t37 t38 t39 t40 t41 t42 t43 t44 t45 t46 t47 t48 t49 t50 t51 t52 t53 t54 t55 t56 t57 t58 t59 t60 t61 t62 t63 t64 t65 t66 t67 t68 t69 t70 t71 t72 t73 t74 t75 t76 t77 t78 t79 t80 t81 t82 t83 t84 t85 pL nL cL sL aL eL V1 k1 M1 wq) { tmps := #[t0, t1, t2, t3, t4, t5, t6, t7, t8, t9, t10, t11, t12, t13, .pointer (some ⟨pL, 0, none⟩), t15, t16, t17, t18, t19, t20, t21, t22, t23, t24, t25, t26, t27, t28, t29, t30, t31, t32, t33, t34, t35, t36, t37, t38, t39, t40, t41, t42, t43, t44, t45, t46, t47, t48, t49, t50, t51, t52, t53, t54, t55, t56, t57, t58, t59, t60, t61, t62, t63, t64, t65, t66, t67, t68, t69, t70, t71, t72, t73, t74, t75, t76, t77, t78, t79, t80, t81, t82, t83, t84, t85], defers := [] } wq := by
  have hS0 : (wq.drew.cell? ⟨pL, 0, none⟩ = some (.bool sL) ∧ wq.drew.cell? ⟨pL, 1, none⟩ = some (.slice aL nL cL) ∧ wq.drew.cell? ⟨pL, 2, none⟩ = some (.int .i64 eL)) ∧ Gr wq wq.drew := ⟨hcs, (Gr.refl wq).drew⟩
  clear hcs
  refine wp_region_held_drew (S := fun w' => (w'.cell? ⟨pL, 0, none⟩ = some (.bool sL) ∧ w'.cell? ⟨pL, 1, none⟩ = some (.slice aL nL cL) ∧ w'.cell? ⟨pL, 2, none⟩ = some (.int .i64 eL)) ∧ Gr wq w') (by kernel_rfl) hS0 (fun hHeld => ?_)
  clear hS0
  generalize wq.drew = wd at *
  refine wpAnyH_take (i := 0) (oi := ({ dst := some 79, op := Op.load 44 (Operand.tmp 14), type := 44, pos := "outright.go:81", after := #[], guard := none } : Oper)) (v := ?_) rfl (by kernel_rfl) (by kernel_rfl) (by kernel_rfl) (fun _ _ _ h => h) (Or.inl ⟨by rfl, ?_⟩) (by with_reducible assumption) ?_
  rotate_left
  · intro w hSw
    (try dsimp only at hSw)
    first | (go_simp; done) | (go_simp; with_reducible rfl)
  (try simp only [Act.put, List.setIfInBounds_toArray, List.set_cons_zero, List.set_cons_succ])
  refine wpAnyH_ready (rs := [1]) (by kernel_rfl) (by simp) ?_
  refine AllReadyH.cons (o := ({ dst := some 80, op := Op.call { callee := Callee.value (Operand.func 16), args := #[Operand.const (Value.int IntKind.i64 1)], argTypes := #[2] }, type := 44, pos := "outright.go:81", after := #[], guard := none } : Oper)) rfl (fun K hK => ?_) AllReadyH.nil
  go_simp
  with_reducible refine (X1.out _ hHeld.2).mono ?_
  rintro r wc1 ⟨⟨s1, a1, n1, c1, e1, rfl, N1_4⟩, gg3⟩
  refine hK.out _ _ ⟨⟨keepG gg3 hHeld.1.1, keepG gg3 hHeld.1.2.1, keepG gg3 hHeld.1.2.2⟩, hHeld.2.trans gg3⟩ (fun hH2 => ?_)
  have hzwc1 := hHeld.2.size
  clear hK K
  (try simp only [Act.put, List.setIfInBounds_toArray, List.set_cons_zero, List.set_cons_succ])
  refine wpAnyH_ready (rs := [2]) (by kernel_rfl) (by simp) ?_
  refine AllReadyH.cons (o := ({ dst := some 81, op := Op.call { callee := Callee.value (Operand.func 17), args := #[Operand.tmp 79, Operand.tmp 80], argTypes := #[44, 44] }, type := 3, pos := "outright.go:81", after := #[{ on := 0, ground := Ground.data }, { on := 1, ground := Ground.data }, { on := 1, ground := Ground.chain }], guard := none } : Oper)) rfl (fun K hK => ?_) AllReadyH.nil
  go_simp
  with_reducible refine (X2.out _ _ _ _ _ _ hH2.2 N1_4).mono ?_
  rintro r wc5 ⟨rfl, gg7⟩
  refine hK.out _ _ ⟨⟨keepG gg7 hH2.1.1, keepG gg7 hH2.1.2.1, keepG gg7 hH2.1.2.2⟩, hH2.2.trans gg7⟩ (fun hH6 => ?_)
  have hzwc5 := hH2.2.size
  clear hK K
  (try simp only [Act.put, List.setIfInBounds_toArray, List.set_cons_zero, List.set_cons_succ])
  have N1_8 := N1_4.gr gg7
  clear N1_4
  refine wpAnyH_take (i := 3) (oi := ({ dst := some 82, op := Op.binOp BinOp.leq 3 (Operand.tmp 81) (Operand.const (Value.int IntKind.i64 0)) 3, type := 4, pos := "outright.go:81", after := #[{ on := 2, ground := Ground.data }], guard := none } : Oper)) (v := ?_) rfl (by kernel_rfl) (by kernel_rfl) (by kernel_rfl) (fun _ _ _ h => h) (Or.inl ⟨by rfl, ?_⟩) (by with_reducible assumption) ?_
  rotate_left
  · intro w hSw
    (try dsimp only at hSw)
    first | (go_simp; done) | (go_simp; with_reducible rfl)
  (try simp only [Act.put, List.setIfInBounds_toArray, List.set_cons_zero, List.set_cons_succ])
  refine wpAnyH_take (i := 4) (oi := ({ dst := some 83, op := Op.move (Operand.tmp 82), type := 4, pos := "outright.go:81", after := #[{ on := 3, ground := Ground.data }, { on := 2, ground := Ground.chain }], guard := none } : Oper)) (v := ?_) rfl (by kernel_rfl) (by kernel_rfl) (by kernel_rfl) (fun _ _ _ h => h) (Or.inl ⟨by rfl, ?_⟩) (by with_reducible assumption) ?_
  rotate_left
  · intro w hSw
    (try dsimp only at hSw)
    first | (go_simp; done) | (go_simp; with_reducible rfl)
  (try simp only [Act.put, List.setIfInBounds_toArray, List.set_cons_zero, List.set_cons_succ])
  refine wpAnyH_ready (rs := [5]) (by kernel_rfl) (by simp) ?_
  refine AllReadyH.cons (o := ({ dst := some 84, op := Op.call { callee := Callee.value (Operand.func 10), args := #[], argTypes := #[] }, type := 4, pos := "outright.go:81", after := #[{ on := 4, ground := Ground.chain }, { on := 4, ground := Ground.guard }], guard := some (4, true) } : Oper)) rfl (fun K hK => ?_) AllReadyH.nil
  go_simp
  with_reducible refine (X3.out _ hH6.2).mono ?_
  rintro r wc9 ⟨rfl, gg11⟩
  refine hK.out _ _ ⟨⟨keepG gg11 hH6.1.1, keepG gg11 hH6.1.2.1, keepG gg11 hH6.1.2.2⟩, hH6.2.trans gg11⟩ (fun hH10 => ?_)
  have hzwc9 := hH6.2.size
  clear hK K
  (try simp only [Act.put, List.setIfInBounds_toArray, List.set_cons_zero, List.set_cons_succ])
  have N1_12 := N1_8.gr gg11
  clear N1_8
  refine wpAnyH_take (i := 6) (oi := ({ dst := some 85, op := Op.pick (Operand.tmp 83) (Operand.tmp 84) (Operand.const (Value.bool false)), type := 4, pos := "outright.go:81", after := #[{ on := 4, ground := Ground.data }, { on := 5, ground := Ground.data }], guard := none } : Oper)) (v := ?_) rfl (by kernel_rfl) (by kernel_rfl) (by kernel_rfl) (fun _ _ _ h => h) (Or.inl ⟨by rfl, ?_⟩) (by with_reducible assumption) ?_
  rotate_left
  · intro w hSw
    (try dsimp only at hSw)
    first | (go_simp; done) | (go_simp; with_reducible rfl)
  (try simp only [Act.put, List.setIfInBounds_toArray, List.set_cons_zero, List.set_cons_succ])
  refine wpAnyH_take (i := 7) (oi := ({ dst := some 4, op := Op.assign (Operand.tmp 85), type := 4, pos := "outright.go:81", after := #[{ on := 6, ground := Ground.data }, { on := 5, ground := Ground.chain }, { on := 0, ground := Ground.phase }, { on := 1, ground := Ground.phase }, { on := 2, ground := Ground.phase }, { on := 3, ground := Ground.phase }, { on := 4, ground := Ground.phase }, { on := 5, ground := Ground.phase }, { on := 6, ground := Ground.phase }], guard := none } : Oper)) (v := ?_) rfl (by kernel_rfl) (by kernel_rfl) (by kernel_rfl) (fun _ _ _ h => h) (Or.inl ⟨by rfl, ?_⟩) (by with_reducible assumption) ?_
  rotate_left
  · intro w hSw
    (try dsimp only at hSw)
    first | (go_simp; done) | (go_simp; with_reducible rfl)
  (try simp only [Act.put, List.setIfInBounds_toArray, List.set_cons_zero, List.set_cons_succ])
  refine wpAnyH_done (by kernel_rfl) ?_ _
  exact ⟨_, _, _, _, _, _, _, rfl, hH10.2⟩
end Go.Proofs.YtnhekagmdniokaaDoor
