import Derived.Test.YtcgbdpgfpickaaaK27
import Derived.Deep.RegionHeld3
namespace Go.Proofs.Ytcgbdpgfpickaaa
open Go.RowKit
set_option linter.unusedVariables false
set_option linter.unusedSimpArgs false

theorem keepZ {W wo wn : World} {p q : Nat} {a0 a1 a2 b0 b1 b2 : Value} (g : Gr wo wn) (h : (wo.cell? ⟨p, 0, none⟩ = some a0 ∧ wo.cell? ⟨p, 1, none⟩ = some a1 ∧ wo.cell? ⟨p, 2, none⟩ = some a2 ∧ wo.cell? ⟨q, 0, none⟩ = some b0 ∧ wo.cell? ⟨q, 1, none⟩ = some b1 ∧ wo.cell? ⟨q, 2, none⟩ = some b2) ∧ Gr W wo) : (wn.cell? ⟨p, 0, none⟩ = some a0 ∧ wn.cell? ⟨p, 1, none⟩ = some a1 ∧ wn.cell? ⟨p, 2, none⟩ = some a2 ∧ wn.cell? ⟨q, 0, none⟩ = some b0 ∧ wn.cell? ⟨q, 1, none⟩ = some b1 ∧ wn.cell? ⟨q, 2, none⟩ = some b2) ∧ Gr W wn :=
  ⟨⟨g.keep h.1.1, g.keep h.1.2.1, g.keep h.1.2.2.1, g.keep h.1.2.2.2.1, g.keep h.1.2.2.2.2.1, g.keep h.1.2.2.2.2.2⟩, h.2.trans g⟩
def R8 (t0 t1 t3 t4 t5 t6 t7 t9 t11 t12 t13 t14 t15 t16 t17 t18 t19 t20 t21 t22 t23 t24 t25 t26 t27 t28 t29 t30 t31 t32 t33 t34 t35 t36 t37 t38 t39 t40 t41 t42 t43 t44 t45 t46 t47 t48 t49 t50 t51 t52 t53 t54 t55 t56 t57 t58 t59 t60 t61 t62 t63 t64 t65 : Value) (bX bR : Nat) (up b : Bool) (wq : World) : Exit → Act → World → Prop
  | .normal, a, w => ∃ u50 u51 u52 u53 u54 u55, a = { tmps := #[t0, t1, .bool up, t3, t4, t5, t6, t7, .pointer (some ⟨bX, 0, none⟩), t9, .pointer (some ⟨bR, 0, none⟩), t11, t12, t13, t14, t15, t16, t17, t18, t19, t20, t21, t22, t23, t24, t25, t26, t27, t28, t29, t30, t31, t32, t33, t34, t35, t36, t37, t38, t39, t40, t41, t42, t43, t44, t45, t46, t47, .bool up, .bool up, u50, u51, u52, u53, u54, u55, .bool b, t57, t58, t59, t60, t61, t62, t63, t64, t65], defers := [] } ∧ Gr wq w
  | _, _, _ => False
set_option maxRecDepth 100000 in
set_option maxHeartbeats 20000000 in
theorem reg8f (t0 t1 t3 t4 t5 t6 t7 t9 t11 t12 t13 t14 t15 t16 t17 t18 t19 t20 t21 t22 t23 t24 t25 t26 t27 t28 t29 t30 t31 t32 t33 t34 t35 t36 t37 t38 t39 t40 t41 t42 t43 t44 t45 t46 t47 t48 t49 t50 t51 t52 t53 t54 t55 t56 t57 t58 t59 t60 t61 t62 t63 t64 t65 : Value) (bX bR : Nat) (wq : World) :
    Code.wp Try.prog (Code.region 8 #[{ dst := some 48, op := Op.move (Operand.tmp 2), type := 4, pos := "ref.go:118", after := #[], guard := none }, { dst := some 49, op := Op.move (Operand.tmp 48), type := 4, pos := "ref.go:118", after := #[{ on := 0, ground := Ground.data }], guard := none }, { dst := some 50, op := Op.load 54 (Operand.tmp 10), type := 54, pos := "ref.go:118", after := #[{ on := 1, ground := Ground.guard }], guard := some (1, true) }, { dst := some 51, op := Op.load 54 (Operand.tmp 10), type := 54, pos := "ref.go:118", after := #[{ on := 1, ground := Ground.guard }], guard := some (1, true) }, { dst := some 52, op := Op.call { callee := Callee.value (Operand.func 45), args := #[Operand.tmp 50, Operand.tmp 51], argTypes := #[54, 54] }, type := 54, pos := "ref.go:118", after := #[{ on := 2, ground := Ground.data }, { on := 3, ground := Ground.data }, { on := 1, ground := Ground.chain }, { on := 1, ground := Ground.guard }], guard := some (1, true) }, { dst := some 53, op := Op.load 54 (Operand.tmp 8), type := 54, pos := "ref.go:118", after := #[{ on := 1, ground := Ground.guard }], guard := some (1, true) }, { dst := some 54, op := Op.call { callee := Callee.value (Operand.func 55), args := #[Operand.tmp 52, Operand.tmp 53], argTypes := #[54, 54] }, type := 3, pos := "ref.go:118", after := #[{ on := 4, ground := Ground.data }, { on := 5, ground := Ground.data }, { on := 4, ground := Ground.chain }, { on := 1, ground := Ground.guard }], guard := some (1, true) }, { dst := some 55, op := Op.binOp BinOp.lss 3 (Operand.tmp 54) (Operand.const (Value.int IntKind.i64 0)) 3, type := 4, pos := "ref.go:118", after := #[{ on := 6, ground := Ground.data }, { on := 1, ground := Ground.guard }], guard := some (1, true) }, { dst := some 56, op := Op.pick (Operand.tmp 49) (Operand.tmp 55) (Operand.const (Value.bool false)), type := 4, pos := "ref.go:118", after := #[{ on := 1, ground := Ground.data }, { on := 7, ground := Ground.data }], guard := none }] true) (R8 t0 t1 t3 t4 t5 t6 t7 t9 t11 t12 t13 t14 t15 t16 t17 t18 t19 t20 t21 t22 t23 t24 t25 t26 t27 t28 t29 t30 t31 t32 t33 t34 t35 t36 t37 t38 t39 t40 t41 t42 t43 t44 t45 t46 t47 t48 t49 t50 t51 t52 t53 t54 t55 t56 t57 t58 t59 t60 t61 t62 t63 t64 t65 bX bR false false wq) { tmps := #[t0, t1, .bool false, t3, t4, t5, t6, t7, .pointer (some ⟨bX, 0, none⟩), t9, .pointer (some ⟨bR, 0, none⟩), t11, t12, t13, t14, t15, t16, t17, t18, t19, t20, t21, t22, t23, t24, t25, t26, t27, t28, t29, t30, t31, t32, t33, t34, t35, t36, t37, t38, t39, t40, t41, t42, t43, t44, t45, t46, t47, t48, t49, t50, t51, t52, t53, t54, t55, t56, t57, t58, t59, t60, t61, t62, t63, t64, t65], defers := [] } wq := by
  have hS0 : Gr wq wq.drew := (Gr.refl wq).drew
  refine wp_region_held_drew (S := fun w' => Gr wq w') (by kernel_rfl) hS0 (fun hHeld => ?_)
  refine wpAnyH_take (i := 0) (oi := ({ dst := some 48, op := Op.move (Operand.tmp 2), type := 4, pos := "ref.go:118", after := #[], guard := none } : Oper)) (v := ?_) rfl (by kernel_rfl) (by kernel_rfl) (by kernel_rfl) (fun _ _ _ h => h) (Or.inl ⟨by rfl, ?_⟩) (by with_reducible assumption) ?_
  rotate_left
  · intro w hSw
    (try dsimp only at hSw)
    first | (go_simp; done) | (go_simp; with_reducible rfl)
  (try simp only [Act.put, List.setIfInBounds_toArray, List.set_cons_zero, List.set_cons_succ])
  refine wpAnyH_take (i := 1) (oi := ({ dst := some 49, op := Op.move (Operand.tmp 48), type := 4, pos := "ref.go:118", after := #[{ on := 0, ground := Ground.data }], guard := none } : Oper)) (v := ?_) rfl (by kernel_rfl) (by kernel_rfl) (by kernel_rfl) (fun _ _ _ h => h) (Or.inl ⟨by rfl, ?_⟩) (by with_reducible assumption) ?_
  rotate_left
  · intro w hSw
    (try dsimp only at hSw)
    first | (go_simp; done) | (go_simp; with_reducible rfl)
  (try simp only [Act.put, List.setIfInBounds_toArray, List.set_cons_zero, List.set_cons_succ])
  refine wpAnyH_take (i := 2) (oi := ({ dst := some 50, op := Op.load 54 (Operand.tmp 10), type := 54, pos := "ref.go:118", after := #[{ on := 1, ground := Ground.guard }], guard := some (1, true) } : Oper)) (v := undef) rfl (by kernel_rfl) (by kernel_rfl) (by kernel_rfl) (fun _ _ _ h => h) (Or.inr ⟨by rfl, rfl⟩) (by with_reducible assumption) ?_
  (try simp only [Act.put, List.setIfInBounds_toArray, List.set_cons_zero, List.set_cons_succ])
  refine wpAnyH_take (i := 3) (oi := ({ dst := some 51, op := Op.load 54 (Operand.tmp 10), type := 54, pos := "ref.go:118", after := #[{ on := 1, ground := Ground.guard }], guard := some (1, true) } : Oper)) (v := undef) rfl (by kernel_rfl) (by kernel_rfl) (by kernel_rfl) (fun _ _ _ h => h) (Or.inr ⟨by rfl, rfl⟩) (by with_reducible assumption) ?_
  (try simp only [Act.put, List.setIfInBounds_toArray, List.set_cons_zero, List.set_cons_succ])
  refine wpAnyH_take (i := 4) (oi := ({ dst := some 52, op := Op.call { callee := Callee.value (Operand.func 45), args := #[Operand.tmp 50, Operand.tmp 51], argTypes := #[54, 54] }, type := 54, pos := "ref.go:118", after := #[{ on := 2, ground := Ground.data }, { on := 3, ground := Ground.data }, { on := 1, ground := Ground.chain }, { on := 1, ground := Ground.guard }], guard := some (1, true) } : Oper)) (v := undef) rfl (by kernel_rfl) (by kernel_rfl) (by kernel_rfl) (fun _ _ _ h => h) (Or.inr ⟨by rfl, rfl⟩) (by with_reducible assumption) ?_
  (try simp only [Act.put, List.setIfInBounds_toArray, List.set_cons_zero, List.set_cons_succ])
  refine wpAnyH_take (i := 5) (oi := ({ dst := some 53, op := Op.load 54 (Operand.tmp 8), type := 54, pos := "ref.go:118", after := #[{ on := 1, ground := Ground.guard }], guard := some (1, true) } : Oper)) (v := undef) rfl (by kernel_rfl) (by kernel_rfl) (by kernel_rfl) (fun _ _ _ h => h) (Or.inr ⟨by rfl, rfl⟩) (by with_reducible assumption) ?_
  (try simp only [Act.put, List.setIfInBounds_toArray, List.set_cons_zero, List.set_cons_succ])
  refine wpAnyH_take (i := 6) (oi := ({ dst := some 54, op := Op.call { callee := Callee.value (Operand.func 55), args := #[Operand.tmp 52, Operand.tmp 53], argTypes := #[54, 54] }, type := 3, pos := "ref.go:118", after := #[{ on := 4, ground := Ground.data }, { on := 5, ground := Ground.data }, { on := 4, ground := Ground.chain }, { on := 1, ground := Ground.guard }], guard := some (1, true) } : Oper)) (v := undef) rfl (by kernel_rfl) (by kernel_rfl) (by kernel_rfl) (fun _ _ _ h => h) (Or.inr ⟨by rfl, rfl⟩) (by with_reducible assumption) ?_
  (try simp only [Act.put, List.setIfInBounds_toArray, List.set_cons_zero, List.set_cons_succ])
  refine wpAnyH_take (i := 7) (oi := ({ dst := some 55, op := Op.binOp BinOp.lss 3 (Operand.tmp 54) (Operand.const (Value.int IntKind.i64 0)) 3, type := 4, pos := "ref.go:118", after := #[{ on := 6, ground := Ground.data }, { on := 1, ground := Ground.guard }], guard := some (1, true) } : Oper)) (v := undef) rfl (by kernel_rfl) (by kernel_rfl) (by kernel_rfl) (fun _ _ _ h => h) (Or.inr ⟨by rfl, rfl⟩) (by with_reducible assumption) ?_
  (try simp only [Act.put, List.setIfInBounds_toArray, List.set_cons_zero, List.set_cons_succ])
  refine wpAnyH_take (i := 8) (oi := ({ dst := some 56, op := Op.pick (Operand.tmp 49) (Operand.tmp 55) (Operand.const (Value.bool false)), type := 4, pos := "ref.go:118", after := #[{ on := 1, ground := Ground.data }, { on := 7, ground := Ground.data }], guard := none } : Oper)) (v := ?_) rfl (by kernel_rfl) (by kernel_rfl) (by kernel_rfl) (fun _ _ _ h => h) (Or.inl ⟨by rfl, ?_⟩) (by with_reducible assumption) ?_
  rotate_left
  · intro w hSw
    (try dsimp only at hSw)
    first | (go_simp; done) | (go_simp; with_reducible rfl)
  (try simp only [Act.put, List.setIfInBounds_toArray, List.set_cons_zero, List.set_cons_succ])
  refine wpAnyH_done (by kernel_rfl) ?_ _
  exact ⟨_, _, _, _, _, _, rfl, hHeld⟩
set_option maxRecDepth 100000 in
set_option maxHeartbeats 20000000 in
theorem reg8t (t0 t1 t3 t4 t5 t6 t7 t9 t11 t12 t13 t14 t15 t16 t17 t18 t19 t20 t21 t22 t23 t24 t25 t26 t27 t28 t29 t30 t31 t32 t33 t34 t35 t36 t37 t38 t39 t40 t41 t42 t43 t44 t45 t46 t47 t48 t49 t50 t51 t52 t53 t54 t55 t56 t57 t58 t59 t60 t61 t62 t63 t64 t65 : Value) (aR aX : Option Addr) (nR cR nX cX S : Nat) (pw v : Int) (bX bR : Nat) (wq : World)
    (r0 : wq.cell? ⟨bR, 0, none⟩ = some (.bool false)) (r1 : wq.cell? ⟨bR, 1, none⟩ = some (.slice aR nR cR)) (r2 : wq.cell? ⟨bR, 2, none⟩ = some (.int .i64 0)) (x0 : wq.cell? ⟨bX, 0, none⟩ = some (.bool false)) (x1 : wq.cell? ⟨bX, 1, none⟩ = some (.slice aX nX cX)) (x2 : wq.cell? ⟨bX, 2, none⟩ = some (.int .i64 pw))
    (HT : Hid (∀ w1, Gr wq w1 → Calls Try.prog 45 #[.agg #[.bool false, .slice aR nR cR, .int .i64 0], .agg #[.bool false, .slice aR nR cR, .int .i64 0]] w1 fun r w' => ∃ a n c, r = .returned (.agg #[.bool false, .slice a n c, .int .i64 0]) ∧ Hid (Lim w' a n c 18446744073709551616 S) ∧ Gr w1 w'))
    (HC : Hid (∀ a n c w1, Gr wq w1 → Lim w1 a n c 18446744073709551616 S → Calls Try.prog 55 #[.agg #[.bool false, .slice a n c, .int .i64 0], .agg #[.bool false, .slice aX nX cX, .int .i64 pw]] w1 fun r w' => r = .returned (.int .i64 v) ∧ Gr w1 w')) :
    Code.wp Try.prog (Code.region 8 #[{ dst := some 48, op := Op.move (Operand.tmp 2), type := 4, pos := "ref.go:118", after := #[], guard := none }, { dst := some 49, op := Op.move (Operand.tmp 48), type := 4, pos := "ref.go:118", after := #[{ on := 0, ground := Ground.data }], guard := none }, { dst := some 50, op := Op.load 54 (Operand.tmp 10), type := 54, pos := "ref.go:118", after := #[{ on := 1, ground := Ground.guard }], guard := some (1, true) }, { dst := some 51, op := Op.load 54 (Operand.tmp 10), type := 54, pos := "ref.go:118", after := #[{ on := 1, ground := Ground.guard }], guard := some (1, true) }, { dst := some 52, op := Op.call { callee := Callee.value (Operand.func 45), args := #[Operand.tmp 50, Operand.tmp 51], argTypes := #[54, 54] }, type := 54, pos := "ref.go:118", after := #[{ on := 2, ground := Ground.data }, { on := 3, ground := Ground.data }, { on := 1, ground := Ground.chain }, { on := 1, ground := Ground.guard }], guard := some (1, true) }, { dst := some 53, op := Op.load 54 (Operand.tmp 8), type := 54, pos := "ref.go:118", after := #[{ on := 1, ground := Ground.guard }], guard := some (1, true) }, { dst := some 54, op := Op.call { callee := Callee.value (Operand.func 55), args := #[Operand.tmp 52, Operand.tmp 53], argTypes := #[54, 54] }, type := 3, pos := "ref.go:118", after := #[{ on := 4, ground := Ground.data }, { on := 5, ground := Ground.data }, { on := 4, ground := Ground.chain }, { on := 1, ground := Ground.guard }], guard := some (1, true) }, { dst := some 55, op := Op.binOp BinOp.lss 3 (Operand.tmp 54) (Operand.const (Value.int IntKind.i64 0)) 3, type := 4, pos := "ref.go:118", after := #[{ on := 6, ground := Ground.data }, { on := 1, ground := Ground.guard }], guard := some (1, true) }, { dst := some 56, op := Op.pick (Operand.tmp 49) (Operand.tmp 55) (Operand.const (Value.bool false)), type := 4, pos := "ref.go:118", after := #[{ on := 1, ground := Ground.data }, { on := 7, ground := Ground.data }], guard := none }] true) (R8 t0 t1 t3 t4 t5 t6 t7 t9 t11 t12 t13 t14 t15 t16 t17 t18 t19 t20 t21 t22 t23 t24 t25 t26 t27 t28 t29 t30 t31 t32 t33 t34 t35 t36 t37 t38 t39 t40 t41 t42 t43 t44 t45 t46 t47 t48 t49 t50 t51 t52 t53 t54 t55 t56 t57 t58 t59 t60 t61 t62 t63 t64 t65 bX bR true (decide (v < 0)) wq) { tmps := #[t0, t1, .bool true, t3, t4, t5, t6, t7, .pointer (some ⟨bX, 0, none⟩), t9, .pointer (some ⟨bR, 0, none⟩), t11, t12, t13, t14, t15, t16, t17, t18, t19, t20, t21, t22, t23, t24, t25, t26, t27, t28, t29, t30, t31, t32, t33, t34, t35, t36, t37, t38, t39, t40, t41, t42, t43, t44, t45, t46, t47, t48, t49, t50, t51, t52, t53, t54, t55, t56, t57, t58, t59, t60, t61, t62, t63, t64, t65], defers := [] } wq := by
  have hS0 : (wq.drew.cell? ⟨bR, 0, none⟩ = some (.bool false) ∧ wq.drew.cell? ⟨bR, 1, none⟩ = some (.slice aR nR cR) ∧ wq.drew.cell? ⟨bR, 2, none⟩ = some (.int .i64 0) ∧ wq.drew.cell? ⟨bX, 0, none⟩ = some (.bool false) ∧ wq.drew.cell? ⟨bX, 1, none⟩ = some (.slice aX nX cX) ∧ wq.drew.cell? ⟨bX, 2, none⟩ = some (.int .i64 pw)) ∧ Gr wq wq.drew := ⟨⟨r0, r1, r2, x0, x1, x2⟩, (Gr.refl wq).drew⟩
  clear r0 r1 r2 x0 x1 x2
  refine wp_region_held_drew (S := fun w' => (w'.cell? ⟨bR, 0, none⟩ = some (.bool false) ∧ w'.cell? ⟨bR, 1, none⟩ = some (.slice aR nR cR) ∧ w'.cell? ⟨bR, 2, none⟩ = some (.int .i64 0) ∧ w'.cell? ⟨bX, 0, none⟩ = some (.bool false) ∧ w'.cell? ⟨bX, 1, none⟩ = some (.slice aX nX cX) ∧ w'.cell? ⟨bX, 2, none⟩ = some (.int .i64 pw)) ∧ Gr wq w') (by kernel_rfl) hS0 (fun hHeld => ?_)
  refine wpAnyH_take (i := 0) (oi := ({ dst := some 48, op := Op.move (Operand.tmp 2), type := 4, pos := "ref.go:118", after := #[], guard := none } : Oper)) (v := ?_) rfl (by kernel_rfl) (by kernel_rfl) (by kernel_rfl) (fun _ _ _ h => h) (Or.inl ⟨by rfl, ?_⟩) (by with_reducible assumption) ?_
  rotate_left
  · intro w hSw
    (try dsimp only at hSw)
    first | (go_simp; done) | (go_simp; with_reducible rfl)
  (try simp only [Act.put, List.setIfInBounds_toArray, List.set_cons_zero, List.set_cons_succ])
  refine wpAnyH_take (i := 1) (oi := ({ dst := some 49, op := Op.move (Operand.tmp 48), type := 4, pos := "ref.go:118", after := #[{ on := 0, ground := Ground.data }], guard := none } : Oper)) (v := ?_) rfl (by kernel_rfl) (by kernel_rfl) (by kernel_rfl) (fun _ _ _ h => h) (Or.inl ⟨by rfl, ?_⟩) (by with_reducible assumption) ?_
  rotate_left
  · intro w hSw
    (try dsimp only at hSw)
    first | (go_simp; done) | (go_simp; with_reducible rfl)
  (try simp only [Act.put, List.setIfInBounds_toArray, List.set_cons_zero, List.set_cons_succ])
  refine wpAnyH_take (i := 2) (oi := ({ dst := some 50, op := Op.load 54 (Operand.tmp 10), type := 54, pos := "ref.go:118", after := #[{ on := 1, ground := Ground.guard }], guard := some (1, true) } : Oper)) (v := ?_) rfl (by kernel_rfl) (by kernel_rfl) (by kernel_rfl) (fun _ _ _ h => h) (Or.inl ⟨by rfl, ?_⟩) (by with_reducible assumption) ?_
  rotate_left
  · intro w hSw
    (try dsimp only at hSw)
    first | (go_simp; done) | (go_simp; with_reducible rfl)
  (try simp only [Act.put, List.setIfInBounds_toArray, List.set_cons_zero, List.set_cons_succ])
  refine wpAnyH_take (i := 3) (oi := ({ dst := some 51, op := Op.load 54 (Operand.tmp 10), type := 54, pos := "ref.go:118", after := #[{ on := 1, ground := Ground.guard }], guard := some (1, true) } : Oper)) (v := ?_) rfl (by kernel_rfl) (by kernel_rfl) (by kernel_rfl) (fun _ _ _ h => h) (Or.inl ⟨by rfl, ?_⟩) (by with_reducible assumption) ?_
  rotate_left
  · intro w hSw
    (try dsimp only at hSw)
    first | (go_simp; done) | (go_simp; with_reducible rfl)
  (try simp only [Act.put, List.setIfInBounds_toArray, List.set_cons_zero, List.set_cons_succ])
  refine wpAnyH_take (i := 5) (oi := ({ dst := some 53, op := Op.load 54 (Operand.tmp 8), type := 54, pos := "ref.go:118", after := #[{ on := 1, ground := Ground.guard }], guard := some (1, true) } : Oper)) (v := ?_) rfl (by kernel_rfl) (by kernel_rfl) (by kernel_rfl) (fun _ _ _ h => h) (Or.inl ⟨by rfl, ?_⟩) (by with_reducible assumption) ?_
  rotate_left
  · intro w hSw
    (try dsimp only at hSw)
    first | (go_simp; done) | (go_simp; with_reducible rfl)
  (try simp only [Act.put, List.setIfInBounds_toArray, List.set_cons_zero, List.set_cons_succ])
  refine wpAnyH_ready (rs := [4]) (by kernel_rfl) (by simp) ?_
  refine AllReadyH.cons (o := ({ dst := some 52, op := Op.call { callee := Callee.value (Operand.func 45), args := #[Operand.tmp 50, Operand.tmp 51], argTypes := #[54, 54] }, type := 54, pos := "ref.go:118", after := #[{ on := 2, ground := Ground.data }, { on := 3, ground := Ground.data }, { on := 1, ground := Ground.chain }, { on := 1, ground := Ground.guard }], guard := some (1, true) } : Oper)) rfl (fun K hK => ?_) AllReadyH.nil
  go_simp
  refine (HT.out _ hHeld.2).mono ?_
  rintro r w4 ⟨a4, n4, c4, rfl, hl4, g4⟩
  refine hK.out _ _ (keepZ g4 hHeld) (fun hH4 => ?_)
  clear hK K
  (try simp only [Act.put, List.setIfInBounds_toArray, List.set_cons_zero, List.set_cons_succ])
  refine wpAnyH_ready (rs := [6]) (by kernel_rfl) (by simp) ?_
  refine AllReadyH.cons (o := ({ dst := some 54, op := Op.call { callee := Callee.value (Operand.func 55), args := #[Operand.tmp 52, Operand.tmp 53], argTypes := #[54, 54] }, type := 3, pos := "ref.go:118", after := #[{ on := 4, ground := Ground.data }, { on := 5, ground := Ground.data }, { on := 4, ground := Ground.chain }, { on := 1, ground := Ground.guard }], guard := some (1, true) } : Oper)) rfl (fun K hK => ?_) AllReadyH.nil
  go_simp
  refine (HC.out _ _ _ _ hH4.2 hl4.out).mono ?_
  rintro r w6 ⟨rfl, g6⟩
  refine hK.out _ _ (keepZ g6 hH4) (fun hH6 => ?_)
  clear hK K
  (try simp only [Act.put, List.setIfInBounds_toArray, List.set_cons_zero, List.set_cons_succ])
  refine wpAnyH_take (i := 7) (oi := ({ dst := some 55, op := Op.binOp BinOp.lss 3 (Operand.tmp 54) (Operand.const (Value.int IntKind.i64 0)) 3, type := 4, pos := "ref.go:118", after := #[{ on := 6, ground := Ground.data }, { on := 1, ground := Ground.guard }], guard := some (1, true) } : Oper)) (v := ?_) rfl (by kernel_rfl) (by kernel_rfl) (by kernel_rfl) (fun _ _ _ h => h) (Or.inl ⟨by rfl, ?_⟩) (by with_reducible assumption) ?_
  rotate_left
  · intro w hSw
    (try dsimp only at hSw)
    first | (go_simp; done) | (go_simp; with_reducible rfl)
  (try simp only [Act.put, List.setIfInBounds_toArray, List.set_cons_zero, List.set_cons_succ])
  refine wpAnyH_take (i := 8) (oi := ({ dst := some 56, op := Op.pick (Operand.tmp 49) (Operand.tmp 55) (Operand.const (Value.bool false)), type := 4, pos := "ref.go:118", after := #[{ on := 1, ground := Ground.data }, { on := 7, ground := Ground.data }], guard := none } : Oper)) (v := ?_) rfl (by kernel_rfl) (by kernel_rfl) (by kernel_rfl) (fun _ _ _ h => h) (Or.inl ⟨by rfl, ?_⟩) (by with_reducible assumption) ?_
  rotate_left
  · intro w hSw
    (try dsimp only at hSw)
    first | (go_simp; done) | (go_simp; with_reducible rfl)
  (try simp only [Act.put, List.setIfInBounds_toArray, List.set_cons_zero, List.set_cons_succ])
  refine wpAnyH_done (by kernel_rfl) ?_ _
  exact ⟨_, _, _, _, _, _, rfl, hH6.2⟩
end Go.Proofs.Ytcgbdpgfpickaaa
namespace Go.Proofs.Ytcgbdpgfpickaaa
open Go.RowKit
set_option linter.unusedVariables false
set_option linter.unusedSimpArgs false

theorem heap_own54 {w : World} {b : Nat} {a0 a1 a2 : Value} (h : w.heap[b]? = some (.cells #[a0, a1, a2] 54)) (v0 v1 v2 : Value) : (((w.setCell ⟨b, 0, none⟩ v0).setCell ⟨b, 1, none⟩ v1).setCell ⟨b, 2, none⟩ v2).heap[b]? = some (.cells #[v0, v1, v2] 54) := by
  simp only [World.setCell, Array.getElem?_modify, if_true, h, Option.map_some]
  rfl
theorem gx3 {g : Nat} {a w : World} (h : Gx g a w) (v0 v1 v2 : Value) : Gx g a (((w.setCell ⟨g, 0, none⟩ v0).setCell ⟨g, 1, none⟩ v1).setCell ⟨g, 2, none⟩ v2) := Gx.setCell (p := ⟨g, 2, none⟩) (Gx.setCell (p := ⟨g, 1, none⟩) (Gx.setCell (p := ⟨g, 0, none⟩) h rfl v0) rfl v1) rfl v2
def R9 (t0 t1 t2 t3 t4 t5 t6 t7 t8 t9 t11 t12 t13 t14 t15 t16 t17 t18 t19 t20 t21 t22 t23 t24 t25 t26 t27 t28 t29 t30 t31 t32 t33 t34 t35 t36 t37 t38 t39 t40 t41 t42 t43 t44 t45 t46 t47 t48 t49 t50 t51 t52 t53 t54 t55 t56 t57 t58 t59 t60 t61 t62 t63 t64 t65 : Value) (bR m : Nat) (wq : World) : Exit → Act → World → Prop
  | .normal, a, w => ∃ aN nN cN u57 u58 u59, a = { tmps := #[t0, t1, t2, t3, t4, t5, t6, t7, t8, t9, .pointer (some ⟨bR, 0, none⟩), t11, t12, t13, t14, t15, t16, t17, t18, t19, t20, t21, t22, t23, t24, t25, t26, t27, t28, t29, t30, t31, t32, t33, t34, t35, t36, t37, t38, t39, t40, t41, t42, t43, t44, t45, t46, t47, t48, t49, t50, t51, t52, t53, t54, t55, t56, u57, u58, u59, t60, t61, t62, t63, t64, t65], defers := [] } ∧ w.heap[bR]? = some (.cells #[.bool false, .slice aN nN cN, .int .i64 0] 54) ∧ Lim w aN nN cN 18446744073709551616 m ∧ Gx bR wq w
  | _, _, _ => False
end Go.Proofs.Ytcgbdpgfpickaaa
namespace Go.Proofs.Ytcgbdpgfpickaaa
open Go.RowKit
set_option linter.unusedVariables false

set_option maxRecDepth 10000 in
theorem up_zero (ad : Option Addr) (n1 c1 : Nat) (p : Int) (w : World) (hx : Lim w ad n1 c1 18446744073709551616 0) :
    Calls Try.prog 57 #[.slice ad n1 c1, .int .i64 p] w fun e w' => ∃ ad' n' cap', e = .returned (.slice ad' n' cap') ∧ Lim w' ad' n' cap' 18446744073709551616 0 ∧ Gr w w' := by
  have H1 : Hid (Calls Try.prog 73 #[.slice ad n1 c1] w fun e w' => ∃ ad' cap', e = .returned (.slice ad' 0 cap') ∧ Gr w w') := (halvesL ad n1 c1 0 w hx (by rw [bl_zero]; omega)).mono fun e w' ⟨a, n, c, h1, _, h2, h3⟩ => by
    obtain ⟨xs, rx, dx⟩ := h2
    have h0 := (dx.zero_iff (by omega)).2 rfl
    rw [rx.len] at h0
    subst h0
    exact ⟨a, c, h1, h3⟩
  clear hx
  go_enter Try.func57, Try.ntmps57
  go_wp2_with (go_at_call 73; (with_reducible refine H1.out.mono ?_); rintro e w1 ⟨a1, k1, rfl, g1⟩)
  go_ret
  exact ⟨_, _, _, rfl, nil_lim _, g1⟩
theorem blk1 (w : World) (o1 : Obj) : (w.alloc o1).heap[w.heap.size]? = some o1 := by
  show (w.heap.push _)[w.heap.size]? = _
  simp only [Array.getElem?_push]
  rw [if_pos trivial]
theorem hv_gr {w w' : World} {a : Option Addr} {m k : Nat} {P : Nat → Prop} (h : Hid (∃ m', Lim w a m k 18446744073709551616 m' ∧ P m')) (g : Gr w w') : Hid (∃ m', Lim w' a m k 18446744073709551616 m' ∧ P m') := by
  obtain ⟨m', h1, h2⟩ := h
  exact ⟨m', h1.gr g, h2⟩
theorem rm_cut {x m : Nat} {pw e' : Int} {s' : Bool} (h : CutV false x pw 0 false s' m e') (x0 : 0 < x) : s' = false ∧ m * 2 ^ (max e' 0).toNat = RM x pw ∧ (e' = pw ∨ e' = 0) ∧ m ≤ x := by
  rcases h with ⟨q, _⟩ | ⟨_, q, h1, h2, h3⟩ | ⟨_, q, h1, h2, h3⟩
  · omega
  · subst h1 h2 h3
    refine ⟨rfl, ?_, Or.inl rfl, Nat.le_refl _⟩
    unfold RM
    rw [if_neg (by omega), show (max e' 0).toNat = e'.toNat by omega]
  · subst h1 h2
    rw [if_neg (fun h => h.2 rfl), Nat.add_zero] at h3
    refine ⟨rfl, ?_, Or.inr rfl, by rw [h3]; exact Nat.div_le_self _ _⟩
    unfold RM
    rw [if_pos q, h3, show (max (0 : Int) 0).toNat = 0 from rfl, Nat.pow_zero, Nat.mul_one, show (0 - pw).toNat = (-pw).toNat by omega]
theorem bl_RM {x : Nat} {pw : Int} (h : (bl x : Int) + pw ≤ 524288) (x0 : 0 < x) (hx : bl x ≤ 262144) : bl (RM x pw) ≤ 524288 := by
  unfold RM
  split
  · exact Nat.le_trans (bl_div _ _) (by omega)
  · rw [bl_shift x0]; omega
theorem kk_split {k : Nat} (h : k ≤ KN) : 2 ^ KN = 2 ^ k * 2 ^ (KN - k) := by rw [← Nat.pow_add, show k + (KN - k) = KN by omega]
/-- the root's square, held against the number -/
theorem cmp_root {x R : Nat} {pw : Int} (hodd : ∃ q, x = 2 * q + 1) (h1 : -4194304 ≤ pw) (r1 : R * R ≤ RM x pw) : (sg (sv KK false (R * R) 0 - sv KK false x pw) < 0 ↔ ¬ (R * R = RM x pw ∧ 0 ≤ pw)) := by
  have hkk := KK_eq
  have hkn := KN_eq
  have eA : sv KK false (R * R) 0 = ((R * R * 2 ^ KN : Nat) : Int) := by
    unfold sv
    simp only [Bool.false_eq_true, if_false]
    rw [show (0 + KK).toNat = KN by omega]
  have eB : sv KK false x pw = ((x * 2 ^ (pw + KK).toNat : Nat) : Int) := by
    unfold sv
    simp only [Bool.false_eq_true, if_false]
  rw [eA, eB]
  have key : ∀ a b : Nat, (sg ((a : Int) - (b : Int)) < 0 ↔ a < b) := fun a b => by
    rcases Nat.lt_trichotomy a b with h | h | h
    · rw [sg_neg (by omega)]; omega
    · subst h; rw [Int.sub_self, sg_zero]; omega
    · rw [sg_pos (by omega)]; omega
  rw [key]
  unfold RM at r1 ⊢
  rcases Int.lt_or_le pw 0 with hp | hp
  · rw [if_pos hp] at r1 ⊢
    obtain ⟨k, hk⟩ : ∃ k : Nat, pw = -(k : Int) := ⟨(-pw).toNat, by omega⟩
    have hkN : k ≤ KN := by omega
    rw [show (-pw).toNat = k by omega] at r1 ⊢
    rw [show (pw + KK).toNat = KN - k by omega, kk_split hkN, ← Nat.mul_assoc]
    refine ⟨fun _ h => by omega, fun _ => Nat.mul_lt_mul_of_pos_right ?_ (Nat.two_pow_pos _)⟩
    have hle : R * R * 2 ^ k ≤ x := Nat.le_trans (Nat.mul_le_mul_right _ r1) (Nat.div_mul_le_self _ _)
    obtain ⟨q, hq⟩ := hodd
    obtain ⟨c, rfl⟩ : ∃ c, k = c + 1 := ⟨k - 1, by omega⟩
    rw [Nat.pow_succ, ← Nat.mul_assoc] at hle ⊢
    omega
  · rw [if_neg (by omega)] at r1 ⊢
    obtain ⟨k, hk⟩ : ∃ k : Nat, pw = (k : Int) := ⟨pw.toNat, by omega⟩
    rw [show pw.toNat = k by omega] at r1 ⊢
    rw [show (pw + KK).toNat = k + KN by omega, Nat.pow_add, ← Nat.mul_assoc]
    constructor
    · intro h hh
      rw [hh.1] at h
      exact Nat.lt_irrefl _ h
    · intro h
      refine Nat.mul_lt_mul_of_pos_right ?_ (Nat.two_pow_pos _)
      have : R * R ≠ x * 2 ^ k := fun e => h ⟨e, hp⟩
      omega
theorem plus_one (ad1 ad2 : Option Addr) (n1 n2 c1 c2 R : Nat) (w : World) (hx : Lim w ad1 n1 c1 18446744073709551616 R) (hy : Lim w ad2 n2 c2 18446744073709551616 1) (bx : bl R ≤ 34359738368) :
    Calls Try.prog 43 #[.agg #[.bool false, .slice ad1 n1 c1, .int .i64 0], .agg #[.bool false, .slice ad2 n2 c2, .int .i64 0]] w fun r w' => ∃ ad n cap, r = .returned (.agg #[.bool false, .slice ad n cap, .int .i64 0]) ∧ Hid (Lim w' ad n cap 18446744073709551616 (R + 1)) ∧ Gr w w' := by
  obtain ⟨neg, m, g, hv, hg, _, hc⟩ := plus40 false false ad1 ad2 n1 n2 c1 c2 R 1 0 0 w hx hy bx (by rw [bl_unique (n := 1) (k := 1) (by omega) (by omega)]; omega) (by omega) (by omega) (by omega) (by omega)
  obtain rfl : g = 0 := by omega
  have h0 := (hv 0 (by omega) (by omega)).2
  have e : neg = false ∧ m = R + 1 := by
    unfold sv at h0
    cases neg
    · simp only [Bool.false_eq_true, if_false, Int.add_zero, Int.toNat_zero, Nat.pow_zero, Nat.mul_one] at h0
      exact ⟨rfl, by omega⟩
    · simp only [Bool.false_eq_true, if_false, if_true, Int.add_zero, Int.toNat_zero, Nat.pow_zero, Nat.mul_one] at h0
      omega
  obtain ⟨rfl, rfl⟩ := e
  exact hc w (Gr.refl w)
end Go.Proofs.Ytcgbdpgfpickaaa
namespace Go.Proofs.Ytcgbdpgfpickaaa
open Go.RowKit
set_option linter.unusedVariables false

theorem settled_nought {w : World} {r : Ending} {R : Nat} {last : Int} (h : R = 0) (hs : Settled w r false R last) : Settled w r false 0 last := by
  subst h
  exact hs
end Go.Proofs.Ytcgbdpgfpickaaa
