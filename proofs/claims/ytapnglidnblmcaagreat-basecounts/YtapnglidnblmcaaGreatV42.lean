import Derived.Test.YtapnglidnblmcaaGreatV41
import Derived.Test.YtapnglidnblmcaaGreatV33
namespace Go.Proofs.YtapnglidnblmcaaGreat
open Go.RowKit
set_option linter.unusedVariables false
set_option linter.unusedSimpArgs false

theorem put3_blockD {w : World} {b : Nat} {c0 c1 c2 : Value} {T : TypeId} {fr : Nat × Nat} (h : w.heap[b]? = some (.cells #[c0, c1, c2] T fr)) (v0 v1 v2 : Value) : (((w.setCell ⟨b, 0, none⟩ v0).setCell ⟨b, 1, none⟩ v1).setCell ⟨b, 2, none⟩ v2).heap[b]? = some (.cells #[v0, v1, v2] T fr) := by
  rw [put1_at (put1_at (put1_at h v0) v1) v2]
  rfl
theorem Nz.setD {w : World} {s : Bool} {ad : Option Addr} {n cap B : Nat} {e : Int} {X : Int} {M : Nat} {u0 : Bool} {u1 : Option Addr} {u2 u3 : Nat} {u4 : Int} {T : TypeId} (h : Nz w s ad n cap e X M) (hb : w.heap[B]? = some (.cells #[.bool u0, .slice u1 u2 u3, .int .i64 u4] T)) (v0 v1 v2 : Value) : Nz (((w.setCell ⟨B, 0, none⟩ v0).setCell ⟨B, 1, none⟩ v1).setCell ⟨B, 2, none⟩ v2) s ad n cap e X M := by
  obtain ⟨m, h1, h2⟩ := h
  exact ⟨m, h1.set3 (h1.apart hb) _ _ _, h2⟩
theorem Wh.setD {w : World} {s : Bool} {ad : Option Addr} {n cap B : Nat} {X : Int} {u0 : Bool} {u1 : Option Addr} {u2 u3 : Nat} {u4 : Int} {T : TypeId} (h : Wh w s ad n cap X) (hb : w.heap[B]? = some (.cells #[.bool u0, .slice u1 u2 u3, .int .i64 u4] T)) (v0 v1 v2 : Value) : Wh (((w.setCell ⟨B, 0, none⟩ v0).setCell ⟨B, 1, none⟩ v1).setCell ⟨B, 2, none⟩ v2) s ad n cap X :=
  ⟨h.lim.set3 (h.lim.apart hb) _ _ _, h.le, h.zero, h.val⟩
theorem bx3D {w : World} {B : Nat} {v0 v1 v2 : Value} {T : TypeId} (h : w.heap[B]? = some (.cells #[v0, v1, v2] T)) : w.cell? ⟨B, 0, none⟩ = some v0 ∧ w.cell? ⟨B, 1, none⟩ = some v1 ∧ w.cell? ⟨B, 2, none⟩ = some v2 := ⟨by simp [World.cell?, h], by simp [World.cell?, h], by simp [World.cell?, h]⟩
theorem out3D {w : World} {B : Nat} {v0 v1 v2 : Value} {T : TypeId} (h : w.heap[B]? = some (.cells #[v0, v1, v2] T)) : w.frozen? ⟨B, 0, none⟩ = false ∧ w.frozen? ⟨B, 1, none⟩ = false ∧ w.frozen? ⟨B, 2, none⟩ = false := ⟨by simp [World.frozen?, h], by simp [World.frozen?, h], by simp [World.frozen?, h]⟩
def RBc5 (t0 t1 t2 t3 t4 t10 t11 t12 t13 t14 t15 t16 t17 t18 t19 t20 t21 t22 t23 t24 t25 t26 t27 t28 t29 t30 t31 t32 t33 t34 t35 t36 t37 t38 t39 t40 t41 t42 t43 t44 t45 t46 t47 t48 t49 t50 t51 t52 t53 t54 t55 t56 t57 t58 t59 t60 t61 t62 t63 t64 t65 t66 t67 t68 t69 t70 t71 t72 t73 t74 t75 t76 t77 t78 t79 t80 t81 t82 t83 t84 t85 t86 t87 t88 t89 : Value) (pI nI cI : Nat) (sI : Bool) (aI : Option Addr) (S T : ByteArray) (wq : World) : Exit → Act → World → Prop
  | .normal, a, w => ∃ u29 u30 u31 u32 u33 u34 u35 u36 u37 u38 u39 u40 u41 u42 u43 u44 u45, a = { tmps := #[t0, t1, t2, t3, t4, .pointer (some ⟨pI, 0, none⟩), .int .i64 (T.size : Int), .int .i64 0, .string S, .int .i64 0, t10, t11, t12, t13, t14, t15, t16, t17, t18, t19, t20, t21, t22, t23, t24, t25, t26, t27, t28, u29, u30, u31, u32, u33, u34, u35, u36, u37, u38, u39, u40, u41, u42, u43, u44, u45, .bool false, t47, t48, t49, t50, t51, t52, t53, t54, t55, t56, t57, t58, t59, t60, t61, t62, t63, t64, t65, t66, t67, t68, t69, t70, t71, t72, t73, t74, t75, t76, t77, t78, t79, t80, t81, t82, t83, t84, t85, t86, t87, t88, t89], defers := [] } ∧ Gr wq w
  | _, _, _ => False
set_option maxRecDepth 100000 in
set_option maxHeartbeats 20000000 in
theorem regBc5 (t0 t1 t2 t3 t4 t10 t11 t12 t13 t14 t15 t16 t17 t18 t19 t20 t21 t22 t23 t24 t25 t26 t27 t28 t29 t30 t31 t32 t33 t34 t35 t36 t37 t38 t39 t40 t41 t42 t43 t44 t45 t46 t47 t48 t49 t50 t51 t52 t53 t54 t55 t56 t57 t58 t59 t60 t61 t62 t63 t64 t65 t66 t67 t68 t69 t70 t71 t72 t73 t74 t75 t76 t77 t78 t79 t80 t81 t82 t83 t84 t85 t86 t87 t88 t89 : Value) (pI nI cI : Nat) (sI : Bool) (aI : Option Addr) (S T : ByteArray) (wq : World)
    (X1 : Hid (∀ w1, Gr wq w1 → Calls Tryz.prog 18 #[.string S, .string { data := #[45] }] w1 fun r w' => r = .returned (.string T) ∧ Gr w1 w'))
    (X2 : Hid (∀ w1, Gr wq w1 → Calls Tryz.prog 19 #[.string S, .string { data := #[45] }] w1 fun r w' => r = .returned (.bool sI) ∧ Gr w1 w')) (hw0 : IntKind.i64.wrap 0 = 0) (hpI : pI < wq.heap.size) (hcs : (wq.cell? ⟨pI, 0, none⟩ = some (.bool sI) ∧ wq.cell? ⟨pI, 1, none⟩ = some (.slice aI nI cI))) :
    Code.wp Tryz.prog (Code.region 5 #[{ dst := some 29, op := Op.move (Operand.tmp 7), type := 27, pos := "outright.go:44", after := #[], guard := none }, { dst := some 30, op := Op.move (Operand.tmp 9), type := 27, pos := "outright.go:44", after := #[], guard := none }, { dst := some 31, op := Op.binOp BinOp.add 27 (Operand.tmp 29) (Operand.tmp 30) 27, type := 27, pos := "outright.go:44", after := #[{ on := 0, ground := Ground.data }, { on := 1, ground := Ground.data }], guard := none }, { dst := some 32, op := Op.binOp BinOp.neq 27 (Operand.tmp 31) (Operand.const (Value.int IntKind.i64 0)) 27, type := 4, pos := "outright.go:44", after := #[{ on := 2, ground := Ground.data }], guard := none }, { dst := some 33, op := Op.move (Operand.tmp 32), type := 4, pos := "outright.go:44", after := #[{ on := 3, ground := Ground.data }], guard := none }, { dst := some 34, op := Op.move (Operand.tmp 8), type := 9, pos := "outright.go:44", after := #[{ on := 4, ground := Ground.guard }], guard := some (4, false) }, { dst := some 35, op := Op.call { callee := Callee.value (Operand.func 18), args := #[Operand.tmp 34, Operand.const (Value.string { data := #[45] })], argTypes := #[9, 9] }, type := 9, pos := "outright.go:44", after := #[{ on := 5, ground := Ground.data }, { on := 4, ground := Ground.chain }, { on := 4, ground := Ground.guard }], guard := some (4, false) }, { dst := some 36, op := Op.call { callee := Callee.builtin Builtin.len, args := #[Operand.tmp 35], argTypes := #[9] }, type := 3, pos := "outright.go:44", after := #[{ on := 6, ground := Ground.data }, { on := 4, ground := Ground.guard }], guard := some (4, false) }, { dst := some 37, op := Op.move (Operand.tmp 6), type := 3, pos := "outright.go:44", after := #[{ on := 4, ground := Ground.guard }], guard := some (4, false) }, { dst := some 38, op := Op.binOp BinOp.neq 3 (Operand.tmp 36) (Operand.tmp 37) 3, type := 4, pos := "outright.go:44", after := #[{ on := 7, ground := Ground.data }, { on := 8, ground := Ground.data }, { on := 4, ground := Ground.guard }], guard := some (4, false) }, { dst := some 39, op := Op.pick (Operand.tmp 33) (Operand.const (Value.bool true)) (Operand.tmp 38), type := 4, pos := "outright.go:44", after := #[{ on := 4, ground := Ground.data }, { on := 9, ground := Ground.data }], guard := none }, { dst := some 40, op := Op.move (Operand.tmp 39), type := 4, pos := "outright.go:44", after := #[{ on := 10, ground := Ground.data }, { on := 6, ground := Ground.chain }], guard := none }, { dst := some 41, op := Op.move (Operand.tmp 8), type := 9, pos := "outright.go:44", after := #[{ on := 11, ground := Ground.guard }], guard := some (11, false) }, { dst := some 42, op := Op.call { callee := Callee.value (Operand.func 19), args := #[Operand.tmp 41, Operand.const (Value.string { data := #[45] })], argTypes := #[9, 9] }, type := 4, pos := "outright.go:44", after := #[{ on := 12, ground := Ground.data }, { on := 11, ground := Ground.chain }, { on := 11, ground := Ground.guard }], guard := some (11, false) }, { dst := some 43, op := Op.fieldAddr 24 (Operand.tmp 5) 0, type := 0, pos := "outright.go:44", after := #[{ on := 11, ground := Ground.guard }], guard := some (11, false) }, { dst := some 44, op := Op.load 4 (Operand.tmp 43), type := 4, pos := "outright.go:44", after := #[{ on := 14, ground := Ground.data }, { on := 11, ground := Ground.guard }], guard := some (11, false) }, { dst := some 45, op := Op.binOp BinOp.neq 4 (Operand.tmp 42) (Operand.tmp 44) 4, type := 4, pos := "outright.go:44", after := #[{ on := 13, ground := Ground.data }, { on := 15, ground := Ground.data }, { on := 11, ground := Ground.guard }], guard := some (11, false) }, { dst := some 46, op := Op.pick (Operand.tmp 40) (Operand.const (Value.bool true)) (Operand.tmp 45), type := 4, pos := "outright.go:44", after := #[{ on := 11, ground := Ground.data }, { on := 16, ground := Ground.data }], guard := none }] true) (RBc5 t0 t1 t2 t3 t4 t10 t11 t12 t13 t14 t15 t16 t17 t18 t19 t20 t21 t22 t23 t24 t25 t26 t27 t28 t29 t30 t31 t32 t33 t34 t35 t36 t37 t38 t39 t40 t41 t42 t43 t44 t45 t46 t47 t48 t49 t50 t51 t52 t53 t54 t55 t56 t57 t58 t59 t60 t61 t62 t63 t64 t65 t66 t67 t68 t69 t70 t71 t72 t73 t74 t75 t76 t77 t78 t79 t80 t81 t82 t83 t84 t85 t86 t87 t88 t89 pI nI cI sI aI S T wq) { tmps := #[t0, t1, t2, t3, t4, .pointer (some ⟨pI, 0, none⟩), .int .i64 (T.size : Int), .int .i64 0, .string S, .int .i64 0, t10, t11, t12, t13, t14, t15, t16, t17, t18, t19, t20, t21, t22, t23, t24, t25, t26, t27, t28, t29, t30, t31, t32, t33, t34, t35, t36, t37, t38, t39, t40, t41, t42, t43, t44, t45, t46, t47, t48, t49, t50, t51, t52, t53, t54, t55, t56, t57, t58, t59, t60, t61, t62, t63, t64, t65, t66, t67, t68, t69, t70, t71, t72, t73, t74, t75, t76, t77, t78, t79, t80, t81, t82, t83, t84, t85, t86, t87, t88, t89], defers := [] } wq := by
  have hS0 : (wq.drew.cell? ⟨pI, 0, none⟩ = some (.bool sI) ∧ wq.drew.cell? ⟨pI, 1, none⟩ = some (.slice aI nI cI)) ∧ Gr wq wq.drew := ⟨hcs, (Gr.refl wq).drew⟩
  clear hcs
  refine wp_region_held_drew (S := fun w' => (w'.cell? ⟨pI, 0, none⟩ = some (.bool sI) ∧ w'.cell? ⟨pI, 1, none⟩ = some (.slice aI nI cI)) ∧ Gr wq w') (by kernel_rfl) hS0 (fun hHeld => ?_)
  clear hS0
  generalize wq.drew = wd at *
  refine wpAnyH_take (i := 0) (oi := ({ dst := some 29, op := Op.move (Operand.tmp 7), type := 27, pos := "outright.go:44", after := #[], guard := none } : Oper)) (v := ?_) rfl (by kernel_rfl) (by kernel_rfl) (by kernel_rfl) (fun _ _ _ h => h) (Or.inl ⟨by rfl, ?_⟩) (by with_reducible assumption) ?_
  rotate_left
  · intro w hSw
    (try dsimp only at hSw)
    first | (go_simp; done) | (go_simp; with_reducible rfl)
  (try simp only [Act.put, List.setIfInBounds_toArray, List.set_cons_zero, List.set_cons_succ])
  refine wpAnyH_take (i := 1) (oi := ({ dst := some 30, op := Op.move (Operand.tmp 9), type := 27, pos := "outright.go:44", after := #[], guard := none } : Oper)) (v := ?_) rfl (by kernel_rfl) (by kernel_rfl) (by kernel_rfl) (fun _ _ _ h => h) (Or.inl ⟨by rfl, ?_⟩) (by with_reducible assumption) ?_
  rotate_left
  · intro w hSw
    (try dsimp only at hSw)
    first | (go_simp; done) | (go_simp; with_reducible rfl)
  (try simp only [Act.put, List.setIfInBounds_toArray, List.set_cons_zero, List.set_cons_succ])
  refine wpAnyH_take (i := 2) (oi := ({ dst := some 31, op := Op.binOp BinOp.add 27 (Operand.tmp 29) (Operand.tmp 30) 27, type := 27, pos := "outright.go:44", after := #[{ on := 0, ground := Ground.data }, { on := 1, ground := Ground.data }], guard := none } : Oper)) (v := ?_) rfl (by kernel_rfl) (by kernel_rfl) (by kernel_rfl) (fun _ _ _ h => h) (Or.inl ⟨by rfl, ?_⟩) (by with_reducible assumption) ?_
  rotate_left
  · intro w hSw
    (try dsimp only at hSw)
    first | (go_simp; done) | (go_simp; with_reducible rfl)
  (try simp only [Act.put, List.setIfInBounds_toArray, List.set_cons_zero, List.set_cons_succ])
  refine wpAnyH_take (i := 3) (oi := ({ dst := some 32, op := Op.binOp BinOp.neq 27 (Operand.tmp 31) (Operand.const (Value.int IntKind.i64 0)) 27, type := 4, pos := "outright.go:44", after := #[{ on := 2, ground := Ground.data }], guard := none } : Oper)) (v := ?_) rfl (by kernel_rfl) (by kernel_rfl) (by kernel_rfl) (fun _ _ _ h => h) (Or.inl ⟨by rfl, ?_⟩) (by with_reducible assumption) ?_
  rotate_left
  · intro w hSw
    (try dsimp only at hSw)
    first | (go_simp; done) | (go_simp; with_reducible rfl)
  (try simp only [Act.put, List.setIfInBounds_toArray, List.set_cons_zero, List.set_cons_succ])
  refine wpAnyH_take (i := 4) (oi := ({ dst := some 33, op := Op.move (Operand.tmp 32), type := 4, pos := "outright.go:44", after := #[{ on := 3, ground := Ground.data }], guard := none } : Oper)) (v := ?_) rfl (by kernel_rfl) (by kernel_rfl) (by kernel_rfl) (fun _ _ _ h => h) (Or.inl ⟨by rfl, ?_⟩) (by with_reducible assumption) ?_
  rotate_left
  · intro w hSw
    (try dsimp only at hSw)
    first | (go_simp; done) | (go_simp; with_reducible rfl)
  (try simp only [Act.put, List.setIfInBounds_toArray, List.set_cons_zero, List.set_cons_succ])
  refine wpAnyH_take (i := 5) (oi := ({ dst := some 34, op := Op.move (Operand.tmp 8), type := 9, pos := "outright.go:44", after := #[{ on := 4, ground := Ground.guard }], guard := some (4, false) } : Oper)) (v := ?_) rfl (by kernel_rfl) (by kernel_rfl) (by kernel_rfl) (fun _ _ _ h => h) (Or.inl ⟨by rfl, ?_⟩) (by with_reducible assumption) ?_
  rotate_left
  · intro w hSw
    (try dsimp only at hSw)
    first | (go_simp; done) | (go_simp; with_reducible rfl)
  (try simp only [Act.put, List.setIfInBounds_toArray, List.set_cons_zero, List.set_cons_succ])
  refine wpAnyH_take (i := 8) (oi := ({ dst := some 37, op := Op.move (Operand.tmp 6), type := 3, pos := "outright.go:44", after := #[{ on := 4, ground := Ground.guard }], guard := some (4, false) } : Oper)) (v := ?_) rfl (by kernel_rfl) (by kernel_rfl) (by kernel_rfl) (fun _ _ _ h => h) (Or.inl ⟨by rfl, ?_⟩) (by with_reducible assumption) ?_
  rotate_left
  · intro w hSw
    (try dsimp only at hSw)
    first | (go_simp; done) | (go_simp; with_reducible rfl)
  (try simp only [Act.put, List.setIfInBounds_toArray, List.set_cons_zero, List.set_cons_succ])
  refine wpAnyH_ready (rs := [6]) (by kernel_rfl) (by simp) ?_
  refine AllReadyH.cons (o := ({ dst := some 35, op := Op.call { callee := Callee.value (Operand.func 18), args := #[Operand.tmp 34, Operand.const (Value.string { data := #[45] })], argTypes := #[9, 9] }, type := 9, pos := "outright.go:44", after := #[{ on := 5, ground := Ground.data }, { on := 4, ground := Ground.chain }, { on := 4, ground := Ground.guard }], guard := some (4, false) } : Oper)) rfl (fun K hK => ?_) AllReadyH.nil
  go_simp
  with_reducible refine (X1.out _ hHeld.2).mono ?_
  rintro r wc1 ⟨rfl, gg3⟩
  refine hK.out _ _ ⟨⟨keepG gg3 hHeld.1.1, keepG gg3 hHeld.1.2⟩, hHeld.2.trans gg3⟩ (fun hH2 => ?_)
  have hzwc1 := hHeld.2.size
  clear hK K
  (try simp only [Act.put, List.setIfInBounds_toArray, List.set_cons_zero, List.set_cons_succ])
  refine wpAnyH_take (i := 7) (oi := ({ dst := some 36, op := Op.call { callee := Callee.builtin Builtin.len, args := #[Operand.tmp 35], argTypes := #[9] }, type := 3, pos := "outright.go:44", after := #[{ on := 6, ground := Ground.data }, { on := 4, ground := Ground.guard }], guard := some (4, false) } : Oper)) (v := ?_) rfl (by kernel_rfl) (by kernel_rfl) (by kernel_rfl) (fun _ _ _ h => h) (Or.inl ⟨by rfl, ?_⟩) (by with_reducible assumption) ?_
  rotate_left
  · intro w hSw
    (try dsimp only at hSw)
    first | (go_simp; done) | (go_simp; with_reducible rfl)
  (try simp only [Act.put, List.setIfInBounds_toArray, List.set_cons_zero, List.set_cons_succ])
  refine wpAnyH_take (i := 9) (oi := ({ dst := some 38, op := Op.binOp BinOp.neq 3 (Operand.tmp 36) (Operand.tmp 37) 3, type := 4, pos := "outright.go:44", after := #[{ on := 7, ground := Ground.data }, { on := 8, ground := Ground.data }, { on := 4, ground := Ground.guard }], guard := some (4, false) } : Oper)) (v := ?_) rfl (by kernel_rfl) (by kernel_rfl) (by kernel_rfl) (fun _ _ _ h => h) (Or.inl ⟨by rfl, ?_⟩) (by with_reducible assumption) ?_
  rotate_left
  · intro w hSw
    (try dsimp only at hSw)
    first | (go_simp; done) | (go_simp; with_reducible rfl)
  (try simp only [Act.put, List.setIfInBounds_toArray, List.set_cons_zero, List.set_cons_succ])
  refine wpAnyH_take (i := 10) (oi := ({ dst := some 39, op := Op.pick (Operand.tmp 33) (Operand.const (Value.bool true)) (Operand.tmp 38), type := 4, pos := "outright.go:44", after := #[{ on := 4, ground := Ground.data }, { on := 9, ground := Ground.data }], guard := none } : Oper)) (v := ?_) rfl (by kernel_rfl) (by kernel_rfl) (by kernel_rfl) (fun _ _ _ h => h) (Or.inl ⟨by rfl, ?_⟩) (by with_reducible assumption) ?_
  rotate_left
  · intro w hSw
    (try dsimp only at hSw)
    first | (go_simp; done) | (go_simp; with_reducible rfl)
  (try simp only [Act.put, List.setIfInBounds_toArray, List.set_cons_zero, List.set_cons_succ])
  refine wpAnyH_take (i := 11) (oi := ({ dst := some 40, op := Op.move (Operand.tmp 39), type := 4, pos := "outright.go:44", after := #[{ on := 10, ground := Ground.data }, { on := 6, ground := Ground.chain }], guard := none } : Oper)) (v := ?_) rfl (by kernel_rfl) (by kernel_rfl) (by kernel_rfl) (fun _ _ _ h => h) (Or.inl ⟨by rfl, ?_⟩) (by with_reducible assumption) ?_
  rotate_left
  · intro w hSw
    (try dsimp only at hSw)
    first | (go_simp; done) | (go_simp; with_reducible rfl)
  (try simp only [Act.put, List.setIfInBounds_toArray, List.set_cons_zero, List.set_cons_succ])
  refine wpAnyH_take (i := 12) (oi := ({ dst := some 41, op := Op.move (Operand.tmp 8), type := 9, pos := "outright.go:44", after := #[{ on := 11, ground := Ground.guard }], guard := some (11, false) } : Oper)) (v := ?_) rfl (by kernel_rfl) (by kernel_rfl) (by kernel_rfl) (fun _ _ _ h => h) (Or.inl ⟨by rfl, ?_⟩) (by with_reducible assumption) ?_
  rotate_left
  · intro w hSw
    (try dsimp only at hSw)
    first | (go_simp; done) | (go_simp; with_reducible rfl)
  (try simp only [Act.put, List.setIfInBounds_toArray, List.set_cons_zero, List.set_cons_succ])
  refine wpAnyH_take (i := 14) (oi := ({ dst := some 43, op := Op.fieldAddr 24 (Operand.tmp 5) 0, type := 0, pos := "outright.go:44", after := #[{ on := 11, ground := Ground.guard }], guard := some (11, false) } : Oper)) (v := ?_) rfl (by kernel_rfl) (by kernel_rfl) (by kernel_rfl) (fun _ _ _ h => h) (Or.inl ⟨by rfl, ?_⟩) (by with_reducible assumption) ?_
  rotate_left
  · intro w hSw
    (try dsimp only at hSw)
    first | (go_simp; done) | (go_simp; with_reducible rfl)
  (try simp only [Act.put, List.setIfInBounds_toArray, List.set_cons_zero, List.set_cons_succ])
  refine wpAnyH_take (i := 15) (oi := ({ dst := some 44, op := Op.load 4 (Operand.tmp 43), type := 4, pos := "outright.go:44", after := #[{ on := 14, ground := Ground.data }, { on := 11, ground := Ground.guard }], guard := some (11, false) } : Oper)) (v := ?_) rfl (by kernel_rfl) (by kernel_rfl) (by kernel_rfl) (fun _ _ _ h => h) (Or.inl ⟨by rfl, ?_⟩) (by with_reducible assumption) ?_
  rotate_left
  · intro w hSw
    (try dsimp only at hSw)
    first | (go_simp; done) | (go_simp; with_reducible rfl)
  (try simp only [Act.put, List.setIfInBounds_toArray, List.set_cons_zero, List.set_cons_succ])
  refine wpAnyH_ready (rs := [13]) (by kernel_rfl) (by simp) ?_
  refine AllReadyH.cons (o := ({ dst := some 42, op := Op.call { callee := Callee.value (Operand.func 19), args := #[Operand.tmp 41, Operand.const (Value.string { data := #[45] })], argTypes := #[9, 9] }, type := 4, pos := "outright.go:44", after := #[{ on := 12, ground := Ground.data }, { on := 11, ground := Ground.chain }, { on := 11, ground := Ground.guard }], guard := some (11, false) } : Oper)) rfl (fun K hK => ?_) AllReadyH.nil
  go_simp
  with_reducible refine (X2.out _ hH2.2).mono ?_
  rintro r wc4 ⟨rfl, gg6⟩
  refine hK.out _ _ ⟨⟨keepG gg6 hH2.1.1, keepG gg6 hH2.1.2⟩, hH2.2.trans gg6⟩ (fun hH5 => ?_)
  have hzwc4 := hH2.2.size
  clear hK K
  (try simp only [Act.put, List.setIfInBounds_toArray, List.set_cons_zero, List.set_cons_succ])
  refine wpAnyH_take (i := 16) (oi := ({ dst := some 45, op := Op.binOp BinOp.neq 4 (Operand.tmp 42) (Operand.tmp 44) 4, type := 4, pos := "outright.go:44", after := #[{ on := 13, ground := Ground.data }, { on := 15, ground := Ground.data }, { on := 11, ground := Ground.guard }], guard := some (11, false) } : Oper)) (v := ?_) rfl (by kernel_rfl) (by kernel_rfl) (by kernel_rfl) (fun _ _ _ h => h) (Or.inl ⟨by rfl, ?_⟩) (by with_reducible assumption) ?_
  rotate_left
  · intro w hSw
    (try dsimp only at hSw)
    first | (go_simp; done) | (go_simp; with_reducible rfl)
  (try simp only [Act.put, List.setIfInBounds_toArray, List.set_cons_zero, List.set_cons_succ])
  refine wpAnyH_take (i := 17) (oi := ({ dst := some 46, op := Op.pick (Operand.tmp 40) (Operand.const (Value.bool true)) (Operand.tmp 45), type := 4, pos := "outright.go:44", after := #[{ on := 11, ground := Ground.data }, { on := 16, ground := Ground.data }], guard := none } : Oper)) (v := ?_) rfl (by kernel_rfl) (by kernel_rfl) (by kernel_rfl) (fun _ _ _ h => h) (Or.inl ⟨by rfl, ?_⟩) (by with_reducible assumption) ?_
  rotate_left
  · intro w hSw
    (try dsimp only at hSw)
    first | (go_simp; done) | (go_simp; with_reducible rfl)
  (try simp only [Act.put, List.setIfInBounds_toArray, List.set_cons_zero, List.set_cons_succ])
  refine wpAnyH_done (by kernel_rfl) ?_ _
  exact ⟨_, _, _, _, _, _, _, _, _, _, _, _, _, _, _, _, _, rfl, hH5.2⟩
def RBc13 (t0 t2 t3 t4 t5 t6 t7 t8 t9 t11 t12 t13 t14 t15 t16 t17 t18 t19 t20 t21 t22 t23 t24 t25 t26 t27 t28 t29 t30 t31 t32 t33 t34 t35 t36 t37 t38 t39 t40 t41 t42 t43 t44 t45 t46 t47 t48 t49 t50 t51 t52 t53 t54 t55 t56 t57 t58 t59 t60 t61 t62 t63 t64 t65 t66 t67 t68 t69 t70 t71 t72 t73 t74 t75 t76 t77 t78 t79 t80 t81 t82 t83 t84 t85 t86 t87 t88 t89 : Value) (pP nP cP : Nat) (sP : Bool) (aP : Option Addr) (eP b V1 V2 : Int) (M1 M2 : Nat) (wq : World) : Exit → Act → World → Prop
  | .normal, a, w => ∃ u67 u68 u69 u70 wk s1 a1 n1 c1 e1, a = { tmps := #[t0, .int .i64 b, t2, t3, t4, t5, t6, t7, t8, t9, .pointer (some ⟨pP, 0, none⟩), t11, t12, t13, t14, t15, t16, t17, t18, t19, t20, t21, t22, t23, t24, t25, t26, t27, t28, t29, t30, t31, t32, t33, t34, t35, t36, t37, t38, t39, t40, t41, t42, t43, t44, t45, t46, t47, t48, t49, t50, t51, t52, t53, t54, t55, t56, t57, t58, t59, t60, t61, t62, t63, t64, t65, t66, u67, u68, u69, u70, t71, t72, t73, t74, t75, t76, t77, t78, t79, t80, t81, t82, t83, t84, t85, t86, t87, t88, t89], defers := [] } ∧ w = (((wk.setCell ⟨pP, 0, none⟩ (.bool s1)).setCell ⟨pP, 1, none⟩ (.slice a1 n1 c1)).setCell ⟨pP, 2, none⟩ (.int .i64 e1)) ∧ Nz wk s1 a1 n1 c1 e1 V2 M2 ∧ Gr wq wk
  | _, _, _ => False
set_option maxRecDepth 100000 in
set_option maxHeartbeats 20000000 in
theorem regBc13 (t0 t2 t3 t4 t5 t6 t7 t8 t9 t11 t12 t13 t14 t15 t16 t17 t18 t19 t20 t21 t22 t23 t24 t25 t26 t27 t28 t29 t30 t31 t32 t33 t34 t35 t36 t37 t38 t39 t40 t41 t42 t43 t44 t45 t46 t47 t48 t49 t50 t51 t52 t53 t54 t55 t56 t57 t58 t59 t60 t61 t62 t63 t64 t65 t66 t67 t68 t69 t70 t71 t72 t73 t74 t75 t76 t77 t78 t79 t80 t81 t82 t83 t84 t85 t86 t87 t88 t89 : Value) (pP nP cP : Nat) (sP : Bool) (aP : Option Addr) (eP b V1 V2 : Int) (M1 M2 : Nat) (wq : World)
    (X1 : Hid (∀ w1, Gr wq w1 → Calls Tryz.prog 20 #[.int .i64 b] w1 fun r w' => NzA w' r V1 M1 ∧ Gr w1 w'))
    (X2 : Hid (∀ w1 s a n c e, Gr wq w1 → Nz w1 s a n c e V1 M1 → Calls Tryz.prog 21 #[.agg #[.bool sP, .slice aP nP cP, .int .i64 eP], .agg #[.bool s, .slice a n c, .int .i64 e]] w1 fun r w' => NzA w' r V2 M2 ∧ Gr w1 w'))
    (hb : wq.heap[pP]? = some (.cells #[.bool sP, .slice aP nP cP, .int .i64 eP] 46)) :
    Code.wp Tryz.prog (Code.region 13 #[{ dst := some 67, op := Op.load 46 (Operand.tmp 10), type := 46, pos := "outright.go:52", after := #[], guard := none }, { dst := some 68, op := Op.move (Operand.tmp 1), type := 3, pos := "outright.go:52", after := #[], guard := none }, { dst := some 69, op := Op.call { callee := Callee.value (Operand.func 20), args := #[Operand.tmp 68], argTypes := #[2] }, type := 46, pos := "outright.go:52", after := #[{ on := 1, ground := Ground.data }], guard := none }, { dst := some 70, op := Op.call { callee := Callee.value (Operand.func 21), args := #[Operand.tmp 67, Operand.tmp 69], argTypes := #[46, 46] }, type := 46, pos := "outright.go:52", after := #[{ on := 0, ground := Ground.data }, { on := 2, ground := Ground.data }, { on := 2, ground := Ground.chain }], guard := none }, { dst := none, op := Op.store 46 (Operand.tmp 10) (Operand.tmp 70), type := 0, pos := "outright.go:52", after := #[{ on := 3, ground := Ground.data }, { on := 3, ground := Ground.chain }, { on := 0, ground := Ground.phase }, { on := 1, ground := Ground.phase }, { on := 2, ground := Ground.phase }, { on := 3, ground := Ground.phase }], guard := none }] true) (RBc13 t0 t2 t3 t4 t5 t6 t7 t8 t9 t11 t12 t13 t14 t15 t16 t17 t18 t19 t20 t21 t22 t23 t24 t25 t26 t27 t28 t29 t30 t31 t32 t33 t34 t35 t36 t37 t38 t39 t40 t41 t42 t43 t44 t45 t46 t47 t48 t49 t50 t51 t52 t53 t54 t55 t56 t57 t58 t59 t60 t61 t62 t63 t64 t65 t66 t67 t68 t69 t70 t71 t72 t73 t74 t75 t76 t77 t78 t79 t80 t81 t82 t83 t84 t85 t86 t87 t88 t89 pP nP cP sP aP eP b V1 V2 M1 M2 wq) { tmps := #[t0, .int .i64 b, t2, t3, t4, t5, t6, t7, t8, t9, .pointer (some ⟨pP, 0, none⟩), t11, t12, t13, t14, t15, t16, t17, t18, t19, t20, t21, t22, t23, t24, t25, t26, t27, t28, t29, t30, t31, t32, t33, t34, t35, t36, t37, t38, t39, t40, t41, t42, t43, t44, t45, t46, t47, t48, t49, t50, t51, t52, t53, t54, t55, t56, t57, t58, t59, t60, t61, t62, t63, t64, t65, t66, t67, t68, t69, t70, t71, t72, t73, t74, t75, t76, t77, t78, t79, t80, t81, t82, t83, t84, t85, t86, t87, t88, t89], defers := [] } wq := by
  have hS0 : True := trivial
  have hb0 : wq.drew.heap[pP]? = some (.cells #[.bool sP, .slice aP nP cP, .int .i64 eP] 46) := hb
  have hg0 : Gr wq wq.drew := (Gr.refl wq).drew
  clear hb
  refine wp_region_held_drew (S := fun w' => True) (by kernel_rfl) hS0 (fun hHeld => ?_)
  clear hS0
  generalize wq.drew = wd at *
  refine wpAnyH_take (i := 1) (oi := ({ dst := some 68, op := Op.move (Operand.tmp 1), type := 3, pos := "outright.go:52", after := #[], guard := none } : Oper)) (v := ?_) rfl (by kernel_rfl) (by kernel_rfl) (by kernel_rfl) (fun _ _ _ h => h) (Or.inl ⟨by rfl, ?_⟩) (by with_reducible assumption) ?_
  rotate_left
  · intro w hSw
    (try dsimp only at hSw)
    first | (go_simp; done) | (go_simp; with_reducible rfl)
  (try simp only [Act.put, List.setIfInBounds_toArray, List.set_cons_zero, List.set_cons_succ])
  refine wpAnyH_ready (rs := [0, 2]) (by kernel_rfl) (by simp) ?_
  refine AllReadyH.cons (o := ({ dst := some 67, op := Op.load 46 (Operand.tmp 10), type := 46, pos := "outright.go:52", after := #[], guard := none } : Oper)) rfl (fun K hK => ?_) ?_
  · obtain ⟨x0', x1', x2'⟩ := bx3D hb0
    go_simp
    refine hK.out _ _ trivial (fun hH1 => ?_)
    clear hK K x0' x1' x2'
    (try simp only [Act.put, List.setIfInBounds_toArray, List.set_cons_zero, List.set_cons_succ])
    refine wpAnyH_ready (rs := [2]) (by kernel_rfl) (by simp) ?_
    refine AllReadyH.cons (o := ({ dst := some 69, op := Op.call { callee := Callee.value (Operand.func 20), args := #[Operand.tmp 68], argTypes := #[2] }, type := 46, pos := "outright.go:52", after := #[{ on := 1, ground := Ground.data }], guard := none } : Oper)) rfl (fun K hK => ?_) AllReadyH.nil
    go_simp
    with_reducible refine (X1.out _ hg0).mono ?_
    rintro r wc2 ⟨⟨s1, a1, n1, c1, e1, rfl, N1_5⟩, gg4⟩
    refine hK.out _ _ trivial (fun hH3 => ?_)
    clear hK K
    (try simp only [Act.put, List.setIfInBounds_toArray, List.set_cons_zero, List.set_cons_succ])
    have bP_6 := keepO gg4 hb0
    clear hb0
    have gq7 := hg0.trans gg4
    clear hg0
    refine wpAnyH_ready (rs := [3]) (by kernel_rfl) (by simp) ?_
    refine AllReadyH.cons (o := ({ dst := some 70, op := Op.call { callee := Callee.value (Operand.func 21), args := #[Operand.tmp 67, Operand.tmp 69], argTypes := #[46, 46] }, type := 46, pos := "outright.go:52", after := #[{ on := 0, ground := Ground.data }, { on := 2, ground := Ground.data }, { on := 2, ground := Ground.chain }], guard := none } : Oper)) rfl (fun K hK => ?_) AllReadyH.nil
    go_simp
    with_reducible refine (X2.out _ _ _ _ _ _ gq7 N1_5).mono ?_
    rintro r wc8 ⟨⟨s2, a2, n2, c2, e2, rfl, N2_11⟩, gg10⟩
    refine hK.out _ _ trivial (fun hH9 => ?_)
    clear hK K
    (try simp only [Act.put, List.setIfInBounds_toArray, List.set_cons_zero, List.set_cons_succ])
    have bP_12 := keepO gg10 bP_6
    clear bP_6
    have N1_13 := N1_5.gr gg10
    clear N1_5
    have gq14 := gq7.trans gg10
    clear gq7
    refine wpAnyH_ready (rs := [4]) (by kernel_rfl) (by simp) ?_
    refine AllReadyH.cons (o := ({ dst := none, op := Op.store 46 (Operand.tmp 10) (Operand.tmp 70), type := 0, pos := "outright.go:52", after := #[{ on := 3, ground := Ground.data }, { on := 3, ground := Ground.chain }, { on := 0, ground := Ground.phase }, { on := 1, ground := Ground.phase }, { on := 2, ground := Ground.phase }, { on := 3, ground := Ground.phase }], guard := none } : Oper)) rfl (fun K hK => ?_) AllReadyH.nil
    obtain ⟨t0', t1', t2'⟩ := bx3D bP_12
    obtain ⟨u0', u1', u2'⟩ := out3D bP_12
    go_simp
    refine hK.out _ _ trivial (fun hS15 => ?_)
    clear hK K t0' t1' t2' u0' u1' u2'
    (try simp only [Act.put, List.setIfInBounds_toArray, List.set_cons_zero, List.set_cons_succ])
    refine wpAnyH_done (by kernel_rfl) ?_ _
    exact ⟨_, _, _, _, wc8, s2, a2, n2, c2, e2, rfl, rfl, N2_11, gq14⟩
  refine AllReadyH.cons (o := ({ dst := some 69, op := Op.call { callee := Callee.value (Operand.func 20), args := #[Operand.tmp 68], argTypes := #[2] }, type := 46, pos := "outright.go:52", after := #[{ on := 1, ground := Ground.data }], guard := none } : Oper)) rfl (fun K hK => ?_) AllReadyH.nil
  go_simp
  with_reducible refine (X1.out _ hg0).mono ?_
  rintro r wc16 ⟨⟨s1, a1, n1, c1, e1, rfl, N1_19⟩, gg18⟩
  refine hK.out _ _ trivial (fun hH17 => ?_)
  clear hK K
  (try simp only [Act.put, List.setIfInBounds_toArray, List.set_cons_zero, List.set_cons_succ])
  have bP_20 := keepO gg18 hb0
  clear hb0
  have gq21 := hg0.trans gg18
  clear hg0
  refine wpAnyH_ready (rs := [0]) (by kernel_rfl) (by simp) ?_
  refine AllReadyH.cons (o := ({ dst := some 67, op := Op.load 46 (Operand.tmp 10), type := 46, pos := "outright.go:52", after := #[], guard := none } : Oper)) rfl (fun K hK => ?_) AllReadyH.nil
  obtain ⟨x0', x1', x2'⟩ := bx3D bP_20
  go_simp
  refine hK.out _ _ trivial (fun hH22 => ?_)
  clear hK K x0' x1' x2'
  (try simp only [Act.put, List.setIfInBounds_toArray, List.set_cons_zero, List.set_cons_succ])
  refine wpAnyH_ready (rs := [3]) (by kernel_rfl) (by simp) ?_
  refine AllReadyH.cons (o := ({ dst := some 70, op := Op.call { callee := Callee.value (Operand.func 21), args := #[Operand.tmp 67, Operand.tmp 69], argTypes := #[46, 46] }, type := 46, pos := "outright.go:52", after := #[{ on := 0, ground := Ground.data }, { on := 2, ground := Ground.data }, { on := 2, ground := Ground.chain }], guard := none } : Oper)) rfl (fun K hK => ?_) AllReadyH.nil
  go_simp
  with_reducible refine (X2.out _ _ _ _ _ _ gq21 N1_19).mono ?_
  rintro r wc23 ⟨⟨s2, a2, n2, c2, e2, rfl, N2_26⟩, gg25⟩
  refine hK.out _ _ trivial (fun hH24 => ?_)
  clear hK K
  (try simp only [Act.put, List.setIfInBounds_toArray, List.set_cons_zero, List.set_cons_succ])
  have bP_27 := keepO gg25 bP_20
  clear bP_20
  have N1_28 := N1_19.gr gg25
  clear N1_19
  have gq29 := gq21.trans gg25
  clear gq21
  refine wpAnyH_ready (rs := [4]) (by kernel_rfl) (by simp) ?_
  refine AllReadyH.cons (o := ({ dst := none, op := Op.store 46 (Operand.tmp 10) (Operand.tmp 70), type := 0, pos := "outright.go:52", after := #[{ on := 3, ground := Ground.data }, { on := 3, ground := Ground.chain }, { on := 0, ground := Ground.phase }, { on := 1, ground := Ground.phase }, { on := 2, ground := Ground.phase }, { on := 3, ground := Ground.phase }], guard := none } : Oper)) rfl (fun K hK => ?_) AllReadyH.nil
  obtain ⟨t0', t1', t2'⟩ := bx3D bP_27
  obtain ⟨u0', u1', u2'⟩ := out3D bP_27
  go_simp
  refine hK.out _ _ trivial (fun hS30 => ?_)
  clear hK K t0' t1' t2' u0' u1' u2'
  (try simp only [Act.put, List.setIfInBounds_toArray, List.set_cons_zero, List.set_cons_succ])
  refine wpAnyH_done (by kernel_rfl) ?_ _
  exact ⟨_, _, _, _, wc23, s2, a2, n2, c2, e2, rfl, rfl, N2_26, gq29⟩
def RBc15 (t0 t2 t3 t4 t5 t6 t7 t8 t9 t11 t13 t14 t15 t16 t17 t18 t19 t20 t21 t22 t23 t24 t25 t26 t27 t28 t29 t30 t31 t32 t33 t34 t35 t36 t37 t38 t39 t40 t41 t42 t43 t44 t45 t46 t47 t48 t49 t50 t51 t52 t53 t54 t55 t56 t57 t58 t59 t60 t61 t62 t63 t64 t65 t66 t67 t68 t69 t70 t71 t72 t73 t74 t75 t76 t77 t78 t79 t80 t81 t82 t83 t84 t85 t86 t87 t88 t89 : Value) (pP nP cP pS nS cS : Nat) (sP sS : Bool) (aP aS : Option Addr) (eP eS : Int) (b V1 V2 k1 k2 : Int) (M1 M2 : Nat) (wq : World) : Exit → Act → World → Prop
  | .normal, a, w => ∃ u74 u75 u76 u77 u78 u79 u80 u81 u82 u83 u84 u85 u86 u87 u88 u89, a = { tmps := #[t0, .int .i64 b, t2, t3, .bool true, t5, t6, t7, t8, t9, .pointer (some ⟨pP, 0, none⟩), t11, .pointer (some ⟨pS, 0, none⟩), t13, t14, t15, t16, t17, t18, t19, t20, t21, t22, t23, t24, t25, t26, t27, t28, t29, t30, t31, t32, t33, t34, t35, t36, t37, t38, t39, t40, t41, t42, t43, t44, t45, t46, t47, t48, t49, t50, t51, t52, t53, t54, t55, t56, t57, t58, t59, t60, t61, t62, t63, t64, t65, t66, t67, t68, t69, t70, t71, t72, t73, u74, u75, u76, u77, u78, u79, u80, u81, u82, u83, u84, u85, u86, u87, u88, u89], defers := [] } ∧ Gr wq w
  | _, _, _ => False
set_option maxRecDepth 100000 in
set_option maxHeartbeats 20000000 in
theorem regBc15 (t0 t2 t3 t4 t5 t6 t7 t8 t9 t11 t13 t14 t15 t16 t17 t18 t19 t20 t21 t22 t23 t24 t25 t26 t27 t28 t29 t30 t31 t32 t33 t34 t35 t36 t37 t38 t39 t40 t41 t42 t43 t44 t45 t46 t47 t48 t49 t50 t51 t52 t53 t54 t55 t56 t57 t58 t59 t60 t61 t62 t63 t64 t65 t66 t67 t68 t69 t70 t71 t72 t73 t74 t75 t76 t77 t78 t79 t80 t81 t82 t83 t84 t85 t86 t87 t88 t89 : Value) (pP nP cP pS nS cS : Nat) (sP sS : Bool) (aP aS : Option Addr) (eP eS : Int) (b V1 V2 k1 k2 : Int) (M1 M2 : Nat) (wq : World)
    (X1 : Hid (∀ w1, Gr wq w1 → Calls Tryz.prog 22 #[.agg #[.bool sP, .slice aP nP cP, .int .i64 eP], .agg #[.bool sS, .slice aS nS cS, .int .i64 eS]] w1 fun r w' => r = .returned (.int .i64 k1) ∧ Gr w1 w'))
    (X2 : Hid (∀ w1, Gr wq w1 → Calls Tryz.prog 20 #[.int .i64 b] w1 fun r w' => NzA w' r V1 M1 ∧ Gr w1 w'))
    (X3 : Hid (∀ w1 s a n c e, Gr wq w1 → Nz w1 s a n c e V1 M1 → Calls Tryz.prog 21 #[.agg #[.bool sP, .slice aP nP cP, .int .i64 eP], .agg #[.bool s, .slice a n c, .int .i64 e]] w1 fun r w' => NzA w' r V2 M2 ∧ Gr w1 w'))
    (X4 : Hid (∀ w1 s a n c e, Gr wq w1 → Nz w1 s a n c e V2 M2 → Calls Tryz.prog 22 #[.agg #[.bool sS, .slice aS nS cS, .int .i64 eS], .agg #[.bool s, .slice a n c, .int .i64 e]] w1 fun r w' => r = .returned (.int .i64 k2) ∧ Gr w1 w'))
    (X5 : Hid (∀ w1, Gr wq w1 → Calls Tryz.prog 6 #[] w1 fun r w' => r = .returned (.bool true) ∧ Gr w1 w'))
    (hk1 : k1 ≤ 0) (hk2 : k2 < 0) (hpP : pP < wq.heap.size) (hpS : pS < wq.heap.size) (hcs : (wq.cell? ⟨pP, 0, none⟩ = some (.bool sP) ∧ wq.cell? ⟨pP, 1, none⟩ = some (.slice aP nP cP) ∧ wq.cell? ⟨pP, 2, none⟩ = some (.int .i64 eP) ∧ wq.cell? ⟨pS, 0, none⟩ = some (.bool sS) ∧ wq.cell? ⟨pS, 1, none⟩ = some (.slice aS nS cS) ∧ wq.cell? ⟨pS, 2, none⟩ = some (.int .i64 eS))) :
    Code.wp Tryz.prog (Code.region 15 #[{ dst := some 74, op := Op.load 46 (Operand.tmp 10), type := 46, pos := "outright.go:55", after := #[], guard := none }, { dst := some 75, op := Op.load 46 (Operand.tmp 12), type := 46, pos := "outright.go:55", after := #[], guard := none }, { dst := some 76, op := Op.call { callee := Callee.value (Operand.func 22), args := #[Operand.tmp 74, Operand.tmp 75], argTypes := #[46, 46] }, type := 3, pos := "outright.go:55", after := #[{ on := 0, ground := Ground.data }, { on := 1, ground := Ground.data }], guard := none }, { dst := some 77, op := Op.binOp BinOp.leq 3 (Operand.tmp 76) (Operand.const (Value.int IntKind.i64 0)) 3, type := 4, pos := "outright.go:55", after := #[{ on := 2, ground := Ground.data }], guard := none }, { dst := some 78, op := Op.move (Operand.tmp 77), type := 4, pos := "outright.go:55", after := #[{ on := 3, ground := Ground.data }, { on := 2, ground := Ground.chain }], guard := none }, { dst := some 79, op := Op.load 46 (Operand.tmp 12), type := 46, pos := "outright.go:55", after := #[{ on := 4, ground := Ground.guard }], guard := some (4, true) }, { dst := some 80, op := Op.load 46 (Operand.tmp 10), type := 46, pos := "outright.go:55", after := #[{ on := 4, ground := Ground.guard }], guard := some (4, true) }, { dst := some 81, op := Op.move (Operand.tmp 1), type := 3, pos := "outright.go:55", after := #[{ on := 4, ground := Ground.guard }], guard := some (4, true) }, { dst := some 82, op := Op.call { callee := Callee.value (Operand.func 20), args := #[Operand.tmp 81], argTypes := #[2] }, type := 46, pos := "outright.go:55", after := #[{ on := 7, ground := Ground.data }, { on := 4, ground := Ground.chain }, { on := 4, ground := Ground.guard }], guard := some (4, true) }, { dst := some 83, op := Op.call { callee := Callee.value (Operand.func 21), args := #[Operand.tmp 80, Operand.tmp 82], argTypes := #[46, 46] }, type := 46, pos := "outright.go:55", after := #[{ on := 6, ground := Ground.data }, { on := 8, ground := Ground.data }, { on := 8, ground := Ground.chain }, { on := 4, ground := Ground.guard }], guard := some (4, true) }, { dst := some 84, op := Op.call { callee := Callee.value (Operand.func 22), args := #[Operand.tmp 79, Operand.tmp 83], argTypes := #[46, 46] }, type := 3, pos := "outright.go:55", after := #[{ on := 5, ground := Ground.data }, { on := 9, ground := Ground.data }, { on := 9, ground := Ground.chain }, { on := 4, ground := Ground.guard }], guard := some (4, true) }, { dst := some 85, op := Op.binOp BinOp.lss 3 (Operand.tmp 84) (Operand.const (Value.int IntKind.i64 0)) 3, type := 4, pos := "outright.go:55", after := #[{ on := 10, ground := Ground.data }, { on := 4, ground := Ground.guard }], guard := some (4, true) }, { dst := some 86, op := Op.pick (Operand.tmp 78) (Operand.tmp 85) (Operand.const (Value.bool false)), type := 4, pos := "outright.go:55", after := #[{ on := 4, ground := Ground.data }, { on := 11, ground := Ground.data }], guard := none }, { dst := some 87, op := Op.move (Operand.tmp 86), type := 4, pos := "outright.go:55", after := #[{ on := 12, ground := Ground.data }, { on := 10, ground := Ground.chain }], guard := none }, { dst := some 88, op := Op.call { callee := Callee.value (Operand.func 6), args := #[], argTypes := #[] }, type := 4, pos := "outright.go:55", after := #[{ on := 13, ground := Ground.chain }, { on := 13, ground := Ground.guard }], guard := some (13, true) }, { dst := some 89, op := Op.pick (Operand.tmp 87) (Operand.tmp 88) (Operand.const (Value.bool false)), type := 4, pos := "outright.go:55", after := #[{ on := 13, ground := Ground.data }, { on := 14, ground := Ground.data }], guard := none }, { dst := some 4, op := Op.assign (Operand.tmp 89), type := 4, pos := "outright.go:55", after := #[{ on := 15, ground := Ground.data }, { on := 14, ground := Ground.chain }, { on := 0, ground := Ground.phase }, { on := 1, ground := Ground.phase }, { on := 2, ground := Ground.phase }, { on := 3, ground := Ground.phase }, { on := 4, ground := Ground.phase }, { on := 5, ground := Ground.phase }, { on := 6, ground := Ground.phase }, { on := 7, ground := Ground.phase }, { on := 8, ground := Ground.phase }, { on := 9, ground := Ground.phase }, { on := 10, ground := Ground.phase }, { on := 11, ground := Ground.phase }, { on := 12, ground := Ground.phase }, { on := 13, ground := Ground.phase }, { on := 14, ground := Ground.phase }, { on := 15, ground := Ground.phase }], guard := none }] true) (RBc15 t0 t2 t3 t4 t5 t6 t7 t8 t9 t11 t13 t14 t15 t16 t17 t18 t19 t20 t21 t22 t23 t24 t25 t26 t27 t28 t29 t30 t31 t32 t33 t34 t35 t36 t37 t38 t39 t40 t41 t42 t43 t44 t45 t46 t47 t48 t49 t50 t51 t52 t53 t54 t55 t56 t57 t58 t59 t60 t61 t62 t63 t64 t65 t66 t67 t68 t69 t70 t71 t72 t73 t74 t75 t76 t77 t78 t79 t80 t81 t82 t83 t84 t85 t86 t87 t88 t89 pP nP cP pS nS cS sP sS aP aS eP eS b V1 V2 k1 k2 M1 M2 wq) { tmps := #[t0, .int .i64 b, t2, t3, t4, t5, t6, t7, t8, t9, .pointer (some ⟨pP, 0, none⟩), t11, .pointer (some ⟨pS, 0, none⟩), t13, t14, t15, t16, t17, t18, t19, t20, t21, t22, t23, t24, t25, t26, t27, t28, t29, t30, t31, t32, t33, t34, t35, t36, t37, t38, t39, t40, t41, t42, t43, t44, t45, t46, t47, t48, t49, t50, t51, t52, t53, t54, t55, t56, t57, t58, t59, t60, t61, t62, t63, t64, t65, t66, t67, t68, t69, t70, t71, t72, t73, t74, t75, t76, t77, t78, t79, t80, t81, t82, t83, t84, t85, t86, t87, t88, t89], defers := [] } wq := by
  have hS0 : (wq.drew.cell? ⟨pP, 0, none⟩ = some (.bool sP) ∧ wq.drew.cell? ⟨pP, 1, none⟩ = some (.slice aP nP cP) ∧ wq.drew.cell? ⟨pP, 2, none⟩ = some (.int .i64 eP) ∧ wq.drew.cell? ⟨pS, 0, none⟩ = some (.bool sS) ∧ wq.drew.cell? ⟨pS, 1, none⟩ = some (.slice aS nS cS) ∧ wq.drew.cell? ⟨pS, 2, none⟩ = some (.int .i64 eS)) ∧ Gr wq wq.drew := ⟨hcs, (Gr.refl wq).drew⟩
  clear hcs
  refine wp_region_held_drew (S := fun w' => (w'.cell? ⟨pP, 0, none⟩ = some (.bool sP) ∧ w'.cell? ⟨pP, 1, none⟩ = some (.slice aP nP cP) ∧ w'.cell? ⟨pP, 2, none⟩ = some (.int .i64 eP) ∧ w'.cell? ⟨pS, 0, none⟩ = some (.bool sS) ∧ w'.cell? ⟨pS, 1, none⟩ = some (.slice aS nS cS) ∧ w'.cell? ⟨pS, 2, none⟩ = some (.int .i64 eS)) ∧ Gr wq w') (by kernel_rfl) hS0 (fun hHeld => ?_)
  clear hS0
  generalize wq.drew = wd at *
  refine wpAnyH_take (i := 0) (oi := ({ dst := some 74, op := Op.load 46 (Operand.tmp 10), type := 46, pos := "outright.go:55", after := #[], guard := none } : Oper)) (v := ?_) rfl (by kernel_rfl) (by kernel_rfl) (by kernel_rfl) (fun _ _ _ h => h) (Or.inl ⟨by rfl, ?_⟩) (by with_reducible assumption) ?_
  rotate_left
  · intro w hSw
    (try dsimp only at hSw)
    first | (go_simp; done) | (go_simp; with_reducible rfl)
  (try simp only [Act.put, List.setIfInBounds_toArray, List.set_cons_zero, List.set_cons_succ])
  refine wpAnyH_take (i := 1) (oi := ({ dst := some 75, op := Op.load 46 (Operand.tmp 12), type := 46, pos := "outright.go:55", after := #[], guard := none } : Oper)) (v := ?_) rfl (by kernel_rfl) (by kernel_rfl) (by kernel_rfl) (fun _ _ _ h => h) (Or.inl ⟨by rfl, ?_⟩) (by with_reducible assumption) ?_
  rotate_left
  · intro w hSw
    (try dsimp only at hSw)
    first | (go_simp; done) | (go_simp; with_reducible rfl)
  (try simp only [Act.put, List.setIfInBounds_toArray, List.set_cons_zero, List.set_cons_succ])
  refine wpAnyH_ready (rs := [2]) (by kernel_rfl) (by simp) ?_
  refine AllReadyH.cons (o := ({ dst := some 76, op := Op.call { callee := Callee.value (Operand.func 22), args := #[Operand.tmp 74, Operand.tmp 75], argTypes := #[46, 46] }, type := 3, pos := "outright.go:55", after := #[{ on := 0, ground := Ground.data }, { on := 1, ground := Ground.data }], guard := none } : Oper)) rfl (fun K hK => ?_) AllReadyH.nil
  go_simp
  with_reducible refine (X1.out _ hHeld.2).mono ?_
  rintro r wc1 ⟨rfl, gg3⟩
  refine hK.out _ _ ⟨⟨keepG gg3 hHeld.1.1, keepG gg3 hHeld.1.2.1, keepG gg3 hHeld.1.2.2.1, keepG gg3 hHeld.1.2.2.2.1, keepG gg3 hHeld.1.2.2.2.2.1, keepG gg3 hHeld.1.2.2.2.2.2⟩, hHeld.2.trans gg3⟩ (fun hH2 => ?_)
  have hzwc1 := hHeld.2.size
  clear hK K
  (try simp only [Act.put, List.setIfInBounds_toArray, List.set_cons_zero, List.set_cons_succ])
  refine wpAnyH_take (i := 3) (oi := ({ dst := some 77, op := Op.binOp BinOp.leq 3 (Operand.tmp 76) (Operand.const (Value.int IntKind.i64 0)) 3, type := 4, pos := "outright.go:55", after := #[{ on := 2, ground := Ground.data }], guard := none } : Oper)) (v := ?_) rfl (by kernel_rfl) (by kernel_rfl) (by kernel_rfl) (fun _ _ _ h => h) (Or.inl ⟨by rfl, ?_⟩) (by with_reducible assumption) ?_
  rotate_left
  · intro w hSw
    (try dsimp only at hSw)
    first | (go_simp; done) | (go_simp; with_reducible rfl)
  (try simp only [Act.put, List.setIfInBounds_toArray, List.set_cons_zero, List.set_cons_succ])
  refine wpAnyH_take (i := 4) (oi := ({ dst := some 78, op := Op.move (Operand.tmp 77), type := 4, pos := "outright.go:55", after := #[{ on := 3, ground := Ground.data }, { on := 2, ground := Ground.chain }], guard := none } : Oper)) (v := ?_) rfl (by kernel_rfl) (by kernel_rfl) (by kernel_rfl) (fun _ _ _ h => h) (Or.inl ⟨by rfl, ?_⟩) (by with_reducible assumption) ?_
  rotate_left
  · intro w hSw
    (try dsimp only at hSw)
    first | (go_simp; done) | (go_simp; with_reducible rfl)
  (try simp only [Act.put, List.setIfInBounds_toArray, List.set_cons_zero, List.set_cons_succ])
  refine wpAnyH_take (i := 5) (oi := ({ dst := some 79, op := Op.load 46 (Operand.tmp 12), type := 46, pos := "outright.go:55", after := #[{ on := 4, ground := Ground.guard }], guard := some (4, true) } : Oper)) (v := ?_) rfl (by kernel_rfl) (by kernel_rfl) (by kernel_rfl) (fun _ _ _ h => h) (Or.inl ⟨by rfl, ?_⟩) (by with_reducible assumption) ?_
  rotate_left
  · intro w hSw
    (try dsimp only at hSw)
    first | (go_simp; done) | (go_simp; with_reducible rfl)
  (try simp only [Act.put, List.setIfInBounds_toArray, List.set_cons_zero, List.set_cons_succ])
  refine wpAnyH_take (i := 6) (oi := ({ dst := some 80, op := Op.load 46 (Operand.tmp 10), type := 46, pos := "outright.go:55", after := #[{ on := 4, ground := Ground.guard }], guard := some (4, true) } : Oper)) (v := ?_) rfl (by kernel_rfl) (by kernel_rfl) (by kernel_rfl) (fun _ _ _ h => h) (Or.inl ⟨by rfl, ?_⟩) (by with_reducible assumption) ?_
  rotate_left
  · intro w hSw
    (try dsimp only at hSw)
    first | (go_simp; done) | (go_simp; with_reducible rfl)
  (try simp only [Act.put, List.setIfInBounds_toArray, List.set_cons_zero, List.set_cons_succ])
  refine wpAnyH_take (i := 7) (oi := ({ dst := some 81, op := Op.move (Operand.tmp 1), type := 3, pos := "outright.go:55", after := #[{ on := 4, ground := Ground.guard }], guard := some (4, true) } : Oper)) (v := ?_) rfl (by kernel_rfl) (by kernel_rfl) (by kernel_rfl) (fun _ _ _ h => h) (Or.inl ⟨by rfl, ?_⟩) (by with_reducible assumption) ?_
  rotate_left
  · intro w hSw
    (try dsimp only at hSw)
    first | (go_simp; done) | (go_simp; with_reducible rfl)
  (try simp only [Act.put, List.setIfInBounds_toArray, List.set_cons_zero, List.set_cons_succ])
  refine wpAnyH_ready (rs := [8]) (by kernel_rfl) (by simp) ?_
  refine AllReadyH.cons (o := ({ dst := some 82, op := Op.call { callee := Callee.value (Operand.func 20), args := #[Operand.tmp 81], argTypes := #[2] }, type := 46, pos := "outright.go:55", after := #[{ on := 7, ground := Ground.data }, { on := 4, ground := Ground.chain }, { on := 4, ground := Ground.guard }], guard := some (4, true) } : Oper)) rfl (fun K hK => ?_) AllReadyH.nil
  go_simp
  with_reducible refine (X2.out _ hH2.2).mono ?_
  rintro r wc4 ⟨⟨s1, a1, n1, c1, e1, rfl, N1_7⟩, gg6⟩
  refine hK.out _ _ ⟨⟨keepG gg6 hH2.1.1, keepG gg6 hH2.1.2.1, keepG gg6 hH2.1.2.2.1, keepG gg6 hH2.1.2.2.2.1, keepG gg6 hH2.1.2.2.2.2.1, keepG gg6 hH2.1.2.2.2.2.2⟩, hH2.2.trans gg6⟩ (fun hH5 => ?_)
  have hzwc4 := hH2.2.size
  clear hK K
  (try simp only [Act.put, List.setIfInBounds_toArray, List.set_cons_zero, List.set_cons_succ])
  refine wpAnyH_ready (rs := [9]) (by kernel_rfl) (by simp) ?_
  refine AllReadyH.cons (o := ({ dst := some 83, op := Op.call { callee := Callee.value (Operand.func 21), args := #[Operand.tmp 80, Operand.tmp 82], argTypes := #[46, 46] }, type := 46, pos := "outright.go:55", after := #[{ on := 6, ground := Ground.data }, { on := 8, ground := Ground.data }, { on := 8, ground := Ground.chain }, { on := 4, ground := Ground.guard }], guard := some (4, true) } : Oper)) rfl (fun K hK => ?_) AllReadyH.nil
  go_simp
  with_reducible refine (X3.out _ _ _ _ _ _ hH5.2 N1_7).mono ?_
  rintro r wc8 ⟨⟨s2, a2, n2, c2, e2, rfl, N2_11⟩, gg10⟩
  refine hK.out _ _ ⟨⟨keepG gg10 hH5.1.1, keepG gg10 hH5.1.2.1, keepG gg10 hH5.1.2.2.1, keepG gg10 hH5.1.2.2.2.1, keepG gg10 hH5.1.2.2.2.2.1, keepG gg10 hH5.1.2.2.2.2.2⟩, hH5.2.trans gg10⟩ (fun hH9 => ?_)
  have hzwc8 := hH5.2.size
  clear hK K
  (try simp only [Act.put, List.setIfInBounds_toArray, List.set_cons_zero, List.set_cons_succ])
  have N1_12 := N1_7.gr gg10
  clear N1_7
  refine wpAnyH_ready (rs := [10]) (by kernel_rfl) (by simp) ?_
  refine AllReadyH.cons (o := ({ dst := some 84, op := Op.call { callee := Callee.value (Operand.func 22), args := #[Operand.tmp 79, Operand.tmp 83], argTypes := #[46, 46] }, type := 3, pos := "outright.go:55", after := #[{ on := 5, ground := Ground.data }, { on := 9, ground := Ground.data }, { on := 9, ground := Ground.chain }, { on := 4, ground := Ground.guard }], guard := some (4, true) } : Oper)) rfl (fun K hK => ?_) AllReadyH.nil
  go_simp
  with_reducible refine (X4.out _ _ _ _ _ _ hH9.2 N2_11).mono ?_
  rintro r wc13 ⟨rfl, gg15⟩
  refine hK.out _ _ ⟨⟨keepG gg15 hH9.1.1, keepG gg15 hH9.1.2.1, keepG gg15 hH9.1.2.2.1, keepG gg15 hH9.1.2.2.2.1, keepG gg15 hH9.1.2.2.2.2.1, keepG gg15 hH9.1.2.2.2.2.2⟩, hH9.2.trans gg15⟩ (fun hH14 => ?_)
  have hzwc13 := hH9.2.size
  clear hK K
  (try simp only [Act.put, List.setIfInBounds_toArray, List.set_cons_zero, List.set_cons_succ])
  have N1_16 := N1_12.gr gg15
  clear N1_12
  have N2_17 := N2_11.gr gg15
  clear N2_11
  refine wpAnyH_take (i := 11) (oi := ({ dst := some 85, op := Op.binOp BinOp.lss 3 (Operand.tmp 84) (Operand.const (Value.int IntKind.i64 0)) 3, type := 4, pos := "outright.go:55", after := #[{ on := 10, ground := Ground.data }, { on := 4, ground := Ground.guard }], guard := some (4, true) } : Oper)) (v := ?_) rfl (by kernel_rfl) (by kernel_rfl) (by kernel_rfl) (fun _ _ _ h => h) (Or.inl ⟨by rfl, ?_⟩) (by with_reducible assumption) ?_
  rotate_left
  · intro w hSw
    (try dsimp only at hSw)
    first | (go_simp; done) | (go_simp; with_reducible rfl)
  (try simp only [Act.put, List.setIfInBounds_toArray, List.set_cons_zero, List.set_cons_succ])
  refine wpAnyH_take (i := 12) (oi := ({ dst := some 86, op := Op.pick (Operand.tmp 78) (Operand.tmp 85) (Operand.const (Value.bool false)), type := 4, pos := "outright.go:55", after := #[{ on := 4, ground := Ground.data }, { on := 11, ground := Ground.data }], guard := none } : Oper)) (v := ?_) rfl (by kernel_rfl) (by kernel_rfl) (by kernel_rfl) (fun _ _ _ h => h) (Or.inl ⟨by rfl, ?_⟩) (by with_reducible assumption) ?_
  rotate_left
  · intro w hSw
    (try dsimp only at hSw)
    first | (go_simp; done) | (go_simp; with_reducible rfl)
  (try simp only [Act.put, List.setIfInBounds_toArray, List.set_cons_zero, List.set_cons_succ])
  refine wpAnyH_take (i := 13) (oi := ({ dst := some 87, op := Op.move (Operand.tmp 86), type := 4, pos := "outright.go:55", after := #[{ on := 12, ground := Ground.data }, { on := 10, ground := Ground.chain }], guard := none } : Oper)) (v := ?_) rfl (by kernel_rfl) (by kernel_rfl) (by kernel_rfl) (fun _ _ _ h => h) (Or.inl ⟨by rfl, ?_⟩) (by with_reducible assumption) ?_
  rotate_left
  · intro w hSw
    (try dsimp only at hSw)
    first | (go_simp; done) | (go_simp; with_reducible rfl)
  (try simp only [Act.put, List.setIfInBounds_toArray, List.set_cons_zero, List.set_cons_succ])
  refine wpAnyH_ready (rs := [14]) (by kernel_rfl) (by simp) ?_
  refine AllReadyH.cons (o := ({ dst := some 88, op := Op.call { callee := Callee.value (Operand.func 6), args := #[], argTypes := #[] }, type := 4, pos := "outright.go:55", after := #[{ on := 13, ground := Ground.chain }, { on := 13, ground := Ground.guard }], guard := some (13, true) } : Oper)) rfl (fun K hK => ?_) AllReadyH.nil
  go_simp
  with_reducible refine (X5.out _ hH14.2).mono ?_
  rintro r wc18 ⟨rfl, gg20⟩
  refine hK.out _ _ ⟨⟨keepG gg20 hH14.1.1, keepG gg20 hH14.1.2.1, keepG gg20 hH14.1.2.2.1, keepG gg20 hH14.1.2.2.2.1, keepG gg20 hH14.1.2.2.2.2.1, keepG gg20 hH14.1.2.2.2.2.2⟩, hH14.2.trans gg20⟩ (fun hH19 => ?_)
  have hzwc18 := hH14.2.size
  clear hK K
  (try simp only [Act.put, List.setIfInBounds_toArray, List.set_cons_zero, List.set_cons_succ])
  have N1_21 := N1_16.gr gg20
  clear N1_16
  have N2_22 := N2_17.gr gg20
  clear N2_17
  refine wpAnyH_take (i := 15) (oi := ({ dst := some 89, op := Op.pick (Operand.tmp 87) (Operand.tmp 88) (Operand.const (Value.bool false)), type := 4, pos := "outright.go:55", after := #[{ on := 13, ground := Ground.data }, { on := 14, ground := Ground.data }], guard := none } : Oper)) (v := ?_) rfl (by kernel_rfl) (by kernel_rfl) (by kernel_rfl) (fun _ _ _ h => h) (Or.inl ⟨by rfl, ?_⟩) (by with_reducible assumption) ?_
  rotate_left
  · intro w hSw
    (try dsimp only at hSw)
    first | (go_simp; done) | (go_simp; with_reducible rfl)
  (try simp only [Act.put, List.setIfInBounds_toArray, List.set_cons_zero, List.set_cons_succ])
  refine wpAnyH_take (i := 16) (oi := ({ dst := some 4, op := Op.assign (Operand.tmp 89), type := 4, pos := "outright.go:55", after := #[{ on := 15, ground := Ground.data }, { on := 14, ground := Ground.chain }, { on := 0, ground := Ground.phase }, { on := 1, ground := Ground.phase }, { on := 2, ground := Ground.phase }, { on := 3, ground := Ground.phase }, { on := 4, ground := Ground.phase }, { on := 5, ground := Ground.phase }, { on := 6, ground := Ground.phase }, { on := 7, ground := Ground.phase }, { on := 8, ground := Ground.phase }, { on := 9, ground := Ground.phase }, { on := 10, ground := Ground.phase }, { on := 11, ground := Ground.phase }, { on := 12, ground := Ground.phase }, { on := 13, ground := Ground.phase }, { on := 14, ground := Ground.phase }, { on := 15, ground := Ground.phase }], guard := none } : Oper)) (v := ?_) rfl (by kernel_rfl) (by kernel_rfl) (by kernel_rfl) (fun _ _ _ h => h) (Or.inl ⟨by rfl, ?_⟩) (by with_reducible assumption) ?_
  rotate_left
  · intro w hSw
    (try dsimp only at hSw)
    first | (go_simp; done) | (go_simp; with_reducible rfl)
  (try simp only [Act.put, List.setIfInBounds_toArray, List.set_cons_zero, List.set_cons_succ])
  refine wpAnyH_done (by kernel_rfl) ?_ _
  exact ⟨_, _, _, _, _, _, _, _, _, _, _, _, _, _, _, _, rfl, hH19.2⟩
end Go.Proofs.YtapnglidnblmcaaGreat
