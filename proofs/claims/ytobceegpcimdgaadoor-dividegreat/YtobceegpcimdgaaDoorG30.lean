import Derived.Test.YtobceegpcimdgaaDoorG29
namespace Go.Proofs.YtobceegpcimdgaaDoor
open Go.RowKit
set_option linter.unusedVariables false
set_option linter.unusedSimpArgs false

theorem pickW (x : Int) (n : Nat) (h0 : 1 ≤ n) (h1 : n ≤ 1099511627776) (w : World) : Calls Tryd.prog 7 #[.int .i64 x, .int .i64 (n : Int)] w fun r w' => r = .returned (.int .i64 (x % n)) ∧ w' = w := by
  rcases (show x % (n : Int) = Int.tmod x n ∧ ¬ Int.tmod x n < 0 ∨ x % (n : Int) = Int.tmod x n + n ∧ Int.tmod x n < 0 by
    have hp : (0 : Int) < (n : Int) := by omega
    by_cases hx : 0 ≤ x
    · rw [Int.tmod_eq_emod_of_nonneg hx]
      exact Or.inl ⟨rfl, by have := Int.emod_nonneg x (show (n : Int) ≠ 0 by omega); omega⟩
    · have e := Int.tmod_eq_emod (a := x) (b := n)
      have h1 := Int.emod_nonneg x (show (n : Int) ≠ 0 by omega)
      have h2 := Int.emod_lt_of_pos x hp
      split at e
      · rename_i hd
        rcases hd with hd | hd
        · omega
        · have : x % (n : Int) = 0 := Int.emod_eq_zero_of_dvd hd
          exact Or.inl ⟨by omega, by omega⟩
      · exact Or.inr ⟨by omega, by omega⟩) with ⟨e, h⟩ | ⟨e, h⟩
  · have hb : -9223372036854775808 ≤ Int.tmod x n ∧ Int.tmod x n < 9223372036854775808 := by
      have := Int.emod_lt_of_pos x (show (0 : Int) < (n : Int) by omega)
      omega
    rw [e]
    have hn1 : ¬ (n : Int) < 1 := by omega
    have hn0 : ((n : Int) == 0) = false := by simp; omega
    generalize hq : Int.tmod x n = q at *
    go_enter Tryd.func7, Tryd.ntmps7
    go_wp2
    go_ret
    exact ⟨rfl, rfl⟩
  · have hb : -9223372036854775808 ≤ Int.tmod x n ∧ Int.tmod x n < 9223372036854775808 := by
      have := Int.emod_nonneg x (show (n : Int) ≠ 0 by omega)
      omega
    rw [e]
    have hn1 : ¬ (n : Int) < 1 := by omega
    have hn0 : ((n : Int) == 0) = false := by simp; omega
    generalize hq : Int.tmod x n = q at *
    go_enter Tryd.func7, Tryd.ntmps7
    go_wp2
    go_ret
    exact ⟨rfl, rfl⟩

def RDg4 (t1 t2 t3 t4 t5 t6 t7 t8 t10 t11 t12 t13 t14 t15 t16 t17 t18 t19 t20 t21 t22 t23 t24 t25 t26 t27 t28 t29 t30 t31 t32 t33 t34 t35 t36 t37 t38 t39 t40 t41 t42 t43 t44 t45 t46 t47 t48 t49 t50 t51 t52 t53 t54 t55 t56 t57 t58 t59 t60 t61 t62 t63 t64 t65 t66 t67 t68 t69 t70 t71 t72 t73 t74 t75 t76 t77 t78 t79 t80 t81 t82 t83 t84 t85 t86 t87 t88 t89 t90 t91 : Value) (p9 n9 c9 : Nat) (s9 : Bool) (a9 : Option Addr) (N k Z : Int) (wq : World) : Exit → Act → World → Prop
  | .normal, a, w => ∃ u20 u21 u22 u23 u24 u25 u26 u27 pN b1 q1 m1 d1, a = { tmps := #[.int .i64 N, t1, t2, t3, t4, t5, t6, t7, t8, .pointer (some ⟨p9, 0, none⟩), .pointer (some ⟨pN, 0, none⟩), .int .i64 0, t12, t13, t14, t15, t16, t17, t18, t19, u20, u21, u22, u23, u24, u25, u26, u27, t28, t29, t30, t31, t32, t33, t34, t35, t36, t37, t38, t39, t40, t41, t42, t43, t44, t45, t46, t47, t48, t49, t50, t51, t52, t53, t54, t55, t56, t57, t58, t59, t60, t61, t62, t63, t64, t65, t66, t67, t68, t69, t70, t71, t72, t73, t74, t75, t76, t77, t78, t79, t80, t81, t82, t83, t84, t85, t86, t87, t88, t89, t90, t91], defers := [] } ∧ w.heap[pN]? = some (.cells #[.bool b1, .slice q1 m1 d1] 25) ∧ Wh w b1 q1 m1 d1 Z ∧ Fresh wq.heap.size w q1 m1 d1 ∧ wq.heap.size ≤ pN ∧ Gr wq w
  | _, _, _ => False
set_option maxRecDepth 100000 in
set_option maxHeartbeats 20000000 in
theorem regDg4 (t1 t2 t3 t4 t5 t6 t7 t8 t10 t11 t12 t13 t14 t15 t16 t17 t18 t19 t20 t21 t22 t23 t24 t25 t26 t27 t28 t29 t30 t31 t32 t33 t34 t35 t36 t37 t38 t39 t40 t41 t42 t43 t44 t45 t46 t47 t48 t49 t50 t51 t52 t53 t54 t55 t56 t57 t58 t59 t60 t61 t62 t63 t64 t65 t66 t67 t68 t69 t70 t71 t72 t73 t74 t75 t76 t77 t78 t79 t80 t81 t82 t83 t84 t85 t86 t87 t88 t89 t90 t91 : Value) (p9 n9 c9 : Nat) (s9 : Bool) (a9 : Option Addr) (N k Z : Int) (wq : World)
    (X1 : Hid (∀ w1, Calls Tryd.prog 7 #[.int .i64 N, .int .i64 262016] w1 fun r w' => r = .returned (.int .i64 k) ∧ Gr w1 w'))
    (X2 : Hid (∀ w1, Gr wq w1 → Calls Tryd.prog 6 #[.agg #[.bool s9, .slice a9 n9 c9], .int .i64 (IntKind.i64.wrap (64 + k))] w1 fun r w' => ∃ a b c d, r = .returned (.tuple #[.agg #[.bool a, .slice b c d], .int .i64 0]) ∧ Hid (Wh w' a b c d Z) ∧ Hid (Fresh wq.heap.size w' b c d) ∧ Gr w1 w'))
    (hk0 : 0 ≤ k) (hk1 : k < 262016) (hp9 : p9 < wq.heap.size) (G0 : Gr wq wq) (hcs : (wq.cell? ⟨p9, 0, none⟩ = some (.bool s9) ∧ wq.cell? ⟨p9, 1, none⟩ = some (.slice a9 n9 c9))) :
    Code.wp Tryd.prog (Code.region 4 #[{ dst := some 21, op := Op.load 25 (Operand.tmp 9), type := 25, pos := "outright.go:123", after := #[], guard := none }, { dst := some 22, op := Op.move (Operand.tmp 0), type := 3, pos := "outright.go:123", after := #[], guard := none }, { dst := some 23, op := Op.call { callee := Callee.value (Operand.func 7), args := #[Operand.tmp 22, Operand.const (Value.int IntKind.i64 262016)], argTypes := #[3, 3] }, type := 3, pos := "outright.go:123", after := #[{ on := 1, ground := Ground.data }], guard := none }, { dst := some 24, op := Op.binOp BinOp.add 3 (Operand.const (Value.int IntKind.i64 64)) (Operand.tmp 23) 3, type := 3, pos := "outright.go:123", after := #[{ on := 2, ground := Ground.data }], guard := none }, { dst := some 25, op := Op.call { callee := Callee.value (Operand.func 6), args := #[Operand.tmp 21, Operand.tmp 24], argTypes := #[25, 3] }, type := 28, pos := "outright.go:123", after := #[{ on := 0, ground := Ground.data }, { on := 3, ground := Ground.data }, { on := 2, ground := Ground.chain }], guard := none }, { dst := some 20, op := Op.move (Operand.tmp 25), type := 28, pos := "outright.go:123", after := #[{ on := 4, ground := Ground.data }], guard := none }, { dst := some 26, op := Op.extract (Operand.tmp 20) 0, type := 25, pos := "outright.go:123", after := #[{ on := 5, ground := Ground.data }], guard := none }, { dst := some 27, op := Op.extract (Operand.tmp 20) 1, type := 27, pos := "outright.go:123", after := #[{ on := 5, ground := Ground.data }, { on := 9, ground := Ground.gcOnly Departure.lateStores }], guard := none }, { dst := some 10, op := Op.alloc 25, type := 0, pos := "outright.go:123", after := #[], guard := none }, { dst := none, op := Op.store 25 (Operand.tmp 10) (Operand.tmp 26), type := 0, pos := "outright.go:123", after := #[{ on := 8, ground := Ground.data }, { on := 6, ground := Ground.data }, { on := 4, ground := Ground.chain }, { on := 0, ground := Ground.phase }, { on := 1, ground := Ground.phase }, { on := 2, ground := Ground.phase }, { on := 3, ground := Ground.phase }, { on := 4, ground := Ground.phase }, { on := 5, ground := Ground.phase }, { on := 6, ground := Ground.phase }, { on := 7, ground := Ground.textOnly Departure.lateStores }, { on := 8, ground := Ground.phase }], guard := none }, { dst := some 11, op := Op.assign (Operand.tmp 27), type := 27, pos := "outright.go:123", after := #[{ on := 7, ground := Ground.data }, { on := 9, ground := Ground.chain }, { on := 0, ground := Ground.phase }, { on := 1, ground := Ground.phase }, { on := 2, ground := Ground.phase }, { on := 3, ground := Ground.phase }, { on := 4, ground := Ground.phase }, { on := 5, ground := Ground.phase }, { on := 6, ground := Ground.phase }, { on := 7, ground := Ground.phase }, { on := 8, ground := Ground.phase }, { on := 9, ground := Ground.phase }], guard := none }] true) (RDg4 t1 t2 t3 t4 t5 t6 t7 t8 t10 t11 t12 t13 t14 t15 t16 t17 t18 t19 t20 t21 t22 t23 t24 t25 t26 t27 t28 t29 t30 t31 t32 t33 t34 t35 t36 t37 t38 t39 t40 t41 t42 t43 t44 t45 t46 t47 t48 t49 t50 t51 t52 t53 t54 t55 t56 t57 t58 t59 t60 t61 t62 t63 t64 t65 t66 t67 t68 t69 t70 t71 t72 t73 t74 t75 t76 t77 t78 t79 t80 t81 t82 t83 t84 t85 t86 t87 t88 t89 t90 t91 p9 n9 c9 s9 a9 N k Z wq) { tmps := #[.int .i64 N, t1, t2, t3, t4, t5, t6, t7, t8, .pointer (some ⟨p9, 0, none⟩), t10, t11, t12, t13, t14, t15, t16, t17, t18, t19, t20, t21, t22, t23, t24, t25, t26, t27, t28, t29, t30, t31, t32, t33, t34, t35, t36, t37, t38, t39, t40, t41, t42, t43, t44, t45, t46, t47, t48, t49, t50, t51, t52, t53, t54, t55, t56, t57, t58, t59, t60, t61, t62, t63, t64, t65, t66, t67, t68, t69, t70, t71, t72, t73, t74, t75, t76, t77, t78, t79, t80, t81, t82, t83, t84, t85, t86, t87, t88, t89, t90, t91], defers := [] } wq := by
  have hS0 : (wq.drew.cell? ⟨p9, 0, none⟩ = some (.bool s9) ∧ wq.drew.cell? ⟨p9, 1, none⟩ = some (.slice a9 n9 c9)) ∧ Gr wq wq.drew := ⟨hcs, G0.drew⟩
  clear hcs G0 
  refine wp_region_held_drew (S := fun w' => (w'.cell? ⟨p9, 0, none⟩ = some (.bool s9) ∧ w'.cell? ⟨p9, 1, none⟩ = some (.slice a9 n9 c9)) ∧ Gr wq w') (by kernel_rfl) hS0 (fun hHeld => ?_)
  clear hS0
  generalize wq.drew = wd at *
  refine wpAnyH_take (i := 0) (oi := ({ dst := some 21, op := Op.load 25 (Operand.tmp 9), type := 25, pos := "outright.go:123", after := #[], guard := none } : Oper)) (v := ?_) rfl (by kernel_rfl) (by kernel_rfl) (by kernel_rfl) (fun _ _ _ h => h) (Or.inl ⟨by rfl, ?_⟩) (by with_reducible assumption) ?_
  rotate_left
  · intro w hSw
    (try dsimp only at hSw)
    first | (go_simp; done) | (go_simp; with_reducible rfl)
  (try simp only [Act.put, List.setIfInBounds_toArray, List.set_cons_zero, List.set_cons_succ])
  refine wpAnyH_take (i := 1) (oi := ({ dst := some 22, op := Op.move (Operand.tmp 0), type := 3, pos := "outright.go:123", after := #[], guard := none } : Oper)) (v := ?_) rfl (by kernel_rfl) (by kernel_rfl) (by kernel_rfl) (fun _ _ _ h => h) (Or.inl ⟨by rfl, ?_⟩) (by with_reducible assumption) ?_
  rotate_left
  · intro w hSw
    (try dsimp only at hSw)
    first | (go_simp; done) | (go_simp; with_reducible rfl)
  (try simp only [Act.put, List.setIfInBounds_toArray, List.set_cons_zero, List.set_cons_succ])
  refine wpAnyH_ready (rs := [2, 8]) (by kernel_rfl) (by simp) ?_
  refine AllReadyH.cons (o := ({ dst := some 23, op := Op.call { callee := Callee.value (Operand.func 7), args := #[Operand.tmp 22, Operand.const (Value.int IntKind.i64 262016)], argTypes := #[3, 3] }, type := 3, pos := "outright.go:123", after := #[{ on := 1, ground := Ground.data }], guard := none } : Oper)) rfl (fun K hK => ?_) ?_
  · go_simp
    with_reducible refine (X1.out _).mono ?_
    rintro r wc1 ⟨rfl, gg3⟩
    refine hK.out _ _ ⟨⟨keepG gg3 hHeld.1.1, keepG gg3 hHeld.1.2⟩, hHeld.2.trans gg3⟩ (fun hH2 => ?_)
    have hzwc1 := hHeld.2.size
    clear hK K
    (try simp only [Act.put, List.setIfInBounds_toArray, List.set_cons_zero, List.set_cons_succ])
    refine wpAnyH_take (i := 3) (oi := ({ dst := some 24, op := Op.binOp BinOp.add 3 (Operand.const (Value.int IntKind.i64 64)) (Operand.tmp 23) 3, type := 3, pos := "outright.go:123", after := #[{ on := 2, ground := Ground.data }], guard := none } : Oper)) (v := ?_) rfl (by kernel_rfl) (by kernel_rfl) (by kernel_rfl) (fun _ _ _ h => h) (Or.inl ⟨by rfl, ?_⟩) (by with_reducible assumption) ?_
    rotate_left
    · intro w hSw
      (try dsimp only at hSw)
      first | (go_simp; done) | (go_simp; with_reducible rfl)
    (try simp only [Act.put, List.setIfInBounds_toArray, List.set_cons_zero, List.set_cons_succ])
    refine wpAnyH_ready (rs := [4, 8]) (by kernel_rfl) (by simp) ?_
    refine AllReadyH.cons (o := ({ dst := some 25, op := Op.call { callee := Callee.value (Operand.func 6), args := #[Operand.tmp 21, Operand.tmp 24], argTypes := #[25, 3] }, type := 28, pos := "outright.go:123", after := #[{ on := 0, ground := Ground.data }, { on := 3, ground := Ground.data }, { on := 2, ground := Ground.chain }], guard := none } : Oper)) rfl (fun K hK => ?_) ?_
    · go_simp
      with_reducible refine (X2.out _ hH2.2).mono ?_
      rintro r wc4 ⟨b1, q1, m1, d1, rfl, U1_7, J1_8, gg6⟩
      replace U1_7 := U1_7.out
      replace J1_8 := J1_8.out
      refine hK.out _ _ ⟨⟨keepG gg6 hH2.1.1, keepG gg6 hH2.1.2⟩, hH2.2.trans gg6⟩ (fun hH5 => ?_)
      have hzwc4 := hH2.2.size
      clear hK K
      (try simp only [Act.put, List.setIfInBounds_toArray, List.set_cons_zero, List.set_cons_succ])
      refine wpAnyH_take (i := 5) (oi := ({ dst := some 20, op := Op.move (Operand.tmp 25), type := 28, pos := "outright.go:123", after := #[{ on := 4, ground := Ground.data }], guard := none } : Oper)) (v := ?_) rfl (by kernel_rfl) (by kernel_rfl) (by kernel_rfl) (fun _ _ _ h => h) (Or.inl ⟨by rfl, ?_⟩) (by with_reducible assumption) ?_
      rotate_left
      · intro w hSw
        (try dsimp only at hSw)
        first | (go_simp; done) | (go_simp; with_reducible rfl)
      (try simp only [Act.put, List.setIfInBounds_toArray, List.set_cons_zero, List.set_cons_succ])
      refine wpAnyH_take (i := 6) (oi := ({ dst := some 26, op := Op.extract (Operand.tmp 20) 0, type := 25, pos := "outright.go:123", after := #[{ on := 5, ground := Ground.data }], guard := none } : Oper)) (v := ?_) rfl (by kernel_rfl) (by kernel_rfl) (by kernel_rfl) (fun _ _ _ h => h) (Or.inl ⟨by rfl, ?_⟩) (by with_reducible assumption) ?_
      rotate_left
      · intro w hSw
        (try dsimp only at hSw)
        first | (go_simp; done) | (go_simp; with_reducible rfl)
      (try simp only [Act.put, List.setIfInBounds_toArray, List.set_cons_zero, List.set_cons_succ])
      refine wpAnyH_take (i := 7) (oi := ({ dst := some 27, op := Op.extract (Operand.tmp 20) 1, type := 27, pos := "outright.go:123", after := #[{ on := 5, ground := Ground.data }, { on := 9, ground := Ground.gcOnly Departure.lateStores }], guard := none } : Oper)) (v := ?_) rfl (by kernel_rfl) (by kernel_rfl) (by kernel_rfl) (fun _ _ _ h => h) (Or.inl ⟨by rfl, ?_⟩) (by with_reducible assumption) ?_
      rotate_left
      · intro w hSw
        (try dsimp only at hSw)
        first | (go_simp; done) | (go_simp; with_reducible rfl)
      (try simp only [Act.put, List.setIfInBounds_toArray, List.set_cons_zero, List.set_cons_succ])
      refine wpAnyH_ready (rs := [8]) (by kernel_rfl) (by simp) ?_
      refine AllReadyH.cons (o := ({ dst := some 10, op := Op.alloc 25, type := 0, pos := "outright.go:123", after := #[], guard := none } : Oper)) rfl (fun K hK => ?_) AllReadyH.nil
      go_simp
      refine hK.out _ _ ⟨⟨keepG ((Gr.refl wc4).alloc (.cells #[.bool false, .slice none 0 0] 25)) hH5.1.1, keepG ((Gr.refl wc4).alloc (.cells #[.bool false, .slice none 0 0] 25)) hH5.1.2⟩, hH5.2.trans ((Gr.refl wc4).alloc (.cells #[.bool false, .slice none 0 0] 25))⟩ (fun hH10 => ?_)
      clear hK K
      (try simp only [Act.put, List.setIfInBounds_toArray, List.set_cons_zero, List.set_cons_succ])
      have B1_12 := blk1 wc4 (.cells #[.bool false, .slice none 0 0] 25)
      have gg11 := (Gr.refl wc4).alloc (.cells #[.bool false, .slice none 0 0] 25)
      have lB113 := hH5.2.size
      have U1_14 := U1_7.gr gg11
      clear U1_7
      have J1_15 := J1_8.gr gg11
      clear J1_8
      generalize wc4.alloc (.cells #[.bool false, .slice none 0 0] 25) = wa9 at *
      refine wpAnyH_ready (rs := [9]) (by kernel_rfl) (by simp) ?_
      refine AllReadyH.cons (o := ({ dst := none, op := Op.store 25 (Operand.tmp 10) (Operand.tmp 26), type := 0, pos := "outright.go:123", after := #[{ on := 8, ground := Ground.data }, { on := 6, ground := Ground.data }, { on := 4, ground := Ground.chain }, { on := 0, ground := Ground.phase }, { on := 1, ground := Ground.phase }, { on := 2, ground := Ground.phase }, { on := 3, ground := Ground.phase }, { on := 4, ground := Ground.phase }, { on := 5, ground := Ground.phase }, { on := 6, ground := Ground.phase }, { on := 7, ground := Ground.textOnly Departure.lateStores }, { on := 8, ground := Ground.phase }], guard := none } : Oper)) rfl (fun K hK => ?_) AllReadyH.nil
      obtain ⟨t0', t1', u0', u1'⟩ := outAny B1_12
      go_simp
      refine hK.out _ _ ⟨⟨far2 (B := wc4.heap.size) (by omega) hH10.1.1, far2 (B := wc4.heap.size) (by omega) hH10.1.2⟩, ((hH10.2.setCell (p := ⟨wc4.heap.size, 0, none⟩) (by show _ ≤ wc4.heap.size; omega) _).setCell (p := ⟨wc4.heap.size, 1, none⟩) (by show _ ≤ wc4.heap.size; omega) _)⟩ (fun hS16 => ?_)
      clear hK K t0' t1' u0' u1'
      (try simp only [Act.put, List.setIfInBounds_toArray, List.set_cons_zero, List.set_cons_succ])
      have U1_17 := wh_set2W U1_14 J1_15 B1_12 (.bool b1) (.slice q1 m1 d1) (by decide)
      have J1_18 := fresh_set2 J1_15 B1_12 (.bool b1) (.slice q1 m1 d1) (by decide)
      have B1_19 := put2_block B1_12 (.bool b1) (.slice q1 m1 d1)
      clear U1_14 J1_15 B1_12
      refine wpAnyH_take (i := 10) (oi := ({ dst := some 11, op := Op.assign (Operand.tmp 27), type := 27, pos := "outright.go:123", after := #[{ on := 7, ground := Ground.data }, { on := 9, ground := Ground.chain }, { on := 0, ground := Ground.phase }, { on := 1, ground := Ground.phase }, { on := 2, ground := Ground.phase }, { on := 3, ground := Ground.phase }, { on := 4, ground := Ground.phase }, { on := 5, ground := Ground.phase }, { on := 6, ground := Ground.phase }, { on := 7, ground := Ground.phase }, { on := 8, ground := Ground.phase }, { on := 9, ground := Ground.phase }], guard := none } : Oper)) (v := ?_) rfl (by kernel_rfl) (by kernel_rfl) (by kernel_rfl) (fun _ _ _ h => h) (Or.inl ⟨by rfl, ?_⟩) (by with_reducible assumption) ?_
      rotate_left
      · intro w hSw
        (try dsimp only at hSw)
        first | (go_simp; done) | (go_simp; with_reducible rfl)
      (try simp only [Act.put, List.setIfInBounds_toArray, List.set_cons_zero, List.set_cons_succ])
      refine wpAnyH_done (by kernel_rfl) ?_ _
      exact ⟨_, _, _, _, _, _, _, _, _, b1, q1, m1, d1, rfl, B1_19, U1_17, J1_18, (by omega), hS16.2⟩
    refine AllReadyH.cons (o := ({ dst := some 10, op := Op.alloc 25, type := 0, pos := "outright.go:123", after := #[], guard := none } : Oper)) rfl (fun K hK => ?_) AllReadyH.nil
    go_simp
    refine hK.out _ _ ⟨⟨keepG ((Gr.refl wc1).alloc (.cells #[.bool false, .slice none 0 0] 25)) hH2.1.1, keepG ((Gr.refl wc1).alloc (.cells #[.bool false, .slice none 0 0] 25)) hH2.1.2⟩, hH2.2.trans ((Gr.refl wc1).alloc (.cells #[.bool false, .slice none 0 0] 25))⟩ (fun hH21 => ?_)
    clear hK K
    (try simp only [Act.put, List.setIfInBounds_toArray, List.set_cons_zero, List.set_cons_succ])
    have B1_23 := blk1 wc1 (.cells #[.bool false, .slice none 0 0] 25)
    have gg22 := (Gr.refl wc1).alloc (.cells #[.bool false, .slice none 0 0] 25)
    have lB124 := hH2.2.size
    generalize wc1.alloc (.cells #[.bool false, .slice none 0 0] 25) = wa20 at *
    refine wpAnyH_ready (rs := [4]) (by kernel_rfl) (by simp) ?_
    refine AllReadyH.cons (o := ({ dst := some 25, op := Op.call { callee := Callee.value (Operand.func 6), args := #[Operand.tmp 21, Operand.tmp 24], argTypes := #[25, 3] }, type := 28, pos := "outright.go:123", after := #[{ on := 0, ground := Ground.data }, { on := 3, ground := Ground.data }, { on := 2, ground := Ground.chain }], guard := none } : Oper)) rfl (fun K hK => ?_) AllReadyH.nil
    go_simp
    with_reducible refine (X2.out _ hH21.2).mono ?_
    rintro r wc25 ⟨b1, q1, m1, d1, rfl, U1_28, J1_29, gg27⟩
    replace U1_28 := U1_28.out
    replace J1_29 := J1_29.out
    refine hK.out _ _ ⟨⟨keepG gg27 hH21.1.1, keepG gg27 hH21.1.2⟩, hH21.2.trans gg27⟩ (fun hH26 => ?_)
    have hzwc25 := hH21.2.size
    clear hK K
    (try simp only [Act.put, List.setIfInBounds_toArray, List.set_cons_zero, List.set_cons_succ])
    have B1_30 := keepO gg27 B1_23
    clear B1_23
    refine wpAnyH_take (i := 5) (oi := ({ dst := some 20, op := Op.move (Operand.tmp 25), type := 28, pos := "outright.go:123", after := #[{ on := 4, ground := Ground.data }], guard := none } : Oper)) (v := ?_) rfl (by kernel_rfl) (by kernel_rfl) (by kernel_rfl) (fun _ _ _ h => h) (Or.inl ⟨by rfl, ?_⟩) (by with_reducible assumption) ?_
    rotate_left
    · intro w hSw
      (try dsimp only at hSw)
      first | (go_simp; done) | (go_simp; with_reducible rfl)
    (try simp only [Act.put, List.setIfInBounds_toArray, List.set_cons_zero, List.set_cons_succ])
    refine wpAnyH_take (i := 6) (oi := ({ dst := some 26, op := Op.extract (Operand.tmp 20) 0, type := 25, pos := "outright.go:123", after := #[{ on := 5, ground := Ground.data }], guard := none } : Oper)) (v := ?_) rfl (by kernel_rfl) (by kernel_rfl) (by kernel_rfl) (fun _ _ _ h => h) (Or.inl ⟨by rfl, ?_⟩) (by with_reducible assumption) ?_
    rotate_left
    · intro w hSw
      (try dsimp only at hSw)
      first | (go_simp; done) | (go_simp; with_reducible rfl)
    (try simp only [Act.put, List.setIfInBounds_toArray, List.set_cons_zero, List.set_cons_succ])
    refine wpAnyH_take (i := 7) (oi := ({ dst := some 27, op := Op.extract (Operand.tmp 20) 1, type := 27, pos := "outright.go:123", after := #[{ on := 5, ground := Ground.data }, { on := 9, ground := Ground.gcOnly Departure.lateStores }], guard := none } : Oper)) (v := ?_) rfl (by kernel_rfl) (by kernel_rfl) (by kernel_rfl) (fun _ _ _ h => h) (Or.inl ⟨by rfl, ?_⟩) (by with_reducible assumption) ?_
    rotate_left
    · intro w hSw
      (try dsimp only at hSw)
      first | (go_simp; done) | (go_simp; with_reducible rfl)
    (try simp only [Act.put, List.setIfInBounds_toArray, List.set_cons_zero, List.set_cons_succ])
    refine wpAnyH_ready (rs := [9]) (by kernel_rfl) (by simp) ?_
    refine AllReadyH.cons (o := ({ dst := none, op := Op.store 25 (Operand.tmp 10) (Operand.tmp 26), type := 0, pos := "outright.go:123", after := #[{ on := 8, ground := Ground.data }, { on := 6, ground := Ground.data }, { on := 4, ground := Ground.chain }, { on := 0, ground := Ground.phase }, { on := 1, ground := Ground.phase }, { on := 2, ground := Ground.phase }, { on := 3, ground := Ground.phase }, { on := 4, ground := Ground.phase }, { on := 5, ground := Ground.phase }, { on := 6, ground := Ground.phase }, { on := 7, ground := Ground.textOnly Departure.lateStores }, { on := 8, ground := Ground.phase }], guard := none } : Oper)) rfl (fun K hK => ?_) AllReadyH.nil
    obtain ⟨t0', t1', u0', u1'⟩ := outAny B1_30
    go_simp
    refine hK.out _ _ ⟨⟨far2 (B := wc1.heap.size) (by omega) hH26.1.1, far2 (B := wc1.heap.size) (by omega) hH26.1.2⟩, ((hH26.2.setCell (p := ⟨wc1.heap.size, 0, none⟩) (by show _ ≤ wc1.heap.size; omega) _).setCell (p := ⟨wc1.heap.size, 1, none⟩) (by show _ ≤ wc1.heap.size; omega) _)⟩ (fun hS31 => ?_)
    clear hK K t0' t1' u0' u1'
    (try simp only [Act.put, List.setIfInBounds_toArray, List.set_cons_zero, List.set_cons_succ])
    have U1_32 := wh_set2W U1_28 J1_29 B1_30 (.bool b1) (.slice q1 m1 d1) (by decide)
    have J1_33 := fresh_set2 J1_29 B1_30 (.bool b1) (.slice q1 m1 d1) (by decide)
    have B1_34 := put2_block B1_30 (.bool b1) (.slice q1 m1 d1)
    clear U1_28 J1_29 B1_30
    refine wpAnyH_take (i := 10) (oi := ({ dst := some 11, op := Op.assign (Operand.tmp 27), type := 27, pos := "outright.go:123", after := #[{ on := 7, ground := Ground.data }, { on := 9, ground := Ground.chain }, { on := 0, ground := Ground.phase }, { on := 1, ground := Ground.phase }, { on := 2, ground := Ground.phase }, { on := 3, ground := Ground.phase }, { on := 4, ground := Ground.phase }, { on := 5, ground := Ground.phase }, { on := 6, ground := Ground.phase }, { on := 7, ground := Ground.phase }, { on := 8, ground := Ground.phase }, { on := 9, ground := Ground.phase }], guard := none } : Oper)) (v := ?_) rfl (by kernel_rfl) (by kernel_rfl) (by kernel_rfl) (fun _ _ _ h => h) (Or.inl ⟨by rfl, ?_⟩) (by with_reducible assumption) ?_
    rotate_left
    · intro w hSw
      (try dsimp only at hSw)
      first | (go_simp; done) | (go_simp; with_reducible rfl)
    (try simp only [Act.put, List.setIfInBounds_toArray, List.set_cons_zero, List.set_cons_succ])
    refine wpAnyH_done (by kernel_rfl) ?_ _
    exact ⟨_, _, _, _, _, _, _, _, _, b1, q1, m1, d1, rfl, B1_34, U1_32, J1_33, (by omega), hS31.2⟩
  refine AllReadyH.cons (o := ({ dst := some 10, op := Op.alloc 25, type := 0, pos := "outright.go:123", after := #[], guard := none } : Oper)) rfl (fun K hK => ?_) AllReadyH.nil
  go_simp
  refine hK.out _ _ ⟨⟨keepG ((Gr.refl wd).alloc (.cells #[.bool false, .slice none 0 0] 25)) hHeld.1.1, keepG ((Gr.refl wd).alloc (.cells #[.bool false, .slice none 0 0] 25)) hHeld.1.2⟩, hHeld.2.trans ((Gr.refl wd).alloc (.cells #[.bool false, .slice none 0 0] 25))⟩ (fun hH36 => ?_)
  clear hK K
  (try simp only [Act.put, List.setIfInBounds_toArray, List.set_cons_zero, List.set_cons_succ])
  have B1_38 := blk1 wd (.cells #[.bool false, .slice none 0 0] 25)
  have gg37 := (Gr.refl wd).alloc (.cells #[.bool false, .slice none 0 0] 25)
  have lB139 := hHeld.2.size
  generalize wd.alloc (.cells #[.bool false, .slice none 0 0] 25) = wa35 at *
  refine wpAnyH_ready (rs := [2]) (by kernel_rfl) (by simp) ?_
  refine AllReadyH.cons (o := ({ dst := some 23, op := Op.call { callee := Callee.value (Operand.func 7), args := #[Operand.tmp 22, Operand.const (Value.int IntKind.i64 262016)], argTypes := #[3, 3] }, type := 3, pos := "outright.go:123", after := #[{ on := 1, ground := Ground.data }], guard := none } : Oper)) rfl (fun K hK => ?_) AllReadyH.nil
  go_simp
  with_reducible refine (X1.out _).mono ?_
  rintro r wc40 ⟨rfl, gg42⟩
  refine hK.out _ _ ⟨⟨keepG gg42 hH36.1.1, keepG gg42 hH36.1.2⟩, hH36.2.trans gg42⟩ (fun hH41 => ?_)
  have hzwc40 := hH36.2.size
  clear hK K
  (try simp only [Act.put, List.setIfInBounds_toArray, List.set_cons_zero, List.set_cons_succ])
  have B1_43 := keepO gg42 B1_38
  clear B1_38
  refine wpAnyH_take (i := 3) (oi := ({ dst := some 24, op := Op.binOp BinOp.add 3 (Operand.const (Value.int IntKind.i64 64)) (Operand.tmp 23) 3, type := 3, pos := "outright.go:123", after := #[{ on := 2, ground := Ground.data }], guard := none } : Oper)) (v := ?_) rfl (by kernel_rfl) (by kernel_rfl) (by kernel_rfl) (fun _ _ _ h => h) (Or.inl ⟨by rfl, ?_⟩) (by with_reducible assumption) ?_
  rotate_left
  · intro w hSw
    (try dsimp only at hSw)
    first | (go_simp; done) | (go_simp; with_reducible rfl)
  (try simp only [Act.put, List.setIfInBounds_toArray, List.set_cons_zero, List.set_cons_succ])
  refine wpAnyH_ready (rs := [4]) (by kernel_rfl) (by simp) ?_
  refine AllReadyH.cons (o := ({ dst := some 25, op := Op.call { callee := Callee.value (Operand.func 6), args := #[Operand.tmp 21, Operand.tmp 24], argTypes := #[25, 3] }, type := 28, pos := "outright.go:123", after := #[{ on := 0, ground := Ground.data }, { on := 3, ground := Ground.data }, { on := 2, ground := Ground.chain }], guard := none } : Oper)) rfl (fun K hK => ?_) AllReadyH.nil
  go_simp
  with_reducible refine (X2.out _ hH41.2).mono ?_
  rintro r wc44 ⟨b1, q1, m1, d1, rfl, U1_47, J1_48, gg46⟩
  replace U1_47 := U1_47.out
  replace J1_48 := J1_48.out
  refine hK.out _ _ ⟨⟨keepG gg46 hH41.1.1, keepG gg46 hH41.1.2⟩, hH41.2.trans gg46⟩ (fun hH45 => ?_)
  have hzwc44 := hH41.2.size
  clear hK K
  (try simp only [Act.put, List.setIfInBounds_toArray, List.set_cons_zero, List.set_cons_succ])
  have B1_49 := keepO gg46 B1_43
  clear B1_43
  refine wpAnyH_take (i := 5) (oi := ({ dst := some 20, op := Op.move (Operand.tmp 25), type := 28, pos := "outright.go:123", after := #[{ on := 4, ground := Ground.data }], guard := none } : Oper)) (v := ?_) rfl (by kernel_rfl) (by kernel_rfl) (by kernel_rfl) (fun _ _ _ h => h) (Or.inl ⟨by rfl, ?_⟩) (by with_reducible assumption) ?_
  rotate_left
  · intro w hSw
    (try dsimp only at hSw)
    first | (go_simp; done) | (go_simp; with_reducible rfl)
  (try simp only [Act.put, List.setIfInBounds_toArray, List.set_cons_zero, List.set_cons_succ])
  refine wpAnyH_take (i := 6) (oi := ({ dst := some 26, op := Op.extract (Operand.tmp 20) 0, type := 25, pos := "outright.go:123", after := #[{ on := 5, ground := Ground.data }], guard := none } : Oper)) (v := ?_) rfl (by kernel_rfl) (by kernel_rfl) (by kernel_rfl) (fun _ _ _ h => h) (Or.inl ⟨by rfl, ?_⟩) (by with_reducible assumption) ?_
  rotate_left
  · intro w hSw
    (try dsimp only at hSw)
    first | (go_simp; done) | (go_simp; with_reducible rfl)
  (try simp only [Act.put, List.setIfInBounds_toArray, List.set_cons_zero, List.set_cons_succ])
  refine wpAnyH_take (i := 7) (oi := ({ dst := some 27, op := Op.extract (Operand.tmp 20) 1, type := 27, pos := "outright.go:123", after := #[{ on := 5, ground := Ground.data }, { on := 9, ground := Ground.gcOnly Departure.lateStores }], guard := none } : Oper)) (v := ?_) rfl (by kernel_rfl) (by kernel_rfl) (by kernel_rfl) (fun _ _ _ h => h) (Or.inl ⟨by rfl, ?_⟩) (by with_reducible assumption) ?_
  rotate_left
  · intro w hSw
    (try dsimp only at hSw)
    first | (go_simp; done) | (go_simp; with_reducible rfl)
  (try simp only [Act.put, List.setIfInBounds_toArray, List.set_cons_zero, List.set_cons_succ])
  refine wpAnyH_ready (rs := [9]) (by kernel_rfl) (by simp) ?_
  refine AllReadyH.cons (o := ({ dst := none, op := Op.store 25 (Operand.tmp 10) (Operand.tmp 26), type := 0, pos := "outright.go:123", after := #[{ on := 8, ground := Ground.data }, { on := 6, ground := Ground.data }, { on := 4, ground := Ground.chain }, { on := 0, ground := Ground.phase }, { on := 1, ground := Ground.phase }, { on := 2, ground := Ground.phase }, { on := 3, ground := Ground.phase }, { on := 4, ground := Ground.phase }, { on := 5, ground := Ground.phase }, { on := 6, ground := Ground.phase }, { on := 7, ground := Ground.textOnly Departure.lateStores }, { on := 8, ground := Ground.phase }], guard := none } : Oper)) rfl (fun K hK => ?_) AllReadyH.nil
  obtain ⟨t0', t1', u0', u1'⟩ := outAny B1_49
  go_simp
  refine hK.out _ _ ⟨⟨far2 (B := wd.heap.size) (by omega) hH45.1.1, far2 (B := wd.heap.size) (by omega) hH45.1.2⟩, ((hH45.2.setCell (p := ⟨wd.heap.size, 0, none⟩) (by show _ ≤ wd.heap.size; omega) _).setCell (p := ⟨wd.heap.size, 1, none⟩) (by show _ ≤ wd.heap.size; omega) _)⟩ (fun hS50 => ?_)
  clear hK K t0' t1' u0' u1'
  (try simp only [Act.put, List.setIfInBounds_toArray, List.set_cons_zero, List.set_cons_succ])
  have U1_51 := wh_set2W U1_47 J1_48 B1_49 (.bool b1) (.slice q1 m1 d1) (by decide)
  have J1_52 := fresh_set2 J1_48 B1_49 (.bool b1) (.slice q1 m1 d1) (by decide)
  have B1_53 := put2_block B1_49 (.bool b1) (.slice q1 m1 d1)
  clear U1_47 J1_48 B1_49
  refine wpAnyH_take (i := 10) (oi := ({ dst := some 11, op := Op.assign (Operand.tmp 27), type := 27, pos := "outright.go:123", after := #[{ on := 7, ground := Ground.data }, { on := 9, ground := Ground.chain }, { on := 0, ground := Ground.phase }, { on := 1, ground := Ground.phase }, { on := 2, ground := Ground.phase }, { on := 3, ground := Ground.phase }, { on := 4, ground := Ground.phase }, { on := 5, ground := Ground.phase }, { on := 6, ground := Ground.phase }, { on := 7, ground := Ground.phase }, { on := 8, ground := Ground.phase }, { on := 9, ground := Ground.phase }], guard := none } : Oper)) (v := ?_) rfl (by kernel_rfl) (by kernel_rfl) (by kernel_rfl) (fun _ _ _ h => h) (Or.inl ⟨by rfl, ?_⟩) (by with_reducible assumption) ?_
  rotate_left
  · intro w hSw
    (try dsimp only at hSw)
    first | (go_simp; done) | (go_simp; with_reducible rfl)
  (try simp only [Act.put, List.setIfInBounds_toArray, List.set_cons_zero, List.set_cons_succ])
  refine wpAnyH_done (by kernel_rfl) ?_ _
  exact ⟨_, _, _, _, _, _, _, _, _, b1, q1, m1, d1, rfl, B1_53, U1_51, J1_52, (by omega), hS50.2⟩
def RDg5 (t0 t2 t3 t4 t5 t6 t7 t8 t10 t11 t12 t13 t14 t15 t16 t17 t18 t19 t20 t21 t22 t23 t24 t25 t26 t27 t28 t29 t30 t31 t32 t33 t34 t35 t36 t37 t38 t39 t40 t41 t42 t43 t44 t45 t46 t47 t48 t49 t50 t51 t52 t53 t54 t55 t56 t57 t58 t59 t60 t61 t62 t63 t64 t65 t66 t67 t68 t69 t70 t71 t72 t73 t74 t75 t76 t77 t78 t79 t80 t81 t82 t83 t84 t85 t86 t87 t88 t89 t90 t91 : Value) (p9 n9 c9 : Nat) (s9 : Bool) (a9 : Option Addr) (N k Z : Int) (wq : World) : Exit → Act → World → Prop
  | .normal, a, w => ∃ u28 u29 u30 u31 u32 u33 u34 u35 pN b1 q1 m1 d1, a = { tmps := #[t0, .int .i64 N, t2, t3, t4, t5, t6, t7, t8, .pointer (some ⟨p9, 0, none⟩), t10, t11, .pointer (some ⟨pN, 0, none⟩), .int .i64 0, t14, t15, t16, t17, t18, t19, t20, t21, t22, t23, t24, t25, t26, t27, u28, u29, u30, u31, u32, u33, u34, u35, t36, t37, t38, t39, t40, t41, t42, t43, t44, t45, t46, t47, t48, t49, t50, t51, t52, t53, t54, t55, t56, t57, t58, t59, t60, t61, t62, t63, t64, t65, t66, t67, t68, t69, t70, t71, t72, t73, t74, t75, t76, t77, t78, t79, t80, t81, t82, t83, t84, t85, t86, t87, t88, t89, t90, t91], defers := [] } ∧ w.heap[pN]? = some (.cells #[.bool b1, .slice q1 m1 d1] 25) ∧ Wh w b1 q1 m1 d1 Z ∧ Fresh wq.heap.size w q1 m1 d1 ∧ wq.heap.size ≤ pN ∧ Gr wq w
  | _, _, _ => False
set_option maxRecDepth 100000 in
set_option maxHeartbeats 20000000 in
theorem regDg5 (t0 t2 t3 t4 t5 t6 t7 t8 t10 t11 t12 t13 t14 t15 t16 t17 t18 t19 t20 t21 t22 t23 t24 t25 t26 t27 t28 t29 t30 t31 t32 t33 t34 t35 t36 t37 t38 t39 t40 t41 t42 t43 t44 t45 t46 t47 t48 t49 t50 t51 t52 t53 t54 t55 t56 t57 t58 t59 t60 t61 t62 t63 t64 t65 t66 t67 t68 t69 t70 t71 t72 t73 t74 t75 t76 t77 t78 t79 t80 t81 t82 t83 t84 t85 t86 t87 t88 t89 t90 t91 : Value) (p9 n9 c9 : Nat) (s9 : Bool) (a9 : Option Addr) (N k Z : Int) (wq : World)
    (X1 : Hid (∀ w1, Calls Tryd.prog 7 #[.int .i64 N, .int .i64 262016] w1 fun r w' => r = .returned (.int .i64 k) ∧ Gr w1 w'))
    (X2 : Hid (∀ w1, Gr wq w1 → Calls Tryd.prog 6 #[.agg #[.bool s9, .slice a9 n9 c9], .int .i64 (IntKind.i64.wrap (64 + k))] w1 fun r w' => ∃ a b c d, r = .returned (.tuple #[.agg #[.bool a, .slice b c d], .int .i64 0]) ∧ Hid (Wh w' a b c d Z) ∧ Hid (Fresh wq.heap.size w' b c d) ∧ Gr w1 w'))
    (hk0 : 0 ≤ k) (hk1 : k < 262016) (hp9 : p9 < wq.heap.size) (G0 : Gr wq wq) (hcs : (wq.cell? ⟨p9, 0, none⟩ = some (.bool s9) ∧ wq.cell? ⟨p9, 1, none⟩ = some (.slice a9 n9 c9))) :
    Code.wp Tryd.prog (Code.region 5 #[{ dst := some 29, op := Op.load 25 (Operand.tmp 9), type := 25, pos := "outright.go:124", after := #[], guard := none }, { dst := some 30, op := Op.move (Operand.tmp 1), type := 3, pos := "outright.go:124", after := #[], guard := none }, { dst := some 31, op := Op.call { callee := Callee.value (Operand.func 7), args := #[Operand.tmp 30, Operand.const (Value.int IntKind.i64 262016)], argTypes := #[3, 3] }, type := 3, pos := "outright.go:124", after := #[{ on := 1, ground := Ground.data }], guard := none }, { dst := some 32, op := Op.binOp BinOp.add 3 (Operand.const (Value.int IntKind.i64 64)) (Operand.tmp 31) 3, type := 3, pos := "outright.go:124", after := #[{ on := 2, ground := Ground.data }], guard := none }, { dst := some 33, op := Op.call { callee := Callee.value (Operand.func 6), args := #[Operand.tmp 29, Operand.tmp 32], argTypes := #[25, 3] }, type := 28, pos := "outright.go:124", after := #[{ on := 0, ground := Ground.data }, { on := 3, ground := Ground.data }, { on := 2, ground := Ground.chain }], guard := none }, { dst := some 28, op := Op.move (Operand.tmp 33), type := 28, pos := "outright.go:124", after := #[{ on := 4, ground := Ground.data }], guard := none }, { dst := some 34, op := Op.extract (Operand.tmp 28) 0, type := 25, pos := "outright.go:124", after := #[{ on := 5, ground := Ground.data }], guard := none }, { dst := some 35, op := Op.extract (Operand.tmp 28) 1, type := 27, pos := "outright.go:124", after := #[{ on := 5, ground := Ground.data }, { on := 9, ground := Ground.gcOnly Departure.lateStores }], guard := none }, { dst := some 12, op := Op.alloc 25, type := 0, pos := "outright.go:124", after := #[], guard := none }, { dst := none, op := Op.store 25 (Operand.tmp 12) (Operand.tmp 34), type := 0, pos := "outright.go:124", after := #[{ on := 8, ground := Ground.data }, { on := 6, ground := Ground.data }, { on := 4, ground := Ground.chain }, { on := 0, ground := Ground.phase }, { on := 1, ground := Ground.phase }, { on := 2, ground := Ground.phase }, { on := 3, ground := Ground.phase }, { on := 4, ground := Ground.phase }, { on := 5, ground := Ground.phase }, { on := 6, ground := Ground.phase }, { on := 7, ground := Ground.textOnly Departure.lateStores }, { on := 8, ground := Ground.phase }], guard := none }, { dst := some 13, op := Op.assign (Operand.tmp 35), type := 27, pos := "outright.go:124", after := #[{ on := 7, ground := Ground.data }, { on := 9, ground := Ground.chain }, { on := 0, ground := Ground.phase }, { on := 1, ground := Ground.phase }, { on := 2, ground := Ground.phase }, { on := 3, ground := Ground.phase }, { on := 4, ground := Ground.phase }, { on := 5, ground := Ground.phase }, { on := 6, ground := Ground.phase }, { on := 7, ground := Ground.phase }, { on := 8, ground := Ground.phase }, { on := 9, ground := Ground.phase }], guard := none }] true) (RDg5 t0 t2 t3 t4 t5 t6 t7 t8 t10 t11 t12 t13 t14 t15 t16 t17 t18 t19 t20 t21 t22 t23 t24 t25 t26 t27 t28 t29 t30 t31 t32 t33 t34 t35 t36 t37 t38 t39 t40 t41 t42 t43 t44 t45 t46 t47 t48 t49 t50 t51 t52 t53 t54 t55 t56 t57 t58 t59 t60 t61 t62 t63 t64 t65 t66 t67 t68 t69 t70 t71 t72 t73 t74 t75 t76 t77 t78 t79 t80 t81 t82 t83 t84 t85 t86 t87 t88 t89 t90 t91 p9 n9 c9 s9 a9 N k Z wq) { tmps := #[t0, .int .i64 N, t2, t3, t4, t5, t6, t7, t8, .pointer (some ⟨p9, 0, none⟩), t10, t11, t12, t13, t14, t15, t16, t17, t18, t19, t20, t21, t22, t23, t24, t25, t26, t27, t28, t29, t30, t31, t32, t33, t34, t35, t36, t37, t38, t39, t40, t41, t42, t43, t44, t45, t46, t47, t48, t49, t50, t51, t52, t53, t54, t55, t56, t57, t58, t59, t60, t61, t62, t63, t64, t65, t66, t67, t68, t69, t70, t71, t72, t73, t74, t75, t76, t77, t78, t79, t80, t81, t82, t83, t84, t85, t86, t87, t88, t89, t90, t91], defers := [] } wq := by
  have hS0 : (wq.drew.cell? ⟨p9, 0, none⟩ = some (.bool s9) ∧ wq.drew.cell? ⟨p9, 1, none⟩ = some (.slice a9 n9 c9)) ∧ Gr wq wq.drew := ⟨hcs, G0.drew⟩
  clear hcs G0 
  refine wp_region_held_drew (S := fun w' => (w'.cell? ⟨p9, 0, none⟩ = some (.bool s9) ∧ w'.cell? ⟨p9, 1, none⟩ = some (.slice a9 n9 c9)) ∧ Gr wq w') (by kernel_rfl) hS0 (fun hHeld => ?_)
  clear hS0
  generalize wq.drew = wd at *
  refine wpAnyH_take (i := 0) (oi := ({ dst := some 29, op := Op.load 25 (Operand.tmp 9), type := 25, pos := "outright.go:124", after := #[], guard := none } : Oper)) (v := ?_) rfl (by kernel_rfl) (by kernel_rfl) (by kernel_rfl) (fun _ _ _ h => h) (Or.inl ⟨by rfl, ?_⟩) (by with_reducible assumption) ?_
  rotate_left
  · intro w hSw
    (try dsimp only at hSw)
    first | (go_simp; done) | (go_simp; with_reducible rfl)
  (try simp only [Act.put, List.setIfInBounds_toArray, List.set_cons_zero, List.set_cons_succ])
  refine wpAnyH_take (i := 1) (oi := ({ dst := some 30, op := Op.move (Operand.tmp 1), type := 3, pos := "outright.go:124", after := #[], guard := none } : Oper)) (v := ?_) rfl (by kernel_rfl) (by kernel_rfl) (by kernel_rfl) (fun _ _ _ h => h) (Or.inl ⟨by rfl, ?_⟩) (by with_reducible assumption) ?_
  rotate_left
  · intro w hSw
    (try dsimp only at hSw)
    first | (go_simp; done) | (go_simp; with_reducible rfl)
  (try simp only [Act.put, List.setIfInBounds_toArray, List.set_cons_zero, List.set_cons_succ])
  refine wpAnyH_ready (rs := [2, 8]) (by kernel_rfl) (by simp) ?_
  refine AllReadyH.cons (o := ({ dst := some 31, op := Op.call { callee := Callee.value (Operand.func 7), args := #[Operand.tmp 30, Operand.const (Value.int IntKind.i64 262016)], argTypes := #[3, 3] }, type := 3, pos := "outright.go:124", after := #[{ on := 1, ground := Ground.data }], guard := none } : Oper)) rfl (fun K hK => ?_) ?_
  · go_simp
    with_reducible refine (X1.out _).mono ?_
    rintro r wc1 ⟨rfl, gg3⟩
    refine hK.out _ _ ⟨⟨keepG gg3 hHeld.1.1, keepG gg3 hHeld.1.2⟩, hHeld.2.trans gg3⟩ (fun hH2 => ?_)
    have hzwc1 := hHeld.2.size
    clear hK K
    (try simp only [Act.put, List.setIfInBounds_toArray, List.set_cons_zero, List.set_cons_succ])
    refine wpAnyH_take (i := 3) (oi := ({ dst := some 32, op := Op.binOp BinOp.add 3 (Operand.const (Value.int IntKind.i64 64)) (Operand.tmp 31) 3, type := 3, pos := "outright.go:124", after := #[{ on := 2, ground := Ground.data }], guard := none } : Oper)) (v := ?_) rfl (by kernel_rfl) (by kernel_rfl) (by kernel_rfl) (fun _ _ _ h => h) (Or.inl ⟨by rfl, ?_⟩) (by with_reducible assumption) ?_
    rotate_left
    · intro w hSw
      (try dsimp only at hSw)
      first | (go_simp; done) | (go_simp; with_reducible rfl)
    (try simp only [Act.put, List.setIfInBounds_toArray, List.set_cons_zero, List.set_cons_succ])
    refine wpAnyH_ready (rs := [4, 8]) (by kernel_rfl) (by simp) ?_
    refine AllReadyH.cons (o := ({ dst := some 33, op := Op.call { callee := Callee.value (Operand.func 6), args := #[Operand.tmp 29, Operand.tmp 32], argTypes := #[25, 3] }, type := 28, pos := "outright.go:124", after := #[{ on := 0, ground := Ground.data }, { on := 3, ground := Ground.data }, { on := 2, ground := Ground.chain }], guard := none } : Oper)) rfl (fun K hK => ?_) ?_
    · go_simp
      with_reducible refine (X2.out _ hH2.2).mono ?_
      rintro r wc4 ⟨b1, q1, m1, d1, rfl, U1_7, J1_8, gg6⟩
      replace U1_7 := U1_7.out
      replace J1_8 := J1_8.out
      refine hK.out _ _ ⟨⟨keepG gg6 hH2.1.1, keepG gg6 hH2.1.2⟩, hH2.2.trans gg6⟩ (fun hH5 => ?_)
      have hzwc4 := hH2.2.size
      clear hK K
      (try simp only [Act.put, List.setIfInBounds_toArray, List.set_cons_zero, List.set_cons_succ])
      refine wpAnyH_take (i := 5) (oi := ({ dst := some 28, op := Op.move (Operand.tmp 33), type := 28, pos := "outright.go:124", after := #[{ on := 4, ground := Ground.data }], guard := none } : Oper)) (v := ?_) rfl (by kernel_rfl) (by kernel_rfl) (by kernel_rfl) (fun _ _ _ h => h) (Or.inl ⟨by rfl, ?_⟩) (by with_reducible assumption) ?_
      rotate_left
      · intro w hSw
        (try dsimp only at hSw)
        first | (go_simp; done) | (go_simp; with_reducible rfl)
      (try simp only [Act.put, List.setIfInBounds_toArray, List.set_cons_zero, List.set_cons_succ])
      refine wpAnyH_take (i := 6) (oi := ({ dst := some 34, op := Op.extract (Operand.tmp 28) 0, type := 25, pos := "outright.go:124", after := #[{ on := 5, ground := Ground.data }], guard := none } : Oper)) (v := ?_) rfl (by kernel_rfl) (by kernel_rfl) (by kernel_rfl) (fun _ _ _ h => h) (Or.inl ⟨by rfl, ?_⟩) (by with_reducible assumption) ?_
      rotate_left
      · intro w hSw
        (try dsimp only at hSw)
        first | (go_simp; done) | (go_simp; with_reducible rfl)
      (try simp only [Act.put, List.setIfInBounds_toArray, List.set_cons_zero, List.set_cons_succ])
      refine wpAnyH_take (i := 7) (oi := ({ dst := some 35, op := Op.extract (Operand.tmp 28) 1, type := 27, pos := "outright.go:124", after := #[{ on := 5, ground := Ground.data }, { on := 9, ground := Ground.gcOnly Departure.lateStores }], guard := none } : Oper)) (v := ?_) rfl (by kernel_rfl) (by kernel_rfl) (by kernel_rfl) (fun _ _ _ h => h) (Or.inl ⟨by rfl, ?_⟩) (by with_reducible assumption) ?_
      rotate_left
      · intro w hSw
        (try dsimp only at hSw)
        first | (go_simp; done) | (go_simp; with_reducible rfl)
      (try simp only [Act.put, List.setIfInBounds_toArray, List.set_cons_zero, List.set_cons_succ])
      refine wpAnyH_ready (rs := [8]) (by kernel_rfl) (by simp) ?_
      refine AllReadyH.cons (o := ({ dst := some 12, op := Op.alloc 25, type := 0, pos := "outright.go:124", after := #[], guard := none } : Oper)) rfl (fun K hK => ?_) AllReadyH.nil
      go_simp
      refine hK.out _ _ ⟨⟨keepG ((Gr.refl wc4).alloc (.cells #[.bool false, .slice none 0 0] 25)) hH5.1.1, keepG ((Gr.refl wc4).alloc (.cells #[.bool false, .slice none 0 0] 25)) hH5.1.2⟩, hH5.2.trans ((Gr.refl wc4).alloc (.cells #[.bool false, .slice none 0 0] 25))⟩ (fun hH10 => ?_)
      clear hK K
      (try simp only [Act.put, List.setIfInBounds_toArray, List.set_cons_zero, List.set_cons_succ])
      have B1_12 := blk1 wc4 (.cells #[.bool false, .slice none 0 0] 25)
      have gg11 := (Gr.refl wc4).alloc (.cells #[.bool false, .slice none 0 0] 25)
      have lB113 := hH5.2.size
      have U1_14 := U1_7.gr gg11
      clear U1_7
      have J1_15 := J1_8.gr gg11
      clear J1_8
      generalize wc4.alloc (.cells #[.bool false, .slice none 0 0] 25) = wa9 at *
      refine wpAnyH_ready (rs := [9]) (by kernel_rfl) (by simp) ?_
      refine AllReadyH.cons (o := ({ dst := none, op := Op.store 25 (Operand.tmp 12) (Operand.tmp 34), type := 0, pos := "outright.go:124", after := #[{ on := 8, ground := Ground.data }, { on := 6, ground := Ground.data }, { on := 4, ground := Ground.chain }, { on := 0, ground := Ground.phase }, { on := 1, ground := Ground.phase }, { on := 2, ground := Ground.phase }, { on := 3, ground := Ground.phase }, { on := 4, ground := Ground.phase }, { on := 5, ground := Ground.phase }, { on := 6, ground := Ground.phase }, { on := 7, ground := Ground.textOnly Departure.lateStores }, { on := 8, ground := Ground.phase }], guard := none } : Oper)) rfl (fun K hK => ?_) AllReadyH.nil
      obtain ⟨t0', t1', u0', u1'⟩ := outAny B1_12
      go_simp
      refine hK.out _ _ ⟨⟨far2 (B := wc4.heap.size) (by omega) hH10.1.1, far2 (B := wc4.heap.size) (by omega) hH10.1.2⟩, ((hH10.2.setCell (p := ⟨wc4.heap.size, 0, none⟩) (by show _ ≤ wc4.heap.size; omega) _).setCell (p := ⟨wc4.heap.size, 1, none⟩) (by show _ ≤ wc4.heap.size; omega) _)⟩ (fun hS16 => ?_)
      clear hK K t0' t1' u0' u1'
      (try simp only [Act.put, List.setIfInBounds_toArray, List.set_cons_zero, List.set_cons_succ])
      have U1_17 := wh_set2W U1_14 J1_15 B1_12 (.bool b1) (.slice q1 m1 d1) (by decide)
      have J1_18 := fresh_set2 J1_15 B1_12 (.bool b1) (.slice q1 m1 d1) (by decide)
      have B1_19 := put2_block B1_12 (.bool b1) (.slice q1 m1 d1)
      clear U1_14 J1_15 B1_12
      refine wpAnyH_take (i := 10) (oi := ({ dst := some 13, op := Op.assign (Operand.tmp 35), type := 27, pos := "outright.go:124", after := #[{ on := 7, ground := Ground.data }, { on := 9, ground := Ground.chain }, { on := 0, ground := Ground.phase }, { on := 1, ground := Ground.phase }, { on := 2, ground := Ground.phase }, { on := 3, ground := Ground.phase }, { on := 4, ground := Ground.phase }, { on := 5, ground := Ground.phase }, { on := 6, ground := Ground.phase }, { on := 7, ground := Ground.phase }, { on := 8, ground := Ground.phase }, { on := 9, ground := Ground.phase }], guard := none } : Oper)) (v := ?_) rfl (by kernel_rfl) (by kernel_rfl) (by kernel_rfl) (fun _ _ _ h => h) (Or.inl ⟨by rfl, ?_⟩) (by with_reducible assumption) ?_
      rotate_left
      · intro w hSw
        (try dsimp only at hSw)
        first | (go_simp; done) | (go_simp; with_reducible rfl)
      (try simp only [Act.put, List.setIfInBounds_toArray, List.set_cons_zero, List.set_cons_succ])
      refine wpAnyH_done (by kernel_rfl) ?_ _
      exact ⟨_, _, _, _, _, _, _, _, _, b1, q1, m1, d1, rfl, B1_19, U1_17, J1_18, (by omega), hS16.2⟩
    refine AllReadyH.cons (o := ({ dst := some 12, op := Op.alloc 25, type := 0, pos := "outright.go:124", after := #[], guard := none } : Oper)) rfl (fun K hK => ?_) AllReadyH.nil
    go_simp
    refine hK.out _ _ ⟨⟨keepG ((Gr.refl wc1).alloc (.cells #[.bool false, .slice none 0 0] 25)) hH2.1.1, keepG ((Gr.refl wc1).alloc (.cells #[.bool false, .slice none 0 0] 25)) hH2.1.2⟩, hH2.2.trans ((Gr.refl wc1).alloc (.cells #[.bool false, .slice none 0 0] 25))⟩ (fun hH21 => ?_)
    clear hK K
    (try simp only [Act.put, List.setIfInBounds_toArray, List.set_cons_zero, List.set_cons_succ])
    have B1_23 := blk1 wc1 (.cells #[.bool false, .slice none 0 0] 25)
    have gg22 := (Gr.refl wc1).alloc (.cells #[.bool false, .slice none 0 0] 25)
    have lB124 := hH2.2.size
    generalize wc1.alloc (.cells #[.bool false, .slice none 0 0] 25) = wa20 at *
    refine wpAnyH_ready (rs := [4]) (by kernel_rfl) (by simp) ?_
    refine AllReadyH.cons (o := ({ dst := some 33, op := Op.call { callee := Callee.value (Operand.func 6), args := #[Operand.tmp 29, Operand.tmp 32], argTypes := #[25, 3] }, type := 28, pos := "outright.go:124", after := #[{ on := 0, ground := Ground.data }, { on := 3, ground := Ground.data }, { on := 2, ground := Ground.chain }], guard := none } : Oper)) rfl (fun K hK => ?_) AllReadyH.nil
    go_simp
    with_reducible refine (X2.out _ hH21.2).mono ?_
    rintro r wc25 ⟨b1, q1, m1, d1, rfl, U1_28, J1_29, gg27⟩
    replace U1_28 := U1_28.out
    replace J1_29 := J1_29.out
    refine hK.out _ _ ⟨⟨keepG gg27 hH21.1.1, keepG gg27 hH21.1.2⟩, hH21.2.trans gg27⟩ (fun hH26 => ?_)
    have hzwc25 := hH21.2.size
    clear hK K
    (try simp only [Act.put, List.setIfInBounds_toArray, List.set_cons_zero, List.set_cons_succ])
    have B1_30 := keepO gg27 B1_23
    clear B1_23
    refine wpAnyH_take (i := 5) (oi := ({ dst := some 28, op := Op.move (Operand.tmp 33), type := 28, pos := "outright.go:124", after := #[{ on := 4, ground := Ground.data }], guard := none } : Oper)) (v := ?_) rfl (by kernel_rfl) (by kernel_rfl) (by kernel_rfl) (fun _ _ _ h => h) (Or.inl ⟨by rfl, ?_⟩) (by with_reducible assumption) ?_
    rotate_left
    · intro w hSw
      (try dsimp only at hSw)
      first | (go_simp; done) | (go_simp; with_reducible rfl)
    (try simp only [Act.put, List.setIfInBounds_toArray, List.set_cons_zero, List.set_cons_succ])
    refine wpAnyH_take (i := 6) (oi := ({ dst := some 34, op := Op.extract (Operand.tmp 28) 0, type := 25, pos := "outright.go:124", after := #[{ on := 5, ground := Ground.data }], guard := none } : Oper)) (v := ?_) rfl (by kernel_rfl) (by kernel_rfl) (by kernel_rfl) (fun _ _ _ h => h) (Or.inl ⟨by rfl, ?_⟩) (by with_reducible assumption) ?_
    rotate_left
    · intro w hSw
      (try dsimp only at hSw)
      first | (go_simp; done) | (go_simp; with_reducible rfl)
    (try simp only [Act.put, List.setIfInBounds_toArray, List.set_cons_zero, List.set_cons_succ])
    refine wpAnyH_take (i := 7) (oi := ({ dst := some 35, op := Op.extract (Operand.tmp 28) 1, type := 27, pos := "outright.go:124", after := #[{ on := 5, ground := Ground.data }, { on := 9, ground := Ground.gcOnly Departure.lateStores }], guard := none } : Oper)) (v := ?_) rfl (by kernel_rfl) (by kernel_rfl) (by kernel_rfl) (fun _ _ _ h => h) (Or.inl ⟨by rfl, ?_⟩) (by with_reducible assumption) ?_
    rotate_left
    · intro w hSw
      (try dsimp only at hSw)
      first | (go_simp; done) | (go_simp; with_reducible rfl)
    (try simp only [Act.put, List.setIfInBounds_toArray, List.set_cons_zero, List.set_cons_succ])
    refine wpAnyH_ready (rs := [9]) (by kernel_rfl) (by simp) ?_
    refine AllReadyH.cons (o := ({ dst := none, op := Op.store 25 (Operand.tmp 12) (Operand.tmp 34), type := 0, pos := "outright.go:124", after := #[{ on := 8, ground := Ground.data }, { on := 6, ground := Ground.data }, { on := 4, ground := Ground.chain }, { on := 0, ground := Ground.phase }, { on := 1, ground := Ground.phase }, { on := 2, ground := Ground.phase }, { on := 3, ground := Ground.phase }, { on := 4, ground := Ground.phase }, { on := 5, ground := Ground.phase }, { on := 6, ground := Ground.phase }, { on := 7, ground := Ground.textOnly Departure.lateStores }, { on := 8, ground := Ground.phase }], guard := none } : Oper)) rfl (fun K hK => ?_) AllReadyH.nil
    obtain ⟨t0', t1', u0', u1'⟩ := outAny B1_30
    go_simp
    refine hK.out _ _ ⟨⟨far2 (B := wc1.heap.size) (by omega) hH26.1.1, far2 (B := wc1.heap.size) (by omega) hH26.1.2⟩, ((hH26.2.setCell (p := ⟨wc1.heap.size, 0, none⟩) (by show _ ≤ wc1.heap.size; omega) _).setCell (p := ⟨wc1.heap.size, 1, none⟩) (by show _ ≤ wc1.heap.size; omega) _)⟩ (fun hS31 => ?_)
    clear hK K t0' t1' u0' u1'
    (try simp only [Act.put, List.setIfInBounds_toArray, List.set_cons_zero, List.set_cons_succ])
    have U1_32 := wh_set2W U1_28 J1_29 B1_30 (.bool b1) (.slice q1 m1 d1) (by decide)
    have J1_33 := fresh_set2 J1_29 B1_30 (.bool b1) (.slice q1 m1 d1) (by decide)
    have B1_34 := put2_block B1_30 (.bool b1) (.slice q1 m1 d1)
    clear U1_28 J1_29 B1_30
    refine wpAnyH_take (i := 10) (oi := ({ dst := some 13, op := Op.assign (Operand.tmp 35), type := 27, pos := "outright.go:124", after := #[{ on := 7, ground := Ground.data }, { on := 9, ground := Ground.chain }, { on := 0, ground := Ground.phase }, { on := 1, ground := Ground.phase }, { on := 2, ground := Ground.phase }, { on := 3, ground := Ground.phase }, { on := 4, ground := Ground.phase }, { on := 5, ground := Ground.phase }, { on := 6, ground := Ground.phase }, { on := 7, ground := Ground.phase }, { on := 8, ground := Ground.phase }, { on := 9, ground := Ground.phase }], guard := none } : Oper)) (v := ?_) rfl (by kernel_rfl) (by kernel_rfl) (by kernel_rfl) (fun _ _ _ h => h) (Or.inl ⟨by rfl, ?_⟩) (by with_reducible assumption) ?_
    rotate_left
    · intro w hSw
      (try dsimp only at hSw)
      first | (go_simp; done) | (go_simp; with_reducible rfl)
    (try simp only [Act.put, List.setIfInBounds_toArray, List.set_cons_zero, List.set_cons_succ])
    refine wpAnyH_done (by kernel_rfl) ?_ _
    exact ⟨_, _, _, _, _, _, _, _, _, b1, q1, m1, d1, rfl, B1_34, U1_32, J1_33, (by omega), hS31.2⟩
  refine AllReadyH.cons (o := ({ dst := some 12, op := Op.alloc 25, type := 0, pos := "outright.go:124", after := #[], guard := none } : Oper)) rfl (fun K hK => ?_) AllReadyH.nil
  go_simp
  refine hK.out _ _ ⟨⟨keepG ((Gr.refl wd).alloc (.cells #[.bool false, .slice none 0 0] 25)) hHeld.1.1, keepG ((Gr.refl wd).alloc (.cells #[.bool false, .slice none 0 0] 25)) hHeld.1.2⟩, hHeld.2.trans ((Gr.refl wd).alloc (.cells #[.bool false, .slice none 0 0] 25))⟩ (fun hH36 => ?_)
  clear hK K
  (try simp only [Act.put, List.setIfInBounds_toArray, List.set_cons_zero, List.set_cons_succ])
  have B1_38 := blk1 wd (.cells #[.bool false, .slice none 0 0] 25)
  have gg37 := (Gr.refl wd).alloc (.cells #[.bool false, .slice none 0 0] 25)
  have lB139 := hHeld.2.size
  generalize wd.alloc (.cells #[.bool false, .slice none 0 0] 25) = wa35 at *
  refine wpAnyH_ready (rs := [2]) (by kernel_rfl) (by simp) ?_
  refine AllReadyH.cons (o := ({ dst := some 31, op := Op.call { callee := Callee.value (Operand.func 7), args := #[Operand.tmp 30, Operand.const (Value.int IntKind.i64 262016)], argTypes := #[3, 3] }, type := 3, pos := "outright.go:124", after := #[{ on := 1, ground := Ground.data }], guard := none } : Oper)) rfl (fun K hK => ?_) AllReadyH.nil
  go_simp
  with_reducible refine (X1.out _).mono ?_
  rintro r wc40 ⟨rfl, gg42⟩
  refine hK.out _ _ ⟨⟨keepG gg42 hH36.1.1, keepG gg42 hH36.1.2⟩, hH36.2.trans gg42⟩ (fun hH41 => ?_)
  have hzwc40 := hH36.2.size
  clear hK K
  (try simp only [Act.put, List.setIfInBounds_toArray, List.set_cons_zero, List.set_cons_succ])
  have B1_43 := keepO gg42 B1_38
  clear B1_38
  refine wpAnyH_take (i := 3) (oi := ({ dst := some 32, op := Op.binOp BinOp.add 3 (Operand.const (Value.int IntKind.i64 64)) (Operand.tmp 31) 3, type := 3, pos := "outright.go:124", after := #[{ on := 2, ground := Ground.data }], guard := none } : Oper)) (v := ?_) rfl (by kernel_rfl) (by kernel_rfl) (by kernel_rfl) (fun _ _ _ h => h) (Or.inl ⟨by rfl, ?_⟩) (by with_reducible assumption) ?_
  rotate_left
  · intro w hSw
    (try dsimp only at hSw)
    first | (go_simp; done) | (go_simp; with_reducible rfl)
  (try simp only [Act.put, List.setIfInBounds_toArray, List.set_cons_zero, List.set_cons_succ])
  refine wpAnyH_ready (rs := [4]) (by kernel_rfl) (by simp) ?_
  refine AllReadyH.cons (o := ({ dst := some 33, op := Op.call { callee := Callee.value (Operand.func 6), args := #[Operand.tmp 29, Operand.tmp 32], argTypes := #[25, 3] }, type := 28, pos := "outright.go:124", after := #[{ on := 0, ground := Ground.data }, { on := 3, ground := Ground.data }, { on := 2, ground := Ground.chain }], guard := none } : Oper)) rfl (fun K hK => ?_) AllReadyH.nil
  go_simp
  with_reducible refine (X2.out _ hH41.2).mono ?_
  rintro r wc44 ⟨b1, q1, m1, d1, rfl, U1_47, J1_48, gg46⟩
  replace U1_47 := U1_47.out
  replace J1_48 := J1_48.out
  refine hK.out _ _ ⟨⟨keepG gg46 hH41.1.1, keepG gg46 hH41.1.2⟩, hH41.2.trans gg46⟩ (fun hH45 => ?_)
  have hzwc44 := hH41.2.size
  clear hK K
  (try simp only [Act.put, List.setIfInBounds_toArray, List.set_cons_zero, List.set_cons_succ])
  have B1_49 := keepO gg46 B1_43
  clear B1_43
  refine wpAnyH_take (i := 5) (oi := ({ dst := some 28, op := Op.move (Operand.tmp 33), type := 28, pos := "outright.go:124", after := #[{ on := 4, ground := Ground.data }], guard := none } : Oper)) (v := ?_) rfl (by kernel_rfl) (by kernel_rfl) (by kernel_rfl) (fun _ _ _ h => h) (Or.inl ⟨by rfl, ?_⟩) (by with_reducible assumption) ?_
  rotate_left
  · intro w hSw
    (try dsimp only at hSw)
    first | (go_simp; done) | (go_simp; with_reducible rfl)
  (try simp only [Act.put, List.setIfInBounds_toArray, List.set_cons_zero, List.set_cons_succ])
  refine wpAnyH_take (i := 6) (oi := ({ dst := some 34, op := Op.extract (Operand.tmp 28) 0, type := 25, pos := "outright.go:124", after := #[{ on := 5, ground := Ground.data }], guard := none } : Oper)) (v := ?_) rfl (by kernel_rfl) (by kernel_rfl) (by kernel_rfl) (fun _ _ _ h => h) (Or.inl ⟨by rfl, ?_⟩) (by with_reducible assumption) ?_
  rotate_left
  · intro w hSw
    (try dsimp only at hSw)
    first | (go_simp; done) | (go_simp; with_reducible rfl)
  (try simp only [Act.put, List.setIfInBounds_toArray, List.set_cons_zero, List.set_cons_succ])
  refine wpAnyH_take (i := 7) (oi := ({ dst := some 35, op := Op.extract (Operand.tmp 28) 1, type := 27, pos := "outright.go:124", after := #[{ on := 5, ground := Ground.data }, { on := 9, ground := Ground.gcOnly Departure.lateStores }], guard := none } : Oper)) (v := ?_) rfl (by kernel_rfl) (by kernel_rfl) (by kernel_rfl) (fun _ _ _ h => h) (Or.inl ⟨by rfl, ?_⟩) (by with_reducible assumption) ?_
  rotate_left
  · intro w hSw
    (try dsimp only at hSw)
    first | (go_simp; done) | (go_simp; with_reducible rfl)
  (try simp only [Act.put, List.setIfInBounds_toArray, List.set_cons_zero, List.set_cons_succ])
  refine wpAnyH_ready (rs := [9]) (by kernel_rfl) (by simp) ?_
  refine AllReadyH.cons (o := ({ dst := none, op := Op.store 25 (Operand.tmp 12) (Operand.tmp 34), type := 0, pos := "outright.go:124", after := #[{ on := 8, ground := Ground.data }, { on := 6, ground := Ground.data }, { on := 4, ground := Ground.chain }, { on := 0, ground := Ground.phase }, { on := 1, ground := Ground.phase }, { on := 2, ground := Ground.phase }, { on := 3, ground := Ground.phase }, { on := 4, ground := Ground.phase }, { on := 5, ground := Ground.phase }, { on := 6, ground := Ground.phase }, { on := 7, ground := Ground.textOnly Departure.lateStores }, { on := 8, ground := Ground.phase }], guard := none } : Oper)) rfl (fun K hK => ?_) AllReadyH.nil
  obtain ⟨t0', t1', u0', u1'⟩ := outAny B1_49
  go_simp
  refine hK.out _ _ ⟨⟨far2 (B := wd.heap.size) (by omega) hH45.1.1, far2 (B := wd.heap.size) (by omega) hH45.1.2⟩, ((hH45.2.setCell (p := ⟨wd.heap.size, 0, none⟩) (by show _ ≤ wd.heap.size; omega) _).setCell (p := ⟨wd.heap.size, 1, none⟩) (by show _ ≤ wd.heap.size; omega) _)⟩ (fun hS50 => ?_)
  clear hK K t0' t1' u0' u1'
  (try simp only [Act.put, List.setIfInBounds_toArray, List.set_cons_zero, List.set_cons_succ])
  have U1_51 := wh_set2W U1_47 J1_48 B1_49 (.bool b1) (.slice q1 m1 d1) (by decide)
  have J1_52 := fresh_set2 J1_48 B1_49 (.bool b1) (.slice q1 m1 d1) (by decide)
  have B1_53 := put2_block B1_49 (.bool b1) (.slice q1 m1 d1)
  clear U1_47 J1_48 B1_49
  refine wpAnyH_take (i := 10) (oi := ({ dst := some 13, op := Op.assign (Operand.tmp 35), type := 27, pos := "outright.go:124", after := #[{ on := 7, ground := Ground.data }, { on := 9, ground := Ground.chain }, { on := 0, ground := Ground.phase }, { on := 1, ground := Ground.phase }, { on := 2, ground := Ground.phase }, { on := 3, ground := Ground.phase }, { on := 4, ground := Ground.phase }, { on := 5, ground := Ground.phase }, { on := 6, ground := Ground.phase }, { on := 7, ground := Ground.phase }, { on := 8, ground := Ground.phase }, { on := 9, ground := Ground.phase }], guard := none } : Oper)) (v := ?_) rfl (by kernel_rfl) (by kernel_rfl) (by kernel_rfl) (fun _ _ _ h => h) (Or.inl ⟨by rfl, ?_⟩) (by with_reducible assumption) ?_
  rotate_left
  · intro w hSw
    (try dsimp only at hSw)
    first | (go_simp; done) | (go_simp; with_reducible rfl)
  (try simp only [Act.put, List.setIfInBounds_toArray, List.set_cons_zero, List.set_cons_succ])
  refine wpAnyH_done (by kernel_rfl) ?_ _
  exact ⟨_, _, _, _, _, _, _, _, _, b1, q1, m1, d1, rfl, B1_53, U1_51, J1_52, (by omega), hS50.2⟩
def RDg8 (t0 t1 t3 t4 t5 t6 t7 t8 t9 t11 t12 t13 t14 t15 t16 t17 t18 t19 t20 t21 t22 t23 t24 t25 t26 t27 t28 t29 t30 t31 t32 t33 t34 t35 t36 t37 t38 t39 t40 t41 t42 t43 t44 t45 t46 t47 t48 t49 t50 t51 t52 t53 t54 t55 t56 t57 t58 t59 t60 t61 t62 t63 t64 t65 t66 t67 t68 t69 t70 t71 t72 t73 t74 t75 t76 t77 t78 t79 t80 t81 t82 t83 t84 t85 t86 t87 t88 t89 t90 t91 : Value) (pA nA cA pO nO cO : Nat) (sA sO : Bool) (aA aO : Option Addr) (N R ZA ZO Z : Int) (w0 : World) (wq : World) : Exit → Act → World → Prop
  | .normal, a, w => ∃ u42 u43 u44 u45 u46 u47 u48 u49 b1 q1 m1 d1, a = { tmps := #[t0, t1, .int .i64 N, t3, t4, t5, t6, t7, t8, t9, .pointer (some ⟨pA, 0, none⟩), .int .i64 0, t12, t13, t14, t15, t16, t17, t18, t19, t20, t21, t22, t23, t24, t25, t26, t27, t28, t29, t30, t31, t32, t33, t34, t35, t36, t37, t38, t39, t40, t41, u42, u43, u44, u45, u46, u47, u48, u49, t50, t51, t52, t53, t54, t55, t56, t57, t58, t59, t60, t61, t62, t63, t64, t65, t66, t67, t68, t69, t70, t71, t72, t73, t74, t75, t76, t77, t78, t79, t80, t81, t82, t83, t84, t85, t86, t87, t88, t89, t90, t91], defers := [] } ∧ w.heap[pA]? = some (.cells #[.bool b1, .slice q1 m1 d1] 25) ∧ Wh w b1 q1 m1 d1 Z ∧ Fresh w0.heap.size w q1 m1 d1 ∧ w.heap[pO]? = some (.cells #[.bool sO, .slice aO nO cO] 25) ∧ Wh w sO aO nO cO ZO ∧ Fresh w0.heap.size w aO nO cO ∧ Gr w0 w
  | _, _, _ => False
set_option maxRecDepth 100000 in
set_option maxHeartbeats 20000000 in
theorem regDg8 (t0 t1 t3 t4 t5 t6 t7 t8 t9 t11 t12 t13 t14 t15 t16 t17 t18 t19 t20 t21 t22 t23 t24 t25 t26 t27 t28 t29 t30 t31 t32 t33 t34 t35 t36 t37 t38 t39 t40 t41 t42 t43 t44 t45 t46 t47 t48 t49 t50 t51 t52 t53 t54 t55 t56 t57 t58 t59 t60 t61 t62 t63 t64 t65 t66 t67 t68 t69 t70 t71 t72 t73 t74 t75 t76 t77 t78 t79 t80 t81 t82 t83 t84 t85 t86 t87 t88 t89 t90 t91 : Value) (pA nA cA pO nO cO : Nat) (sA sO : Bool) (aA aO : Option Addr) (N R ZA ZO Z : Int) (w0 : World) (wq : World)
    (X1 : Hid (∀ w1, Calls Tryd.prog 5 #[.int .i64 R] w1 fun r w' => ∃ a b c d, r = .returned (.agg #[.bool a, .slice b c d]) ∧ Hid (Wh w' a b c d R) ∧ Hid (Fresh w1.heap.size w' b c d) ∧ Gr w1 w'))
    (X2 : Hid (∀ w1 s a n c, Gr w0 w1 → Wh w1 sA aA nA cA ZA → Wh w1 s a n c R → Calls Tryd.prog 8 #[.agg #[.bool sA, .slice aA nA cA], .agg #[.bool s, .slice a n c]] w1 fun r w' => ∃ a b c d, r = .returned (.tuple #[.agg #[.bool a, .slice b c d], .int .i64 0]) ∧ Hid (Wh w' a b c d Z) ∧ Hid (Fresh w0.heap.size w' b c d) ∧ Gr w1 w'))
    (hR : N.tmod 1000000007 = R) (hA : wq.heap[pA]? = some (.cells #[.bool sA, .slice aA nA cA] 25)) (hU : Wh wq sA aA nA cA ZA) (hJ : Fresh w0.heap.size wq aA nA cA) (hO : wq.heap[pO]? = some (.cells #[.bool sO, .slice aO nO cO] 25)) (hUO : Wh wq sO aO nO cO ZO) (hJO : Fresh w0.heap.size wq aO nO cO) (l1 : w0.heap.size ≤ pA) (l2 : pA ≠ pO) (G0 : Gr w0 wq) (hcs : True) :
    Code.wp Tryd.prog (Code.region 8 #[{ dst := some 43, op := Op.load 25 (Operand.tmp 10), type := 25, pos := "outright.go:128", after := #[], guard := none }, { dst := some 44, op := Op.move (Operand.tmp 2), type := 2, pos := "outright.go:128", after := #[], guard := none }, { dst := some 45, op := Op.binOp BinOp.rem 2 (Operand.tmp 44) (Operand.const (Value.int IntKind.i64 1000000007)) 2, type := 2, pos := "outright.go:128", after := #[{ on := 1, ground := Ground.data }], guard := none }, { dst := some 46, op := Op.call { callee := Callee.value (Operand.func 5), args := #[Operand.tmp 45], argTypes := #[2] }, type := 25, pos := "outright.go:128", after := #[{ on := 2, ground := Ground.data }], guard := none }, { dst := some 47, op := Op.call { callee := Callee.value (Operand.func 8), args := #[Operand.tmp 43, Operand.tmp 46], argTypes := #[25, 25] }, type := 28, pos := "outright.go:128", after := #[{ on := 0, ground := Ground.data }, { on := 3, ground := Ground.data }, { on := 3, ground := Ground.chain }], guard := none }, { dst := some 42, op := Op.move (Operand.tmp 47), type := 28, pos := "outright.go:128", after := #[{ on := 4, ground := Ground.data }], guard := none }, { dst := some 48, op := Op.extract (Operand.tmp 42) 0, type := 25, pos := "outright.go:128", after := #[{ on := 5, ground := Ground.data }], guard := none }, { dst := some 49, op := Op.extract (Operand.tmp 42) 1, type := 27, pos := "outright.go:128", after := #[{ on := 5, ground := Ground.data }, { on := 8, ground := Ground.gcOnly Departure.lateStores }], guard := none }, { dst := none, op := Op.store 25 (Operand.tmp 10) (Operand.tmp 48), type := 0, pos := "outright.go:128", after := #[{ on := 6, ground := Ground.data }, { on := 4, ground := Ground.chain }, { on := 0, ground := Ground.phase }, { on := 1, ground := Ground.phase }, { on := 2, ground := Ground.phase }, { on := 3, ground := Ground.phase }, { on := 4, ground := Ground.phase }, { on := 5, ground := Ground.phase }, { on := 6, ground := Ground.phase }, { on := 7, ground := Ground.textOnly Departure.lateStores }], guard := none }, { dst := some 11, op := Op.assign (Operand.tmp 49), type := 27, pos := "outright.go:128", after := #[{ on := 7, ground := Ground.data }, { on := 8, ground := Ground.chain }, { on := 0, ground := Ground.phase }, { on := 1, ground := Ground.phase }, { on := 2, ground := Ground.phase }, { on := 3, ground := Ground.phase }, { on := 4, ground := Ground.phase }, { on := 5, ground := Ground.phase }, { on := 6, ground := Ground.phase }, { on := 7, ground := Ground.phase }, { on := 8, ground := Ground.phase }], guard := none }] true) (RDg8 t0 t1 t3 t4 t5 t6 t7 t8 t9 t11 t12 t13 t14 t15 t16 t17 t18 t19 t20 t21 t22 t23 t24 t25 t26 t27 t28 t29 t30 t31 t32 t33 t34 t35 t36 t37 t38 t39 t40 t41 t42 t43 t44 t45 t46 t47 t48 t49 t50 t51 t52 t53 t54 t55 t56 t57 t58 t59 t60 t61 t62 t63 t64 t65 t66 t67 t68 t69 t70 t71 t72 t73 t74 t75 t76 t77 t78 t79 t80 t81 t82 t83 t84 t85 t86 t87 t88 t89 t90 t91 pA nA cA pO nO cO sA sO aA aO N R ZA ZO Z w0 wq) { tmps := #[t0, t1, .int .i64 N, t3, t4, t5, t6, t7, t8, t9, .pointer (some ⟨pA, 0, none⟩), t11, t12, t13, t14, t15, t16, t17, t18, t19, t20, t21, t22, t23, t24, t25, t26, t27, t28, t29, t30, t31, t32, t33, t34, t35, t36, t37, t38, t39, t40, t41, t42, t43, t44, t45, t46, t47, t48, t49, t50, t51, t52, t53, t54, t55, t56, t57, t58, t59, t60, t61, t62, t63, t64, t65, t66, t67, t68, t69, t70, t71, t72, t73, t74, t75, t76, t77, t78, t79, t80, t81, t82, t83, t84, t85, t86, t87, t88, t89, t90, t91], defers := [] } wq := by
  have hS0 : True ∧ Gr w0 wq.drew := ⟨hcs, G0.drew⟩
  have BA_1 : wq.drew.heap[pA]? = some (.cells #[.bool sA, .slice aA nA cA] 25) := hA
  have UA_2 : Wh wq.drew sA aA nA cA ZA := hU.gr ((Gr.refl wq).drew)
  have JA_3 : Fresh w0.heap.size wq.drew aA nA cA := hJ
  have BO_4 : wq.drew.heap[pO]? = some (.cells #[.bool sO, .slice aO nO cO] 25) := hO
  have UO_5 : Wh wq.drew sO aO nO cO ZO := hUO.gr ((Gr.refl wq).drew)
  have JO_6 : Fresh w0.heap.size wq.drew aO nO cO := hJO
  clear hcs G0 hA hU hJ hO hUO hJO
  refine wp_region_held_drew (S := fun w' => True ∧ Gr w0 w') (by kernel_rfl) hS0 (fun hHeld => ?_)
  clear hS0
  generalize wq.drew = wd at *
  refine wpAnyH_take (i := 1) (oi := ({ dst := some 44, op := Op.move (Operand.tmp 2), type := 2, pos := "outright.go:128", after := #[], guard := none } : Oper)) (v := ?_) rfl (by kernel_rfl) (by kernel_rfl) (by kernel_rfl) (fun _ _ _ h => h) (Or.inl ⟨by rfl, ?_⟩) (by with_reducible assumption) ?_
  rotate_left
  · intro w hSw
    (try dsimp only at hSw)
    first | (go_simp; done) | (go_simp; with_reducible rfl)
  (try simp only [Act.put, List.setIfInBounds_toArray, List.set_cons_zero, List.set_cons_succ])
  refine wpAnyH_take (i := 2) (oi := ({ dst := some 45, op := Op.binOp BinOp.rem 2 (Operand.tmp 44) (Operand.const (Value.int IntKind.i64 1000000007)) 2, type := 2, pos := "outright.go:128", after := #[{ on := 1, ground := Ground.data }], guard := none } : Oper)) (v := ?_) rfl (by kernel_rfl) (by kernel_rfl) (by kernel_rfl) (fun _ _ _ h => h) (Or.inl ⟨by rfl, ?_⟩) (by with_reducible assumption) ?_
  rotate_left
  · intro w hSw
    (try dsimp only at hSw)
    first | (go_simp; done) | (go_simp; with_reducible rfl)
  (try simp only [Act.put, List.setIfInBounds_toArray, List.set_cons_zero, List.set_cons_succ])
  refine wpAnyH_ready (rs := [0, 3]) (by kernel_rfl) (by simp) ?_
  refine AllReadyH.cons (o := ({ dst := some 43, op := Op.load 25 (Operand.tmp 10), type := 25, pos := "outright.go:128", after := #[], guard := none } : Oper)) rfl (fun K hK => ?_) ?_
  · obtain ⟨x0', x1'⟩ := bx2 BA_1
    go_simp
    refine hK.out _ _ hHeld (fun hH7 => ?_)
    clear hK K x0' x1'
    (try simp only [Act.put, List.setIfInBounds_toArray, List.set_cons_zero, List.set_cons_succ])
    refine wpAnyH_ready (rs := [3]) (by kernel_rfl) (by simp) ?_
    refine AllReadyH.cons (o := ({ dst := some 46, op := Op.call { callee := Callee.value (Operand.func 5), args := #[Operand.tmp 45], argTypes := #[2] }, type := 25, pos := "outright.go:128", after := #[{ on := 2, ground := Ground.data }], guard := none } : Oper)) rfl (fun K hK => ?_) AllReadyH.nil
    go_simp
    with_reducible refine (X1.out _).mono ?_
    rintro r wc8 ⟨s9, a9, n9, c9, rfl, W9_11, F9_12, gg10⟩
    replace W9_11 := W9_11.out
    replace F9_12 := F9_12.out
    refine hK.out _ _ ⟨trivial, hH7.2.trans gg10⟩ (fun hH9 => ?_)
    have hzwc8 := hH7.2.size
    clear hK K
    (try simp only [Act.put, List.setIfInBounds_toArray, List.set_cons_zero, List.set_cons_succ])
    have BA_13 := keepO gg10 BA_1
    clear BA_1
    have UA_14 := UA_2.gr gg10
    clear UA_2
    have JA_15 := JA_3.gr gg10
    clear JA_3
    have BO_16 := keepO gg10 BO_4
    clear BO_4
    have UO_17 := UO_5.gr gg10
    clear UO_5
    have JO_18 := JO_6.gr gg10
    clear JO_6
    refine wpAnyH_ready (rs := [4]) (by kernel_rfl) (by simp) ?_
    refine AllReadyH.cons (o := ({ dst := some 47, op := Op.call { callee := Callee.value (Operand.func 8), args := #[Operand.tmp 43, Operand.tmp 46], argTypes := #[25, 25] }, type := 28, pos := "outright.go:128", after := #[{ on := 0, ground := Ground.data }, { on := 3, ground := Ground.data }, { on := 3, ground := Ground.chain }], guard := none } : Oper)) rfl (fun K hK => ?_) AllReadyH.nil
    go_simp
    with_reducible refine (X2.out _ _ _ _ _ hH9.2 UA_14 W9_11).mono ?_
    rintro r wc19 ⟨b1, q1, m1, d1, rfl, WQ_22, FQ_23, gg21⟩
    replace WQ_22 := WQ_22.out
    replace FQ_23 := FQ_23.out
    refine hK.out _ _ ⟨trivial, hH9.2.trans gg21⟩ (fun hH20 => ?_)
    have hzwc19 := hH9.2.size
    clear hK K
    (try simp only [Act.put, List.setIfInBounds_toArray, List.set_cons_zero, List.set_cons_succ])
    have BA_24 := keepO gg21 BA_13
    clear BA_13
    have UA_25 := UA_14.gr gg21
    clear UA_14
    have JA_26 := JA_15.gr gg21
    clear JA_15
    have BO_27 := keepO gg21 BO_16
    clear BO_16
    have UO_28 := UO_17.gr gg21
    clear UO_17
    have JO_29 := JO_18.gr gg21
    clear JO_18
    have W9_30 := W9_11.gr gg21
    clear W9_11
    have F9_31 := F9_12.gr gg21
    clear F9_12
    refine wpAnyH_take (i := 5) (oi := ({ dst := some 42, op := Op.move (Operand.tmp 47), type := 28, pos := "outright.go:128", after := #[{ on := 4, ground := Ground.data }], guard := none } : Oper)) (v := ?_) rfl (by kernel_rfl) (by kernel_rfl) (by kernel_rfl) (fun _ _ _ h => h) (Or.inl ⟨by rfl, ?_⟩) (by with_reducible assumption) ?_
    rotate_left
    · intro w hSw
      (try dsimp only at hSw)
      first | (go_simp; done) | (go_simp; with_reducible rfl)
    (try simp only [Act.put, List.setIfInBounds_toArray, List.set_cons_zero, List.set_cons_succ])
    refine wpAnyH_take (i := 6) (oi := ({ dst := some 48, op := Op.extract (Operand.tmp 42) 0, type := 25, pos := "outright.go:128", after := #[{ on := 5, ground := Ground.data }], guard := none } : Oper)) (v := ?_) rfl (by kernel_rfl) (by kernel_rfl) (by kernel_rfl) (fun _ _ _ h => h) (Or.inl ⟨by rfl, ?_⟩) (by with_reducible assumption) ?_
    rotate_left
    · intro w hSw
      (try dsimp only at hSw)
      first | (go_simp; done) | (go_simp; with_reducible rfl)
    (try simp only [Act.put, List.setIfInBounds_toArray, List.set_cons_zero, List.set_cons_succ])
    refine wpAnyH_take (i := 7) (oi := ({ dst := some 49, op := Op.extract (Operand.tmp 42) 1, type := 27, pos := "outright.go:128", after := #[{ on := 5, ground := Ground.data }, { on := 8, ground := Ground.gcOnly Departure.lateStores }], guard := none } : Oper)) (v := ?_) rfl (by kernel_rfl) (by kernel_rfl) (by kernel_rfl) (fun _ _ _ h => h) (Or.inl ⟨by rfl, ?_⟩) (by with_reducible assumption) ?_
    rotate_left
    · intro w hSw
      (try dsimp only at hSw)
      first | (go_simp; done) | (go_simp; with_reducible rfl)
    (try simp only [Act.put, List.setIfInBounds_toArray, List.set_cons_zero, List.set_cons_succ])
    refine wpAnyH_ready (rs := [8]) (by kernel_rfl) (by simp) ?_
    refine AllReadyH.cons (o := ({ dst := none, op := Op.store 25 (Operand.tmp 10) (Operand.tmp 48), type := 0, pos := "outright.go:128", after := #[{ on := 6, ground := Ground.data }, { on := 4, ground := Ground.chain }, { on := 0, ground := Ground.phase }, { on := 1, ground := Ground.phase }, { on := 2, ground := Ground.phase }, { on := 3, ground := Ground.phase }, { on := 4, ground := Ground.phase }, { on := 5, ground := Ground.phase }, { on := 6, ground := Ground.phase }, { on := 7, ground := Ground.textOnly Departure.lateStores }], guard := none } : Oper)) rfl (fun K hK => ?_) AllReadyH.nil
    obtain ⟨t0', t1', u0', u1'⟩ := outAny BA_24
    go_simp
    refine hK.out _ _ ⟨trivial, ((hH20.2.setCell (p := ⟨pA, 0, none⟩) (by show _ ≤ pA; omega) _).setCell (p := ⟨pA, 1, none⟩) (by show _ ≤ pA; omega) _)⟩ (fun hS32 => ?_)
    clear hK K t0' t1' u0' u1'
    (try simp only [Act.put, List.setIfInBounds_toArray, List.set_cons_zero, List.set_cons_succ])
    have UA_33 := wh_set2W UA_25 JA_26 BA_24 (.bool b1) (.slice q1 m1 d1) (by decide)
    have JA_34 := fresh_set2 JA_26 BA_24 (.bool b1) (.slice q1 m1 d1) (by decide)
    have BO_35 := heap_farW (q := pA) (i := 1) (v := .slice q1 m1 d1) (heap_farW (q := pA) (i := 0) (v := .bool b1) BO_27 (by omega)) (by omega)
    have UO_36 := wh_set2W UO_28 JO_29 BA_24 (.bool b1) (.slice q1 m1 d1) (by decide)
    have JO_37 := fresh_set2 JO_29 BA_24 (.bool b1) (.slice q1 m1 d1) (by decide)
    have W9_38 := wh_set2W W9_30 F9_31 BA_24 (.bool b1) (.slice q1 m1 d1) (by decide)
    have F9_39 := fresh_set2 F9_31 BA_24 (.bool b1) (.slice q1 m1 d1) (by decide)
    have WQ_40 := wh_set2W WQ_22 FQ_23 BA_24 (.bool b1) (.slice q1 m1 d1) (by decide)
    have FQ_41 := fresh_set2 FQ_23 BA_24 (.bool b1) (.slice q1 m1 d1) (by decide)
    have BA_42 := put2_block BA_24 (.bool b1) (.slice q1 m1 d1)
    clear UA_25 JA_26 BO_27 UO_28 JO_29 W9_30 F9_31 WQ_22 FQ_23 BA_24
    refine wpAnyH_take (i := 9) (oi := ({ dst := some 11, op := Op.assign (Operand.tmp 49), type := 27, pos := "outright.go:128", after := #[{ on := 7, ground := Ground.data }, { on := 8, ground := Ground.chain }, { on := 0, ground := Ground.phase }, { on := 1, ground := Ground.phase }, { on := 2, ground := Ground.phase }, { on := 3, ground := Ground.phase }, { on := 4, ground := Ground.phase }, { on := 5, ground := Ground.phase }, { on := 6, ground := Ground.phase }, { on := 7, ground := Ground.phase }, { on := 8, ground := Ground.phase }], guard := none } : Oper)) (v := ?_) rfl (by kernel_rfl) (by kernel_rfl) (by kernel_rfl) (fun _ _ _ h => h) (Or.inl ⟨by rfl, ?_⟩) (by with_reducible assumption) ?_
    rotate_left
    · intro w hSw
      (try dsimp only at hSw)
      first | (go_simp; done) | (go_simp; with_reducible rfl)
    (try simp only [Act.put, List.setIfInBounds_toArray, List.set_cons_zero, List.set_cons_succ])
    refine wpAnyH_done (by kernel_rfl) ?_ _
    exact ⟨_, _, _, _, _, _, _, _, b1, q1, m1, d1, rfl, BA_42, WQ_40, FQ_41, BO_35, UO_36, JO_37, hS32.2⟩
  refine AllReadyH.cons (o := ({ dst := some 46, op := Op.call { callee := Callee.value (Operand.func 5), args := #[Operand.tmp 45], argTypes := #[2] }, type := 25, pos := "outright.go:128", after := #[{ on := 2, ground := Ground.data }], guard := none } : Oper)) rfl (fun K hK => ?_) AllReadyH.nil
  go_simp
  with_reducible refine (X1.out _).mono ?_
  rintro r wc43 ⟨s9, a9, n9, c9, rfl, W9_46, F9_47, gg45⟩
  replace W9_46 := W9_46.out
  replace F9_47 := F9_47.out
  refine hK.out _ _ ⟨trivial, hHeld.2.trans gg45⟩ (fun hH44 => ?_)
  have hzwc43 := hHeld.2.size
  clear hK K
  (try simp only [Act.put, List.setIfInBounds_toArray, List.set_cons_zero, List.set_cons_succ])
  have BA_48 := keepO gg45 BA_1
  clear BA_1
  have UA_49 := UA_2.gr gg45
  clear UA_2
  have JA_50 := JA_3.gr gg45
  clear JA_3
  have BO_51 := keepO gg45 BO_4
  clear BO_4
  have UO_52 := UO_5.gr gg45
  clear UO_5
  have JO_53 := JO_6.gr gg45
  clear JO_6
  refine wpAnyH_ready (rs := [0]) (by kernel_rfl) (by simp) ?_
  refine AllReadyH.cons (o := ({ dst := some 43, op := Op.load 25 (Operand.tmp 10), type := 25, pos := "outright.go:128", after := #[], guard := none } : Oper)) rfl (fun K hK => ?_) AllReadyH.nil
  obtain ⟨x0', x1'⟩ := bx2 BA_48
  go_simp
  refine hK.out _ _ hH44 (fun hH54 => ?_)
  clear hK K x0' x1'
  (try simp only [Act.put, List.setIfInBounds_toArray, List.set_cons_zero, List.set_cons_succ])
  refine wpAnyH_ready (rs := [4]) (by kernel_rfl) (by simp) ?_
  refine AllReadyH.cons (o := ({ dst := some 47, op := Op.call { callee := Callee.value (Operand.func 8), args := #[Operand.tmp 43, Operand.tmp 46], argTypes := #[25, 25] }, type := 28, pos := "outright.go:128", after := #[{ on := 0, ground := Ground.data }, { on := 3, ground := Ground.data }, { on := 3, ground := Ground.chain }], guard := none } : Oper)) rfl (fun K hK => ?_) AllReadyH.nil
  go_simp
  with_reducible refine (X2.out _ _ _ _ _ hH54.2 UA_49 W9_46).mono ?_
  rintro r wc55 ⟨b1, q1, m1, d1, rfl, WQ_58, FQ_59, gg57⟩
  replace WQ_58 := WQ_58.out
  replace FQ_59 := FQ_59.out
  refine hK.out _ _ ⟨trivial, hH54.2.trans gg57⟩ (fun hH56 => ?_)
  have hzwc55 := hH54.2.size
  clear hK K
  (try simp only [Act.put, List.setIfInBounds_toArray, List.set_cons_zero, List.set_cons_succ])
  have BA_60 := keepO gg57 BA_48
  clear BA_48
  have UA_61 := UA_49.gr gg57
  clear UA_49
  have JA_62 := JA_50.gr gg57
  clear JA_50
  have BO_63 := keepO gg57 BO_51
  clear BO_51
  have UO_64 := UO_52.gr gg57
  clear UO_52
  have JO_65 := JO_53.gr gg57
  clear JO_53
  have W9_66 := W9_46.gr gg57
  clear W9_46
  have F9_67 := F9_47.gr gg57
  clear F9_47
  refine wpAnyH_take (i := 5) (oi := ({ dst := some 42, op := Op.move (Operand.tmp 47), type := 28, pos := "outright.go:128", after := #[{ on := 4, ground := Ground.data }], guard := none } : Oper)) (v := ?_) rfl (by kernel_rfl) (by kernel_rfl) (by kernel_rfl) (fun _ _ _ h => h) (Or.inl ⟨by rfl, ?_⟩) (by with_reducible assumption) ?_
  rotate_left
  · intro w hSw
    (try dsimp only at hSw)
    first | (go_simp; done) | (go_simp; with_reducible rfl)
  (try simp only [Act.put, List.setIfInBounds_toArray, List.set_cons_zero, List.set_cons_succ])
  refine wpAnyH_take (i := 6) (oi := ({ dst := some 48, op := Op.extract (Operand.tmp 42) 0, type := 25, pos := "outright.go:128", after := #[{ on := 5, ground := Ground.data }], guard := none } : Oper)) (v := ?_) rfl (by kernel_rfl) (by kernel_rfl) (by kernel_rfl) (fun _ _ _ h => h) (Or.inl ⟨by rfl, ?_⟩) (by with_reducible assumption) ?_
  rotate_left
  · intro w hSw
    (try dsimp only at hSw)
    first | (go_simp; done) | (go_simp; with_reducible rfl)
  (try simp only [Act.put, List.setIfInBounds_toArray, List.set_cons_zero, List.set_cons_succ])
  refine wpAnyH_take (i := 7) (oi := ({ dst := some 49, op := Op.extract (Operand.tmp 42) 1, type := 27, pos := "outright.go:128", after := #[{ on := 5, ground := Ground.data }, { on := 8, ground := Ground.gcOnly Departure.lateStores }], guard := none } : Oper)) (v := ?_) rfl (by kernel_rfl) (by kernel_rfl) (by kernel_rfl) (fun _ _ _ h => h) (Or.inl ⟨by rfl, ?_⟩) (by with_reducible assumption) ?_
  rotate_left
  · intro w hSw
    (try dsimp only at hSw)
    first | (go_simp; done) | (go_simp; with_reducible rfl)
  (try simp only [Act.put, List.setIfInBounds_toArray, List.set_cons_zero, List.set_cons_succ])
  refine wpAnyH_ready (rs := [8]) (by kernel_rfl) (by simp) ?_
  refine AllReadyH.cons (o := ({ dst := none, op := Op.store 25 (Operand.tmp 10) (Operand.tmp 48), type := 0, pos := "outright.go:128", after := #[{ on := 6, ground := Ground.data }, { on := 4, ground := Ground.chain }, { on := 0, ground := Ground.phase }, { on := 1, ground := Ground.phase }, { on := 2, ground := Ground.phase }, { on := 3, ground := Ground.phase }, { on := 4, ground := Ground.phase }, { on := 5, ground := Ground.phase }, { on := 6, ground := Ground.phase }, { on := 7, ground := Ground.textOnly Departure.lateStores }], guard := none } : Oper)) rfl (fun K hK => ?_) AllReadyH.nil
  obtain ⟨t0', t1', u0', u1'⟩ := outAny BA_60
  go_simp
  refine hK.out _ _ ⟨trivial, ((hH56.2.setCell (p := ⟨pA, 0, none⟩) (by show _ ≤ pA; omega) _).setCell (p := ⟨pA, 1, none⟩) (by show _ ≤ pA; omega) _)⟩ (fun hS68 => ?_)
  clear hK K t0' t1' u0' u1'
  (try simp only [Act.put, List.setIfInBounds_toArray, List.set_cons_zero, List.set_cons_succ])
  have UA_69 := wh_set2W UA_61 JA_62 BA_60 (.bool b1) (.slice q1 m1 d1) (by decide)
  have JA_70 := fresh_set2 JA_62 BA_60 (.bool b1) (.slice q1 m1 d1) (by decide)
  have BO_71 := heap_farW (q := pA) (i := 1) (v := .slice q1 m1 d1) (heap_farW (q := pA) (i := 0) (v := .bool b1) BO_63 (by omega)) (by omega)
  have UO_72 := wh_set2W UO_64 JO_65 BA_60 (.bool b1) (.slice q1 m1 d1) (by decide)
  have JO_73 := fresh_set2 JO_65 BA_60 (.bool b1) (.slice q1 m1 d1) (by decide)
  have W9_74 := wh_set2W W9_66 F9_67 BA_60 (.bool b1) (.slice q1 m1 d1) (by decide)
  have F9_75 := fresh_set2 F9_67 BA_60 (.bool b1) (.slice q1 m1 d1) (by decide)
  have WQ_76 := wh_set2W WQ_58 FQ_59 BA_60 (.bool b1) (.slice q1 m1 d1) (by decide)
  have FQ_77 := fresh_set2 FQ_59 BA_60 (.bool b1) (.slice q1 m1 d1) (by decide)
  have BA_78 := put2_block BA_60 (.bool b1) (.slice q1 m1 d1)
  clear UA_61 JA_62 BO_63 UO_64 JO_65 W9_66 F9_67 WQ_58 FQ_59 BA_60
  refine wpAnyH_take (i := 9) (oi := ({ dst := some 11, op := Op.assign (Operand.tmp 49), type := 27, pos := "outright.go:128", after := #[{ on := 7, ground := Ground.data }, { on := 8, ground := Ground.chain }, { on := 0, ground := Ground.phase }, { on := 1, ground := Ground.phase }, { on := 2, ground := Ground.phase }, { on := 3, ground := Ground.phase }, { on := 4, ground := Ground.phase }, { on := 5, ground := Ground.phase }, { on := 6, ground := Ground.phase }, { on := 7, ground := Ground.phase }, { on := 8, ground := Ground.phase }], guard := none } : Oper)) (v := ?_) rfl (by kernel_rfl) (by kernel_rfl) (by kernel_rfl) (fun _ _ _ h => h) (Or.inl ⟨by rfl, ?_⟩) (by with_reducible assumption) ?_
  rotate_left
  · intro w hSw
    (try dsimp only at hSw)
    first | (go_simp; done) | (go_simp; with_reducible rfl)
  (try simp only [Act.put, List.setIfInBounds_toArray, List.set_cons_zero, List.set_cons_succ])
  refine wpAnyH_done (by kernel_rfl) ?_ _
  exact ⟨_, _, _, _, _, _, _, _, b1, q1, m1, d1, rfl, BA_78, WQ_76, FQ_77, BO_71, UO_72, JO_73, hS68.2⟩
def RDg9 (t0 t1 t2 t4 t5 t6 t7 t8 t9 t10 t11 t13 t14 t15 t16 t17 t18 t19 t20 t21 t22 t23 t24 t25 t26 t27 t28 t29 t30 t31 t32 t33 t34 t35 t36 t37 t38 t39 t40 t41 t42 t43 t44 t45 t46 t47 t48 t49 t50 t51 t52 t53 t54 t55 t56 t57 t58 t59 t60 t61 t62 t63 t64 t65 t66 t67 t68 t69 t70 t71 t72 t73 t74 t75 t76 t77 t78 t79 t80 t81 t82 t83 t84 t85 t86 t87 t88 t89 t90 t91 : Value) (pA nA cA pO nO cO : Nat) (sA sO : Bool) (aA aO : Option Addr) (N R ZA ZO Z : Int) (w0 : World) (wq : World) : Exit → Act → World → Prop
  | .normal, a, w => ∃ u50 u51 u52 u53 u54 u55 u56 u57 b1 q1 m1 d1, a = { tmps := #[t0, t1, t2, .int .i64 N, t4, t5, t6, t7, t8, t9, t10, t11, .pointer (some ⟨pA, 0, none⟩), .int .i64 0, t14, t15, t16, t17, t18, t19, t20, t21, t22, t23, t24, t25, t26, t27, t28, t29, t30, t31, t32, t33, t34, t35, t36, t37, t38, t39, t40, t41, t42, t43, t44, t45, t46, t47, t48, t49, u50, u51, u52, u53, u54, u55, u56, u57, t58, t59, t60, t61, t62, t63, t64, t65, t66, t67, t68, t69, t70, t71, t72, t73, t74, t75, t76, t77, t78, t79, t80, t81, t82, t83, t84, t85, t86, t87, t88, t89, t90, t91], defers := [] } ∧ w.heap[pA]? = some (.cells #[.bool b1, .slice q1 m1 d1] 25) ∧ Wh w b1 q1 m1 d1 Z ∧ Fresh w0.heap.size w q1 m1 d1 ∧ w.heap[pO]? = some (.cells #[.bool sO, .slice aO nO cO] 25) ∧ Wh w sO aO nO cO ZO ∧ Fresh w0.heap.size w aO nO cO ∧ Gr w0 w
  | _, _, _ => False
set_option maxRecDepth 100000 in
set_option maxHeartbeats 20000000 in
theorem regDg9 (t0 t1 t2 t4 t5 t6 t7 t8 t9 t10 t11 t13 t14 t15 t16 t17 t18 t19 t20 t21 t22 t23 t24 t25 t26 t27 t28 t29 t30 t31 t32 t33 t34 t35 t36 t37 t38 t39 t40 t41 t42 t43 t44 t45 t46 t47 t48 t49 t50 t51 t52 t53 t54 t55 t56 t57 t58 t59 t60 t61 t62 t63 t64 t65 t66 t67 t68 t69 t70 t71 t72 t73 t74 t75 t76 t77 t78 t79 t80 t81 t82 t83 t84 t85 t86 t87 t88 t89 t90 t91 : Value) (pA nA cA pO nO cO : Nat) (sA sO : Bool) (aA aO : Option Addr) (N R ZA ZO Z : Int) (w0 : World) (wq : World)
    (X1 : Hid (∀ w1, Calls Tryd.prog 5 #[.int .i64 R] w1 fun r w' => ∃ a b c d, r = .returned (.agg #[.bool a, .slice b c d]) ∧ Hid (Wh w' a b c d R) ∧ Hid (Fresh w1.heap.size w' b c d) ∧ Gr w1 w'))
    (X2 : Hid (∀ w1 s a n c, Gr w0 w1 → Wh w1 sA aA nA cA ZA → Wh w1 s a n c R → Calls Tryd.prog 8 #[.agg #[.bool sA, .slice aA nA cA], .agg #[.bool s, .slice a n c]] w1 fun r w' => ∃ a b c d, r = .returned (.tuple #[.agg #[.bool a, .slice b c d], .int .i64 0]) ∧ Hid (Wh w' a b c d Z) ∧ Hid (Fresh w0.heap.size w' b c d) ∧ Gr w1 w'))
    (hR : N.tmod 1000000007 = R) (hA : wq.heap[pA]? = some (.cells #[.bool sA, .slice aA nA cA] 25)) (hU : Wh wq sA aA nA cA ZA) (hJ : Fresh w0.heap.size wq aA nA cA) (hO : wq.heap[pO]? = some (.cells #[.bool sO, .slice aO nO cO] 25)) (hUO : Wh wq sO aO nO cO ZO) (hJO : Fresh w0.heap.size wq aO nO cO) (l1 : w0.heap.size ≤ pA) (l2 : pA ≠ pO) (G0 : Gr w0 wq) (hcs : True) :
    Code.wp Tryd.prog (Code.region 9 #[{ dst := some 51, op := Op.load 25 (Operand.tmp 12), type := 25, pos := "outright.go:129", after := #[], guard := none }, { dst := some 52, op := Op.move (Operand.tmp 3), type := 2, pos := "outright.go:129", after := #[], guard := none }, { dst := some 53, op := Op.binOp BinOp.rem 2 (Operand.tmp 52) (Operand.const (Value.int IntKind.i64 1000000007)) 2, type := 2, pos := "outright.go:129", after := #[{ on := 1, ground := Ground.data }], guard := none }, { dst := some 54, op := Op.call { callee := Callee.value (Operand.func 5), args := #[Operand.tmp 53], argTypes := #[2] }, type := 25, pos := "outright.go:129", after := #[{ on := 2, ground := Ground.data }], guard := none }, { dst := some 55, op := Op.call { callee := Callee.value (Operand.func 8), args := #[Operand.tmp 51, Operand.tmp 54], argTypes := #[25, 25] }, type := 28, pos := "outright.go:129", after := #[{ on := 0, ground := Ground.data }, { on := 3, ground := Ground.data }, { on := 3, ground := Ground.chain }], guard := none }, { dst := some 50, op := Op.move (Operand.tmp 55), type := 28, pos := "outright.go:129", after := #[{ on := 4, ground := Ground.data }], guard := none }, { dst := some 56, op := Op.extract (Operand.tmp 50) 0, type := 25, pos := "outright.go:129", after := #[{ on := 5, ground := Ground.data }], guard := none }, { dst := some 57, op := Op.extract (Operand.tmp 50) 1, type := 27, pos := "outright.go:129", after := #[{ on := 5, ground := Ground.data }, { on := 8, ground := Ground.gcOnly Departure.lateStores }], guard := none }, { dst := none, op := Op.store 25 (Operand.tmp 12) (Operand.tmp 56), type := 0, pos := "outright.go:129", after := #[{ on := 6, ground := Ground.data }, { on := 4, ground := Ground.chain }, { on := 0, ground := Ground.phase }, { on := 1, ground := Ground.phase }, { on := 2, ground := Ground.phase }, { on := 3, ground := Ground.phase }, { on := 4, ground := Ground.phase }, { on := 5, ground := Ground.phase }, { on := 6, ground := Ground.phase }, { on := 7, ground := Ground.textOnly Departure.lateStores }], guard := none }, { dst := some 13, op := Op.assign (Operand.tmp 57), type := 27, pos := "outright.go:129", after := #[{ on := 7, ground := Ground.data }, { on := 8, ground := Ground.chain }, { on := 0, ground := Ground.phase }, { on := 1, ground := Ground.phase }, { on := 2, ground := Ground.phase }, { on := 3, ground := Ground.phase }, { on := 4, ground := Ground.phase }, { on := 5, ground := Ground.phase }, { on := 6, ground := Ground.phase }, { on := 7, ground := Ground.phase }, { on := 8, ground := Ground.phase }], guard := none }] true) (RDg9 t0 t1 t2 t4 t5 t6 t7 t8 t9 t10 t11 t13 t14 t15 t16 t17 t18 t19 t20 t21 t22 t23 t24 t25 t26 t27 t28 t29 t30 t31 t32 t33 t34 t35 t36 t37 t38 t39 t40 t41 t42 t43 t44 t45 t46 t47 t48 t49 t50 t51 t52 t53 t54 t55 t56 t57 t58 t59 t60 t61 t62 t63 t64 t65 t66 t67 t68 t69 t70 t71 t72 t73 t74 t75 t76 t77 t78 t79 t80 t81 t82 t83 t84 t85 t86 t87 t88 t89 t90 t91 pA nA cA pO nO cO sA sO aA aO N R ZA ZO Z w0 wq) { tmps := #[t0, t1, t2, .int .i64 N, t4, t5, t6, t7, t8, t9, t10, t11, .pointer (some ⟨pA, 0, none⟩), t13, t14, t15, t16, t17, t18, t19, t20, t21, t22, t23, t24, t25, t26, t27, t28, t29, t30, t31, t32, t33, t34, t35, t36, t37, t38, t39, t40, t41, t42, t43, t44, t45, t46, t47, t48, t49, t50, t51, t52, t53, t54, t55, t56, t57, t58, t59, t60, t61, t62, t63, t64, t65, t66, t67, t68, t69, t70, t71, t72, t73, t74, t75, t76, t77, t78, t79, t80, t81, t82, t83, t84, t85, t86, t87, t88, t89, t90, t91], defers := [] } wq := by
  have hS0 : True ∧ Gr w0 wq.drew := ⟨hcs, G0.drew⟩
  have BA_1 : wq.drew.heap[pA]? = some (.cells #[.bool sA, .slice aA nA cA] 25) := hA
  have UA_2 : Wh wq.drew sA aA nA cA ZA := hU.gr ((Gr.refl wq).drew)
  have JA_3 : Fresh w0.heap.size wq.drew aA nA cA := hJ
  have BO_4 : wq.drew.heap[pO]? = some (.cells #[.bool sO, .slice aO nO cO] 25) := hO
  have UO_5 : Wh wq.drew sO aO nO cO ZO := hUO.gr ((Gr.refl wq).drew)
  have JO_6 : Fresh w0.heap.size wq.drew aO nO cO := hJO
  clear hcs G0 hA hU hJ hO hUO hJO
  refine wp_region_held_drew (S := fun w' => True ∧ Gr w0 w') (by kernel_rfl) hS0 (fun hHeld => ?_)
  clear hS0
  generalize wq.drew = wd at *
  refine wpAnyH_take (i := 1) (oi := ({ dst := some 52, op := Op.move (Operand.tmp 3), type := 2, pos := "outright.go:129", after := #[], guard := none } : Oper)) (v := ?_) rfl (by kernel_rfl) (by kernel_rfl) (by kernel_rfl) (fun _ _ _ h => h) (Or.inl ⟨by rfl, ?_⟩) (by with_reducible assumption) ?_
  rotate_left
  · intro w hSw
    (try dsimp only at hSw)
    first | (go_simp; done) | (go_simp; with_reducible rfl)
  (try simp only [Act.put, List.setIfInBounds_toArray, List.set_cons_zero, List.set_cons_succ])
  refine wpAnyH_take (i := 2) (oi := ({ dst := some 53, op := Op.binOp BinOp.rem 2 (Operand.tmp 52) (Operand.const (Value.int IntKind.i64 1000000007)) 2, type := 2, pos := "outright.go:129", after := #[{ on := 1, ground := Ground.data }], guard := none } : Oper)) (v := ?_) rfl (by kernel_rfl) (by kernel_rfl) (by kernel_rfl) (fun _ _ _ h => h) (Or.inl ⟨by rfl, ?_⟩) (by with_reducible assumption) ?_
  rotate_left
  · intro w hSw
    (try dsimp only at hSw)
    first | (go_simp; done) | (go_simp; with_reducible rfl)
  (try simp only [Act.put, List.setIfInBounds_toArray, List.set_cons_zero, List.set_cons_succ])
  refine wpAnyH_ready (rs := [0, 3]) (by kernel_rfl) (by simp) ?_
  refine AllReadyH.cons (o := ({ dst := some 51, op := Op.load 25 (Operand.tmp 12), type := 25, pos := "outright.go:129", after := #[], guard := none } : Oper)) rfl (fun K hK => ?_) ?_
  · obtain ⟨x0', x1'⟩ := bx2 BA_1
    go_simp
    refine hK.out _ _ hHeld (fun hH7 => ?_)
    clear hK K x0' x1'
    (try simp only [Act.put, List.setIfInBounds_toArray, List.set_cons_zero, List.set_cons_succ])
    refine wpAnyH_ready (rs := [3]) (by kernel_rfl) (by simp) ?_
    refine AllReadyH.cons (o := ({ dst := some 54, op := Op.call { callee := Callee.value (Operand.func 5), args := #[Operand.tmp 53], argTypes := #[2] }, type := 25, pos := "outright.go:129", after := #[{ on := 2, ground := Ground.data }], guard := none } : Oper)) rfl (fun K hK => ?_) AllReadyH.nil
    go_simp
    with_reducible refine (X1.out _).mono ?_
    rintro r wc8 ⟨s9, a9, n9, c9, rfl, W9_11, F9_12, gg10⟩
    replace W9_11 := W9_11.out
    replace F9_12 := F9_12.out
    refine hK.out _ _ ⟨trivial, hH7.2.trans gg10⟩ (fun hH9 => ?_)
    have hzwc8 := hH7.2.size
    clear hK K
    (try simp only [Act.put, List.setIfInBounds_toArray, List.set_cons_zero, List.set_cons_succ])
    have BA_13 := keepO gg10 BA_1
    clear BA_1
    have UA_14 := UA_2.gr gg10
    clear UA_2
    have JA_15 := JA_3.gr gg10
    clear JA_3
    have BO_16 := keepO gg10 BO_4
    clear BO_4
    have UO_17 := UO_5.gr gg10
    clear UO_5
    have JO_18 := JO_6.gr gg10
    clear JO_6
    refine wpAnyH_ready (rs := [4]) (by kernel_rfl) (by simp) ?_
    refine AllReadyH.cons (o := ({ dst := some 55, op := Op.call { callee := Callee.value (Operand.func 8), args := #[Operand.tmp 51, Operand.tmp 54], argTypes := #[25, 25] }, type := 28, pos := "outright.go:129", after := #[{ on := 0, ground := Ground.data }, { on := 3, ground := Ground.data }, { on := 3, ground := Ground.chain }], guard := none } : Oper)) rfl (fun K hK => ?_) AllReadyH.nil
    go_simp
    with_reducible refine (X2.out _ _ _ _ _ hH9.2 UA_14 W9_11).mono ?_
    rintro r wc19 ⟨b1, q1, m1, d1, rfl, WQ_22, FQ_23, gg21⟩
    replace WQ_22 := WQ_22.out
    replace FQ_23 := FQ_23.out
    refine hK.out _ _ ⟨trivial, hH9.2.trans gg21⟩ (fun hH20 => ?_)
    have hzwc19 := hH9.2.size
    clear hK K
    (try simp only [Act.put, List.setIfInBounds_toArray, List.set_cons_zero, List.set_cons_succ])
    have BA_24 := keepO gg21 BA_13
    clear BA_13
    have UA_25 := UA_14.gr gg21
    clear UA_14
    have JA_26 := JA_15.gr gg21
    clear JA_15
    have BO_27 := keepO gg21 BO_16
    clear BO_16
    have UO_28 := UO_17.gr gg21
    clear UO_17
    have JO_29 := JO_18.gr gg21
    clear JO_18
    have W9_30 := W9_11.gr gg21
    clear W9_11
    have F9_31 := F9_12.gr gg21
    clear F9_12
    refine wpAnyH_take (i := 5) (oi := ({ dst := some 50, op := Op.move (Operand.tmp 55), type := 28, pos := "outright.go:129", after := #[{ on := 4, ground := Ground.data }], guard := none } : Oper)) (v := ?_) rfl (by kernel_rfl) (by kernel_rfl) (by kernel_rfl) (fun _ _ _ h => h) (Or.inl ⟨by rfl, ?_⟩) (by with_reducible assumption) ?_
    rotate_left
    · intro w hSw
      (try dsimp only at hSw)
      first | (go_simp; done) | (go_simp; with_reducible rfl)
    (try simp only [Act.put, List.setIfInBounds_toArray, List.set_cons_zero, List.set_cons_succ])
    refine wpAnyH_take (i := 6) (oi := ({ dst := some 56, op := Op.extract (Operand.tmp 50) 0, type := 25, pos := "outright.go:129", after := #[{ on := 5, ground := Ground.data }], guard := none } : Oper)) (v := ?_) rfl (by kernel_rfl) (by kernel_rfl) (by kernel_rfl) (fun _ _ _ h => h) (Or.inl ⟨by rfl, ?_⟩) (by with_reducible assumption) ?_
    rotate_left
    · intro w hSw
      (try dsimp only at hSw)
      first | (go_simp; done) | (go_simp; with_reducible rfl)
    (try simp only [Act.put, List.setIfInBounds_toArray, List.set_cons_zero, List.set_cons_succ])
    refine wpAnyH_take (i := 7) (oi := ({ dst := some 57, op := Op.extract (Operand.tmp 50) 1, type := 27, pos := "outright.go:129", after := #[{ on := 5, ground := Ground.data }, { on := 8, ground := Ground.gcOnly Departure.lateStores }], guard := none } : Oper)) (v := ?_) rfl (by kernel_rfl) (by kernel_rfl) (by kernel_rfl) (fun _ _ _ h => h) (Or.inl ⟨by rfl, ?_⟩) (by with_reducible assumption) ?_
    rotate_left
    · intro w hSw
      (try dsimp only at hSw)
      first | (go_simp; done) | (go_simp; with_reducible rfl)
    (try simp only [Act.put, List.setIfInBounds_toArray, List.set_cons_zero, List.set_cons_succ])
    refine wpAnyH_ready (rs := [8]) (by kernel_rfl) (by simp) ?_
    refine AllReadyH.cons (o := ({ dst := none, op := Op.store 25 (Operand.tmp 12) (Operand.tmp 56), type := 0, pos := "outright.go:129", after := #[{ on := 6, ground := Ground.data }, { on := 4, ground := Ground.chain }, { on := 0, ground := Ground.phase }, { on := 1, ground := Ground.phase }, { on := 2, ground := Ground.phase }, { on := 3, ground := Ground.phase }, { on := 4, ground := Ground.phase }, { on := 5, ground := Ground.phase }, { on := 6, ground := Ground.phase }, { on := 7, ground := Ground.textOnly Departure.lateStores }], guard := none } : Oper)) rfl (fun K hK => ?_) AllReadyH.nil
    obtain ⟨t0', t1', u0', u1'⟩ := outAny BA_24
    go_simp
    refine hK.out _ _ ⟨trivial, ((hH20.2.setCell (p := ⟨pA, 0, none⟩) (by show _ ≤ pA; omega) _).setCell (p := ⟨pA, 1, none⟩) (by show _ ≤ pA; omega) _)⟩ (fun hS32 => ?_)
    clear hK K t0' t1' u0' u1'
    (try simp only [Act.put, List.setIfInBounds_toArray, List.set_cons_zero, List.set_cons_succ])
    have UA_33 := wh_set2W UA_25 JA_26 BA_24 (.bool b1) (.slice q1 m1 d1) (by decide)
    have JA_34 := fresh_set2 JA_26 BA_24 (.bool b1) (.slice q1 m1 d1) (by decide)
    have BO_35 := heap_farW (q := pA) (i := 1) (v := .slice q1 m1 d1) (heap_farW (q := pA) (i := 0) (v := .bool b1) BO_27 (by omega)) (by omega)
    have UO_36 := wh_set2W UO_28 JO_29 BA_24 (.bool b1) (.slice q1 m1 d1) (by decide)
    have JO_37 := fresh_set2 JO_29 BA_24 (.bool b1) (.slice q1 m1 d1) (by decide)
    have W9_38 := wh_set2W W9_30 F9_31 BA_24 (.bool b1) (.slice q1 m1 d1) (by decide)
    have F9_39 := fresh_set2 F9_31 BA_24 (.bool b1) (.slice q1 m1 d1) (by decide)
    have WQ_40 := wh_set2W WQ_22 FQ_23 BA_24 (.bool b1) (.slice q1 m1 d1) (by decide)
    have FQ_41 := fresh_set2 FQ_23 BA_24 (.bool b1) (.slice q1 m1 d1) (by decide)
    have BA_42 := put2_block BA_24 (.bool b1) (.slice q1 m1 d1)
    clear UA_25 JA_26 BO_27 UO_28 JO_29 W9_30 F9_31 WQ_22 FQ_23 BA_24
    refine wpAnyH_take (i := 9) (oi := ({ dst := some 13, op := Op.assign (Operand.tmp 57), type := 27, pos := "outright.go:129", after := #[{ on := 7, ground := Ground.data }, { on := 8, ground := Ground.chain }, { on := 0, ground := Ground.phase }, { on := 1, ground := Ground.phase }, { on := 2, ground := Ground.phase }, { on := 3, ground := Ground.phase }, { on := 4, ground := Ground.phase }, { on := 5, ground := Ground.phase }, { on := 6, ground := Ground.phase }, { on := 7, ground := Ground.phase }, { on := 8, ground := Ground.phase }], guard := none } : Oper)) (v := ?_) rfl (by kernel_rfl) (by kernel_rfl) (by kernel_rfl) (fun _ _ _ h => h) (Or.inl ⟨by rfl, ?_⟩) (by with_reducible assumption) ?_
    rotate_left
    · intro w hSw
      (try dsimp only at hSw)
      first | (go_simp; done) | (go_simp; with_reducible rfl)
    (try simp only [Act.put, List.setIfInBounds_toArray, List.set_cons_zero, List.set_cons_succ])
    refine wpAnyH_done (by kernel_rfl) ?_ _
    exact ⟨_, _, _, _, _, _, _, _, b1, q1, m1, d1, rfl, BA_42, WQ_40, FQ_41, BO_35, UO_36, JO_37, hS32.2⟩
  refine AllReadyH.cons (o := ({ dst := some 54, op := Op.call { callee := Callee.value (Operand.func 5), args := #[Operand.tmp 53], argTypes := #[2] }, type := 25, pos := "outright.go:129", after := #[{ on := 2, ground := Ground.data }], guard := none } : Oper)) rfl (fun K hK => ?_) AllReadyH.nil
  go_simp
  with_reducible refine (X1.out _).mono ?_
  rintro r wc43 ⟨s9, a9, n9, c9, rfl, W9_46, F9_47, gg45⟩
  replace W9_46 := W9_46.out
  replace F9_47 := F9_47.out
  refine hK.out _ _ ⟨trivial, hHeld.2.trans gg45⟩ (fun hH44 => ?_)
  have hzwc43 := hHeld.2.size
  clear hK K
  (try simp only [Act.put, List.setIfInBounds_toArray, List.set_cons_zero, List.set_cons_succ])
  have BA_48 := keepO gg45 BA_1
  clear BA_1
  have UA_49 := UA_2.gr gg45
  clear UA_2
  have JA_50 := JA_3.gr gg45
  clear JA_3
  have BO_51 := keepO gg45 BO_4
  clear BO_4
  have UO_52 := UO_5.gr gg45
  clear UO_5
  have JO_53 := JO_6.gr gg45
  clear JO_6
  refine wpAnyH_ready (rs := [0]) (by kernel_rfl) (by simp) ?_
  refine AllReadyH.cons (o := ({ dst := some 51, op := Op.load 25 (Operand.tmp 12), type := 25, pos := "outright.go:129", after := #[], guard := none } : Oper)) rfl (fun K hK => ?_) AllReadyH.nil
  obtain ⟨x0', x1'⟩ := bx2 BA_48
  go_simp
  refine hK.out _ _ hH44 (fun hH54 => ?_)
  clear hK K x0' x1'
  (try simp only [Act.put, List.setIfInBounds_toArray, List.set_cons_zero, List.set_cons_succ])
  refine wpAnyH_ready (rs := [4]) (by kernel_rfl) (by simp) ?_
  refine AllReadyH.cons (o := ({ dst := some 55, op := Op.call { callee := Callee.value (Operand.func 8), args := #[Operand.tmp 51, Operand.tmp 54], argTypes := #[25, 25] }, type := 28, pos := "outright.go:129", after := #[{ on := 0, ground := Ground.data }, { on := 3, ground := Ground.data }, { on := 3, ground := Ground.chain }], guard := none } : Oper)) rfl (fun K hK => ?_) AllReadyH.nil
  go_simp
  with_reducible refine (X2.out _ _ _ _ _ hH54.2 UA_49 W9_46).mono ?_
  rintro r wc55 ⟨b1, q1, m1, d1, rfl, WQ_58, FQ_59, gg57⟩
  replace WQ_58 := WQ_58.out
  replace FQ_59 := FQ_59.out
  refine hK.out _ _ ⟨trivial, hH54.2.trans gg57⟩ (fun hH56 => ?_)
  have hzwc55 := hH54.2.size
  clear hK K
  (try simp only [Act.put, List.setIfInBounds_toArray, List.set_cons_zero, List.set_cons_succ])
  have BA_60 := keepO gg57 BA_48
  clear BA_48
  have UA_61 := UA_49.gr gg57
  clear UA_49
  have JA_62 := JA_50.gr gg57
  clear JA_50
  have BO_63 := keepO gg57 BO_51
  clear BO_51
  have UO_64 := UO_52.gr gg57
  clear UO_52
  have JO_65 := JO_53.gr gg57
  clear JO_53
  have W9_66 := W9_46.gr gg57
  clear W9_46
  have F9_67 := F9_47.gr gg57
  clear F9_47
  refine wpAnyH_take (i := 5) (oi := ({ dst := some 50, op := Op.move (Operand.tmp 55), type := 28, pos := "outright.go:129", after := #[{ on := 4, ground := Ground.data }], guard := none } : Oper)) (v := ?_) rfl (by kernel_rfl) (by kernel_rfl) (by kernel_rfl) (fun _ _ _ h => h) (Or.inl ⟨by rfl, ?_⟩) (by with_reducible assumption) ?_
  rotate_left
  · intro w hSw
    (try dsimp only at hSw)
    first | (go_simp; done) | (go_simp; with_reducible rfl)
  (try simp only [Act.put, List.setIfInBounds_toArray, List.set_cons_zero, List.set_cons_succ])
  refine wpAnyH_take (i := 6) (oi := ({ dst := some 56, op := Op.extract (Operand.tmp 50) 0, type := 25, pos := "outright.go:129", after := #[{ on := 5, ground := Ground.data }], guard := none } : Oper)) (v := ?_) rfl (by kernel_rfl) (by kernel_rfl) (by kernel_rfl) (fun _ _ _ h => h) (Or.inl ⟨by rfl, ?_⟩) (by with_reducible assumption) ?_
  rotate_left
  · intro w hSw
    (try dsimp only at hSw)
    first | (go_simp; done) | (go_simp; with_reducible rfl)
  (try simp only [Act.put, List.setIfInBounds_toArray, List.set_cons_zero, List.set_cons_succ])
  refine wpAnyH_take (i := 7) (oi := ({ dst := some 57, op := Op.extract (Operand.tmp 50) 1, type := 27, pos := "outright.go:129", after := #[{ on := 5, ground := Ground.data }, { on := 8, ground := Ground.gcOnly Departure.lateStores }], guard := none } : Oper)) (v := ?_) rfl (by kernel_rfl) (by kernel_rfl) (by kernel_rfl) (fun _ _ _ h => h) (Or.inl ⟨by rfl, ?_⟩) (by with_reducible assumption) ?_
  rotate_left
  · intro w hSw
    (try dsimp only at hSw)
    first | (go_simp; done) | (go_simp; with_reducible rfl)
  (try simp only [Act.put, List.setIfInBounds_toArray, List.set_cons_zero, List.set_cons_succ])
  refine wpAnyH_ready (rs := [8]) (by kernel_rfl) (by simp) ?_
  refine AllReadyH.cons (o := ({ dst := none, op := Op.store 25 (Operand.tmp 12) (Operand.tmp 56), type := 0, pos := "outright.go:129", after := #[{ on := 6, ground := Ground.data }, { on := 4, ground := Ground.chain }, { on := 0, ground := Ground.phase }, { on := 1, ground := Ground.phase }, { on := 2, ground := Ground.phase }, { on := 3, ground := Ground.phase }, { on := 4, ground := Ground.phase }, { on := 5, ground := Ground.phase }, { on := 6, ground := Ground.phase }, { on := 7, ground := Ground.textOnly Departure.lateStores }], guard := none } : Oper)) rfl (fun K hK => ?_) AllReadyH.nil
  obtain ⟨t0', t1', u0', u1'⟩ := outAny BA_60
  go_simp
  refine hK.out _ _ ⟨trivial, ((hH56.2.setCell (p := ⟨pA, 0, none⟩) (by show _ ≤ pA; omega) _).setCell (p := ⟨pA, 1, none⟩) (by show _ ≤ pA; omega) _)⟩ (fun hS68 => ?_)
  clear hK K t0' t1' u0' u1'
  (try simp only [Act.put, List.setIfInBounds_toArray, List.set_cons_zero, List.set_cons_succ])
  have UA_69 := wh_set2W UA_61 JA_62 BA_60 (.bool b1) (.slice q1 m1 d1) (by decide)
  have JA_70 := fresh_set2 JA_62 BA_60 (.bool b1) (.slice q1 m1 d1) (by decide)
  have BO_71 := heap_farW (q := pA) (i := 1) (v := .slice q1 m1 d1) (heap_farW (q := pA) (i := 0) (v := .bool b1) BO_63 (by omega)) (by omega)
  have UO_72 := wh_set2W UO_64 JO_65 BA_60 (.bool b1) (.slice q1 m1 d1) (by decide)
  have JO_73 := fresh_set2 JO_65 BA_60 (.bool b1) (.slice q1 m1 d1) (by decide)
  have W9_74 := wh_set2W W9_66 F9_67 BA_60 (.bool b1) (.slice q1 m1 d1) (by decide)
  have F9_75 := fresh_set2 F9_67 BA_60 (.bool b1) (.slice q1 m1 d1) (by decide)
  have WQ_76 := wh_set2W WQ_58 FQ_59 BA_60 (.bool b1) (.slice q1 m1 d1) (by decide)
  have FQ_77 := fresh_set2 FQ_59 BA_60 (.bool b1) (.slice q1 m1 d1) (by decide)
  have BA_78 := put2_block BA_60 (.bool b1) (.slice q1 m1 d1)
  clear UA_61 JA_62 BO_63 UO_64 JO_65 W9_66 F9_67 WQ_58 FQ_59 BA_60
  refine wpAnyH_take (i := 9) (oi := ({ dst := some 13, op := Op.assign (Operand.tmp 57), type := 27, pos := "outright.go:129", after := #[{ on := 7, ground := Ground.data }, { on := 8, ground := Ground.chain }, { on := 0, ground := Ground.phase }, { on := 1, ground := Ground.phase }, { on := 2, ground := Ground.phase }, { on := 3, ground := Ground.phase }, { on := 4, ground := Ground.phase }, { on := 5, ground := Ground.phase }, { on := 6, ground := Ground.phase }, { on := 7, ground := Ground.phase }, { on := 8, ground := Ground.phase }], guard := none } : Oper)) (v := ?_) rfl (by kernel_rfl) (by kernel_rfl) (by kernel_rfl) (fun _ _ _ h => h) (Or.inl ⟨by rfl, ?_⟩) (by with_reducible assumption) ?_
  rotate_left
  · intro w hSw
    (try dsimp only at hSw)
    first | (go_simp; done) | (go_simp; with_reducible rfl)
  (try simp only [Act.put, List.setIfInBounds_toArray, List.set_cons_zero, List.set_cons_succ])
  refine wpAnyH_done (by kernel_rfl) ?_ _
  exact ⟨_, _, _, _, _, _, _, _, b1, q1, m1, d1, rfl, BA_78, WQ_76, FQ_77, BO_71, UO_72, JO_73, hS68.2⟩
theorem fdiv_sizeG (X Y : Int) (hY : Y ≠ 0) : (X.fmod Y).natAbs < Y.natAbs ∧ (X.fdiv Y * Y).natAbs ≤ X.natAbs + Y.natAbs ∧ 0 ≤ sg (X.fmod Y) * sg Y ∧ X.fdiv Y * Y + X.fmod Y = X := by
  have e : X.fdiv Y * Y + X.fmod Y = X := by rw [Int.mul_comm]; exact Int.mul_fdiv_add_fmod X Y
  rcases Int.lt_or_gt_of_ne hY with h | h
  · have h1' := Int.fmod_nonneg_of_pos (-X) (b := -Y) (by omega)
    have h2' := Int.fmod_lt_of_pos (-X) (b := -Y) (by omega)
    rw [Int.neg_fmod_neg] at h1' h2'
    have h1 : X.fmod Y ≤ 0 := by omega
    have h2 : Y < X.fmod Y := by omega
    refine ⟨by omega, by omega, ?_, e⟩
    rw [sg_neg h]
    rcases Int.lt_or_eq_of_le h1 with h3 | h3
    · rw [sg_neg h3]; decide
    · rw [h3, sg_zero]; decide
  · have h1 := Int.fmod_nonneg_of_pos X h
    have h2 := Int.fmod_lt_of_pos X h
    refine ⟨by omega, by omega, ?_, e⟩
    rw [sg_pos h]
    rcases Int.lt_or_eq_of_le h1 with h3 | h3
    · rw [sg_pos h3]; decide
    · rw [← h3, sg_zero]; decide
theorem great_top {k : Nat} (h : k < 262016) : 2 ^ (64 + k) + 1000000007 < TopN ∧ 18446744073709551616 ≤ 2 ^ (64 + k) := by
  have h1 : 2 ^ (64 + k) * 2 ≤ TopN := by
    rw [← Nat.pow_succ]
    exact topN_pow (by omega)
  have h2 : (2 : Nat) ^ 64 ≤ 2 ^ (64 + k) := Nat.pow_le_pow_right (by omega) (by omega)
  have h3 : (2 : Nat) ^ 64 = 18446744073709551616 := by decide
  generalize 2 ^ (64 + k) = A at *
  omega
theorem rem_small (x : Int) : -1000000007 < x.tmod 1000000007 ∧ x.tmod 1000000007 < 1000000007 := ⟨Int.lt_tmod_of_pos x (by decide), Int.tmod_lt_of_pos x (by decide)⟩
theorem shI_posW (X : Int) (m : Nat) : shI X (m : Int) = X * 2 ^ m := by unfold shI; rw [if_pos (by omega), Int.toNat_natCast]
theorem shI_one (k : Nat) (K : Int) (hK : K = ((64 + k : Nat) : Int)) : shI 1 K = ((2 ^ (64 + k) : Nat) : Int) := by
  rw [hK, shI_posW, Int.one_mul, Int.natCast_pow]
  rfl
set_option maxRecDepth 8000 in
set_option maxHeartbeats 8000000 in
/-- DivideGreat -/
theorem divideGreatP (N M x y : Int) (w : World) (bN1 : -9223372036854775808 ≤ N) (bN2 : N ≤ 9223372036854775807) (bM1 : -9223372036854775808 ≤ M) (bM2 : M ≤ 9223372036854775807) (bx1 : -9223372036854775808 ≤ x) (bx2' : x ≤ 9223372036854775807) (by1 : -9223372036854775808 ≤ y) (by2 : y ≤ 9223372036854775807) (hT : TabAt 0 Lib.deBruijn64tab w) :
    Calls Tryd.prog 3 #[.int .i64 N, .int .i64 M, .int .i64 x, .int .i64 y] w fun e w' => e = .returned (.bool true) ∧ Gr w w' := by
  have AW := hide awakeD
  have O1 := hide (ofD 1 (by omega) (by omega))
  obtain ⟨p, hp⟩ : ∃ p : Nat, N % (262016 : Int) = (p : Int) := ⟨(N % 262016).toNat, by omega⟩
  obtain ⟨q, hq⟩ : ∃ q : Nat, M % (262016 : Int) = (q : Int) := ⟨(M % 262016).toNat, by omega⟩
  have hp1 : p < 262016 := by omega
  have hq1 : q < 262016 := by omega
  have PK : ∀ (z : Int) (k : Nat), z % (262016 : Int) = (k : Int) → Hid (∀ w1, Calls Tryd.prog 7 #[.int .i64 z, .int .i64 262016] w1 fun r w' => r = .returned (.int .i64 (k : Int)) ∧ Gr w1 w') := fun z k hk w1 => by
    refine (pickW z 262016 (by omega) (by omega) w1).mono ?_
    rintro r w' ⟨rfl, rfl⟩
    exact ⟨by rw [← hk]; rfl, Gr.refl _⟩
  have PN := PK N p hp
  have PM := PK M q hq
  have hr1 := rem_small x
  have hr2 := rem_small y
  obtain ⟨R1, hR1⟩ : ∃ R, x.tmod 1000000007 = R := ⟨_, rfl⟩
  obtain ⟨R2, hR2⟩ : ∃ R, y.tmod 1000000007 = R := ⟨_, rfl⟩
  rw [hR1] at hr1
  rw [hR2] at hr2
  obtain ⟨tA, lA⟩ := great_top hp1
  obtain ⟨tB, lB⟩ := great_top hq1
  obtain ⟨A, hA⟩ : ∃ A : Nat, 2 ^ (64 + p) = A := ⟨_, rfl⟩
  obtain ⟨B, hB⟩ : ∃ B : Nat, 2 ^ (64 + q) = B := ⟨_, rfl⟩
  have SH : ∀ (k E : Nat) (K : Int), 2 ^ (64 + k) = E → K = ((64 + k : Nat) : Int) → E < TopN → Hid (∀ (s9 : Bool) (a9 : Option Addr) (n9 c9 : Nat) (w0 : World), Wh w0 s9 a9 n9 c9 1 → Gr w w0 → ∀ w1, Gr w0 w1 → Calls Tryd.prog 6 #[.agg #[.bool s9, .slice a9 n9 c9], .int .i64 K] w1 fun r w' => ∃ a b c d, r = .returned (.tuple #[.agg #[.bool a, .slice b c d], .int .i64 0]) ∧ Hid (Wh w' a b c d (E : Int)) ∧ Hid (Fresh w0.heap.size w' b c d) ∧ Gr w1 w') := fun k E K hE hK hlt s9 a9 n9 c9 w0 h9 g0 w1 g1 => by
    refine (shiftF s9 a9 n9 c9 1 K (E : Int) w1 (h9.gr g1) (tab_gr hT (g0.trans g1)) (by rw [shI_one k K hK, hE]) (by rw [Int.natAbs_natCast]; exact hlt)).mono ?_
    rintro r w' ⟨a, b, c, d, rfl, k1, k2, k3⟩
    exact ⟨a, b, c, d, rfl, k1, k2.out.low g1.size, k3⟩
  rw [hA] at tA lA
  rw [hB] at tB lB
  have SA := SH p A (IntKind.i64.wrap (64 + (p : Int))) hA (by rw [IntKind.wrap_i64]; omega) (by omega)
  have SB := SH q B (IntKind.i64.wrap (64 + (q : Int))) hB (by rw [IntKind.wrap_i64]; omega) (by omega)
  have O2 := hide (ofD R1 (by omega) (by omega))
  have O3 := hide (ofD R2 (by omega) (by omega))
  have fA : ((A : Int) + R1).natAbs < TopN := by omega
  have fB : ((B : Int) + R2).natAbs < TopN := by omega
  have hY0 : (B : Int) + R2 ≠ 0 := by omega
  have hYp : 0 < (B : Int) + R2 := by omega
  have hXp : 0 < (A : Int) + R1 := by omega
  obtain ⟨X, hX⟩ : ∃ X, (A : Int) + R1 = X := ⟨_, rfl⟩
  obtain ⟨Y, hY⟩ : ∃ Y, (B : Int) + R2 = Y := ⟨_, rfl⟩
  have AD : ∀ (E : Nat) (R Z : Int), (E : Int) + R = Z → Z.natAbs < TopN → Hid (∀ (w0 : World) (sA : Bool) (aA : Option Addr) (nA cA : Nat), ∀ w1 s a n c, Gr w0 w1 → Wh w1 sA aA nA cA (E : Int) → Wh w1 s a n c R → Calls Tryd.prog 8 #[.agg #[.bool sA, .slice aA nA cA], .agg #[.bool s, .slice a n c]] w1 fun r w' => ∃ a b c d, r = .returned (.tuple #[.agg #[.bool a, .slice b c d], .int .i64 0]) ∧ Hid (Wh w' a b c d Z) ∧ Hid (Fresh w0.heap.size w' b c d) ∧ Gr w1 w') := fun E R Z hZ hf w0 sA aA nA cA w1 s a n c g h1 h2 => by
    have := addF sA s aA a nA n cA c (E : Int) R w1 h1 h2 (by rw [hZ]; exact hf)
    rw [hZ] at this
    refine this.mono ?_
    rintro r w' ⟨a, b, c, d, rfl, k1, k2, k3⟩
    exact ⟨a, b, c, d, rfl, k1, k2.out.low g.size, k3⟩
  have A1 := AD A R1 X hX (by rw [← hX]; exact fA)
  have A2 := AD B R2 Y hY (by rw [← hY]; exact fB)
  rw [hY] at hY0 hYp fB
  rw [hX] at hXp fA
  obtain ⟨v1, v2, v3, v4⟩ := fdiv_sizeG X Y hY0
  have v5 : 0 ≤ X.fmod Y := Int.fmod_nonneg_of_pos X hYp
  have v6 : (X.fdiv Y * Y).natAbs < TopN := by
    have h1 : 0 ≤ X.fdiv Y * Y := Int.mul_nonneg (Int.fdiv_nonneg (by omega) (by omega)) (by omega)
    omega
  have FF := hide (And.intro hY0 (And.intro v1 (And.intro v4 (And.intro v5 v6))))
  clear PK SH AD hp hq hA hB tA tB lA lB fA fB hX hY hY0 hYp hXp v1 v2 v3 v4 v5 v6 hr1 hr2 hT bN1 bN2 bM1 bM2 bx1 bx2' by1 by2
  have GW := Gr.refl w
  go_enter Tryd.func3, Tryd.ntmps3
  go_wp2_with (first | (go_at_call 4; (with_reducible refine (AW.out _).mono ?_); rintro r w1 ⟨rfl, gN⟩; replace GW := GW.trans gN; clear gN) | (go_at_call 5; (with_reducible refine (O1.out _).mono ?_); rintro r w2 ⟨s9, a9, n9, c9, rfl, U9, J9, gN⟩; have gx : Gr w2 (w2.alloc (.cells #[.bool s9, .slice a9 n9 c9] 25)) := (Gr.refl _).alloc _; have H9 := blk1 w2 (.cells #[.bool s9, .slice a9 n9 c9] 25); replace U9 := U9.out.gr gx; replace GW := (GW.trans gN).trans gx; clear gN gx J9))
  generalize (w2.alloc (.cells #[.bool s9, .slice a9 n9 c9] 25)) = w3 at *
  refine Code.wp_mono ?_ (regDg4 _ _ _ _ _ _ _ _ _ _ _ _ _ _ _ _ _ _ _ _ _ _ _ _ _ _ _ _ _ _ _ _ _ _ _ _ _ _ _ _ _ _ _ _ _ _ _ _ _ _ _ _ _ _ _ _ _ _ _ _ _ _ _ _ _ _ _ _ _ _ _ _ _ _ _ _ _ _ _ _ _ _ _ _ _ _ _ _ _ _ w2.heap.size n9 c9 s9 a9 N p A w3 PN (SA.out s9 a9 n9 c9 w3 U9 GW) (by omega) (by omega) (lt_of_get2 H9) (Gr.refl _) (bx2 H9))
  intro e a' w4 hR
  cases e <;> first | (exact False.elim hR) | skip
  obtain ⟨u20, u21, u22, u23, u24, u25, u26, u27, p10, s10, a10, n10, c10, rfl, H10, U10, J10, P10, gN⟩ := hR
  replace H9 := keepO gN H9
  replace U9 := U9.gr gN
  replace J10 := J10.low GW.size
  replace P10 := Nat.le_trans GW.size P10
  replace GW := GW.trans gN
  clear gN
  go_wp2
  refine Code.wp_mono ?_ (regDg5 _ _ _ _ _ _ _ _ _ _ _ _ _ _ _ _ _ _ _ _ _ _ _ _ _ _ _ _ _ _ _ _ _ _ _ _ _ _ _ _ _ _ _ _ _ _ _ _ _ _ _ _ _ _ _ _ _ _ _ _ _ _ _ _ _ _ _ _ _ _ _ _ _ _ _ _ _ _ _ _ _ _ _ _ _ _ _ _ _ _ w2.heap.size n9 c9 s9 a9 M q B w4 PM (SB.out s9 a9 n9 c9 w4 U9 GW) (by omega) (by omega) (lt_of_get2 H9) (Gr.refl _) (bx2 H9))
  intro e a' w5 hR
  cases e <;> first | (exact False.elim hR) | skip
  obtain ⟨u28, u29, u30, u31, u32, u33, u34, u35, p12, s12, a12, n12, c12, rfl, H12, U12, J12, P12, gN⟩ := hR
  have hne : p10 < p12 := Nat.lt_of_lt_of_le (lt_of_get2 H10) P12
  replace H10 := keepO gN H10
  replace U10 := U10.gr gN
  replace J10 := J10.gr gN
  replace J12 := J12.low GW.size
  replace GW := GW.trans gN
  clear gN H9 U9 SA SB PN PM P12 AW O1
  go_wp2
  refine Code.wp_mono ?_ (regDg8 _ _ _ _ _ _ _ _ _ _ _ _ _ _ _ _ _ _ _ _ _ _ _ _ _ _ _ _ _ _ _ _ _ _ _ _ _ _ _ _ _ _ _ _ _ _ _ _ _ _ _ _ _ _ _ _ _ _ _ _ _ _ _ _ _ _ _ _ _ _ _ _ _ _ _ _ _ _ _ _ _ _ _ _ _ _ _ _ _ _ p10 n10 c10 p12 n12 c12 s10 s12 a10 a12 x R1 A B X w w5 O2 (A1.out w s10 a10 n10 c10) hR1 H10 U10 J10 H12 U12 J12 P10 (by omega) GW trivial)
  intro e a' w6 hR
  cases e <;> first | (exact False.elim hR) | skip
  clear H10 U10 J10 H12 U12 J12 GW
  obtain ⟨u42, u43, u44, u45, u46, u47, u48, u49, s20, a20, n20, c20, rfl, H10, U10, J10, H12, U12, J12, GW⟩ := hR
  go_wp2
  refine Code.wp_mono ?_ (regDg9 _ _ _ _ _ _ _ _ _ _ _ _ _ _ _ _ _ _ _ _ _ _ _ _ _ _ _ _ _ _ _ _ _ _ _ _ _ _ _ _ _ _ _ _ _ _ _ _ _ _ _ _ _ _ _ _ _ _ _ _ _ _ _ _ _ _ _ _ _ _ _ _ _ _ _ _ _ _ _ _ _ _ _ _ _ _ _ _ _ _ p12 n12 c12 p10 n20 c20 s12 s20 a12 a20 y R2 B X Y w w6 O3 (A2.out w s12 a12 n12 c12) hR2 H12 U12 J12 H10 U10 J10 (by omega) (by omega) GW trivial)
  intro e a' w7 hR
  cases e <;> first | (exact False.elim hR) | skip
  clear H10 U10 J10 H12 U12 J12 GW
  obtain ⟨u50, u51, u52, u53, u54, u55, u56, u57, s22, a22, n22, c22, rfl, H12, U12, J12, H10, U10, J10, GW⟩ := hR
  have FL := hide (floorT s20 s22 a20 a22 n20 n22 c20 c22 X Y w7 U10 U12 FF.out.1)
  obtain ⟨x10, y10⟩ := bx2 H10
  obtain ⟨x12, y12⟩ := bx2 H12
  have UU := hide (And.intro U10 U12)
  clear O2 O3 A1 A2 hR1 hR2 J10 J12 U10 U12
  go_wp2_with (go_at_call 9; (with_reducible refine FL.out.mono ?_); rintro r w8 ⟨s14, a14, n14, c14, s15, a15, n15, c15, rfl, U14, U15, J14, J15, AP, gN⟩; have hs : s15 = false := (by cases s15; rfl; exact absurd (U15.out.neg_iff.1 rfl) (by have := FF.out.2.2.2.1; omega)); subst hs; have gx : Gr w8 ((w8.alloc (.cells #[.bool s14, .slice a14 n14 c14] 25)).alloc (.cells #[.bool false, .slice a15 n15 c15] 25)) := ((Gr.refl _).alloc _).alloc _; obtain ⟨H14, H15⟩ := blk2 w8 (.cells #[.bool s14, .slice a14 n14 c14] 25) (.cells #[.bool false, .slice a15 n15 c15] 25); replace H10 := keepO (gN.trans gx) H10; replace H12 := keepO (gN.trans gx) H12; have V := hide (And.intro (UU.out.1.gr (gN.trans gx)) (And.intro (UU.out.2.gr (gN.trans gx)) (And.intro (U14.out.gr gx) (U15.out.gr gx)))); replace GW := (GW.trans gN).trans gx; clear x10 y10 x12 y12 gN gx J14 J15 AP U14 U15; obtain ⟨x10, y10⟩ := bx2 H10; obtain ⟨x12, y12⟩ := bx2 H12; obtain ⟨x14, y14⟩ := bx2 H14; obtain ⟨x15, y15⟩ := bx2 H15)
  have NR := hide (nearerD false s22 a15 a22 n15 n22 c15 c22 (X.fmod Y) Y _ V.out.2.2.2 V.out.2.1 FF.out.2.1)
  have BK := hide (fun (w9 : World) g => backD s14 s22 false s20 a14 a22 a15 a20 n14 n22 n15 n20 c14 c22 c15 c20 (X.fdiv Y) Y (X.fmod Y) X w9 (V.out.2.2.1.gr g) (V.out.2.1.gr g) (V.out.2.2.2.gr g) (V.out.1.gr g) FF.out.2.2.2.2 FF.out.2.2.1)
  generalize (w8.alloc (.cells #[.bool s14, .slice a14 n14 c14] 25)).alloc (.cells #[.bool false, .slice a15 n15 c15] 25) = w10 at *
  clear V UU FF FL
  go_wp2_with (first | (go_at_call 10; (with_reducible refine NR.out.mono ?_); rintro r w11 ⟨rfl, gN⟩; have BK2 := hide (BK.out w11 gN); replace H10 := keepO gN H10; replace H12 := keepO gN H12; replace H14 := keepO gN H14; replace H15 := keepO gN H15; replace GW := GW.trans gN; clear x10 y10 x12 y12 x14 y14 x15 y15 gN BK; obtain ⟨x10, y10⟩ := bx2 H10; obtain ⟨x12, y12⟩ := bx2 H12; obtain ⟨x14, y14⟩ := bx2 H14; obtain ⟨x15, y15⟩ := bx2 H15) | (go_at_call 11; (with_reducible refine BK2.out.mono ?_); rintro r w12 ⟨rfl, gN⟩))
  go_ret
  exact ⟨rfl, GW.trans gN⟩
end Go.Proofs.YtobceegpcimdgaaDoor
